import PyProof.Rows.All
import Wide.All
import OpenK.AllK
import Wide.FinOn
import HandS.ForMost
import HandS.ForExc
import HandS.Evl
import HandS.Wide
import HandS.IsInst
import HandS.Style
import HandS.RevRange
import HandS.Walk
import KE.GoesMore
import KE.GoesZip
import KE.GoesEnum
import HandS.EndBits
import HandS.WideBits
import HandS.NoneIn
import HandS.StrMore
import PyProof.Rows.StrJoinRep
import PyProof.Rows.SortShellAny
import HandS.Star
import HandS.TupAny
import HandS.Conv
import PyProof.TupleOfSeq
import HandS.ExcValue
import HandS.ExcOwn
import HandS.ExcIs
import HandS.WordsExc
import PySem.Challenge.RW_clockless_k30_compact_covers
set_option Elab.async false
set_option linter.all false
set_option maxRecDepth 100000
set_option maxHeartbeats 4000000

/-! CxBase: data in the heap, judgements that leave data, statements by a control tree of their own. -/
namespace Cx
open PySem L2 Evl

/-- the heap without what a def owns -/
def mn (H : Hp) (ps : List Addr) : Hp := fun a => if a ∈ ps then none else H a
theorem mn_ex {H : Hp} {ps : List Addr} : Ex (mn H ps) H := fun a o e => by
  unfold mn at e
  by_cases h : a ∈ ps
  · rw [if_pos h] at e; cases e
  · rw [if_neg h] at e; exact e
theorem mn_at {H : Hp} {ps : List Addr} {a : Addr} {o : HO} (e : H a = some o) (h : a ∉ ps) : mn H ps a = some o := by
  unfold mn; rw [if_neg h]; exact e
theorem mn_notin {H : Hp} {ps : List Addr} {a : Addr} {o : HO} (e : mn H ps a = some o) : a ∉ ps := fun h => by
  unfold mn at e; rw [if_pos h] at e; cases e
theorem mn_mono {H H' : Hp} {ps : List Addr} (e : Ex H H') : Ex (mn H ps) (mn H' ps) := fun a o h =>
  mn_at (e a o (mn_ex a o h)) (mn_notin h)
theorem mn_le {H : Hp} {ps ps' : List Addr} (h : ∀ a ∈ ps', a ∈ ps) : Ex (mn H ps) (mn H ps') := fun a o e =>
  mn_at (mn_ex a o e) (fun q => mn_notin e (h a q))
theorem mn_upd {H : Hp} {ps : List Addr} {p : Addr} {o : HO} (h : p ∈ ps) : mn (upd H p o) ps = mn H ps := by
  funext a
  unfold mn
  by_cases q : a ∈ ps
  · rw [if_pos q, if_pos q]
  · rw [if_neg q, if_neg q, upd_ne (fun e => q (by rw [e]; exact h))]
/-- a fresh owned one -/
theorem mn_new {H H' : Hp} {ps : List Addr} {p : Addr} (e : Ex H H') (hp : H p = none) : Ex (mn H ps) (mn H' (p :: ps)) := fun a o h =>
  mn_at (e a o (mn_ex a o h)) (fun q => by
    obtain q | q := List.mem_cons.mp q
    · rw [q] at h; have := mn_ex _ _ h; rw [hp] at this; cases this
    · exact mn_notin h q)
theorem mn_nil {H : Hp} : mn H [] = H := by
  funext a; unfold mn; rw [if_neg (by simp)]

/-! ### data -/
class Rep (α : Type) where
  rep : PySem.W.Frag → Hp → V → α → Prop
  mono : ∀ {K : PySem.W.Frag} {H H' : Hp} {v : V} {x : α}, Ex H H' → rep K H v x → rep K H' v x
open Rep (rep)
instance : Rep Int := ⟨fun _ _ v x => v = .int x, fun _ h => h⟩
instance : Rep Bool := ⟨fun _ _ v x => v = .bl x, fun _ h => h⟩
abbrev Tx := List Nat
def tS (x : Tx) : Str := ⟨x.toArray⟩
/-- a text's signs are ASCII -/
def Asc (x : Tx) : Prop := ∀ c ∈ x, c < 128
instance {x : Tx} : Decidable (Asc x) := inferInstanceAs (Decidable (∀ c ∈ x, c < 128))
theorem Asc.app {x y : Tx} (a : Asc x) (b : Asc y) : Asc (x ++ y) := fun c h => (List.mem_append.mp h).elim (a c) (b c)
theorem Asc.take {x : Tx} (a : Asc x) (n : Nat) : Asc (x.take n) := fun c h => a c (List.mem_of_mem_take h)
theorem Asc.drop {x : Tx} (a : Asc x) (n : Nat) : Asc (x.drop n) := fun c h => a c (List.mem_of_mem_drop h)
theorem Asc.one {x : Tx} (a : Asc x) {c : Nat} (h : c ∈ x) : Asc [c] := fun d q => by
  cases List.mem_singleton.mp q; exact a c h
instance : Rep Tx := ⟨fun _ _ v x => v = .str (tS x) ∧ Asc x, fun _ h => h⟩
instance : Rep Unit := ⟨fun _ _ v _ => v = .non, fun _ h => h⟩
instance {α : Type} [Rep α] : Rep (Option α) := ⟨fun K H v x => match x with | none => v = .non | some y => rep K H v y ∧ v ≠ .non, fun {K H H' v x} e h => by
  cases x with
  | none => exact h
  | some y => exact ⟨Rep.mono e h.1, h.2⟩⟩
inductive Reps {α : Type} [Rep α] (K : PySem.W.Frag) (H : Hp) : List V → List α → Prop where
  | nil : Reps K H [] []
  | cons {v : V} {x : α} {vs : List V} {xs : List α} : rep K H v x → Reps K H vs xs → Reps K H (v :: vs) (x :: xs)
section
variable {α : Type} [Rep α] {K : PySem.W.Frag} {H H' : Hp}
theorem Reps.mono (e : Ex H H') : ∀ {vs : List V} {xs : List α}, Reps K H vs xs → Reps K H' vs xs
  | _, _, .nil => .nil
  | _, _, .cons r t => .cons (Rep.mono e r) (t.mono e)
theorem Reps.length : ∀ {vs : List V} {xs : List α}, Reps K H vs xs → vs.length = xs.length
  | _, _, .nil => rfl
  | _, _, .cons _ t => by rw [List.length_cons, List.length_cons, t.length]
theorem Reps.get : ∀ {vs : List V} {xs : List α} {i : Nat} {v : V}, Reps K H vs xs → vs[i]? = some v → ∃ x, xs[i]? = some x ∧ rep K H v x
  | _, _, i, _, .nil, e => by simp at e
  | _, _, 0, _, .cons r _, e => ⟨_, rfl, Option.some.inj e ▸ r⟩
  | _, _, i + 1, _, .cons _ t, e => t.get (i := i) (by simpa using e)
theorem Reps.get' : ∀ {vs : List V} {xs : List α} {i : Nat} {x : α}, Reps K H vs xs → xs[i]? = some x → ∃ v, vs[i]? = some v ∧ rep K H v x
  | _, _, i, _, .nil, e => by simp at e
  | _, _, 0, _, .cons r _, e => ⟨_, rfl, Option.some.inj e ▸ r⟩
  | _, _, i + 1, _, .cons _ t, e => t.get' (i := i) (by simpa using e)
theorem Reps.append : ∀ {vs ws : List V} {xs ys : List α}, Reps K H vs xs → Reps K H ws ys → Reps K H (vs ++ ws) (xs ++ ys)
  | _, _, _, _, .nil, s => s
  | _, _, _, _, .cons r t, s => .cons r (t.append s)
theorem Reps.take : ∀ {vs : List V} {xs : List α} (n : Nat), Reps K H vs xs → Reps K H (vs.take n) (xs.take n)
  | _, _, 0, _ => .nil
  | _, _, _ + 1, .nil => .nil
  | _, _, n + 1, .cons r t => .cons r (t.take n)
theorem Reps.drop : ∀ {vs : List V} {xs : List α} (n : Nat), Reps K H vs xs → Reps K H (vs.drop n) (xs.drop n)
  | _, _, 0, r => r
  | _, _, _ + 1, .nil => .nil
  | _, _, n + 1, .cons _ t => t.drop n
theorem Reps.set {v : V} {x : α} (new : rep K H v x) : ∀ {vs : List V} {xs : List α} (i : Nat), Reps K H vs xs → Reps K H (vs.set i v) (xs.set i x)
  | _, _, _, .nil => .nil
  | _, _, 0, .cons _ t => .cons new t
  | _, _, i + 1, .cons q t => .cons q (t.set new i)
theorem Reps.reverse : ∀ {vs : List V} {xs : List α}, Reps K H vs xs → Reps K H vs.reverse xs.reverse
  | _, _, .nil => .nil
  | _, _, .cons r t => by
    simp only [List.reverse_cons]
    exact t.reverse.append (.cons r .nil)
end
instance {α : Type} [Rep α] : Rep (List α) := ⟨fun K H v x => ∃ a vs, v = .ref a ∧ H a = some (.lst vs) ∧ Reps K H vs x, fun e ⟨a, vs, h1, h2, h3⟩ => ⟨a, vs, h1, e a _ h2, h3.mono e⟩⟩
/-- a tuple of any length, its items of one kind -/
structure Tp (α : Type) where
  l : List α
deriving DecidableEq
instance {α : Type} : Inhabited (Tp α) := ⟨⟨[]⟩⟩
instance {α : Type} [Rep α] : Rep (Tp α) := ⟨fun K H v x => ∃ a vs, v = .ref a ∧ H a = some (.tup vs) ∧ Reps K H vs x.l, fun e ⟨a, vs, h1, h2, h3⟩ => ⟨a, vs, h1, e a _ h2, h3.mono e⟩⟩
/-- several values, each of its own kind -/
class RepA (A : Type) where
  repA : PySem.W.Frag → Hp → List V → A → Prop
  monoA : ∀ {K : PySem.W.Frag} {H H' : Hp} {vs : List V} {x : A}, Ex H H' → repA K H vs x → repA K H' vs x
open RepA (repA)
instance : RepA Unit := ⟨fun _ _ vs _ => vs = [], fun _ h => h⟩
instance {α A : Type} [Rep α] [RepA A] : RepA (α × A) := ⟨fun K H vs x => ∃ v r, vs = v :: r ∧ rep K H v x.1 ∧ repA K H r x.2, fun e ⟨v, r, h1, h2, h3⟩ => ⟨v, r, h1, Rep.mono e h2, RepA.monoA e h3⟩⟩
/-- a tuple of a written length -/
structure T (A : Type) where
  t : A
deriving DecidableEq
instance {A : Type} [Inhabited A] : Inhabited (T A) := ⟨⟨default⟩⟩
instance {A : Type} [RepA A] : Rep (T A) := ⟨fun K H v x => ∃ a vs, v = .ref a ∧ H a = some (.tup vs) ∧ repA K H vs x.t, fun e ⟨a, vs, h1, h2, h3⟩ => ⟨a, vs, h1, e a _ h2, RepA.monoA e h3⟩⟩
/-- the script: a list of ints that is read -/
structure Scr where
  l : List Int
instance : Rep Scr := ⟨fun K H v x => ∃ a, v = .ref a ∧ SqL K H a (x.l.map V.int), fun e ⟨a, h1, h2⟩ => ⟨a, h1, ex_l e h2⟩⟩

/-! ### what evaluates to data; ps: what is owned -/
def Dm (H : Hp) (ps : List Addr) : Prop := ∀ p ∈ ps, H p ≠ none
theorem Dm.mono {H H' : Hp} {ps : List Addr} (d : Dm H ps) (e : Ex H H') : Dm H' ps := fun p hp h => by
  cases q : H p with
  | none => exact d p hp q
  | some o => rw [e p o q] at h; cases h
theorem Dm.notin {H : Hp} {ps : List Addr} {p : Addr} (d : Dm H ps) (h : H p = none) : p ∉ ps := fun q => d p q h
def ER {α : Type} [Rep α] (K : PySem.W.Frag) (ps : List Addr) (te : TE) (σ : L2.St) (H : Hp) (x : α) : Prop :=
  ∀ H1, Ex H H1 → Dm H1 ps → ∀ Q : VK, (∀ v H2, Ex H1 H2 → rep K (mn H2 ps) v x → Q v H2) → te σ H1 Q
def EAs {A : Type} [RepA A] (K : PySem.W.Frag) (ps : List Addr) (ta : TA) (σ : L2.St) (H : Hp) (x : A) : Prop :=
  ∀ H1, Ex H H1 → Dm H1 ps → ∀ Q : List V → Hp → Prop, (∀ vs H2, Ex H1 H2 → repA K (mn H2 ps) vs x → Q vs H2) → ta σ H1 Q
/-- a test -/
def ET (ps : List Addr) (tt : TT) (σ : L2.St) (H : Hp) (b : Bool) : Prop :=
  ∀ H1, Ex H H1 → Dm H1 ps → ∀ Q : Bool → Hp → Prop, (∀ H2, Ex H1 H2 → Q b H2) → tt σ H1 Q
/-- a slot -/
def Sl {α : Type} [Rep α] (K : PySem.W.Frag) (ps : List Addr) (σ : L2.St) (H : Hp) (i : Nat) (x : α) : Prop := ∃ v, σ[i]? = some (some v) ∧ rep K (mn H ps) v x
section
variable {K : PySem.W.Frag} {ps : List Addr} {σ : L2.St} {H H' : Hp} {te ta tb : TE} {α β γ : Type} [Rep α] [Rep β] [Rep γ]
theorem ER.to {x : α} (h : ER K ps te σ H x) (e : Ex H H') : ER K ps te σ H' x := fun H1 a d Q q => h H1 (e.trans a) d Q q
theorem ER.is {x y : α} (h : ER K ps te σ H x) (e : x = y) : ER K ps te σ H y := e ▸ h
theorem ET.to {b : Bool} {t : TT} (h : ET ps t σ H b) (e : Ex H H') : ET ps t σ H' b := fun H1 a d Q q => h H1 (e.trans a) d Q q
theorem er_var {i : Nat} {x : α} (h : Sl K ps σ H i x) : ER K ps (tVar i) σ H x := fun H1 e _ Q q => by
  obtain ⟨v, hv, r⟩ := h
  exact ⟨v, hv, q v H1 (Ex.refl _) (Rep.mono (mn_mono e) r)⟩
theorem er_c {v : V} {x : α} (h : ∀ H, rep K H v x) : ER K ps (tC v) σ H x := fun H1 _ _ Q q => q v H1 (Ex.refl _) (h _)
theorem er_int {i : Int} : ER K ps (tC (.int i)) σ H i := er_c fun _ => rfl
theorem er_bl {b : Bool} : ER K ps (tC (.bl b)) σ H b := er_c fun _ => rfl
def lit (s : Str) : Tx := s.cps.toList
theorem tS_lit (s : Str) : tS (lit s) = s := rfl
theorem er_str {s : Str} (h : Asc (lit s) := by decide +kernel) : ER K ps (tC (.str s)) σ H (lit s) := er_c fun _ => ⟨rfl, h⟩
theorem er_none : ER K ps (tC .non) σ H (none : Option α) := er_c fun _ => rfl
theorem er_unit : ER K ps (tC .non) σ H () := er_c fun _ => rfl
theorem er_op {r : R2} {x : α} {y : β} {z : γ} (ha : ER K ps ta σ H x) (hb : ER K ps tb σ H y)
    (hr : ∀ v w H1, Dm H1 ps → rep K (mn H1 ps) v x → rep K (mn H1 ps) w y → ∀ Q : VK, (∀ u H2, Ex H1 H2 → rep K (mn H2 ps) u z → Q u H2) → r v w H1 Q) : ER K ps (tOp r ta tb) σ H z := fun H1 e d Q q =>
  ha H1 e d _ fun v H2 e2 r2 => hb H2 (e.trans e2) (d.mono e2) _ fun w H3 e3 r3 => hr v w H3 (d.mono (e2.trans e3)) (Rep.mono (mn_mono e3) r2) r3 Q fun u H4 e4 r4 => q u H4 ((e2.trans e3).trans e4) r4
theorem er_un {r : V → Hp → VK → Prop} {x : α} {z : γ} (ha : ER K ps ta σ H x)
    (hr : ∀ v H1, Dm H1 ps → rep K (mn H1 ps) v x → ∀ Q : VK, (∀ u H2, Ex H1 H2 → rep K (mn H2 ps) u z → Q u H2) → r v H1 Q) : ER K ps (tUn r ta) σ H z := fun H1 e d Q q =>
  ha H1 e d _ fun v H2 e2 r2 => hr v H2 (d.mono e2) r2 Q fun u H4 e4 r4 => q u H4 (e2.trans e4) r4
/-- ints -/
theorem er_I0 {g : Int → Int → V} {i j : Int} {z : γ} (ha : ER K ps ta σ H i) (hb : ER K ps tb σ H j) (hz : ∀ H, rep K H (g i j) z) : ER K ps (tOp (rI0 g) ta tb) σ H z :=
  er_op ha hb fun _ _ H1 _ r1 r2 Q q => ⟨i, j, r1, r2, q _ H1 (Ex.refl _) (hz _)⟩
theorem er_I {C : Int → Int → Prop} {g : Int → Int → V} {i j : Int} {z : γ} (ha : ER K ps ta σ H i) (hb : ER K ps tb σ H j) (hc : C i j) (hz : ∀ H, rep K H (g i j) z) : ER K ps (tOp (rI C g) ta tb) σ H z :=
  er_op ha hb fun _ _ H1 _ r1 r2 Q q => ⟨i, j, r1, r2, hc, q _ H1 (Ex.refl _) (hz _)⟩
theorem er_add {i j : Int} (ha : ER K ps ta σ H i) (hb : ER K ps tb σ H j) : ER K ps (tOp (rI0 fun i j => .int (i + j)) ta tb) σ H (i + j) := er_I0 ha hb fun _ => rfl
theorem er_sub {i j : Int} (ha : ER K ps ta σ H i) (hb : ER K ps tb σ H j) : ER K ps (tOp (rI0 fun i j => .int (i - j)) ta tb) σ H (i - j) := er_I0 ha hb fun _ => rfl
theorem er_mul {i j : Int} (ha : ER K ps ta σ H i) (hb : ER K ps tb σ H j) (hc : CMulW i j) : ER K ps (tOp (rI CMulW fun i j => .int (i * j)) ta tb) σ H (i * j) := er_I ha hb hc fun _ => rfl
theorem er_fdiv {i j : Int} (ha : ER K ps ta σ H i) (hb : ER K ps tb σ H j) (hc : CDivW i j) : ER K ps (tOp (rI CDivW fun i j => .int (i / j)) ta tb) σ H (i / j) := er_I ha hb hc fun _ => rfl
theorem er_mod {i j : Int} (ha : ER K ps ta σ H i) (hb : ER K ps tb σ H j) (hc : 0 < j) : ER K ps (tOp (rI (fun _ j => 0 < j) fun i j => .int (i % j)) ta tb) σ H (i % j) := er_I ha hb hc fun _ => rfl
theorem er_pow {i j : Int} (ha : ER K ps ta σ H i) (hb : ER K ps tb σ H j) (hc : CPow i j) : ER K ps (tOp (rI CPow fun i j => .int (i ^ j.toNat)) ta tb) σ H (i ^ j.toNat) := er_I ha hb hc fun _ => rfl
theorem er_lt {i j : Int} (ha : ER K ps ta σ H i) (hb : ER K ps tb σ H j) : ER K ps (tOp (rI0 fun i j => .bl (decide (i < j))) ta tb) σ H (decide (i < j)) := er_I0 ha hb fun _ => rfl
theorem er_le {i j : Int} (ha : ER K ps ta σ H i) (hb : ER K ps tb σ H j) : ER K ps (tOp (rI0 fun i j => .bl (decide (i ≤ j))) ta tb) σ H (decide (i ≤ j)) := er_I0 ha hb fun _ => rfl
theorem er_gt {i j : Int} (ha : ER K ps ta σ H i) (hb : ER K ps tb σ H j) : ER K ps (tOp (rI0 fun i j => .bl (decide (j < i))) ta tb) σ H (decide (j < i)) := er_I0 ha hb fun _ => rfl
theorem er_ge {i j : Int} (ha : ER K ps ta σ H i) (hb : ER K ps tb σ H j) : ER K ps (tOp (rI0 fun i j => .bl (decide (j ≤ i))) ta tb) σ H (decide (j ≤ i)) := er_I0 ha hb fun _ => rfl
theorem er_neg {i : Int} (ha : ER K ps ta σ H i) : ER K ps (tUn (rU fun i => .int (-i)) ta) σ H (-i) := er_un ha fun _ H1 _ r1 Q q => ⟨i, r1, q _ H1 (Ex.refl _) rfl⟩
def eqB {α : Type} [DecidableEq α] (x y : α) : Bool := decide (x = y)
/-- == and != of ints, texts, bools -/
theorem tS_inj {x y : Tx} (h : tS x = tS y) : x = y := by
  have := congrArg (fun z : Str => z.cps.toList) h
  simpa [tS] using this
class Flat (α : Type) [Rep α] [DecidableEq α] where
  inj : ∀ {K : PySem.W.Frag} {H : Hp} {v w : V} {x y : α}, rep K H v x → rep K H w y → scal v w = true ∧ (v = w ↔ x = y)
  un : ∀ {K K' : PySem.W.Frag} {H H' : Hp} {v w : V} {x : α}, rep K H v x → rep K' H' w x → v = w
instance : Flat Int := ⟨fun h1 h2 => by
  cases h1; cases h2; exact ⟨rfl, ⟨fun e => by cases e; rfl, fun e => by rw [e]⟩⟩, fun h1 h2 => h1.trans h2.symm⟩
instance : Flat Bool := ⟨fun h1 h2 => by
  cases h1; cases h2; exact ⟨rfl, ⟨fun e => by cases e; rfl, fun e => by rw [e]⟩⟩, fun h1 h2 => h1.trans h2.symm⟩
instance : Flat Tx := ⟨fun {_ _ v w x y} h1 h2 => by
  have h1 : v = .str (tS x) := h1.1
  have h2 : w = .str (tS y) := h2.1
  subst h1; subst h2; exact ⟨rfl, ⟨fun e => tS_inj (V.str.inj e), fun e => by rw [e]⟩⟩, fun h1 h2 => Eq.trans h1.1 (Eq.symm h2.1)⟩
theorem er_eq [DecidableEq α] [Flat α] {x y : α} (ha : ER K ps ta σ H x) (hb : ER K ps tb σ H y) : ER K ps (tOp rEq ta tb) σ H (eqB x y) :=
  er_op ha hb fun v w H1 _ r1 r2 Q q => by
    obtain ⟨h1, h2⟩ := Flat.inj r1 r2
    refine ⟨h1, ?_⟩
    rw [decide_eq_decide.mpr h2]
    exact q _ H1 (Ex.refl _) rfl
theorem er_ne [DecidableEq α] [Flat α] {x y : α} (ha : ER K ps ta σ H x) (hb : ER K ps tb σ H y) : ER K ps (tOp rNe ta tb) σ H (!eqB x y) :=
  er_op ha hb fun v w H1 _ r1 r2 Q q => by
    obtain ⟨h1, h2⟩ := Flat.inj r1 r2
    refine ⟨h1, ?_⟩
    rw [decide_eq_decide.mpr h2]
    exact q _ H1 (Ex.refl _) rfl

/-! ### tests -/
theorem et_val {b : Bool} (h : ER K ps te σ H b) : ET ps (tB te) σ H b := fun H1 e d Q q => h H1 e d _ fun v H2 e2 r => ⟨b, r, q H2 e2⟩
theorem et_cmp {b : Bool} (h : ER K ps te σ H b) : ET ps (tTest te) σ H b := fun H1 e d Q q => h H1 e d _ fun v H2 e2 r => ⟨b, r, q H2 e2⟩
theorem et_not {b : Bool} {t : TT} (h : ET ps t σ H b) : ET ps (tNot t) σ H (!b) := fun H1 e d Q q => h H1 e d _ fun H2 e2 => q H2 e2
theorem et_and {a b : Bool} {t u : TT} (h1 : ET ps t σ H a) (h2 : a = true → ET ps u σ H b) : ET ps (tAnd t u) σ H (a && b) := fun H1 e d Q q => h1 H1 e d _ fun H2 e2 => by
  cases a with
  | true => exact h2 rfl H2 (e.trans e2) (d.mono e2) Q fun H3 e3 => q H3 (e2.trans e3)
  | false => exact q H2 e2
theorem et_or {a b : Bool} {t u : TT} (h1 : ET ps t σ H a) (h2 : a = false → ET ps u σ H b) : ET ps (tOr t u) σ H (a || b) := fun H1 e d Q q => h1 H1 e d _ fun H2 e2 => by
  cases a with
  | false => exact h2 rfl H2 (e.trans e2) (d.mono e2) Q fun H3 e3 => q H3 (e2.trans e3)
  | true => exact q H2 e2
theorem er_and {a b : Bool} (h1 : ER K ps ta σ H a) (h2 : a = true → ER K ps tb σ H b) : ER K ps (tAndV ta tb) σ H (a && b) := fun H1 e d Q q => h1 H1 e d _ fun v H2 e2 r => ⟨a, r, by
  cases a with
  | true => exact h2 rfl H2 (e.trans e2) (d.mono e2) Q fun w H3 e3 r3 => q w H3 (e2.trans e3) r3
  | false => exact q _ H2 e2 rfl⟩
theorem er_or {a b : Bool} (h1 : ER K ps ta σ H a) (h2 : a = false → ER K ps tb σ H b) : ER K ps (tOrV ta tb) σ H (a || b) := fun H1 e d Q q => h1 H1 e d _ fun v H2 e2 r => ⟨a, r, by
  cases a with
  | false => exact h2 rfl H2 (e.trans e2) (d.mono e2) Q fun w H3 e3 r3 => q w H3 (e2.trans e3) r3
  | true => exact q _ H2 e2 rfl⟩
theorem er_not {a : Bool} (h1 : ER K ps ta σ H a) : ER K ps (tNotV ta) σ H (!a) := fun H1 e d Q q => h1 H1 e d _ fun v H2 e2 r => ⟨a, r, q _ H2 e2 rfl⟩
theorem er_ite {b : Bool} {t : TT} {x y : α} (h : ET ps t σ H b) (h1 : b = true → ER K ps ta σ H x) (h2 : b = false → ER K ps tb σ H y) : ER K ps (tIf t ta tb) σ H (if b then x else y) := fun H1 e d Q q => h H1 e d _ fun H2 e2 => by
  cases b with
  | true => exact h1 rfl H2 (e.trans e2) (d.mono e2) Q fun w H3 e3 r3 => q w H3 (e2.trans e3) r3
  | false => exact h2 rfl H2 (e.trans e2) (d.mono e2) Q fun w H3 e3 r3 => q w H3 (e2.trans e3) r3
/-! ### several values -/
theorem ea_nil : EAs K ps tNil σ H () := fun H1 _ _ Q q => q [] H1 (Ex.refl _) rfl
theorem ea_cons {A : Type} [RepA A] {tr : TA} {x : α} {y : A} (h : ER K ps te σ H x) (hr : EAs K ps tr σ H y) : EAs K ps (tCons te tr) σ H (x, y) := fun H1 e d Q q =>
  h H1 e d _ fun v H2 e2 r => hr H2 (e.trans e2) (d.mono e2) _ fun vs H3 e3 r3 => q (v :: vs) H3 (e2.trans e3) ⟨v, vs, rfl, Rep.mono (mn_mono e3) r, r3⟩
theorem repA_len_aux : True := trivial
/-- a new object that holds data -/
theorem new_lst {vs : List V} {xs : List α} {p : Addr} (d : Dm H ps) (hp : H p = none) (r : Reps K (mn H ps) vs xs) : rep K (mn (upd H p (.lst vs)) ps) (.ref p) xs :=
  ⟨p, vs, rfl, mn_at upd_same (d.notin hp), r.mono (mn_mono (Ex.new hp))⟩
theorem new_tp {vs : List V} {xs : List α} {p : Addr} (d : Dm H ps) (hp : H p = none) (r : Reps K (mn H ps) vs xs) : rep K (mn (upd H p (.tup vs)) ps) (.ref p) (⟨xs⟩ : Tp α) :=
  ⟨p, vs, rfl, mn_at upd_same (d.notin hp), r.mono (mn_mono (Ex.new hp))⟩
theorem new_tup {A : Type} [RepA A] {vs : List V} {x : A} {p : Addr} (d : Dm H ps) (hp : H p = none) (r : repA K (mn H ps) vs x) : rep K (mn (upd H p (.tup vs)) ps) (.ref p) (⟨x⟩ : T A) :=
  ⟨p, vs, rfl, mn_at upd_same (d.notin hp), RepA.monoA (mn_mono (Ex.new hp)) r⟩
/-- (a, b, ..) -/
theorem er_tup {A : Type} [RepA A] {ta : TA} {x : A} (h : EAs K ps ta σ H x) (hl : ∀ K H vs, repA K H vs x → vs.length ≤ 1000) : ER K ps (tTup ta) σ H (⟨x⟩ : T A) := fun H1 e d Q q =>
  h H1 e d _ fun vs H2 e2 r => ⟨Nat.le_of_lt (small1000 (hl _ _ _ r)), fun p hp => q _ _ (e2.trans (Ex.new hp)) (new_tup (d.mono e2) hp r)⟩
/-- items of one kind -/
def EL (K : PySem.W.Frag) (ps : List Addr) (ta : TA) (σ : L2.St) (H : Hp) (x : List α) : Prop :=
  ∀ H1, Ex H H1 → Dm H1 ps → ∀ Q : List V → Hp → Prop, (∀ vs H2, Ex H1 H2 → Reps K (mn H2 ps) vs x → Q vs H2) → ta σ H1 Q
theorem el_nil : EL K ps tNil σ H ([] : List α) := fun H1 _ _ Q q => q [] H1 (Ex.refl _) .nil
theorem el_cons {tr : TA} {x : α} {y : List α} (h : ER K ps te σ H x) (hr : EL K ps tr σ H y) : EL K ps (tCons te tr) σ H (x :: y) := fun H1 e d Q q =>
  h H1 e d _ fun v H2 e2 r => hr H2 (e.trans e2) (d.mono e2) _ fun vs H3 e3 r3 => q (v :: vs) H3 (e2.trans e3) (.cons (Rep.mono (mn_mono e3) r) r3)
theorem er_lst {ta : TA} {x : List α} (h : EL K ps ta σ H x) (hl : x.length ≤ 1000) : ER K ps (tLst ta) σ H x := fun H1 e d Q q =>
  h H1 e d _ fun vs H2 e2 r => ⟨Nat.le_of_lt (small1000 (by rw [r.length]; exact hl)), fun p hp => q _ _ (e2.trans (Ex.new hp)) (new_lst (d.mono e2) hp r)⟩
theorem er_tpl {ta : TA} {x : List α} (h : EL K ps ta σ H x) (hl : x.length ≤ 1000) : ER K ps (tTup ta) σ H (⟨x⟩ : Tp α) := fun H1 e d Q q =>
  h H1 e d _ fun vs H2 e2 r => ⟨Nat.le_of_lt (small1000 (by rw [r.length]; exact hl)), fun p hp => q _ _ (e2.trans (Ex.new hp)) (new_tp (d.mono e2) hp r)⟩
end
end Cx

/-! CxExpr: subscripts, slices, texts, lists, membership, deep equality, built-ins, calls: what they leave, as data. -/
namespace Cx
open PySem L2 Evl
open Rep (rep)
open RepA (repA)

def memB {α : Type} [DecidableEq α] (x : α) (l : List α) : Bool := decide (x ∈ l)
theorem tS_len (x : Tx) : (tS x).length = x.length := by simp [tS, Str.length]
theorem tS_app (x y : Tx) : tS x ++ tS y = tS (x ++ y) := by
  show (⟨x.toArray ++ y.toArray⟩ : Str) = ⟨(x ++ y).toArray⟩
  rw [List.append_toArray]
theorem tS_cps (x : Tx) : (tS x).cps.toList = x := by simp [tS]
theorem tS_map (xs : List Tx) : True := trivial

/-! ### the readings by name -/
def rCatS : R2 := fun v w H Q => ∃ x y, v = .str x ∧ w = .str y ∧ x.length + y.length ≤ sizeLine ∧ Q (.str (x ++ y)) H
theorem op_catS {X : L2.Cx} : OpR X (binaryOp .Add) rCatS := op_add_str
def rIsNo : R2 := fun x y H Q => y = .non ∧ Q (.bl (decide (x = .non))) H
theorem op_isNo {X : L2.Cx} : OpR X (compareOp .Is) rIsNo := op_isN
def rNotNo : R2 := fun x y H Q => y = .non ∧ Q (.bl (!decide (x = .non))) H
theorem op_notNo {X : L2.Cx} : OpR X (compareOp .IsNot) rNotNo := op_notN
def rLenQ (K : PySem.W.Frag) : List V → Hp → VK → Prop := fun xs H Q => ∃ p ys, xs = [.ref p] ∧ (SqL K H p ys ∨ SqT K H p ys) ∧ Q (.int ys.length) H
theorem cb_lenQ {X : L2.Cx} : CallR X (.builtin "len") (rLenQ X.K) := call_len_seq
def rLenT : List V → Hp → VK → Prop := fun xs H Q => ∃ z : Str, xs = [.str z] ∧ z.length ≤ sizeLine ∧ Q (.int z.length) H
theorem cb_lenT {X : L2.Cx} : CallR X (.builtin "len") rLenT := call_len_str
def rIntOf : List V → Hp → VK → Prop := fun xs H Q => (∃ i, xs = [.int i] ∧ Q (.int i) H) ∨ ∃ k, xs = [.bl k] ∧ Q (.int (if k then 1 else 0)) H
theorem ct_int {X : L2.Cx} : CallR X (.type "int") rIntOf := call_int1
def rListOf (K : PySem.W.Frag) : List V → Hp → VK → Prop := fun xs H Q => ∃ p ys, xs = [.ref p] ∧ (SqL K H p ys ∨ SqT K H p ys) ∧ ∀ l, H l = none → Q (.ref l) (upd H l (.lst ys))
theorem ct_list {X : L2.Cx} : CallR X (.type "list") (rListOf X.K) := call_list_of
def rTupOf (K : PySem.W.Frag) : List V → Hp → VK → Prop := fun xs H Q => ∃ p ys, xs = [.ref p] ∧ ((SqL K H p ys ∧ ∀ l, H l = none → Q (.ref l) (upd H l (.tup ys))) ∨ (SqT K H p ys ∧ Q (.ref p) H))
theorem ct_tuple {X : L2.Cx} : CallR X (.type "tuple") (rTupOf X.K) := call_tuple_of
def rStrI : List V → Hp → VK → Prop := fun xs H Q => ∃ i : Int, xs = [.int i] ∧ i.natAbs.log2 < 1920 ∧ Q (.str (toString i)) H
theorem ct_strI {X : L2.Cx} : CallR X (.type "str") rStrI := call_str_int
def rJoin (K : PySem.W.Frag) : V → List V → Hp → VK → Prop := fun x xs H Q => ∃ a p, ∃ ys : List Str, x = .str a ∧ xs = [.ref p] ∧ (SqL K H p (ys.map V.str) ∨ SqT K H p (ys.map V.str)) ∧
      (ys.map (·.length)).sum + ys.length * a.length ≤ 16777216 ∧ Q (.str (Txt.join a ys)) H
def rCountS : V → List V → Hp → VK → Prop := fun x xs H Q => ∃ a b, x = .str a ∧ xs = [.str b] ∧ Q (.int (Txt.count a b)) H

section
variable {K : PySem.W.Frag} {ps : List Addr} {σ : L2.St} {H H' : Hp} {te ta tb : TE} {α β γ : Type} [Rep α] [Rep β] [Rep γ]

/-! ### places -/
def ixD {α : Type} [Inhabited α] (l : List α) (i : Int) : α := (atI l i).getD default
/-- the place is there -/
def inB {α : Type} (l : List α) (i : Int) : Prop := -(l.length : Int) ≤ i ∧ i < l.length
theorem inB_some {α : Type} {l : List α} {i : Int} (h : inB l i) : ∃ j, ixN l.length i = some j ∧ j < l.length := by
  obtain ⟨h1, h2⟩ := h
  unfold ixN
  by_cases h0 : 0 ≤ i
  · rw [if_pos h0, if_pos h2]; exact ⟨_, rfl, by omega⟩
  · rw [if_neg h0, if_pos h1]; exact ⟨_, rfl, by omega⟩
theorem atI_some {α : Type} [Inhabited α] {l : List α} {i : Int} (h : inB l i) : ∃ j x, ixN l.length i = some j ∧ l[j]? = some x ∧ ixD l i = x := by
  obtain ⟨j, e, hj⟩ := inB_some h
  refine ⟨j, l[j], e, List.getElem?_eq_getElem hj, ?_⟩
  unfold ixD atI
  rw [e]
  show (l[j]?).getD default = l[j]
  rw [List.getElem?_eq_getElem hj]; rfl
theorem ix_rep [Inhabited α] {vs : List V} {l : List α} {i : Int} (r : Reps K H vs l) (h : inB l i) : ∃ v, atI vs i = some v ∧ rep K H v (ixD l i) := by
  obtain ⟨j, x, e, hx, hd⟩ := atI_some h
  obtain ⟨v, hv, rv⟩ := r.get' hx
  refine ⟨v, ?_, by rw [hd]; exact rv⟩
  unfold atI
  rw [r.length, e]
  exact hv
theorem er_ixL [Inhabited α] {l : List α} {i : Int} (ha : ER K ps ta σ H l) (hb : ER K ps tb σ H i) (h : inB l i) : ER K ps (tOp (rIxL K) ta tb) σ H (ixD l i) :=
  er_op ha hb fun v w H1 _ r1 r2 Q q => by
    obtain ⟨a, vs, rfl, hl, r⟩ := r1
    obtain ⟨x, hx, rx⟩ := ix_rep r h
    exact ⟨a, vs, i, x, rfl, r2, sq_of (mn_ex _ _ hl), hx, q x H1 (Ex.refl _) rx⟩
theorem er_ixP [Inhabited α] {l : Tp α} {i : Int} (ha : ER K ps ta σ H l) (hb : ER K ps tb σ H i) (h : inB l.l i) : ER K ps (tOp (rIxT K) ta tb) σ H (ixD l.l i) :=
  er_op ha hb fun v w H1 _ r1 r2 Q q => by
    obtain ⟨a, vs, rfl, hl, r⟩ := r1
    obtain ⟨x, hx, rx⟩ := ix_rep r h
    exact ⟨a, vs, i, x, rfl, r2, st_of (mn_ex _ _ hl), hx, q x H1 (Ex.refl _) rx⟩
theorem er_ixS {l : Tx} {i : Int} (ha : ER K ps ta σ H l) (hb : ER K ps tb σ H i) (h : inB l i) (hz : l.length ≤ 100000) : ER K ps (tOp rIxS ta tb) σ H ([ixD l i] : Tx) :=
  er_op ha hb fun v w H1 _ r1 r2 Q q => by
    obtain ⟨e1, as⟩ := r1
    obtain ⟨j, x, e, hx, hd⟩ := atI_some h
    refine ⟨tS l, i, x, e1, r2, by rw [tS_len]; exact sz_of hz, ?_, q _ H1 (Ex.refl _) ⟨?_, ?_⟩⟩
    · rw [tS_cps]; unfold atI; rw [e]; exact hx
    · rw [hd]; rfl
    · rw [hd]; exact as.one (List.mem_of_getElem? hx)
theorem er_ixScr {l : Scr} {i : Int} (ha : ER K ps ta σ H l) (hb : ER K ps tb σ H i) (h : inB l.l i) : ER K ps (tOp (rIxL K) ta tb) σ H (ixD l.l i) :=
  er_op ha hb fun v w H1 _ r1 r2 Q q => by
    obtain ⟨a, rfl, hl⟩ := r1
    obtain ⟨j, x, e, hx, hd⟩ := atI_some h
    refine ⟨a, _, i, .int x, rfl, r2, ex_l mn_ex hl, ?_, q _ H1 (Ex.refl _) (by rw [hd]; rfl)⟩
    unfold atI
    rw [List.length_map, e]
    show (l.l.map V.int)[j]? = _
    rw [List.getElem?_map, hx]; rfl
/-- a place of a tuple of a written length -/
theorem er_ix0 {A : Type} [RepA A] {l : T (α × A)} (ha : ER K ps ta σ H l) : ER K ps (tOp (rIxT K) ta (tC (.int 0))) σ H l.t.1 :=
  er_op ha (er_int (i := 0)) fun v w H1 _ r1 r2 Q q => by
    obtain ⟨a, vs, rfl, hl, x, r, rfl, rx, _⟩ := r1
    exact ⟨a, _, 0, x, rfl, r2, st_of (mn_ex _ _ hl), atI_nat (j := 0) rfl, q x H1 (Ex.refl _) rx⟩
theorem er_ix1 {α1 A : Type} [Rep α1] [RepA A] {l : T (α1 × α × A)} (ha : ER K ps ta σ H l) : ER K ps (tOp (rIxT K) ta (tC (.int 1))) σ H l.t.2.1 :=
  er_op ha (er_int (i := 1)) fun v w H1 _ r1 r2 Q q => by
    obtain ⟨a, vs, rfl, hl, x1, r, rfl, _, x, r, rfl, rx, _⟩ := r1
    exact ⟨a, _, 1, x, rfl, r2, st_of (mn_ex _ _ hl), atI_nat (j := 1) rfl, q x H1 (Ex.refl _) rx⟩
theorem er_ix2 {α1 α2 A : Type} [Rep α1] [Rep α2] [RepA A] {l : T (α1 × α2 × α × A)} (ha : ER K ps ta σ H l) : ER K ps (tOp (rIxT K) ta (tC (.int 2))) σ H l.t.2.2.1 :=
  er_op ha (er_int (i := 2)) fun v w H1 _ r1 r2 Q q => by
    obtain ⟨a, vs, rfl, hl, x1, r, rfl, _, x2, r, rfl, _, x, r, rfl, rx, _⟩ := r1
    exact ⟨a, _, 2, x, rfl, r2, st_of (mn_ex _ _ hl), atI_nat (j := 2) rfl, q x H1 (Ex.refl _) rx⟩
theorem er_ix3 {α1 α2 α3 A : Type} [Rep α1] [Rep α2] [Rep α3] [RepA A] {l : T (α1 × α2 × α3 × α × A)} (ha : ER K ps ta σ H l) : ER K ps (tOp (rIxT K) ta (tC (.int 3))) σ H l.t.2.2.2.1 :=
  er_op ha (er_int (i := 3)) fun v w H1 _ r1 r2 Q q => by
    obtain ⟨a, vs, rfl, hl, x1, r, rfl, _, x2, r, rfl, _, x3, r, rfl, _, x, r, rfl, rx, _⟩ := r1
    exact ⟨a, _, 3, x, rfl, r2, st_of (mn_ex _ _ hl), atI_nat (j := 3) rfl, q x H1 (Ex.refl _) rx⟩
theorem er_ix4 {α1 α2 α3 α4 A : Type} [Rep α1] [Rep α2] [Rep α3] [Rep α4] [RepA A] {l : T (α1 × α2 × α3 × α4 × α × A)} (ha : ER K ps ta σ H l) : ER K ps (tOp (rIxT K) ta (tC (.int 4))) σ H l.t.2.2.2.2.1 :=
  er_op ha (er_int (i := 4)) fun v w H1 _ r1 r2 Q q => by
    obtain ⟨a, vs, rfl, hl, x1, r, rfl, _, x2, r, rfl, _, x3, r, rfl, _, x4, r, rfl, _, x, r, rfl, rx, _⟩ := r1
    exact ⟨a, _, 4, x, rfl, r2, st_of (mn_ex _ _ hl), atI_nat (j := 4) rfl, q x H1 (Ex.refl _) rx⟩
theorem er_ix5 {α1 α2 α3 α4 α5 A : Type} [Rep α1] [Rep α2] [Rep α3] [Rep α4] [Rep α5] [RepA A] {l : T (α1 × α2 × α3 × α4 × α5 × α × A)} (ha : ER K ps ta σ H l) : ER K ps (tOp (rIxT K) ta (tC (.int 5))) σ H l.t.2.2.2.2.2.1 :=
  er_op ha (er_int (i := 5)) fun v w H1 _ r1 r2 Q q => by
    obtain ⟨a, vs, rfl, hl, x1, r, rfl, _, x2, r, rfl, _, x3, r, rfl, _, x4, r, rfl, _, x5, r, rfl, _, x, r, rfl, rx, _⟩ := r1
    exact ⟨a, _, 5, x, rfl, r2, st_of (mn_ex _ _ hl), atI_nat (j := 5) rfl, q x H1 (Ex.refl _) rx⟩

/-! ### slices -/
def cut {α : Type} (xs : List α) (lo hi : Option Int) : List α := (xs.drop (HT.sIx xs.length 0 lo)).take (HT.sIx xs.length xs.length hi - HT.sIx xs.length 0 lo)
theorem cut_rep {vs : List V} {l : List α} (r : Reps K H vs l) (lo hi : Option Int) : Reps K H (cutV vs lo hi) (cut l lo hi) := by
  unfold cutV cut
  rw [r.length]
  exact (r.drop _).take _
def EO (K : PySem.W.Frag) (ps : List Addr) (to : TO) (σ : L2.St) (H : Hp) (o : Option Int) : Prop :=
  ∀ H1, Ex H H1 → Dm H1 ps → ∀ Q : Option Int → Hp → Prop, (∀ H2, Ex H1 H2 → Q o H2) → to σ H1 Q
theorem eo_none : EO K ps tNoPart σ H none := fun H1 _ _ Q q => q H1 (Ex.refl _)
theorem eo_some {i : Int} (h : ER K ps te σ H i) : EO K ps (tPart te) σ H (some i) := fun H1 e d Q q => h H1 e d _ fun v H2 e2 r => ⟨i, r, q H2 e2⟩
theorem er_slL {l : List α} {tl th : TO} {lo hi : Option Int} (ha : ER K ps te σ H l) (hl : EO K ps tl σ H lo) (hh : EO K ps th σ H hi) : ER K ps (tSl (rSlL K) te tl th) σ H (cut l lo hi) := fun H1 e d Q q =>
  ha H1 e d _ fun v H2 e2 r2 => hl H2 (e.trans e2) (d.mono e2) _ fun H3 e3 => hh H3 ((e.trans e2).trans e3) (d.mono (e2.trans e3)) _ fun H4 e4 => by
    obtain ⟨a, vs, rfl, hv, r⟩ := (Rep.mono (mn_mono (e3.trans e4)) r2 : rep K (mn H4 ps) v l)
    exact ⟨a, vs, rfl, sq_of (mn_ex _ _ hv), fun p hp => q _ _ (((e2.trans e3).trans e4).trans (Ex.new hp)) (new_lst (d.mono ((e2.trans e3).trans e4)) hp (cut_rep r lo hi))⟩
theorem cutS_tS (x : Tx) (lo hi : Option Int) : cutS (tS x) lo hi = tS (cut x lo hi) := by
  unfold cutS cut
  rw [tS_cps, tS_len]; rfl
theorem er_slS {l : Tx} {tl th : TO} {lo hi : Option Int} (ha : ER K ps te σ H l) (hl : EO K ps tl σ H lo) (hh : EO K ps th σ H hi) (hz : l.length ≤ 100000) : ER K ps (tSl rSlS te tl th) σ H (cut l lo hi : Tx) := fun H1 e d Q q =>
  ha H1 e d _ fun v H2 e2 r2 => hl H2 (e.trans e2) (d.mono e2) _ fun H3 e3 => hh H3 ((e.trans e2).trans e3) (d.mono (e2.trans e3)) _ fun H4 e4 =>
    ⟨tS l, r2.1, by rw [tS_len]; exact sz_of hz, q _ H4 ((e2.trans e3).trans e4) ⟨by rw [cutS_tS], (r2.2.drop _).take _⟩⟩
theorem er_slP {l : Tp α} {tl th : TO} {lo hi : Option Int} (ha : ER K ps te σ H l) (hl : EO K ps tl σ H lo) (hh : EO K ps th σ H hi) (hw : ¬ (HT.sIx l.l.length 0 lo = 0 ∧ HT.sIx l.l.length l.l.length hi = l.l.length)) : ER K ps (tSl (rSlT K) te tl th) σ H (⟨cut l.l lo hi⟩ : Tp α) := fun H1 e d Q q =>
  ha H1 e d _ fun v H2 e2 r2 => hl H2 (e.trans e2) (d.mono e2) _ fun H3 e3 => hh H3 ((e.trans e2).trans e3) (d.mono (e2.trans e3)) _ fun H4 e4 => by
    obtain ⟨a, vs, rfl, hv, r⟩ := (Rep.mono (mn_mono (e3.trans e4)) r2 : rep K (mn H4 ps) v l)
    exact ⟨a, vs, rfl, st_of (mn_ex _ _ hv), by rw [r.length]; exact hw, fun p hp => q _ _ (((e2.trans e3).trans e4).trans (Ex.new hp)) (new_tp (d.mono ((e2.trans e3).trans e4)) hp (cut_rep r lo hi))⟩
theorem er_revL {l : List α} (ha : ER K ps te σ H l) : ER K ps (tRevL K te) σ H l.reverse := fun H1 e d Q q =>
  ha H1 e d _ fun v H2 e2 r2 => by
    obtain ⟨a, vs, rfl, hv, r⟩ := r2
    exact ⟨a, vs, rfl, sq_of (mn_ex _ _ hv), fun p hp => q _ _ (e2.trans (Ex.new hp)) (new_lst (d.mono e2) hp r.reverse)⟩

/-! ### + -/
theorem er_catS {x y : Tx} (ha : ER K ps ta σ H x) (hb : ER K ps tb σ H y) (hz : x.length + y.length ≤ 100000) : ER K ps (tOp rCatS ta tb) σ H (x ++ y : Tx) :=
  er_op ha hb fun v w H1 _ r1 r2 Q q => ⟨tS x, tS y, r1.1, r2.1, by rw [tS_len, tS_len]; exact sz_of hz, by rw [tS_app]; exact q _ H1 (Ex.refl _) ⟨rfl, r1.2.app r2.2⟩⟩
theorem er_catL {x y : List α} (ha : ER K ps ta σ H x) (hb : ER K ps tb σ H y) (hz : x.length + y.length ≤ 100000) : ER K ps (tOp rCat ta tb) σ H (x ++ y) :=
  er_op ha hb fun v w H1 d r1 r2 Q q => by
    obtain ⟨a, vs, rfl, hv, r⟩ := r1
    obtain ⟨b, ws, rfl, hw, r'⟩ := r2
    exact ⟨a, b, vs, ws, rfl, rfl, mn_ex _ _ hv, mn_ex _ _ hw, by rw [r.length, r'.length]; exact sz_of hz, fun p hp => q _ _ (Ex.new hp) (new_lst d hp (r.append r'))⟩

/-! ### in -/
class FlatV (α : Type) [Rep α] [DecidableEq α] where
  fl : ∀ {K : PySem.W.Frag} {H : Hp} {v : V} {x : α}, rep K H v x → flatV v = true
  eq : ∀ {K : PySem.W.Frag} {H : Hp} {v w : V} {x y : α}, rep K H v x → rep K H w y → eqV v w = decide (x = y)
instance : FlatV Int := ⟨fun h => by cases h; rfl, fun h1 h2 => by cases h1; cases h2; show (_ == _) = _; exact Bool.beq_eq_decide_eq _ _⟩
instance : FlatV Bool := ⟨fun h => by cases h; rfl, fun h1 h2 => by cases h1; cases h2; show (_ == _) = _; exact Bool.beq_eq_decide_eq _ _⟩
instance : FlatV Tx := ⟨fun h => by rw [h.1]; rfl, fun {_ _ v w x y} h1 h2 => by
  rw [h1.1, h2.1]
  show (tS x == tS y) = decide (x = y)
  rw [Bool.beq_eq_decide_eq]
  exact decide_eq_decide.mpr ⟨tS_inj, fun e => by rw [e]⟩⟩
theorem eqV_non {v : V} (h : v ≠ .non) : eqV .non v = false := by cases v <;> first | rfl | exact absurd rfl h
theorem eqV_non' {v : V} (h : v ≠ .non) : eqV v .non = false := by cases v <;> first | rfl | exact absurd rfl h
instance {α : Type} [Rep α] [DecidableEq α] [F : FlatV α] : FlatV (Option α) := ⟨fun {_ _ v x} h => by
    cases x with
    | none => rw [show v = .non from h]; rfl
    | some y => exact F.fl h.1, fun {_ _ v w x y} h1 h2 => by
    cases x with
    | none =>
      rw [show v = .non from h1]
      cases y with
      | none => rw [show w = .non from h2]; rfl
      | some y => rw [eqV_non h2.2]; rfl
    | some x =>
      cases y with
      | none => rw [show w = .non from h2, eqV_non' h1.2]; rfl
      | some y => rw [F.eq h1.1 h2.1]; exact decide_eq_decide.mpr ⟨fun e => by rw [e], fun e => Option.some.inj e⟩⟩
theorem flat_all [DecidableEq α] [F : FlatV α] : ∀ {vs : List V} {l : List α}, Reps K H vs l → vs.all flatV = true
  | _, _, .nil => rfl
  | _, _, .cons r t => by rw [List.all_cons, F.fl r, flat_all t]; rfl
theorem flat_in [DecidableEq α] [F : FlatV α] {v : V} {x : α} (rx : rep K H v x) : ∀ {vs : List V} {l : List α}, Reps K H vs l → inV v vs = decide (x ∈ l)
  | _, _, .nil => by simp [inV]
  | _, _, .cons (x := y) r t => by
    have ih := flat_in rx t
    unfold inV at ih ⊢
    rw [List.any_cons, ih, F.eq r rx]
    by_cases h1 : y = x
    · rw [decide_eq_true h1, Bool.true_or, decide_eq_true (by rw [h1]; exact List.mem_cons_self)]
    · rw [decide_eq_false h1, Bool.false_or]
      exact decide_eq_decide.mpr ⟨fun h => List.mem_cons_of_mem _ h, fun h => (List.mem_cons.mp h).elim (fun e => absurd e.symm h1) id⟩
theorem er_inL [DecidableEq α] [FlatV α] {x : α} {l : List α} (ha : ER K ps ta σ H x) (hb : ER K ps tb σ H l) : ER K ps (tOp (rIn K false) ta tb) σ H (memB x l) :=
  er_op ha hb fun v w H1 _ r1 r2 Q q => by
    obtain ⟨a, vs, rfl, hv, r⟩ := r2
    exact ⟨a, vs, rfl, .inl (sq_of (mn_ex _ _ hv)), FlatV.fl r1, flat_all r, q _ H1 (Ex.refl _) (by show V.bl (inV v vs) = _; rw [flat_in r1 r]; rfl)⟩
theorem er_ninL [DecidableEq α] [FlatV α] {x : α} {l : List α} (ha : ER K ps ta σ H x) (hb : ER K ps tb σ H l) : ER K ps (tOp (rIn K true) ta tb) σ H (!memB x l) :=
  er_op ha hb fun v w H1 _ r1 r2 Q q => by
    obtain ⟨a, vs, rfl, hv, r⟩ := r2
    exact ⟨a, vs, rfl, .inl (sq_of (mn_ex _ _ hv)), FlatV.fl r1, flat_all r, q _ H1 (Ex.refl _) (by show V.bl (!inV v vs) = _; rw [flat_in r1 r]; rfl)⟩
theorem er_inP [DecidableEq α] [FlatV α] {x : α} {l : Tp α} (ha : ER K ps ta σ H x) (hb : ER K ps tb σ H l) : ER K ps (tOp (rIn K false) ta tb) σ H (memB x l.l) :=
  er_op ha hb fun v w H1 _ r1 r2 Q q => by
    obtain ⟨a, vs, rfl, hv, r⟩ := r2
    exact ⟨a, vs, rfl, .inr (st_of (mn_ex _ _ hv)), FlatV.fl r1, flat_all r, q _ H1 (Ex.refl _) (by show V.bl (inV v vs) = _; rw [flat_in r1 r]; rfl)⟩
theorem er_ninP [DecidableEq α] [FlatV α] {x : α} {l : Tp α} (ha : ER K ps ta σ H x) (hb : ER K ps tb σ H l) : ER K ps (tOp (rIn K true) ta tb) σ H (!memB x l.l) :=
  er_op ha hb fun v w H1 _ r1 r2 Q q => by
    obtain ⟨a, vs, rfl, hv, r⟩ := r2
    exact ⟨a, vs, rfl, .inr (st_of (mn_ex _ _ hv)), FlatV.fl r1, flat_all r, q _ H1 (Ex.refl _) (by show V.bl (!inV v vs) = _; rw [flat_in r1 r]; rfl)⟩

/-! ### == of data -/
class Deep (α : Type) [Rep α] [DecidableEq α] where
  d : α → PyData
  lev : Nat
  dp : ∀ {K : PySem.W.Frag} {H : Hp} {v : V} {x : α}, rep K H v x → Dp K H v (d x)
  can : ∀ {K : PySem.W.Frag} {H : Hp} {v : V} {x : α}, rep K H v x → (d x).canLay0 = true
  dep : ∀ x, (d x).depth ≤ lev
  eq : ∀ x y, PyData.eqv (d x) (d y) = decide (x = y)
instance : Deep Int := ⟨.int, 0, fun h => by cases h; exact .int _, fun _ => rfl, fun _ => by simp [PyData.depth], fun x y => by rw [PyData.eqv]; exact Bool.beq_eq_decide_eq _ _⟩
instance : Deep Bool := ⟨.bool, 0, fun h => by cases h; exact .bl _, fun _ => rfl, fun _ => by simp [PyData.depth], fun x y => by rw [PyData.eqv]; exact Bool.beq_eq_decide_eq _ _⟩
instance : Deep Tx := ⟨fun x => .str (tS x), 0, fun h => by rw [h.1]; exact .str _, fun {_ _ _ x} h => by
    show PyData.strOk (tS x) = true
    unfold PyData.strOk tS
    simp only [List.all_toArray, List.all_eq_true, decide_eq_true_eq]
    intro c hc
    have := h.2 c hc
    omega, fun _ => by simp [PyData.depth], fun x y => by
    rw [PyData.eqv, Bool.beq_eq_decide_eq]
    exact decide_eq_decide.mpr ⟨tS_inj, fun e => by rw [e]⟩⟩
section
variable [DecidableEq α] [D : Deep α]
theorem deep_all : ∀ {vs : List V} {l : List α}, Reps K H vs l → DpAll K H vs (l.map D.d)
  | _, _, .nil => .nil
  | _, _, .cons r t => .cons (D.dp r) (deep_all t)
theorem deep_can : ∀ {vs : List V} {l : List α}, Reps K H vs l → PyData.canLayAll0 (l.map D.d) = true
  | _, _, .nil => by simp [PyData.canLayAll0]
  | _, _, .cons r t => by rw [List.map_cons, PyData.canLayAll0, D.can r, deep_can t]; rfl
theorem deep_dep : ∀ l : List α, PyData.depthAll (l.map D.d) ≤ D.lev
  | [] => by
    simp only [List.map_nil, PyData.depthAll]
    exact Nat.zero_le _
  | x :: l => by rw [List.map_cons, PyData.depthAll]; exact Nat.max_le.mpr ⟨D.dep x, deep_dep l⟩
theorem deep_eq : ∀ l m : List α, PyData.eqvAll (l.map D.d) (m.map D.d) = decide (l = m)
  | [], m => by cases m <;> simp [PyData.eqvAll]
  | x :: l, [] => by simp [PyData.eqvAll]
  | x :: l, y :: m => by rw [List.map_cons, List.map_cons, PyData.eqvAll, D.eq, deep_eq l m]; simp
instance : Deep (List α) := ⟨fun l => .list (l.map D.d), D.lev + 1, fun ⟨a, vs, h1, h2, h3⟩ => by rw [h1]; exact .lst (sq_of h2) (deep_all h3), fun ⟨_, _, _, _, h3⟩ => by rw [PyData.canLay0]; exact deep_can h3,
  fun l => by rw [PyData.depth]; exact Nat.succ_le_succ (deep_dep l), fun l m => by rw [PyData.eqv]; exact deep_eq l m⟩
instance : Deep (Tp α) := ⟨fun l => .tuple (l.l.map D.d), D.lev + 1, fun ⟨a, vs, h1, h2, h3⟩ => by rw [h1]; exact .tup (st_of h2) (deep_all h3), fun ⟨_, _, _, _, h3⟩ => by rw [PyData.canLay0]; exact deep_can h3,
  fun l => by rw [PyData.depth]; exact Nat.succ_le_succ (deep_dep l.l), fun l m => by
    rw [PyData.eqv, deep_eq]
    exact decide_eq_decide.mpr ⟨fun e => by cases l; cases m; cases e; rfl, fun e => by rw [e]⟩⟩
end
class DeepA (A : Type) [RepA A] [DecidableEq A] where
  d : A → List PyData
  lev : Nat
  dp : ∀ {K : PySem.W.Frag} {H : Hp} {vs : List V} {x : A}, repA K H vs x → DpAll K H vs (d x)
  can : ∀ {K : PySem.W.Frag} {H : Hp} {vs : List V} {x : A}, repA K H vs x → PyData.canLayAll0 (d x) = true
  dep : ∀ x, PyData.depthAll (d x) ≤ lev
  eq : ∀ x y, PyData.eqvAll (d x) (d y) = decide (x = y)
instance : DeepA Unit := ⟨fun _ => [], 0, fun h => by rw [show _ = [] from h]; exact .nil, fun _ => by simp [PyData.canLayAll0], fun _ => by simp [PyData.depthAll], fun _ _ => by simp [PyData.eqvAll]⟩
instance {A : Type} [RepA A] [DecidableEq α] [DecidableEq A] [D : Deep α] [E : DeepA A] : DeepA (α × A) := ⟨fun x => D.d x.1 :: E.d x.2, max D.lev E.lev, fun ⟨v, r, h1, h2, h3⟩ => by rw [h1]; exact .cons (D.dp h2) (E.dp h3),
  fun ⟨v, r, h1, h2, h3⟩ => by rw [PyData.canLayAll0, D.can h2, E.can h3]; rfl, fun x => by rw [PyData.depthAll]; exact Nat.max_le.mpr ⟨Nat.le_trans (D.dep _) (Nat.le_max_left _ _), Nat.le_trans (E.dep _) (Nat.le_max_right _ _)⟩,
  fun x y => by
    rw [PyData.eqvAll, D.eq, E.eq]
    obtain ⟨a, b⟩ := x
    obtain ⟨c, e⟩ := y
    simp⟩
instance {A : Type} [RepA A] [DecidableEq A] [D : DeepA A] : Deep (T A) := ⟨fun l => .tuple (D.d l.t), D.lev + 1, fun ⟨a, vs, h1, h2, h3⟩ => by rw [h1]; exact .tup (st_of h2) (D.dp h3), fun ⟨_, _, _, _, h3⟩ => by rw [PyData.canLay0]; exact D.can h3,
  fun l => by rw [PyData.depth]; exact Nat.succ_le_succ (D.dep l.t), fun l m => by
    rw [PyData.eqv, D.eq]
    exact decide_eq_decide.mpr ⟨fun e => by cases l; cases m; cases e; rfl, fun e => by rw [e]⟩⟩
theorem er_eqD [DecidableEq α] [D : Deep α] {x y : α} (ha : ER K ps ta σ H x) (hb : ER K ps tb σ H y) (hl : D.lev ≤ 64 := by decide) : ER K ps (tOp (rEqD K) ta tb) σ H (eqB x y) :=
  er_op ha hb fun v w H1 _ r1 r2 Q q => by
    have s1 := Rep.mono (mn_ex (ps := ps)) r1
    have s2 := Rep.mono (mn_ex (ps := ps)) r2
    refine ⟨D.d x, D.d y, D.dp s1, D.dp s2, ?_, ?_, ?_⟩
    · unfold SeqAt.shaped; rw [D.can s1, decide_eq_true (Nat.le_trans (D.dep x) hl)]; rfl
    · unfold SeqAt.shaped; rw [D.can s2, decide_eq_true (Nat.le_trans (D.dep y) hl)]; rfl
    · rw [D.eq]; exact q _ H1 (Ex.refl _) rfl
theorem er_neD [DecidableEq α] [D : Deep α] {x y : α} (ha : ER K ps ta σ H x) (hb : ER K ps tb σ H y) (hl : D.lev ≤ 64 := by decide) : ER K ps (tOp (rNeD K) ta tb) σ H (!eqB x y) :=
  er_op ha hb fun v w H1 _ r1 r2 Q q => by
    have s1 := Rep.mono (mn_ex (ps := ps)) r1
    have s2 := Rep.mono (mn_ex (ps := ps)) r2
    refine ⟨D.d x, D.d y, D.dp s1, D.dp s2, ?_, ?_, ?_⟩
    · unfold SeqAt.shaped; rw [D.can s1, decide_eq_true (Nat.le_trans (D.dep x) hl)]; rfl
    · unfold SeqAt.shaped; rw [D.can s2, decide_eq_true (Nat.le_trans (D.dep y) hl)]; rfl
    · rw [D.eq]; exact q _ H1 (Ex.refl _) rfl

/-! ### is -/
theorem er_isB {x y : Bool} (ha : ER K ps ta σ H x) (hb : ER K ps tb σ H y) : ER K ps (tOp rIsB ta tb) σ H (decide (x = y)) :=
  er_op ha hb fun v w H1 _ r1 r2 Q q => ⟨x, y, r1, r2, q _ H1 (Ex.refl _) rfl⟩
theorem er_notB {x y : Bool} (ha : ER K ps ta σ H x) (hb : ER K ps tb σ H y) : ER K ps (tOp rNotB ta tb) σ H (!decide (x = y)) :=
  er_op ha hb fun v w H1 _ r1 r2 Q q => ⟨x, y, r1, r2, q _ H1 (Ex.refl _) rfl⟩
theorem opt_non {v : V} {x : Option α} (h : rep K H v x) : decide (v = .non) = x.isNone := by
  cases x with
  | none => rw [show v = .non from h]; rfl
  | some y => rw [decide_eq_false h.2]; rfl
theorem er_isN {x : Option α} (ha : ER K ps ta σ H x) : ER K ps (tOp rIsNo ta (tC .non)) σ H x.isNone := fun H1 e d Q q =>
  ha H1 e d _ fun v H2 e2 r => ⟨rfl, q _ H2 e2 (by rw [opt_non r]; rfl)⟩
theorem er_notN {x : Option α} (ha : ER K ps ta σ H x) : ER K ps (tOp rNotNo ta (tC .non)) σ H (!x.isNone) := fun H1 e d Q q =>
  ha H1 e d _ fun v H2 e2 r => ⟨rfl, q _ H2 e2 (by rw [opt_non r]; rfl)⟩
/-- a value that is there -/
theorem er_get [Inhabited α] {x : Option α} (ha : ER K ps ta σ H x) (h : x.isSome = true) : ER K ps ta σ H (x.getD default) := fun H1 e d Q q =>
  ha H1 e d _ fun v H2 e2 r => q v H2 e2 (by
    cases x with
    | none => cases h
    | some y => exact r.1)
class NoNone (α : Type) [Rep α] where
  nn : ∀ {K : PySem.W.Frag} {H : Hp} {v : V} {x : α}, rep K H v x → v ≠ .non
instance : NoNone Int := ⟨fun h => by rw [show _ = _ from h]; exact fun e => nomatch e⟩
instance : NoNone Bool := ⟨fun h => by rw [show _ = _ from h]; exact fun e => nomatch e⟩
instance : NoNone Tx := ⟨fun h => by rw [h.1]; exact fun e => nomatch e⟩
instance : NoNone (List α) := ⟨fun ⟨_, _, h, _⟩ => by rw [h]; exact fun e => nomatch e⟩
instance : NoNone (Tp α) := ⟨fun ⟨_, _, h, _⟩ => by rw [h]; exact fun e => nomatch e⟩
instance {A : Type} [RepA A] : NoNone (T A) := ⟨fun ⟨_, _, h, _⟩ => by rw [h]; exact fun e => nomatch e⟩
theorem er_some [NoNone α] {x : α} (ha : ER K ps ta σ H x) : ER K ps ta σ H (some x) := fun H1 e d Q q =>
  ha H1 e d _ fun v H2 e2 r => q v H2 e2 ⟨r, NoNone.nn r⟩

/-! ### built-ins -/
theorem er_cb1 {r : List V → Hp → VK → Prop} {x : α} {z : γ} (ha : ER K ps ta σ H x) (hr : ∀ v H1, Dm H1 ps → rep K (mn H1 ps) v x → ∀ Q : VK, (∀ u H2, Ex H1 H2 → rep K (mn H2 ps) u z → Q u H2) → r [v] H1 Q) : ER K ps (tCB r (tCons ta tNil)) σ H z := fun H1 e d Q q =>
  ha H1 e d _ fun v H2 e2 r2 => hr v H2 (d.mono e2) r2 Q fun u H4 e4 r4 => q u H4 (e2.trans e4) r4
theorem er_cb2 {r : List V → Hp → VK → Prop} {x : α} {y : β} {z : γ} (ha : ER K ps ta σ H x) (hb : ER K ps tb σ H y) (hr : ∀ v w H1, Dm H1 ps → rep K (mn H1 ps) v x → rep K (mn H1 ps) w y → ∀ Q : VK, (∀ u H2, Ex H1 H2 → rep K (mn H2 ps) u z → Q u H2) → r [v, w] H1 Q) : ER K ps (tCB r (tCons ta (tCons tb tNil))) σ H z := fun H1 e d Q q =>
  ha H1 e d _ fun v H2 e2 r2 => hb H2 (e.trans e2) (d.mono e2) _ fun w H3 e3 r3 => hr v w H3 (d.mono (e2.trans e3)) (Rep.mono (mn_mono e3) r2) r3 Q fun u H4 e4 r4 => q u H4 ((e2.trans e3).trans e4) r4
theorem er_lenL {l : List α} (ha : ER K ps ta σ H l) : ER K ps (tCB (rLenQ K) (tCons ta tNil)) σ H (l.length : Int) :=
  er_cb1 ha fun v H1 _ r1 Q q => by
    obtain ⟨a, vs, rfl, hv, r⟩ := r1
    exact ⟨a, vs, rfl, .inl (sq_of (mn_ex _ _ hv)), q _ H1 (Ex.refl _) (by rw [r.length]; rfl)⟩
theorem er_lenP {l : Tp α} (ha : ER K ps ta σ H l) : ER K ps (tCB (rLenQ K) (tCons ta tNil)) σ H (l.l.length : Int) :=
  er_cb1 ha fun v H1 _ r1 Q q => by
    obtain ⟨a, vs, rfl, hv, r⟩ := r1
    exact ⟨a, vs, rfl, .inr (st_of (mn_ex _ _ hv)), q _ H1 (Ex.refl _) (by rw [r.length]; rfl)⟩
theorem er_lenScr {l : Scr} (ha : ER K ps ta σ H l) : ER K ps (tCB (rLenQ K) (tCons ta tNil)) σ H (l.l.length : Int) :=
  er_cb1 ha fun v H1 _ r1 Q q => by
    obtain ⟨a, rfl, hv⟩ := r1
    exact ⟨a, _, rfl, .inl (ex_l mn_ex hv), q _ H1 (Ex.refl _) (by rw [List.length_map]; rfl)⟩
theorem er_lenS {l : Tx} (ha : ER K ps ta σ H l) (hz : l.length ≤ 100000) : ER K ps (tCB rLenT (tCons ta tNil)) σ H (l.length : Int) :=
  er_cb1 ha fun v H1 _ r1 Q q => ⟨tS l, by rw [r1.1], by rw [tS_len]; exact sz_of hz, q _ H1 (Ex.refl _) (by rw [tS_len]; rfl)⟩
theorem er_intI {i : Int} (ha : ER K ps ta σ H i) : ER K ps (tCB rIntOf (tCons ta tNil)) σ H i :=
  er_cb1 ha fun v H1 _ r1 Q q => .inl ⟨i, by rw [show v = .int i from r1], q _ H1 (Ex.refl _) rfl⟩
def b2n (b : Bool) : Int := if b then 1 else 0
theorem er_intB {b : Bool} (ha : ER K ps ta σ H b) : ER K ps (tCB rIntOf (tCons ta tNil)) σ H (b2n b) :=
  er_cb1 ha fun v H1 _ r1 Q q => .inr ⟨b, by rw [show v = .bl b from r1], q _ H1 (Ex.refl _) rfl⟩
theorem er_listL {l : List α} (ha : ER K ps ta σ H l) : ER K ps (tCB (rListOf K) (tCons ta tNil)) σ H l :=
  er_cb1 ha fun v H1 d r1 Q q => by
    obtain ⟨a, vs, rfl, hv, r⟩ := r1
    exact ⟨a, vs, rfl, .inl (sq_of (mn_ex _ _ hv)), fun p hp => q _ _ (Ex.new hp) (new_lst d hp r)⟩
theorem er_listP {l : Tp α} (ha : ER K ps ta σ H l) : ER K ps (tCB (rListOf K) (tCons ta tNil)) σ H l.l :=
  er_cb1 ha fun v H1 d r1 Q q => by
    obtain ⟨a, vs, rfl, hv, r⟩ := r1
    exact ⟨a, vs, rfl, .inr (st_of (mn_ex _ _ hv)), fun p hp => q _ _ (Ex.new hp) (new_lst d hp r)⟩
theorem er_tupL {l : List α} (ha : ER K ps ta σ H l) : ER K ps (tCB (rTupOf K) (tCons ta tNil)) σ H (⟨l⟩ : Tp α) :=
  er_cb1 ha fun v H1 d r1 Q q => by
    obtain ⟨a, vs, rfl, hv, r⟩ := r1
    exact ⟨a, vs, rfl, .inl ⟨sq_of (mn_ex _ _ hv), fun p hp => q _ _ (Ex.new hp) (new_tp d hp r)⟩⟩
theorem er_tupP {l : Tp α} (ha : ER K ps ta σ H l) : ER K ps (tCB (rTupOf K) (tCons ta tNil)) σ H l :=
  er_cb1 ha fun v H1 d r1 Q q => by
    obtain ⟨a, vs, rfl, hv, r⟩ := id r1
    exact ⟨a, vs, rfl, .inr ⟨st_of (mn_ex _ _ hv), q _ _ (Ex.refl _) r1⟩⟩
theorem reps_map_bl {vs : List V} {l : List Bool} (r : Reps K H vs l) : vs = l.map V.bl := by
  induction r with
  | nil => rfl
  | cons h _ ih => rw [List.map_cons, ← ih, ← (show _ = _ from h)]
theorem reps_map_int {vs : List V} {l : List Int} (r : Reps K H vs l) : vs = l.map V.int := by
  induction r with
  | nil => rfl
  | cons h _ ih => rw [List.map_cons, ← ih, ← (show _ = _ from h)]
theorem reps_map_str {vs : List V} {l : List Tx} (r : Reps K H vs l) : vs = (l.map tS).map V.str := by
  induction r with
  | nil => rfl
  | cons h _ ih => rw [List.map_cons, List.map_cons, ← ih, ← h.1]
theorem er_all {l : List Bool} (ha : ER K ps ta σ H l) : ER K ps (tCB (rAll K) (tCons ta tNil)) σ H (l.all id) :=
  er_cb1 ha fun v H1 _ r1 Q q => by
    obtain ⟨a, vs, rfl, hv, r⟩ := r1
    rw [reps_map_bl r] at hv
    exact ⟨a, l, rfl, sq_of (mn_ex _ _ hv), q _ H1 (Ex.refl _) rfl⟩
theorem er_any {l : List Bool} (ha : ER K ps ta σ H l) : ER K ps (tCB (rAny K) (tCons ta tNil)) σ H (l.any id) :=
  er_cb1 ha fun v H1 _ r1 Q q => by
    obtain ⟨a, vs, rfl, hv, r⟩ := r1
    rw [reps_map_bl r] at hv
    exact ⟨a, l, rfl, sq_of (mn_ex _ _ hv), q _ H1 (Ex.refl _) rfl⟩
theorem er_sum {l : List Int} (ha : ER K ps ta σ H l) : ER K ps (tCB (rSum K) (tCons ta tNil)) σ H l.sum :=
  er_cb1 ha fun v H1 _ r1 Q q => by
    obtain ⟨a, vs, rfl, hv, r⟩ := r1
    rw [reps_map_int r] at hv
    exact ⟨a, l, rfl, sq_of (mn_ex _ _ hv), q _ H1 (Ex.refl _) rfl⟩
/-- the texts of a list, glued -/
def joinT (s : Tx) : List Tx → Tx
  | [] => []
  | [x] => x
  | x :: y :: r => x ++ (s ++ joinT s (y :: r))
theorem joinT_eq (s : Tx) : ∀ l : List Tx, Str.join (tS s) (l.map tS) = tS (joinT s l)
  | [] => rfl
  | [x] => rfl
  | x :: y :: r => by
    show tS x ++ tS s ++ Str.join (tS s) ((y :: r).map tS) = tS (x ++ (s ++ joinT s (y :: r)))
    rw [joinT_eq s (y :: r), tS_app, tS_app, List.append_assoc]
theorem joinT_asc {s : Tx} (hs : Asc s) : ∀ {l : List Tx}, (∀ x ∈ l, Asc x) → Asc (joinT s l)
  | [], _ => fun c h => nomatch h
  | [x], h => h x (List.mem_singleton.mpr rfl)
  | x :: y :: r, h => (h x List.mem_cons_self).app (hs.app (joinT_asc hs fun z hz => h z (List.mem_cons_of_mem _ hz)))
theorem reps_asc {vs : List V} {l : List Tx} (r : Reps K H vs l) : ∀ x ∈ l, Asc x := by
  induction r with
  | nil => exact fun x h => nomatch h
  | cons h _ ih => exact fun x hx => (List.mem_cons.mp hx).elim (fun e => e ▸ h.2) (ih x)
theorem er_join {s : Tx} {l : List Tx} (ha : ER K ps ta σ H s) (hb : ER K ps tb σ H l) (hz : (l.map List.length).sum + l.length * s.length ≤ 1000000) : ER K ps (tM1 (rJoin K) ta tb) σ H (joinT s l) := fun H1 e d Q q =>
  ha H1 e d _ fun v H2 e2 r2 => ⟨⟨tS s, r2.1⟩, hb H2 (e.trans e2) (d.mono e2) _ fun w H3 e3 r3 => by
    obtain ⟨a, vs, rfl, hv, r⟩ := r3
    have as := reps_asc r
    rw [reps_map_str r] at hv
    refine ⟨tS s, a, l.map tS, r2.1, rfl, .inl (sq_of (mn_ex _ _ hv)), ?_, ?_⟩
    · have e1 : ((l.map tS).map (·.length)) = l.map List.length := by
        rw [List.map_map]; exact List.map_congr_left fun x _ => tS_len x
      rw [e1, List.length_map, tS_len]; omega
    · rw [show Txt.join (tS s) (l.map tS) = Str.join (tS s) (l.map tS) from StrLaws.glued_eq_join _ _, joinT_eq]
      exact q _ H3 (e2.trans e3) ⟨rfl, joinT_asc r2.2 as⟩⟩
/-- isinstance of data -/
theorem er_isi {x : α} {n : String} {b : Bool} (ha : ER K ps ta σ H x) (ht : ∀ v H, rep K H v x → ∃ T, TyOf K H v (.type T) ∧ kitB T n = some b) : ER K ps (tCB (rIsi K) (tCons ta (tCons (tC (.ty n)) tNil))) σ H b := fun H1 e d Q q =>
  ha H1 e d _ fun v H2 e2 r => by
    obtain ⟨T, h1, h2⟩ := ht v H2 (Rep.mono mn_ex r)
    exact ⟨v, .ty n, .type T, .type n, b, rfl, .ty n, .base h1, kit_ty h2, q _ H2 e2 rfl⟩

/-! ### calls -/
/-- a def's promise: data in, data out -/
def spF {A : Type} [RepA A] (K : PySem.W.Frag) (f : A → γ) (ok : A → Prop) : Sp := fun vs H Q _ => ∃ (ps : List Addr) (x : A), Dm H ps ∧ repA K (mn H ps) vs x ∧ ok x ∧ ∀ r H', Ex H H' → rep K (mn H' ps) r (f x) → Q r H'
theorem er_call {A : Type} [RepA A] {f : A → γ} {ok : A → Prop} {x : A} {E : XK} {ta : TA} (h : EAs K ps ta σ H x) (hok : ok x) : ER K ps (tCall (spF K f ok) [] E ta) σ H (f x) := fun H1 e d Q q =>
  h H1 e d _ fun vs H2 e2 r => ⟨ps, x, d.mono e2, by rw [List.append_nil]; exact r, hok, fun v H3 e3 r3 => q v H3 (e2.trans e3) r3⟩
end
end Cx

/-! CxStmt: control trees, statements, loops, comprehensions, what is walked. -/
namespace Cx
open PySem L2 Evl
open Rep (rep)
open RepA (repA)

/-! ### how a block ends -/
inductive Ctl (S B R : Type) where
  | nx (s : S) | bk (b : B) | ct (b : B) | rt (r : R)
def vLet {α S B R : Type} (x : α) (f : α → Ctl S B R) : Ctl S B R := f x
def cIf {S B R : Type} (b : Bool) (c1 c2 : Ctl S B R) : Ctl S B R := match b with | true => c1 | false => c2
def cSeq {S S' B R : Type} (c : Ctl S B R) (k : S → Ctl S' B R) : Ctl S' B R := match c with | .nx s => k s | .bk b => .bk b | .ct b => .ct b | .rt r => .rt r
/-- a loop: where it ends, or what it returns -/
def forL {α S R : Type} (f : α → S → Ctl S S R) : List α → S → S ⊕ R
  | [], s => .inl s
  | x :: r, s => match f x s with | .nx s' => forL f r s' | .ct s' => forL f r s' | .bk s' => .inl s' | .rt v => .inr v
def forC {α S S' B R : Type} (items : List α) (f : α → S → Ctl S S R) (s : S) (k : S → Ctl S' B R) : Ctl S' B R := match forL f items s with | .inl s => k s | .inr r => .rt r
/-- what each turn asks -/
def forOk {α S R : Type} (f : α → S → Ctl S S R) (ok : α → S → Prop) : List α → S → Prop
  | [], _ => True
  | x :: r, s => ok x s ∧ match f x s with | .nx s' => forOk f ok r s' | .ct s' => forOk f ok r s' | .bk _ => True | .rt _ => True
/-- what stands behind a loop asks -/
def thenOk {S R : Type} (c : S ⊕ R) (ok : S → Prop) : Prop := match c with | .inl s => ok s | .inr _ => True
def seqOk {S B R : Type} (c : Ctl S B R) (ok : S → Prop) : Prop := match c with | .nx s => ok s | .bk _ => True | .ct _ => True | .rt _ => True

/-- a block's reading t, from σ and H, goes as c says -/
def Does {S B R : Type} (t : TS) (σ : L2.St) (H : Hp) (c : Ctl S B R) (SR : S → L2.St → Hp → Prop) (BR : B → L2.St → Hp → Prop) (RR : R → V → Hp → Prop) : Prop :=
  ∀ D : Ends, (∀ s σ' H', c = .nx s → SR s σ' H' → D.nx σ' H') → (∀ s σ' H', c = .bk s → BR s σ' H' → D.bk σ' H') → (∀ s σ' H', c = .ct s → BR s σ' H' → D.ct σ' H') → (∀ r v H', c = .rt r → RR r v H' → D.rt v H') → t D σ H

/-! ### what is known of a frame -/
structure Bd where
  i : Nat
  α : Type
  R : Rep α
  x : α
abbrev bd {α : Type} [R : Rep α] (i : Nat) (x : α) : Bd := ⟨i, α, R, x⟩
/-- an owned place: a slot that holds it (none, where i is no slot), what stands there -/
structure Od where
  i : Nat
  p : Addr
  ct : PySem.W.Frag → Hp → HO → Prop
  mono : ∀ {K : PySem.W.Frag} {H H' : Hp} {o : HO}, Ex H H' → ct K H o → ct K H' o
/-- an owned list -/
abbrev od {α : Type} [R : Rep α] (i : Nat) (p : Addr) (l : List α) : Od := ⟨i, p, fun K H o => ∃ vs, o = .lst vs ∧ Reps K H vs l, fun e ⟨vs, h, r⟩ => ⟨vs, h, r.mono e⟩⟩
def psO (O : List Od) (ps0 : List Addr) : List Addr := O.map Od.p ++ ps0
/-- H0: the heap at the entry (ps0: what its callers own); Hb: what stands for good; O: the owned lists; L: the slots -/
structure Stt (K : PySem.W.Frag) (N : Nat) (H0 : Hp) (ps0 : List Addr) (Hb : Hp) (σ : L2.St) (H : Hp) (O : List Od) (L : List Bd) : Prop where
  len : σ.length = N
  ex : Ex H0 H
  d0 : Dm H0 ps0
  bs : Ex Hb (mn H (psO O ps0))
  kn : ∀ b ∈ L, @Sl b.α b.R K (psO O ps0) σ H b.i b.x
  ow : ∀ o ∈ O, (o.i < N → σ[o.i]? = some (some (.ref o.p))) ∧ H0 o.p = none ∧ Hb o.p = none ∧ ∃ c, H o.p = some c ∧ o.ct K (mn H (psO O ps0)) c
  nd : (O.map Od.p).Nodup
section
variable {K : PySem.W.Frag} {N : Nat} {H0 Hb : Hp} {ps0 : List Addr} {σ : L2.St} {H H1 : Hp} {O : List Od} {L : List Bd} {α β : Type} [Rep α] [Rep β]
theorem Stt.dm (st : Stt K N H0 ps0 Hb σ H O L) : Dm H (psO O ps0) := fun p hp h => by
  obtain q | q := List.mem_append.mp hp
  · obtain ⟨o, ho, rfl⟩ := List.mem_map.mp q
    obtain ⟨_, _, _, vs, e, _⟩ := st.ow o ho
    rw [e] at h; cases h
  · cases q1 : H0 p with
    | none => exact st.d0 p q q1
    | some o => rw [st.ex p o q1] at h; cases h
theorem Stt.owM {i : Nat} {p : Addr} {l : List α} (st : Stt K N H0 ps0 Hb σ H O L) (h : od i p l ∈ O) (hi : i < N) : σ[i]? = some (some (.ref p)) ∧ H0 p = none ∧ Hb p = none ∧ ∃ vs, H p = some (.lst vs) ∧ Reps K (mn H (psO O ps0)) vs l := by
  obtain ⟨a1, a2, a3, c, a4, vs, rfl, a5⟩ := st.ow _ h
  exact ⟨a1 hi, a2, a3, vs, a4, a5⟩
theorem Stt.sl {i : Nat} {x : α} (st : Stt K N H0 ps0 Hb σ H O L) (h : bd i x ∈ L) : Sl K (psO O ps0) σ H i x := st.kn _ h
theorem Stt.var {i : Nat} {x : α} (st : Stt K N H0 ps0 Hb σ H O L) (h : bd i x ∈ L) : ER K (psO O ps0) (tVar i) σ H x := er_var (st.kn _ h)
theorem Sl.mono {ps : List Addr} {i : Nat} {x : α} (h : Sl K ps σ H i x) (e : Ex H H1) : Sl K ps σ H1 i x := by
  obtain ⟨v, a, r⟩ := h
  exact ⟨v, a, Rep.mono (mn_mono e) r⟩
/-- the heap has grown -/
theorem Stt.to (st : Stt K N H0 ps0 Hb σ H O L) (e : Ex H H1) : Stt K N H0 ps0 Hb σ H1 O L :=
  ⟨st.len, st.ex.trans e, st.d0, st.bs.trans (mn_mono e), fun b hb => @Sl.mono _ _ _ _ _ b.R _ _ _ (st.kn b hb) e, fun o ho => by
    obtain ⟨h1, h2, h3, vs, h4, h5⟩ := st.ow o ho
    exact ⟨h1, h2, h3, vs, e _ _ h4, o.mono (mn_mono e) h5⟩, st.nd⟩
/-- fewer slots are remembered -/
theorem Stt.less {L' : List Bd} (st : Stt K N H0 ps0 Hb σ H O L) (h : ∀ b ∈ L', b ∈ L) : Stt K N H0 ps0 Hb σ H O L' :=
  ⟨st.len, st.ex, st.d0, st.bs, fun b hb => st.kn b (h b hb), st.ow, st.nd⟩
/-- a base that is part of it -/
theorem Stt.base {Hb' : Hp} (st : Stt K N H0 ps0 Hb σ H O L) (h : Ex Hb' Hb) : Stt K N H0 ps0 Hb' σ H O L :=
  ⟨st.len, st.ex, st.d0, h.trans st.bs, st.kn, fun o ho => by
    obtain ⟨h1, h2, h3, r⟩ := st.ow o ho
    exact ⟨h1, h2, fresh_back h h3, r⟩, st.nd⟩
/-- a loop's own base: all that is not owned -/
theorem Stt.own (st : Stt K N H0 ps0 Hb σ H O L) : Stt K N H0 ps0 (mn H (psO O ps0)) σ H O L :=
  ⟨st.len, st.ex, st.d0, Ex.refl _, st.kn, fun o ho => by
    obtain ⟨h1, h2, h3, r⟩ := st.ow o ho
    refine ⟨h1, h2, ?_, r⟩
    exact if_pos (List.mem_append_left _ (List.mem_map.mpr ⟨o, ho, rfl⟩)), st.nd⟩
/-- a slot is stored -/
theorem Stt.set {i : Nat} {v : V} {x : α} {L' : List Bd} (st : Stt K N H0 ps0 Hb σ H O L) (r : rep K (mn H (psO O ps0)) v x) (hi : i < N) (hO : ∀ o ∈ O, o.i ≠ i) (hL : ∀ b ∈ L', b ∈ L ∧ b.i ≠ i) : Stt K N H0 ps0 Hb (σ.set i (some v)) H O (bd i x :: L') :=
  ⟨by rw [List.length_set]; exact st.len, st.ex, st.d0, st.bs, fun b hb => by
    obtain q | q := List.mem_cons.mp hb
    · subst q
      exact ⟨v, by rw [List.getElem?_set_self (by rw [st.len]; exact hi)], r⟩
    · obtain ⟨h1, h2⟩ := hL b q
      obtain ⟨w, a, r'⟩ := st.kn b h1
      exact ⟨w, by rw [List.getElem?_set_ne (Ne.symm h2)]; exact a, r'⟩, fun o ho => by
    obtain ⟨h1, h2⟩ := st.ow o ho
    exact ⟨fun hl => by rw [List.getElem?_set_ne (Ne.symm (hO o ho))]; exact h1 hl, h2⟩, st.nd⟩
/-- a slot is stored and forgotten -/
theorem Stt.forget {i : Nat} {ov : Option V} {L' : List Bd} (st : Stt K N H0 ps0 Hb σ H O L) (hO : ∀ o ∈ O, o.i ≠ i) (hL : ∀ b ∈ L', b ∈ L ∧ b.i ≠ i) : Stt K N H0 ps0 Hb (σ.set i ov) H O L' :=
  ⟨by rw [List.length_set]; exact st.len, st.ex, st.d0, st.bs, fun b hb => by
    obtain ⟨h1, h2⟩ := hL b hb
    obtain ⟨w, a, r'⟩ := st.kn b h1
    exact ⟨w, by rw [List.getElem?_set_ne (Ne.symm h2)]; exact a, r'⟩, fun o ho => by
    obtain ⟨h1, h2⟩ := st.ow o ho
    exact ⟨fun hl => by rw [List.getElem?_set_ne (Ne.symm (hO o ho))]; exact h1 hl, h2⟩, st.nd⟩
/-- a new list that is owned from now on -/
theorem Stt.newO {i : Nat} {p : Addr} {vs : List V} {l : List α} {L' : List Bd} (st : Stt K N H0 ps0 Hb σ H O L) (e : Ex H H1) (hp : H p = none) (h1 : H1 p = some (.lst vs)) (r : Reps K (mn H1 (psO O ps0)) vs l) (hr : Reps K (mn H1 (p :: psO O ps0)) vs l)
    (hi : i < N) (hO : ∀ o ∈ O, o.i ≠ i) (hL : ∀ b ∈ L', b ∈ L ∧ b.i ≠ i) : Stt K N H0 ps0 Hb (σ.set i (some (.ref p))) H1 (od i p l :: O) L' :=
  ⟨by rw [List.length_set]; exact st.len, st.ex.trans e, st.d0, st.bs.trans (mn_new e hp), fun b hb => by
    obtain ⟨h1, h2⟩ := hL b hb
    obtain ⟨w, a, r'⟩ := st.kn b h1
    exact ⟨w, by rw [List.getElem?_set_ne (Ne.symm h2)]; exact a, @Rep.mono _ b.R _ _ _ _ _ (mn_new e hp) r'⟩, fun o ho => by
    obtain q | q := List.mem_cons.mp ho
    · subst q
      refine ⟨fun _ => by rw [List.getElem?_set_self (by rw [st.len]; exact hi)], fresh_back st.ex hp, ?_, _, h1, vs, rfl, hr⟩
      exact fresh_back (st.bs.trans mn_ex) hp
    · obtain ⟨h1, h2, h3, ws, h4, h5⟩ := st.ow o q
      exact ⟨fun hl => by rw [List.getElem?_set_ne (Ne.symm (hO o q))]; exact h1 hl, h2, h3, ws, e _ _ h4, o.mono (mn_new e hp) h5⟩, by
    refine List.nodup_cons.mpr ?_
    refine ⟨fun hm => ?_, st.nd⟩
    obtain ⟨o, ho, e1⟩ := List.mem_map.mp hm
    obtain ⟨_, _, _, ws, h4, _⟩ := st.ow o ho
    rw [e1] at h4
    rw [show (od i p l).p = p from rfl, hp] at h4
    cases h4⟩
theorem mn_perm {ps ps' : List Addr} (h : ∀ a, a ∈ ps ↔ a ∈ ps') : mn H ps = mn H ps' := by
  funext a
  unfold mn
  by_cases q : a ∈ ps
  · rw [if_pos q, if_pos ((h a).mp q)]
  · rw [if_neg q, if_neg (fun z => q ((h a).mpr z))]
/-- the first owned list has changed -/
theorem Stt.put {i : Nat} {p : Addr} {l l' : List α} {vs : List V} (st : Stt K N H0 ps0 Hb σ H (od i p l :: O) L) (r : Reps K (mn H (psO (od i p l :: O) ps0)) vs l') : Stt K N H0 ps0 Hb σ (upd H p (.lst vs)) (od i p l' :: O) L := by
  have hps : psO (od i p l' :: O) ps0 = psO (od i p l :: O) ps0 := rfl
  have hm : mn (upd H p (.lst vs)) (psO (od i p l :: O) ps0) = mn H (psO (od i p l :: O) ps0) := mn_upd (List.mem_append_left _ List.mem_cons_self)
  obtain ⟨a1, a2, a3, _⟩ := st.ow _ List.mem_cons_self
  refine ⟨st.len, Ex.mut st.ex a2, st.d0, by rw [hps, hm]; exact st.bs, fun b hb => ?_, fun o ho => ?_, st.nd⟩
  · obtain ⟨w, a, r'⟩ := st.kn b hb
    exact ⟨w, a, by rw [hps, hm]; exact r'⟩
  · obtain q | q := List.mem_cons.mp ho
    · subst q
      exact ⟨a1, a2, a3, _, upd_same, vs, rfl, by rw [hps, hm]; exact r⟩
    · obtain ⟨h1, h2, h3, ws, h4, h5⟩ := st.ow o (List.mem_cons_of_mem _ q)
      refine ⟨h1, h2, h3, ws, ?_, by rw [hps, hm]; exact h5⟩
      rw [upd_ne (fun e => ?_)]
      · exact h4
      · have := st.nd
        rw [List.map_cons, List.nodup_cons] at this
        exact this.1 (by rw [show (od i p l).p = p from rfl, ← e]; exact List.mem_map.mpr ⟨o, q, rfl⟩)
/-- the owned in another order -/
theorem Stt.perm {O' : List Od} (st : Stt K N H0 ps0 Hb σ H O L) (h : O'.Perm O) : Stt K N H0 ps0 Hb σ H O' L := by
  have hm : mn H (psO O' ps0) = mn H (psO O ps0) := mn_perm fun a => by
    unfold psO
    rw [List.mem_append, List.mem_append, (h.map Od.p).mem_iff]
  refine ⟨st.len, st.ex, st.d0, by rw [hm]; exact st.bs, fun b hb => ?_, fun o ho => ?_, (h.map Od.p).nodup_iff.mpr st.nd⟩
  · obtain ⟨w, a, r'⟩ := st.kn b hb
    exact ⟨w, a, by rw [hm]; exact r'⟩
  · obtain ⟨h1, h2, h3, ws, h4, h5⟩ := st.ow o (h.mem_iff.mp ho)
    exact ⟨h1, h2, h3, ws, h4, by rw [hm]; exact h5⟩
/-- the first owned list will not change any more -/
theorem Stt.frz {i : Nat} {p : Addr} {l : List α} (st : Stt K N H0 ps0 Hb σ H (od i p l :: O) L) (hi : i < N := by decide) : Stt K N H0 ps0 Hb σ H O (bd i l :: L) := by
  have hle : Ex (mn H (psO (od i p l :: O) ps0)) (mn H (psO O ps0)) := mn_le fun a ha => List.mem_cons_of_mem _ ha
  obtain ⟨a1, a2, a3, vs, a4, a5⟩ := st.owM List.mem_cons_self hi
  have nd := st.nd
  replace nd := List.nodup_cons.mp nd
  refine ⟨st.len, st.ex, st.d0, st.bs.trans hle, fun b hb => ?_, fun o ho => ?_, nd.2⟩
  · obtain q | q := List.mem_cons.mp hb
    · subst q
      refine ⟨.ref p, a1, p, vs, rfl, mn_at a4 (fun hm => ?_), a5.mono hle⟩
      obtain z | z := List.mem_append.mp hm
      · exact nd.1 z
      · exact st.d0 p z a2
    · obtain ⟨w, a, r'⟩ := st.kn b q
      exact ⟨w, a, @Rep.mono _ b.R _ _ _ _ _ hle r'⟩
  · obtain ⟨h1, h2, h3, ws, h4, h5⟩ := st.ow o (List.mem_cons_of_mem _ ho)
    exact ⟨h1, h2, h3, ws, h4, o.mono hle h5⟩
/-- the owned list, read -/
theorem Stt.peek {i : Nat} {p : Addr} {l : List α} (st : Stt K N H0 ps0 Hb σ H O L) (h : od i p l ∈ O) (hi : i < N := by decide) : Sl K ps0 σ H i l := by
  obtain ⟨a1, a2, a3, vs, a4, a5⟩ := st.owM h hi
  refine ⟨.ref p, a1, p, vs, rfl, mn_at a4 (fun z => st.d0 p z a2), Reps.mono (mn_le fun a ha => List.mem_append_right _ ha) a5⟩

/-! ### statements -/
variable {S B R : Type} {c : Ctl S B R} {SR : S → L2.St → Hp → Prop} {BR : B → L2.St → Hp → Prop} {RR : R → V → Hp → Prop} {t u : TS} {te : TE}
theorem d_seq1 (h : Does t σ H c SR BR RR) : Does (tSeq t tNext) σ H c SR BR RR := fun D h1 h2 h3 h4 => h { D with nx := tNext D } h1 h2 h3 h4
/-- x = e -/
theorem d_asg {ps : List Addr} {i : Nat} {x : α} (he : ER K ps te σ H x) (dm : Dm H ps) (k : ∀ v H1, Ex H H1 → rep K (mn H1 ps) v x → Does u (σ.set i (some v)) H1 c SR BR RR) : Does (tSeq (tAsg te (gName i)) u) σ H c SR BR RR := fun D h1 h2 h3 h4 =>
  he H (Ex.refl _) dm _ fun v H1 e r => k v H1 e r D h1 h2 h3 h4
theorem d_asg1 {ps : List Addr} {i : Nat} {x : α} (he : ER K ps te σ H x) (dm : Dm H ps) (k : ∀ v H1, Ex H H1 → rep K (mn H1 ps) v x → Does tNext (σ.set i (some v)) H1 c SR BR RR) : Does (tAsg te (gName i)) σ H c SR BR RR := fun D h1 h2 h3 h4 =>
  he H (Ex.refl _) dm _ fun v H1 e r => k v H1 e r D h1 h2 h3 h4
theorem d_next {s : S} (h : SR s σ H) : Does tNext σ H (.nx s : Ctl S B R) SR BR RR := fun D h1 _ _ _ => h1 s σ H rfl h
theorem d_brk {s : B} (h : BR s σ H) : Does tBreak σ H (.bk s : Ctl S B R) SR BR RR := fun D _ h2 _ _ => h2 s σ H rfl h
theorem d_cont {s : B} (h : BR s σ H) : Does tCont σ H (.ct s : Ctl S B R) SR BR RR := fun D _ _ h3 _ => h3 s σ H rfl h
theorem d_ret {ps : List Addr} {r : R} {x : α} (he : ER K ps te σ H x) (dm : Dm H ps) (k : ∀ v H1, Ex H H1 → rep K (mn H1 ps) v x → RR r v H1) : Does (tRet te) σ H (.rt r : Ctl S B R) SR BR RR := fun D _ _ _ h4 =>
  he H (Ex.refl _) dm _ fun v H1 e q => h4 r v H1 rfl (k v H1 e q)
theorem d_drop {ps : List Addr} {x : α} (he : ER K ps te σ H x) (dm : Dm H ps) (k : ∀ H1, Ex H H1 → Does u σ H1 c SR BR RR) : Does (tSeq (tDrop te) u) σ H c SR BR RR := fun D h1 h2 h3 h4 =>
  he H (Ex.refl _) dm _ fun v H1 e r => k H1 e D h1 h2 h3 h4
/-- if, all that follows within -/
theorem d_ifR {ps : List Addr} {b : Bool} {tt : TT} {t1 t2 : TS} {c1 c2 : Ctl S B R} (hb : ET ps tt σ H b) (dm : Dm H ps) (h1 : b = true → ∀ H1, Ex H H1 → Does t1 σ H1 c1 SR BR RR) (h2 : b = false → ∀ H1, Ex H H1 → Does t2 σ H1 c2 SR BR RR) :
    Does (tIfS tt t1 t2) σ H (cIf b c1 c2) SR BR RR := fun D k1 k2 k3 k4 => hb H (Ex.refl _) dm _ fun H1 e => by
  cases b with
  | true => exact h1 rfl H1 e D k1 k2 k3 k4
  | false => exact h2 rfl H1 e D k1 k2 k3 k4
/-- a block, then what follows -/
theorem d_seq {S1 : Type} {c1 : Ctl S1 B R} {k : S1 → Ctl S B R} {SR1 : S1 → L2.St → Hp → Prop} (h1 : Does t σ H c1 SR1 BR RR) (h2 : ∀ s σ' H', c1 = .nx s → SR1 s σ' H' → Does u σ' H' (k s) SR BR RR) : Does (tSeq t u) σ H (cSeq c1 k) SR BR RR := fun D k1 k2 k3 k4 => by
  refine h1 { D with nx := u D } (fun s σ' H' e r => ?_) (fun s σ' H' e r => ?_) (fun s σ' H' e r => ?_) (fun r v H' e q => ?_)
  · subst e; exact h2 s σ' H' rfl r D k1 k2 k3 k4
  · subst e; exact k2 s σ' H' rfl r
  · subst e; exact k3 s σ' H' rfl r
  · subst e; exact k4 r v H' rfl q
/-- if without an else that returns (or leaves) on its true way: the rest is the false way -/
theorem d_ifT {ps : List Addr} {b : Bool} {tt : TT} {t1 : TS} {c1 c2 : Ctl S B R} (hb : ET ps tt σ H b) (dm : Dm H ps) (h1 : b = true → ∀ H1, Ex H H1 → Does t1 σ H1 c1 (fun _ _ _ => False) BR RR) (h2 : b = false → ∀ H1, Ex H H1 → Does u σ H1 c2 SR BR RR) :
    Does (tSeq (tIfS tt t1 tNext) u) σ H (cIf b c1 c2) SR BR RR := fun D k1 k2 k3 k4 => hb H (Ex.refl _) dm _ fun H1 e => by
  cases b with
  | true =>
    refine h1 rfl H1 e { D with nx := u D } (fun _ _ _ _ r => r.elim) k2 k3 k4
  | false => exact h2 rfl H1 e D k1 k2 k3 k4
/-- rows.append(e) -/
theorem d_app {i : Nat} {p : Addr} {l : List α} {x : α} {tl : TE} (st : Stt K N H0 ps0 Hb σ H (od i p l :: O) L) (hl : tl = tVar i) (he : ER K (psO (od i p l :: O) ps0) te σ H x) (hz : l.length < 100000)
    (hi : i < N) (k : ∀ H1, Stt K N H0 ps0 Hb σ H1 (od i p (l ++ [x]) :: O) L → Does u σ H1 c SR BR RR) : Does (tSeq (tDrop (tBM K "list" rAppend tl (tCons te tNil))) u) σ H c SR BR RR := fun D h1 h2 h3 h4 => by
  subst hl
  obtain ⟨a1, a2, a3, vs, a4, a5⟩ := st.owM List.mem_cons_self hi
  refine ⟨.ref p, a1, .inl ⟨rfl, vs, sq_of a4⟩, he H (Ex.refl _) st.dm _ fun v H1 e r => ?_⟩
  have a5' := a5.mono (mn_mono e)
  refine ⟨p, vs, v, rfl, rfl, e _ _ a4, sz_lt (by rw [a5.length]; exact hz), ?_⟩
  exact k _ ((st.to e).put (a5'.append (.cons r .nil))) D h1 h2 h3 h4
/-- rows[i] = e -/
theorem d_setO {i : Nat} {p : Addr} {l : List α} {x : α} {j : Int} {ti tl : TE} (st : Stt K N H0 ps0 Hb σ H (od i p l :: O) L) (hl : tl = tVar i) (he : ER K (psO (od i p l :: O) ps0) te σ H x) (hj : ER K (psO (od i p l :: O) ps0) ti σ H j) (hb : inB l j)
    (hi : i < N) (k : ∀ H1, Stt K N H0 ps0 Hb σ H1 (od i p (l.set ((ixN l.length j).getD 0) x) :: O) L → Does u σ H1 c SR BR RR) : Does (tSeq (tAsg te (gSub tl ti rSetL)) u) σ H c SR BR RR := fun D h1 h2 h3 h4 => by
  subst hl
  obtain ⟨a1, a2, a3, vs, a4, a5⟩ := st.owM List.mem_cons_self hi
  refine he H (Ex.refl _) st.dm _ fun v H1 e r => ⟨.ref p, a1, hj H1 e (st.dm.mono e) _ fun w H2 e2 r2 => ?_⟩
  obtain ⟨n, hn, hlt⟩ := inB_some hb
  have a5' := a5.mono (mn_mono (e.trans e2))
  refine ⟨p, vs, j, n, rfl, r2, e2 _ _ (e _ _ a4), by rw [a5.length]; exact hn, ?_⟩
  have := ((st.to (e.trans e2)).put (a5'.set (Rep.mono (mn_mono e2) r) n))
  rw [hn] at k
  exact k _ this D h1 h2 h3 h4
/-- rows = a list that is made here, owned from now on -/
theorem d_newO {i : Nat} {l : List α} {L' : List Bd} (st : Stt K N H0 ps0 Hb σ H O L) (he : ∀ H1, Ex H H1 → ∀ Q : VK, (∀ p vs H2, H1 p = none → Ex H1 H2 → H2 p = some (.lst vs) → Reps K (mn H2 (p :: psO O ps0)) vs l → Q (.ref p) H2) → te σ H1 Q)
    (hi : i < N) (hO : ∀ o ∈ O, o.i ≠ i) (hL : ∀ b ∈ L', b ∈ L ∧ b.i ≠ i) (k : ∀ p v H1, Stt K N H0 ps0 Hb (σ.set i v) H1 (od i p l :: O) L' → Does u (σ.set i v) H1 c SR BR RR) : Does (tSeq (tAsg te (gName i)) u) σ H c SR BR RR := fun D h1 h2 h3 h4 =>
  he H (Ex.refl _) _ fun p vs H2 hp e h r => k p _ H2 (st.newO e hp h (r.mono (mn_le fun a ha => List.mem_cons_of_mem _ ha)) r hi hO hL) D h1 h2 h3 h4
theorem new_nil {i : Nat} {ps : List Addr} : ∀ H1 : Hp, Ex H H1 → ∀ Q : VK, (∀ p vs H2, H1 p = none → Ex H1 H2 → H2 p = some (.lst vs) → Reps K (mn H2 (p :: ps)) vs ([] : List α) → Q (.ref p) H2) → tLst tNil σ H1 Q := fun H1 e Q q =>
  ⟨Nat.zero_le _, fun p hp => q p [] _ hp (Ex.new hp) upd_same .nil⟩

/-! ### what is walked -/
/-- what a walk hands out: the i-th of the items, in a heap that may have grown -/
def YIt (K : PySem.W.Frag) (Hb : Hp) (items : List α) : Nat → Hp → V → Hp → Prop := fun i H v H' => Ex H H' ∧ ∃ x, items[i]? = some x ∧ ∀ ps, Dm H ps → Ex Hb (mn H ps) → rep K (mn H' ps) v x
def EI (K : PySem.W.Frag) (ps : List Addr) (wi : TI) (σ : L2.St) (H : Hp) (items : List α) : Prop :=
  ∀ H1, Ex H H1 → Dm H1 ps → ∀ R : It → Hp → Prop, (∀ J H2, Ex H1 H2 → Walk J items.length (fun H' => Ex (mn H2 ps) H') (YIt K (mn H2 ps) items) → R J H2) → wi σ H1 R
theorem ei_list {ps : List Addr} {tl : TE} {l : List α} (h : ER K ps tl σ H l) : EI K ps (iList K tl) σ H l := fun H1 e d R q =>
  h H1 e d _ fun v H2 e2 r => by
    obtain ⟨a, vs, rfl, hv, rs⟩ := r
    refine ⟨a, rfl, ⟨vs, sq_of (mn_ex _ _ hv)⟩, q _ H2 e2 ?_⟩
    rw [← rs.length]
    refine (walk_list (K := K) (a := a) (xs := vs)).mono (fun H' g => sq_of (g _ _ hv)) fun i H' x H'' hi g y => ?_
    obtain ⟨rfl, hx⟩ := y
    obtain ⟨z, hz, rz⟩ := rs.get hx
    exact ⟨Ex.refl _, z, hz, fun ps' _ e' => Rep.mono e' rz⟩
theorem ei_tup {ps : List Addr} {tl : TE} {l : Tp α} (h : ER K ps tl σ H l) : EI K ps (iTup K tl) σ H l.l := fun H1 e d R q =>
  h H1 e d _ fun v H2 e2 r => by
    obtain ⟨a, vs, rfl, hv, rs⟩ := r
    refine ⟨a, rfl, ⟨vs, st_of (mn_ex _ _ hv)⟩, q _ H2 e2 ?_⟩
    rw [← rs.length]
    refine (walk_tup (K := K) (a := a) (xs := vs)).mono (fun H' g => st_of (g _ _ hv)) fun i H' x H'' hi g y => ?_
    obtain ⟨rfl, hx⟩ := y
    obtain ⟨z, hz, rz⟩ := rs.get hx
    exact ⟨Ex.refl _, z, hz, fun ps' _ e' => Rep.mono e' rz⟩
/-- 0, 1, .. -/
def rng (n : Int) : List Int := (List.range n.toNat).map Int.ofNat
def rng2 (a b : Int) : List Int := (List.range (b - a).toNat).map fun (i : Nat) => a + (i : Int)
theorem rng_len (n : Int) : (rng n).length = n.toNat := by unfold rng; rw [List.length_map, List.length_range]
theorem rng2_len (a b : Int) : (rng2 a b).length = (b - a).toNat := by unfold rng2; rw [List.length_map, List.length_range]
/-- a range's end, within bounds -/
def rB (n : Int) : Prop := -1000000 ≤ n ∧ n ≤ 1000000
theorem ei_rng {ps : List Addr} {tl : TE} {n : Int} (h : ER K ps tl σ H n) (hn : rB n) : EI K ps (iRng1 (tCons tl tNil)) σ H (rng n) := fun H1 e d R q =>
  h H1 e d _ fun v H2 e2 r => by
    obtain ⟨hn1, hn2⟩ := hn
    refine ⟨n, by rw [show v = .int n from r], by omega, by omega, q _ H2 e2 ?_⟩
    rw [rng_len]
    refine (walk_range (lo := 0) (n := n.toNat)).mono (fun _ _ => trivial) fun i H' x H'' hi g y => ?_
    obtain ⟨rfl, rfl⟩ := y
    refine ⟨Ex.refl _, (i : Int), by unfold rng; rw [List.getElem?_map, List.getElem?_range hi]; rfl, fun ps' _ _ => ?_⟩
    show V.int (0 + (i : Int)) = V.int (i : Int)
    rw [Int.zero_add]
theorem ei_rng2 {ps : List Addr} {tl tm : TE} {a b : Int} (h : ER K ps tl σ H a) (h' : ER K ps tm σ H b) (ha : rB a) (hb : rB b) : EI K ps (iRng2 (tCons tl (tCons tm tNil))) σ H (rng2 a b) := fun H1 e d R q =>
  h H1 e d _ fun v H2 e2 r => h' H2 (e.trans e2) (d.mono e2) _ fun w H3 e3 r3 => by
    obtain ⟨ha1, ha2⟩ := ha
    obtain ⟨hb1, hb2⟩ := hb
    refine ⟨a, b, by rw [show v = .int a from r, show w = .int b from r3], ⟨by omega, by omega, by omega, by omega⟩, q _ H3 (e2.trans e3) ?_⟩
    rw [rng2_len]
    refine (walk_range (lo := a) (n := (b - a).toNat)).mono (fun _ _ => trivial) fun i H' x H'' hi g y => ?_
    obtain ⟨rfl, rfl⟩ := y
    exact ⟨Ex.refl _, a + (i : Int), by unfold rng2; rw [List.getElem?_map, List.getElem?_range hi]; rfl, fun ps' _ _ => rfl⟩
/-- a text's signs -/
def chs (x : Tx) : List Tx := x.map fun c => [c]
theorem ei_str {ps : List Addr} {tl : TE} {x : Tx} (h : ER K ps tl σ H x) : EI K ps (iStr tl) σ H (chs x) := fun H1 e d R q =>
  h H1 e d _ fun v H2 e2 r => by
    refine ⟨tS x, r.1, q _ H2 e2 ?_⟩
    rw [show (chs x).length = (tS x).cps.size by simp [chs, tS]]
    refine (walk_str (z := tS x)).mono (fun _ _ => trivial) fun i H' y H'' hi g z => ?_
    obtain ⟨rfl, c, hc, rfl⟩ := z
    have hc' : x[i]? = some c := by simpa [tS] using hc
    refine ⟨Ex.refl _, [c], by unfold chs; rw [List.getElem?_map, hc']; rfl, fun ps' _ _ => ⟨rfl, r.2.one (List.mem_of_getElem? hc')⟩⟩

/-! ### for -/
theorem forL_cons {α S R : Type} {f : α → S → Ctl S S R} {x : α} {r : List α} {s : S} : forL f (x :: r) s = match f x s with | .nx s' => forL f r s' | .ct s' => forL f r s' | .bk s' => .inl s' | .rt v => .inr v := rfl
theorem drop_at {γ : Type} {l : List γ} {i : Nat} {x : γ} (h : l[i]? = some x) : l.drop i = x :: l.drop (i + 1) := by
  obtain ⟨h1, h2⟩ := List.getElem?_eq_some_iff.mp h
  exact h2 ▸ List.drop_eq_getElem_cons h1
/-- a for, its target's store by g -/
theorem d_forG {ps : List Addr} {wi : TI} {g : TG} {tb : TS} {items : List α} {S S' B R : Type} {f : α → S → Ctl S S R} {ok : α → S → Prop} {s0 : S} {k : S → Ctl S' B R} {SR : S' → L2.St → Hp → Prop} {BR : B → L2.St → Hp → Prop} {RR : R → V → Hp → Prop}
    {Of : S → List Od} {Lf : S → List Bd} (st : Stt K N H0 ps0 Hb σ H O L) (hi : EI K (psO O ps0) wi σ H items) (hok : forOk f ok items s0)
    (h0 : ∀ H1, Stt K N H0 ps0 (mn H1 (psO O ps0)) σ H1 O L → Stt K N H0 ps0 (mn H1 (psO O ps0)) σ H1 (Of s0) (Lf s0))
    (hb : ∀ (Hb' : Hp) (i : Nat) (x : α) (s : S) (v : V) (σ' : L2.St) (H' : Hp) (D : Ends), items[i]? = some x → ok x s → Stt K N H0 ps0 Hb' σ' H' (Of s) (Lf s) → rep K (mn H' (psO (Of s) ps0)) v x →
      (∀ s' σ2 H2, f x s = .nx s' → Stt K N H0 ps0 Hb' σ2 H2 (Of s') (Lf s') → D.nx σ2 H2) → (∀ s' σ2 H2, f x s = .bk s' → Stt K N H0 ps0 Hb' σ2 H2 (Of s') (Lf s') → D.bk σ2 H2) →
      (∀ s' σ2 H2, f x s = .ct s' → Stt K N H0 ps0 Hb' σ2 H2 (Of s') (Lf s') → D.ct σ2 H2) → (∀ r w H2, f x s = .rt r → RR r w H2 → D.rt w H2) → g v σ' H' fun σ2 H2 => tb D σ2 H2)
    (hr : ∀ s σ' H', forL f items s0 = .inl s → Stt K N H0 ps0 Hb σ' H' (Of s) (Lf s) → Does u σ' H' (k s) SR BR RR) : Does (tSeq (tFor wi g tb) u) σ H (forC items f s0 k) SR BR RR := fun D k1 k2 k3 k4 => by
  refine hi H (Ex.refl _) st.dm _ fun J H2 e2 w => ?_
  have stb : Ex Hb (mn H2 (psO O ps0)) := st.bs.trans (mn_mono e2)
  have fin : ∀ s σ' H', forL f items s0 = .inl s → Stt K N H0 ps0 (mn H2 (psO O ps0)) σ' H' (Of s) (Lf s) → u D σ' H' := fun s σ' H' e st' => by
    refine hr s σ' H' e (st'.base stb) D (fun z σ3 H3 q => k1 z σ3 H3 ?_) (fun z σ3 H3 q => k2 z σ3 H3 ?_) (fun z σ3 H3 q => k3 z σ3 H3 ?_) (fun z v H3 q => k4 z v H3 ?_) <;> (unfold forC; rw [e]; exact q)
  refine for_it w (fun i σ' H' => ∃ s, forOk f ok (items.drop i) s ∧ forL f (items.drop i) s = forL f items s0 ∧ Stt K N H0 ps0 (mn H2 (psO O ps0)) σ' H' (Of s) (Lf s)) ⟨s0, by rw [List.drop_zero]; exact hok, by rw [List.drop_zero], h0 H2 ((st.to e2).own)⟩
    (fun i σ' H' _ p => ?_) (fun i v σ' H' H'' hi p y => ?_) (fun σ' H' p => ?_)
  · obtain ⟨s, _, _, st'⟩ := p
    exact st'.bs.trans mn_ex
  · obtain ⟨s, ho, hf, st'⟩ := p
    obtain ⟨ey, x, hx, rx⟩ := y
    have hd := drop_at hx
    rw [hd] at ho hf
    obtain ⟨ho1, ho2⟩ := ho
    rw [forL_cons] at hf
    refine hb _ i x s v σ' H'' _ hx ho1 (st'.to ey) (rx _ st'.dm st'.bs) (fun s' σ2 H3 e st2 => ?_) (fun s' σ2 H3 e st2 => ?_) (fun s' σ2 H3 e st2 => ?_) (fun r v H3 e q => ?_)
    · rw [e] at ho2 hf; exact ⟨s', ho2, hf, st2⟩
    · rw [e] at hf; exact fin s' σ2 H3 hf.symm st2
    · rw [e] at ho2 hf; exact ⟨s', ho2, hf, st2⟩
    · rw [e] at hf
      refine k4 r v H3 ?_ q
      unfold forC; rw [← hf]
  · obtain ⟨s, _, hf, st'⟩ := p
    rw [List.drop_length] at hf
    exact fin s σ' H' hf.symm st'
/-- for x in .. -/
theorem d_for {wi : TI} {j : Nat} {tb : TS} {items : List α} {S S' B R : Type} {f : α → S → Ctl S S R} {ok : α → S → Prop} {s0 : S} {k : S → Ctl S' B R} {SR : S' → L2.St → Hp → Prop} {BR : B → L2.St → Hp → Prop} {RR : R → V → Hp → Prop}
    {Of : S → List Od} {Lf : S → List Bd} (st : Stt K N H0 ps0 Hb σ H O L) (hi : EI K (psO O ps0) wi σ H items) (hok : forOk f ok items s0)
    (h0 : ∀ H1 Hb', Stt K N H0 ps0 Hb' σ H1 O L → Stt K N H0 ps0 Hb' σ H1 (Of s0) (Lf s0))
    (hjN : j < N) (hjO : ∀ s, ∀ o ∈ Of s, o.i ≠ j) (hjL : ∀ s, ∀ b ∈ Lf s, b.i ≠ j)
    (hb : ∀ Hb' x s σ' H', x ∈ items → ok x s → Stt K N H0 ps0 Hb' σ' H' (Of s) (bd j x :: Lf s) → Does tb σ' H' (f x s) (fun s σ H => Stt K N H0 ps0 Hb' σ H (Of s) (Lf s)) (fun s σ H => Stt K N H0 ps0 Hb' σ H (Of s) (Lf s)) RR)
    (hr : ∀ s σ' H', forL f items s0 = .inl s → Stt K N H0 ps0 Hb σ' H' (Of s) (Lf s) → Does u σ' H' (k s) SR BR RR) : Does (tSeq (tFor wi (gName j) tb) u) σ H (forC items f s0 k) SR BR RR :=
  d_forG (ok := ok) (ps := []) st hi hok (fun H1 s1 => h0 H1 _ s1) (fun Hb' i x s v σ' H' D hx ho st' r n1 n2 n3 n4 => by
    show tb D (σ'.set j (some v)) H'
    exact hb Hb' x s _ H' (List.mem_of_getElem? hx) ho (st'.set r hjN (hjO s) fun b hb => ⟨hb, hjL s b hb⟩) D n1 n2 n3 n4) hr
/-- for a, b in .. -/
theorem d_for2 {α1 α2 : Type} [Rep α1] [Rep α2] {wi : TI} {j1 j2 : Nat} {tb : TS} {items : List (T (α1 × α2 × Unit))} {S S' B R : Type} {f : T (α1 × α2 × Unit) → S → Ctl S S R} {ok : T (α1 × α2 × Unit) → S → Prop} {s0 : S} {k : S → Ctl S' B R} {SR : S' → L2.St → Hp → Prop} {BR : B → L2.St → Hp → Prop} {RR : R → V → Hp → Prop}
    {Of : S → List Od} {Lf : S → List Bd} (st : Stt K N H0 ps0 Hb σ H O L) (hi : EI K (psO O ps0) wi σ H items) (hok : forOk f ok items s0)
    (h0 : ∀ H1 Hb', Stt K N H0 ps0 Hb' σ H1 O L → Stt K N H0 ps0 Hb' σ H1 (Of s0) (Lf s0))
    (hjN : j1 < N ∧ j2 < N ∧ j1 ≠ j2) (hjO : ∀ s, ∀ o ∈ Of s, o.i ≠ j1 ∧ o.i ≠ j2) (hjL : ∀ s, ∀ b ∈ Lf s, b.i ≠ j1 ∧ b.i ≠ j2)
    (hb : ∀ Hb' x s σ' H', x ∈ items → ok x s → Stt K N H0 ps0 Hb' σ' H' (Of s) (bd j2 x.t.2.1 :: bd j1 x.t.1 :: Lf s) → Does tb σ' H' (f x s) (fun s σ H => Stt K N H0 ps0 Hb' σ H (Of s) (Lf s)) (fun s σ H => Stt K N H0 ps0 Hb' σ H (Of s) (Lf s)) RR)
    (hr : ∀ s σ' H', forL f items s0 = .inl s → Stt K N H0 ps0 Hb σ' H' (Of s) (Lf s) → Does u σ' H' (k s) SR BR RR) : Does (tSeq (tFor wi (gTup K 2 (gCons (gName j1) (gCons (gName j2) gNil))) tb) u) σ H (forC items f s0 k) SR BR RR :=
  d_forG (ok := ok) (ps := []) st hi hok (fun H1 s1 => h0 H1 _ s1) (fun Hb' i x s v σ' H' D hx ho st' r n1 n2 n3 n4 => by
    obtain ⟨a, vs, rfl, hv, v1, r1, rfl, rr1, v2, r2, rfl, rr2, rfl⟩ := r
    refine ⟨a, _, rfl, st_of (mn_ex _ _ hv), rfl, v1, _, rfl, v2, _, rfl, rfl, ?_⟩
    have s1 := st'.set (L' := Lf s) rr1 hjN.1 (fun o ho => (hjO s o ho).1) fun b hb => ⟨hb, (hjL s b hb).1⟩
    refine hb Hb' x s _ H' (List.mem_of_getElem? hx) ho (s1.set (L' := bd j1 x.t.1 :: Lf s) rr2 hjN.2.1 (fun o ho => (hjO s o ho).2) fun b hb => ⟨hb, ?_⟩) D n1 n2 n3 n4
    obtain q | q := List.mem_cons.mp hb
    · rw [q]; exact hjN.2.2
    · exact (hjL s b q).2) hr

/-! ### comprehensions -/
/-- the slots that an expression reads -/
structure Kn (K : PySem.W.Frag) (N : Nat) (ps : List Addr) (σ : L2.St) (H : Hp) (L : List Bd) : Prop where
  len : σ.length = N
  kn : ∀ b ∈ L, @Sl b.α b.R K ps σ H b.i b.x
theorem Stt.k (st : Stt K N H0 ps0 Hb σ H O L) : Kn K N (psO O ps0) σ H L := ⟨st.len, st.kn⟩
theorem Kn.to {ps : List Addr} (k : Kn K N ps σ H L) (e : Ex H H1) : Kn K N ps σ H1 L := ⟨k.len, fun b hb => @Sl.mono _ _ _ _ _ b.R _ _ _ (k.kn b hb) e⟩
theorem Kn.var {ps : List Addr} {i : Nat} {x : α} (k : Kn K N ps σ H L) (h : bd i x ∈ L) : ER K ps (tVar i) σ H x := er_var (k.kn _ h)
theorem Kn.less {ps ps' : List Addr} {L' : List Bd} (k : Kn K N ps σ H L) (h : ∀ b ∈ L', b ∈ L) (hp : ∀ a ∈ ps', a ∈ ps) : Kn K N ps' σ H L' := ⟨k.len, fun b hb => by
  obtain ⟨v, a, r⟩ := k.kn b (h b hb)
  exact ⟨v, a, @Rep.mono _ b.R _ _ _ _ _ (mn_le hp) r⟩⟩
theorem wipe_none {σ : L2.St} {j : Nat} : ∀ {vs : List Nat}, j ∈ vs → j < σ.length → (wipe σ vs)[j]? = some none
  | v :: vs, h, hl => by
    unfold wipe
    by_cases e : v = j
    · rw [e, List.getElem?_set_self (by rw [wipe_length]; exact hl)]
    · rw [List.getElem?_set_ne e]
      exact wipe_none ((List.mem_cons.mp h).resolve_left (fun q => e q.symm)) hl
theorem wipe_at {σ : L2.St} {i : Nat} : ∀ {vs : List Nat}, i ∉ vs → (wipe σ vs)[i]? = σ[i]?
  | [], _ => rfl
  | v :: vs, h => by
    unfold wipe
    rw [List.getElem?_set_ne (fun e => h (by rw [e]; exact List.mem_cons_self))]
    exact wipe_at fun q => h (List.mem_cons_of_mem _ q)
theorem wipe_set {σ : L2.St} {j : Nat} {o : Option V} {vs : List Nat} (h : j ∈ vs) : wipe (σ.set j o) vs = wipe σ vs := by
  apply List.ext_getElem?
  intro i
  by_cases hi : i ∈ vs
  · by_cases hl : i < σ.length
    · rw [wipe_none hi (by rw [List.length_set]; exact hl), wipe_none hi hl]
    · rw [List.getElem?_eq_none (by rw [wipe_length, List.length_set]; omega), List.getElem?_eq_none (by rw [wipe_length]; omega)]
  · rw [wipe_at hi, wipe_at hi, List.getElem?_set_ne (fun e => hi (by rw [← e]; exact h))]
theorem wipe_wipe {σ : L2.St} {vs : List Nat} : wipe (wipe σ vs) vs = wipe σ vs := by
  apply List.ext_getElem?
  intro i
  by_cases hi : i ∈ vs
  · by_cases hl : i < σ.length
    · rw [wipe_none hi (by rw [wipe_length]; exact hl), wipe_none hi hl]
    · rw [List.getElem?_eq_none (by rw [wipe_length, wipe_length]; omega), List.getElem?_eq_none (by rw [wipe_length]; omega)]
  · rw [wipe_at hi]
theorem Kn.blk {ps ps' : List Addr} {vs : List Nat} {j : Nat} {v : V} {x : α} {L' : List Bd} (k : Kn K N ps σ H L) (e : Ex (mn H ps) (mn H1 ps')) (r : rep K (mn H1 ps') v x) (hj : j < N) (hL : ∀ b ∈ L', b ∈ L ∧ b.i ∉ vs ∧ b.i ≠ j) : Kn K N ps' ((wipe σ vs).set j (some v)) H1 (bd j x :: L') :=
  ⟨by rw [List.length_set, wipe_length]; exact k.len, fun b hb => by
    obtain q | q := List.mem_cons.mp hb
    · subst q
      exact ⟨v, by rw [List.getElem?_set_self (by rw [wipe_length, k.len]; exact hj)], r⟩
    · obtain ⟨h1, h2, h3⟩ := hL b q
      obtain ⟨w, a, r'⟩ := k.kn b h1
      exact ⟨w, by rw [List.getElem?_set_ne (Ne.symm h3), wipe_at h2]; exact a, @Rep.mono _ b.R _ _ _ _ _ e r'⟩⟩
theorem Kn.set {ps : List Addr} {j : Nat} {v : V} {x : α} {L' : List Bd} (k : Kn K N ps σ H L) (r : rep K (mn H ps) v x) (hj : j < N) (hL : ∀ b ∈ L', b ∈ L ∧ b.i ≠ j) : Kn K N ps (σ.set j (some v)) H (bd j x :: L') :=
  ⟨by rw [List.length_set]; exact k.len, fun b hb => by
    obtain q | q := List.mem_cons.mp hb
    · subst q
      exact ⟨v, by rw [List.getElem?_set_self (by rw [k.len]; exact hj)], r⟩
    · obtain ⟨h1, h3⟩ := hL b q
      obtain ⟨w, a, r'⟩ := k.kn b h1
      exact ⟨w, by rw [List.getElem?_set_ne (Ne.symm h3)]; exact a, r'⟩⟩
/-- [e for target in .. if ..], its target's store by g -/
theorem er_lcG {ps : List Addr} {wi : TI} {g : TG} {tt : TT} {te : TE} {vs : List Nat} {items : List α} {p : α → Bool} {h : α → β} (hi : EI K ps wi σ H items) (hz : items.length ≤ 100000)
    (hb : ∀ (ps' : List Addr) (x : α) (v : V) (H' : Hp) (P : L2.St → Hp → Prop), x ∈ items → Ex (mn H ps) (mn H' ps') → rep K (mn H' ps') v x → Dm H' ps' → (∀ σ2, wipe σ2 vs = wipe σ vs → ET ps' tt σ2 H' (p x) → (p x = true → ER K ps' te σ2 H' (h x)) → P σ2 H') → g v (wipe σ vs) H' P) :
    ER K ps (tLc wi g tt te vs) σ H ((items.filter p).map h) := fun H1 e d Q q =>
  hi H1 e d _ fun J H2 e2 w D hD => by
    have d2 := d.mono e2
    have hDps : D ∉ ps := d2.notin hD
    have eD : Ex H2 (upd H2 D (.lst [])) := Ex.new hD
    let Pv : Nat → Hp → Prop := fun i H' => ∃ ws, H' D = some (.lst ws) ∧ (∀ a o, a ≠ D → H2 a = some o → H' a = some o) ∧ Reps K (mn H' (D :: ps)) ws (((items.take i).filter p).map h) ∧ Ex (mn H2 ps) (mn H' (D :: ps))
    refine lc_it w (D := D) (vs := vs) (σ := σ) Pv ⟨[], upd_same, fun a o ha ho => by rw [upd_ne ha]; exact ho, .nil, mn_new eD hD⟩ (fun i H' _ pv => ?_) (fun i v H' H'' hi pv y => ?_) (fun H' pv => ?_)
    · obtain ⟨ws, _, _, _, h4⟩ := pv
      exact h4.trans mn_ex
    · obtain ⟨ws, h1, h2, h3, h4⟩ := pv
      obtain ⟨ey, x, hx, rx⟩ := y
      have dD : Dm H' (D :: ps) := fun a ha hn => by
        obtain z | z := List.mem_cons.mp ha
        · rw [z, h1] at hn; cases hn
        · cases q1 : H2 a with
          | none => exact d2 a z q1
          | some o => rw [h2 a o (fun z2 => hDps (by rw [← z2]; exact z)) q1] at hn; cases hn
      have rv := rx (D :: ps) dD h4
      have dD2 : Dm H'' (D :: ps) := dD.mono ey
      have stp : ((items.take (i + 1)).filter p).map h = ((items.take i).filter p).map h ++ (if p x = true then [h x] else []) := by
        rw [List.take_add_one, hx, List.filter_append, List.map_append]
        congr 1
        show (List.filter p [x]).map h = _
        rw [List.filter_cons]
        by_cases hp : p x = true
        · rw [if_pos hp, if_pos hp]; rfl
        · rw [if_neg hp, if_neg hp]; rfl
      have hlen : (((items.take i).filter p).map h).length ≤ i := by
        rw [List.length_map]
        exact Nat.le_trans (List.length_filter_le _ _) (by rw [List.length_take]; exact Nat.min_le_left _ _)
      refine hb (D :: ps) x v H'' _ (List.mem_of_getElem? hx) (((mn_mono (e.trans e2)).trans h4).trans (mn_mono ey)) rv dD2 (fun σ2 hw ht he => ⟨hw, ht H'' (Ex.refl _) dD2 _ fun H3 e3 => ?_⟩)
      cases hp : p x with
      | true =>
        refine he hp H3 e3 (dD2.mono e3) _ fun y H4 e4 ry => ⟨ws, e4 _ _ (e3 _ _ (ey _ _ h1)), sz_lt (by rw [h3.length]; omega), ws ++ [y], upd_same, fun a o ha ho => by rw [upd_ne ha]; exact e4 _ _ (e3 _ _ (ey _ _ (h2 a o ha ho))), ?_, ?_⟩
        · rw [mn_upd List.mem_cons_self, stp, if_pos hp]
          exact (h3.mono (mn_mono ((ey.trans e3).trans e4))).append (.cons ry .nil)
        · rw [mn_upd List.mem_cons_self]
          exact h4.trans (mn_mono ((ey.trans e3).trans e4))
      | false =>
        refine ⟨ws, e3 _ _ (ey _ _ h1), fun a o ha ho => e3 _ _ (ey _ _ (h2 a o ha ho)), ?_, h4.trans (mn_mono (ey.trans e3))⟩
        rw [stp, if_neg (by rw [hp]; exact Bool.false_ne_true), List.append_nil]
        exact h3.mono (mn_mono (ey.trans e3))
    · obtain ⟨ws, h1, h2, h3, h4⟩ := pv
      rw [List.take_length] at h3
      have exH : Ex H2 H' := fun a o ho => h2 a o (fun z => by rw [z, hD] at ho; cases ho) ho
      exact q _ H' (e2.trans exH) ⟨D, ws, rfl, mn_at h1 hDps, h3.mono (mn_le fun a ha => List.mem_cons_of_mem _ ha)⟩
/-- [e for x in .. if ..] -/
theorem er_lc {ps : List Addr} {wi : TI} {j : Nat} {tt : TT} {te : TE} {vs : List Nat} {items : List α} {p : α → Bool} {h : α → β} {L' : List Bd} (kn : Kn K N ps σ H L) (hi : EI K ps wi σ H items) (hz : items.length ≤ 100000) (hj : j ∈ vs) (hjN : j < N) (hL : ∀ b ∈ L', b ∈ L ∧ b.i ∉ vs ∧ b.i ≠ j)
    (ht : ∀ (ps' : List Addr) (x : α) (σ' : L2.St) (H' : Hp), x ∈ items → Kn K N ps' σ' H' (bd j x :: L') → ET ps' tt σ' H' (p x)) (he : ∀ (ps' : List Addr) (x : α) (σ' : L2.St) (H' : Hp), x ∈ items → p x = true → Kn K N ps' σ' H' (bd j x :: L') → ER K ps' te σ' H' (h x)) :
    ER K ps (tLc wi (gName j) tt te vs) σ H ((items.filter p).map h) :=
  er_lcG hi hz fun ps' x v H' P hx e r d hP => by
    have k2 := kn.blk (vs := vs) (j := j) (L' := L') e r hjN hL
    exact hP _ (by rw [wipe_set hj, wipe_wipe]) (ht ps' x _ H' hx k2) (fun hp => he ps' x _ H' hx hp k2)
/-- [e for a, b in .. if ..] -/
theorem er_lc2 {α1 α2 : Type} [Rep α1] [Rep α2] {ps : List Addr} {wi : TI} {j1 j2 : Nat} {tt : TT} {te : TE} {vs : List Nat} {items : List (T (α1 × α2 × Unit))} {p : T (α1 × α2 × Unit) → Bool} {h : T (α1 × α2 × Unit) → β} {L' : List Bd} (kn : Kn K N ps σ H L) (hi : EI K ps wi σ H items) (hz : items.length ≤ 100000)
    (hj : j1 ∈ vs ∧ j2 ∈ vs ∧ j1 ≠ j2) (hjN : j1 < N ∧ j2 < N) (hL : ∀ b ∈ L', b ∈ L ∧ b.i ∉ vs)
    (ht : ∀ (ps' : List Addr) (x : T (α1 × α2 × Unit)) (σ' : L2.St) (H' : Hp), x ∈ items → Kn K N ps' σ' H' (bd j2 x.t.2.1 :: bd j1 x.t.1 :: L') → ET ps' tt σ' H' (p x)) (he : ∀ (ps' : List Addr) (x : T (α1 × α2 × Unit)) (σ' : L2.St) (H' : Hp), x ∈ items → p x = true → Kn K N ps' σ' H' (bd j2 x.t.2.1 :: bd j1 x.t.1 :: L') → ER K ps' te σ' H' (h x)) :
    ER K ps (tLc wi (gTup K 2 (gCons (gName j1) (gCons (gName j2) gNil))) tt te vs) σ H ((items.filter p).map h) :=
  er_lcG hi hz fun ps' x v H' P hx e r d hP => by
    obtain ⟨a, us, rfl, hv, v1, r1, rfl, rr1, v2, r2, rfl, rr2, rfl⟩ := r
    have k1 := kn.blk (vs := vs) (j := j1) (L' := L') e rr1 hjN.1 (fun b hb => ⟨(hL b hb).1, (hL b hb).2, fun z => (hL b hb).2 (by rw [z]; exact hj.1)⟩)
    have k2 := k1.set (j := j2) (L' := bd j1 x.t.1 :: L') rr2 hjN.2 (fun b hb => ⟨hb, by
      obtain z | z := List.mem_cons.mp hb
      · rw [z]; exact hj.2.2
      · exact fun z2 => (hL b z).2 (by rw [z2]; exact hj.2.1)⟩)
    refine ⟨a, _, rfl, st_of (mn_ex _ _ hv), rfl, v1, _, rfl, v2, _, rfl, rfl, ?_⟩
    exact hP _ (by rw [wipe_set hj.2.1, wipe_set hj.1, wipe_wipe]) (ht ps' x _ H' hx k2) (fun hp => he ps' x _ H' hx hp k2)
theorem et_yes {ps : List Addr} : ET ps tYes σ H true := fun H1 _ _ Q q => q H1 (Ex.refl _)
theorem all_map {γ δ : Type} (l : List γ) (f : γ → δ) : (l.filter fun _ => true).map f = l.map f := by
  rw [List.filter_eq_self.mpr fun _ _ => rfl]
end
end Cx

/-! CxZip: zip of lists, tuples and texts in any mix. -/
namespace Cx
open PySem PySem.Spec PyProof.Rows L2 Evl
open Rep (rep)

/-- the kinds of what may be zipped -/
inductive Kd where | l | t | s
def Src (K : PySem.W.Frag) (H : Hp) (k : Kd) (v : V) (xs : List V) : Prop := match k, v with
  | .l, .ref a => SqL K H a xs
  | .t, .ref a => SqT K H a xs
  | .s, .str z => xs = z.cps.toList.map (fun c => V.str ⟨#[c]⟩)
  | _, _ => False
def fpO (it : Addr) (k : Kd) (v : V) : List Addr := match k, v with
  | .s, _ => [it]
  | _, .ref a => [it, a]
  | _, _ => [it]
def ItSt (k : Kd) (v : V) (it : Addr) (i : Nat) (h : Heap) : Prop := match k, v with
  | .l, .ref a => h.IsListIter it a i
  | .t, .ref a => h.IsTupleIter it a i
  | .s, .str z => ∃ t, h.IsStrIter it (strIterType z) z t i
  | _, _ => False
theorem ItSt.obj {k : Kd} {v : V} {it : Addr} {i : Nat} {h : Heap} (x : ItSt k v it i h) : ∃ o, h.get? it = some o ∧ ∀ u, o.data ≠ .cell u := by
  cases k <;> cases v <;> first
    | exact x.elim
    | (obtain ⟨o, e, _, d⟩ := x; exact ⟨o, e, fun u q => by rw [d] at q; cases q⟩)
    | (obtain ⟨t, o, e, _, d⟩ := x; exact ⟨o, e, fun u q => by rw [d] at q; cases q⟩)
theorem ItSt.keep {k : Kd} {v : V} {it : Addr} {i : Nat} {h h' : Heap} (x : ItSt k v it i h) (e : ∀ o, h.get? it = some o → h'.get? it = some o) : ItSt k v it i h' := by
  cases k <;> cases v <;> first
    | exact x.elim
    | exact Heap.IsListIter.at x e
    | exact Heap.IsTupleIter.at x e
    | (obtain ⟨t, o, q, r⟩ := x; exact ⟨t, o, e o q, r⟩)
section
variable {X : L2.Cx} {pins : List (Addr × Obj)} {σ : L2.St} {H : Hp} {s : Shared}
theorem Src.inj (I : Inv X pins σ H s) {k : Kd} {v : V} {xs ys : List V} (h : Src X.K H k v xs) (h' : Src X.K H k v ys) : xs = ys := by
  cases k <;> cases v <;> first
    | exact h.elim
    | exact I.list_inj h h'
    | exact I.tuple_inj h h'
    | exact h.trans h'.symm
/-- what an iterator over it draws -/
theorem drw (I : Inv X pins σ H s) (hc : X.calm = true) {k : Kd} {v : V} {xs : List V} {it : Addr} {i : Nat} (h : Src X.K H k v xs) (st : ItSt k v it i s.heap) (hne : ∀ a, v = .ref a → a ≠ it) :
    ∃ (P : Nat → Value → Prop) (St : Nat → Heap → Prop), Draws X.prog X.w X.A.in1 it (fpO it k v) xs.length P St ∧ St i s.heap ∧ (∀ j u, P j u → ∃ x, xs[j]? = some x ∧ RelV x u) ∧ ∀ j h, St j h → ItSt k v it j h := by
  have hh : X.A.in1.handled = none := I.ok.hd hc
  cases k with
  | l =>
    cases v with
    | ref a =>
      obtain ⟨its, rv, p, _⟩ := I.list h
      have hl : its.toArray.size = xs.length := by rw [List.size_toArray]; exact rv.length.symm
      refine ⟨_, _, hl ▸ Draws.list hh it a (hne a rfl) its.toArray, ⟨st, p.isList⟩, fun j u e => ?_, fun j h q => q.1⟩
      have e' : its[j]? = some u := by simpa using e
      cases hx : xs[j]? with
      | none => rw [rv.none_of hx] at e'; cases e'
      | some x =>
        obtain ⟨u', h1, h2⟩ := rv.get hx
        rw [h1] at e'; cases e'
        exact ⟨x, rfl, h2⟩
    | _ => exact h.elim
  | t =>
    cases v with
    | ref a =>
      obtain ⟨its, rv, p, _⟩ := I.tuple h
      have hl : its.toArray.size = xs.length := by rw [List.size_toArray]; exact rv.length.symm
      refine ⟨_, _, hl ▸ Draws.tuple hh it a (hne a rfl) its.toArray, ⟨st, p⟩, fun j u e => ?_, fun j h q => q.1⟩
      have e' : its[j]? = some u := by simpa using e
      cases hx : xs[j]? with
      | none => rw [rv.none_of hx] at e'; cases e'
      | some x =>
        obtain ⟨u', h1, h2⟩ := rv.get hx
        rw [h1] at e'; cases e'
        exact ⟨x, rfl, h2⟩
    | _ => exact h.elim
  | s =>
    cases v with
    | str z =>
      obtain ⟨t, ht⟩ := st
      have hl : z.cps.size = xs.length := by rw [show xs = _ from h, List.length_map, Array.length_toList]
      refine ⟨_, _, hl ▸ Draws.text hh it z t, ht, fun j u e => ?_, fun j h q => ⟨t, q⟩⟩
      obtain ⟨c, tk, hcj, rfl⟩ := e
      refine ⟨.str ⟨#[c]⟩, ?_, ⟨tk, rfl⟩⟩
      rw [show xs = _ from h, List.getElem?_map, Array.getElem?_toList, hcj]; rfl
    | _ => exact h.elim
end
/-- the pairs of both, each a new tuple -/
def ItG (K : PySem.W.Frag) (k1 k2 : Kd) (v1 v2 : V) : It :=
  ⟨fun i H => ∃ xs ys : List V, Src K H k1 v1 xs ∧ Src K H k2 v2 ys ∧ i < xs.length ∧ i < ys.length,
    fun i H v H' => ∃ T x y, v = .ref T ∧ H T = none ∧ H' = upd H T (.tup [x, y]) ∧ (∀ xs, Src K H k1 v1 xs → xs[i]? = some x) ∧ ∀ ys, Src K H k2 v2 ys → ys[i]? = some y,
    fun i H => ∃ xs ys : List V, Src K H k1 v1 xs ∧ Src K H k2 v2 ys ∧ i ≤ xs.length ∧ i ≤ ys.length ∧ (i = xs.length ∨ i = ys.length)⟩
/-- what holds of five places holds of each of them -/
theorem at5 {p : Addr → Prop} {a b c d e x : Addr} (m : x ∈ [a, b, c, d, e]) (ha : p a) (hb : p b) (hc : p c) (hd : p d) (he : p e) : p x := by
  simp only [List.mem_cons, List.not_mem_nil, or_false] at m
  obtain rfl | rfl | rfl | rfl | rfl := m <;> assumption
theorem off5 {a b c d e x : Addr} (n : x ∉ [a, b, c, d, e]) : x ≠ a ∧ x ≠ b ∧ x ≠ c ∧ x ≠ d ∧ x ≠ e := by
  simpa only [List.mem_cons, List.not_mem_nil, or_false, not_or] using n
/-- a zip object with its two iterators, i turns on -/
structure ZipNow (k1 k2 : Kd) (v1 v2 : V) (z TI TO i1 i2 : Addr) (i : Nat) (h : Heap) : Prop where
  zip : IsZip h z TI TO .none
  its : IsTupOf2 h TI (.ref i1) (.ref i2)
  res : ∃ x y, IsTupOf2 h TO x y
  one : ItSt k1 v1 i1 i h
  two : ItSt k2 v2 i2 i h
section
variable {k1 k2 : Kd} {v1 v2 : V} {z TI TO i1 i2 : Addr} {i : Nat} {h h' : Heap}
theorem ZipNow.has (n : ZipNow k1 k2 v1 v2 z TI TO i1 i2 i h) {c : Addr} (m : c ∈ [z, TI, TO, i1, i2]) : ∃ o, h.get? c = some o ∧ ∀ u, o.data ≠ .cell u := by
  obtain ⟨x, y, r⟩ := n.res
  exact at5 (p := fun c => ∃ o, h.get? c = some o ∧ ∀ u, o.data ≠ .cell u) m ⟨_, n.zip, fun _ => by simp⟩ ⟨_, n.its, fun _ => by simp⟩ ⟨_, r, fun _ => by simp⟩ n.one.obj n.two.obj
theorem ZipNow.keep (n : ZipNow k1 k2 v1 v2 z TI TO i1 i2 i h) (k : ∀ c ∈ [z, TI, TO, i1, i2], ∀ o, h.get? c = some o → h'.get? c = some o) : ZipNow k1 k2 v1 v2 z TI TO i1 i2 i h' :=
  ⟨k _ (by simp) _ n.zip, k _ (by simp) _ n.its, n.res.imp fun _ => Exists.imp fun _ r => k _ (by simp) _ r, n.one.keep (k _ (by simp)), n.two.keep (k _ (by simp))⟩
end
/-- a tuple of two, just laid -/
theorem pair_ok {P : Program} {w : World} {H : Hp} {g : Heap} {T : Addr} {x y : V} {a b : Value} (ra : RelV x a) (rb : RelV y b) (at_ : g.get? T = some { cls := .type "tuple", data := .seq #[a, b] }) : ObjOk P w H g T (.tup [x, y]) :=
  ⟨(by decide : 2 ≤ sizeLine), _, .cons ra (.cons rb .nil), _, at_, rfl, _, rfl⟩
theorem turn_zipG {P : Program} {w : World} {K : PySem.W.Frag} {elts : List Expr} {kk : Nat} {tpos : Pos} {k1 k2 : Kd} {v1 v2 : V} {z TI TO i1 i2 : Addr} (D : ZipSep2 z TI TO i1 i2 (fpO i1 k1 v1) (fpO i2 k2 v2))
    (n1 : ∀ a, v1 = .ref a → a ≠ i1) (n2 : ∀ a, v2 = .ref a → a ≠ i2) :
    Turn P w K (.Tuple elts kk tpos) (ItG K k1 k2 v1 v2) [z, TI, TO, i1, i2] z (ZipNow k1 k2 v1 v2 z TI TO i1 i2) where
  mem := List.mem_cons_self
  obj := fun _ _ now _ m => now.has m
  keep := fun _ _ _ now k => now.keep k
  self := fun _ _ _ _ _ now k => wpAny_pyIter_zip now.zip k
  item := by
    intro X eP eW eK calm n ps s σ H E inv own now can
    subst eP eW eK
    obtain ⟨xs, ys, sx, sy, lx, ly⟩ := can
    obtain ⟨G1, W1, dr1, w1, get1, end1⟩ := drw inv calm sx now.one n1
    obtain ⟨G2, W2, dr2, w2, get2, end2⟩ := drw inv calm sy now.two n2
    obtain ⟨_, _, res⟩ := now.res
    refine wpAny_pyNext_zipD2_item D dr1 dr2 now.zip now.its res w1 w2 lx ly fun a b g tk ga gb zip' res' w1' w2' born _ rest => ?_
    obtain ⟨x, atx, rx⟩ := get1 n a ga
    obtain ⟨y, aty, ry⟩ := get2 n b gb
    refine ⟨_, rfl, wpAny_letOwnedTupleGo_zip (s := { s with heap := g, toks := tk }) zip' fun g' zip'' same => ?_⟩
    have zlt := Heap.lt_size now.zip
    have born' := (same.2 _ (Nat.ne_of_gt zlt)).trans born
    have inv' := inv.turnedNew (t' := tk) (ch := [z, TI, TO, i1, i2]) (fun c o off at_ => by
      obtain ⟨cz, _, cO, c1, c2⟩ := off5 off
      exact (same.2 c cz).trans (rest c o cz cO c1 c2 at_)) own (Nat.le_refl _) (pair_ok (H := upd H s.heap.objs.size (.tup [x, y])) rx ry born')
    refine ⟨.ref s.heap.objs.size, _, inv', rfl, ?_, ?_, fun c m => ?_⟩
    · exact ⟨_, x, y, rfl, inv.hok.fresh (Nat.le_refl _), rfl, fun l sl => (Src.inj inv sl sx).symm ▸ atx, fun l sl => (Src.inj inv sl sy).symm ▸ aty⟩
    · exact ⟨zip'', (same.2 _ D.TIz).trans (rest _ _ D.TIz D.TITO D.TIi1 D.TIi2 now.its), ⟨a, b, (same.2 _ D.TOz).trans res'⟩, (end1 _ _ w1').keep fun o q => (same.2 _ D.zi1.symm).trans q, (end2 _ _ w2').keep fun o q => (same.2 _ D.zi2.symm).trans q⟩
    · obtain ⟨_, here, _⟩ := now.has m
      exact (upd_ne (Nat.ne_of_lt (Heap.lt_size here))).trans (own c m).1
  done := by
    intro X eP eW eK calm n ps s σ H E inv own now over
    subst eP eW eK
    obtain ⟨xs, ys, sx, sy, lx, ly, ends⟩ := over
    obtain ⟨G1, W1, dr1, w1, _⟩ := drw inv calm sx now.one n1
    obtain ⟨G2, W2, dr2, w2, _⟩ := drw inv calm sy now.two n2
    obtain ⟨_, _, res⟩ := now.res
    refine wpAny_pyNext_zipD2_end D dr1 dr2 now.zip now.its res w1 w2 lx ly ends fun g tk rest => ⟨rfl, ?_⟩
    refine inv.turnedL (t' := tk) (ch := [z, TI, TO, i1, i2]) (fun c o off at_ => ?_) own
    obtain ⟨cz, _, cO, c1, c2⟩ := off5 off
    exact rest c o cz cO c1 c2 at_
def iZipG (K : PySem.W.Frag) (k1 k2 : Kd) (ta : TA) : TI := fun σ H R => ta σ H fun vs H1 => ∃ v1 v2 xs ys, vs = [v1, v2] ∧ Src K H1 k1 v1 xs ∧ Src K H1 k2 v2 ys ∧ R (ItG K k1 k2 v1 v2) H1
/-- how iter of it begins -/
def bgO (k : Kd) (u : Value) : Obj := match k, u with
  | .l, .ref a => { cls := .type "list_iterator", data := .fields #[.ref a, .int 0 0] }
  | .t, .ref a => { cls := .type "tuple_iterator", data := .fields #[.ref a, .int 0 0] }
  | _, .str x t => { cls := .type (strIterType x), data := .fields #[.str x t, .int 0 0] }
  | _, _ => { cls := .type "list_iterator", data := .fields #[] }
theorem begins_of {X : L2.Cx} {pins : List (Addr × Obj)} {σ : L2.St} {H : Hp} {s : Shared} (I : Inv X pins σ H s) {k : Kd} {v : V} {u : Value} {xs : List V} (h : Src X.K H k v xs) (r : RelV v u) :
    ∃ Hp' : Heap → Prop, Begins u (bgO k u) Hp' ∧ Hp' s.heap ∧ (∀ (h' : Heap) (it : Addr), h'.get? it = some (bgO k u) → ItSt k v it 0 h') ∧ ∀ a, v = .ref a → a < s.heap.objs.size := by
  cases k with
  | l =>
    cases v with
    | ref a =>
      cases r
      obtain ⟨its, rv, p, _⟩ := I.list h
      exact ⟨_, begins_list a its.toArray, p.isList, fun h' it e => ⟨_, e, rfl, rfl⟩, fun b e => by cases e; exact p.lt⟩
    | _ => exact h.elim
  | t =>
    cases v with
    | ref a =>
      cases r
      obtain ⟨its, rv, p, _⟩ := I.tuple h
      obtain ⟨o, ho, _⟩ := id p
      exact ⟨_, begins_tuple a its.toArray, p, fun h' it e => ⟨_, e, rfl, rfl⟩, fun b e => by cases e; exact Heap.lt_size ho⟩
    | _ => exact h.elim
  | s =>
    cases v with
    | str z =>
      obtain ⟨t, rfl⟩ := r
      exact ⟨_, begins_text z t, trivial, fun h' it e => ⟨t, _, e, rfl, rfl⟩, fun b e => nomatch e⟩
    | _ => exact h.elim
/-- the places that a reader of this kind has -/
theorem fpO_is (k : Kd) (v : V) (it : Addr) : ∃ l, fpO it k v = it :: l ∧ ∀ b ∈ l, v = .ref b := by
  cases k <;> cases v <;> first
    | exact ⟨[], rfl, fun _ m => nomatch m⟩
    | exact ⟨[_], rfl, fun _ m => (List.mem_singleton.mp m) ▸ rfl⟩
/-- zip(e, e2), none of both starred -/
abbrev Two (X : L2.Cx) (e e2 : Expr) (pos : Pos) : Prop := starEach [e, e2] X.env = (false, eval e X.env) :: starEach [e2] X.env ∧ (backTo pos (starEach [e2] X.env)).any (·.1) = false
theorem pi_zipG {X : L2.Cx} (k1 k2 : Kd) {e e2 : Expr} {ta : TA} {p pos tpos : Pos} {elts : List Expr} {kk : Nat} (hg : Gl X "zip") (hm : X.mg "zip" = none) (ha : PA X [e, e2] ta) (two : Two X e e2 pos := by exact ⟨rfl, rfl⟩) :
    PI X (.Tuple elts kk tpos) (.Call (.Name "zip" p) [e, e2] [] pos) (iZipG X.K k1 k2 ta) := ⟨fun ps s σ H R inv asked => by
  refine Call_ (ld_blt inv hg hm PyProof.Rows.boot_zip ?_)
  refine PyProof.Rows.callWith_type1 (thn (ha.run pos ps s σ H _ inv asked) ?_) two.1 two.2
  rintro us s1 ⟨_, H1, I1, rel, v1, v2, xs, ys, rfl, sx, sy, goal⟩
  obtain _ | ⟨r, _ | ⟨r', _ | _⟩⟩ := rel
  obtain ⟨_, B1, b1, st1, old1⟩ := begins_of I1 sx r
  obtain ⟨_, B2, b2, st2, old2⟩ := begins_of I1 sy r'
  obtain ⟨l1, e1, f1⟩ := fpO_is k1 v1 s1.heap.objs.size
  obtain ⟨l2, e2, f2⟩ := fpO_is k2 v2 (s1.heap.objs.size + 1)
  refine zip_begins2 B1 B2 b1 b2 fun g zip its res at1 at2 _ rest => wpAny_pyIter_zip zip ?_
  refine ⟨s1.heap.objs.size + 4, _, _, _, H1, rfl, I1.kept (t' := s1.toks) rest, turn_zipG ?_ ?_ ?_, ⟨zip, its, ⟨_, _, res⟩, st1 _ _ at1, st2 _ _ at2⟩, fun c m => ?_, goal⟩
  · rw [e1, e2]
    exact zip_sep2 (fun b m => old1 b (f1 b m)) (fun b m => old2 b (f2 b m))
  · exact fun a q => Nat.ne_of_lt (old1 a q)
  · exact fun a q => Nat.ne_of_lt (Nat.lt_succ_of_lt (old2 a q))
  · have le : s1.heap.objs.size ≤ c := at5 (p := fun c => s1.heap.objs.size ≤ c) m (by omega) (by omega) (by omega) (by omega) (by omega)
    exact I1.fpOk le (I1.hok.fresh le)⟩

/-! ### the walk -/
class Zs (C : Type) (α : outParam Type) [Rep C] [Rep α] where
  k : Kd
  items : C → List α
  src : ∀ {K : PySem.W.Frag} {H : Hp} {v : V} {x : C}, rep K H v x → ∃ vs, (∀ H', Ex H H' → Src K H' k v vs) ∧ Reps K H vs (items x)
section
variable {α β : Type} [Rep α] [Rep β]
instance : Zs (List α) α := ⟨.l, id, fun ⟨a, vs, e, h, r⟩ => ⟨vs, fun H' q => by rw [e]; exact sq_of (q _ _ h), r⟩⟩
instance : Zs (Tp α) α := ⟨.t, Tp.l, fun ⟨a, vs, e, h, r⟩ => ⟨vs, fun H' q => by rw [e]; exact st_of (q _ _ h), r⟩⟩
theorem chs_reps {K : PySem.W.Frag} {H : Hp} : ∀ {x : Tx}, Asc x → Reps K H (x.map fun c => V.str ⟨#[c]⟩) (chs x)
  | [], _ => .nil
  | c :: x, h => .cons ⟨rfl, h.one List.mem_cons_self⟩ (chs_reps fun d hd => h d (List.mem_cons_of_mem _ hd))
instance : Zs Tx Tx := ⟨.s, chs, fun {K H v x} h => ⟨x.map fun c => V.str ⟨#[c]⟩, fun H' _ => by
    rw [h.1]
    show x.map (fun c => V.str ⟨#[c]⟩) = (tS x).cps.toList.map (fun c => V.str ⟨#[c]⟩)
    rw [tS_cps], chs_reps h.2⟩⟩
/-- the pairs -/
def zipT {α β : Type} (xs : List α) (ys : List β) : List (T (α × β × Unit)) := (xs.zip ys).map fun p => ⟨(p.1, p.2, ())⟩
theorem ei_zip {K : PySem.W.Frag} {ps : List Addr} {σ : L2.St} {H : Hp} {C D : Type} [Rep C] [Rep D] [z1 : Zs C α] [z2 : Zs D β] {ta tb : TE} {x : C} {y : D} (ha : ER K ps ta σ H x) (hb : ER K ps tb σ H y) :
    EI K ps (iZipG K (z1.k) (z2.k) (tCons ta (tCons tb tNil))) σ H (zipT (z1.items x) (z2.items y)) := fun H1 e d R q =>
  ha H1 e d _ fun v H2 e2 r2 => hb H2 (e.trans e2) (d.mono e2) _ fun w H3 e3 r3 => by
    obtain ⟨vs, sv, rv⟩ := z1.src (Rep.mono (mn_mono e3) r2)
    obtain ⟨ws, sw, rw'⟩ := z2.src r3
    refine ⟨v, w, vs, ws, rfl, sv _ mn_ex, sw _ mn_ex, q _ H3 (e2.trans e3) ?_⟩
    have hl : (zipT (z1.items x) (z2.items y)).length = min vs.length ws.length := by
      unfold zipT
      rw [List.length_map, List.length_zip, rv.length, rw'.length]
    refine ⟨fun i H' hi g => ⟨vs, ws, sv _ g, sw _ g, by omega, by omega⟩, fun H' g => ⟨vs, ws, sv _ g, sw _ g, by omega, by omega, by omega⟩, fun i H' u H'' hi g yl => ?_⟩
    obtain ⟨T0, a, b, rfl, hT, rfl, fa, fb⟩ := yl
    have ha' := fa vs (sv _ g)
    have hb' := fb ws (sw _ g)
    obtain ⟨a', ea, ra⟩ := rv.get ha'
    obtain ⟨b', eb, rb⟩ := rw'.get hb'
    refine ⟨Ex.new hT, ⟨(a', b', ())⟩, ?_, fun ps' dp ep => ?_⟩
    · unfold zipT
      rw [List.getElem?_map, show ((z1.items x).zip (z2.items y))[i]? = some (a', b') from List.getElem?_zip_eq_some.mpr ⟨ea, eb⟩]; rfl
    · have ra2 := Rep.mono (ep.trans (mn_mono (Ex.new hT (o := .tup [a, b])))) ra
      have rb2 := Rep.mono (ep.trans (mn_mono (Ex.new hT (o := .tup [a, b])))) rb
      exact ⟨T0, _, rfl, mn_at upd_same (dp.notin hT), a, _, rfl, ra2, b, _, rfl, rb2, rfl⟩
end
end Cx

/-! CxFn: a def's promise by its body's control tree. -/
namespace Cx
open PySem L2 Evl
open Rep (rep)
open RepA (repA)
/-- what a def's control tree hands back -/
def outC {R : Type} [Inhabited R] : Ctl Empty Empty R → R
  | .rt r => r
  | _ => default
section
variable {K : PySem.W.Frag}
/-- the slots at a def's start -/
def RR0 {R : Type} [Rep R] (K : PySem.W.Frag) (H0 : Hp) (ps0 : List Addr) : R → V → Hp → Prop := fun r v H' => Ex H0 H' ∧ rep K (mn H' ps0) v r
def SR0 : Empty → L2.St → Hp → Prop := fun e _ _ => e.elim
theorem repA_get {A : Type} [RepA A] : True := trivial
/-- a def's body, from its entry -/
theorem fn_go {R : Type} [Rep R] [Inhabited R] {t : TS} {σ : L2.St} {H : Hp} {ps0 : List Addr} {c : Ctl Empty Empty R} {Q : VK} {r : R} (h : Does t σ H c SR0 SR0 (RR0 K H ps0)) (hc : c = .rt r) (q : ∀ v H', Ex H H' → rep K (mn H' ps0) v r → Q v H') :
    t { nx := fun _ H' => Q .non H', rt := Q } σ H := by
  subst hc
  exact h _ (fun s => s.elim) (fun s => s.elim) (fun s => s.elim) (fun r' v H' e rr => by
    cases e
    exact q v H' rr.1 rr.2)
theorem stt0 {N : Nat} {σ : L2.St} {H : Hp} {ps0 : List Addr} {L : List Bd} (hl : σ.length = N) (d : Dm H ps0) (h : ∀ b ∈ L, @Sl b.α b.R K ps0 σ H b.i b.x) : Stt K N H ps0 (mn H ps0) σ H [] L :=
  ⟨hl, Ex.refl _, d, Ex.refl _, h, fun o ho => (nomatch ho), List.nodup_nil⟩
/-- return of data, with what is owned let go -/
theorem d_retS {N : Nat} {H0 Hb : Hp} {ps0 : List Addr} {σ : L2.St} {H : Hp} {O : List Od} {L : List Bd} {S B R : Type} [Rep R] {SR : S → L2.St → Hp → Prop} {BR : B → L2.St → Hp → Prop} {te : TE} {r : R}
    (st : Stt K N H0 ps0 Hb σ H O L) (he : ER K (psO O ps0) te σ H r) : Does (tRet te) σ H (.rt r : Ctl S B R) SR BR (RR0 K H0 ps0) :=
  d_ret he st.dm fun v H1 e rr => ⟨st.ex.trans e, Rep.mono (mn_le fun a ha => List.mem_append_right _ ha) rr⟩
end
end Cx

/-! CxMore: what a printed proof names. -/
namespace Cx
open PySem L2 Evl
open Rep (rep)
open RepA (repA)

/-! ### great products -/
def rMulX : R2 := rI CMulX fun i j => .int (i * j)
theorem op_mulG {X : L2.Cx} : OpR X (binaryOp .Mult) rMulX := L2.op_mulX
theorem bits_le (x : Int) : (Builtin.Int.intBits x : Int) ≤ x.natAbs.log2 + 1 := by
  have : Builtin.Int.intBits x ≤ x.natAbs.log2 + 1 := by unfold Builtin.Int.intBits; split <;> simp
  omega
theorem mulG {i j : Int} (h : i.natAbs.log2 + j.natAbs.log2 < 100000000) : CMulX i j := by
  have := bits_le i
  have := bits_le j
  show (_ : Int) ≤ _
  omega
theorem log2_lt {i : Int} {a : Nat} (h : i.natAbs < 2 ^ a) (ha : 0 < a) : i.natAbs.log2 < a := PySem.Flt.log2_lt_of ha h
theorem mulX {i j : Int} {a b : Nat} (ha : i.natAbs < 2 ^ a) (hb : j.natAbs < 2 ^ b) (_ : 0 < a) (_ : 0 < b) (h : a + b ≤ 100000000) : CMulX i j := mulx_ok ha hb (by omega)
section
variable {K : PySem.W.Frag} {ps : List Addr} {σ : L2.St} {H H' : Hp} {te ta tb : TE} {α β γ : Type} [Rep α] [Rep β] [Rep γ]
theorem er_mulX {i j : Int} (ha : ER K ps ta σ H i) (hb : ER K ps tb σ H j) (hc : CMulX i j) : ER K ps (tOp rMulX ta tb) σ H (i * j) := er_I ha hb hc fun _ => rfl

/-! ### kinds -/
class TyN (α : Type) [Rep α] where
  n : String
  ty : ∀ {K : PySem.W.Frag} {H : Hp} {v : V} {x : α}, rep K H v x → TyOf K H v (.type n)
instance : TyN Int := ⟨"int", fun h => by rw [show _ = _ from h]; exact .int _⟩
instance : TyN Bool := ⟨"bool", fun h => by rw [show _ = _ from h]; exact .bl _⟩
instance : TyN Tx := ⟨"str", fun h => by rw [h.1]; exact .str _⟩
instance : TyN (List α) := ⟨"list", fun ⟨_, _, h, e, _⟩ => by rw [h]; exact .lst e⟩
instance : TyN (Tp α) := ⟨"tuple", fun ⟨_, _, h, e, _⟩ => by rw [h]; exact .tup e⟩
instance {A : Type} [RepA A] : TyN (T A) := ⟨"tuple", fun ⟨_, _, h, e, _⟩ => by rw [h]; exact .tup e⟩
theorem er_isiT [Ty : TyN α] {x : α} {n : String} (b : Bool) (ha : ER K ps ta σ H x) (hb : kitB Ty.n n = some b := by decide +kernel) : ER K ps (tCB (rIsi K) (tCons ta (tCons (tC (.ty n)) tNil))) σ H b := fun H1 e d Q q =>
  ha H1 e d _ fun v H2 e2 r => ⟨v, .ty n, .type Ty.n, .type n, b, rfl, .ty n, .base (Ty.ty (Rep.mono mn_ex r)), kit_ty hb, q _ H2 e2 rfl⟩
/-- of a value that may be None -/
theorem er_isiO [Ty : TyN α] {x : Option α} {n : String} (b : Bool) (ha : ER K ps ta σ H x) (hb : kitB Ty.n n = some b := by decide +kernel) (hn : kitB "NoneType" n = some false := by decide +kernel) : ER K ps (tCB (rIsi K) (tCons ta (tCons (tC (.ty n)) tNil))) σ H (x.isSome && b) := fun H1 e d Q q =>
  ha H1 e d _ fun v H2 e2 r => by
    cases x with
    | none => rw [show v = .non from r]; exact ⟨.non, .ty n, .type "NoneType", .type n, false, rfl, .ty n, .base .non, kit_ty hn, q _ H2 e2 rfl⟩
    | some y => exact ⟨v, .ty n, .type Ty.n, .type n, b, rfl, .ty n, .base (Ty.ty (Rep.mono mn_ex r.1)), kit_ty hb, q _ H2 e2 (by cases b <;> rfl)⟩
/-- a list in which nothing is None -/
theorem reps_get {K : PySem.W.Frag} {H : Hp} [Inhabited α] {vs : List V} {l : List (Option α)} (r : Reps K H vs l) : none ∉ l → Reps K H vs (l.map fun x => x.getD default) := by
  induction r with
  | nil => exact fun _ => .nil
  | @cons v x vs xs r _ ih =>
    intro h
    refine .cons ?_ (ih fun q => h (List.mem_cons_of_mem _ q))
    cases x with
    | none => exact absurd List.mem_cons_self h
    | some y => exact r.1
theorem er_getL [Inhabited α] {l : List (Option α)} (ha : ER K ps ta σ H l) (h : none ∉ l) : ER K ps ta σ H (l.map fun x => x.getD default) := fun H1 e d Q q =>
  ha H1 e d _ fun v H2 e2 r2 => q v H2 e2 (by
    obtain ⟨a, vs, h1, h2, h3⟩ := r2
    exact ⟨a, vs, h1, h2, reps_get h3 h⟩)
theorem reps_some [NoNone α] {K : PySem.W.Frag} {H : Hp} {vs : List V} {l : List α} (h : Reps K H vs l) : Reps K H vs (l.map some) := by
  induction h with
  | nil => exact .nil
  | cons r _ ih => exact .cons ⟨r, NoNone.nn r⟩ ih
theorem er_someL [NoNone α] {l : List α} (ha : ER K ps ta σ H l) : ER K ps ta σ H (l.map some) := fun H1 e d Q q =>
  ha H1 e d _ fun v H2 e2 r2 => q v H2 e2 (by
    obtain ⟨a, vs, h1, h2, h3⟩ := r2
    exact ⟨a, vs, h1, h2, reps_some h3⟩)
end

/-! ### which slots are remembered -/
def Sub (L' L : List Bd) : Prop := ∀ b ∈ L', b ∈ L
theorem sub_nil {L : List Bd} : Sub [] L := fun b h => nomatch h
theorem sub_cons {L L' : List Bd} {b : Bd} (h : b ∈ L) (r : Sub L' L) : Sub (b :: L') L := fun c q => by
  obtain e | e := List.mem_cons.mp q
  · rw [e]; exact h
  · exact r c e
def SubN (i : Nat) (L' L : List Bd) : Prop := ∀ b ∈ L', b ∈ L ∧ b.i ≠ i
theorem subN_nil {i : Nat} {L : List Bd} : SubN i [] L := fun b h => nomatch h
theorem subN_cons {i j : Nat} {α : Type} [R : Rep α] {x : α} {L L' : List Bd} (h : bd j x ∈ L) (n : j ≠ i) (r : SubN i L' L) : SubN i (bd j x :: L') L := fun c q => by
  obtain e | e := List.mem_cons.mp q
  · rw [e]; exact ⟨h, n⟩
  · exact r c e
def NoI (i : Nat) (L : List Bd) : Prop := ∀ b ∈ L, b.i ≠ i
theorem noI_nil {i : Nat} : NoI i [] := fun b h => nomatch h
theorem noI_cons {i j : Nat} {α : Type} [R : Rep α] {x : α} {L : List Bd} (n : j ≠ i) (r : NoI i L) : NoI i (bd j x :: L) := fun c q => by
  obtain e | e := List.mem_cons.mp q
  · rw [e]; exact n
  · exact r c e
def NoO (i : Nat) (O : List Od) : Prop := ∀ o ∈ O, o.i ≠ i
theorem noO_nil {i : Nat} : NoO i [] := fun b h => nomatch h
theorem noO_cons {i j : Nat} {p : Addr} {α : Type} [R : Rep α] {l : List α} {O : List Od} (n : j ≠ i) (r : NoO i O) : NoO i (od j p l :: O) := fun c q => by
  obtain e | e := List.mem_cons.mp q
  · rw [e]; exact n
  · exact r c e
def SubV (vs : List Nat) (L' L : List Bd) : Prop := ∀ b ∈ L', b ∈ L ∧ b.i ∉ vs
theorem subV_nil {vs : List Nat} {L : List Bd} : SubV vs [] L := fun b h => nomatch h
theorem subV_cons {vs : List Nat} {j : Nat} {α : Type} [R : Rep α] {x : α} {L L' : List Bd} (h : bd j x ∈ L) (n : j ∉ vs) (r : SubV vs L' L) : SubV vs (bd j x :: L') L := fun c q => by
  obtain e | e := List.mem_cons.mp q
  · rw [e]; exact ⟨h, n⟩
  · exact r c e

section
variable {K : PySem.W.Frag} {N : Nat} {H0 Hb : Hp} {ps0 ps : List Addr} {σ : L2.St} {H H1 : Hp} {O : List Od} {L L' : List Bd} {α β : Type} [Rep α] [Rep β]
variable {S B R : Type} {c : Ctl S B R} {SR : S → L2.St → Hp → Prop} {BR : B → L2.St → Hp → Prop} {RR : R → V → Hp → Prop} {t u : TS} {te : TE}
/-- a let of a control tree asks -/
def okLet {α : Type} (x : α) (ok : α → Prop) : Prop := ok x
def okIf (b : Bool) (p q : Prop) : Prop := (b = true → p) ∧ (b = false → q)
/-- x = e, the value by a letter -/
theorem d_let {i : Nat} {x : α} {f : α → Ctl S B R} {ok : α → Prop} (st : Stt K N H0 ps0 Hb σ H O L) (he : ER K (psO O ps0) te σ H x) (hok : okLet x ok) (hi : i < N) (hO : NoO i O) (hL : SubN i L' L)
    (k : ∀ (y : α) σ1 H1, y = x → ok y → Stt K N H0 ps0 Hb σ1 H1 O (bd i y :: L') → Does u σ1 H1 (f y) SR BR RR) : Does (tSeq (tAsg te (gName i)) u) σ H (vLet x f) SR BR RR :=
  d_asg he st.dm fun v H1 e r => k x _ H1 rfl hok ((st.to e).set r hi hO hL)
/-- the end of a block -/
theorem d_end {s : S} (h : SR s σ H) : Does tNext σ H (.nx s : Ctl S B R) SR BR RR := d_next h
/-- if, both ways end or the block ends with it -/
theorem d_if {b : Bool} {p q : Prop} {tt : TT} {t1 t2 : TS} {c1 c2 : Ctl S B R} (st : Stt K N H0 ps0 Hb σ H O L) (hb : ET (psO O ps0) tt σ H b) (hok : okIf b p q) (h1 : ∀ H1, b = true → p → Stt K N H0 ps0 Hb σ H1 O L → Does t1 σ H1 c1 SR BR RR) (h2 : ∀ H1, b = false → q → Stt K N H0 ps0 Hb σ H1 O L → Does t2 σ H1 c2 SR BR RR) :
    Does (tIfS tt t1 t2) σ H (cIf b c1 c2) SR BR RR := d_ifR hb st.dm (fun e H1 eh => h1 H1 e (hok.1 e) (st.to eh)) (fun e H1 eh => h2 H1 e (hok.2 e) (st.to eh))
/-- if that leaves, then the rest -/
theorem d_iff {b : Bool} {p q : Prop} {tt : TT} {t1 : TS} {c1 c2 : Ctl S B R} (st : Stt K N H0 ps0 Hb σ H O L) (hb : ET (psO O ps0) tt σ H b) (hok : okIf b p q) (h1 : ∀ H1, b = true → p → Stt K N H0 ps0 Hb σ H1 O L → Does t1 σ H1 c1 (fun _ _ _ => False) BR RR) (h2 : ∀ H1, b = false → q → Stt K N H0 ps0 Hb σ H1 O L → Does u σ H1 c2 SR BR RR) :
    Does (tSeq (tIfS tt t1 tNext) u) σ H (cIf b c1 c2) SR BR RR := d_ifT hb st.dm (fun e H1 eh => h1 H1 e (hok.1 e) (st.to eh)) (fun e H1 eh => h2 H1 e (hok.2 e) (st.to eh))
/-- a block whose end asks -/
def okSeq {S B R : Type} (p : Prop) (c : Ctl S B R) (q : S → Prop) : Prop := p ∧ ∀ s, c = .nx s → q s
theorem d_blk {S1 : Type} {c1 : Ctl S1 B R} {k : S1 → Ctl S B R} {SR1 : S1 → L2.St → Hp → Prop} {p : Prop} {q : S1 → Prop} (hok : okSeq p c1 q) (h1 : p → Does t σ H c1 SR1 BR RR) (h2 : ∀ s σ' H', c1 = .nx s → q s → SR1 s σ' H' → Does u σ' H' (k s) SR BR RR) : Does (tSeq t u) σ H (cSeq c1 k) SR BR RR :=
  d_seq (h1 hok.1) fun s σ' H' e r => h2 s σ' H' e (hok.2 s e) r
/-- a loop and what stands behind it ask -/
def okFor {α S R : Type} (f : α → S → Ctl S S R) (ok : α → S → Prop) (items : List α) (s0 : S) (q : S → Prop) : Prop := forOk f ok items s0 ∧ ∀ s, forL f items s0 = .inl s → q s
theorem d_loop {wi : TI} {j : Nat} {tb : TS} {items : List α} {S S' B R : Type} {f : α → S → Ctl S S R} {ok : α → S → Prop} {s0 : S} {k : S → Ctl S' B R} {q : S → Prop} {SR : S' → L2.St → Hp → Prop} {BR : B → L2.St → Hp → Prop} {RR : R → V → Hp → Prop}
    (Of : S → List Od) (Lf : S → List Bd) (st : Stt K N H0 ps0 Hb σ H O L) (hi : EI K (psO O ps0) wi σ H items) (hok : okFor f ok items s0 q)
    (h0 : ∀ H1 Hb', Stt K N H0 ps0 Hb' σ H1 O L → Stt K N H0 ps0 Hb' σ H1 (Of s0) (Lf s0))
    (hjN : j < N) (hjO : ∀ s, NoO j (Of s)) (hjL : ∀ s, NoI j (Lf s))
    (hb : ∀ Hb' x s σ' H', x ∈ items → ok x s → Stt K N H0 ps0 Hb' σ' H' (Of s) (bd j x :: Lf s) → Does tb σ' H' (f x s) (fun s σ H => Stt K N H0 ps0 Hb' σ H (Of s) (Lf s)) (fun s σ H => Stt K N H0 ps0 Hb' σ H (Of s) (Lf s)) RR)
    (hr : ∀ s σ' H', forL f items s0 = .inl s → q s → Stt K N H0 ps0 Hb σ' H' (Of s) (Lf s) → Does u σ' H' (k s) SR BR RR) : Does (tSeq (tFor wi (gName j) tb) u) σ H (forC items f s0 k) SR BR RR :=
  d_for st hi hok.1 h0 hjN hjO hjL hb fun s σ' H' e r => hr s σ' H' e (hok.2 s e) r
theorem d_loop2 {α1 α2 : Type} [Rep α1] [Rep α2] {wi : TI} {j1 j2 : Nat} {tb : TS} {items : List (T (α1 × α2 × Unit))} {S S' B R : Type} {f : T (α1 × α2 × Unit) → S → Ctl S S R} {ok : T (α1 × α2 × Unit) → S → Prop} {s0 : S} {k : S → Ctl S' B R} {q : S → Prop} {SR : S' → L2.St → Hp → Prop} {BR : B → L2.St → Hp → Prop} {RR : R → V → Hp → Prop}
    (Of : S → List Od) (Lf : S → List Bd) (st : Stt K N H0 ps0 Hb σ H O L) (hi : EI K (psO O ps0) wi σ H items) (hok : okFor f ok items s0 q)
    (h0 : ∀ H1 Hb', Stt K N H0 ps0 Hb' σ H1 O L → Stt K N H0 ps0 Hb' σ H1 (Of s0) (Lf s0))
    (hjN : j1 < N ∧ j2 < N ∧ j1 ≠ j2) (hjO : ∀ s, NoO j1 (Of s) ∧ NoO j2 (Of s)) (hjL : ∀ s, NoI j1 (Lf s) ∧ NoI j2 (Lf s))
    (hb : ∀ Hb' x s σ' H', x ∈ items → ok x s → Stt K N H0 ps0 Hb' σ' H' (Of s) (bd j2 x.t.2.1 :: bd j1 x.t.1 :: Lf s) → Does tb σ' H' (f x s) (fun s σ H => Stt K N H0 ps0 Hb' σ H (Of s) (Lf s)) (fun s σ H => Stt K N H0 ps0 Hb' σ H (Of s) (Lf s)) RR)
    (hr : ∀ s σ' H', forL f items s0 = .inl s → q s → Stt K N H0 ps0 Hb σ' H' (Of s) (Lf s) → Does u σ' H' (k s) SR BR RR) : Does (tSeq (tFor wi (gTup K 2 (gCons (gName j1) (gCons (gName j2) gNil))) tb) u) σ H (forC items f s0 k) SR BR RR :=
  d_for2 st hi hok.1 h0 hjN (fun s o ho => ⟨(hjO s).1 o ho, (hjO s).2 o ho⟩) (fun s b hb => ⟨(hjL s).1 b hb, (hjL s).2 b hb⟩) hb fun s σ' H' e r => hr s σ' H' e (hok.2 s e) r
/-- rows = [] -/
theorem d_nil {i : Nat} (α : Type) [Rep α] {c : Ctl S B R} (st : Stt K N H0 ps0 Hb σ H O L) (hi : i < N) (hO : NoO i O) (hL : SubN i L' L) (k : ∀ p σ1 H1, Stt K N H0 ps0 Hb σ1 H1 (od i p ([] : List α) :: O) L' → Does u σ1 H1 c SR BR RR) :
    Does (tSeq (tAsg (tLst tNil) (gName i)) u) σ H c SR BR RR := d_newO st (fun H1 e Q q => new_nil (i := i) (K := K) (ps := psO O ps0) (σ := σ) (H := H) H1 e Q q) hi hO hL fun p v H1 st1 => k p _ H1 st1
theorem d_append {i : Nat} {p : Addr} {l : List α} {x : α} {ok : List α → Prop} {f : List α → Ctl S B R} (st : Stt K N H0 ps0 Hb σ H (od i p l :: O) L) (he : ER K (psO (od i p l :: O) ps0) te σ H x) (hz : l.length < 100000) (hok : okLet (l ++ [x]) ok)
    (k : ∀ y H1, y = l ++ [x] → ok y → Stt K N H0 ps0 Hb σ H1 (od i p y :: O) L → Does u σ H1 (f y) SR BR RR) (hi : i < N := by decide) : Does (tSeq (tDrop (tBM K "list" rAppend (tVar i) (tCons te tNil))) u) σ H (vLet (l ++ [x]) f) SR BR RR :=
  d_app st rfl he hz hi fun H1 st1 => k _ H1 rfl hok st1
theorem d_fin {r : R} [Rep R] {x : R} (st : Stt K N H0 ps0 Hb σ H O L) (he : ER K (psO O ps0) te σ H r) : Does (tRet te) σ H (.rt r : Ctl S B R) SR BR (RR0 K H0 ps0) := d_retS st he
/-- [e for x in ..] -/
theorem er_lcM {wi : TI} {j : Nat} {te : TE} {vs : List Nat} {items : List α} {h : α → β} (L' : List Bd) (kn : Kn K N ps σ H L) (hi : EI K ps wi σ H items) (hz : items.length ≤ 100000) (hj : j ∈ vs) (hjN : j < N) (hL : SubV vs L' L)
    (he : ∀ (ps' : List Addr) (x : α) (σ' : L2.St) (H' : Hp), x ∈ items → Kn K N ps' σ' H' (bd j x :: L') → ER K ps' te σ' H' (h x)) :
    ER K ps (tLc wi (gName j) tYes te vs) σ H (items.map h) := by
  have := er_lc (K := K) (N := N) (p := fun _ => true) (h := h) (tt := tYes) (te := te) (L' := L') kn hi hz hj hjN (fun b hb => ⟨(hL b hb).1, (hL b hb).2, fun z => (hL b hb).2 (by rw [z]; exact hj)⟩) (fun _ _ _ _ _ _ => et_yes) (fun ps' x σ' H' hx _ k => he ps' x σ' H' hx k)
  rwa [all_map] at this
theorem er_lcF {wi : TI} {j : Nat} {tt : TT} {te : TE} {vs : List Nat} {items : List α} {p : α → Bool} {h : α → β} (L' : List Bd) (kn : Kn K N ps σ H L) (hi : EI K ps wi σ H items) (hz : items.length ≤ 100000) (hj : j ∈ vs) (hjN : j < N) (hL : SubV vs L' L)
    (ht : ∀ (ps' : List Addr) (x : α) (σ' : L2.St) (H' : Hp), x ∈ items → Kn K N ps' σ' H' (bd j x :: L') → ET ps' tt σ' H' (p x)) (he : ∀ (ps' : List Addr) (x : α) (σ' : L2.St) (H' : Hp), x ∈ items → p x = true → Kn K N ps' σ' H' (bd j x :: L') → ER K ps' te σ' H' (h x)) :
    ER K ps (tLc wi (gName j) tt te vs) σ H ((items.filter p).map h) :=
  er_lc kn hi hz hj hjN (fun b hb => ⟨(hL b hb).1, (hL b hb).2, fun z => (hL b hb).2 (by rw [z]; exact hj)⟩) ht he
theorem er_lcM2 {α1 α2 : Type} [Rep α1] [Rep α2] {wi : TI} {j1 j2 : Nat} {te : TE} {vs : List Nat} {items : List (T (α1 × α2 × Unit))} {h : T (α1 × α2 × Unit) → β} (L' : List Bd) (kn : Kn K N ps σ H L) (hi : EI K ps wi σ H items) (hz : items.length ≤ 100000) (hj : j1 ∈ vs ∧ j2 ∈ vs ∧ j1 ≠ j2) (hjN : j1 < N ∧ j2 < N) (hL : SubV vs L' L)
    (he : ∀ (ps' : List Addr) (x : T (α1 × α2 × Unit)) (σ' : L2.St) (H' : Hp), x ∈ items → Kn K N ps' σ' H' (bd j2 x.t.2.1 :: bd j1 x.t.1 :: L') → ER K ps' te σ' H' (h x)) :
    ER K ps (tLc wi (gTup K 2 (gCons (gName j1) (gCons (gName j2) gNil))) tYes te vs) σ H (items.map h) := by
  have := er_lc2 (K := K) (N := N) (p := fun _ => true) (h := h) (tt := tYes) (te := te) (L' := L') kn hi hz hj hjN hL (fun _ _ _ _ _ _ => et_yes) (fun ps' x σ' H' hx _ k => he ps' x σ' H' hx k)
  rwa [all_map] at this
theorem er_lcF2 {α1 α2 : Type} [Rep α1] [Rep α2] {wi : TI} {j1 j2 : Nat} {tt : TT} {te : TE} {vs : List Nat} {items : List (T (α1 × α2 × Unit))} {p : T (α1 × α2 × Unit) → Bool} {h : T (α1 × α2 × Unit) → β} (L' : List Bd) (kn : Kn K N ps σ H L) (hi : EI K ps wi σ H items) (hz : items.length ≤ 100000) (hj : j1 ∈ vs ∧ j2 ∈ vs ∧ j1 ≠ j2) (hjN : j1 < N ∧ j2 < N) (hL : SubV vs L' L)
    (ht : ∀ (ps' : List Addr) (x : T (α1 × α2 × Unit)) (σ' : L2.St) (H' : Hp), x ∈ items → Kn K N ps' σ' H' (bd j2 x.t.2.1 :: bd j1 x.t.1 :: L') → ET ps' tt σ' H' (p x))
    (he : ∀ (ps' : List Addr) (x : T (α1 × α2 × Unit)) (σ' : L2.St) (H' : Hp), x ∈ items → p x = true → Kn K N ps' σ' H' (bd j2 x.t.2.1 :: bd j1 x.t.1 :: L') → ER K ps' te σ' H' (h x)) :
    ER K ps (tLc wi (gTup K 2 (gCons (gName j1) (gCons (gName j2) gNil))) tt te vs) σ H ((items.filter p).map h) := er_lc2 kn hi hz hj hjN hL ht he
end
/-! ### the law's end -/
theorem spF_law {K : PySem.W.Frag} {f : Scr × Unit → Bool} {ok : Scr × Unit → Prop} {H : Hp} {a : Addr} {ns : List Int} (hS : SqL K H a (ns.map V.int)) (hok : ok (⟨ns⟩, ())) (hf : f (⟨ns⟩, ()) = true) : spF K f ok [.ref a] H (fun v _ => v = .bl true) fun _ _ _ => False :=
  ⟨[], (⟨ns⟩, ()), fun p hp => (nomatch hp), ⟨.ref a, [], rfl, ⟨a, rfl, by rw [mn_nil]; exact hS⟩, rfl⟩, hok, fun r H' _ rr => by rw [hf] at rr; exact rr⟩
end Cx
namespace Cx
open PySem L2 Evl
open Rep (rep)
open RepA (repA)
theorem rt_of {R : Type} [Inhabited R] (c : Ctl Empty Empty R) : c = .rt (outC c) := by
  cases c with
  | nx s => exact s.elim
  | bk s => exact s.elim
  | ct s => exact s.elim
  | rt r => rfl
def AllSl (K : PySem.W.Frag) (ps : List Addr) (σ : L2.St) (H : Hp) (L : List Bd) : Prop := ∀ b ∈ L, @Sl b.α b.R K ps σ H b.i b.x
section
variable {K : PySem.W.Frag} {ps : List Addr} {σ : L2.St} {H : Hp} {L : List Bd}
theorem asl_nil : AllSl K ps σ H [] := fun b h => nomatch h
theorem asl_cons {α : Type} [Rep α] {i : Nat} {v : V} {x : α} (h : σ[i]? = some (some v)) (r : rep K (mn H ps) v x) (t : AllSl K ps σ H L) : AllSl K ps σ H (bd i x :: L) := fun b hb => by
  obtain e | e := List.mem_cons.mp hb
  · rw [e]; exact ⟨v, h, r⟩
  · exact t b e
end
section
variable {X : L2.Cx} {o e : Expr} {to te : TE}
theorem pe_joinA {apos pos : Pos} (ho : PE X o to) (he : PE X e te) (hs : starEach [e] X.env = [(false, eval e X.env)] := by rfl) (hbase : attributeBase o "join" X.env (eval o X.env) = eval o X.env := by rfl) (hline : (apos.endLine == pos.line) = true := by rfl) :
    PE X (.Call (.Attribute o "join" apos) [e] [] pos) (tM1 (rJoin X.K) to te) := pe_join ho he hs hbase hline
theorem pe_countS {apos pos : Pos} (ho : PE X o to) (he : PE X e te) (hs : starEach [e] X.env = [(false, eval e X.env)] := by rfl) (hbase : attributeBase o "count" X.env (eval o X.env) = eval o X.env := by rfl) (hline : (apos.endLine == pos.line) = true := by rfl) :
    PE X (.Call (.Attribute o "count" apos) [e] [] pos) (tM1 rCountS to te) := pe_m1 PySem.F.slot_str_count PySem.F.type_str_count mt_count ho he hs hbase hline
end
end Cx
namespace Cx
open PySem L2 Evl
open Rep (rep)
open RepA (repA)
theorem len_le {α : Type} {l : List α} (n : Nat) (h : l.length = n) (k : n ≤ 1000) : l.length ≤ 1000 := by rw [h]; exact k
section
variable {α1 α2 α3 α4 α5 α6 : Type} [Rep α1] [Rep α2] [Rep α3] [Rep α4] [Rep α5] [Rep α6]
theorem tl1 {x : α1 × Unit} : ∀ K H vs, repA K H vs x → vs.length ≤ 1000 := fun K H vs h => by
  obtain ⟨_, _, rfl, _, rfl⟩ := h; exact (by decide : 1 ≤ 1000)
theorem tl2 {x : α1 × α2 × Unit} : ∀ K H vs, repA K H vs x → vs.length ≤ 1000 := fun K H vs h => by
  obtain ⟨_, _, rfl, _, _, _, rfl, _, rfl⟩ := h; exact (by decide : 2 ≤ 1000)
theorem tl3 {x : α1 × α2 × α3 × Unit} : ∀ K H vs, repA K H vs x → vs.length ≤ 1000 := fun K H vs h => by
  obtain ⟨_, _, rfl, _, _, _, rfl, _, _, _, rfl, _, rfl⟩ := h; exact (by decide : 3 ≤ 1000)
theorem tl4 {x : α1 × α2 × α3 × α4 × Unit} : ∀ K H vs, repA K H vs x → vs.length ≤ 1000 := fun K H vs h => by
  obtain ⟨_, _, rfl, _, _, _, rfl, _, _, _, rfl, _, _, _, rfl, _, rfl⟩ := h; exact (by decide : 4 ≤ 1000)
theorem tl5 {x : α1 × α2 × α3 × α4 × α5 × Unit} : ∀ K H vs, repA K H vs x → vs.length ≤ 1000 := fun K H vs h => by
  obtain ⟨_, _, rfl, _, _, _, rfl, _, _, _, rfl, _, _, _, rfl, _, _, _, rfl, _, rfl⟩ := h; exact (by decide : 5 ≤ 1000)
theorem tl6 {x : α1 × α2 × α3 × α4 × α5 × α6 × Unit} : ∀ K H vs, repA K H vs x → vs.length ≤ 1000 := fun K H vs h => by
  obtain ⟨_, _, rfl, _, _, _, rfl, _, _, _, rfl, _, _, _, rfl, _, _, _, rfl, _, _, _, rfl, _, rfl⟩ := h; exact (by decide : 6 ≤ 1000)
end
end Cx
namespace Cx
open PySem PySem.Spec PyProof.Rows L2 Evl
/-! ### rules with the written part by name (a comprehension's block has it from its def) -/
section
variable {X : L2.Cx} (K : PySem.W.Frag) (hK : X.K = K)
include hK
theorem kop_in : OpR X (compareOp .In) (rIn K false) := by subst hK; exact op_in_seq
theorem kop_nin : OpR X (compareOp .NotIn) (rIn K true) := by subst hK; exact op_notIn_seq
theorem kix_list : IxR X (rIxL K) := by subst hK; exact ix_list
theorem kix_tup : IxR X (rIxT K) := by subst hK; exact ix_tup
theorem ksl_list : SlR X (rSlL K) := by subst hK; exact sl_list
theorem ksl_tup : SlR X (rSlT K) := by subst hK; exact sl_tup
theorem kop_eqD (hu : X.A.units + 64 < cLine) : OpR X (compareOp .Eq) (rEqD K) := by subst hK; exact op_eqD hu
theorem kop_neD (hu : X.A.units + 64 < cLine) : OpR X (compareOp .NotEq) (rNeD K) := by subst hK; exact op_neD hu
theorem kcb_lenQ : CallR X (.builtin "len") (rLenQ K) := by subst hK; exact cb_lenQ
theorem kct_list : CallR X (.type "list") (rListOf K) := by subst hK; exact ct_list
theorem kct_tuple : CallR X (.type "tuple") (rTupOf K) := by subst hK; exact ct_tuple
theorem kcr_all (hc : X.calm = true) : CallR X (.builtin "all") (rAll K) := by subst hK; exact cr_all hc
theorem kcr_any (hc : X.calm = true) : CallR X (.builtin "any") (rAny K) := by subst hK; exact cr_any hc
theorem kcr_sum (hc : X.calm = true) : CallR X (.builtin "sum") (rSum K) := by subst hK; exact cr_sum hc
theorem kcr_min (hc : X.calm = true) : CallR X (.builtin "min") (rMin K) := by subst hK; exact cr_min hc
theorem kcb_isi : CallR X (.builtin "isinstance") (rIsi K) := by subst hK; exact call_isi
theorem kpi_list {tg l : Expr} {tl : TE} (hl : PE X l tl) : PI X tg l (iList K tl) := by subst hK; exact pi_list hl
theorem kpi_tup {tg l : Expr} {tl : TE} (hl : PE X l tl) : PI X tg l (iTup K tl) := by subst hK; exact pi_tup hl
theorem kpi_zip (k1 k2 : Kd) {e e2 : Expr} {ta : TA} {p pos tpos : Pos} {elts : List Expr} {kk : Nat} (hg : Gl X "zip") (hm : X.mg "zip" = none) (ha : PA X [e, e2] ta) (two : Two X e e2 pos := by exact ⟨rfl, rfl⟩) :
    PI X (.Tuple elts kk tpos) (.Call (.Name "zip" p) [e, e2] [] pos) (iZipG K k1 k2 ta) := by subst hK; exact pi_zipG k1 k2 hg hm ha two
theorem kpe_join {o e : Expr} {to te : TE} {apos pos : Pos} (ho : PE X o to) (he : PE X e te) (hs : starEach [e] X.env = [(false, eval e X.env)] := by rfl) (hbase : attributeBase o "join" X.env (eval o X.env) = eval o X.env := by rfl) (hline : (apos.endLine == pos.line) = true := by rfl) :
    PE X (.Call (.Attribute o "join" apos) [e] [] pos) (tM1 (rJoin K) to te) := by subst hK; exact pe_joinA ho he hs hbase hline
theorem kpe_revL {e : Expr} {te : TE} {k : Nat} {p1 p2 p3 pos : Pos} (he : PE X e te) : PE X (.Subscript e (.Slice none none (some (.UnaryOp .USub (.Constant (.int 1) k p1) p2)) p3) pos) (tRevL K te) := by subst hK; exact pe_revL he
end
end Cx

/-! CxPure: mathematics of control trees, ranges, places, cuts: no Python here. -/
namespace Cx
open PySem L2

/-! ### loops -/
def Post {S R : Type} (c : Ctl S S R) (P Bq : S → Prop) (Rq : R → Prop) : Prop := match c with
  | .nx s => P s | .ct s => P s | .bk s => Bq s | .rt r => Rq r
def PostL {S R : Type} (c : S ⊕ R) (P : S → Prop) (Rq : R → Prop) : Prop := match c with | .inl s => P s | .inr r => Rq r
theorem for_inv {α S R : Type} {f : α → S → Ctl S S R} {ok : α → S → Prop} : ∀ {items : List α} {s0 : S} (I : Nat → S → Prop) (Bq : S → Prop) (Rq : R → Prop), I 0 s0 →
    (∀ i x s, items[i]? = some x → I i s → ok x s ∧ Post (f x s) (I (i + 1)) Bq Rq) → forOk f ok items s0 ∧ PostL (forL f items s0) (fun s => I items.length s ∨ Bq s) Rq
  | [], s0, I, Bq, Rq, h0, _ => ⟨trivial, .inl h0⟩
  | x :: r, s0, I, Bq, Rq, h0, hs => by
    obtain ⟨h1, h2⟩ := hs 0 x s0 rfl h0
    have ih := fun s' (h : I 1 s') => for_inv (f := f) (ok := ok) (items := r) (s0 := s') (fun i => I (i + 1)) Bq Rq h fun i y s hy hi => hs (i + 1) y s hy hi
    cases e : f x s0 with
    | nx s' =>
      rw [e] at h2
      obtain ⟨a, b⟩ := ih s' h2
      exact ⟨⟨h1, by rw [e]; exact a⟩, by rw [forL_cons, e]; exact b⟩
    | ct s' =>
      rw [e] at h2
      obtain ⟨a, b⟩ := ih s' h2
      exact ⟨⟨h1, by rw [e]; exact a⟩, by rw [forL_cons, e]; exact b⟩
    | bk s' => rw [e] at h2; exact ⟨⟨h1, by rw [e]; trivial⟩, by rw [forL_cons, e]; exact .inr h2⟩
    | rt v => rw [e] at h2; exact ⟨⟨h1, by rw [e]; trivial⟩, by rw [forL_cons, e]; exact h2⟩
/-- a loop within a def: what it asks, and what holds of what the def hands back -/
theorem for_def {α S R : Type} [Inhabited R] {f : α → S → Ctl S S R} {ok : α → S → Prop} {items : List α} {s0 : S} {k : S → Ctl Empty Empty R} {q : S → Prop} {Q : R → Prop} (I : Nat → S → Prop) (Bq : S → Prop) (h0 : I 0 s0)
    (hs : ∀ i x s, items[i]? = some x → I i s → ok x s ∧ Post (f x s) (I (i + 1)) Bq Q) (hk : ∀ s, (I items.length s ∨ Bq s) → q s ∧ Q (outC (k s))) : okFor f ok items s0 q ∧ Q (outC (forC items f s0 k)) := by
  obtain ⟨a, b⟩ := for_inv (f := f) (ok := ok) I Bq Q h0 hs
  unfold forC
  cases e : forL f items s0 with
  | inl s =>
    rw [e] at b
    obtain ⟨c, d⟩ := hk s b
    exact ⟨⟨a, fun s' e' => (by rw [e] at e'; cases e'; exact c)⟩, d⟩
  | inr r =>
    rw [e] at b
    exact ⟨⟨a, fun s' e' => (by rw [e] at e'; cases e')⟩, b⟩
/-- a loop within a loop, or ahead of more: Ctl -/
theorem for_ctl {α S R S' B : Type} {f : α → S → Ctl S S R} {ok : α → S → Prop} {items : List α} {s0 : S} {k : S → Ctl S' B R} {q : S → Prop} {Q : Ctl S' B R → Prop} {Rq : R → Prop} (I : Nat → S → Prop) (Bq : S → Prop) (h0 : I 0 s0)
    (hs : ∀ i x s, items[i]? = some x → I i s → ok x s ∧ Post (f x s) (I (i + 1)) Bq Rq) (hr : ∀ r, Rq r → Q (.rt r)) (hk : ∀ s, (I items.length s ∨ Bq s) → q s ∧ Q (k s)) : okFor f ok items s0 q ∧ Q (forC items f s0 k) := by
  obtain ⟨a, b⟩ := for_inv (f := f) (ok := ok) I Bq Rq h0 hs
  unfold forC
  cases e : forL f items s0 with
  | inl s =>
    rw [e] at b
    obtain ⟨c, d⟩ := hk s b
    exact ⟨⟨a, fun s' e' => (by rw [e] at e'; cases e'; exact c)⟩, d⟩
  | inr r =>
    rw [e] at b
    exact ⟨⟨a, fun s' e' => (by rw [e] at e'; cases e')⟩, hr r b⟩
theorem outC_let {α R : Type} [Inhabited R] (x : α) (f : α → Ctl Empty Empty R) : outC (vLet x f) = outC (f x) := rfl
theorem outC_rt {R : Type} [Inhabited R] (r : R) : outC (.rt r : Ctl Empty Empty R) = r := rfl
theorem outC_if {R : Type} [Inhabited R] (b : Bool) (c d : Ctl Empty Empty R) : outC (cIf b c d) = if b then outC c else outC d := by cases b <;> rfl
theorem okIf_t {b : Bool} {p q : Prop} (h : b = true) (hp : p) : okIf b p q := ⟨fun _ => hp, fun e => by rw [h] at e; cases e⟩
theorem okIf_f {b : Bool} {p q : Prop} (h : b = false) (hq : q) : okIf b p q := ⟨fun e => (by rw [h] at e; cases e), fun _ => hq⟩
theorem okIf_b {b : Bool} {p q : Prop} (hp : p) (hq : q) : okIf b p q := ⟨fun _ => hp, fun _ => hq⟩
theorem cIf_t {S B R : Type} {b : Bool} {c d : Ctl S B R} (h : b = true) : cIf b c d = c := by rw [h]; rfl
theorem cIf_f {S B R : Type} {b : Bool} {c d : Ctl S B R} (h : b = false) : cIf b c d = d := by rw [h]; rfl

/-! ### ranges -/
theorem rng_get {n : Int} {i : Nat} {x : Int} (h : (rng n)[i]? = some x) : x = (i : Int) ∧ (i : Int) < n := by
  unfold rng at h
  rw [List.getElem?_map] at h
  by_cases hi : i < n.toNat
  · rw [List.getElem?_range hi] at h
    exact ⟨(Option.some.inj h).symm, by omega⟩
  · rw [List.getElem?_eq_none (by rw [List.length_range]; omega)] at h; cases h
theorem mem_rng {n x : Int} : x ∈ rng n ↔ 0 ≤ x ∧ x < n := by
  unfold rng
  rw [List.mem_map]
  constructor
  · rintro ⟨k, hk, rfl⟩
    have := List.mem_range.mp hk
    show 0 ≤ (k : Int) ∧ (k : Int) < n
    omega
  · rintro ⟨h1, h2⟩
    exact ⟨x.toNat, List.mem_range.mpr (by omega), Int.toNat_of_nonneg h1⟩
theorem rng_nil {n : Int} (h : n ≤ 0) : rng n = [] := by
  unfold rng; rw [show n.toNat = 0 by omega]; rfl
theorem rng_nat (n : Nat) : rng (n : Int) = (List.range n).map Int.ofNat := by unfold rng; rw [Int.toNat_natCast]

/-! ### places -/
theorem inB_nat {α : Type} {l : List α} {i : Int} (h0 : 0 ≤ i) (h1 : i < l.length) : inB l i := ⟨by omega, h1⟩
theorem ixD_at {α : Type} [Inhabited α] {l : List α} {i : Int} (h0 : 0 ≤ i) (h1 : i < l.length) : l[i.toNat]? = some (ixD l i) := by
  have h : i.toNat < l.length := by omega
  unfold ixD atI ixN
  rw [if_pos h0, if_pos h1]
  show l[i.toNat]? = some ((l[i.toNat]?).getD default)
  rw [List.getElem?_eq_getElem h]; rfl
theorem ixD_nat {α : Type} [Inhabited α] {l : List α} {i : Nat} (h : i < l.length) : ixD l (i : Int) = l[i] := by
  have := ixD_at (l := l) (i := (i : Int)) (by omega) (by omega)
  rw [Int.toNat_natCast, List.getElem?_eq_getElem h] at this
  exact Eq.symm (Option.some.inj this)
theorem ixD_some {α : Type} [Inhabited α] {l : List α} {i : Nat} {x : α} (h : l[i]? = some x) : ixD l (i : Int) = x := by
  obtain ⟨h1, h2⟩ := List.getElem?_eq_some_iff.mp h
  rw [ixD_nat h1, h2]
theorem ixD_mem {α : Type} [Inhabited α] {l : List α} {i : Int} (h0 : 0 ≤ i) (h1 : i < l.length) : ixD l i ∈ l := List.mem_of_getElem? (ixD_at h0 h1)

/-! ### cuts -/
theorem cut_to {α : Type} (l : List α) (k : Nat) : cut l none (some (k : Int)) = l.take k := by
  unfold cut
  rw [HT.sIx_none, HT.sIx_nat, List.drop_zero, Nat.sub_zero]
  by_cases h : k ≤ l.length
  · rw [Nat.min_eq_left h]
  · have hk : l.length ≤ k := by omega
    rw [Nat.min_eq_right hk, List.take_of_length_le (Nat.le_refl _), List.take_of_length_le hk]
theorem cut_from {α : Type} (l : List α) (k : Nat) : cut l (some (k : Int)) none = l.drop k := by
  unfold cut
  rw [HT.sIx_none, HT.sIx_nat]
  by_cases h : k ≤ l.length
  · rw [Nat.min_eq_left h, List.take_of_length_le (by rw [List.length_drop]; omega)]
  · rw [Nat.min_eq_right (by omega), List.drop_length, List.drop_of_length_le (by omega), List.take_nil]
theorem cut_set {l : Tx} {k : Nat} {c : Nat} (h : k < l.length) : cut l none (some (k : Int)) ++ [c] ++ cut l (some ((k : Int) + 1)) none = l.set k c := by
  rw [cut_to, show ((k : Int) + 1) = ((k + 1 : Nat) : Int) by omega, cut_from, List.append_assoc, List.set_eq_take_append_cons_drop, if_pos h]
  rfl
theorem eqB_t {α : Type} [DecidableEq α] {x y : α} : eqB x y = true ↔ x = y := by unfold eqB; exact decide_eq_true_iff
theorem eqB_f {α : Type} [DecidableEq α] {x y : α} : eqB x y = false ↔ x ≠ y := by unfold eqB; exact decide_eq_false_iff_not
theorem memB_t {α : Type} [DecidableEq α] {x : α} {l : List α} : memB x l = true ↔ x ∈ l := by unfold memB; exact decide_eq_true_iff
theorem memB_f {α : Type} [DecidableEq α] {x : α} {l : List α} : memB x l = false ↔ x ∉ l := by unfold memB; exact decide_eq_false_iff_not
theorem eqB_self {α : Type} [DecidableEq α] (x : α) : eqB x x = true := eqB_t.mpr rfl

/-! ### texts that are written -/
theorem lit_e : lit "" = [] := by decide +kernel
theorem lit_d : lit "-" = [45] := by decide +kernel
theorem lit_0 : lit "0" = [48] := by decide +kernel
theorem lit_1 : lit "1" = [49] := by decide +kernel
theorem lit_01 : lit "01" = [48, 49] := by decide +kernel
theorem lit_01d : lit "01-" = [48, 49, 45] := by decide +kernel
theorem joinT_e : ∀ l : List Tx, joinT (lit "") l = l.flatten
  | [] => rfl
  | [x] => by show x = _; simp
  | x :: y :: r => by
    show x ++ (lit "" ++ joinT (lit "") (y :: r)) = _
    rw [joinT_e (y :: r), lit_e, List.nil_append, List.flatten_cons (L := y :: r)]
theorem joinT_nil : ∀ l : List Tx, joinT [] l = l.flatten := fun l => by
  have := joinT_e l
  rwa [lit_e] at this
theorem flat_one : ∀ {l : List Tx}, (∀ x ∈ l, x.length = 1) → l.flatten.length = l.length ∧ (l.map List.length).sum = l.length
  | [], _ => ⟨rfl, rfl⟩
  | x :: l, h => by
    have ih := flat_one fun y hy => h y (List.mem_cons_of_mem _ hy)
    have h1 := h x List.mem_cons_self
    exact ⟨by rw [List.flatten_cons, List.length_append, ih.1, h1, List.length_cons]; omega, by rw [List.map_cons, List.sum_cons, ih.2, h1, List.length_cons]; omega⟩
theorem zipT_len {α β : Type} (xs : List α) (ys : List β) : (zipT xs ys).length = min xs.length ys.length := by unfold zipT; rw [List.length_map, List.length_zip]
theorem zipT_chs (a b : Nat) (x y : Tx) : zipT (chs (a :: x)) (chs (b :: y)) = ⟨([a], [b], ())⟩ :: zipT (chs x) (chs y) := rfl
theorem chs_len (x : Tx) : (chs x).length = x.length := by unfold chs; rw [List.length_map]
end Cx

/-! CxUnp: unpacking, reading an owned list, reversed ranges, sorted texts. -/
namespace Cx
open PySem PySem.Spec PyProof.Rows L2 Evl
open Rep (rep)
open RepA (repA)
section
variable {K : PySem.W.Frag} {N : Nat} {H0 Hb : Hp} {ps0 ps : List Addr} {σ : L2.St} {H H1 : Hp} {O : List Od} {L L' : List Bd} {α β : Type} [Rep α] [Rep β]
variable {S B R : Type} {c : Ctl S B R} {SR : S → L2.St → Hp → Prop} {BR : B → L2.St → Hp → Prop} {RR : R → V → Hp → Prop} {t u : TS} {te : TE}
/-- a, b = a list of two -/
theorem d_unl2 [Inhabited α] {i j : Nat} {x : List α} {f : List α → Ctl S B R} {ok : List α → Prop} (st : Stt K N H0 ps0 Hb σ H O L) (he : ER K (psO O ps0) te σ H x) (hl : x.length = 2) (hok : okLet x ok) (hij : i < N ∧ j < N ∧ i ≠ j) (hO : NoO i O ∧ NoO j O) (hL : SubV [i, j] L' L)
    (k : ∀ (y : List α) σ1 H1, y = x → ok y → Stt K N H0 ps0 Hb σ1 H1 O (bd j (ixD y 1) :: bd i (ixD y 0) :: L') → Does u σ1 H1 (f y) SR BR RR) :
    Does (tSeq (tAsg te (gUnl K 2 (gCons (gName i) (gCons (gName j) gNil)))) u) σ H (vLet x f) SR BR RR := fun D h1 h2 h3 h4 =>
  he H (Ex.refl _) st.dm _ fun v H1 e r => by
    obtain ⟨a, vs, rfl, hv, rs⟩ := r
    match x, hl, rs with
    | [x0, x1], _, .cons (v := v0) r0 (.cons (v := v1) r1 .nil) =>
    refine ⟨a, _, rfl, sq_of (mn_ex _ _ hv), rfl, v0, _, rfl, v1, _, rfl, rfl, ?_⟩
    have s1 := (st.to e).set (i := i) (L' := L') r0 hij.1 hO.1 fun b hb => ⟨(hL b hb).1, fun z => (hL b hb).2 (by rw [z]; exact List.mem_cons_self)⟩
    refine k [x0, x1] _ H1 rfl hok (s1.set (i := j) (L' := bd i x0 :: L') r1 hij.2.1 hO.2 fun b hb => ⟨hb, ?_⟩) D h1 h2 h3 h4
    obtain q | q := List.mem_cons.mp hb
    · rw [q]; exact hij.2.2
    · exact fun z => (hL b q).2 (by rw [z]; exact List.mem_cons_of_mem _ List.mem_cons_self)

/-! ### reading what is owned -/
theorem Stt.k0 (st : Stt K N H0 ps0 Hb σ H O L) : Kn K N ps0 σ H L := ⟨st.len, fun b hb => by
  obtain ⟨v, a, r⟩ := st.kn b hb
  exact ⟨v, a, @Rep.mono _ b.R _ _ _ _ _ (mn_le fun a ha => List.mem_append_right _ ha) r⟩⟩
theorem Stt.kp {i : Nat} {p : Addr} {l : List α} (st : Stt K N H0 ps0 Hb σ H O L) (h : od i p l ∈ O) {L1 : List Bd} (kn : Kn K N ps0 σ H L1) (hi : i < N := by decide) : Kn K N ps0 σ H (bd i l :: L1) := ⟨st.len, fun b hb => by
  obtain q | q := List.mem_cons.mp hb
  · subst q; exact st.peek h hi
  · exact kn.kn b q⟩
/-- values that are no places -/
class Lone (α : Type) [Rep α] where
  lone : ∀ {K : PySem.W.Frag} {H H' : Hp} {v : V} {x : α}, rep K H v x → rep K H' v x
instance : Lone Int := ⟨fun h => h⟩
instance : Lone Bool := ⟨fun h => h⟩
instance : Lone Tx := ⟨fun h => h⟩
instance {α : Type} [Rep α] [Lone α] : Lone (Option α) := ⟨fun {K H H' v x} h => by
  cases x with
  | none => exact h
  | some y => exact ⟨Lone.lone h.1, h.2⟩⟩
theorem dm_up (d : Dm H (psO O ps0)) : Dm H ps0 := fun p hp => d p (List.mem_append_right _ hp)
theorem er_up [Lone α] {x : α} (h : ER K ps0 te σ H x) : ER K (psO O ps0) te σ H x := fun H1 e d Q q => h H1 e (dm_up d) _ fun v H2 e2 r => q v H2 e2 (Lone.lone r)
theorem et_up {b : Bool} {tt : TT} (h : ET ps0 tt σ H b) : ET (psO O ps0) tt σ H b := fun H1 e d Q q => h H1 e (dm_up d) Q q

/-! ### reversed(range(n)) -/
theorem ei_revrng {tl : TE} {n : Int} (h : ER K ps tl σ H n) (hn : rB n) : EI K ps (iRevR (tRg1 tl)) σ H (rng n).reverse := fun H1 e d R q =>
  h H1 e d _ fun v H2 e2 r => by
    obtain ⟨hn1, hn2⟩ := hn
    refine ⟨n, r, by decide, by decide, by omega, by omega, q _ H2 e2 ?_⟩
    rw [List.length_reverse, rng_len]
    rw [show (n - 0).toNat = n.toNat by omega]
    refine (walk_rangeC (lo := 0 + ((n.toNat : Nat) : Int) - 1) (c := -1) (n := n.toNat)).mono (fun _ _ => trivial) fun i H' x H'' hi g y => ?_
    obtain ⟨rfl, rfl⟩ := y
    refine ⟨Ex.refl _, ((n.toNat - 1 - i : Nat) : Int), ?_, fun ps' _ _ => ?_⟩
    · rw [List.getElem?_reverse (by rw [rng_len]; exact hi), rng_len]
      unfold rng
      rw [List.getElem?_map, List.getElem?_range (by omega)]; rfl
    · show V.int _ = V.int _
      congr 1
      omega

/-! ### sorted texts -/
/-- the list that sorted makes stands in the heap -/
theorem laid_sorted {X : L2.Cx} {ps : List (Addr × Obj)} {σ : L2.St} {H : Hp} {s : Shared} {Q : VK} {its : List Value} {out : Array Value} {vs : List V} (I : Inv X ps σ H s) (rel : Vals vs out.toList) (fits : vs.length ≤ sizeLine)
    (go : ∀ p, H p = none → Q (.ref p) (upd H p (.lst vs))) : EP X ps σ Q (.ref (s.heap.objs.size + 1)) { s with heap := PyProof.Rows.sortedAll s.heap its out } := by
  obtain ⟨ep, there⟩ := PyProof.Rows.sortedAll_at s.heap its out
  have new : s.heap.objs.size ≤ s.heap.objs.size + 1 := Nat.le_succ _
  exact ⟨.ref _, _, I.laid (t' := s.toks) (o := .lst vs) (fun _ _ old => PyProof.Rows.sortedAll_old old) new ⟨fits, _, ep, rel, there⟩, rfl, go _ (I.hok.fresh new)⟩
/-- what stands in ys is xs, sorted -/
def SortTo {α : Type} (mk : α → V) (xs : List α) (up : List α → Prop) (H : Hp) (Q : VK) : Prop := ∀ (ys : List α) (p : Addr), ys.Perm xs → up ys → H p = none → Q (.ref p) (upd H p (.lst (ys.map mk)))
def rSortedA (K : PySem.W.Frag) : List V → Hp → VK → Prop := fun vs H Q => ∃ (a : Addr) (xs : List Str), vs = [V.ref a] ∧ SqL K H a (xs.map V.str) ∧ xs.length ≤ sizeLine ∧ SortTo V.str xs (fun ys => sortedS ys = true) H Q
theorem cr_sortedA {X : L2.Cx} : CallR X (.builtin "sorted") (rSortedA X.K) := fun ps s σ H vs us Q inv rel ⟨a, xs, e, src, fits, go⟩ => by
  subst e
  obtain ⟨its, items, is, _⟩ := inv.list src
  have len : its.length = xs.length := items.length.symm.trans (List.length_map _)
  rw [Vals.ref1 rel]
  refine PyProof.Rows.sorted_strsAny is.isList items.strs (len ▸ fits) fun out ys r perm up => laid_sorted inv (vals_of_strs r) ?_ fun p free => go ys p perm up free
  rw [List.length_map, perm.length_eq]; exact fits
theorem kcr_sortedA {X : L2.Cx} (K : PySem.W.Frag) (hK : X.K = K) : CallR X (.builtin "sorted") (rSortedA K) := by subst hK; exact cr_sortedA
/-- texts in ascending order -/
def srtS (l : List Tx) : List Tx := l.mergeSort fun a b => !decide (b < a)
theorem srtS_perm (l : List Tx) : (srtS l).Perm l := List.mergeSort_perm _ _
theorem srtS_pw (l : List Tx) : (srtS l).Pairwise fun a b => ¬ b < a := by
  have := List.pairwise_mergeSort (le := fun a b : Tx => !decide (b < a)) (fun a b c h1 h2 => by
    simp only [Bool.not_eq_true', decide_eq_false_iff_not, List.not_lt] at h1 h2 ⊢
    exact List.le_trans h1 h2) (fun a b => by
    simp only [Bool.or_eq_true, Bool.not_eq_true', decide_eq_false_iff_not, List.not_lt]
    exact List.le_total a b) l
  exact this.imp fun h => by simpa using h
theorem tS_cpsl (x : Tx) : (tS x).cps.toList = x := by simp [tS]
theorem risingS_pw : ∀ (p : Str) (l : List Str), risingS p l = true → (p :: l).Pairwise fun a b => ¬ b.cps.toList < a.cps.toList
  | p, [], _ => List.pairwise_singleton _ _
  | p, x :: r, h => by
    unfold risingS at h
    rw [Bool.and_eq_true, Bool.not_eq_true', ltCps_eq, decide_eq_false_iff_not] at h
    have ih := risingS_pw x r h.2
    refine List.pairwise_cons.mpr ⟨fun y hy => ?_, ih⟩
    obtain e | e := List.mem_cons.mp hy
    · rw [e]; exact h.1
    · have h2 := (List.pairwise_cons.mp ih).1 y e
      rw [List.not_lt] at h2 ⊢
      exact List.le_trans (List.not_lt.mp h.1) h2
theorem sortedS_pw {l : List Str} (h : sortedS l = true) : l.Pairwise fun a b => ¬ b.cps.toList < a.cps.toList := by
  cases l with
  | nil => exact .nil
  | cons x r => exact risingS_pw x r h
theorem srtS_of {l : List Tx} {ys : List Str} (hp : ys.Perm (l.map tS)) (hs : sortedS ys = true) : ys = (srtS l).map tS := by
  have e : ys = (ys.map fun y => y.cps.toList).map tS := by
    rw [List.map_map]
    have : (tS ∘ fun y : Str => y.cps.toList) = id := by funext y; simp [tS]
    rw [this, List.map_id]
  rw [e]
  congr 1
  refine List.Perm.eq_of_pairwise (le := fun a b : Tx => ¬ b < a) (fun a b _ _ h1 h2 => List.le_antisymm (List.not_lt.mp h1) (List.not_lt.mp h2)) ?_ (srtS_pw l) ?_
  · rw [List.pairwise_map]; exact sortedS_pw hs
  · refine (hp.map _).trans ?_
    rw [List.map_map]
    have : ((fun y : Str => y.cps.toList) ∘ tS) = id := by funext y; simp [tS]
    rw [this, List.map_id]
    exact (srtS_perm l).symm
theorem reps_of_asc {l : List Tx} (h : ∀ x ∈ l, Asc x) : Reps K H ((l.map tS).map V.str) l := by
  induction l with
  | nil => exact .nil
  | cons x l ih => exact .cons ⟨rfl, h x List.mem_cons_self⟩ (ih fun y hy => h y (List.mem_cons_of_mem _ hy))
theorem er_sortedS {l : List Tx} (ha : ER K ps te σ H l) (hz : l.length ≤ 100000) : ER K ps (tCB (rSortedA K) (tCons te tNil)) σ H (srtS l) :=
  er_cb1 ha fun v H1 d r Q q => by
    obtain ⟨a, vs, rfl, hv, rs⟩ := r
    have hasc := reps_asc rs
    refine ⟨a, l.map tS, rfl, by rw [← reps_map_str rs]; exact sq_of (mn_ex _ _ hv), by rw [List.length_map, sizeLine_eq]; omega, fun ys p hp hs hn => ?_⟩
    rw [srtS_of hp hs]
    exact q _ _ (Ex.new hn) (new_lst d hn (reps_of_asc fun x hx => hasc x ((srtS_perm l).mem_iff.mp hx)))

/-! ### a list made by a comprehension: its place is new -/
def EFr (K : PySem.W.Frag) (ps : List Addr) (te : TE) (σ : L2.St) (H : Hp) (x : List α) : Prop :=
  ∀ H1, Ex H H1 → Dm H1 ps → ∀ Q : VK, (∀ D ws H2, H1 D = none → Ex H1 H2 → H2 D = some (.lst ws) → Reps K (mn H2 (D :: ps)) ws x → Q (.ref D) H2) → te σ H1 Q
theorem lone_reps [Lone α] {H H' : Hp} {vs : List V} {l : List α} (h : Reps K H vs l) : Reps K H' vs l := by
  induction h with
  | nil => exact .nil
  | cons r _ ih => exact .cons (Lone.lone r) ih
theorem er_ofFr [Lone α] {x : List α} (h : EFr K ps0 te σ H x) : ER K (psO O ps0) te σ H x := fun H1 e d Q q =>
  h H1 e (dm_up d) _ fun D ws H2 hD e2 h2 r => q _ H2 e2 ⟨D, ws, rfl, mn_at h2 (d.notin hD), lone_reps r⟩
theorem efr_lcG {ps : List Addr} {wi : TI} {g : TG} {tt : TT} {te : TE} {vs : List Nat} {items : List α} {p : α → Bool} {h : α → β} (hi : EI K ps wi σ H items) (hz : items.length ≤ 100000)
    (hb : ∀ (ps' : List Addr) (x : α) (v : V) (H' : Hp) (P : L2.St → Hp → Prop), x ∈ items → Ex (mn H ps) (mn H' ps') → rep K (mn H' ps') v x → Dm H' ps' → (∀ σ2, wipe σ2 vs = wipe σ vs → ET ps' tt σ2 H' (p x) → (p x = true → ER K ps' te σ2 H' (h x)) → P σ2 H') → g v (wipe σ vs) H' P) :
    EFr K ps (tLc wi g tt te vs) σ H ((items.filter p).map h) := fun H1 e d Q q =>
  hi H1 e d _ fun J H2 e2 w D hD => by
    have d2 := d.mono e2
    have hDps : D ∉ ps := d2.notin hD
    have eD : Ex H2 (upd H2 D (.lst [])) := Ex.new hD
    let Pv : Nat → Hp → Prop := fun i H' => ∃ ws, H' D = some (.lst ws) ∧ (∀ a o, a ≠ D → H2 a = some o → H' a = some o) ∧ Reps K (mn H' (D :: ps)) ws (((items.take i).filter p).map h) ∧ Ex (mn H2 ps) (mn H' (D :: ps))
    refine lc_it w (D := D) (vs := vs) (σ := σ) Pv ⟨[], upd_same, fun a o ha ho => by rw [upd_ne ha]; exact ho, .nil, mn_new eD hD⟩ (fun i H' _ pv => ?_) (fun i v H' H'' hi pv y => ?_) (fun H' pv => ?_)
    · obtain ⟨ws, _, _, _, h4⟩ := pv
      exact h4.trans mn_ex
    · obtain ⟨ws, h1, h2, h3, h4⟩ := pv
      obtain ⟨ey, x, hx, rx⟩ := y
      have dD : Dm H' (D :: ps) := fun a ha hn => by
        obtain z | z := List.mem_cons.mp ha
        · rw [z, h1] at hn; cases hn
        · cases q1 : H2 a with
          | none => exact d2 a z q1
          | some o => rw [h2 a o (fun z2 => hDps (by rw [← z2]; exact z)) q1] at hn; cases hn
      have rv := rx (D :: ps) dD h4
      have dD2 : Dm H'' (D :: ps) := dD.mono ey
      have stp : ((items.take (i + 1)).filter p).map h = ((items.take i).filter p).map h ++ (if p x = true then [h x] else []) := by
        rw [List.take_add_one, hx, List.filter_append, List.map_append]
        congr 1
        show (List.filter p [x]).map h = _
        rw [List.filter_cons]
        by_cases hp : p x = true
        · rw [if_pos hp, if_pos hp]; rfl
        · rw [if_neg hp, if_neg hp]; rfl
      have hlen : (((items.take i).filter p).map h).length ≤ i := by
        rw [List.length_map]
        exact Nat.le_trans (List.length_filter_le _ _) (by rw [List.length_take]; exact Nat.min_le_left _ _)
      refine hb (D :: ps) x v H'' _ (List.mem_of_getElem? hx) (((mn_mono (e.trans e2)).trans h4).trans (mn_mono ey)) rv dD2 (fun σ2 hw ht he => ⟨hw, ht H'' (Ex.refl _) dD2 _ fun H3 e3 => ?_⟩)
      cases hp : p x with
      | true =>
        refine he hp H3 e3 (dD2.mono e3) _ fun y H4 e4 ry => ⟨ws, e4 _ _ (e3 _ _ (ey _ _ h1)), sz_lt (by rw [h3.length]; omega), ws ++ [y], upd_same, fun a o ha ho => by rw [upd_ne ha]; exact e4 _ _ (e3 _ _ (ey _ _ (h2 a o ha ho))), ?_, ?_⟩
        · rw [mn_upd List.mem_cons_self, stp, if_pos hp]
          exact (h3.mono (mn_mono ((ey.trans e3).trans e4))).append (.cons ry .nil)
        · rw [mn_upd List.mem_cons_self]
          exact h4.trans (mn_mono ((ey.trans e3).trans e4))
      | false =>
        refine ⟨ws, e3 _ _ (ey _ _ h1), fun a o ha ho => e3 _ _ (ey _ _ (h2 a o ha ho)), ?_, h4.trans (mn_mono (ey.trans e3))⟩
        rw [stp, if_neg (by rw [hp]; exact Bool.false_ne_true), List.append_nil]
        exact h3.mono (mn_mono (ey.trans e3))
    · obtain ⟨ws, h1, h2, h3, h4⟩ := pv
      rw [List.take_length] at h3
      have exH : Ex H2 H' := fun a o ho => h2 a o (fun z => by rw [z, hD] at ho; cases ho) ho
      exact q D ws H' (fresh_back e2 hD) (e2.trans exH) h1 h3

theorem efr_lcF {wi : TI} {j : Nat} {tt : TT} {te : TE} {vs : List Nat} {items : List α} {p : α → Bool} {h : α → β} (L' : List Bd) (kn : Kn K N ps σ H L) (hi : EI K ps wi σ H items) (hz : items.length ≤ 100000) (hj : j ∈ vs) (hjN : j < N) (hL : SubV vs L' L)
    (ht : ∀ (ps' : List Addr) (x : α) (σ' : L2.St) (H' : Hp), x ∈ items → Kn K N ps' σ' H' (bd j x :: L') → ET ps' tt σ' H' (p x)) (he : ∀ (ps' : List Addr) (x : α) (σ' : L2.St) (H' : Hp), x ∈ items → p x = true → Kn K N ps' σ' H' (bd j x :: L') → ER K ps' te σ' H' (h x)) :
    EFr K ps (tLc wi (gName j) tt te vs) σ H ((items.filter p).map h) :=
  efr_lcG hi hz fun ps' x v H' P hx e r d hP => by
    have k2 := kn.blk (vs := vs) (j := j) (L' := L') e r hjN (fun b hb => ⟨(hL b hb).1, (hL b hb).2, fun z => (hL b hb).2 (by rw [z]; exact hj)⟩)
    exact hP _ (by rw [wipe_set hj, wipe_wipe]) (ht ps' x _ H' hx k2) (fun hp => he ps' x _ H' hx hp k2)
theorem efr_lcM {wi : TI} {j : Nat} {te : TE} {vs : List Nat} {items : List α} {h : α → β} (L' : List Bd) (kn : Kn K N ps σ H L) (hi : EI K ps wi σ H items) (hz : items.length ≤ 100000) (hj : j ∈ vs) (hjN : j < N) (hL : SubV vs L' L)
    (he : ∀ (ps' : List Addr) (x : α) (σ' : L2.St) (H' : Hp), x ∈ items → Kn K N ps' σ' H' (bd j x :: L') → ER K ps' te σ' H' (h x)) :
    EFr K ps (tLc wi (gName j) tYes te vs) σ H (items.map h) := by
  have := efr_lcF (K := K) (N := N) (p := fun _ => true) (h := h) (tt := tYes) (te := te) L' kn hi hz hj hjN hL (fun _ _ _ _ _ _ => et_yes) (fun ps' x σ' H' hx _ k => he ps' x σ' H' hx k)
  rwa [all_map] at this

/-! ### rows[i] = e -/
def setD {α : Type} (l : List α) (j : Int) (x : α) : List α := l.set ((ixN l.length j).getD 0) x
theorem d_setL {i : Nat} {p : Addr} {l : List α} {x : α} {j : Int} {ti : TE} {ok : List α → Prop} {f : List α → Ctl S B R} (st : Stt K N H0 ps0 Hb σ H (od i p l :: O) L) (he : ER K (psO (od i p l :: O) ps0) te σ H x) (hj : ER K (psO (od i p l :: O) ps0) ti σ H j) (hb : inB l j) (hok : okLet (setD l j x) ok)
    (k : ∀ y H1, y = setD l j x → ok y → Stt K N H0 ps0 Hb σ H1 (od i p y :: O) L → Does u σ H1 (f y) SR BR RR) (hi : i < N := by decide) : Does (tSeq (tAsg te (gSub (tVar i) ti rSetL)) u) σ H (vLet (setD l j x) f) SR BR RR :=
  d_setO st rfl he hj hb hi fun H1 st1 => k _ H1 rfl hok st1

/-! ### xs.count(x), texts -/
def rCntS (K : PySem.W.Frag) : V → List V → Hp → VK → Prop := fun x xs H Q => ∃ (p : Addr) (ys : List Str) (k : Str), x = .ref p ∧ xs = [.str k] ∧ SqL K H p (ys.map V.str) ∧ Q (.int (countIn (.str k) (ys.map PyData.str))) H
theorem mt_scount {X : L2.Cx} : MtR X "list.count" (rCntS X.K) := fun ps s σ H x xs v us Q inv rx rs ⟨p, ys, k, ex, es, src, q⟩ => by
  subst ex es
  cases rx
  obtain ⟨_, rfl, t, rfl⟩ := rs.one
  obtain ⟨its, items, is, _⟩ := inv.list src
  exact count_list_strs is.isList items.strs ⟨.int _, H, inv.tok _, ⟨s.toks, rfl⟩, q⟩
theorem kmt_scount {X : L2.Cx} (K : PySem.W.Frag) (hK : X.K = K) : MtR X "list.count" (rCntS K) := by subst hK; exact mt_scount
theorem countIn_tS (x : Tx) : ∀ l : List Tx, countIn (.str (tS x)) ((l.map tS).map PyData.str) = (l.count x : Int)
  | [] => rfl
  | y :: l => by
    rw [List.map_cons, List.map_cons, countIn, countIn_tS x l, List.count_cons]
    have h : same (.str (tS y)) (.str (tS x)) = (y == x) := by
      have e : (same (.str (tS y)) (.str (tS x)) = true) ↔ y = x := by
        simp only [same]
        constructor
        · intro h
          have := eq_of_beq h
          first | exact (tS_inj this).symm | exact tS_inj this
        · intro h; rw [h]; simp
      rw [Bool.eq_iff_iff, e, beq_iff_eq]
    rw [h]
    cases (y == x) <;> simp <;> omega
theorem er_countL {l : List Tx} {x : Tx} {tb : TE} (ha : ER K ps te σ H l) (hb : ER K ps tb σ H x) : ER K ps (tBM K "list" (rCntS K) te (tCons tb tNil)) σ H (l.count x : Int) := fun H1 e d Q q =>
  ha H1 e d _ fun v H2 e2 r => by
    obtain ⟨a, vs, rfl, hv, rs⟩ := r
    refine ⟨.inl ⟨rfl, vs, sq_of (mn_ex _ _ hv)⟩, hb H2 (e.trans e2) (d.mono e2) _ fun w H3 e3 r3 => ?_⟩
    refine ⟨a, l.map tS, tS x, rfl, by rw [r3.1], by rw [← reps_map_str rs]; exact sq_of (e3 _ _ (mn_ex _ _ hv)), ?_⟩
    rw [countIn_tS]
    exact q _ H3 (e2.trans e3) rfl

/-! ### '-' * n -/
def repS (x : Tx) (n : Int) : Tx := List.replicate n.toNat (x.headD 0)
def rRepS : R2 := fun x y H Q => ∃ (a : Str) (k : Int), x = .str a ∧ y = .int k ∧ PySem.MulOk a k ∧ Q (.str (Txt.mul a k)) H
theorem op_repS {X : L2.Cx} : OpR X (binaryOp .Mult) rRepS := fun ps s σ H x y v u Q inv rx ry ⟨a, k, ex, ey, ok, q⟩ => by
  subst ex ey
  obtain ⟨_, rfl⟩ := rx
  obtain ⟨_, rfl⟩ := ry
  exact PySem.SB.mul ok fun t _ => ⟨.str (Txt.mul a k), H, inv.tok _, ⟨t, rfl⟩, q⟩
theorem er_repS {x : Tx} {n : Int} {ta tb : TE} (ha : ER K ps ta σ H x) (hb : ER K ps tb σ H n) (hc : x.length = 1 ∧ 0 ≤ n ∧ n ≤ 100000) : ER K ps (tOp rRepS ta tb) σ H (repS x n) :=
  er_op ha hb fun v w H1 d r1 r2 Q q => by
    obtain ⟨hx, h0, h1⟩ := hc
    match x, hx with
    | [c], _ =>
    have hl : (tS [c]).length = 1 := by rw [tS_len]; rfl
    refine ⟨tS [c], n, r1.1, r2, ?_, q _ H1 (Ex.refl _) ⟨?_, fun d hd => ?_⟩⟩
    · refine ⟨by rw [decide_eq_false (show ¬ n < -(2 ^ 63 : Int) by omega), decide_eq_false (show ¬ n ≥ 2 ^ 63 by omega)]; rfl, fun h2 _ => ?_, fun h2 _ => ?_⟩
      · rw [hl]
        have := (Int.le_ediv_iff_mul_le (a := 1) (b := (2 ^ 63 - 1 : Int)) (show 0 < n by omega)).mpr (by omega)
        omega
      · rw [hl, Nat.one_mul]
        unfold Builtin.Str.tooLong
        rw [decide_eq_false_iff_not, sizeLine_eq]
        omega
    · show V.str _ = V.str _
      congr 1
      have := PyProof.Rows.mul_one_list c n
      have e : tS [c] = ⟨#[c]⟩ := rfl
      rw [e]
      unfold repS tS
      rw [show ([c] : Tx).headD 0 = c from rfl, ← this]
    · rw [show repS [c] n = List.replicate n.toNat c from rfl] at hd
      rw [List.eq_of_mem_replicate hd]
      exact r1.2 c List.mem_cons_self

/-! ### lstrip -/
def lstS (x y : Tx) : Tx := x.dropWhile fun c => y.contains c
theorem drop_takeWhile (p : Nat → Bool) : ∀ l : List Nat, l.drop (l.takeWhile p).length = l.dropWhile p
  | [] => rfl
  | x :: l => by
    rw [List.takeWhile_cons, List.dropWhile_cons]
    cases p x
    · rfl
    · exact drop_takeWhile p l
theorem lst_tS (x y : Tx) : Txt.lstripChars (tS x) (tS y) = tS (lstS x y) := by
  have hg : (tS y).cps.contains = fun c => y.contains c := by funext c; simp [tS]
  unfold Txt.lstripChars Txt.stripBy
  rw [hg]
  have hlo : stripLo (fun c => y.contains c) true (tS x) = (x.takeWhile fun c => y.contains c).length := by unfold stripLo; rw [if_pos rfl, tS_cpsl]
  have hhi : ∀ k, stripHi (fun c => y.contains c) false (tS x) k = x.length := fun k => by unfold stripHi; rw [if_neg Bool.false_ne_true, tS_len]
  have hs : stripped (fun c => y.contains c) true false (tS x) = tS (lstS x y) := by
    unfold stripped
    rw [hlo, hhi]
    unfold Builtin.Str.strSub lstS
    rw [← drop_takeWhile]
    show Str.mk _ = Str.mk _
    congr 1
    apply Array.ext'
    simp [tS]
    exact List.take_of_length_le (by rw [List.length_drop]; exact Nat.le_refl _)
  split
  · rename_i hsame
    unfold stripSame at hsame
    rw [hlo, Bool.and_eq_true] at hsame
    have h0 := eq_of_beq hsame.1
    unfold lstS
    rw [← drop_takeWhile, h0, List.drop_zero]
  · exact hs
def rLst : V → List V → Hp → VK → Prop := fun x xs H Q => ∃ a b, x = .str a ∧ xs = [.str b] ∧ a.length ≤ sizeLine ∧ Q (.str (Txt.lstripChars a b)) H
theorem pe_lstrip {X : L2.Cx} {o e : Expr} {to te : TE} {apos pos : Pos} (ho : PE X o to) (he : PE X e te) (hs : starEach [e] X.env = [(false, eval e X.env)] := by rfl) (hbase : attributeBase o "lstrip" X.env (eval o X.env) = eval o X.env := by rfl) (hline : (apos.endLine == pos.line) = true := by rfl) :
    PE X (.Call (.Attribute o "lstrip" apos) [e] [] pos) (tM1 rLst to te) := pe_m1 PySem.F.slot_str_lstrip PySem.F.type_str_lstrip mt_lstripChars ho he hs hbase hline
theorem er_lstrip {x y : Tx} {ta tb : TE} (ha : ER K ps ta σ H x) (hb : ER K ps tb σ H y) (hz : x.length ≤ 100000) : ER K ps (tM1 rLst ta tb) σ H (lstS x y) := fun H1 e d Q q =>
  ha H1 e d _ fun v H2 e2 r => ⟨⟨tS x, r.1⟩, hb H2 (e.trans e2) (d.mono e2) _ fun w H3 e3 r3 => ⟨tS x, tS y, r.1, by rw [r3.1], by rw [tS_len, sizeLine_eq]; omega, by
    rw [lst_tS]
    exact q _ H3 (e2.trans e3) ⟨rfl, fun c hc => r.2 c ((List.dropWhile_sublist _).subset hc)⟩⟩⟩

/-! ### min -/
def minL (l : List Int) : Int := l.min?.getD 0
theorem minL_spec {l : List Int} (h : 0 < l.length) : minL l ∈ l ∧ ∀ y ∈ l, minL l ≤ y := by
  unfold minL
  cases e : l.min? with
  | none => rw [List.min?_eq_none_iff] at e; rw [e] at h; cases h
  | some m => exact List.min?_eq_some_iff.mp e
theorem er_minL {l : List Int} (ha : ER K ps te σ H l) (h : 0 < l.length) : ER K ps (tCB (rMin K) (tCons te tNil)) σ H (minL l) :=
  er_cb1 ha fun v H1 d r Q q => by
    obtain ⟨a, vs, rfl, hv, rs⟩ := r
    refine ⟨a, l, rfl, by rw [← reps_map_int rs]; exact sq_of (mn_ex _ _ hv), h, fun m h1 h2 => ?_⟩
    have hm := minL_spec h
    have e : m = minL l := by
      have a1 := h2 _ hm.1
      have a2 := hm.2 _ h1
      omega
    rw [e]
    exact q _ H1 (Ex.refl _) rfl

/-! ### rows.extend(e) -/
theorem d_extend {i : Nat} {p : Addr} {l l2 : List α} {ok : List α → Prop} {f : List α → Ctl S B R} (st : Stt K N H0 ps0 Hb σ H (od i p l :: O) L) (he : ER K (psO (od i p l :: O) ps0) te σ H l2) (hz : l.length + l2.length ≤ 100000) (hok : okLet (l ++ l2) ok)
    (k : ∀ y H1, y = l ++ l2 → ok y → Stt K N H0 ps0 Hb σ H1 (od i p y :: O) L → Does u σ H1 (f y) SR BR RR) (hi : i < N := by decide) : Does (tSeq (tDrop (tBM K "list" rExtend (tVar i) (tCons te tNil))) u) σ H (vLet (l ++ l2) f) SR BR RR := fun D h1 h2 h3 h4 => by
  obtain ⟨a1, a2, a3, vs, a4, a5⟩ := st.owM List.mem_cons_self hi
  refine ⟨.ref p, a1, .inl ⟨rfl, vs, sq_of a4⟩, he H (Ex.refl _) st.dm _ fun v H1 e r => ?_⟩
  obtain ⟨b, ws, rfl, hb, rb⟩ := r
  have a5' := a5.mono (mn_mono e)
  refine ⟨p, b, vs, ws, rfl, rfl, e _ _ a4, mn_ex _ _ hb, by
    have z : vs.length = l.length := a5.length
    rw [z, rb.length, sizeLine_eq]; omega, ?_⟩
  exact k _ _ rfl hok ((st.to e).put (a5'.append rb)) D h1 h2 h3 h4
end
end Cx

/-! CxNew: lists that are new: defs that hand back a new list, or the one that they were passed. -/
namespace Cx
open PySem PySem.Spec PyProof.Rows L2 Evl
open Rep (rep)
open RepA (repA)
/-- a place that was not there -/
def NewV (H0 : Hp) (v : V) : Prop := ∃ a, v = .ref a ∧ H0 a = none
/-- data of a value that is v0, or new -/
structure Fr (v0 : V) (H0 : Hp) (α : Type) where
  val : α
instance {v0 : V} {H0 : Hp} {α : Type} [Inhabited α] : Inhabited (Fr v0 H0 α) := ⟨⟨default⟩⟩
instance {v0 : V} {H0 : Hp} {α : Type} [Rep α] : Rep (Fr v0 H0 α) := ⟨fun K H v x => rep K H v x.val ∧ (v = v0 ∨ NewV H0 v), fun e h => ⟨Rep.mono e h.1, h.2⟩⟩
section
variable {K : PySem.W.Frag} {N : Nat} {H0 Hb Hq : Hp} {v0 : V} {ps0 ps : List Addr} {σ : L2.St} {H H1 : Hp} {O : List Od} {L L' : List Bd} {α β γ : Type} [Rep α] [Rep β] [Rep γ]
variable {S B R : Type} {c : Ctl S B R} {SR : S → L2.St → Hp → Prop} {BR : B → L2.St → Hp → Prop} {RR : R → V → Hp → Prop} {t u : TS} {te ta tb : TE}
theorem er_unFr {x : Fr v0 Hq α} (h : ER K ps te σ H x) : ER K ps te σ H x.val := fun H1 e d Q q => h H1 e d _ fun v H2 e2 r => q v H2 e2 r.1
theorem fr_arg {v : V} {x : α} (z : rep K H v x) : rep K H v (⟨x⟩ : Fr v Hq α) := ⟨z, .inl rfl⟩
theorem er_catFr {x y : List α} (ex : Ex Hq H) (ha : ER K ps ta σ H x) (hb : ER K ps tb σ H y) (hz : x.length + y.length ≤ 100000) : ER K ps (tOp rCat ta tb) σ H (⟨x ++ y⟩ : Fr v0 Hq (List α)) := fun H1 e d Q q =>
  ha H1 e d _ fun v H2 e2 r1 => hb H2 (e.trans e2) (d.mono e2) _ fun w H3 e3 r2 => by
    obtain ⟨a, vs, rfl, hv, r⟩ := r1
    obtain ⟨b, ws, rfl, hw, r'⟩ := r2
    have r := r.mono (mn_mono e3)
    refine ⟨a, b, vs, ws, rfl, rfl, e3 _ _ (mn_ex _ _ hv), mn_ex _ _ hw, by rw [r.length, r'.length]; exact sz_of hz, fun p hp => q _ _ ((e2.trans e3).trans (Ex.new hp)) ⟨new_lst ((d.mono e2).mono e3) hp (r.append r'), .inr ⟨p, rfl, fresh_back (((ex.trans e).trans e2).trans e3) hp⟩⟩⟩
theorem d_letFr {i : Nat} {x : α} {f : α → Ctl S B R} {ok : α → Prop} (st : Stt K N H0 ps0 Hb σ H O L) (he : ER K (psO O ps0) te σ H (⟨x⟩ : Fr v0 Hq α)) (hok : okLet x ok) (hi : i < N) (hO : NoO i O) (hL : SubN i L' L)
    (k : ∀ (y : α) σ1 H1, y = x → ok y → Stt K N H0 ps0 Hb σ1 H1 O (bd i (⟨y⟩ : Fr v0 Hq α) :: L') → Does u σ1 H1 (f y) SR BR RR) : Does (tSeq (tAsg te (gName i)) u) σ H (vLet x f) SR BR RR :=
  d_asg he st.dm fun v H1 e r => k x _ H1 rfl hok ((st.to e).set r hi hO hL)
theorem Stt.frzFr {i : Nat} {p : Addr} {l : List α} (st : Stt K N H0 ps0 Hb σ H (od i p l :: O) L) (hi : i < N := by decide) : Stt K N H0 ps0 Hb σ H O (bd i (⟨l⟩ : Fr v0 H0 (List α)) :: L) := by
  obtain ⟨a1, a2, _⟩ := st.owM List.mem_cons_self hi
  have s1 := st.frz hi
  refine ⟨s1.len, s1.ex, s1.d0, s1.bs, fun b hb => ?_, s1.ow, s1.nd⟩
  obtain q | q := List.mem_cons.mp hb
  · subst q
    obtain ⟨v, h1, h2⟩ := s1.kn (bd i l) List.mem_cons_self
    have e : v = .ref p := by
      have := a1.symm.trans h1
      cases this; rfl
    exact ⟨v, h1, h2, .inr ⟨p, e, a2⟩⟩
  · exact s1.kn b (List.mem_cons_of_mem _ q)
def RRA {R : Type} [Rep R] (v0 : V) (K : PySem.W.Frag) (H0 : Hp) (ps0 : List Addr) : R → V → Hp → Prop := fun r v H' => Ex H0 H' ∧ rep K (mn H' ps0) v r ∧ (v = v0 ∨ NewV H0 v)
theorem d_retA [Rep R] {r : R} (st : Stt K N H0 ps0 Hb σ H O L) (he : ER K (psO O ps0) te σ H (⟨r⟩ : Fr v0 H0 R)) : Does (tRet te) σ H (.rt r : Ctl S B R) SR BR (RRA v0 K H0 ps0) :=
  d_ret he st.dm fun v H1 e rr => ⟨st.ex.trans e, Rep.mono (mn_le fun a ha => List.mem_append_right _ ha) rr.1, rr.2⟩
theorem fn_goA [Rep R] [Inhabited R] {c : Ctl Empty Empty R} {Q : VK} {r : R} (h : Does t σ H c SR0 SR0 (RRA v0 K H ps0)) (hc : c = .rt r) (q : ∀ v H', Ex H H' → rep K (mn H' ps0) v r → (v = v0 ∨ NewV H v) → Q v H') :
    t { nx := fun _ H' => Q .non H', rt := Q } σ H := by
  subst hc
  exact h _ (fun s => s.elim) (fun s => s.elim) (fun s => s.elim) (fun r' v H' e rr => by
    cases e
    exact q v H' rr.1 rr.2.1 rr.2.2)
theorem fn_goN {c : Ctl Empty Empty (List α)} {Q : VK} {r : List α} (h : Does t σ H c SR0 SR0 (RRA .non K H ps0)) (hc : c = .rt r) (q : ∀ v H', Ex H H' → rep K (mn H' ps0) v r → NewV H v → Q v H') :
    t { nx := fun _ H' => Q .non H', rt := Q } σ H := fn_goA h hc fun v H' e r hn => q v H' e r (hn.resolve_left fun z => by
      obtain ⟨a, vs, rfl, _⟩ := r
      cases z)
/-- hands back what it was passed first, or a new list -/
def spA {A : Type} [RepA A] (K : PySem.W.Frag) (f : A → γ) (ok : A → Prop) : Sp := fun vs H Q _ => ∃ (ps : List Addr) (x : A), Dm H ps ∧ repA K (mn H ps) vs x ∧ ok x ∧ ∀ r H', Ex H H' → rep K (mn H' ps) r (f x) → (r = vs.headD .non ∨ NewV H r) → Q r H'
/-- hands back a new list -/
def spN {A : Type} [RepA A] (K : PySem.W.Frag) (f : A → γ) (ok : A → Prop) : Sp := fun vs H Q _ => ∃ (ps : List Addr) (x : A), Dm H ps ∧ repA K (mn H ps) vs x ∧ ok x ∧ ∀ r H', Ex H H' → rep K (mn H' ps) r (f x) → NewV H r → Q r H'
theorem spA_of {A : Type} [RepA A] {f : A → γ} {ok : A → Prop} {vs : List V} {Q : VK} {E : XK} (h : spF K f ok vs H Q E) : spA K f ok vs H Q E := by
  obtain ⟨ps, x, h1, h2, h3, q⟩ := h
  exact ⟨ps, x, h1, h2, h3, fun r H' e rr _ => q r H' e rr⟩
theorem spN_of {A : Type} [RepA A] {f : A → γ} {ok : A → Prop} {vs : List V} {Q : VK} {E : XK} (h : spF K f ok vs H Q E) : spN K f ok vs H Q E := by
  obtain ⟨ps, x, h1, h2, h3, q⟩ := h
  exact ⟨ps, x, h1, h2, h3, fun r H' e rr _ => q r H' e rr⟩
theorem er_callA {A : Type} [RepA A] {f : α × A → γ} {ok : α × A → Prop} {x : α} {y : A} {E : XK} {tt : TA} (ex : Ex Hq H) (h : EAs K ps tt σ H ((⟨x⟩ : Fr .non Hq α), y)) (hok : ok (x, y)) : ER K ps (tCall (spA K f ok) [] E tt) σ H (⟨f (x, y)⟩ : Fr .non Hq γ) := fun H1 e d Q q =>
  h H1 e d _ fun vs H2 e2 r => ⟨ps, (x, y), d.mono e2, by
    rw [List.append_nil]
    obtain ⟨v, r', rfl, h1, h2⟩ := r
    exact ⟨v, r', rfl, h1.1, h2⟩, hok, fun v H3 e3 r3 hn => q v H3 (e2.trans e3) ⟨r3, by
    obtain ⟨v1, r', rfl, h1, h2⟩ := r
    rcases hn with z | ⟨a, z1, z2⟩
    · rw [z]; exact h1.2
    · exact .inr ⟨a, z1, fresh_back ((ex.trans e).trans e2) z2⟩⟩⟩
theorem d_ownCall {A : Type} [RepA A] [Lone β] {f : A → List β} {ok : A → Prop} {x : A} {E : XK} {tt : TA} {i : Nat} {okL : List β → Prop} {F : List β → Ctl S B R} (st : Stt K N H0 ps0 Hb σ H O L) (h : EAs K (psO O ps0) tt σ H x) (hk : ok x) (hok : okLet (f x) okL) (hi : i < N) (hO : NoO i O) (hL : SubN i L' L)
    (k : ∀ (y : List β) p σ1 H1, y = f x → okL y → Stt K N H0 ps0 Hb σ1 H1 (od i p y :: O) L' → Does u σ1 H1 (F y) SR BR RR) : Does (tSeq (tAsg (tCall (spN K f ok) [] E tt) (gName i)) u) σ H (vLet (f x) F) SR BR RR :=
  d_newO (l := f x) st (fun H1 e Q q => h H1 e (st.dm.mono e) _ fun vs H2 e2 r => ⟨psO O ps0, x, (st.dm.mono e).mono e2, by rw [List.append_nil]; exact r, hk, fun w H3 e3 r3 hn => by
    obtain ⟨a, ws, rfl, hv, rs⟩ := r3
    obtain ⟨a', z1, z2⟩ := hn
    cases z1
    exact q a ws H3 (fresh_back e2 z2) (e2.trans e3) (mn_ex _ _ hv) (lone_reps rs)⟩) hi hO hL fun p v H1 st1 => k (f x) p _ H1 rfl hok st1

/-! ### lists that are owned from where they are made -/
theorem d_ownE {i : Nat} {l : List α} {okL : List α → Prop} {F : List α → Ctl S B R} (st : Stt K N H0 ps0 Hb σ H O L) (he : EFr K (psO O ps0) te σ H l) (hok : okLet l okL) (hi : i < N) (hO : NoO i O) (hL : SubN i L' L)
    (k : ∀ (y : List α) p σ1 H1, y = l → okL y → Stt K N H0 ps0 Hb σ1 H1 (od i p y :: O) L' → Does u σ1 H1 (F y) SR BR RR) : Does (tSeq (tAsg te (gName i)) u) σ H (vLet l F) SR BR RR :=
  d_newO (l := l) st (fun H1 e Q q => he H1 e (st.dm.mono e) Q q) hi hO hL fun p v H1 st1 => k l p _ H1 rfl hok st1
theorem efr_up [Lone α] {l : List α} (h : EFr K ps0 te σ H l) : EFr K (psO O ps0) te σ H l := fun H1 e d Q q => h H1 e (dm_up d) Q fun D ws H2 hD e2 h2 r => q D ws H2 hD e2 h2 (lone_reps r)
theorem new_reps {vs : List V} {l : List α} {p : Addr} (d : Dm H ps) (hp : H p = none) (r : Reps K (mn H ps) vs l) : Reps K (mn (upd H p (.lst vs)) (p :: ps)) vs l := r.mono (mn_new (Ex.new hp) hp)
theorem efr_listL {l : List α} (ha : ER K ps te σ H l) : EFr K ps (tCB (rListOf K) (tCons te tNil)) σ H l := fun H1 e d Q q =>
  ha H1 e d _ fun v H2 e2 r => by
    obtain ⟨a, vs, rfl, hv, rs⟩ := r
    exact ⟨a, vs, rfl, .inl (sq_of (mn_ex _ _ hv)), fun p hp => q p vs _ (fresh_back e2 hp) (e2.trans (Ex.new hp)) upd_same (new_reps (d.mono e2) hp rs)⟩
theorem efr_listP {l : Tp α} (ha : ER K ps te σ H l) : EFr K ps (tCB (rListOf K) (tCons te tNil)) σ H l.l := fun H1 e d Q q =>
  ha H1 e d _ fun v H2 e2 r => by
    obtain ⟨a, vs, rfl, hv, rs⟩ := r
    exact ⟨a, vs, rfl, .inr (st_of (mn_ex _ _ hv)), fun p hp => q p vs _ (fresh_back e2 hp) (e2.trans (Ex.new hp)) upd_same (new_reps (d.mono e2) hp rs)⟩
theorem efr_catL {x y : List α} (ha : ER K ps ta σ H x) (hb : ER K ps tb σ H y) (hz : x.length + y.length ≤ 100000) : EFr K ps (tOp rCat ta tb) σ H (x ++ y) := fun H1 e d Q q =>
  ha H1 e d _ fun v H2 e2 r1 => hb H2 (e.trans e2) (d.mono e2) _ fun w H3 e3 r2 => by
    obtain ⟨a, vs, rfl, hv, r⟩ := r1
    obtain ⟨b, ws, rfl, hw, r'⟩ := r2
    have r := r.mono (mn_mono e3)
    exact ⟨a, b, vs, ws, rfl, rfl, e3 _ _ (mn_ex _ _ hv), mn_ex _ _ hw, by rw [r.length, r'.length]; exact sz_of hz, fun p hp => q p _ _ (fresh_back (e2.trans e3) hp) ((e2.trans e3).trans (Ex.new hp)) upd_same (new_reps ((d.mono e2).mono e3) hp (r.append r'))⟩
theorem efr_lst {tt : TA} {x : List α} (h : EL K ps tt σ H x) (hl : x.length ≤ 1000) : EFr K ps (tLst tt) σ H x := fun H1 e d Q q =>
  h H1 e d _ fun vs H2 e2 r => ⟨sz_of (by rw [r.length]; omega), fun p hp => q p vs _ (fresh_back e2 hp) (e2.trans (Ex.new hp)) upd_same (new_reps (d.mono e2) hp r)⟩

/-! ### sorted ints -/
def rSortedIA (K : PySem.W.Frag) : List V → Hp → VK → Prop := fun vs H Q => ∃ (a : Addr) (xs : List Int), vs = [V.ref a] ∧ SqL K H a (xs.map V.int) ∧ xs.length ≤ sizeLine ∧ SortTo V.int xs (List.Pairwise (· ≤ ·)) H Q
theorem cr_sortedIA {X : L2.Cx} : CallR X (.builtin "sorted") (rSortedIA X.K) := fun ps s σ H vs us Q inv rel ⟨a, xs, e, src, fits, go⟩ => by
  subst e
  obtain ⟨its, items, is, _⟩ := inv.list src
  have len : its.length = xs.length := items.length.symm.trans (List.length_map _)
  rw [Vals.ref1 rel]
  refine PyProof.Rows.sorted_intsAny is.isList items.ints (by rw [len]; exact fits) fun out ys r perm up => laid_sorted inv (vals_of_ints r) ?_ fun p free => go ys p perm up free
  rw [List.length_map, perm.length_eq]; exact fits
theorem kcr_sortedIA {X : L2.Cx} (K : PySem.W.Frag) (hK : X.K = K) : CallR X (.builtin "sorted") (rSortedIA K) := by subst hK; exact cr_sortedIA
def srtI (l : List Int) : List Int := l.mergeSort fun a b => decide (a ≤ b)
theorem srtI_perm (l : List Int) : (srtI l).Perm l := List.mergeSort_perm _ _
theorem srtI_pw (l : List Int) : (srtI l).Pairwise fun a b => a ≤ b := by
  have := List.pairwise_mergeSort (le := fun a b : Int => decide (a ≤ b)) (fun a b c h1 h2 => by
    simp only [decide_eq_true_eq] at h1 h2 ⊢
    omega) (fun a b => by
    simp only [Bool.or_eq_true, decide_eq_true_eq]
    omega) l
  exact this.imp fun h => by simpa using h
theorem srtI_of {l ys : List Int} (hp : ys.Perm l) (hs : ys.Pairwise (· ≤ ·)) : ys = srtI l :=
  List.Perm.eq_of_pairwise (le := fun a b : Int => a ≤ b) (fun a b _ _ h1 h2 => by omega) hs (srtI_pw l) (hp.trans (srtI_perm l).symm)
theorem reps_of_int {l : List Int} : Reps K H (l.map V.int) l := by
  induction l with
  | nil => exact .nil
  | cons x l ih => exact .cons rfl ih
theorem er_sortedI {l : List Int} (ha : ER K ps te σ H l) (hz : l.length ≤ 100000) : ER K ps (tCB (rSortedIA K) (tCons te tNil)) σ H (srtI l) :=
  er_cb1 ha fun v H1 d r Q q => by
    obtain ⟨a, vs, rfl, hv, rs⟩ := r
    refine ⟨a, l, rfl, by rw [← reps_map_int rs]; exact sq_of (mn_ex _ _ hv), by rw [sizeLine_eq]; omega, fun ys p hp hs hn => ?_⟩
    rw [srtI_of hp hs]
    exact q _ _ (Ex.new hn) (new_lst d hn reps_of_int)
end
end Cx

/-! CxObj: objects of own classes: their fields as data; an object that is being made; statements that are never reached. -/
namespace Cx
open PySem PySem.Spec PyProof.Rows L2 Evl
open Rep (rep)
open RepA (repA)
/-- the class that the program calls so -/
def IsC (K : PySem.W.Frag) (cn : Str) (C : Addr) : Prop := PySem.W.nsIn K mainGlobals cn = some (some (.ref C))
theorem IsC.eq {K : PySem.W.Frag} {cn : Str} {C D : Addr} (h : IsC K cn C) (k : IsC K cn D) : C = D := by
  have := h.symm.trans k
  cases this; rfl
/-- a list of mixed data -/
structure HL (A : Type) where
  t : A
instance {A : Type} [Inhabited A] : Inhabited (HL A) := ⟨⟨default⟩⟩
instance {A : Type} [RepA A] : Rep (HL A) := ⟨fun K H v x => ∃ a vs, v = .ref a ∧ H a = some (.lst vs) ∧ repA K H vs x.t, fun e ⟨a, vs, h1, h2, h3⟩ => ⟨a, vs, h1, e _ _ h2, RepA.monoA e h3⟩⟩
/-- an object of the class that the program calls cn, with the fields ns in this order -/
structure Ob (cn : Str) (ns : List Str) (A : Type) where
  t : A
instance {cn : Str} {ns : List Str} {A : Type} [Inhabited A] : Inhabited (Ob cn ns A) := ⟨⟨default⟩⟩
instance {cn : Str} {ns : List Str} {A : Type} [RepA A] : Rep (Ob cn ns A) := ⟨fun K H v x => ∃ C a dx fs, IsC K cn C ∧ v = .ref a ∧ H a = some (.ins C dx fs) ∧ fs.map (·.1) = ns ∧ repA K H (fs.map (·.2)) x.t, fun {K H H' v x} e h => by
    obtain ⟨C, a, dx, fs, h0, h1, h2, h3, h4⟩ := h
    exact ⟨C, a, dx, fs, h0, h1, e _ _ h2, h3, RepA.monoA e h4⟩⟩
instance {cn : Str} {ns : List Str} {A : Type} [RepA A] : NoNone (Ob cn ns A) := ⟨fun ⟨_, _, _, _, _, h, _⟩ => by rw [h]; exact fun e => nomatch e⟩
/-- the k-th part -/
def Nth (A : Type) [RepA A] {β : Type} [Rep β] (k : Nat) (g : A → β) : Prop := ∀ (K : PySem.W.Frag) (H : Hp) (vs : List V) (x : A), repA K H vs x → ∃ v, vs[k]? = some v ∧ rep K H v (g x)
theorem nth0 {α A : Type} [Rep α] [RepA A] : Nth (α × A) 0 (fun x : α × A => x.1) := fun K H vs x h => by
  obtain ⟨v, r, rfl, h1, _⟩ := h
  exact ⟨v, rfl, h1⟩
theorem nthS {α A β : Type} [Rep α] [RepA A] [Rep β] {k : Nat} {g : A → β} (n : Nth A k g) : Nth (α × A) (k + 1) (fun x : α × A => g x.2) := fun K H vs x h => by
  obtain ⟨v, r, rfl, _, h2⟩ := h
  obtain ⟨u, h3, h4⟩ := n K H r x.2 h2
  exact ⟨u, by rw [List.getElem?_cons_succ]; exact h3, h4⟩
theorem lookup_at : ∀ {fs : List (Str × V)} {k : Nat} {f : Str} {v : V}, (fs.map (·.1)).Nodup → (fs.map (·.1))[k]? = some f → (fs.map (·.2))[k]? = some v → fs.lookup f = some v
  | [], _, _, _, _, h, _ => nomatch h
  | (g, x) :: r, 0, f, v, hd, h1, h2 => by
    simp only [List.map_cons, List.getElem?_cons_zero, Option.some.injEq] at h1 h2
    rw [List.lookup_cons, h1, beq_self_eq_true, h2]
  | (g, x) :: r, k + 1, f, v, hd, h1, h2 => by
    rw [List.map_cons, List.nodup_cons] at hd
    rw [List.map_cons, List.getElem?_cons_succ] at h1 h2
    have hne : (f == g) = false := by
      rw [beq_eq_false_iff_ne]
      intro e
      rw [e] at h1
      exact hd.1 (List.mem_of_getElem? h1)
    rw [List.lookup_cons, hne]
    exact lookup_at hd.2 h1 h2
section
variable {K : PySem.W.Frag} {N : Nat} {H0 Hb : Hp} {ps0 ps : List Addr} {σ : L2.St} {H H1 : Hp} {O : List Od} {L L' : List Bd} {α β γ : Type} [Rep α] [Rep β] [Rep γ]
variable {S B R : Type} {c : Ctl S B R} {SR : S → L2.St → Hp → Prop} {BR : B → L2.St → Hp → Prop} {RR : R → V → Hp → Prop} {t u : TS} {te ta tb tv : TE} {C : Addr} {cn : Str} {ns : List Str} {A : Type} [RepA A]
/-- o.f -/
theorem er_fld {g : A → β} {k : Nat} {f : Str} {l : Ob cn ns A} (P : Nth A k g) (hk : ns[k]? = some f) (hd : ns.Nodup) (ic : IsC K cn C) (cl : Cls K C) (n : NoAttr K C f) (ha : ER K ps te σ H l) : ER K ps (tFld K te f) σ H (g l.t) := fun H1 e d Q q =>
  ha H1 e d _ fun v H2 e2 r => by
    obtain ⟨C', a, dx, fs, ic', rfl, h1, h2, h3⟩ := r
    cases ic'.eq ic
    obtain ⟨w, h4, h5⟩ := P _ _ _ _ h3
    exact ⟨a, C, dx, fs, w, rfl, mn_ex _ _ h1, cl, n, lookup_at (by rw [h2]; exact hd) (by rw [h2]; exact hk) h4, q w H2 e2 h5⟩

/-! ### an object that is being made -/
structure Fd where
  f : Str
  α : Type
  R : Rep α
  x : α
abbrev fd {α : Type} [R : Rep α] (f : Str) (x : α) : Fd := ⟨f, α, R, x⟩
inductive FRep (K : PySem.W.Frag) (H : Hp) : List (Str × V) → List Fd → Prop where
  | nil : FRep K H [] []
  | cons {v : V} {fs : List (Str × V)} {d : Fd} {L : List Fd} : @rep d.α d.R K H v d.x → FRep K H fs L → FRep K H ((d.f, v) :: fs) (d :: L)
theorem FRep.mono (e : Ex H H1) {fs : List (Str × V)} {L : List Fd} (h : FRep K H fs L) : FRep K H1 fs L := by
  induction h with
  | nil => exact .nil
  | @cons v fs d L r _ ih => exact .cons (@Rep.mono _ d.R _ _ _ _ _ e r) ih
theorem FRep.names {fs : List (Str × V)} {L : List Fd} (h : FRep K H fs L) : fs.map (·.1) = L.map Fd.f := by
  induction h with
  | nil => rfl
  | cons _ _ ih => rw [List.map_cons, List.map_cons, ih]
theorem FRep.len {fs : List (Str × V)} {L : List Fd} (h : FRep K H fs L) : fs.length = L.length := by
  induction h with
  | nil => rfl
  | cons _ _ ih => simp only [List.length_cons, ih]
theorem FRep.snoc {x : α} {f : Str} {v : V} (r : rep K H v x) {fs : List (Str × V)} {L : List Fd} (h : FRep K H fs L) : FRep K H (fs ++ [(f, v)]) (L ++ [fd f x]) := by
  induction h with
  | nil => exact .cons (d := fd f x) r .nil
  | cons r' _ ih => exact .cons r' ih
theorem putF_new {f : Str} {v : V} : ∀ {fs : List (Str × V)}, f ∉ fs.map (·.1) → putF f v fs = fs ++ [(f, v)]
  | [], _ => rfl
  | (g, x) :: r, h => by
    rw [List.map_cons, List.mem_cons, not_or] at h
    unfold putF
    rw [if_neg (Ne.symm h.1), putF_new h.2]; rfl
/-- the fields' data together -/
theorem frep_nil {fs : List (Str × V)} (h : FRep K H fs []) : repA K H (fs.map (·.2)) () := by
  cases h; rfl
theorem frep_cons {f : Str} {x : α} {L : List Fd} {y : A} {fs : List (Str × V)} (hr : ∀ fs', FRep K H fs' L → repA K H (fs'.map (·.2)) y) (h : FRep K H fs (fd f x :: L)) : repA K H (fs.map (·.2)) (x, y) := by
  cases h with
  | cons r h => exact ⟨_, _, rfl, r, hr _ h⟩
/-- an owned object, so far -/
abbrev oi (i : Nat) (p C : Addr) (L : List Fd) : Od := ⟨i, p, fun K H o => ∃ dx fs, o = .ins C dx fs ∧ FRep K H fs L, fun e ⟨dx, fs, h, r⟩ => ⟨dx, fs, h, r.mono e⟩⟩
/-- what stands at the first owned place has changed -/
theorem Stt.putG {o o' : Od} {c : HO} (st : Stt K N H0 ps0 Hb σ H (o :: O) L) (hi : o'.i = o.i) (hp : o'.p = o.p) (r : o'.ct K (mn H (psO (o :: O) ps0)) c) : Stt K N H0 ps0 Hb σ (upd H o.p c) (o' :: O) L := by
  have hps : psO (o' :: O) ps0 = psO (o :: O) ps0 := by unfold psO; rw [List.map_cons, List.map_cons, hp]
  have hm : mn (upd H o.p c) (psO (o :: O) ps0) = mn H (psO (o :: O) ps0) := mn_upd (List.mem_append_left _ List.mem_cons_self)
  obtain ⟨a1, a2, a3, _⟩ := st.ow _ List.mem_cons_self
  refine ⟨st.len, Ex.mut st.ex a2, st.d0, by rw [hps, hm]; exact st.bs, fun b hb => ?_, fun o1 ho => ?_, by rw [List.map_cons, hp]; exact st.nd⟩
  · obtain ⟨w, a, r'⟩ := st.kn b hb
    exact ⟨w, a, by rw [hps, hm]; exact r'⟩
  · obtain q | q := List.mem_cons.mp ho
    · subst q
      rw [hi, hp]
      exact ⟨a1, a2, a3, c, upd_same, by rw [hps, hm]; exact r⟩
    · obtain ⟨h1, h2, h3, ws, h4, h5⟩ := st.ow o1 (List.mem_cons_of_mem _ q)
      refine ⟨h1, h2, h3, ws, ?_, by rw [hps, hm]; exact h5⟩
      rw [upd_ne (fun e => ?_)]
      · exact h4
      · have := st.nd
        rw [List.map_cons, List.nodup_cons] at this
        exact this.1 (by rw [← e]; exact List.mem_map.mpr ⟨o1, q, rfl⟩)
/-- self.f = e, for the first time -/
theorem d_fld {i : Nat} {p : Addr} {Ls : List Fd} {f : Str} {x : α} (st : Stt K N H0 ps0 Hb σ H (oi i p C Ls :: O) L) (he : ER K (psO (oi i p C Ls :: O) ps0) tv σ H x) (cl : Cls K C) (n : NoAttr K C f) (hf : f ∉ Ls.map Fd.f) (hl : Ls.length < 1000)
    (k : ∀ H1, Stt K N H0 ps0 Hb σ H1 (oi i p C (Ls ++ [fd f x]) :: O) L → Does u σ H1 c SR BR RR) (hi : i < N := by decide) : Does (tSeq (sFld K (tVar i) tv f) u) σ H c SR BR RR := fun D h1 h2 h3 h4 => by
  refine he H (Ex.refl _) st.dm _ fun v H1 e r => ?_
  have st1 := st.to e
  obtain ⟨a1, a2, a3, o, a4, dx, fs, rfl, a5⟩ := st1.ow _ List.mem_cons_self
  refine ⟨.ref p, a1 hi, p, C, dx, fs, rfl, a4, cl, n, by rw [a5.len]; exact hl, ?_⟩
  rw [putF_new (by rw [a5.names]; exact hf)]
  exact k _ (st1.putG (o' := oi i p C (Ls ++ [fd f x])) rfl rfl ⟨dx, _, rfl, a5.snoc r⟩) D h1 h2 h3 h4
/-- __init__: of a new object, p, whose fields it sets: then they are F x -/
def spI {A : Type} [RepA A] (K : PySem.W.Frag) (C : Addr) (F : A → List Fd) (ok : A → Prop) : Sp := fun vs H Q _ => ∃ (ps : List Addr) (x : A) (p : Addr) (us : List V), vs = .ref p :: us ∧ Dm H ps ∧ p ∉ ps ∧ (∃ dx, H p = some (.ins C dx [])) ∧ repA K (mn H (p :: ps)) us x ∧ ok x ∧
  ∀ H', Ex (mn H [p]) (mn H' [p]) → (∃ dx fs, H' p = some (.ins C dx fs) ∧ FRep K (mn H' (p :: ps)) fs (F x)) → Q .non H'
/-- C(..) -/
theorem er_make {B : Type} [RepA B] {F : B → List Fd} {ok : B → Prop} {g : B → A} {x : B} {E : XK} {tt : TA} (h : EAs K ps tt σ H x) (hok : ok x) (hg : ∀ (H : Hp) (fs : List (Str × V)), FRep K H fs (F x) → repA K H (fs.map (·.2)) (g x)) (hn : (F x).map Fd.f = ns) (ic : IsC K cn C) : ER K ps (tMake C (spI K C F ok) [] E tt) σ H (⟨g x⟩ : Ob cn ns A) := fun H1 e d Q q =>
  h H1 e d _ fun vs H2 e2 r p dx hp hdx hne => by
    have d2 := d.mono e2
    have hpp : p ∉ ps := d2.notin hp
    let H3 := upd (upd H2 dx (.own p)) p (.ins C dx [])
    have keep : ∀ a o, H2 a = some o → H3 a = some o := fun a o ha => by
      show upd (upd H2 dx (.own p)) p (.ins C dx []) a = some o
      rw [upd_ne (fun z => by rw [z, hp] at ha; cases ha), upd_ne (fun z => by rw [z, hdx] at ha; cases ha)]
      exact ha
    have e3 : Ex H2 H3 := keep
    refine ⟨ps, x, p, vs, by rw [List.append_nil], d2.mono e3, hpp, ⟨dx, upd_same⟩, RepA.monoA (mn_new e3 hp) r, hok, fun H4 e4 h4 => ⟨rfl, ?_⟩⟩
    obtain ⟨dx', fs, h5, h6⟩ := h4
    have e5 : Ex H2 H4 := fun a o ha => by
      have hap : a ≠ p := fun z => by rw [z, hp] at ha; cases ha
      have := e4 a o (mn_at (keep a o ha) (by rw [List.mem_singleton]; exact hap))
      exact mn_ex _ _ this
    exact q _ H4 (e2.trans e5) ⟨C, p, dx', fs, ic, rfl, mn_at h5 hpp, h6.names.trans hn, hg _ _ (h6.mono (mn_le fun a ha => List.mem_cons_of_mem _ ha))⟩
/-- the start of __init__ -/
theorem stt_init {p : Addr} (hl : σ.length = N) (d : Dm H ps0) (hp : p ∉ ps0) (h0 : σ[0]? = some (some (.ref p))) (hc : ∃ dx, H p = some (.ins C dx [])) (h : ∀ b ∈ L, @Sl b.α b.R K (p :: ps0) σ H b.i b.x) : Stt K N (mn H [p]) ps0 (mn H (p :: ps0)) σ H [oi 0 p C []] L :=
  ⟨hl, mn_ex, fun a ha z => d a ha (by
    have := z
    unfold mn at this
    rw [if_neg (fun q => hp (by rw [List.mem_singleton] at q; rw [← q]; exact ha))] at this
    exact this), Ex.refl _, h, fun o ho => by
    rw [List.mem_singleton] at ho
    subst ho
    obtain ⟨dx, hc⟩ := hc
    exact ⟨fun _ => h0, if_pos List.mem_cons_self, if_pos List.mem_cons_self, _, hc, dx, [], rfl, .nil⟩, List.nodup_cons.mpr ⟨fun h => (nomatch h), List.nodup_nil⟩⟩
theorem lookup_no {m : Str} : ∀ {fs : List (Str × V)}, m ∉ fs.map (·.1) → fs.lookup m = none
  | [], _ => rfl
  | (g, x) :: r, h => by
    rw [List.map_cons, List.mem_cons, not_or] at h
    rw [List.lookup_cons, beq_eq_false_iff_ne.mpr h.1]
    exact lookup_no h.2
/-- o.m(..) -/
theorem er_meth {B : Type} [RepA B] {f : Ob cn ns A × B → γ} {ok : Ob cn ns A × B → Prop} {l : Ob cn ns A} {y : B} {m : Str} {E : XK} {tt : TA} (ic : IsC K cn C) (hm : m ∉ ns) (ha : ER K ps ta σ H l) (hb : EAs K ps tt σ H y) (hok : ok (l, y)) : ER K ps (tMeth C m (spF K f ok) [] E ta tt) σ H (f (l, y)) := fun H1 e d Q q =>
  ha H1 e d _ fun v H2 e2 r => by
    have r0 := r
    obtain ⟨C', a, dx, fs, ic', rfl, h1, h2, h3⟩ := r
    cases ic'.eq ic
    refine ⟨a, dx, fs, rfl, mn_ex _ _ h1, lookup_no (by rw [h2]; exact hm), hb H2 (e.trans e2) (d.mono e2) _ fun vs H3 e3 r3 => ?_⟩
    exact ⟨ps, (l, y), (d.mono e2).mono e3, by rw [List.append_nil]; exact ⟨_, vs, rfl, Rep.mono (mn_mono e3) r0, r3⟩, hok, fun u H4 e4 r4 => q u H4 ((e2.trans e3).trans e4) r4⟩
/-- i < j < k, ints -/
theorem er_chainI {g g' : Int → Int → Bool} {i j k : Int} {tc : TE} (ha : ER K ps ta σ H i) (hb : ER K ps tb σ H j) (hc : g i j = true → ER K ps tc σ H k) : ER K ps (tChain (rI0 fun i j => .bl (g i j)) (rI0 fun i j => .bl (g' i j)) ta tb tc) σ H (g i j && g' j k) := fun H1 e d Q q =>
  ha H1 e d _ fun v H2 e2 r1 => hb H2 (e.trans e2) (d.mono e2) _ fun w H3 e3 r2 => by
    refine ⟨i, j, r1, r2, g i j, rfl, ?_⟩
    cases h : g i j with
    | true =>
      rw [if_pos rfl]
      refine hc h H3 ((e.trans e2).trans e3) ((d.mono e2).mono e3) _ fun z H4 e4 r3 => ⟨j, k, r2, r3, ?_⟩
      exact q _ H4 ((e2.trans e3).trans e4) (by rw [h]; rfl)
    | false =>
      rw [if_neg (by decide)]
      exact q _ H3 (e2.trans e3) (by rw [h]; rfl)
/-- [a, b, ..] of mixed data, never changed -/
theorem er_hl {B : Type} [RepA B] {tt : TA} {x : B} (h : EAs K ps tt σ H x) (hl : ∀ K H vs, repA K H vs x → vs.length ≤ 1000) : ER K ps (tLst tt) σ H (⟨x⟩ : HL B) := fun H1 e d Q q =>
  h H1 e d _ fun vs H2 e2 r => ⟨sz_of (by have := hl _ _ _ r; omega), fun p hp => q _ _ (e2.trans (Ex.new hp)) ⟨p, vs, rfl, mn_at upd_same ((d.mono e2).notin hp), RepA.monoA (mn_mono (Ex.new hp)) r⟩⟩
theorem er_ixH {B : Type} [RepA B] {g : B → β} {k : Nat} {l : HL B} (P : Nth B k g) (ha : ER K ps ta σ H l) : ER K ps (tOp (rIxL K) ta (tC (.int (k : Int)))) σ H (g l.t) :=
  er_op ha (er_int (i := (k : Int))) fun v w H1 _ r1 r2 Q q => by
    obtain ⟨a, vs, rfl, hl, r⟩ := r1
    obtain ⟨x, hx, rx⟩ := P _ _ _ _ r
    have hk : k < vs.length := (List.getElem?_eq_some_iff.mp hx).1
    refine ⟨a, vs, (k : Int), x, rfl, r2, sq_of (mn_ex _ _ hl), ?_, q x H1 (Ex.refl _) rx⟩
    unfold atI ixN
    iterate 2 rw [if_pos (by omega)]
    show vs[(k : Int).toNat]? = some x
    rw [Int.toNat_natCast]; exact hx
/-- __init__, from its entry to its end -/
theorem fn_goI {p : Addr} {Fx : List Fd} {Q : VK} {c : Ctl Unit Empty Empty} (h : Does t σ H c (fun _ σ' H' => ∃ N Hb L, Stt K N (mn H [p]) ps0 Hb σ' H' [oi 0 p C Fx] L) SR0 (fun e _ _ => e.elim))
    (q : ∀ H', Ex (mn H [p]) (mn H' [p]) → (∃ dx fs, H' p = some (.ins C dx fs) ∧ FRep K (mn H' (p :: ps0)) fs Fx) → Q .non H') : t { nx := fun _ H' => Q .non H', rt := Q } σ H :=
  h _ (fun s σ' H' _ st => by
    obtain ⟨N, Hb, L, st⟩ := st
    obtain ⟨_, _, _, o, h1, dx, fs, rfl, h2⟩ := st.ow _ List.mem_cons_self
    refine q H' (fun a o ha => ?_) ⟨dx, fs, h1, h2⟩
    exact mn_at (st.ex a o ha) (mn_notin ha)) (fun s => s.elim) (fun s => s.elim) (fun r => r.elim)
/-- never reached -/
theorem ps_false {X : L2.Cx} {s : Stmt} : PS X s (fun _ _ _ => False) := ⟨fun _ _ _ _ _ _ h => h.elim⟩
theorem d_false {t : TS} (h : False) : Does t σ H c SR BR RR := h.elim
end
end Cx

/-! CxCell: a list whose first three items are an int and two lists that are changed; what a def changes of what it is passed; while. -/
namespace Cx
open PySem PySem.Spec PyProof.Rows L2 Evl
open Rep (rep)
open RepA (repA)
/-- a list whose first items are data -/
structure HP (A : Type) where
  t : A
instance {A : Type} [Inhabited A] : Inhabited (HP A) := ⟨⟨default⟩⟩
instance {A : Type} [RepA A] : Rep (HP A) := ⟨fun K H v x => ∃ a vs ex, v = .ref a ∧ H a = some (.lst (vs ++ ex)) ∧ repA K H vs x.t, fun e ⟨a, vs, ex, h1, h2, h3⟩ => ⟨a, vs, ex, h1, e _ _ h2, RepA.monoA e h3⟩⟩
section
variable {K : PySem.W.Frag} {N : Nat} {H0 Hb : Hp} {ps0 ps : List Addr} {σ : L2.St} {H H1 : Hp} {O : List Od} {L L' : List Bd} {α β γ : Type} [Rep α] [Rep β] [Rep γ]
variable {S B R : Type} {c : Ctl S B R} {SR : S → L2.St → Hp → Prop} {BR : B → L2.St → Hp → Prop} {RR : R → V → Hp → Prop} {t u : TS} {te ta tb tr : TE}
theorem er_ixHP {B : Type} [RepA B] {g : B → β} {k : Nat} {l : HP B} (P : Nth B k g) (ha : ER K ps ta σ H l) : ER K ps (tOp (rIxL K) ta (tC (.int (k : Int)))) σ H (g l.t) :=
  er_op ha (er_int (i := (k : Int))) fun v w H1 _ r1 r2 Q q => by
    obtain ⟨a, vs, ex, rfl, hl, r⟩ := r1
    obtain ⟨x, hx, rx⟩ := P _ _ _ _ r
    have hk : k < vs.length := (List.getElem?_eq_some_iff.mp hx).1
    refine ⟨a, vs ++ ex, (k : Int), x, rfl, r2, sq_of (mn_ex _ _ hl), ?_, q x H1 (Ex.refl _) rx⟩
    unfold atI ixN
    rw [List.length_append, if_pos (by omega), if_pos (by omega)]
    show (vs ++ ex)[(k : Int).toNat]? = some x
    rw [Int.toNat_natCast, List.getElem?_append_left hk]; exact hx
/-- an int and two places, then more -/
abbrev cel (i : Nat) (p q1 q2 : Addr) (n : Int) : Od := ⟨i, p, fun _ _ o => ∃ ex, o = .lst (.int n :: .ref q1 :: .ref q2 :: ex), fun _ h => h⟩
abbrev cel4 {β : Type} [Rep β] (i : Nat) (p q1 q2 : Addr) (n : Int) (x : β) : Od := ⟨i, p, fun K H o => ∃ v, o = .lst [.int n, .ref q1, .ref q2, v] ∧ rep K H v x, fun e ⟨v, h, r⟩ => ⟨v, h, Rep.mono e r⟩⟩
/-- what stands there is known less well -/
theorem Stt.wk {o o' : Od} (st : Stt K N H0 ps0 Hb σ H (o :: O) L) (hi : o'.i = o.i) (hp : o'.p = o.p) (hc : ∀ H c, o.ct K H c → o'.ct K H c) : Stt K N H0 ps0 Hb σ H (o' :: O) L := by
  have hps : psO (o' :: O) ps0 = psO (o :: O) ps0 := by unfold psO; rw [List.map_cons, List.map_cons, hp]
  refine ⟨st.len, st.ex, st.d0, by rw [hps]; exact st.bs, fun b hb => by rw [hps]; exact st.kn b hb, fun o1 ho => ?_, by rw [List.map_cons, hp]; exact st.nd⟩
  obtain q | q := List.mem_cons.mp ho
  · subst q
    obtain ⟨h1, h2, h3, c, h4, h5⟩ := st.ow _ List.mem_cons_self
    exact ⟨by rw [hi, hp]; exact h1, by rw [hp]; exact h2, by rw [hp]; exact h3, c, by rw [hp]; exact h4, by rw [hps]; exact hc _ _ h5⟩
  · obtain ⟨h1, h2, h3, c, h4, h5⟩ := st.ow _ (List.mem_cons_of_mem _ q)
    exact ⟨h1, h2, h3, c, h4, by rw [hps]; exact h5⟩
theorem Stt.wk4 {i : Nat} {p q1 q2 : Addr} {n : Int} {x : β} (st : Stt K N H0 ps0 Hb σ H (cel4 i p q1 q2 n x :: O) L) : Stt K N H0 ps0 Hb σ H (cel i p q1 q2 n :: O) L :=
  st.wk rfl rfl fun H c ⟨v, h, _⟩ => ⟨[v], h⟩
/-- reads exactly this, changes nothing -/
def EQ (te : TE) (σ : L2.St) (H : Hp) (v : V) : Prop := ∀ Q : VK, Q v H → te σ H Q
theorem eq_slot {i : Nat} {v : V} (h : σ[i]? = some (some v)) : EQ (tVar i) σ H v := fun Q q => ⟨v, h, q⟩
theorem eq_ix {p a : Addr} {vs : List V} {k : Nat} (h : EQ te σ H (.ref p)) (hp : H p = some (.lst vs)) (hk : vs[k]? = some (.ref a)) : EQ (tOp (rIxL K) te (tC (.int (k : Int)))) σ H (.ref a) := fun Q q =>
  h _ ⟨p, vs, (k : Int), .ref a, rfl, rfl, sq_of hp, by
    have hl := (List.getElem?_eq_some_iff.mp hk).1
    unfold atI ixN
    iterate 2 rw [if_pos (by omega)]
    show vs[(k : Int).toNat]? = _
    rw [Int.toNat_natCast]; exact hk, q⟩
theorem Stt.celAt {i : Nat} {p q1 q2 : Addr} {n : Int} (st : Stt K N H0 ps0 Hb σ H O L) (h : cel i p q1 q2 n ∈ O) (hi : i < N := by decide) : σ[i]? = some (some (.ref p)) ∧ ∃ ex, H p = some (.lst (.int n :: .ref q1 :: .ref q2 :: ex)) := by
  obtain ⟨a1, a2, a3, c, a4, ex, rfl⟩ := st.ow _ h
  exact ⟨a1 hi, ex, a4⟩
theorem Stt.eqC1 {i : Nat} {p q1 q2 : Addr} {n : Int} (st : Stt K N H0 ps0 Hb σ H O L) (h : cel i p q1 q2 n ∈ O) (hi : i < N := by decide) : EQ (tOp (rIxL K) (tVar i) (tC (.int 1))) σ H (.ref q1) := by
  obtain ⟨h1, ex, h2⟩ := st.celAt h hi
  exact eq_ix (k := 1) (eq_slot h1) h2 rfl
theorem Stt.eqC2 {i : Nat} {p q1 q2 : Addr} {n : Int} (st : Stt K N H0 ps0 Hb σ H O L) (h : cel i p q1 q2 n ∈ O) (hi : i < N := by decide) : EQ (tOp (rIxL K) (tVar i) (tC (.int 2))) σ H (.ref q2) := by
  obtain ⟨h1, ex, h2⟩ := st.celAt h hi
  exact eq_ix (k := 2) (eq_slot h1) h2 rfl
/-- place.append(e) -/
theorem d_appR {i : Nat} {p : Addr} {l : List α} {x : α} {ok : List α → Prop} {f : List α → Ctl S B R} (st : Stt K N H0 ps0 Hb σ H (od i p l :: O) L) (hq : EQ tr σ H (.ref p)) (he : ER K (psO (od i p l :: O) ps0) te σ H x) (hz : l.length < 100000) (hok : okLet (l ++ [x]) ok)
    (k : ∀ y H1, y = l ++ [x] → ok y → Stt K N H0 ps0 Hb σ H1 (od i p y :: O) L → Does u σ H1 (f y) SR BR RR) : Does (tSeq (tDrop (tBM K "list" rAppend tr (tCons te tNil))) u) σ H (vLet (l ++ [x]) f) SR BR RR := fun D h1 h2 h3 h4 => by
  obtain ⟨_, _, _, c, a4, vs, rfl, a5⟩ := st.ow _ List.mem_cons_self
  refine hq _ ⟨.inl ⟨rfl, vs, sq_of a4⟩, he H (Ex.refl _) st.dm _ fun v H1 e r => ?_⟩
  have a5' := a5.mono (mn_mono e)
  refine ⟨p, vs, v, rfl, rfl, e _ _ a4, sz_lt (by rw [a5.length]; exact hz), ?_⟩
  exact k _ _ rfl hok ((st.to e).put (a5'.append (.cons r .nil))) D h1 h2 h3 h4
/-- place[j] = e -/
theorem d_setR {i : Nat} {p : Addr} {l : List α} {x : α} {j : Int} {ti : TE} {ok : List α → Prop} {f : List α → Ctl S B R} (st : Stt K N H0 ps0 Hb σ H (od i p l :: O) L) (hq : ∀ H1, Ex H H1 → EQ tr σ H1 (.ref p)) (he : ER K (psO (od i p l :: O) ps0) te σ H x) (hj : ER K (psO (od i p l :: O) ps0) ti σ H j) (hb : inB l j) (hok : okLet (setD l j x) ok)
    (k : ∀ y H1, y = setD l j x → ok y → Stt K N H0 ps0 Hb σ H1 (od i p y :: O) L → Does u σ H1 (f y) SR BR RR) : Does (tSeq (tAsg te (gSub tr ti rSetL)) u) σ H (vLet (setD l j x) f) SR BR RR := fun D h1 h2 h3 h4 => by
  obtain ⟨_, _, _, c, a4, vs, rfl, a5⟩ := st.ow _ List.mem_cons_self
  refine he H (Ex.refl _) st.dm _ fun v H1 e r => hq H1 e _ (hj H1 e (st.dm.mono e) _ fun w H2 e2 r2 => ?_)
  obtain ⟨n, hn, hlt⟩ := inB_some hb
  have a5' := a5.mono (mn_mono (e.trans e2))
  refine ⟨p, vs, j, n, rfl, r2, e2 _ _ (e _ _ a4), by rw [a5.length]; exact hn, ?_⟩
  have := ((st.to (e.trans e2)).put (a5'.set (Rep.mono (mn_mono e2) r) n))
  have hs : setD l j x = l.set n x := by unfold setD; rw [hn]; rfl
  rw [← hs] at this
  exact k _ _ rfl hok this D h1 h2 h3 h4
theorem Stt.eqC2' {i : Nat} {p q1 q2 : Addr} {n : Int} (st : Stt K N H0 ps0 Hb σ H O L) (h : cel i p q1 q2 n ∈ O) (hi : i < N := by decide) : ∀ H1, Ex H H1 → EQ (tOp (rIxL K) (tVar i) (tC (.int 2))) σ H1 (.ref q2) := fun H1 e => (st.to e).eqC2 h hi
/-- net[0] = e -/
theorem d_setC0 {i : Nat} {p q1 q2 : Addr} {n m : Int} {ok : Int → Prop} {f : Int → Ctl S B R} (st : Stt K N H0 ps0 Hb σ H (cel i p q1 q2 n :: O) L) (he : ER K (psO (cel i p q1 q2 n :: O) ps0) te σ H m) (hok : okLet m ok)
    (k : ∀ y H1, y = m → ok y → Stt K N H0 ps0 Hb σ H1 (cel i p q1 q2 y :: O) L → Does u σ H1 (f y) SR BR RR) (hi : i < N := by decide) : Does (tSeq (tAsg te (gSub (tVar i) (tC (.int 0)) rSetL)) u) σ H (vLet m f) SR BR RR := fun D h1 h2 h3 h4 => by
  refine he H (Ex.refl _) st.dm _ fun v H1 e r => ?_
  cases (show v = .int m from r)
  have st1 := st.to e
  obtain ⟨a1, ex, a2⟩ := st1.celAt List.mem_cons_self hi
  refine ⟨.ref p, a1, p, _, 0, 0, rfl, rfl, a2, by unfold ixN; rw [if_pos (Int.le_refl 0), if_pos (by rw [List.length_cons]; omega)]; rfl, ?_⟩
  exact k _ _ rfl hok (st1.putG (o := cel i p q1 q2 n) (o' := cel i p q1 q2 m) rfl rfl ⟨ex, rfl⟩) D h1 h2 h3 h4
/-- a new owned place of any content -/
theorem Stt.newG {o : Od} {c : HO} (st : Stt K N H0 ps0 Hb σ H O L) (e : Ex H H1) (hp : H o.p = none) (h1 : H1 o.p = some c) (r : o.ct K (mn H1 (o.p :: psO O ps0)) c) (hi : o.i < N → σ[o.i]? = some (some (.ref o.p))) : Stt K N H0 ps0 Hb σ H1 (o :: O) L :=
  ⟨st.len, st.ex.trans e, st.d0, st.bs.trans (mn_new e hp), fun b hb => by
    obtain ⟨w, a, r'⟩ := st.kn b hb
    exact ⟨w, a, @Rep.mono _ b.R _ _ _ _ _ (mn_new e hp) r'⟩, fun o1 ho => by
    obtain q | q := List.mem_cons.mp ho
    · subst q
      exact ⟨hi, fresh_back st.ex hp, fresh_back (st.bs.trans mn_ex) hp, c, h1, r⟩
    · obtain ⟨h1, h2, h3, ws, h4, h5⟩ := st.ow o1 q
      exact ⟨h1, h2, h3, ws, e _ _ h4, o1.mono (mn_new e hp) h5⟩, by
    refine List.nodup_cons.mpr ?_
    refine ⟨fun hm => ?_, st.nd⟩
    obtain ⟨o1, ho, e1⟩ := List.mem_map.mp hm
    obtain ⟨_, _, _, ws, h4, _⟩ := st.ow o1 ho
    rw [e1, hp] at h4
    cases h4⟩
/-- a slot is stored: whatever -/
theorem Stt.slot {i : Nat} {v : V} {L' : List Bd} (st : Stt K N H0 ps0 Hb σ H O L) (hO : NoO i O) (hL : SubN i L' L) : Stt K N H0 ps0 Hb (σ.set i (some v)) H O L' := st.forget hO hL
/-- net = [n, [], []] -/
theorem d_newC {i : Nat} {n : Int} (α β : Type) [Rep α] [Rep β] (st : Stt K N H0 ps0 Hb σ H O L) (he : ER K (psO O ps0) te σ H n) (hi : i < N) (hN : N ≤ 1000) (hO : NoO i O) (hL : SubN i L' L)
    (k : ∀ p q1 q2 σ1 H1, Stt K N H0 ps0 Hb σ1 H1 (cel i p q1 q2 n :: od 1000 q1 ([] : List α) :: od 1000 q2 ([] : List β) :: O) L' → Does u σ1 H1 c SR BR RR) :
    Does (tSeq (tAsg (tLst (tCons te (tCons (tLst tNil) (tCons (tLst tNil) tNil)))) (gName i)) u) σ H c SR BR RR := fun D h1 h2 h3 h4 => by
  refine he H (Ex.refl _) st.dm _ fun v H1 e r => ⟨Nat.zero_le _, fun q1 hq1 => ⟨Nat.zero_le _, fun q2 hq2 => ⟨by show (3 : Nat) ≤ sizeLine; decide, fun p hp => ?_⟩⟩⟩
  cases (show v = .int n from r)
  have s1 := (((st.to e).slot (i := i) (v := .ref p) hO hL)).newG (o := od 1000 q2 ([] : List β)) (c := .lst []) (H1 := upd (upd H1 q1 (.lst [])) q2 (.lst []))
  have hne : q2 ≠ q1 := fun z => by rw [z, upd_same] at hq2; cases hq2
  have hq2' : H1 q2 = none := by rw [upd_ne hne] at hq2; exact hq2
  have st0 := (st.to e).slot (i := i) (v := .ref p) hO hL
  have st1 := st0.newG (o := od 1000 q1 ([] : List α)) (c := .lst []) (H1 := upd H1 q1 (.lst [])) (Ex.new hq1) hq1 upd_same ⟨[], rfl, .nil⟩ (fun z => absurd z (by show ¬ 1000 < N; omega))
  have st2 := st1.newG (o := od 1000 q2 ([] : List β)) (c := .lst []) (H1 := upd (upd H1 q1 (.lst [])) q2 (.lst [])) (Ex.new hq2) hq2 upd_same ⟨[], rfl, .nil⟩ (fun z => absurd z (by show ¬ 1000 < N; omega))
  have st3 := st2.newG (o := cel i p q1 q2 n) (c := .lst [.int n, .ref q1, .ref q2]) (H1 := upd (upd (upd H1 q1 (.lst [])) q2 (.lst [])) p (.lst [.int n, .ref q1, .ref q2])) (Ex.new hp) hp upd_same ⟨[], rfl⟩ (fun _ => by
    rw [List.getElem?_set_self (by rw [st.len]; exact hi)])
  exact k p q1 q2 _ _ (st3.perm (List.Perm.cons _ (List.Perm.swap _ _ _))) D h1 h2 h3 h4
/-- ownership ends: what stood there is data -/
theorem Stt.frzC {i j1 j2 : Nat} {p q1 q2 : Addr} {n : Int} {l1 : List α} {l2 : List β} (st : Stt K N H0 ps0 Hb σ H (cel i p q1 q2 n :: od j1 q1 l1 :: od j2 q2 l2 :: O) L) (hi : i < N := by decide) : Stt K N H0 ps0 Hb σ H O (bd i (⟨(n, l1, l2, ())⟩ : HP (Int × List α × List β × Unit)) :: L) := by
  have hle : Ex (mn H (psO (cel i p q1 q2 n :: od j1 q1 l1 :: od j2 q2 l2 :: O) ps0)) (mn H (psO O ps0)) := mn_le fun a ha => List.mem_cons_of_mem _ (List.mem_cons_of_mem _ (List.mem_cons_of_mem _ ha))
  obtain ⟨a1, ex, a2⟩ := st.celAt List.mem_cons_self hi
  obtain ⟨_, b2, _, c1, b4, vs1, rfl, b5⟩ := st.ow (od j1 q1 l1) (List.mem_cons_of_mem _ List.mem_cons_self)
  obtain ⟨_, c2, _, c3, c4, vs2, rfl, c5⟩ := st.ow (od j2 q2 l2) (List.mem_cons_of_mem _ (List.mem_cons_of_mem _ List.mem_cons_self))
  obtain ⟨_, a3, _, _⟩ := st.ow _ List.mem_cons_self
  have nd := st.nd
  simp only [List.map_cons, List.nodup_cons, List.mem_cons, not_or] at nd
  obtain ⟨⟨n1, n2, n3⟩, ⟨n4, n5⟩, n6, n7⟩ := nd
  have out : ∀ q, H0 q = none → q ∉ O.map Od.p → q ∉ psO O ps0 := fun q h1 h2 hm => by
    obtain z | z := List.mem_append.mp hm
    · exact h2 z
    · exact st.d0 q z h1
  refine ⟨st.len, st.ex, st.d0, st.bs.trans hle, fun b hb => ?_, fun o ho => ?_, n7⟩
  · obtain q | q := List.mem_cons.mp hb
    · subst q
      refine ⟨.ref p, a1, p, [.int n, .ref q1, .ref q2], ex, rfl, mn_at a2 (out p a3 n3), .int n, _, rfl, rfl, .ref q1, _, rfl, ⟨q1, vs1, rfl, mn_at b4 (out q1 b2 n5), b5.mono hle⟩, .ref q2, _, rfl, ⟨q2, vs2, rfl, mn_at c4 (out q2 c2 n6), c5.mono hle⟩, rfl⟩
    · obtain ⟨w, a, r'⟩ := st.kn b q
      exact ⟨w, a, @Rep.mono _ b.R _ _ _ _ _ hle r'⟩
  · obtain ⟨h1, h2, h3, ws, h4, h5⟩ := st.ow o (List.mem_cons_of_mem _ (List.mem_cons_of_mem _ (List.mem_cons_of_mem _ ho)))
    exact ⟨h1, h2, h3, ws, h4, o.mono hle h5⟩
/-- the owned cells, read -/
theorem Stt.kpC {i j1 j2 : Nat} {p q1 q2 : Addr} {n : Int} {l1 : List α} {l2 : List β} (st : Stt K N H0 ps0 Hb σ H O L) (m0 : cel i p q1 q2 n ∈ O) (m1 : od j1 q1 l1 ∈ O) (m2 : od j2 q2 l2 ∈ O) {L1 : List Bd} (kn : Kn K N ps0 σ H L1) (hi : i < N := by decide) : Kn K N ps0 σ H (bd i (⟨(n, l1, l2, ())⟩ : HP (Int × List α × List β × Unit)) :: L1) := by
  obtain ⟨a1, ex, a2⟩ := st.celAt m0 hi
  obtain ⟨_, a3, _, _⟩ := st.ow _ m0
  obtain ⟨_, b2, _, c1, b4, vs1, rfl, b5⟩ := st.ow _ m1
  obtain ⟨_, c2, _, c3, c4, vs2, rfl, c5⟩ := st.ow _ m2
  have hle : Ex (mn H (psO O ps0)) (mn H ps0) := mn_le fun a ha => List.mem_append_right _ ha
  refine ⟨kn.len, fun b hb => ?_⟩
  obtain q | q := List.mem_cons.mp hb
  · subst q
    exact ⟨.ref p, a1, p, [.int n, .ref q1, .ref q2], ex, rfl, mn_at a2 (fun z => st.d0 p z a3), .int n, _, rfl, rfl, .ref q1, _, rfl, ⟨q1, vs1, rfl, mn_at b4 (fun z => st.d0 q1 z b2), b5.mono hle⟩, .ref q2, _, rfl, ⟨q2, vs2, rfl, mn_at c4 (fun z => st.d0 q2 z c2), c5.mono hle⟩, rfl⟩
  · exact kn.kn b q
theorem Stt.kpC4 {i : Nat} {p q1 q2 : Addr} {n : Int} {j1 j2 : Nat} {l1 : List α} {l2 : List β} {x : γ} (st : Stt K N H0 ps0 Hb σ H O L) (m0 : cel4 i p q1 q2 n x ∈ O) (m1 : od j1 q1 l1 ∈ O) (m2 : od j2 q2 l2 ∈ O) {L1 : List Bd} (kn : Kn K N ps0 σ H L1) (hi : i < N := by decide) : Kn K N ps0 σ H (bd i (⟨(n, l1, l2, x, ())⟩ : HP (Int × List α × List β × γ × Unit)) :: L1) := by
  obtain ⟨a1, a3, _, co, a2, v, rfl, rv⟩ := st.ow _ m0
  obtain ⟨_, b2, _, c1, b4, vs1, rfl, b5⟩ := st.ow _ m1
  obtain ⟨_, c2, _, c3, c4, vs2, rfl, c5⟩ := st.ow _ m2
  have hle : Ex (mn H (psO O ps0)) (mn H ps0) := mn_le fun a ha => List.mem_append_right _ ha
  refine ⟨kn.len, fun b hb => ?_⟩
  obtain q | q := List.mem_cons.mp hb
  · subst q
    exact ⟨.ref p, a1 hi, p, [.int n, .ref q1, .ref q2, v], [], rfl, mn_at a2 (fun z => st.d0 p z a3), .int n, _, rfl, rfl, .ref q1, _, rfl, ⟨q1, vs1, rfl, mn_at b4 (fun z => st.d0 q1 z b2), b5.mono hle⟩, .ref q2, _, rfl, ⟨q2, vs2, rfl, mn_at c4 (fun z => st.d0 q2 z c2), c5.mono hle⟩, v, _, rfl, Rep.mono hle rv, rfl⟩
  · exact kn.kn b q

/-! ### a def that changes the cells that it is passed -/
def spC {A : Type} [RepA A] (K : PySem.W.Frag) (f : Int × List α × List β → A → Int × List α × List β) (ok : Int × List α × List β → A → Prop) : Sp := fun vs H Q _ => ∃ (ps : List Addr) (p q1 q2 : Addr) (us : List V) (s : Int × List α × List β) (x : A), vs = .ref p :: us ∧ Dm H ps ∧ [p, q1, q2].Nodup ∧ (p ∉ ps ∧ q1 ∉ ps ∧ q2 ∉ ps) ∧
  (∃ ex, H p = some (.lst (.int s.1 :: .ref q1 :: .ref q2 :: ex))) ∧ (∃ ws, H q1 = some (.lst ws) ∧ Reps K (mn H (p :: q1 :: q2 :: ps)) ws s.2.1) ∧ (∃ ws, H q2 = some (.lst ws) ∧ Reps K (mn H (p :: q1 :: q2 :: ps)) ws s.2.2) ∧
  repA K (mn H (p :: q1 :: q2 :: ps)) us x ∧ ok s x ∧ ∀ H', Ex (mn H [p, q1, q2]) (mn H' [p, q1, q2]) → (∃ ex, H' p = some (.lst (.int (f s x).1 :: .ref q1 :: .ref q2 :: ex))) → (∃ ws, H' q1 = some (.lst ws) ∧ Reps K (mn H' (p :: q1 :: q2 :: ps)) ws (f s x).2.1) → (∃ ws, H' q2 = some (.lst ws) ∧ Reps K (mn H' (p :: q1 :: q2 :: ps)) ws (f s x).2.2) → Q .non H'
theorem stt_cel {p q1 q2 : Addr} {s : Int × List α × List β} (hl : σ.length = N) (hN : N ≤ 1000) (d : Dm H ps0) (nd : [p, q1, q2].Nodup) (hp : p ∉ ps0 ∧ q1 ∉ ps0 ∧ q2 ∉ ps0) (h0 : σ[0]? = some (some (.ref p))) (hc : ∃ ex, H p = some (.lst (.int s.1 :: .ref q1 :: .ref q2 :: ex)))
    (h1 : ∃ ws, H q1 = some (.lst ws) ∧ Reps K (mn H (p :: q1 :: q2 :: ps0)) ws s.2.1) (h2 : ∃ ws, H q2 = some (.lst ws) ∧ Reps K (mn H (p :: q1 :: q2 :: ps0)) ws s.2.2) (h : ∀ b ∈ L, @Sl b.α b.R K (p :: q1 :: q2 :: ps0) σ H b.i b.x) :
    Stt K N (mn H [p, q1, q2]) ps0 (mn H (p :: q1 :: q2 :: ps0)) σ H [cel 0 p q1 q2 s.1, od 1000 q1 s.2.1, od 1000 q2 s.2.2] L :=
by
  refine ⟨hl, mn_ex, fun a ha z => d a ha (by
    have := z
    unfold mn at this
    rw [if_neg (fun q => by
      obtain z | z := List.mem_cons.mp q
      · exact hp.1 (by rw [← z]; exact ha)
      · obtain z | z := List.mem_cons.mp z
        · exact hp.2.1 (by rw [← z]; exact ha)
        · obtain z | z := List.mem_cons.mp z
          · exact hp.2.2 (by rw [← z]; exact ha)
          · cases z)] at this
    exact this), Ex.refl _, h, fun o ho => ?_, nd⟩
  · obtain q | q := List.mem_cons.mp ho
    · subst q
      obtain ⟨ex, hc⟩ := hc
      exact ⟨fun _ => h0, if_pos (by simp), if_pos (by simp), _, hc, ex, rfl⟩
    · obtain q | q := List.mem_cons.mp q
      · subst q
        obtain ⟨ws, h1, r⟩ := h1
        exact ⟨fun z => absurd z (by show ¬ 1000 < N; omega), if_pos (by simp), if_pos (by simp), _, h1, ws, rfl, r⟩
      · obtain q | q := List.mem_cons.mp q
        · subst q
          obtain ⟨ws, h2, r⟩ := h2
          exact ⟨fun z => absurd z (by show ¬ 1000 < N; omega), if_pos (by simp), if_pos (by simp), _, h2, ws, rfl, r⟩
        · cases q
theorem fn_goC {p q1 q2 : Addr} {Q : VK} {c : Ctl (Int × List α × List β) Empty Empty} {s1 : Int × List α × List β} (h : Does t σ H c (fun s σ' H' => ∃ N Hb L, Stt K N (mn H [p, q1, q2]) ps0 Hb σ' H' [cel 0 p q1 q2 s.1, od 1000 q1 s.2.1, od 1000 q2 s.2.2] L) SR0 (fun e _ _ => e.elim)) (hc : c = .nx s1)
    (q : ∀ H', Ex (mn H [p, q1, q2]) (mn H' [p, q1, q2]) → (∃ ex, H' p = some (.lst (.int s1.1 :: .ref q1 :: .ref q2 :: ex))) → (∃ ws, H' q1 = some (.lst ws) ∧ Reps K (mn H' (p :: q1 :: q2 :: ps0)) ws s1.2.1) → (∃ ws, H' q2 = some (.lst ws) ∧ Reps K (mn H' (p :: q1 :: q2 :: ps0)) ws s1.2.2) → Q .non H') :
    t { nx := fun _ H' => Q .non H', rt := Q } σ H := by
  subst hc
  exact h _ (fun s σ' H' e st => by
    cases e
    obtain ⟨N, Hb, L, st⟩ := st
    obtain ⟨_, _, _, o0, g0, ex, rfl⟩ := st.ow _ List.mem_cons_self
    obtain ⟨_, _, _, o1, g1, ws1, rfl, r1⟩ := st.ow _ (List.mem_cons_of_mem _ List.mem_cons_self)
    obtain ⟨_, _, _, o2, g2, ws2, rfl, r2⟩ := st.ow _ (List.mem_cons_of_mem _ (List.mem_cons_of_mem _ List.mem_cons_self))
    exact q H' (fun a o ha => mn_at (st.ex a o ha) (mn_notin ha)) ⟨ex, g0⟩ ⟨ws1, g1, r1⟩ ⟨ws2, g2, r2⟩) (fun s => s.elim) (fun s => s.elim) (fun r => r.elim)
/-- owned places have been changed by someone else -/
theorem Stt.havoc {O1 O2 : List Od} (st : Stt K N H0 ps0 Hb σ H (O1 ++ O) L) (e : Ex (mn H (O1.map Od.p)) (mn H1 (O1.map Od.p))) (hp : O2.map Od.p = O1.map Od.p) (hs : ∀ o ∈ O2, ∃ o' ∈ O1, o'.i = o.i ∧ o'.p = o.p) (h : ∀ o ∈ O2, ∃ c, H1 o.p = some c ∧ o.ct K (mn H1 (psO (O1 ++ O) ps0)) c) : Stt K N H0 ps0 Hb σ H1 (O2 ++ O) L := by
  have hps : psO (O2 ++ O) ps0 = psO (O1 ++ O) ps0 := by unfold psO; rw [List.map_append, List.map_append, hp]
  have le : Ex (mn H (psO (O1 ++ O) ps0)) (mn H1 (psO (O1 ++ O) ps0)) := fun a o ha => by
    have h1 := mn_notin ha
    have h2 : a ∉ O1.map Od.p := fun z => h1 (by unfold psO; rw [List.map_append]; exact List.mem_append_left _ (List.mem_append_left _ z))
    exact mn_at (mn_ex _ _ (e a o (mn_at (mn_ex _ _ ha) h2))) h1
  refine ⟨st.len, fun a o ha => ?_, st.d0, by rw [hps]; exact st.bs.trans le, fun b hb => ?_, fun o ho => ?_, by rw [List.map_append, hp, ← List.map_append]; exact st.nd⟩
  · refine mn_ex _ _ (e a o (mn_at (st.ex a o ha) fun z => ?_))
    obtain ⟨o1, h1, rfl⟩ := List.mem_map.mp z
    rw [(st.ow o1 (List.mem_append_left _ h1)).2.1] at ha
    cases ha
  · obtain ⟨w, a, r'⟩ := st.kn b hb
    exact ⟨w, a, by rw [hps]; exact @Rep.mono _ b.R _ _ _ _ _ le r'⟩
  · rw [hps]
    obtain q | q := List.mem_append.mp ho
    · obtain ⟨o', m, e1, e2⟩ := hs o q
      obtain ⟨a1, a2, a3, _⟩ := st.ow o' (List.mem_append_left _ m)
      obtain ⟨c, h1, h2⟩ := h o q
      exact ⟨by rw [← e1, ← e2]; exact a1, by rw [← e2]; exact a2, by rw [← e2]; exact a3, c, h1, h2⟩
    · obtain ⟨a1, a2, a3, c, a4, a5⟩ := st.ow o (List.mem_append_right _ q)
      refine ⟨a1, a2, a3, c, mn_ex _ _ (e _ _ (mn_at a4 fun z => ?_)), o.mono le a5⟩
      have nd := st.nd
      rw [List.map_append, List.nodup_append] at nd
      exact nd.2.2 _ z _ (List.mem_map.mpr ⟨o, q, rfl⟩) rfl
theorem d_callC {A : Type} [RepA A] {i : Nat} {p q1 q2 : Addr} {s : Int × List α × List β} {x : A} {E : XK} {tt : TA} {f : Int × List α × List β → A → Int × List α × List β} {ok : Int × List α × List β → A → Prop} {okL : Int × List α × List β → Prop} {F : Int × List α × List β → Ctl S B R}
    (st : Stt K N H0 ps0 Hb σ H (cel i p q1 q2 s.1 :: od 1000 q1 s.2.1 :: od 1000 q2 s.2.2 :: O) L) (h : EAs K (psO (cel i p q1 q2 s.1 :: od 1000 q1 s.2.1 :: od 1000 q2 s.2.2 :: O) ps0) tt σ H x) (hk : ok s x) (hok : okLet (f s x) okL)
    (k : ∀ y H1, y = f s x → okL y → Stt K N H0 ps0 Hb σ H1 (cel i p q1 q2 y.1 :: od 1000 q1 y.2.1 :: od 1000 q2 y.2.2 :: O) L → Does u σ H1 (F y) SR BR RR) (hi : i < N := by decide) :
    Does (tSeq (tDrop (tCall (spC K f ok) [] E (tCons (tVar i) tt))) u) σ H (vLet (f s x) F) SR BR RR := fun D h1 h2 h3 h4 => by
  refine ⟨.ref p, (st.celAt List.mem_cons_self hi).1, h H (Ex.refl _) st.dm _ fun vs H2 e r => ?_⟩
  have st2 := st.to e
  obtain ⟨_, _, _, o0, g0, ex, rfl⟩ := st2.ow _ List.mem_cons_self
  obtain ⟨_, _, _, o1, g1, ws1, rfl, r1⟩ := st2.ow _ (List.mem_cons_of_mem _ List.mem_cons_self)
  obtain ⟨_, _, _, o2, g2, ws2, rfl, r2⟩ := st2.ow _ (List.mem_cons_of_mem _ (List.mem_cons_of_mem _ List.mem_cons_self))
  have nd := st2.nd
  simp only [List.map_cons, List.nodup_cons, List.mem_cons, not_or] at nd
  obtain ⟨⟨n1, n2, n3⟩, ⟨n4, n5⟩, n6, n7⟩ := nd
  have no : ∀ o ∈ (cel i p q1 q2 s.1 :: od 1000 q1 s.2.1 :: od 1000 q2 s.2.2 :: O), o.p ∉ O.map Od.p → o.p ∉ psO O ps0 := fun o ho h1 hm => by
    obtain z | z := List.mem_append.mp hm
    · exact h1 z
    · exact st2.d0 _ z (st2.ow o ho).2.1
  refine ⟨psO O ps0, p, q1, q2, vs, s, x, by rw [List.append_nil], fun a ha => st2.dm a (List.mem_cons_of_mem _ (List.mem_cons_of_mem _ (List.mem_cons_of_mem _ ha))), by simp [n1, n2, n4], ⟨no _ List.mem_cons_self n3, no _ (List.mem_cons_of_mem _ List.mem_cons_self) n5, no _ (List.mem_cons_of_mem _ (List.mem_cons_of_mem _ List.mem_cons_self)) n6⟩,
    ⟨ex, g0⟩, ⟨ws1, g1, r1⟩, ⟨ws2, g2, r2⟩, r, hk, fun H' e3 k0 k1 k2 => ?_⟩
  have st3 := st2.havoc (O := O) (O1 := [cel i p q1 q2 s.1, od 1000 q1 s.2.1, od 1000 q2 s.2.2]) (O2 := [cel i p q1 q2 (f s x).1, od 1000 q1 (f s x).2.1, od 1000 q2 (f s x).2.2]) (H1 := H') e3 rfl (fun o ho => by
    obtain q | q := List.mem_cons.mp ho
    · subst q; exact ⟨cel i p q1 q2 s.1, by simp, rfl, rfl⟩
    · obtain q | q := List.mem_cons.mp q
      · subst q; exact ⟨od 1000 q1 s.2.1, by simp, rfl, rfl⟩
      · obtain q | q := List.mem_cons.mp q
        · subst q; exact ⟨od 1000 q2 s.2.2, by simp, rfl, rfl⟩
        · cases q) (fun o ho => by
    obtain q | q := List.mem_cons.mp ho
    · subst q
      obtain ⟨ex, k0⟩ := k0
      exact ⟨_, k0, ex, rfl⟩
    · obtain q | q := List.mem_cons.mp q
      · subst q
        obtain ⟨ws, k1, r⟩ := k1
        exact ⟨_, k1, ws, rfl, r⟩
      · obtain q | q := List.mem_cons.mp q
        · subst q
          obtain ⟨ws, k2, r⟩ := k2
          exact ⟨_, k2, ws, rfl, r⟩
        · cases q)
  exact k _ _ rfl hok st3 D h1 h2 h3 h4

/-! ### a def that hands back new cells -/
def spG {A : Type} [RepA A] (K : PySem.W.Frag) (f : A → Int × List α × List β × γ) (ok : A → Prop) : Sp := fun vs H Q _ => ∃ (ps : List Addr) (x : A), Dm H ps ∧ repA K (mn H ps) vs x ∧ ok x ∧
  ∀ p q1 q2 v ws1 ws2 H', Ex H H' → H p = none → H q1 = none → H q2 = none → [p, q1, q2].Nodup → H' p = some (.lst [.int (f x).1, .ref q1, .ref q2, v]) → H' q1 = some (.lst ws1) → H' q2 = some (.lst ws2) →
    Reps K (mn H' (p :: q1 :: q2 :: ps)) ws1 (f x).2.1 → Reps K (mn H' (p :: q1 :: q2 :: ps)) ws2 (f x).2.2.1 → rep K (mn H' (p :: q1 :: q2 :: ps)) v (f x).2.2.2 → Q (.ref p) H'
/-- three new owned places -/
theorem Stt.newG3 {o1 o2 o3 : Od} {c1 c2 c3 : HO} (st : Stt K N H0 ps0 Hb σ H O L) (e : Ex H H1) (hp : H o1.p = none ∧ H o2.p = none ∧ H o3.p = none) (nd : [o1.p, o2.p, o3.p].Nodup) (h1 : H1 o1.p = some c1 ∧ H1 o2.p = some c2 ∧ H1 o3.p = some c3)
    (r : o1.ct K (mn H1 (o1.p :: o2.p :: o3.p :: psO O ps0)) c1 ∧ o2.ct K (mn H1 (o1.p :: o2.p :: o3.p :: psO O ps0)) c2 ∧ o3.ct K (mn H1 (o1.p :: o2.p :: o3.p :: psO O ps0)) c3) (hi : (o1.i < N → σ[o1.i]? = some (some (.ref o1.p))) ∧ (o2.i < N → σ[o2.i]? = some (some (.ref o2.p))) ∧ (o3.i < N → σ[o3.i]? = some (some (.ref o3.p)))) : Stt K N H0 ps0 Hb σ H1 (o1 :: o2 :: o3 :: O) L := by
  have le : Ex (mn H (psO O ps0)) (mn H1 (o1.p :: o2.p :: o3.p :: psO O ps0)) := fun a o h => by
    refine mn_at (e a o (mn_ex _ _ h)) fun q => ?_
    have h0 := mn_ex _ _ h
    obtain q | q := List.mem_cons.mp q
    · rw [q, hp.1] at h0; cases h0
    · obtain q | q := List.mem_cons.mp q
      · rw [q, hp.2.1] at h0; cases h0
      · obtain q | q := List.mem_cons.mp q
        · rw [q, hp.2.2] at h0; cases h0
        · exact mn_notin h q
  refine ⟨st.len, st.ex.trans e, st.d0, st.bs.trans le, fun b hb => ?_, fun o ho => ?_, ?_⟩
  · obtain ⟨w, a, r'⟩ := st.kn b hb
    exact ⟨w, a, @Rep.mono _ b.R _ _ _ _ _ le r'⟩
  · have hfb : ∀ q, H q = none → H0 q = none ∧ Hb q = none := fun q hq => ⟨fresh_back st.ex hq, fresh_back (st.bs.trans mn_ex) hq⟩
    obtain q | q := List.mem_cons.mp ho
    · subst q; exact ⟨hi.1, (hfb _ hp.1).1, (hfb _ hp.1).2, _, h1.1, r.1⟩
    · obtain q | q := List.mem_cons.mp q
      · subst q; exact ⟨hi.2.1, (hfb _ hp.2.1).1, (hfb _ hp.2.1).2, _, h1.2.1, r.2.1⟩
      · obtain q | q := List.mem_cons.mp q
        · subst q; exact ⟨hi.2.2, (hfb _ hp.2.2).1, (hfb _ hp.2.2).2, _, h1.2.2, r.2.2⟩
        · obtain ⟨h1, h2, h3, ws, h4, h5⟩ := st.ow o q
          exact ⟨h1, h2, h3, ws, e _ _ h4, o.mono le h5⟩
  · have no : ∀ q, H q = none → q ∉ O.map Od.p := fun q hq hm => by
      obtain ⟨o1, ho, e1⟩ := List.mem_map.mp hm
      obtain ⟨_, _, _, ws, h4, _⟩ := st.ow o1 ho
      rw [e1, hq] at h4
      cases h4
    simp only [List.map_cons, List.nodup_cons, List.mem_cons, not_or] at nd ⊢
    exact ⟨⟨nd.1.1, nd.1.2.1, no _ hp.1⟩, ⟨nd.2.1.1, no _ hp.2.1⟩, no _ hp.2.2, st.nd⟩
/-- net = f(..) -/
theorem d_callG {A : Type} [RepA A] {i : Nat} {x : A} {E : XK} {tt : TA} {f : A → Int × List α × List β × γ} {ok : A → Prop} {okL : Int × List α × List β × γ → Prop} {F : Int × List α × List β × γ → Ctl S B R} (st : Stt K N H0 ps0 Hb σ H O L) (h : EAs K (psO O ps0) tt σ H x) (hk : ok x) (hok : okLet (f x) okL) (hi : i < N) (hN : N ≤ 1000) (hO : NoO i O) (hL : SubN i L' L)
    (k : ∀ y p q1 q2 σ1 H1, y = f x → okL y → Stt K N H0 ps0 Hb σ1 H1 (cel4 i p q1 q2 y.1 y.2.2.2 :: od 1000 q1 y.2.1 :: od 1000 q2 y.2.2.1 :: O) L' → Does u σ1 H1 (F y) SR BR RR) : Does (tSeq (tAsg (tCall (spG K f ok) [] E tt) (gName i)) u) σ H (vLet (f x) F) SR BR RR := fun D h1 h2 h3 h4 => by
  refine h H (Ex.refl _) st.dm _ fun vs H2 e r => ?_
  refine ⟨psO O ps0, x, st.dm.mono e, by rw [List.append_nil]; exact r, hk, fun p q1 q2 v ws1 ws2 H' e2 f0 f1 f2 nd g0 g1 g2 r1 r2 rv => ?_⟩
  have st0 := (st.to e).slot (i := i) (v := .ref p) hO hL
  have st3 := st0.newG3 (o1 := cel4 i p q1 q2 (f x).1 (f x).2.2.2) (o2 := od 1000 q1 (f x).2.1) (o3 := od 1000 q2 (f x).2.2.1) e2 ⟨f0, f1, f2⟩ nd ⟨g0, g1, g2⟩ ⟨⟨v, rfl, rv⟩, ⟨ws1, rfl, r1⟩, ⟨ws2, rfl, r2⟩⟩ ⟨fun _ => by rw [List.getElem?_set_self (by rw [st.len]; exact hi)], fun z => absurd z (by show ¬ 1000 < N; omega), fun z => absurd z (by show ¬ 1000 < N; omega)⟩
  exact k _ p q1 q2 _ _ rfl hok st3 D h1 h2 h3 h4
def RRG (K : PySem.W.Frag) (H0 : Hp) (ps0 : List Addr) : Int × List α × List β × γ → V → Hp → Prop := fun s w H' => ∃ p q1 q2 v ws1 ws2, w = .ref p ∧ Ex H0 H' ∧ H0 p = none ∧ H0 q1 = none ∧ H0 q2 = none ∧ [p, q1, q2].Nodup ∧ H' p = some (.lst [.int s.1, .ref q1, .ref q2, v]) ∧ H' q1 = some (.lst ws1) ∧ H' q2 = some (.lst ws2) ∧
    Reps K (mn H' (p :: q1 :: q2 :: ps0)) ws1 s.2.1 ∧ Reps K (mn H' (p :: q1 :: q2 :: ps0)) ws2 s.2.2.1 ∧ rep K (mn H' (p :: q1 :: q2 :: ps0)) v s.2.2.2
/-- return [n, rows, edges, e] -/
theorem d_retG {i1 i2 : Nat} {q1 q2 : Addr} {n : Int} {l1 : List α} {l2 : List β} {x : γ} {t0 t3 : TE} (st : Stt K N H0 ps0 Hb σ H [od i1 q1 l1, od i2 q2 l2] L) (h0 : ER K (psO [od i1 q1 l1, od i2 q2 l2] ps0) t0 σ H n) (h3 : ER K (psO [od i1 q1 l1, od i2 q2 l2] ps0) t3 σ H x) (hi1 : i1 < N := by decide) (hi2 : i2 < N := by decide) :
    Does (tRet (tLst (tCons t0 (tCons (tVar i1) (tCons (tVar i2) (tCons t3 tNil)))))) σ H (.rt (n, l1, l2, x) : Ctl S B (Int × List α × List β × γ)) SR BR (RRG K H0 ps0) := fun D _ _ _ k4 => by
  refine h0 H (Ex.refl _) st.dm _ fun v H1 e r => ?_
  cases (show v = .int n from r)
  have st1 := st.to e
  obtain ⟨a1, a2, a3, ws1, a4, a5⟩ := st1.owM List.mem_cons_self hi1
  obtain ⟨b1, b2, b3, ws2, b4, b5⟩ := st1.owM (List.mem_cons_of_mem _ List.mem_cons_self) hi2
  refine ⟨.ref q1, a1, .ref q2, b1, h3 H1 e st1.dm _ fun w H2 e2 r2 => ⟨by show (4 : Nat) ≤ sizeLine; decide, fun p hp => ?_⟩⟩
  have np : ∀ q o, H2 q = some o → q ≠ p := fun q o hq z => by rw [z, hp] at hq; cases hq
  have g1 := e2 _ _ a4
  have g2 := e2 _ _ b4
  have nd := st1.nd
  simp only [List.map_cons, List.map_nil, List.nodup_cons, List.mem_cons, List.not_mem_nil, or_false] at nd
  have le : Ex (mn H2 (psO [od i1 q1 l1, od i2 q2 l2] ps0)) (mn (upd H2 p (.lst [.int n, .ref q1, .ref q2, w])) (p :: q1 :: q2 :: ps0)) := mn_new (Ex.new hp) hp
  refine k4 _ _ _ rfl ⟨p, q1, q2, w, ws1, ws2, rfl, (st1.ex.trans e2).trans (Ex.new hp), fresh_back (st1.ex.trans e2) hp, a2, b2, ?_, upd_same, ?_, ?_, a5.mono ((mn_mono e2).trans le), b5.mono ((mn_mono e2).trans le), Rep.mono le r2⟩
  · simp only [List.nodup_cons, List.mem_cons, List.not_mem_nil, or_false, not_or]
    exact ⟨⟨(np _ _ g1).symm, (np _ _ g2).symm⟩, nd.1, fun z => z, List.nodup_nil⟩
  · rw [upd_ne (np _ _ g1)]; exact g1
  · rw [upd_ne (np _ _ g2)]; exact g2
theorem fn_goG [Inhabited γ] {c : Ctl Empty Empty (Int × List α × List β × γ)} {Q : VK} {s : Int × List α × List β × γ} (h : Does t σ H c SR0 SR0 (RRG K H ps0)) (hc : c = .rt s)
    (q : ∀ p q1 q2 v ws1 ws2 H', Ex H H' → H p = none → H q1 = none → H q2 = none → [p, q1, q2].Nodup → H' p = some (.lst [.int s.1, .ref q1, .ref q2, v]) → H' q1 = some (.lst ws1) → H' q2 = some (.lst ws2) →
    Reps K (mn H' (p :: q1 :: q2 :: ps0)) ws1 s.2.1 → Reps K (mn H' (p :: q1 :: q2 :: ps0)) ws2 s.2.2.1 → rep K (mn H' (p :: q1 :: q2 :: ps0)) v s.2.2.2 → Q (.ref p) H') : t { nx := fun _ H' => Q .non H', rt := Q } σ H := by
  subst hc
  exact h _ (fun s => s.elim) (fun s => s.elim) (fun s => s.elim) (fun r' v H' e rr => by
    cases e
    obtain ⟨p, q1, q2, v', ws1, ws2, rfl, h1, h2, h3, h4, h5, h6, h7, h8, h9, h10, h11⟩ := rr
    exact q p q1 q2 v' ws1 ws2 H' h1 h2 h3 h4 h5 h6 h7 h8 h9 h10 h11)

/-! ### while -/
/-- a while, at most n turns -/
def whL {S R : Type} (b : S → Bool) (f : S → Ctl S S R) : Nat → S → S ⊕ R
  | 0, s => .inl s
  | n + 1, s => match b s with | false => .inl s | true => match f s with | .nx s' => whL b f n s' | .ct s' => whL b f n s' | .bk s' => .inl s' | .rt v => .inr v
def whC {S S' B R : Type} (n : Nat) (b : S → Bool) (f : S → Ctl S S R) (s : S) (k : S → Ctl S' B R) : Ctl S' B R := match whL b f n s with | .inl s => k s | .inr r => .rt r
/-- what each turn asks (okb: what the test asks); the turns end -/
def whOk {S R : Type} (b : S → Bool) (f : S → Ctl S S R) (okb ok : S → Prop) : Nat → S → Prop
  | 0, _ => False
  | n + 1, s => okb s ∧ (b s = true → ok s ∧ match f s with | .nx s' => whOk b f okb ok n s' | .ct s' => whOk b f okb ok n s' | .bk _ => True | .rt _ => True)
def okWh {S R : Type} (b : S → Bool) (f : S → Ctl S S R) (okb ok : S → Prop) (n : Nat) (s0 : S) (q : S → Prop) : Prop := whOk b f okb ok n s0 ∧ ∀ s, whL b f n s0 = .inl s → q s
theorem d_while {tc : TT} {tb : TS} {S S' B R : Type} {b : S → Bool} {f : S → Ctl S S R} {okb ok : S → Prop} {n : Nat} {s0 : S} {k : S → Ctl S' B R} {q : S → Prop} {SR : S' → L2.St → Hp → Prop} {BR : B → L2.St → Hp → Prop} {RR : R → V → Hp → Prop}
    (Of : S → List Od) (Lf : S → List Bd) (st : Stt K N H0 ps0 Hb σ H O L) (hok : okWh b f okb ok n s0 q)
    (h0 : Stt K N H0 ps0 Hb σ H O L → Stt K N H0 ps0 Hb σ H (Of s0) (Lf s0))
    (hc : ∀ s σ' H', okb s → Stt K N H0 ps0 Hb σ' H' (Of s) (Lf s) → ET (psO (Of s) ps0) tc σ' H' (b s))
    (hb : ∀ s σ' H', b s = true → ok s → Stt K N H0 ps0 Hb σ' H' (Of s) (Lf s) → Does tb σ' H' (f s) (fun s σ H => Stt K N H0 ps0 Hb σ H (Of s) (Lf s)) (fun s σ H => Stt K N H0 ps0 Hb σ H (Of s) (Lf s)) RR)
    (hr : ∀ s σ' H', whL b f n s0 = .inl s → q s → Stt K N H0 ps0 Hb σ' H' (Of s) (Lf s) → Does u σ' H' (k s) SR BR RR) : Does (tSeq (tWhile tc tb) u) σ H (whC n b f s0 k) SR BR RR := fun D k1 k2 k3 k4 => by
  obtain ⟨hw, hq⟩ := hok
  have fin : ∀ s σ' H', whL b f n s0 = .inl s → Stt K N H0 ps0 Hb σ' H' (Of s) (Lf s) → u D σ' H' := fun s σ' H' e st' => by
    refine hr s σ' H' e (hq s e) st' D (fun z σ3 H3 q => k1 z σ3 H3 ?_) (fun z σ3 H3 q => k2 z σ3 H3 ?_) (fun z σ3 H3 q => k3 z σ3 H3 ?_) (fun z v H3 q => k4 z v H3 ?_) <;> (unfold whC; rw [e]; exact q)
  refine ⟨fun m σ' H' => ∃ s, whOk b f okb ok m s ∧ whL b f m s = whL b f n s0 ∧ Stt K N H0 ps0 Hb σ' H' (Of s) (Lf s), ⟨n, s0, hw, rfl, h0 st⟩, fun m σ' H' w => ?_⟩
  obtain ⟨s, ho, hf, st'⟩ := w
  match m, ho, hf with
  | m + 1, ho, hf =>
    obtain ⟨ho1, ho2⟩ := ho
    refine hc s σ' H' ho1 st' H' (Ex.refl _) st'.dm _ fun H1 e => ?_
    have st1 := st'.to e
    cases hb' : b s with
    | false =>
      rw [if_neg (by decide)]
      refine fin s σ' H1 ?_ st1
      rw [← hf]
      show whL b f (m + 1) s = _
      unfold whL
      rw [hb']
    | true =>
      rw [if_pos rfl]
      obtain ⟨ho3, ho4⟩ := ho2 hb'
      have hf' : (match f s with | .nx s' => whL b f m s' | .ct s' => whL b f m s' | .bk s' => .inl s' | .rt v => .inr v) = whL b f n s0 := by
        rw [← hf]
        show _ = whL b f (m + 1) s
        rw [whL, hb']
      refine ⟨fun σ2 H2 => ∃ s', whOk b f okb ok m s' ∧ whL b f m s' = whL b f n s0 ∧ Stt K N H0 ps0 Hb σ2 H2 (Of s') (Lf s'), fun σ2 H2 w => ⟨m, Nat.lt_succ_self m, w⟩, ?_⟩
      refine hb s σ' H1 hb' ho3 st1 _ (fun s' σ2 H2 e2 st2 => ?_) (fun s' σ2 H2 e2 st2 => ?_) (fun s' σ2 H2 e2 st2 => ?_) (fun r v H2 e2 rr => ?_)
      · rw [e2] at ho4 hf'; exact ⟨s', ho4, hf', st2⟩
      · rw [e2] at hf'; exact fin s' σ2 H2 hf'.symm st2
      · rw [e2] at ho4 hf'; exact ⟨s', ho4, hf', st2⟩
      · rw [e2] at hf'
        refine k4 r v H2 ?_ rr
        unfold whC; rw [← hf']
end
end Cx

/-! CxCls: own classes: __init__, fields, statements that never raise; lists of lists that are changed; enumerate; unpacking. -/
namespace Cx
open PySem PySem.Spec PyProof.Rows L2 StX Evl
open Rep (rep)
open RepA (repA)
def nxC {S : Type} [Inhabited S] : Ctl S Empty Empty → S
  | .nx s => s
  | _ => default
theorem nx_of {S : Type} [Inhabited S] (c : Ctl S Empty Empty) : c = .nx (nxC c) := by
  cases c with
  | nx s => rfl
  | bk b => exact b.elim
  | ct b => exact b.elim
  | rt b => exact b.elim
section
variable {K : PySem.W.Frag} {N : Nat} {H0 Hb : Hp} {ps0 ps : List Addr} {σ : L2.St} {H H1 : Hp} {O : List Od} {L L' : List Bd} {α β γ : Type} [Rep α] [Rep β] [Rep γ]
variable {S B R : Type} {c : Ctl S B R} {SR : S → L2.St → Hp → Prop} {BR : B → L2.St → Hp → Prop} {RR : R → V → Hp → Prop} {t u : TS} {te ta tb tr tv : TE} {C : Addr} {cn : Str} {ns : List Str} {A : Type} [RepA A]
theorem noO_cel {i j : Nat} {p q1 q2 : Addr} {m : Int} {O : List Od} (n : j ≠ i) (r : NoO i O) : NoO i (cel j p q1 q2 m :: O) := fun c q => by
  obtain e | e := List.mem_cons.mp q
  · rw [e]; exact n
  · exact r c e
theorem noO_cel4 {i j : Nat} {p q1 q2 : Addr} {m : Int} {x : β} {O : List Od} (n : j ≠ i) (r : NoO i O) : NoO i (cel4 j p q1 q2 m x :: O) := fun c q => by
  obtain e | e := List.mem_cons.mp q
  · rw [e]; exact n
  · exact r c e
theorem noO_oi {i j : Nat} {p : Addr} {Ls : List Fd} {O : List Od} (n : j ≠ i) (r : NoO i O) : NoO i (oi j p C Ls :: O) := fun c q => by
  obtain e | e := List.mem_cons.mp q
  · rw [e]; exact n
  · exact r c e
theorem Stt.eqC1' {i : Nat} {p q1 q2 : Addr} {n : Int} (st : Stt K N H0 ps0 Hb σ H O L) (h : cel i p q1 q2 n ∈ O) (hi : i < N := by decide) : ∀ H1, Ex H H1 → EQ (tOp (rIxL K) (tVar i) (tC (.int 1))) σ H1 (.ref q1) := fun H1 e => (st.to e).eqC1 h hi
/-- self.f = e, the value by a letter -/
theorem d_fldL {i : Nat} {p : Addr} {Ls : List Fd} {f : Str} {x : α} {ok : α → Prop} {F : α → Ctl S B R} (st : Stt K N H0 ps0 Hb σ H (oi i p C Ls :: O) L) (he : ER K (psO (oi i p C Ls :: O) ps0) tv σ H x) (cl : Cls K C) (n : NoAttr K C f) (hf : f ∉ Ls.map Fd.f) (hl : Ls.length < 1000) (hok : okLet x ok)
    (k : ∀ y H1, y = x → ok y → Stt K N H0 ps0 Hb σ H1 (oi i p C (Ls ++ [fd f y]) :: O) L → Does u σ H1 (F y) SR BR RR) (hi : i < N := by decide) : Does (tSeq (sFld K (tVar i) tv f) u) σ H (vLet x F) SR BR RR :=
  d_fld st he cl n hf hl (fun H1 s1 => k x H1 rfl hok s1) hi
theorem FRep.at {k : Nat} {f : Str} {v : V} {d : Fd} : ∀ {fs : List (Str × V)} {L : List Fd} {k : Nat}, FRep K H fs L → L[k]? = some d → ∃ v, fs[k]? = some (d.f, v) ∧ @rep d.α d.R K H v d.x
  | _, _, k, .nil, e => by simp at e
  | _, _, 0, .cons r _, e => by simp at e; subst e; exact ⟨_, rfl, r⟩
  | _, _, k + 1, .cons _ t, e => t.at (f := f) (v := v) (k := k) (by simpa using e)
/-- self.f, while it is being made -/
theorem er_fldO {i : Nat} {p : Addr} {Ls : List Fd} {f : Str} {x : α} (k : Nat) (st : Stt K N H0 ps0 Hb σ H O L) (m : oi i p C Ls ∈ O) (hk : Ls[k]? = some (fd f x)) (hd : (Ls.map Fd.f).Nodup) (cl : Cls K C) (n : NoAttr K C f) (hi : i < N := by decide) : ER K (psO O ps0) (tFld K (tVar i) f) σ H x := fun H1 e d Q q => by
  have st1 := st.to e
  obtain ⟨a1, a2, a3, o, a4, dx, fs, rfl, a5⟩ := st1.ow _ m
  obtain ⟨v, h1, h2⟩ := a5.at (f := f) (v := .non) (k := k) hk
  exact ⟨.ref p, a1 hi, p, C, dx, fs, v, rfl, a4, cl, n, lookup_at (k := k) (by rw [a5.names]; exact hd) (by rw [List.getElem?_map, h1]; rfl) (by rw [List.getElem?_map, h1]; rfl), q v H1 (Ex.refl _) h2⟩
theorem fn_goI2 {B : Type} [Inhabited B] {p : Addr} {Fs : B → List Fd} {Q : VK} {c : Ctl B Empty Empty} {s1 : B} (h : Does t σ H c (fun s σ' H' => ∃ N Hb L, Stt K N (mn H [p]) ps0 Hb σ' H' [oi 0 p C (Fs s)] L) SR0 (fun e _ _ => e.elim)) (hc : c = .nx s1)
    (q : ∀ H', Ex (mn H [p]) (mn H' [p]) → (∃ dx fs, H' p = some (.ins C dx fs) ∧ FRep K (mn H' (p :: ps0)) fs (Fs s1)) → Q .non H') : t { nx := fun _ H' => Q .non H', rt := Q } σ H := by
  subst hc
  exact h _ (fun s σ' H' e st => by
    cases e
    obtain ⟨N, Hb, L, st⟩ := st
    obtain ⟨_, _, _, o, h1, dx, fs, rfl, h2⟩ := st.ow _ List.mem_cons_self
    exact q H' (fun a o ha => mn_at (st.ex a o ha) (mn_notin ha)) ⟨dx, fs, h1, h2⟩) (fun s => s.elim) (fun s => s.elim) (fun r => r.elim)
/-- if e: raise .., never -/
theorem d_assert {b : Bool} {tt : TT} {t1 : TS} (st : Stt K N H0 ps0 Hb σ H O L) (hb : ET (psO O ps0) tt σ H b) (h : b = false) (k : ∀ H1, Stt K N H0 ps0 Hb σ H1 O L → Does u σ H1 c SR BR RR) : Does (tSeq (tIfS tt t1 tNext) u) σ H c SR BR RR := fun D k1 k2 k3 k4 =>
  hb H (Ex.refl _) st.dm _ fun H1 e => by
    rw [h]
    exact k H1 (st.to e) D k1 k2 k3 k4
/-- a, b = a pair -/
theorem d_unT2 {i j : Nat} {x : T (α × β × Unit)} {f : T (α × β × Unit) → Ctl S B R} {ok : T (α × β × Unit) → Prop} (st : Stt K N H0 ps0 Hb σ H O L) (he : ER K (psO O ps0) te σ H x) (hok : okLet x ok) (hij : i < N ∧ j < N ∧ i ≠ j) (hO : NoO i O ∧ NoO j O) (hL : SubV [i, j] L' L)
    (k : ∀ y σ1 H1, y = x → ok y → Stt K N H0 ps0 Hb σ1 H1 O (bd j y.t.2.1 :: bd i y.t.1 :: L') → Does u σ1 H1 (f y) SR BR RR) :
    Does (tSeq (tAsg te (gTup K 2 (gCons (gName i) (gCons (gName j) gNil)))) u) σ H (vLet x f) SR BR RR := fun D h1 h2 h3 h4 =>
  he H (Ex.refl _) st.dm _ fun v H1 e r => by
    obtain ⟨a, us, rfl, hv, v1, r1, rfl, rr1, v2, r2, rfl, rr2, rfl⟩ := r
    refine ⟨a, _, rfl, st_of (mn_ex _ _ hv), rfl, v1, _, rfl, v2, _, rfl, rfl, ?_⟩
    have s1 := (st.to e).set (i := i) (L' := L') rr1 hij.1 hO.1 fun b hb => ⟨(hL b hb).1, fun z => (hL b hb).2 (by rw [z]; exact List.mem_cons_self)⟩
    refine k x _ H1 rfl hok (s1.set (i := j) (L' := bd i x.t.1 :: L') rr2 hij.2.1 hO.2 fun b hb => ⟨hb, ?_⟩) D h1 h2 h3 h4
    obtain q | q := List.mem_cons.mp hb
    · rw [q]; exact hij.2.2
    · exact fun z => (hL b q).2 (by rw [z]; exact List.mem_cons_of_mem _ List.mem_cons_self)
/-- p[k] of a pair of one kind -/
def ixT2 (x : T (α × α × Unit)) (k : Int) : α := if k = 0 then x.t.1 else x.t.2.1
theorem er_ixT2 {x : T (α × α × Unit)} {k : Int} (ha : ER K ps ta σ H x) (hb : ER K ps tb σ H k) (h : k = 0 ∨ k = 1) : ER K ps (tOp (rIxT K) ta tb) σ H (ixT2 x k) :=
  er_op ha hb fun v w H1 _ r1 r2 Q q => by
    obtain ⟨a, us, rfl, hv, v1, r', rfl, rr1, v2, r'', rfl, rr2, rfl⟩ := r1
    rcases h with rfl | rfl
    · exact ⟨a, _, 0, v1, rfl, r2, st_of (mn_ex _ _ hv), rfl, q v1 H1 (Ex.refl _) rr1⟩
    · exact ⟨a, _, 1, v2, rfl, r2, st_of (mn_ex _ _ hv), rfl, q v2 H1 (Ex.refl _) rr2⟩
/-- [*a, *b], [*a, b] -/
theorem el_star {tt : TA} {x y : List α} (ha : ER K ps ta σ H x) (hb : EL K ps tt σ H y) : EL K ps (tStar K ta tt) σ H (x ++ y) := fun H1 e d Q q =>
  ha H1 e d _ fun v H2 e2 r => by
    obtain ⟨a, vs, rfl, hv, rs⟩ := r
    exact ⟨a, vs, rfl, .inr (sq_of (mn_ex _ _ hv)), hb H2 (e.trans e2) (d.mono e2) _ fun ws H3 e3 r3 => q _ H3 (e2.trans e3) ((rs.mono (mn_mono e3)).append r3)⟩
theorem el_starP {tt : TA} {x : Tp α} {y : List α} (ha : ER K ps ta σ H x) (hb : EL K ps tt σ H y) : EL K ps (tStar K ta tt) σ H (x.l ++ y) := fun H1 e d Q q =>
  ha H1 e d _ fun v H2 e2 r => by
    obtain ⟨a, vs, rfl, hv, rs⟩ := r
    exact ⟨a, vs, rfl, .inl (st_of (mn_ex _ _ hv)), hb H2 (e.trans e2) (d.mono e2) _ fun ws H3 e3 r3 => q _ H3 (e2.trans e3) ((rs.mono (mn_mono e3)).append r3)⟩
/-- t[lo:hi] -/
theorem cut_all {l : List α} {lo hi : Option Int} (h1 : HT.sIx l.length 0 lo = 0) (h2 : HT.sIx l.length l.length hi = l.length) : cut l lo hi = l := by
  unfold cut
  rw [h1, h2]; simp
theorem er_slPA {l : Tp α} {tl th : TO} {lo hi : Option Int} (ha : ER K ps te σ H l) (hl : EO K ps tl σ H lo) (hh : EO K ps th σ H hi) : ER K ps (tSl (rSlA K) te tl th) σ H (⟨cut l.l lo hi⟩ : Tp α) := fun H1 e d Q q =>
  ha H1 e d _ fun v H2 e2 r2 => hl H2 (e.trans e2) (d.mono e2) _ fun H3 e3 => hh H3 ((e.trans e2).trans e3) (d.mono (e2.trans e3)) _ fun H4 e4 => by
    have r2' := (Rep.mono (mn_mono (e3.trans e4)) r2 : rep K (mn H4 ps) v l)
    obtain ⟨a, vs, rfl, hv, r⟩ := id r2'
    refine ⟨a, vs, rfl, st_of (mn_ex _ _ hv), fun h => ?_, fun _ p hp => q _ _ (((e2.trans e3).trans e4).trans (Ex.new hp)) (new_tp (d.mono ((e2.trans e3).trans e4)) hp (cut_rep r lo hi))⟩
    rw [r.length] at h
    rw [cut_all h.1 h.2] at q
    exact q _ H4 ((e2.trans e3).trans e4) r2'
theorem ksl_tupA {X : L2.Cx} (K : PySem.W.Frag) (hK : X.K = K) : SlR X (rSlA K) := by subst hK; exact sl_tupA
/-- tuple(range(n)) -/
theorem reps_rng (n : Int) : rgV 0 n = (rng n).map V.int := by
  unfold rgV rng
  rw [List.map_map, Int.sub_zero]
  exact List.map_congr_left fun i _ => by
    show V.int (0 + (i : Int)) = V.int (i : Int)
    rw [Int.zero_add]
theorem er_tupRng {n : Int} (ha : ER K ps te σ H n) (hn : rB n) : ER K ps (tTupRg (tRg1 te)) σ H (⟨rng n⟩ : Tp Int) := fun H1 e d Q q =>
  ha H1 e d _ fun v H2 e2 r => by
    obtain ⟨h1, h2⟩ := hn
    refine ⟨n, r, ⟨by decide, by decide, by omega, by omega, by omega⟩, fun p hp => ?_⟩
    rw [reps_rng]
    exact q _ _ (e2.trans (Ex.new hp)) (new_tp (d.mono e2) hp reps_of_int)
theorem kpi_enum {X : L2.Cx} (K : PySem.W.Frag) (hK : X.K = K) {e : Expr} {ta : TA} {p pos tpos : Pos} {elts : List Expr} {kk : Nat} (hg : Gl X "enumerate") (hm : X.mg "enumerate" = none) (ha : PA X [e] ta) (hs : starEach [e] X.env = [(false, eval e X.env)] := by rfl) :
    PI X (.Tuple elts kk tpos) (.Call (.Name "enumerate" p) [e] [] pos) (iEnum K ta) := by subst hK; exact pi_enum hg hm ha hs
theorem kpa_star {X : L2.Cx} (K : PySem.W.Frag) (hK : X.K = K) {e : Expr} {es : List Expr} {te : TE} {t : TA} {p : Pos} (he : PE X e te) (hr : PA X es t) (hs : starEach (.Starred e p :: es) X.env = (true, eval e X.env) :: starEach es X.env := by rfl) : PA X (.Starred e p :: es) (tStar K te t) := by subst hK; exact pa_star he hr hs
/-- truth -/
def tTru (K : PySem.W.Frag) (ta : TE) : TT := fun σ H Q => ta σ H fun v G => ∃ yes : Bool, TruV K v G yes ∧ Q yes G
theorem kpt_tru {X : L2.Cx} (K : PySem.W.Frag) (hK : X.K = K) {a : Expr} {ta : TE} (ha : PE X a ta) (he : ∀ whole, isTrue a X.env whole = (do let v ← whole; standAt a.pos; holding [v] (truthy v))) : PT X a (tTru K ta) := by subst hK; exact pt_truth ha he
theorem et_truL {l : List α} (ha : ER K ps ta σ H l) : ET ps (tTru K ta) σ H (!l.isEmpty) := fun H1 e d Q q =>
  ha H1 e d _ fun v H2 e2 r => by
    obtain ⟨a, vs, rfl, hv, rs⟩ := r
    refine ⟨_, .inl ⟨vs, sq_of (mn_ex _ _ hv), rfl⟩, ?_⟩
    have : vs.isEmpty = l.isEmpty := by rw [Bool.eq_iff_iff, List.isEmpty_iff_length_eq_zero, List.isEmpty_iff_length_eq_zero, rs.length]
    rw [this]; exact q H2 e2
theorem et_truP {l : Tp α} (ha : ER K ps ta σ H l) : ET ps (tTru K ta) σ H (!l.l.isEmpty) := fun H1 e d Q q =>
  ha H1 e d _ fun v H2 e2 r => by
    obtain ⟨a, vs, rfl, hv, rs⟩ := r
    refine ⟨_, .inr (.inl ⟨vs, st_of (mn_ex _ _ hv), rfl⟩), ?_⟩
    have : vs.isEmpty = l.l.isEmpty := by rw [Bool.eq_iff_iff, List.isEmpty_iff_length_eq_zero, List.isEmpty_iff_length_eq_zero, rs.length]
    rw [this]; exact q H2 e2
def max2 (i j : Int) : Int := if j > i then j else i
theorem cb_max2 {X : L2.Cx} (hc : X.calm = true) : CallR X (.builtin "max") rMax2 := call_max2 hc
theorem er_max2 {i j : Int} (ha : ER K ps ta σ H i) (hb : ER K ps tb σ H j) : ER K ps (tCB rMax2 (tCons ta (tCons tb tNil))) σ H (max2 i j) :=
  er_cb2 ha hb fun v w H1 _ r1 r2 Q q => ⟨i, j, by rw [show v = .int i from r1, show w = .int j from r2], q _ H1 (Ex.refl _) rfl⟩
/-- for i, x in enumerate(..) -/
def enm (l : List α) : List (T (Int × α × Unit)) := l.zipIdx.map fun p => ⟨((p.2 : Int), p.1, ())⟩
theorem enm_len (l : List α) : (enm l).length = l.length := by unfold enm; rw [List.length_map, List.length_zipIdx]
theorem ei_enum {l : List α} (h : ER K ps te σ H l) : EI K ps (iEnum K (tCons te tNil)) σ H (enm l) := fun H1 e d R q =>
  h H1 e d _ fun v H2 e2 r => by
    obtain ⟨a, vs, rfl, hv, rs⟩ := r
    refine ⟨a, vs, rfl, sq_of (mn_ex _ _ hv), q _ H2 e2 ?_⟩
    rw [enm_len, ← rs.length]
    refine (walk_enum (K := K) (a := a) (xs := vs)).mono (fun H' g => sq_of (g _ _ hv)) fun i H' x H'' hi g y => ?_
    obtain ⟨T0, u1, u2, rfl, hT, rfl, h1, h2⟩ := y
    cases h1
    obtain ⟨z, hz, rz⟩ := rs.get h2
    refine ⟨Ex.new hT, ⟨((i : Int), z, ())⟩, ?_, fun ps' dp ep => ?_⟩
    · unfold enm
      rw [List.getElem?_map, List.getElem?_zipIdx, hz]
      simp
    · have rz2 := Rep.mono (ep.trans (mn_mono (Ex.new hT (o := .tup [.int (i : Nat), u2])))) rz
      exact ⟨T0, _, rfl, mn_at upd_same (dp.notin hT), .int (i : Nat), _, rfl, rfl, u2, _, rfl, rz2, rfl⟩
/-! ### lists of lists that are changed -/
/-- the outer list at slot i (the inner ones: rows) -/
abbrev rout {α : Type} (i : Nat) (p : Addr) (qs : List Addr) (ls : List (List α)) : Od := ⟨i, p, fun _ _ o => o = .lst (qs.map V.ref) ∧ qs.length = ls.length, fun _ h => h⟩
def rows {α : Type} [Rep α] : List Addr → List (List α) → List Od
  | q :: qs, l :: ls => od 1000 q l :: rows qs ls
  | _, _ => []
theorem rows_p : ∀ {qs : List Addr} {ls : List (List α)}, qs.length = ls.length → (rows qs ls).map Od.p = qs
  | [], [], _ => rfl
  | [], _ :: _, h => by cases h
  | q :: qs, [], h => by cases h
  | q :: qs, l :: ls, h => by rw [rows, List.map_cons, rows_p (by simpa using h)]
theorem rows_i : ∀ {qs : List Addr} {ls : List (List α)} {o : Od}, o ∈ rows qs ls → o.i = 1000
  | [], [], _, h => by cases h
  | [], _ :: _, _, h => by cases h
  | q :: qs, [], _, h => by cases h
  | q :: qs, l :: ls, o, h => by
    rw [rows] at h
    obtain z | z := List.mem_cons.mp h
    · rw [z]
    · exact rows_i z
theorem rows_at : ∀ {qs : List Addr} {ls : List (List α)} {n : Nat} {q : Addr} {l : List α}, qs[n]? = some q → ls[n]? = some l → ∃ A B, rows qs ls = A ++ od 1000 q l :: B ∧ ∀ l', rows qs (ls.set n l') = A ++ od 1000 q l' :: B
  | [], _, _, _, _, h, _ => nomatch h
  | _ :: _, [], _, _, _, _, h => nomatch h
  | q :: qs, l :: ls, 0, q', l', h1, h2 => by
    cases h1; cases h2
    exact ⟨[], rows qs ls, rfl, fun l' => rfl⟩
  | q :: qs, l :: ls, n + 1, q', l', h1, h2 => by
    obtain ⟨A, B, e1, e2⟩ := rows_at (qs := qs) (ls := ls) (n := n) (by simpa using h1) (by simpa using h2)
    exact ⟨od 1000 q l :: A, B, by rw [rows, e1]; rfl, fun l'' => by rw [List.set_cons_succ, rows, e2]; rfl⟩
theorem noO_rows {i j : Nat} {p : Addr} {qs : List Addr} {ls : List (List α)} {O : List Od} (n : j ≠ i ∧ i < 1000) (r : NoO i O) : NoO i (rout j p qs ls :: (rows qs ls ++ O)) := fun c q => by
  obtain e | e := List.mem_cons.mp q
  · rw [e]; exact n.1
  · obtain e | e := List.mem_append.mp e
    · rw [rows_i e]; omega
    · exact r c e
/-- users = [[] for .. in ..] -/
theorem d_newRows (α : Type) [Rep α] {γ : Type} [Rep γ] {i j : Nat} {wi : TI} {vs : List Nat} {items : List γ} {f : List (List α) → Ctl S B R} {ok : List (List α) → Prop} (st : Stt K N H0 ps0 Hb σ H O L) (hw : EI K (psO O ps0) wi σ H items) (hz : items.length ≤ 100000) (hj : j ∈ vs) (hok : okLet (items.map fun _ => ([] : List α)) ok) (hi : i < N) (hN : N ≤ 1000) (hO : NoO i O) (hL : SubN i L' L)
    (k : ∀ y p qs σ1 H1, y = (items.map fun _ => ([] : List α)) → ok y → Stt K N H0 ps0 Hb σ1 H1 (rout i p qs y :: (rows qs y ++ O)) L' → Does u σ1 H1 (f y) SR BR RR) :
    Does (tSeq (tAsg (tLc wi (gName j) tYes (tLst tNil) vs) (gName i)) u) σ H (vLet (items.map fun _ => ([] : List α)) f) SR BR RR := fun D0 h1 h2 h3 h4 => by
  refine hw H (Ex.refl _) st.dm _ fun J H2 e2 w D hD => ?_
  have st2 := st.to e2
  have d2 := st2.dm
  have eD : Ex H2 (upd H2 D (.lst [])) := Ex.new hD
  let Pv : Nat → Hp → Prop := fun i H' => ∃ qs : List Addr, qs.length = i ∧ H' D = some (.lst (qs.map V.ref)) ∧ (∀ a o, a ≠ D → H2 a = some o → H' a = some o) ∧ qs.Nodup ∧ ∀ q ∈ qs, q ≠ D ∧ H2 q = none ∧ H' q = some (.lst [])
  have frm : ∀ H', (∀ a o, a ≠ D → H2 a = some o → H' a = some o) → Ex (mn H2 (psO O ps0)) H' := fun H' h a o ha => h a o (fun z => by have := mn_ex _ _ ha; rw [z, hD] at this; cases this) (mn_ex _ _ ha)
  refine lc_it w (D := D) (vs := vs) (σ := σ) Pv ⟨[], rfl, upd_same, fun a o ha ho => by rw [upd_ne ha]; exact ho, List.nodup_nil, fun q hq => nomatch hq⟩ (fun i H' _ pv => ?_) (fun i v H' H'' hi pv y => ?_) (fun H' pv => ?_)
  · obtain ⟨qs, _, _, h3, _⟩ := pv
    exact frm _ h3
  · obtain ⟨qs, l1, g1, g2, g3, g4⟩ := pv
    obtain ⟨ey, x, hx, rx⟩ := y
    show wipe ((wipe σ vs).set j (some v)) vs = wipe σ vs ∧ _
    refine ⟨by rw [wipe_set hj, wipe_wipe], ⟨Nat.zero_le _, fun q hq => ?_⟩⟩
    have hqD : q ≠ D := fun z => by have := ey _ _ g1; rw [z, this] at hq; cases hq
    have hl : i < items.length := by
      have := (List.getElem?_eq_some_iff.mp hx).1
      exact this
    refine ⟨qs.map V.ref, by rw [upd_ne hqD.symm]; exact ey _ _ g1, sz_lt (by rw [List.length_map, l1]; omega), qs ++ [q], by rw [List.length_append, l1]; rfl, by rw [upd_same, List.map_append]; rfl, fun a o ha ho => ?_, ?_, fun a ha => ?_⟩
    · rw [upd_ne ha]
      have h' := ey _ _ (g2 a o ha ho)
      rw [upd_ne (fun z => by rw [z] at h'; rw [h'] at hq; cases hq)]
      exact h'
    · rw [List.nodup_append]
      refine ⟨g3, by simp, fun a ha b hb z => ?_⟩
      rw [List.mem_singleton] at hb
      have h' := ey _ _ (g4 a ha).2.2
      rw [z, hb, hq] at h'
      cases h'
    · obtain z | z := List.mem_append.mp ha
      · obtain ⟨n1, n2, n3⟩ := g4 a z
        have h' := ey _ _ n3
        refine ⟨n1, n2, ?_⟩
        rw [upd_ne n1, upd_ne (fun z => by rw [z] at h'; rw [h'] at hq; cases hq)]
        exact h'
      · rw [List.mem_singleton] at z
        subst z
        refine ⟨hqD, ?_, by rw [upd_ne hqD, upd_same]⟩
        cases q1 : H2 a with
        | none => rfl
        | some o =>
          have := ey _ _ (g2 a o hqD q1)
          rw [this] at hq; cases hq
  · obtain ⟨qs, l1, g1, g2, g3, g4⟩ := pv
    have exH : Ex H2 H' := fun a o ho => g2 a o (fun z => by rw [z, hD] at ho; cases ho) ho
    have hl : qs.length = (items.map fun _ => ([] : List α)).length := by rw [List.length_map]; exact l1
    have hfb : ∀ q, H2 q = none → H0 q = none ∧ Hb q = none := fun q hq => ⟨fresh_back st2.ex hq, fresh_back (st2.bs.trans mn_ex) hq⟩
    have st3 := st2.slot (i := i) (v := .ref D) hO hL
    let ls : List (List α) := items.map fun _ => ([] : List α)
    have hmap : (rout i D qs ls :: (rows qs ls ++ O)).map Od.p = D :: (qs ++ O.map Od.p) := by rw [List.map_cons, List.map_append, rows_p hl]
    have hpsq : psO (rout i D qs ls :: (rows qs ls ++ O)) ps0 = D :: (qs ++ psO O ps0) := by unfold psO; rw [hmap, List.cons_append, List.append_assoc]
    have le : Ex (mn H2 (psO O ps0)) (mn H' (psO (rout i D qs ls :: (rows qs ls ++ O)) ps0)) := fun a o ha => by
      rw [hpsq]
      have h0 := mn_ex _ _ ha
      refine mn_at (exH _ _ h0) fun q => ?_
      obtain q | q := List.mem_cons.mp q
      · rw [q, hD] at h0; cases h0
      · obtain q | q := List.mem_append.mp q
        · rw [(g4 a q).2.1] at h0; cases h0
        · exact mn_notin ha q
    refine k ls D qs (σ.set i (some (.ref D))) H' rfl hok ⟨st3.len, st3.ex.trans exH, st3.d0, st3.bs.trans le, fun b hb => ?_, fun o ho => ?_, ?_⟩ D0 h1 h2 h3 h4
    · obtain ⟨w, a, r'⟩ := st3.kn b hb
      exact ⟨w, a, @Rep.mono _ b.R _ _ _ _ _ le r'⟩
    · obtain q | q := List.mem_cons.mp ho
      · subst q
        exact ⟨fun _ => by rw [List.getElem?_set_self (by rw [st.len]; exact hi)], (hfb _ hD).1, (hfb _ hD).2, _, g1, rfl, hl⟩
      · obtain q | q := List.mem_append.mp q
        · have hq : o.p ∈ qs := by
            have := List.mem_map_of_mem (f := Od.p) q
            rwa [rows_p hl] at this
          obtain ⟨n1, n2, n3⟩ := g4 _ hq
          refine ⟨fun z => absurd z (by rw [rows_i q]; omega), (hfb _ n2).1, (hfb _ n2).2, _, n3, ?_⟩
          have hc : ∀ {qs : List Addr} {xs : List γ} {o : Od}, o ∈ rows qs (xs.map fun _ => ([] : List α)) → o.ct = (od 1000 o.p ([] : List α)).ct := by
            intro qs
            induction qs with
            | nil => intro xs o h; cases xs <;> cases h
            | cons q qs ih =>
              intro xs o h
              cases xs with
              | nil => cases h
              | cons x xs =>
                rw [List.map_cons, rows] at h
                obtain z | z := List.mem_cons.mp h
                · rw [z]
                · exact ih z
          rw [hc q]
          exact ⟨[], rfl, .nil⟩
        · obtain ⟨b1, b2, b3, c, b4, b5⟩ := st3.ow o q
          exact ⟨b1, b2, b3, c, exH _ _ b4, o.mono le b5⟩
    · rw [hmap, List.nodup_cons, List.nodup_append]
      have no : ∀ q, H2 q = none → q ∉ O.map Od.p := fun q hq hm => by
        obtain ⟨o1, ho, e1⟩ := List.mem_map.mp hm
        obtain ⟨_, _, _, ws, b4, _⟩ := st2.ow o1 ho
        rw [e1, hq] at b4
        cases b4
      refine ⟨fun z => ?_, g3, st.nd, fun a ha b hb z => no a (g4 a ha).2.1 (by rw [z]; exact hb)⟩
      obtain z | z := List.mem_append.mp z
      · exact (g4 D z).1 rfl
      · exact no D hD z
/-- users[j].append(e) -/
def rowApp {α : Type} (ls : List (List α)) (j : Int) (x : α) : List (List α) := setD ls j (ixD ls j ++ [x])
theorem d_rowApp {i : Nat} {p : Addr} {qs : List Addr} {ls : List (List α)} {j : Int} {x : α} {ti : TE} {f : List (List α) → Ctl S B R} {ok : List (List α) → Prop} (st : Stt K N H0 ps0 Hb σ H (rout i p qs ls :: (rows qs ls ++ O)) L) (hj : ER K (psO (rout i p qs ls :: (rows qs ls ++ O)) ps0) ti σ H j) (he : ER K (psO (rout i p qs ls :: (rows qs ls ++ O)) ps0) te σ H x) (hb : inB ls j) (hz : (ixD ls j).length < 100000) (hok : okLet (rowApp ls j x) ok)
    (k : ∀ y H1, y = rowApp ls j x → ok y → Stt K N H0 ps0 Hb σ H1 (rout i p qs y :: (rows qs y ++ O)) L → Does u σ H1 (f y) SR BR RR) (hi : i < N := by decide) :
    Does (tSeq (tDrop (tBM K "list" rAppend (tOp (rIxL K) (tVar i) ti) (tCons te tNil))) u) σ H (vLet (rowApp ls j x) f) SR BR RR := fun D h1 h2 h3 h4 => by
  obtain ⟨a1, a2, a3, c, a4, rfl, hl⟩ := st.ow _ List.mem_cons_self
  refine ⟨.ref p, a1 hi, hj H (Ex.refl _) st.dm _ fun w H1 e r => ?_⟩
  cases (show w = .int j from r)
  obtain ⟨n, hn, hlt⟩ := inB_some hb
  have hq : ∃ q, qs[n]? = some q := ⟨qs[n]'(by omega), by simp [show n < qs.length by omega]⟩
  obtain ⟨q, hq⟩ := hq
  have hls : ls[n]? = some (ls[n]) := by simp [hlt]
  have hix : ixD ls j = ls[n] := by unfold ixD atI; rw [hn]; simp [hlt]
  obtain ⟨A, B', e1, e2⟩ := rows_at hq hls
  refine ⟨p, qs.map V.ref, j, .ref q, rfl, rfl, sq_of (e _ _ a4), by unfold atI; rw [List.length_map, hl, hn]; show (qs.map V.ref)[n]? = _; rw [List.getElem?_map, hq]; rfl, ?_⟩
  have hmem : od 1000 q ls[n] ∈ (rout i p qs ls :: (rows qs ls ++ O)) := List.mem_cons_of_mem _ (List.mem_append_left _ (by rw [e1]; simp))
  have st1 := st.to e
  obtain ⟨_, _, _, c1, b4, vs, rfl, b5⟩ := st1.ow _ hmem
  refine ⟨.inl ⟨rfl, vs, sq_of b4⟩, he H1 e st1.dm _ fun v H2 e' r2 => ?_⟩
  have st2 := st1.to e'
  refine ⟨q, vs, v, rfl, rfl, e' _ _ b4, sz_lt (by rw [b5.length, ← hix]; exact hz), ?_⟩
  have hperm : (od 1000 q ls[n] :: rout i p qs ls :: (A ++ B' ++ O)).Perm (rout i p qs ls :: (rows qs ls ++ O)) := by
    rw [e1]
    refine (List.Perm.swap _ _ _).trans (List.Perm.cons _ ?_)
    simp only [List.append_assoc]
    exact List.perm_middle.symm
  have hnew : rowApp ls j x = ls.set n (ls[n] ++ [x]) := by unfold rowApp setD; rw [hix, hn]; rfl
  have hperm2 : (rout i p qs (ls.set n (ls[n] ++ [x])) :: (rows qs (ls.set n (ls[n] ++ [x])) ++ O)).Perm (od 1000 q (ls[n] ++ [x]) :: rout i p qs (ls.set n (ls[n] ++ [x])) :: (A ++ B' ++ O)) := by
    rw [e2]
    refine List.Perm.symm ((List.Perm.swap _ _ _).trans (List.Perm.cons _ ?_))
    simp only [List.append_assoc]
    exact List.perm_middle.symm
  have st3 := st2.perm hperm
  have b6 : Reps K (mn H2 (psO (od 1000 q ls[n] :: rout i p qs ls :: (A ++ B' ++ O)) ps0)) vs ls[n] := by
    have : mn H2 (psO (od 1000 q ls[n] :: rout i p qs ls :: (A ++ B' ++ O)) ps0) = mn H2 (psO (rout i p qs ls :: (rows qs ls ++ O)) ps0) := mn_perm fun a => by
      unfold psO
      rw [List.mem_append, List.mem_append, (hperm.map Od.p).mem_iff]
    rw [this]
    exact b5.mono (mn_mono e')
  have r3 : rep K (mn H2 (psO (od 1000 q ls[n] :: rout i p qs ls :: (A ++ B' ++ O)) ps0)) v x := by
    have : mn H2 (psO (od 1000 q ls[n] :: rout i p qs ls :: (A ++ B' ++ O)) ps0) = mn H2 (psO (rout i p qs ls :: (rows qs ls ++ O)) ps0) := mn_perm fun a => by
      unfold psO
      rw [List.mem_append, List.mem_append, (hperm.map Od.p).mem_iff]
    rw [this]
    exact r2
  have st4 := st3.put (b6.append (.cons r3 .nil))
  have st5 := (st4.perm (List.Perm.swap _ _ _)).wk (o' := rout i p qs (ls.set n (ls[n] ++ [x]))) rfl rfl (fun H c h => ⟨h.1, by rw [List.length_set]; exact h.2⟩)
  have st6 := (st5.perm (List.Perm.swap _ _ _)).perm hperm2
  exact k (rowApp ls j x) _ rfl hok (by rw [hnew]; exact st6) D h1 h2 h3 h4
/-- ownership ends -/
theorem Stt.frzR {i : Nat} {p : Addr} {qs : List Addr} {ls : List (List α)} (st : Stt K N H0 ps0 Hb σ H (rout i p qs ls :: (rows qs ls ++ O)) L) (hi : i < N := by decide) : Stt K N H0 ps0 Hb σ H O (bd i ls :: L) := by
  obtain ⟨a1, a2, a3, c, a4, rfl, hl⟩ := st.ow _ List.mem_cons_self
  have hsub : ∀ a ∈ psO O ps0, a ∈ psO (rout i p qs ls :: (rows qs ls ++ O)) ps0 := fun a ha => by
    unfold psO at ha ⊢
    rw [List.map_cons, List.map_append]
    obtain z | z := List.mem_append.mp ha
    · exact List.mem_append_left _ (List.mem_cons_of_mem _ (List.mem_append_right _ z))
    · exact List.mem_append_right _ z
  have hle : Ex (mn H (psO (rout i p qs ls :: (rows qs ls ++ O)) ps0)) (mn H (psO O ps0)) := mn_le hsub
  have nd := st.nd
  rw [List.map_cons, List.map_append, List.nodup_cons, List.nodup_append, rows_p hl] at nd
  obtain ⟨n1, n2, n3, n4⟩ := nd
  have out : ∀ q, H0 q = none → q ∉ O.map Od.p → q ∉ psO O ps0 := fun q h1 h2 hm => by
    obtain z | z := List.mem_append.mp hm
    · exact h2 z
    · exact st.d0 q z h1
  refine ⟨st.len, st.ex, st.d0, st.bs.trans hle, fun b hb => ?_, fun o ho => ?_, n3⟩
  · obtain q | q := List.mem_cons.mp hb
    · subst q
      refine ⟨.ref p, a1 hi, p, _, rfl, mn_at a4 (out p a2 fun z => n1 (List.mem_append_right _ z)), ?_⟩
      have own : ∀ o ∈ rows qs ls, H0 o.p = none ∧ (o.p ∉ O.map Od.p) ∧ ∃ c, H o.p = some c ∧ o.ct K (mn H (psO O ps0)) c := fun o ho => by
        obtain ⟨_, b2, _, c, b4, b5⟩ := st.ow o (List.mem_cons_of_mem _ (List.mem_append_left _ ho))
        refine ⟨b2, fun z => ?_, c, b4, o.mono hle b5⟩
        have := List.mem_map_of_mem (f := Od.p) ho
        rw [rows_p hl] at this
        exact n4 _ this _ z rfl
      clear n1 n2 n3 n4 a4 hle hsub st a1 a2 a3 hb
      induction qs generalizing ls with
      | nil =>
        cases ls with
        | nil => exact .nil
        | cons l ls => cases hl
      | cons q qs ih =>
        cases ls with
        | nil => cases hl
        | cons l ls =>
          rw [rows] at own
          obtain ⟨b2, b3, c, b4, vs, rfl, b5⟩ := own _ List.mem_cons_self
          exact .cons ⟨q, vs, rfl, mn_at b4 (out q b2 b3), b5⟩ (ih (ls := ls) (by simpa using hl) fun o ho => own o (List.mem_cons_of_mem _ ho))
    · obtain ⟨w, a, r'⟩ := st.kn b q
      exact ⟨w, a, @Rep.mono _ b.R _ _ _ _ _ hle r'⟩
  · obtain ⟨h1, h2, h3, ws, h4, h5⟩ := st.ow o (List.mem_cons_of_mem _ (List.mem_append_right _ ho))
    exact ⟨h1, h2, h3, ws, h4, o.mono hle h5⟩
end
end Cx

/-! CxTri: what is asked of a control tree, and how it ends, together. -/
namespace Cx
open PySem L2 Evl
/-- what is asked holds, and the tree ends as said -/
def Tri {S B R : Type} (c : Ctl S B R) (ok : Prop) (P : S → Prop) (PB PC : B → Prop) (PR : R → Prop) : Prop :=
  ok ∧ match c with | .nx s => P s | .bk b => PB b | .ct b => PC b | .rt r => PR r
section
variable {S B R α : Type} {c : Ctl S B R} {ok p q : Prop} {P P' : S → Prop} {PB PC : B → Prop} {PR : R → Prop}
theorem tri_let {x : α} {f : α → Ctl S B R} {okf : α → Prop} (h : Tri (f x) (okf x) P PB PC PR) : Tri (vLet x f) (okLet x okf) P PB PC PR := h
theorem tri_letP {x : α} {f : α → Ctl S B R} {okf : α → Prop} (Q : α → Prop) (hx : Q x) (h : ∀ y, Q y → Tri (f y) (okf y) P PB PC PR) : Tri (vLet x f) (okLet x okf) P PB PC PR := h x hx
theorem tri_and (hp : p) (h : Tri c ok P PB PC PR) : Tri c (p ∧ ok) P PB PC PR := ⟨⟨hp, h.1⟩, h.2⟩
theorem tri_andF (hp : p) (h : p → Tri c ok P PB PC PR) : Tri c (p ∧ ok) P PB PC PR := ⟨⟨hp, (h hp).1⟩, (h hp).2⟩
theorem tri_nx {s : S} (h : P s) : Tri (.nx s : Ctl S B R) True P PB PC PR := ⟨trivial, h⟩
theorem tri_bk {s : B} (h : PB s) : Tri (.bk s : Ctl S B R) True P PB PC PR := ⟨trivial, h⟩
theorem tri_ct {s : B} (h : PC s) : Tri (.ct s : Ctl S B R) True P PB PC PR := ⟨trivial, h⟩
theorem tri_rt {r : R} (h : ok ∧ PR r) : Tri (.rt r : Ctl S B R) ok P PB PC PR := h
theorem tri_if {b : Bool} {c1 c2 : Ctl S B R} (h1 : b = true → Tri c1 p P PB PC PR) (h2 : b = false → Tri c2 q P PB PC PR) : Tri (cIf b c1 c2) (okIf b p q) P PB PC PR := by
  cases b with
  | true => exact And.intro (And.intro (fun _ => (h1 rfl).1) (fun e => Bool.noConfusion e)) (h1 rfl).2
  | false => exact And.intro (And.intro (fun e => Bool.noConfusion e) (fun _ => (h2 rfl).1)) (h2 rfl).2
theorem tri_seq {S1 : Type} {c1 : Ctl S1 B R} {k : S1 → Ctl S B R} {qk : S1 → Prop} (Q : S1 → Prop) (h1 : Tri c1 p Q PB PC PR) (h2 : ∀ s, Q s → Tri (k s) (qk s) P PB PC PR) : Tri (cSeq c1 k) (okSeq p c1 qk) P PB PC PR := by
  obtain ⟨a, b⟩ := h1
  cases c1 with
  | nx s =>
    obtain ⟨x, y⟩ := h2 s b
    exact ⟨⟨a, fun s' e => by cases e; exact x⟩, y⟩
  | bk s => exact ⟨⟨a, fun s' e => by cases e⟩, b⟩
  | ct s => exact ⟨⟨a, fun s' e => by cases e⟩, b⟩
  | rt s => exact ⟨⟨a, fun s' e => by cases e⟩, b⟩
theorem tri_imp {PB' PC' : B → Prop} {PR' : R → Prop} (h : Tri c ok P PB PC PR) (h1 : ∀ s, P s → P' s) (h2 : ∀ s, PB s → PB' s) (h3 : ∀ s, PC s → PC' s) (h4 : ∀ r, PR r → PR' r) : Tri c ok P' PB' PC' PR' := by
  obtain ⟨a, b⟩ := h
  refine ⟨a, ?_⟩
  cases c with
  | nx s => exact h1 _ b
  | bk s => exact h2 _ b
  | ct s => exact h3 _ b
  | rt s => exact h4 _ b
/-- a loop: I by what is left of the items -/
theorem tri_forR {S' : Type} {f : α → S → Ctl S S R} {okf : α → S → Prop} {Q : S → Prop} (I : List α → S → Prop) : ∀ {items : List α} {s0 : S}, I items s0 →
    (∀ x r s, I (x :: r) s → Tri (f x s) (okf x s) (I r) Q (I r) PR) → (∀ s, I [] s → Q s) → forOk f okf items s0 ∧ match forL f items s0 with | .inl s => Q s | .inr r => PR r
  | [], s0, h0, _, he => ⟨trivial, he s0 h0⟩
  | x :: r, s0, h0, hs, he => by
    obtain ⟨a, b⟩ := hs x r s0 h0
    unfold forOk
    rw [forL_cons]
    cases e : f x s0 with
    | nx s =>
      rw [e] at b
      obtain ⟨y, z⟩ := tri_forR (S' := S') I b hs he
      exact ⟨⟨a, y⟩, z⟩
    | ct s =>
      rw [e] at b
      obtain ⟨y, z⟩ := tri_forR (S' := S') I b hs he
      exact ⟨⟨a, y⟩, z⟩
    | bk s => rw [e] at b; exact ⟨⟨a, trivial⟩, b⟩
    | rt s => rw [e] at b; exact ⟨⟨a, trivial⟩, b⟩
theorem tri_for {S' : Type} {P : S' → Prop} {f : α → S → Ctl S S R} {okf : α → S → Prop} {items : List α} {s0 : S} {k : S → Ctl S' B R} {qk : S → Prop} (I : List α → S → Prop) (Q : S → Prop) (h0 : I items s0)
    (hs : ∀ x r s, I (x :: r) s → Tri (f x s) (okf x s) (I r) Q (I r) PR) (he : ∀ s, I [] s → Q s) (hk : ∀ s, Q s → Tri (k s) (qk s) P PB PC PR) : Tri (forC items f s0 k) (okFor f okf items s0 qk) P PB PC PR := by
  obtain ⟨a, b⟩ := tri_forR (S' := S') (Q := Q) (PR := PR) I h0 hs he
  unfold forC okFor
  cases e : forL f items s0 with
  | inl s =>
    rw [e] at b
    obtain ⟨x, y⟩ := hk s b
    exact ⟨⟨a, fun s' e' => by cases e'; exact x⟩, y⟩
  | inr r =>
    rw [e] at b
    exact ⟨⟨a, fun s' e' => by cases e'⟩, b⟩
/-- for .. in range(n) -/
theorem tri_rng {S' : Type} {P : S' → Prop} {f : Int → S → Ctl S S R} {okf : Int → S → Prop} {n : Int} {s0 : S} {k : S → Ctl S' B R} {qk : S → Prop} (I : Int → S → Prop) (Q : S → Prop) (h0 : I 0 s0)
    (hs : ∀ i s, 0 ≤ i → i < n → I i s → Tri (f i s) (okf i s) (I (i + 1)) Q (I (i + 1)) PR) (he : ∀ s, (0 ≤ n → I n s) → (n < 0 → s = s0) → Q s) (hk : ∀ s, Q s → Tri (k s) (qk s) P PB PC PR) : Tri (forC (rng n) f s0 k) (okFor f okf (rng n) s0 qk) P PB PC PR := by
  refine tri_for (fun r s => ∃ i : Nat, i ≤ n.toNat ∧ r = (rng n).drop i ∧ I (i : Int) s ∧ (n < 0 → s = s0)) Q ⟨0, Nat.zero_le _, rfl, h0, fun _ => rfl⟩ (fun x r s h => ?_) (fun s h => ?_) hk
  · obtain ⟨i, hi, hr, hI, _⟩ := h
    have hlen : (rng n).length = n.toNat := rng_len n
    have hlt : i < n.toNat := by
      have := congrArg List.length hr
      rw [List.length_cons, List.length_drop, hlen] at this
      omega
    have hx : (rng n)[i]? = some x := by
      have := congrArg List.head? hr
      rw [List.head?_cons, List.head?_drop] at this
      exact this.symm
    have hr' : r = (rng n).drop (i + 1) := by
      have := congrArg List.tail hr
      rw [List.tail_cons, List.tail_drop] at this
      exact this
    obtain ⟨rfl, h2⟩ := rng_get hx
    refine tri_imp (hs (i : Int) s (by omega) h2 hI) (fun s h => ⟨i + 1, hlt, hr', by exact_mod_cast h, fun z => by omega⟩) (fun s h => h) (fun s h => ⟨i + 1, hlt, hr', by exact_mod_cast h, fun z => by omega⟩) fun r h => h
  · obtain ⟨i, hi, hr, hI, hn⟩ := h
    have : i = n.toNat := by
      have := congrArg List.length hr
      rw [List.length_nil, List.length_drop, rng_len] at this
      omega
    refine he s (fun h => ?_) hn
    rw [this, Int.toNat_of_nonneg h] at hI
    exact hI
/-- a while -/
theorem tri_wh {S' : Type} {P : S' → Prop} {b : S → Bool} {f : S → Ctl S S R} {okb okf : S → Prop} {n : Nat} {s0 : S} {k : S → Ctl S' B R} {qk : S → Prop} (I : Nat → S → Prop) (Q : S → Prop) (h0 : I n s0)
    (hb : ∀ m s, I m s → 0 < m ∧ okb s ∧ (b s = false → Q s)) (hs : ∀ m s, I (m + 1) s → b s = true → Tri (f s) (okf s) (I m) Q (I m) PR) (hk : ∀ s, Q s → Tri (k s) (qk s) P PB PC PR) : Tri (whC n b f s0 k) (okWh b f okb okf n s0 qk) P PB PC PR := by
  have key : ∀ m s, I m s → whOk b f okb okf m s ∧ match whL b f m s with | .inl s => Q s | .inr r => PR r := by
    intro m
    induction m with
    | zero => intro s h; exact absurd (hb 0 s h).1 (by omega)
    | succ m ih =>
      intro s h
      obtain ⟨_, h1, h2⟩ := hb _ s h
      unfold whOk whL
      cases e : b s with
      | false => exact ⟨⟨h1, fun z => by cases z⟩, h2 e⟩
      | true =>
        obtain ⟨a1, a2⟩ := hs m s h e
        cases e2 : f s with
        | nx s' => rw [e2] at a2; obtain ⟨y, z⟩ := ih s' a2; exact ⟨⟨h1, fun _ => ⟨a1, y⟩⟩, z⟩
        | ct s' => rw [e2] at a2; obtain ⟨y, z⟩ := ih s' a2; exact ⟨⟨h1, fun _ => ⟨a1, y⟩⟩, z⟩
        | bk s' => rw [e2] at a2; exact ⟨⟨h1, fun _ => ⟨a1, trivial⟩⟩, a2⟩
        | rt s' => rw [e2] at a2; exact ⟨⟨h1, fun _ => ⟨a1, trivial⟩⟩, a2⟩
  obtain ⟨a, c⟩ := key n s0 h0
  unfold whC okWh
  cases e : whL b f n s0 with
  | inl s =>
    rw [e] at c
    obtain ⟨x, y⟩ := hk s c
    exact ⟨⟨a, fun s' e' => by cases e'; exact x⟩, y⟩
  | inr r => rw [e] at c; exact ⟨⟨a, fun s' e' => by cases e'⟩, c⟩
end
/-- of a def -/
theorem tri_def {R : Type} [Inhabited R] {c : Ctl Empty Empty R} {ok : Prop} {PR : R → Prop} (h : Tri c ok (fun e : Empty => e.elim) (fun e : Empty => e.elim) (fun e : Empty => e.elim) PR) : ok ∧ PR (outC c) := by
  obtain ⟨a, b⟩ := h
  refine ⟨a, ?_⟩
  cases c with
  | nx s => exact s.elim
  | bk s => exact s.elim
  | ct s => exact s.elim
  | rt r => exact b
theorem tri_defN {S : Type} [Inhabited S] {c : Ctl S Empty Empty} {ok : Prop} {P : S → Prop} (h : Tri c ok P (fun e : Empty => e.elim) (fun e : Empty => e.elim) (fun e : Empty => e.elim)) : ok ∧ P (nxC c) := by
  obtain ⟨a, b⟩ := h
  refine ⟨a, ?_⟩
  cases c with
  | nx s => exact b
  | bk s => exact s.elim
  | ct s => exact s.elim
  | rt r => exact r.elim
theorem and_t {p q : Prop} (hp : p) (hq : q) : p ∧ q := ⟨hp, hq⟩
end Cx

/-! CxSrt: sorted of a tuple of ints. -/
namespace Cx
open PySem PySem.Spec PyProof.Rows
/-- sorted of a tuple of ints: its items are collected, then sorted as a list is -/
theorem sorted_intsTup {P : Program} {w : World} {A : Around} {E : Value → Shared → Prop} {s : Shared} {l : Addr} {vs : List Value} {ns : List Int} {Q : Value → Shared → Prop} (is : s.heap.IsTuple l vs.toArray) (num : IntsAre vs ns) (fits : vs.length ≤ sizeLine)
    (go : ∀ (g : Heap) (D : Addr) (out : Array Value) (e : Nat) (ys : List Int), (∀ b o, s.heap.get? b = some o → g.get? b = some o) → s.heap.get? D = none → g.get? D = some (seqObj "list" out e) → IntsAre out.toList ys → ys.Perm ns → ys.Pairwise (· ≤ ·) → Q (.ref D) { s with heap := g }) :
    wpAny (model P w) A (call (.builtin "sorted") [.ref l]) Q E s := by
  obtain ⟨o, here, cl, ep, dt⟩ := is
  apply Calls.call_function_entry kind_sorted plain_sorted entry_sorted (args_sorted1 (.ref l))
  unfold Builtin.«sorted»
  refine wpAny_bind (m := checkCount "sorted" 1 1 _) (wpAny_pure (wpAny_bind (PySem.wpAny_collect_seq l (.inr rfl) here cl dt (fun h1 old1 => wpAny_bind (wpAny_newList ?_)) (by simpa using fits))))
  have no1 : s.heap.get? h1.objs.size = none := by
    cases q : s.heap.get? h1.objs.size with
    | none => rfl
    | some o' => exact absurd (Heap.lt_size (old1 _ _ q)) (Nat.lt_irrefl _)
  have born : (h1.push (seqObj "list" vs.toArray 0)).get? h1.objs.size = some (seqObj "list" vs.toArray 0) := Heap.get?_push_size _ rfl
  refine wpAny_bind (wpAny_holding (wpAny_call_entry slot_list_sort ⟨_, born, rfl⟩ entry_list_sort (list_sort_treeAny born num fits fun out ys r perm up => ⟨_, rfl, wpAny_pure ⟨_, rfl, ?_⟩⟩) (args_list_sort _)))
  obtain ⟨e, there⟩ := sortedHeap_at (vs := vs) (out := out) born
  refine go _ _ out e ys (fun b o' at_ => ?_) no1 there r perm up
  have lt : b < h1.objs.size := Heap.lt_size (old1 b o' at_)
  rw [sortedHeap_old (Nat.ne_of_lt lt) (size_push' .. ▸ Nat.lt_succ_of_lt lt)]
  exact Heap.get?_push_of_some _ (old1 b o' at_)
open L2 Evl
open Rep (rep)
open RepA (repA)
section
variable {K : PySem.W.Frag} {N : Nat} {ps : List Addr} {σ : L2.St} {H H1 : Hp} {te ta tb : TE}
def rSortedIT (K : PySem.W.Frag) : List V → Hp → VK → Prop := fun vs H Q => ∃ (a : Addr) (xs : List Int), vs = [V.ref a] ∧ SqT K H a (xs.map V.int) ∧ xs.length ≤ sizeLine ∧ SortTo V.int xs (List.Pairwise (· ≤ ·)) H Q
theorem cr_sortedIT {X : L2.Cx} : CallR X (.builtin "sorted") (rSortedIT X.K) := fun ps s σ H vs us Q inv rel ⟨a, xs, e, src, fits, go⟩ => by
  subst e
  obtain ⟨its, items, is, _⟩ := inv.tuple src
  have len : its.length = xs.length := items.length.symm.trans (List.length_map _)
  rw [Vals.ref1 rel]
  refine sorted_intsTup is items.ints (by rw [len]; exact fits) fun g D out ep ys old new there r perm up => ?_
  refine ⟨.ref D, _, inv.laidN (t' := s.toks) (o := .lst (ys.map V.int)) old new (inv.hok.gone new) ⟨?_, _, ep, vals_of_ints r, there⟩, rfl, go ys D perm up (inv.hok.gone new)⟩
  rw [List.length_map, perm.length_eq]; exact fits
theorem kcr_sortedIT {X : L2.Cx} (K : PySem.W.Frag) (hK : X.K = K) : CallR X (.builtin "sorted") (rSortedIT K) := by subst hK; exact cr_sortedIT
theorem er_sortedIP {l : Tp Int} (ha : ER K ps te σ H l) (hz : l.l.length ≤ 100000) : ER K ps (tCB (rSortedIT K) (tCons te tNil)) σ H (srtI l.l) :=
  er_cb1 ha fun v H1 d r Q q => by
    obtain ⟨a, vs, rfl, hv, rs⟩ := r
    refine ⟨a, l.l, rfl, by rw [← reps_map_int rs]; exact st_of (mn_ex _ _ hv), by rw [sizeLine_eq]; omega, fun ys p hp hs hn => ?_⟩
    rw [srtI_of hp hs]
    exact q _ _ (Ex.new hn) (new_lst d hn reps_of_int)
end
end Cx

/-! CxExc: errors: raised in an __init__, caught by the one that called it. -/
namespace Cx
open PySem PySem.Spec PyProof.Rows L2 Evl
open Rep (rep)
open RepA (repA)
/-! ### making an object within a try -/
section
variable {X : L2.Cx} {CX : CXT} {k : Nat} {f C : Addr} {fd : FuncData} {ps : List Str} {sp : Sp} {E : L2.St → XK} {x m : Str} {p pos apos : Pos} {e o : Expr} {es : List Expr} {ta : TE} {t : TA}
theorem run_makeS {ps' : List (Addr × Obj)} {σ : L2.St} {H : Hp} {s : Shared} {Q : VK} {us : List Value} {vs : List V} (M : Mk X.K C f) (F : FnOk X.prog X.w X.K X.mg X.base CX k f fd ps sp) (room : Room (k + 1) X.A) (bind : Binds X.K fd ps []) (out : PassesAt CX X σ (E σ)) (I : Inv X ps' σ H s) (rel : Vals vs us)
    (said : ∀ x dx, H x = none → H dx = none → dx ≠ x → sp (.ref x :: vs) (upd (upd H dx (.own x)) x (.ins C dx [])) (fun v G => v = .non ∧ Q (.ref x) G) (E σ)) : wpAny (model X.prog X.w) X.A (call (.ref C) us) (EP X ps' σ Q) X.xe s := by
  let me : Nat := s.heap.objs.size + 1
  have J := I.made (C := C)
  have all : Vals (.ref me :: vs) (.ref me :: us) := .cons rfl rel
  have kept := said me s.heap.objs.size (I.hok.fresh (Nat.le_succ _)) (I.hok.fresh (Nat.le_refl _)) (by show s.heap.objs.size ≠ s.heap.objs.size + 1; omega)
  have many : (Value.ref me :: us).length = ps.length := all.length.symm.trans (F.len _ _ _ _ kept)
  have bound := bind _ _ J.kIn ((congrArg List.length (List.append_nil _)).trans many)
  rw [List.append_nil] at bound
  have body := F.run _ X.stack _ _ ⟨Value.ref me :: us, []⟩ (Value.ref me :: us) _ _ (E σ) (room.make C us []) (J.env0.make C us []) bound all kept
  refine wpAny_call (make_map (f := f) I.kIn M.makes M.init (beq_iff_eq.mp M.fn) (codeAny_mono body fun how t ends => ?_))
  match how, ends with
  | .error _, ends => exact out _ _ _ _ _ J ends
  | .ok (.ret _), ends =>
    obtain ⟨_, G, J', rel', rfl, goal⟩ := J.after ends
    exact ⟨rel', .ref me, G, J', rfl, goal⟩
def tMakeS (C : Addr) (sp : Sp) (E : L2.St → XK) (t : TA) : TE := fun σ H Q => t σ H fun vs H1 => ∀ x dx, H1 x = none → H1 dx = none → dx ≠ x → sp (.ref x :: vs) (upd (upd H1 dx (.own x)) x (.ins C dx [])) (fun v H2 => v = .non ∧ Q (.ref x) H2) (E σ)
/-- f(e, ..), none of them starred -/
abbrev Plain (X : L2.Cx) (e : Expr) (es : List Expr) (pos : Pos) : Prop := starEach (e :: es) X.env = (false, eval e X.env) :: starEach es X.env ∧ (backTo pos (starEach es X.env)).any (·.1) = false
theorem pe_makeS (M : Mk X.K C f) (F : FnOk X.prog X.w X.K X.mg X.base CX k f fd ps sp) (hr : Room (k + 1) X.A) (hg : Gl X x) (hm : X.mg x = some (.ref C)) (hb : Binds X.K fd ps []) (hx : ∀ σ, PassesAt CX X σ (E σ)) (ha : PA X (e :: es) t)
    (named : (x == ("__debug__" : Str)) = false := by decide) (plain : Plain X e es pos := by exact ⟨rfl, rfl⟩) : PE X (.Call (.Name x p) (e :: es) [] pos) (tMakeS C sp E t) := ⟨fun ps' s σ H Q inv asked => by
  refine wpAny_Call_Name_kw (ld_glob inv hg hm (PySem.W.callWith_K (h₀ := X.base) inv.ok.mod.kin M.kp (thn (ha.run pos ps' s σ H _ inv asked) ?_) plain.1 plain.2) named)
  rintro us s1 ⟨vs, H1, J, rel, goal⟩
  exact ⟨J.kIn, run_makeS M F hr hb (hx σ) J rel goal⟩⟩
/-- a suite that is run for one class only -/
theorem pss_guard {b : List Stmt} {P : Prop} {t : TS} (h : P → PSs X b t) : PSs X b (fun D σ H => P ∧ t D σ H) := ⟨fun pins s σ H D I hh => (h hh.1).run pins s σ H D I hh.2⟩
end
section
variable {K : PySem.W.Frag} {N : Nat} {H0 Hb : Hp} {ps0 ps : List Addr} {σ : L2.St} {H H1 : Hp} {O : List Od} {L L' : List Bd} {α β γ : Type} [Rep α] [Rep β] [Rep γ]
variable {S B R : Type} {c : Ctl S B R} {SR : S → L2.St → Hp → Prop} {BR : B → L2.St → Hp → Prop} {RR : R → V → Hp → Prop} {t u : TS} {te ta tb : TE} {C CE : Addr}
/-- raise -/
theorem d_raise {W : Value → Option Addr → L2.St → Hp → Prop} (h : W (.ref CE) none σ H) : Does (fun _ σ H => W (.ref CE) none σ H) σ H c SR BR RR := fun D _ _ _ _ => h
/-- __init__ that may raise an error of the class at CE, for the data that bad tells -/
def spIX {A B : Type} [RepA A] (K : PySem.W.Frag) (C CE : Addr) (Fs : B → List Fd) (m : A → Ctl B Empty Unit) (ok : Prop → A → Prop) : Sp := fun vs H Q E => ∃ (ps : List Addr) (x : A) (p : Addr) (us : List V), vs = .ref p :: us ∧ Dm H ps ∧ p ∉ ps ∧ (∃ dx, H p = some (.ins C dx [])) ∧ repA K (mn H (p :: ps)) us x ∧
  ((∃ s, m x = .nx s ∧ ok False x ∧ ∀ H', Ex (mn H [p]) (mn H' [p]) → (∃ dx fs, H' p = some (.ins C dx fs) ∧ FRep K (mn H' (p :: ps)) fs (Fs s)) → Q .non H') ∨ (m x = .rt () ∧ ok True x ∧ ∀ H', Ex (mn H [p]) H' → E (.ref CE) none H'))
theorem fn_goIX {B : Type} {p : Addr} {Fs : B → List Fd} {Q : VK} {E : XK} {c : Ctl B Empty Unit} {G : Prop} (h : (G → ∀ H', Ex (mn H [p]) H' → E (.ref CE) none H') → Does t σ H c (fun s σ' H' => ∃ N Hb L, Stt K N (mn H [p]) ps0 Hb σ' H' [oi 0 p C (Fs s)] L) SR0 (fun _ _ _ => False))
    (q : (G = False ∧ ∃ s, c = .nx s ∧ ∀ H', Ex (mn H [p]) (mn H' [p]) → (∃ dx fs, H' p = some (.ins C dx fs) ∧ FRep K (mn H' (p :: ps0)) fs (Fs s)) → Q .non H') ∨ (G = True ∧ c = .rt () ∧ ∀ H', Ex (mn H [p]) H' → E (.ref CE) none H')) : t { nx := fun _ H' => Q .non H', rt := Q } σ H := by
  rcases q with ⟨g, s1, e1, q⟩ | ⟨g, e1, q⟩
  · refine h (fun z => by rw [g] at z; exact z.elim) _ (fun s σ' H' e st => ?_) (fun s => s.elim) (fun s => s.elim) (fun r v H' e z => z.elim)
    rw [e1] at e
    cases e
    obtain ⟨N, Hb, L, st⟩ := st
    obtain ⟨_, _, _, o, h1, dx, fs, rfl, h2⟩ := st.ow _ List.mem_cons_self
    exact q H' (fun a o ha => mn_at (st.ex a o ha) (mn_notin ha)) ⟨dx, fs, h1, h2⟩
  · refine h (fun _ => q) _ (fun s σ' H' e st => ?_) (fun s => s.elim) (fun s => s.elim) (fun r v H' e z => z.elim)
    rw [e1] at e
    cases e
/-- where an object is made, or an error tells why not -/
def tryC {S0 X S B R : Type} (c : Ctl S0 Empty X) (k : S0 → Ctl S B R) (h : X → Ctl S B R) : Ctl S B R := match c with | .nx s => k s | .rt e => h e | .bk b => b.elim | .ct b => b.elim
def okTry {S0 X : Type} (c : Ctl S0 Empty X) (g b : Prop) (q : S0 → Prop) (r : X → Prop) : Prop := match c with | .nx s => g ∧ q s | .rt e => b ∧ r e | .bk _ => True | .ct _ => True
theorem tri_try {S0 X : Type} {c0 : Ctl S0 Empty X} {k : S0 → Ctl S B R} {h : X → Ctl S B R} {g b : Prop} {q : S0 → Prop} {r : X → Prop} {P : S → Prop} {PB PC : B → Prop} {PR : R → Prop}
    (hn : ∀ s, c0 = .nx s → g ∧ Tri (k s) (q s) P PB PC PR) (hb : ∀ e, c0 = .rt e → b ∧ Tri (h e) (r e) P PB PC PR) : Tri (tryC c0 k h) (okTry c0 g b q r) P PB PC PR := by
  cases c0 with
  | nx s => exact ⟨⟨(hn s rfl).1, (hn s rfl).2.1⟩, (hn s rfl).2.2⟩
  | rt e => exact ⟨⟨(hb e rfl).1, (hb e rfl).2.1⟩, (hb e rfl).2.2⟩
  | bk b => exact b.elim
  | ct b => exact b.elim
/-- an __init__ that does not raise -/
theorem tri_defG {S X : Type} {c : Ctl S Empty X} {ok : Prop} {P : S → Prop} (h : Tri c ok P (fun e : Empty => e.elim) (fun e : Empty => e.elim) (fun _ => False)) : ok ∧ ∃ s, c = .nx s ∧ P s := by
  obtain ⟨a, b⟩ := h
  refine ⟨a, ?_⟩
  cases c with
  | nx s => exact ⟨s, rfl, b⟩
  | bk s => exact s.elim
  | ct s => exact s.elim
  | rt r => exact b.elim
/-- one that does -/
theorem tri_defB {S : Type} {c : Ctl S Empty Unit} {ok : Prop} (h : Tri c ok (fun _ => False) (fun e : Empty => e.elim) (fun e : Empty => e.elim) (fun _ => True)) : ok ∧ c = .rt () := by
  obtain ⟨a, b⟩ := h
  refine ⟨a, ?_⟩
  cases c with
  | nx s => exact b.elim
  | bk s => exact s.elim
  | ct s => exact s.elim
  | rt r => rfl
/-- o = C(..) in a try whose clause catches the error -/
theorem d_tryMake {A Bt : Type} [RepA A] [RepA Bt] {i j : Nat} {Fs : Bt → List Fd} {cn : Str} {ns : List Str} {m : A → Ctl Bt Empty Unit} {ok : Prop → A → Prop} {x : A} {tt : TA} {ts : Addr → Value → Option Addr → TS} {cv : Value} {Wout : WX} {F : Ob cn ns Bt → Ctl S B R} {hd : Unit → Ctl S B R} {q : Bt → Prop} {r : Unit → Prop}
    (st : Stt K N H0 ps0 Hb σ H O L) (h : EAs K (psO O ps0) tt σ H x) (hok : okTry (m x) (ok False x) (ok True x) q r)
    (hg : ∀ (H : Hp) (fs : List (Str × V)) (s : Bt), FRep K H fs (Fs s) → repA K H (fs.map (·.2)) s) (hn : ∀ s, (Fs s).map Fd.f = ns) (ic : IsC K cn C) (hex : PySem.W.exmOne K (.ref CE) cv = some true)
    (hi : i < N) (hO : NoO i O) (hL : SubN i L' L) (hj : j < N) (hOj : NoO j O) (hLj : SubN j L' L) (hij : i ≠ j)
    (k : ∀ (s : Bt) σ1 H1, q s → Stt K N H0 ps0 Hb σ1 H1 O (bd i (⟨s⟩ : Ob cn ns Bt) :: L') → Does u σ1 H1 (F ⟨s⟩) SR BR RR)
    (kx : ∀ (a : Addr) σ1 H1, r () → σ1[j]? = some (some (.ref a)) → Stt K N H0 ps0 Hb σ1 H1 O L' → Does (ts a (.ref CE) none) σ1 H1 (hd ()) (fun _ _ _ => False) BR RR) (hBR : ∀ (b : B) σ1 H1, BR b σ1 H1 → BR b (σ1.set j none) H1) :
    Does (tSeq (fun D σ H => (tAsg (tMakeS C (spIX K C CE Fs m ok) (WE (wAs K cv j ts Wout D)) tt) (gName i)) D σ H) u) σ H (tryC (m x) (fun s => F ⟨s⟩) hd) SR BR RR := fun D k1 k2 k3 k4 => by
  refine h H (Ex.refl _) st.dm _ fun vs H2 e2 rv p dx hp hdx hne => ?_
  have st2 := st.to e2
  have d2 := st2.dm
  have hpp : p ∉ psO O ps0 := d2.notin hp
  let H3 := upd (upd H2 dx (.own p)) p (.ins C dx [])
  have keep : ∀ a o, H2 a = some o → H3 a = some o := fun a o ha => by
    show upd (upd H2 dx (.own p)) p (.ins C dx []) a = some o
    rw [upd_ne (fun z => by rw [z, hp] at ha; cases ha), upd_ne (fun z => by rw [z, hdx] at ha; cases ha)]
    exact ha
  have e3 : Ex H2 H3 := keep
  refine ⟨psO O ps0, x, p, vs, rfl, d2.mono e3, hpp, ⟨dx, upd_same⟩, RepA.monoA (mn_new e3 hp) rv, ?_⟩
  cases hm : m x with
  | nx s =>
    rw [hm] at hok k1 k2 k3 k4
    refine .inl ⟨s, rfl, hok.1, fun H4 e4 h4 => ⟨rfl, ?_⟩⟩
    obtain ⟨dx', fs, h5, h6⟩ := h4
    have e5 : Ex H2 H4 := fun a o ha => by
      have hap : a ≠ p := fun z => by rw [z, hp] at ha; cases ha
      have := e4 a o (mn_at (keep a o ha) (by rw [List.mem_singleton]; exact hap))
      exact mn_ex _ _ this
    have ob : rep K (mn H4 (psO O ps0)) (.ref p) (⟨s⟩ : Ob cn ns Bt) := ⟨C, p, dx', fs, ic, rfl, mn_at h5 hpp, h6.names.trans (hn s), hg _ _ _ (h6.mono (mn_le fun a ha => List.mem_cons_of_mem _ ha))⟩
    exact k s _ H4 hok.2 ((st2.to e5).set ob hi hO hL) D k1 k2 k3 k4
  | rt e =>
    rw [hm] at hok k1 k2 k3 k4
    refine .inr ⟨rfl, hok.1, fun H4 e4 => ⟨true, hex, fun _ a ha => ?_, fun z => Bool.noConfusion z⟩⟩
    have e5 : Ex H2 H4 := fun a o ha => e4 a o (mn_at (keep a o ha) (by
      rw [List.mem_singleton]
      exact fun z => by rw [z, hp] at ha; cases ha))
    have st4 : Stt K N H0 ps0 Hb (σ.set j (some (.ref a))) H4 O L' := (st2.to e5).forget hOj hLj
    refine kx a _ H4 hok.2 (by rw [List.getElem?_set_self (by rw [st.len]; exact hj)]) st4 _ (fun _ _ _ _ z => z.elim) (fun b σ1 H1 e z => ?_) (fun b σ1 H1 e z => ?_) k4
    · exact k2 b _ H1 e (hBR b σ1 H1 z)
    · exact k3 b _ H1 e (hBR b σ1 H1 z)
  | bk b => exact b.elim
  | ct b => exact b.elim
/-- isinstance(e, C), e the error -/
theorem er_isE {a D : Addr} {j : Nat} {b : Bool} {CC : Addr} (he : σ[j]? = some (some (.ref a))) (hk : PySem.W.kitOne K (.ref D) (.ref CC) = some b) : ER K ps (tCB (rIsE K D a) (tCons (tVar j) (tCons (tC (.ref CC)) tNil))) σ H b := fun H1 e d Q q =>
  ⟨.ref a, he, .ref CC, .ref CC, b, rfl, fun u r => by cases r; rfl, hk, q _ H1 (Ex.refl _) rfl⟩
/-- the suite of a clause, for the one class that comes -/
theorem hsu_of {X : L2.Cx} {CE : Addr} {b : List Stmt} {ts : Addr → TS} (h : ∀ (a : Addr) (oe : Obj) (pn : List (Addr × Obj)), Zc (.ref CE) none oe → (∃ vs, oe.data = .fields vs) → PSs (X.suite a ((a, oe) :: pn)) b (ts a)) :
    ∀ (a : Addr) (oe : Obj) (cls : Value) (d : Option Addr) (pn : List (Addr × Obj)), Zc cls d oe → (∃ vs, oe.data = .fields vs) → PSs (X.suite a ((a, oe) :: pn)) b (fun D σ H => (cls = .ref CE ∧ d = none) ∧ ts a D σ H) := fun a oe cls d pn hz hf => pss_guard fun e => by
  obtain ⟨e1, e2⟩ := e
  subst e1 e2
  exact h a oe pn hz hf
theorem d_guard {P : Prop} (hp : P) (h : Does t σ H c SR BR RR) : Does (fun D σ H => P ∧ t D σ H) σ H c SR BR RR := fun D k1 k2 k3 k4 => ⟨hp, h D k1 k2 k3 k4⟩
theorem kcall_isE (K : PySem.W.Frag) {X : L2.Cx} {a D : Addr} {oe : Obj} {pn : List (Addr × Obj)} (hK : X.K = K) (C : ExcC K D) (hz : Zc (.ref D) none oe) (hf : ∃ vs, oe.data = .fields vs) : CallR (X.suite a ((a, oe) :: pn)) (.builtin "isinstance") (rIsE K D a) := by
  subst hK
  exact call_isE C hz hf
/-- the class of an error, an own class: what isinstance says -/
theorem kit_ref {D CC : Addr} {b : Bool} (h1 : PySem.W.hasDictIn K CC = true) (h2 : PySem.W.typeIn K (.ref CC) = some (.type "type")) (h3 : PySem.W.subIn K (.ref D) (.ref CC) = some b) (h4 : PySem.W.subIn K (.ref D) (.ref D) = some true) : PySem.W.kitOne K (.ref D) (.ref CC) = some b := by
  obtain ⟨cd, hc, _⟩ := PySem.W.any_some h1
  unfold PySem.W.kitOne
  split
  · rename_i q
    have e : D = CC := Value.ref.inj (beq_iff_eq.mp q)
    subst e
    rw [h4] at h3
    exact h3
  · show (if ((PySem.W.clsIn K CC).isSome && PySem.W.typeIn K (.ref CC) == some (.type "type")) = true then PySem.W.subIn K (.ref D) (.ref CC) else none) = some b
    rw [hc, h2, h3]
    rfl
/-- what an error class says of itself -/
structure ExcF (K : PySem.W.Frag) (C : Addr) : Prop where
  xi : PySem.W.excIn K C [.type "ValueError", .type "Exception", .type "BaseException", .type "object"] "ValueError.__new__" = true
  kp : PySem.W.keepIn K (Value.ref C) = true
  ty : PySem.W.typeIn K (.ref C) = some (.type "type")
  ec : ExcC K C
  em : PySem.W.exmOne K (.ref C) (.ref C) = some true
theorem excF_mk {C : Addr} (xi : PySem.W.excIn K C [.type "ValueError", .type "Exception", .type "BaseException", .type "object"] "ValueError.__new__" = true) (kp : PySem.W.keepIn K (.ref C) = true) (ty : PySem.W.typeIn K (.ref C) = some (.type "type"))
    (hg : PySem.W.findIn K (.ref C) "__getattribute__" = some (some (.builtin "BaseException.__getattribute__"))) (hk : PySem.W.findIn K (.ref C) "__getattr__" = some none) (hs : PySem.W.subIn K (.ref C) (.type "BaseException") = some true) (hd : PySem.W.hasDictIn K C = true)
    (ha : PySem.W.findIn K (.ref C) "__class__" = some (some (.builtin "object.__class__"))) (hn : PySem.W.specialIn K (.builtin "object.__class__") "__get__" = some (some (.builtin "getset_descriptor.__get__"))) (ht : PySem.W.takesIn K (.builtin "object.__class__") = some true)
    (hm : PySem.W.mroIn K C (.type "object") = some true) (ss : PySem.W.subIn K (.ref C) (.ref C) = some true) : ExcF K C :=
  ⟨xi, kp, ty, ⟨hg, hk, hs, hd, ha, hn, ht, hm⟩, PySem.W.exm_ref hs hd ty ss⟩
/-- raise C('m') -/
theorem ps_raiseC {X : L2.Cx} {W : WX} {C : Addr} {x m : Str} {j : Nat} {p p2 pos pos' : Pos} (K : PySem.W.Frag) (hK : X.K = K) (T : ExcF K C) (hc : X.calm = true) (tk : Takes X W) (gC : X.mg x = some (.ref C)) (hg : Gl X x) (hdb : (x == ("__debug__" : Str)) = false := by decide) :
    PS X (.Raise (some (.Call (.Name x p) [.Constant (.str m) j p2] [] pos)) none pos') (fun _ σ H => W (.ref C) none σ H) := by
  subst hK
  exact ps_raise hc tk (pmk_own PySem.F.excBase_ValueError T.xi gC T.kp (raises_own T.ec.hs T.ty) hg hdb)
/-- d_tryMake, the object named -/
theorem d_tryMakeO {A Bt : Type} [RepA A] [RepA Bt] {i j : Nat} {Fs : Bt → List Fd} {cn : Str} {ns : List Str} {m : A → Ctl Bt Empty Unit} {ok : Prop → A → Prop} {x : A} {tt : TA} {ts : Addr → TS} {cv : Value} {Wout : WX} {F : Ob cn ns Bt → Ctl S B R} {hd : Unit → Ctl S B R} {q : Ob cn ns Bt → Prop} {r : Unit → Prop}
    (st : Stt K N H0 ps0 Hb σ H O L) (h : EAs K (psO O ps0) tt σ H x) (hok : okTry (m x) (ok False x) (ok True x) (fun s => q ⟨s⟩) r)
    (hg : ∀ (H : Hp) (fs : List (Str × V)) (s : Bt), FRep K H fs (Fs s) → repA K H (fs.map (·.2)) s) (hn : ∀ s, (Fs s).map Fd.f = ns) (ic : IsC K cn C) (hex : PySem.W.exmOne K (.ref CE) cv = some true)
    (hi : i < N) (hO : NoO i O) (hL : SubN i L' L) (hj : j < N) (hOj : NoO j O) (hLj : SubN j L' L) (hij : i ≠ j) (hBR : ∀ (b : B) σ1 H1, BR b σ1 H1 → BR b (σ1.set j none) H1)
    (k : ∀ (y : Ob cn ns Bt) σ1 H1, q y → Stt K N H0 ps0 Hb σ1 H1 O (bd i y :: L') → Does u σ1 H1 (F y) SR BR RR)
    (kx : ∀ (a : Addr) σ1 H1, r () → σ1[j]? = some (some (.ref a)) → Stt K N H0 ps0 Hb σ1 H1 O L' → Does (ts a) σ1 H1 (hd ()) (fun _ _ _ => False) BR RR) :
    Does (tSeq (fun D σ H => (tAsg (tMakeS C (spIX K C CE Fs m ok) (WE (wAs K cv j (fun a cls d D σ H => (cls = .ref CE ∧ d = none) ∧ ts a D σ H) Wout D)) tt) (gName i)) D σ H) u) σ H (tryC (m x) (fun s => F ⟨s⟩) hd) SR BR RR :=
  d_tryMake (q := fun s => q ⟨s⟩) (F := F) (r := r) st h hok hg hn ic hex hi hO hL hj hOj hLj hij (fun s => k ⟨s⟩) (fun a σ1 H1 hr hs st1 => d_guard ⟨rfl, rfl⟩ (kx a σ1 H1 hr hs st1)) hBR
/-- len of a pair -/
theorem er_lenT2 {A1 A2 : Type} [Rep A1] [Rep A2] {x : T (A1 × A2 × Unit)} {ta : TE} (ha : ER K ps ta σ H x) : ER K ps (tCB (rLenQ K) (tCons ta tNil)) σ H (2 : Int) :=
  er_cb1 ha fun v H1 _ r1 Q q => by
    obtain ⟨a, vs, rfl, hv, r⟩ := r1
    obtain ⟨v1, r1, rfl, _, v2, r2, rfl, _, r3⟩ := r
    have e3 : r2 = [] := r3
    subst e3
    exact ⟨a, _, rfl, .inr (st_of (mn_ex _ _ hv)), q _ H1 (Ex.refl _) rfl⟩
/-- list * n -/
def repL {α : Type} (l : List α) (n : Int) : List α := (List.replicate n.toNat l).flatten
theorem reps_rep {Ha : Hp} {vs : List V} {l : List α} (r : Reps K Ha vs l) : ∀ n : Nat, Reps K Ha (List.replicate n vs).flatten (List.replicate n l).flatten
  | 0 => .nil
  | n + 1 => by
    simp only [List.replicate_succ, List.flatten_cons]
    exact r.append (reps_rep r n)
theorem er_repL {x : List α} {n : Int} {ta tb : TE} (ha : ER K ps ta σ H x) (hb : ER K ps tb σ H n) (hc : -1000000 ≤ n ∧ n ≤ 1000000 ∧ x.length * n.toNat ≤ 100000) : ER K ps (tOp rRep ta tb) σ H (repL x n) :=
  er_op ha hb fun v w H1 d r1 r2 Q q => by
    obtain ⟨a, vs, rfl, hv, r⟩ := r1
    cases r2
    exact ⟨a, n, vs, rfl, rfl, mn_ex _ _ hv, by omega, by omega, by rw [r.length]; exact sz_of hc.2.2, fun p hp => q _ _ (Ex.new hp) (new_lst d hp (reps_rep r n.toNat))⟩
end
end Cx

namespace Wk
open PySem PySem.Spec PyProof.Rows L2 Evl Cx
open Rep (rep)
open RepA (repA)
def top (i : Nat) : Stmt := PySem.Challenge.pw_clockless_k30_compact_covers.main.body.getD i (.Pass ⟨0, 0, 0, 0⟩)
abbrev s_law_draws : Stmt := top 12
abbrev s_law_code_of : Stmt := top 13
abbrev s_law_codes : Stmt := top 14
abbrev s_law_function : Stmt := top 19
abbrev s_contains : Stmt := top 1
abbrev s_cover_contains : Stmt := top 4
abbrev s_contains_all : Stmt := top 7
abbrev s_without_needless : Stmt := top 9
abbrev s_with_character : Stmt := top 2
abbrev s_contains_some : Stmt := top 8
abbrev s_expand : Stmt := top 5
abbrev s_compact_cover : Stmt := top 6
abbrev s_law_cell : Stmt := top 11
abbrev s_law_is_cube : Stmt := top 17
abbrev s_law_is_cover : Stmt := top 18
abbrev s_law_in : Stmt := top 15
abbrev s_law_covered : Stmt := top 16
abbrev s_law_avoids : Stmt := top 20
abbrev s_law_with : Stmt := top 21
abbrev s_law_prime : Stmt := top 22
abbrev s_law : Stmt := top 23
def m_law_draws_L1 (a0 : Int) (x22 : Int) (s21 : ((List Int) × Int)) : Ctl ((List Int) × Int) ((List Int) × Int) (List Int) := (cIf ((decide (((10 : Int) ^ (18 : Int).toNat) ≤ a0)) && (decide ((0 : Int) < s21.2))) (vLet (s21.1 ++ [(s21.2 % (4096 : Int))]) fun (y45 : (List Int)) => (vLet (s21.2 / (4096 : Int)) fun (y54 : Int) => (.nx (y45, y54)))) (vLet (((a0 * (48271 : Int)) + ((x22 + (1 : Int)) * (69621 : Int))) % (2147483647 : Int)) fun (y64 : Int) => (vLet ((((y64 * y64) + (y64 * (16807 : Int))) + (x22 * (7919 : Int))) % (2147483629 : Int)) fun (y74 : Int) => (vLet ((((y74 * y74) + a0) + ((13 : Int) * x22)) % (2147483587 : Int)) fun (y84 : Int) => (vLet (s21.1 ++ [((y84 / (7 : Int)) % (4096 : Int))]) fun (y94 : (List Int)) => (.nx (y94, s21.2)))))))
def k_law_draws_L1 (a0 : Int) (x22 : Int) (s21 : ((List Int) × Int)) : Prop := ((CPow (10 : Int) (18 : Int)) ∧ (True) ∧ True) ∧ (okIf ((decide (((10 : Int) ^ (18 : Int).toNat) ≤ a0)) && (decide ((0 : Int) < s21.2))) (((s21.1.length < 100000) ∧ True) ∧ (okLet (s21.1 ++ [(s21.2 % (4096 : Int))]) fun (y45 : (List Int)) => okLet (s21.2 / (4096 : Int)) fun (y54 : Int) => True)) (((CMulX a0 (48271 : Int)) ∧ (CMulX (x22 + (1 : Int)) (69621 : Int)) ∧ True) ∧ (okLet (((a0 * (48271 : Int)) + ((x22 + (1 : Int)) * (69621 : Int))) % (2147483647 : Int)) fun (y64 : Int) => ((CMulX y64 y64) ∧ (CMulX y64 (16807 : Int)) ∧ (CMulX x22 (7919 : Int)) ∧ True) ∧ (okLet ((((y64 * y64) + (y64 * (16807 : Int))) + (x22 * (7919 : Int))) % (2147483629 : Int)) fun (y74 : Int) => ((CMulX y74 y74) ∧ (CMulX (13 : Int) x22) ∧ True) ∧ (okLet ((((y74 * y74) + a0) + ((13 : Int) * x22)) % (2147483587 : Int)) fun (y84 : Int) => ((s21.1.length < 100000) ∧ True) ∧ (okLet (s21.1 ++ [((y84 / (7 : Int)) % (4096 : Int))]) fun (y94 : (List Int)) => True))))))
def m_law_draws (a0 : Int) (a1 : Int) : Ctl Empty Empty (List Int) := (vLet a0 fun (y11 : Int) => (forC (rng a1) (m_law_draws_L1 a0) (([] : (List Int)), y11) fun (s21 : ((List Int) × Int)) => (.rt s21.1)))
def f_law_draws (a0 : Int) (a1 : Int) : (List Int) := outC (m_law_draws a0 a1)
def k_law_draws (a0 : Int) (a1 : Int) : Prop := okLet a0 fun (y11 : Int) => ((rB a1) ∧ True) ∧ (okFor (m_law_draws_L1 a0) (k_law_draws_L1 a0) (rng a1) (([] : (List Int)), y11) fun (s21 : ((List Int) × Int)) => True)
def m_law_code_of_L1 (x15 : Int) (s14 : (Tx × Int)) : Ctl (Tx × Int) (Tx × Int) Tx := (vLet (([ixD (lit "01") (s14.2 % (2 : Int))] : Tx) ++ s14.1) fun (y25 : Tx) => (vLet (s14.2 / (2 : Int)) fun (y35 : Int) => (.nx (y25, y35))))
def k_law_code_of_L1 (x15 : Int) (s14 : (Tx × Int)) : Prop := ((inB (lit "01") (s14.2 % (2 : Int))) ∧ ((lit "01").length ≤ 100000) ∧ (([ixD (lit "01") (s14.2 % (2 : Int))] : Tx).length + s14.1.length ≤ 100000) ∧ True) ∧ (okLet (([ixD (lit "01") (s14.2 % (2 : Int))] : Tx) ++ s14.1) fun (y25 : Tx) => okLet (s14.2 / (2 : Int)) fun (y35 : Int) => True)
def m_law_code_of (a0 : Int) (a1 : Int) : Ctl Empty Empty Tx := (vLet (lit "") fun (y4 : Tx) => (forC (rng a1) (m_law_code_of_L1) (y4, a0) fun (s14 : (Tx × Int)) => (.rt s14.1)))
def f_law_code_of (a0 : Int) (a1 : Int) : Tx := outC (m_law_code_of a0 a1)
def k_law_code_of (a0 : Int) (a1 : Int) : Prop := okLet (lit "") fun (y4 : Tx) => ((rB a1) ∧ True) ∧ (okFor (m_law_code_of_L1) (k_law_code_of_L1) (rng a1) (y4, a0) fun (s14 : (Tx × Int)) => True)
def m_law_codes (a0 : Int) : Ctl Empty Empty (List Tx) := (vLet (ixD ([(1 : Int), (2 : Int), (4 : Int), (8 : Int), (16 : Int), (32 : Int), (64 : Int), (128 : Int), (256 : Int)] : (List Int)) a0) fun (y4 : Int) => (.rt ((rng y4).map fun x12 => (f_law_code_of x12 a0))))
def f_law_codes (a0 : Int) : (List Tx) := outC (m_law_codes a0)
def k_law_codes (a0 : Int) : Prop := ((inB ([(1 : Int), (2 : Int), (4 : Int), (8 : Int), (16 : Int), (32 : Int), (64 : Int), (128 : Int), (256 : Int)] : (List Int)) a0) ∧ True) ∧ (okLet (ixD ([(1 : Int), (2 : Int), (4 : Int), (8 : Int), (16 : Int), (32 : Int), (64 : Int), (128 : Int), (256 : Int)] : (List Int)) a0) fun (y4 : Int) => (rB y4) ∧ ((rng y4).length ≤ 100000) ∧ (∀ x12 ∈ (rng y4), ((k_law_code_of x12 a0) ∧ True)) ∧ True)
def m_law_function_R1 (s70 : Int) (x49 : Int) (y28 : (List Tx)) (s48 : ((List Tx) × (List Tx))) (s98 : ((List Tx))) : Ctl ((List Tx) × (List Tx)) ((List Tx) × (List Tx)) (List (List Tx)) := (cIf (eqB s70 (2 : Int)) (vLet (s48.2 ++ [(ixD y28 x49)]) fun (y138 : (List Tx)) => (.nx (s98, y138))) (.nx (s98, s48.2)))
def k_law_function_R1 (s70 : Int) (x49 : Int) (y28 : (List Tx)) (s48 : ((List Tx) × (List Tx))) (s98 : ((List Tx))) : Prop := okIf (eqB s70 (2 : Int)) (((inB y28 x49) ∧ (s48.2.length < 100000) ∧ True) ∧ (okLet (s48.2 ++ [(ixD y28 x49)]) fun (y138 : (List Tx)) => True)) (True)
def m_law_function_R2 (x49 : Int) (y28 : (List Tx)) (s48 : ((List Tx) × (List Tx))) (s70 : (Int)) : Ctl ((List Tx) × (List Tx)) ((List Tx) × (List Tx)) (List (List Tx)) := (cSeq (cIf (eqB s70 (1 : Int)) (vLet (s48.1 ++ [(ixD y28 x49)]) fun (y111 : (List Tx)) => (.nx y111)) (.nx s48.1) : Ctl ((List Tx)) ((List Tx) × (List Tx)) (List (List Tx))) fun s98 => (m_law_function_R1 s70 x49 y28 s48 s98))
def k_law_function_R2 (x49 : Int) (y28 : (List Tx)) (s48 : ((List Tx) × (List Tx))) (s70 : (Int)) : Prop := okSeq (okIf (eqB s70 (1 : Int)) (((inB y28 x49) ∧ (s48.1.length < 100000) ∧ True) ∧ (okLet (s48.1 ++ [(ixD y28 x49)]) fun (y111 : (List Tx)) => True)) (True)) (cIf (eqB s70 (1 : Int)) (vLet (s48.1 ++ [(ixD y28 x49)]) fun (y111 : (List Tx)) => (.nx y111)) (.nx s48.1) : Ctl ((List Tx)) ((List Tx) × (List Tx)) (List (List Tx))) fun s98 => (k_law_function_R1 s70 x49 y28 s48 s98)
def m_law_function_L1 (y38 : Int) (y28 : (List Tx)) (y4 : (List Int)) (x49 : Int) (s48 : ((List Tx) × (List Tx))) : Ctl ((List Tx) × (List Tx)) ((List Tx) × (List Tx)) (List (List Tx)) := (vLet (((ixD y4 ((x49 + (ixD y4 (38 : Int))) % (37 : Int))) / (ixD ([(1 : Int), (7 : Int)] : (List Int)) ((x49 / (32 : Int)) % (2 : Int)))) % y38) fun (y59 : Int) => (cSeq (cIf (decide ((32 : Int) ≤ x49)) (vLet ((y59 + (ixD y4 (x49 % (31 : Int)))) % y38) fun (y82 : Int) => (.nx y82)) (.nx y59) : Ctl (Int) ((List Tx) × (List Tx)) (List (List Tx))) fun s70 => (m_law_function_R2 x49 y28 s48 s70)))
def k_law_function_L1 (y38 : Int) (y28 : (List Tx)) (y4 : (List Int)) (x49 : Int) (s48 : ((List Tx) × (List Tx))) : Prop := ((inB y4 (38 : Int)) ∧ (inB y4 ((x49 + (ixD y4 (38 : Int))) % (37 : Int))) ∧ (inB ([(1 : Int), (7 : Int)] : (List Int)) ((x49 / (32 : Int)) % (2 : Int))) ∧ (CDivW (ixD y4 ((x49 + (ixD y4 (38 : Int))) % (37 : Int))) (ixD ([(1 : Int), (7 : Int)] : (List Int)) ((x49 / (32 : Int)) % (2 : Int)))) ∧ (0 < y38) ∧ True) ∧ (okLet (((ixD y4 ((x49 + (ixD y4 (38 : Int))) % (37 : Int))) / (ixD ([(1 : Int), (7 : Int)] : (List Int)) ((x49 / (32 : Int)) % (2 : Int)))) % y38) fun (y59 : Int) => okSeq (okIf (decide ((32 : Int) ≤ x49)) (((inB y4 (x49 % (31 : Int))) ∧ (0 < y38) ∧ True) ∧ (okLet ((y59 + (ixD y4 (x49 % (31 : Int)))) % y38) fun (y82 : Int) => True)) (True)) (cIf (decide ((32 : Int) ≤ x49)) (vLet ((y59 + (ixD y4 (x49 % (31 : Int)))) % y38) fun (y82 : Int) => (.nx y82)) (.nx y59) : Ctl (Int) ((List Tx) × (List Tx)) (List (List Tx))) fun s70 => (k_law_function_R2 x49 y28 s48 s70))
def m_law_function_R3 (y4 : (List Int)) (s48 : ((List Tx) × (List Tx))) : Ctl Empty Empty (List (List Tx)) := (cSeq (cIf (eqB ((ixD y4 (36 : Int)) % (2 : Int)) (1 : Int)) (vLet (s48.1.reverse ++ (cut s48.1 none (some (1 : Int)))) fun (y170 : (List Tx)) => (vLet (s48.2 ++ (cut s48.2 (some (-(1 : Int))) none)) fun (y180 : (List Tx)) => (.nx (y170, y180)))) (.nx (s48.1, s48.2)) : Ctl ((List Tx) × (List Tx)) Empty (List (List Tx))) fun s158 => (.rt ([s158.1, s158.2] : (List (List Tx)))))
def k_law_function_R3 (y4 : (List Int)) (s48 : ((List Tx) × (List Tx))) : Prop := ((inB y4 (36 : Int)) ∧ True) ∧ (okSeq (okIf (eqB ((ixD y4 (36 : Int)) % (2 : Int)) (1 : Int)) (((s48.1.reverse.length + (cut s48.1 none (some (1 : Int))).length ≤ 100000) ∧ True) ∧ (okLet (s48.1.reverse ++ (cut s48.1 none (some (1 : Int)))) fun (y170 : (List Tx)) => ((s48.2.length + (cut s48.2 (some (-(1 : Int))) none).length ≤ 100000) ∧ True) ∧ (okLet (s48.2 ++ (cut s48.2 (some (-(1 : Int))) none)) fun (y180 : (List Tx)) => True))) (True)) (cIf (eqB ((ixD y4 (36 : Int)) % (2 : Int)) (1 : Int)) (vLet (s48.1.reverse ++ (cut s48.1 none (some (1 : Int)))) fun (y170 : (List Tx)) => (vLet (s48.2 ++ (cut s48.2 (some (-(1 : Int))) none)) fun (y180 : (List Tx)) => (.nx (y170, y180)))) (.nx (s48.1, s48.2)) : Ctl ((List Tx) × (List Tx)) Empty (List (List Tx))) fun s158 => True)
def m_law_function (a0 : Int) (a1 : Int) : Ctl Empty Empty (List (List Tx)) := (vLet (f_law_draws a0 (40 : Int)) fun (y4 : (List Int)) => (vLet (f_law_codes a1) fun (y28 : (List Tx)) => (vLet ((3 : Int) + ((ixD y4 (39 : Int)) % (3 : Int))) fun (y38 : Int) => (forC (rng (y28.length : Int)) (m_law_function_L1 y38 y28 y4) (([] : (List Tx)), ([] : (List Tx))) fun (s48 : ((List Tx) × (List Tx))) => (m_law_function_R3 y4 s48)))))
def f_law_function (a0 : Int) (a1 : Int) : (List (List Tx)) := outC (m_law_function a0 a1)
def k_law_function (a0 : Int) (a1 : Int) : Prop := ((k_law_draws a0 (40 : Int)) ∧ True) ∧ (okLet (f_law_draws a0 (40 : Int)) fun (y4 : (List Int)) => ((k_law_codes a1) ∧ True) ∧ (okLet (f_law_codes a1) fun (y28 : (List Tx)) => ((inB y4 (39 : Int)) ∧ True) ∧ (okLet ((3 : Int) + ((ixD y4 (39 : Int)) % (3 : Int))) fun (y38 : Int) => ((rB (y28.length : Int)) ∧ True) ∧ (okFor (m_law_function_L1 y38 y28 y4) (k_law_function_L1 y38 y28 y4) (rng (y28.length : Int)) (([] : (List Tx)), ([] : (List Tx))) fun (s48 : ((List Tx) × (List Tx))) => (k_law_function_R3 y4 s48)))))
def m_contains (a0 : Tx) (a1 : Tx) : Ctl Empty Empty Bool := (.rt (((zipT (chs a0) (chs a1)).map fun x2 => (memB x2.t.1 (⟨[(lit "-"), x2.t.2.1]⟩ : (Tp Tx)).l)).all id))
def f_contains (a0 : Tx) (a1 : Tx) : Bool := outC (m_contains a0 a1)
def k_contains (a0 : Tx) (a1 : Tx) : Prop := ((zipT (chs a0) (chs a1)).length ≤ 100000) ∧ (True) ∧ True
def m_cover_contains (a0 : (List Tx)) (a1 : Tx) : Ctl Empty Empty Bool := (.rt ((a0.map fun x2 => (f_contains x2 a1)).any id))
def f_cover_contains (a0 : (List Tx)) (a1 : Tx) : Bool := outC (m_cover_contains a0 a1)
def k_cover_contains (a0 : (List Tx)) (a1 : Tx) : Prop := (a0.length ≤ 100000) ∧ (∀ x2 ∈ a0, ((k_contains x2 a1) ∧ True)) ∧ True
def m_contains_all (a0 : (List Tx)) (a1 : (List Tx)) : Ctl Empty Empty Bool := (.rt ((a1.map fun x2 => (f_cover_contains a0 x2)).all id))
def f_contains_all (a0 : (List Tx)) (a1 : (List Tx)) : Bool := outC (m_contains_all a0 a1)
def k_contains_all (a0 : (List Tx)) (a1 : (List Tx)) : Prop := (a1.length ≤ 100000) ∧ (∀ x2 ∈ a1, ((k_cover_contains a0 x2) ∧ True)) ∧ True
def m_without_needless_L1 (a1 : (List Tx)) (x5 : Int) (s4 : ((List Tx))) : Ctl ((List Tx)) ((List Tx)) (List Tx) := (vLet ((cut s4 none (some x5)) ++ (cut s4 (some (x5 + (1 : Int))) none)) fun (y15 : (List Tx)) => (cIf (f_contains_all y15 a1) (vLet y15 fun (y37 : (List Tx)) => (.nx y37)) (.nx s4)))
def k_without_needless_L1 (a1 : (List Tx)) (x5 : Int) (s4 : ((List Tx))) : Prop := (((cut s4 none (some x5)).length + (cut s4 (some (x5 + (1 : Int))) none).length ≤ 100000) ∧ True) ∧ (okLet ((cut s4 none (some x5)) ++ (cut s4 (some (x5 + (1 : Int))) none)) fun (y15 : (List Tx)) => ((k_contains_all y15 a1) ∧ True) ∧ (okIf (f_contains_all y15 a1) (okLet y15 fun (y37 : (List Tx)) => True) (True)))
def m_without_needless (a0 : (List Tx)) (a1 : (List Tx)) : Ctl Empty Empty (List Tx) := (forC (rng (a0.length : Int)).reverse (m_without_needless_L1 a1) a0 fun (s4 : ((List Tx))) => (.rt s4))
def f_without_needless (a0 : (List Tx)) (a1 : (List Tx)) : (List Tx) := outC (m_without_needless a0 a1)
def k_without_needless (a0 : (List Tx)) (a1 : (List Tx)) : Prop := ((rB (a0.length : Int)) ∧ True) ∧ (okFor (m_without_needless_L1 a1) (k_without_needless_L1 a1) (rng (a0.length : Int)).reverse a0 fun (s4 : ((List Tx))) => True)
def m_with_character (a0 : Tx) (a1 : Int) (a2 : Tx) : Ctl Empty Empty Tx := (.rt (((cut a0 none (some a1) : Tx) ++ a2) ++ (cut a0 (some (a1 + (1 : Int))) none : Tx)))
def f_with_character (a0 : Tx) (a1 : Int) (a2 : Tx) : Tx := outC (m_with_character a0 a1 a2)
def k_with_character (a0 : Tx) (a1 : Int) (a2 : Tx) : Prop := (a0.length ≤ 100000) ∧ ((cut a0 none (some a1) : Tx).length + a2.length ≤ 100000) ∧ (a0.length ≤ 100000) ∧ (((cut a0 none (some a1) : Tx) ++ a2).length + (cut a0 (some (a1 + (1 : Int))) none : Tx).length ≤ 100000) ∧ True
def m_contains_some (a0 : Tx) (a1 : (List Tx)) : Ctl Empty Empty Bool := (.rt ((a1.map fun x2 => (f_contains a0 x2)).any id))
def f_contains_some (a0 : Tx) (a1 : (List Tx)) : Bool := outC (m_contains_some a0 a1)
def k_contains_some (a0 : Tx) (a1 : (List Tx)) : Prop := (a1.length ≤ 100000) ∧ (∀ x2 ∈ a1, ((k_contains a0 x2) ∧ True)) ∧ True
def m_expand_L1 (a1 : (List Tx)) (x5 : Int) (s4 : (Tx)) : Ctl (Tx) (Tx) Tx := (vLet (f_with_character s4 x5 (lit "-")) fun (y15 : Tx) => (cIf (!(f_contains_some y15 a1)) (vLet y15 fun (y37 : Tx) => (.nx y37)) (.nx s4)))
def k_expand_L1 (a1 : (List Tx)) (x5 : Int) (s4 : (Tx)) : Prop := ((k_with_character s4 x5 (lit "-")) ∧ True) ∧ (okLet (f_with_character s4 x5 (lit "-")) fun (y15 : Tx) => ((k_contains_some y15 a1) ∧ True) ∧ (okIf (!(f_contains_some y15 a1)) (okLet y15 fun (y37 : Tx) => True) (True)))
def m_expand (a0 : Tx) (a1 : (List Tx)) : Ctl Empty Empty Tx := (forC (rng (a0.length : Int)) (m_expand_L1 a1) a0 fun (s4 : (Tx)) => (.rt s4))
def f_expand (a0 : Tx) (a1 : (List Tx)) : Tx := outC (m_expand a0 a1)
def k_expand (a0 : Tx) (a1 : (List Tx)) : Prop := ((a0.length ≤ 100000) ∧ (rB (a0.length : Int)) ∧ True) ∧ (okFor (m_expand_L1 a1) (k_expand_L1 a1) (rng (a0.length : Int)) a0 fun (s4 : (Tx)) => True)
def m_compact_cover_L1 (a1 : (List Tx)) (x12 : Tx) (s11 : ((List Tx))) : Ctl ((List Tx)) ((List Tx)) (List Tx) := (cIf (!(f_cover_contains s11 x12)) (vLet (s11 ++ [(f_expand x12 a1)]) fun (y34 : (List Tx)) => (.nx y34)) (.nx s11))
def k_compact_cover_L1 (a1 : (List Tx)) (x12 : Tx) (s11 : ((List Tx))) : Prop := ((k_cover_contains s11 x12) ∧ True) ∧ (okIf (!(f_cover_contains s11 x12)) (((k_expand x12 a1) ∧ (s11.length < 100000) ∧ True) ∧ (okLet (s11 ++ [(f_expand x12 a1)]) fun (y34 : (List Tx)) => True)) (True))
def m_compact_cover (a0 : (List Tx)) (a1 : (List Tx)) : Ctl Empty Empty (List Tx) := (forC (srtS a0) (m_compact_cover_L1 a1) ([] : (List Tx)) fun (s11 : ((List Tx))) => (.rt (f_without_needless s11 a0)))
def f_compact_cover (a0 : (List Tx)) (a1 : (List Tx)) : (List Tx) := outC (m_compact_cover a0 a1)
def k_compact_cover (a0 : (List Tx)) (a1 : (List Tx)) : Prop := ((a0.length ≤ 100000) ∧ True) ∧ (okFor (m_compact_cover_L1 a1) (k_compact_cover_L1 a1) (srtS a0) ([] : (List Tx)) fun (s11 : ((List Tx))) => (k_without_needless s11 a0) ∧ True)
def m_law_cell (a0 : Scr) (a1 : Int) : Ctl Empty Empty Int := (cIf (decide (a1 < (a0.l.length : Int))) (.rt (ixD a0.l a1)) (.rt (0 : Int)))
def f_law_cell (a0 : Scr) (a1 : Int) : Int := outC (m_law_cell a0 a1)
def k_law_cell (a0 : Scr) (a1 : Int) : Prop := okIf (decide (a1 < (a0.l.length : Int))) ((inB a0.l a1) ∧ True) (True)
def m_law_is_cube_L1 (x19 : Tx) (s18 : Unit) : Ctl Unit Unit Bool := (cIf (!memB x19 (⟨[(lit "0"), (lit "1"), (lit "-")]⟩ : (Tp Tx)).l) (.rt false) (.nx ()))
def k_law_is_cube_L1 (x19 : Tx) (s18 : Unit) : Prop := okIf (!memB x19 (⟨[(lit "0"), (lit "1"), (lit "-")]⟩ : (Tp Tx)).l) (True) (True)
def m_law_is_cube (a0 : Tx) (a1 : Int) : Ctl Empty Empty Bool := (cIf ((!true) || (!eqB (a0.length : Int) a1)) (.rt false) (forC (chs a0) (m_law_is_cube_L1) () fun (s18 : Unit) => (.rt true)))
def f_law_is_cube (a0 : Tx) (a1 : Int) : Bool := outC (m_law_is_cube a0 a1)
def k_law_is_cube (a0 : Tx) (a1 : Int) : Prop := (((!true) = false → ((a0.length ≤ 100000) ∧ True)) ∧ True) ∧ (okIf ((!true) || (!eqB (a0.length : Int) a1)) (True) (okFor (m_law_is_cube_L1) (k_law_is_cube_L1) (chs a0) () fun (s18 : Unit) => True))
def m_law_is_cover_L1 (a1 : Int) (x18 : Tx) (s17 : Unit) : Ctl Unit Unit Bool := (cIf (!(f_law_is_cube x18 a1)) (.rt false) (.nx ()))
def k_law_is_cover_L1 (a1 : Int) (x18 : Tx) (s17 : Unit) : Prop := ((k_law_is_cube x18 a1) ∧ True) ∧ (okIf (!(f_law_is_cube x18 a1)) (True) (True))
def m_law_is_cover (a0 : (List Tx)) (a1 : Int) : Ctl Empty Empty Bool := (cIf (!true) (.rt false) (forC a0 (m_law_is_cover_L1 a1) () fun (s17 : Unit) => (.rt true)))
def f_law_is_cover (a0 : (List Tx)) (a1 : Int) : Bool := outC (m_law_is_cover a0 a1)
def k_law_is_cover (a0 : (List Tx)) (a1 : Int) : Prop := okIf (!true) (True) (okFor (m_law_is_cover_L1 a1) (k_law_is_cover_L1 a1) a0 () fun (s17 : Unit) => True)
def m_law_in_L1 (a0 : Tx) (a1 : Tx) (x5 : Int) (s4 : Unit) : Ctl Unit Unit Bool := (cIf ((!eqB ([ixD a0 x5] : Tx) (lit "-")) && (!eqB ([ixD a0 x5] : Tx) ([ixD a1 x5] : Tx))) (.rt false) (.nx ()))
def k_law_in_L1 (a0 : Tx) (a1 : Tx) (x5 : Int) (s4 : Unit) : Prop := ((inB a0 x5) ∧ (a0.length ≤ 100000) ∧ ((!eqB ([ixD a0 x5] : Tx) (lit "-")) = true → ((inB a0 x5) ∧ (a0.length ≤ 100000) ∧ (inB a1 x5) ∧ (a1.length ≤ 100000) ∧ True)) ∧ True) ∧ (okIf ((!eqB ([ixD a0 x5] : Tx) (lit "-")) && (!eqB ([ixD a0 x5] : Tx) ([ixD a1 x5] : Tx))) (True) (True))
def m_law_in (a0 : Tx) (a1 : Tx) : Ctl Empty Empty Bool := (forC (rng (a1.length : Int)) (m_law_in_L1 a0 a1) () fun (s4 : Unit) => (.rt true))
def f_law_in (a0 : Tx) (a1 : Tx) : Bool := outC (m_law_in a0 a1)
def k_law_in (a0 : Tx) (a1 : Tx) : Prop := ((a1.length ≤ 100000) ∧ (rB (a1.length : Int)) ∧ True) ∧ (okFor (m_law_in_L1 a0 a1) (k_law_in_L1 a0 a1) (rng (a1.length : Int)) () fun (s4 : Unit) => True)
def m_law_covered_L1 (a1 : Tx) (x5 : Tx) (s4 : Unit) : Ctl Unit Unit Bool := (cIf (f_law_in x5 a1) (.rt true) (.nx ()))
def k_law_covered_L1 (a1 : Tx) (x5 : Tx) (s4 : Unit) : Prop := ((k_law_in x5 a1) ∧ True) ∧ (okIf (f_law_in x5 a1) (True) (True))
def m_law_covered (a0 : (List Tx)) (a1 : Tx) : Ctl Empty Empty Bool := (forC a0 (m_law_covered_L1 a1) () fun (s4 : Unit) => (.rt false))
def f_law_covered (a0 : (List Tx)) (a1 : Tx) : Bool := outC (m_law_covered a0 a1)
def k_law_covered (a0 : (List Tx)) (a1 : Tx) : Prop := okFor (m_law_covered_L1 a1) (k_law_covered_L1 a1) a0 () fun (s4 : Unit) => True
def m_law_avoids_L1 (a0 : Tx) (x5 : Tx) (s4 : Unit) : Ctl Unit Unit Bool := (cIf (f_law_in a0 x5) (.rt false) (.nx ()))
def k_law_avoids_L1 (a0 : Tx) (x5 : Tx) (s4 : Unit) : Prop := ((k_law_in a0 x5) ∧ True) ∧ (okIf (f_law_in a0 x5) (True) (True))
def m_law_avoids (a0 : Tx) (a1 : (List Tx)) : Ctl Empty Empty Bool := (forC a1 (m_law_avoids_L1 a0) () fun (s4 : Unit) => (.rt true))
def f_law_avoids (a0 : Tx) (a1 : (List Tx)) : Bool := outC (m_law_avoids a0 a1)
def k_law_avoids (a0 : Tx) (a1 : (List Tx)) : Prop := okFor (m_law_avoids_L1 a0) (k_law_avoids_L1 a0) a1 () fun (s4 : Unit) => True
def m_law_with (a0 : Tx) (a1 : Int) (a2 : Tx) : Ctl Empty Empty Tx := (.rt (((cut a0 none (some a1) : Tx) ++ a2) ++ (cut a0 (some (a1 + (1 : Int))) none : Tx)))
def f_law_with (a0 : Tx) (a1 : Int) (a2 : Tx) : Tx := outC (m_law_with a0 a1 a2)
def k_law_with (a0 : Tx) (a1 : Int) (a2 : Tx) : Prop := (a0.length ≤ 100000) ∧ ((cut a0 none (some a1) : Tx).length + a2.length ≤ 100000) ∧ (a0.length ≤ 100000) ∧ (((cut a0 none (some a1) : Tx) ++ a2).length + (cut a0 (some (a1 + (1 : Int))) none : Tx).length ≤ 100000) ∧ True
def m_law_prime_L1 (a0 : Tx) (a1 : (List Tx)) (x18 : Int) (s17 : Unit) : Ctl Unit Unit Bool := (cIf ((!eqB ([ixD a0 x18] : Tx) (lit "-")) && (f_law_avoids (f_law_with a0 x18 (lit "-")) a1)) (.rt false) (.nx ()))
def k_law_prime_L1 (a0 : Tx) (a1 : (List Tx)) (x18 : Int) (s17 : Unit) : Prop := ((inB a0 x18) ∧ (a0.length ≤ 100000) ∧ ((!eqB ([ixD a0 x18] : Tx) (lit "-")) = true → ((k_law_with a0 x18 (lit "-")) ∧ (k_law_avoids (f_law_with a0 x18 (lit "-")) a1) ∧ True)) ∧ True) ∧ (okIf ((!eqB ([ixD a0 x18] : Tx) (lit "-")) && (f_law_avoids (f_law_with a0 x18 (lit "-")) a1)) (True) (True))
def m_law_prime (a0 : Tx) (a1 : (List Tx)) : Ctl Empty Empty Bool := (cIf (!(f_law_avoids a0 a1)) (.rt false) (forC (rng (a0.length : Int)) (m_law_prime_L1 a0 a1) () fun (s17 : Unit) => (.rt true)))
def f_law_prime (a0 : Tx) (a1 : (List Tx)) : Bool := outC (m_law_prime a0 a1)
def k_law_prime (a0 : Tx) (a1 : (List Tx)) : Prop := ((k_law_avoids a0 a1) ∧ True) ∧ (okIf (!(f_law_avoids a0 a1)) (True) (((a0.length ≤ 100000) ∧ (rB (a0.length : Int)) ∧ True) ∧ (okFor (m_law_prime_L1 a0 a1) (k_law_prime_L1 a0 a1) (rng (a0.length : Int)) () fun (s17 : Unit) => True)))
def m_law_L1 (y34 : (List Tx)) (x60 : Tx) (s59 : Unit) : Ctl Unit Unit Bool := (cIf (!(f_law_covered y34 x60)) (.rt false) (.nx ()))
def k_law_L1 (y34 : (List Tx)) (x60 : Tx) (s59 : Unit) : Prop := ((k_law_covered y34 x60) ∧ True) ∧ (okIf (!(f_law_covered y34 x60)) (True) (True))
def m_law_L2 (y34 : (List Tx)) (y14 : (List (List Tx))) (x90 : Int) (s89 : Unit) : Ctl Unit Unit Bool := (cIf (!(f_law_prime (ixD y34 x90) (ixD y14 1))) (.rt false) (vLet ((cut y34 none (some x90)) ++ (cut y34 (some (x90 + (1 : Int))) none)) fun (y113 : (List Tx)) => (cIf (eqB ((((ixD y14 0).filter fun x123 => (!(f_law_covered y113 x123))).map fun x123 => x123).length : Int) (0 : Int)) (.rt false) (.nx ()))))
def k_law_L2 (y34 : (List Tx)) (y14 : (List (List Tx))) (x90 : Int) (s89 : Unit) : Prop := ((inB y34 x90) ∧ (k_law_prime (ixD y34 x90) (ixD y14 1)) ∧ True) ∧ (okIf (!(f_law_prime (ixD y34 x90) (ixD y14 1))) (True) ((((cut y34 none (some x90)).length + (cut y34 (some (x90 + (1 : Int))) none).length ≤ 100000) ∧ True) ∧ (okLet ((cut y34 none (some x90)) ++ (cut y34 (some (x90 + (1 : Int))) none)) fun (y113 : (List Tx)) => (((ixD y14 0).length ≤ 100000) ∧ (∀ x123 ∈ (ixD y14 0), ((k_law_covered y113 x123) ∧ True)) ∧ (True) ∧ True) ∧ (okIf (eqB ((((ixD y14 0).filter fun x123 => (!(f_law_covered y113 x123))).map fun x123 => x123).length : Int) (0 : Int)) (True) (True)))))
def m_law_R1 (y34 : (List Tx)) (y14 : (List (List Tx))) (s59 : Unit) : Ctl Empty Empty Bool := (forC (rng (y34.length : Int)) (m_law_L2 y34 y14) () fun (s89 : Unit) => (.rt true))
def k_law_R1 (y34 : (List Tx)) (y14 : (List (List Tx))) (s59 : Unit) : Prop := ((rB (y34.length : Int)) ∧ True) ∧ (okFor (m_law_L2 y34 y14) (k_law_L2 y34 y14) (rng (y34.length : Int)) () fun (s89 : Unit) => True)
def m_law (a0 : Scr) : Ctl Empty Empty Bool := (vLet ((f_law_cell a0 (0 : Int)) % (7 : Int)) fun (y4 : Int) => (vLet (f_law_function (f_law_cell a0 (1 : Int)) y4) fun (y14 : (List (List Tx))) => (vLet ([(ixD y14 0), (ixD y14 1)] : (List (List Tx))) fun (y24 : (List (List Tx))) => (vLet (f_compact_cover (ixD y24 (0 : Int)) (ixD y24 (1 : Int))) fun (y34 : (List Tx)) => (cIf ((!eqB (ixD y24 (0 : Int)) (ixD y14 0)) || ((!eqB (ixD y24 (1 : Int)) (ixD y14 1)) || (!(f_law_is_cover y34 y4)))) (.rt false) (forC (ixD y14 0) (m_law_L1 y34) () fun (s59 : Unit) => (m_law_R1 y34 y14 s59)))))))
def f_law (a0 : Scr) : Bool := outC (m_law a0)
def k_law (a0 : Scr) : Prop := ((k_law_cell a0 (0 : Int)) ∧ True) ∧ (okLet ((f_law_cell a0 (0 : Int)) % (7 : Int)) fun (y4 : Int) => ((k_law_cell a0 (1 : Int)) ∧ (k_law_function (f_law_cell a0 (1 : Int)) y4) ∧ ((f_law_function (f_law_cell a0 (1 : Int)) y4).length = 2) ∧ True) ∧ (okLet (f_law_function (f_law_cell a0 (1 : Int)) y4) fun (y14 : (List (List Tx))) => okLet ([(ixD y14 0), (ixD y14 1)] : (List (List Tx))) fun (y24 : (List (List Tx))) => ((inB y24 (0 : Int)) ∧ (inB y24 (1 : Int)) ∧ (k_compact_cover (ixD y24 (0 : Int)) (ixD y24 (1 : Int))) ∧ True) ∧ (okLet (f_compact_cover (ixD y24 (0 : Int)) (ixD y24 (1 : Int))) fun (y34 : (List Tx)) => ((inB y24 (0 : Int)) ∧ ((!eqB (ixD y24 (0 : Int)) (ixD y14 0)) = false → ((inB y24 (1 : Int)) ∧ ((!eqB (ixD y24 (1 : Int)) (ixD y14 1)) = false → ((k_law_is_cover y34 y4) ∧ True)) ∧ True)) ∧ True) ∧ (okIf ((!eqB (ixD y24 (0 : Int)) (ixD y14 0)) || ((!eqB (ixD y24 (1 : Int)) (ixD y14 1)) || (!(f_law_is_cover y34 y4)))) (True) (okFor (m_law_L1 y34) (k_law_L1 y34) (ixD y14 0) () fun (s59 : Unit) => (k_law_R1 y34 y14 s59))))))
structure Txt (K : PySem.W.Frag) (mg : Str → Option Value) where
  a_law_draws : Addr
  d_law_draws : FuncData
  F_law_draws : Fun K "_law_draws" "_law_draws" s_law_draws a_law_draws d_law_draws
  b_law_draws : Binds K d_law_draws ["cell", "count"] []
  g_law_draws : mg "_law_draws" = some (.ref a_law_draws)
  a_law_code_of : Addr
  d_law_code_of : FuncData
  F_law_code_of : Fun K "_law_code_of" "_law_code_of" s_law_code_of a_law_code_of d_law_code_of
  b_law_code_of : Binds K d_law_code_of ["number", "width"] []
  g_law_code_of : mg "_law_code_of" = some (.ref a_law_code_of)
  a_law_codes : Addr
  d_law_codes : FuncData
  F_law_codes : Fun K "_law_codes" "_law_codes" s_law_codes a_law_codes d_law_codes
  b_law_codes : Binds K d_law_codes ["width"] []
  g_law_codes : mg "_law_codes" = some (.ref a_law_codes)
  a_law_function : Addr
  d_law_function : FuncData
  F_law_function : Fun K "_law_function" "_law_function" s_law_function a_law_function d_law_function
  b_law_function : Binds K d_law_function ["cell", "width"] []
  g_law_function : mg "_law_function" = some (.ref a_law_function)
  a_contains : Addr
  d_contains : FuncData
  F_contains : Fun K "contains" "contains" s_contains a_contains d_contains
  b_contains : Binds K d_contains ["cube", "code"] []
  g_contains : mg "contains" = some (.ref a_contains)
  a_cover_contains : Addr
  d_cover_contains : FuncData
  F_cover_contains : Fun K "cover_contains" "cover_contains" s_cover_contains a_cover_contains d_cover_contains
  b_cover_contains : Binds K d_cover_contains ["cover", "code"] []
  g_cover_contains : mg "cover_contains" = some (.ref a_cover_contains)
  a_contains_all : Addr
  d_contains_all : FuncData
  F_contains_all : Fun K "_contains_all" "_contains_all" s_contains_all a_contains_all d_contains_all
  b_contains_all : Binds K d_contains_all ["cover", "codes"] []
  g_contains_all : mg "_contains_all" = some (.ref a_contains_all)
  a_without_needless : Addr
  d_without_needless : FuncData
  F_without_needless : Fun K "_without_needless" "_without_needless" s_without_needless a_without_needless d_without_needless
  b_without_needless : Binds K d_without_needless ["cover", "on"] []
  g_without_needless : mg "_without_needless" = some (.ref a_without_needless)
  a_with_character : Addr
  d_with_character : FuncData
  F_with_character : Fun K "with_character" "with_character" s_with_character a_with_character d_with_character
  b_with_character : Binds K d_with_character ["cube", "index", "character"] []
  g_with_character : mg "with_character" = some (.ref a_with_character)
  a_contains_some : Addr
  d_contains_some : FuncData
  F_contains_some : Fun K "_contains_some" "_contains_some" s_contains_some a_contains_some d_contains_some
  b_contains_some : Binds K d_contains_some ["cube", "codes"] []
  g_contains_some : mg "_contains_some" = some (.ref a_contains_some)
  a_expand : Addr
  d_expand : FuncData
  F_expand : Fun K "expand" "expand" s_expand a_expand d_expand
  b_expand : Binds K d_expand ["cube", "off"] []
  g_expand : mg "expand" = some (.ref a_expand)
  a_compact_cover : Addr
  d_compact_cover : FuncData
  F_compact_cover : Fun K "compact_cover" "compact_cover" s_compact_cover a_compact_cover d_compact_cover
  b_compact_cover : Binds K d_compact_cover ["on", "off"] []
  g_compact_cover : mg "compact_cover" = some (.ref a_compact_cover)
  a_law_cell : Addr
  d_law_cell : FuncData
  F_law_cell : Fun K "_law_cell" "_law_cell" s_law_cell a_law_cell d_law_cell
  b_law_cell : Binds K d_law_cell ["script", "k"] []
  g_law_cell : mg "_law_cell" = some (.ref a_law_cell)
  a_law_is_cube : Addr
  d_law_is_cube : FuncData
  F_law_is_cube : Fun K "_law_is_cube" "_law_is_cube" s_law_is_cube a_law_is_cube d_law_is_cube
  b_law_is_cube : Binds K d_law_is_cube ["x", "width"] []
  g_law_is_cube : mg "_law_is_cube" = some (.ref a_law_is_cube)
  a_law_is_cover : Addr
  d_law_is_cover : FuncData
  F_law_is_cover : Fun K "_law_is_cover" "_law_is_cover" s_law_is_cover a_law_is_cover d_law_is_cover
  b_law_is_cover : Binds K d_law_is_cover ["x", "width"] []
  g_law_is_cover : mg "_law_is_cover" = some (.ref a_law_is_cover)
  a_law_in : Addr
  d_law_in : FuncData
  F_law_in : Fun K "_law_in" "_law_in" s_law_in a_law_in d_law_in
  b_law_in : Binds K d_law_in ["cube", "code"] []
  g_law_in : mg "_law_in" = some (.ref a_law_in)
  a_law_covered : Addr
  d_law_covered : FuncData
  F_law_covered : Fun K "_law_covered" "_law_covered" s_law_covered a_law_covered d_law_covered
  b_law_covered : Binds K d_law_covered ["cover", "code"] []
  g_law_covered : mg "_law_covered" = some (.ref a_law_covered)
  a_law_avoids : Addr
  d_law_avoids : FuncData
  F_law_avoids : Fun K "_law_avoids" "_law_avoids" s_law_avoids a_law_avoids d_law_avoids
  b_law_avoids : Binds K d_law_avoids ["cube", "off"] []
  g_law_avoids : mg "_law_avoids" = some (.ref a_law_avoids)
  a_law_with : Addr
  d_law_with : FuncData
  F_law_with : Fun K "_law_with" "_law_with" s_law_with a_law_with d_law_with
  b_law_with : Binds K d_law_with ["cube", "k", "sign"] []
  g_law_with : mg "_law_with" = some (.ref a_law_with)
  a_law_prime : Addr
  d_law_prime : FuncData
  F_law_prime : Fun K "_law_prime" "_law_prime" s_law_prime a_law_prime d_law_prime
  b_law_prime : Binds K d_law_prime ["cube", "off"] []
  g_law_prime : mg "_law_prime" = some (.ref a_law_prime)
  a_law : Addr
  d_law : FuncData
  F_law : Fun K "law" "law" s_law a_law d_law
  b_law : Binds K d_law ["script"] []
  g_law : mg "law" = some (.ref a_law)
  m_all : mg "all" = none
  m_any : mg "any" = none
  m_int : mg "int" = none
  m_isinstance : mg "isinstance" = none
  m_len : mg "len" = none
  m_list : mg "list" = none
  m_range : mg "range" = none
  m_reversed : mg "reversed" = none
  m_sorted : mg "sorted" = none
  m_str : mg "str" = none
  m_zip : mg "zip" = none
section
variable {P : Program} {w : World} {K : PySem.W.Frag} {mg : Str → Option Value} {base : Heap}
abbrev N_law_draws : List Str := ["cell", "count", "rows", "rest", "k", "mixed"]
abbrev F_law_draws : Int × Int × Unit → (List Int) := fun x => f_law_draws x.1 x.2.1
abbrev K_law_draws : Int × Int × Unit → Prop := fun x => k_law_draws x.1 x.2.1
theorem sc_law_draws : FnScope N_law_draws ["cell", "count"] (defScope s_law_draws) := ⟨rfl, rfl, rfl, by decide +kernel, rfl, by decide +kernel, by decide +kernel⟩
theorem ok_law_draws (T : Txt K mg) : FnOk P w K mg base CX0 1 T.a_law_draws T.d_law_draws ["cell", "count"] (spF K F_law_draws K_law_draws) := by
  refine T.F_law_draws.ok sc_law_draws (fun vs H Q E h => ?_) (fun cdv A outer s H vs Q E hr h => ?_)
  · obtain ⟨ps, x, _, hx, _⟩ := h
    obtain ⟨u0, r0, rfl, z0, u1, r1, rfl, z1, rfl⟩ := hx
    rfl
  · obtain ⟨ps0, ⟨a0, a1, _⟩, dm, ⟨u0, r0, rfl, z0, u1, r1, rfl, z1, rfl⟩, hok, q⟩ := h
    have hok : k_law_draws a0 a1 := hok
    refine ⟨_, (pss_cons (ps_set (i := 2) sc_law_draws.nd rfl (Or.inl rfl) (pe_lst pa_nil)) (pss_cons (ps_set (i := 3) sc_law_draws.nd rfl (Or.inl rfl) (pv 0)) (pss_cons (ps_for PassesOwn.never rfl (pi_range1 (by rfl) T.m_range (pa_cons (pv 1) pa_nil)) (pg_name (i := 4) sc_law_draws.nd rfl (Or.inl rfl)) (pss_one (ps_if (PW.pt (pw_and (pt_cmpR op_ge (pv 0) (pe_op op_pow pe_int pe_int) (nomark _)) (pw_and1 (pt_cmpR op_gt (pv 3) pe_int (nomark _))))) (pss_cons (ps_expr (pe_bm PySem.F.plainAttrs_list PySem.F.slot_list_append PySem.F.type_list_append mt_append (pv 2) (pa_cons (pe_op op_mod (pe_callTy ct_int (by rfl) T.m_int (by decide +kernel) (pa_cons (pv 3) pa_nil)) pe_int) pa_nil))) (pss_cons (ps_set (i := 3) sc_law_draws.nd rfl (Or.inl rfl) (pe_op op_fdivW (pv 3) pe_int)) pss_nil)) (pss_cons (ps_set (i := 5) sc_law_draws.nd rfl (Or.inl rfl) (pe_op op_mod (pe_callTy ct_int (by rfl) T.m_int (by decide +kernel) (pa_cons (pe_op op_add (pe_op op_mulG (pv 0) pe_int) (pe_op op_mulG (pe_op op_add (pv 4) pe_int) pe_int)) pa_nil)) pe_int)) (pss_cons (ps_set (i := 5) sc_law_draws.nd rfl (Or.inl rfl) (pe_op op_mod (pe_callTy ct_int (by rfl) T.m_int (by decide +kernel) (pa_cons (pe_op op_add (pe_op op_add (pe_op op_mulG (pv 5) (pv 5)) (pe_op op_mulG (pv 5) pe_int)) (pe_op op_mulG (pv 4) pe_int)) pa_nil)) pe_int)) (pss_cons (ps_set (i := 5) sc_law_draws.nd rfl (Or.inl rfl) (pe_op op_mod (pe_callTy ct_int (by rfl) T.m_int (by decide +kernel) (pa_cons (pe_op op_add (pe_op op_add (pe_op op_mulG (pv 5) (pv 5)) (pv 0)) (pe_op op_mulG pe_int (pv 4))) pa_nil)) pe_int)) (pss_cons (ps_expr (pe_bm PySem.F.plainAttrs_list PySem.F.slot_list_append PySem.F.type_list_append mt_append (pv 2) (pa_cons (pe_op op_mod (pe_op op_fdivW (pv 5) pe_int) pe_int) pa_nil))) pss_nil))))))) (pss_one (ps_ret (pv 2)))))), fn_go (ps0 := ps0) (c := m_law_draws a0 a1) (r := f_law_draws a0 a1) ?_ (rt_of _) q⟩
    have st0 : Stt K 6 H ps0 (mn H ps0) (start N_law_draws [u0, u1]) H [] [bd 0 a0, bd 1 a1] := stt0 rfl dm (asl_cons (i := 0) rfl z0 (asl_cons (i := 1) rfl z1 asl_nil))
    unfold m_law_draws
    unfold k_law_draws at hok
    refine d_nil Int st0 (by decide) noO_nil (subN_cons (List.Mem.head _) (by decide) (subN_cons (List.Mem.tail _ (List.Mem.head _)) (by decide) subN_nil)) fun p4 s5 H6 st7 => ?_
    refine d_let (ok := fun (y11 : Int) => ((rB a1) ∧ True) ∧ (okFor (m_law_draws_L1 a0) (k_law_draws_L1 a0) (rng a1) (([] : (List Int)), y11) fun (s21 : ((List Int) × Int)) => True)) st7 (st7.k.var (List.Mem.head _)) hok (by decide) (noO_cons (by decide) noO_nil) (subN_cons (List.Mem.head _) (by decide) (subN_cons (List.Mem.tail _ (List.Mem.head _)) (by decide) subN_nil)) fun y11 s12 H13 w15 k16 st14 => ?_
    obtain ⟨e18, k105⟩ := k16
    refine d_loop (f := (m_law_draws_L1 a0)) (ok := (k_law_draws_L1 a0)) (s0 := (([] : (List Int)), y11)) (q := fun (s21 : ((List Int) × Int)) => True) (fun (s21 : ((List Int) × Int)) => [od 2 p4 s21.1]) (fun (s21 : ((List Int) × Int)) => [bd 3 s21.2, bd 0 a0, bd 1 a1]) st14 (ei_rng (st14.k.var (List.Mem.tail _ (List.Mem.tail _ (List.Mem.head _)))) (e18).1) k105 (fun H108 Hb109 st110 => st110.less (sub_cons (List.Mem.head _) (sub_cons (List.Mem.tail _ (List.Mem.head _)) (sub_cons (List.Mem.tail _ (List.Mem.tail _ (List.Mem.head _))) sub_nil)))) (by decide) (fun s21 => (noO_cons (by decide) noO_nil)) (fun s21 => (noI_cons (by decide) (noI_cons (by decide) (noI_cons (by decide) noI_nil)))) (fun Hb23 x22 s21 s24 H25 h26 k27 st28 => ?_) (fun s21 s100 H101 w102 k103 st104 => ?_)
    · unfold m_law_draws_L1
      unfold k_law_draws_L1 at k27
      obtain ⟨e29, k33⟩ := k27
      refine d_if (p := ((s21.1.length < 100000) ∧ True) ∧ (okLet (s21.1 ++ [(s21.2 % (4096 : Int))]) fun (y45 : (List Int)) => okLet (s21.2 / (4096 : Int)) fun (y54 : Int) => True)) (q := ((CMulX a0 (48271 : Int)) ∧ (CMulX (x22 + (1 : Int)) (69621 : Int)) ∧ True) ∧ (okLet (((a0 * (48271 : Int)) + ((x22 + (1 : Int)) * (69621 : Int))) % (2147483647 : Int)) fun (y64 : Int) => ((CMulX y64 y64) ∧ (CMulX y64 (16807 : Int)) ∧ (CMulX x22 (7919 : Int)) ∧ True) ∧ (okLet ((((y64 * y64) + (y64 * (16807 : Int))) + (x22 * (7919 : Int))) % (2147483629 : Int)) fun (y74 : Int) => ((CMulX y74 y74) ∧ (CMulX (13 : Int) x22) ∧ True) ∧ (okLet ((((y74 * y74) + a0) + ((13 : Int) * x22)) % (2147483587 : Int)) fun (y84 : Int) => ((s21.1.length < 100000) ∧ True) ∧ (okLet (s21.1 ++ [((y84 / (7 : Int)) % (4096 : Int))]) fun (y94 : (List Int)) => True))))) st28 (et_and (et_cmp (er_ge (st28.k.var (List.Mem.tail _ (List.Mem.tail _ (List.Mem.head _)))) (er_pow er_int er_int (e29).1))) (fun h32 => (et_cmp (er_gt (st28.k.var (List.Mem.tail _ (List.Mem.head _))) er_int)))) k33 (fun H34 b35 k36 st37 => ?_) (fun H38 b39 k40 st41 => ?_)
      · obtain ⟨e42, k50⟩ := k36
        refine d_append (ok := fun (y45 : (List Int)) => okLet (s21.2 / (4096 : Int)) fun (y54 : Int) => True) st37 (er_mod (er_intI (st37.k.var (List.Mem.tail _ (List.Mem.head _)))) er_int (by decide)) (e42).1 k50 fun y45 H46 w48 k49 st47 => ?_
        refine d_let (ok := fun (y54 : Int) => True) st47 (er_fdiv (st47.k.var (List.Mem.tail _ (List.Mem.head _))) er_int ⟨by decide, by decide +kernel⟩) k49 (by decide) (noO_cons (by decide) noO_nil) (subN_cons (List.Mem.head _) (by decide) (subN_cons (List.Mem.tail _ (List.Mem.tail _ (List.Mem.head _))) (by decide) (subN_cons (List.Mem.tail _ (List.Mem.tail _ (List.Mem.tail _ (List.Mem.head _)))) (by decide) subN_nil))) fun y54 s55 H56 w58 k59 st57 => ?_
        exact d_end (st57.less (sub_cons (List.Mem.head _) (sub_cons (List.Mem.tail _ (List.Mem.tail _ (List.Mem.head _))) (sub_cons (List.Mem.tail _ (List.Mem.tail _ (List.Mem.tail _ (List.Mem.head _)))) sub_nil))))
      · obtain ⟨e61, k70⟩ := k40
        refine d_let (ok := fun (y64 : Int) => ((CMulX y64 y64) ∧ (CMulX y64 (16807 : Int)) ∧ (CMulX x22 (7919 : Int)) ∧ True) ∧ (okLet ((((y64 * y64) + (y64 * (16807 : Int))) + (x22 * (7919 : Int))) % (2147483629 : Int)) fun (y74 : Int) => ((CMulX y74 y74) ∧ (CMulX (13 : Int) x22) ∧ True) ∧ (okLet ((((y74 * y74) + a0) + ((13 : Int) * x22)) % (2147483587 : Int)) fun (y84 : Int) => ((s21.1.length < 100000) ∧ True) ∧ (okLet (s21.1 ++ [((y84 / (7 : Int)) % (4096 : Int))]) fun (y94 : (List Int)) => True)))) st41 (er_mod (er_intI (er_add (er_mulX (st41.k.var (List.Mem.tail _ (List.Mem.tail _ (List.Mem.head _)))) er_int (e61).1) (er_mulX (er_add (st41.k.var (List.Mem.head _)) er_int) er_int (e61).2.1))) er_int (by decide)) k70 (by decide) (noO_cons (by decide) noO_nil) (subN_cons (List.Mem.head _) (by decide) (subN_cons (List.Mem.tail _ (List.Mem.head _)) (by decide) (subN_cons (List.Mem.tail _ (List.Mem.tail _ (List.Mem.head _))) (by decide) (subN_cons (List.Mem.tail _ (List.Mem.tail _ (List.Mem.tail _ (List.Mem.head _)))) (by decide) subN_nil)))) fun y64 s65 H66 w68 k69 st67 => ?_
        obtain ⟨e71, k80⟩ := k69
        refine d_let (ok := fun (y74 : Int) => ((CMulX y74 y74) ∧ (CMulX (13 : Int) x22) ∧ True) ∧ (okLet ((((y74 * y74) + a0) + ((13 : Int) * x22)) % (2147483587 : Int)) fun (y84 : Int) => ((s21.1.length < 100000) ∧ True) ∧ (okLet (s21.1 ++ [((y84 / (7 : Int)) % (4096 : Int))]) fun (y94 : (List Int)) => True))) st67 (er_mod (er_intI (er_add (er_add (er_mulX (st67.k.var (List.Mem.head _)) (st67.k.var (List.Mem.head _)) (e71).1) (er_mulX (st67.k.var (List.Mem.head _)) er_int (e71).2.1)) (er_mulX (st67.k.var (List.Mem.tail _ (List.Mem.head _))) er_int (e71).2.2.1))) er_int (by decide)) k80 (by decide) (noO_cons (by decide) noO_nil) (subN_cons (List.Mem.tail _ (List.Mem.head _)) (by decide) (subN_cons (List.Mem.tail _ (List.Mem.tail _ (List.Mem.head _))) (by decide) (subN_cons (List.Mem.tail _ (List.Mem.tail _ (List.Mem.tail _ (List.Mem.head _)))) (by decide) (subN_cons (List.Mem.tail _ (List.Mem.tail _ (List.Mem.tail _ (List.Mem.tail _ (List.Mem.head _))))) (by decide) subN_nil)))) fun y74 s75 H76 w78 k79 st77 => ?_
        obtain ⟨e81, k90⟩ := k79
        refine d_let (ok := fun (y84 : Int) => ((s21.1.length < 100000) ∧ True) ∧ (okLet (s21.1 ++ [((y84 / (7 : Int)) % (4096 : Int))]) fun (y94 : (List Int)) => True)) st77 (er_mod (er_intI (er_add (er_add (er_mulX (st77.k.var (List.Mem.head _)) (st77.k.var (List.Mem.head _)) (e81).1) (st77.k.var (List.Mem.tail _ (List.Mem.tail _ (List.Mem.tail _ (List.Mem.head _)))))) (er_mulX er_int (st77.k.var (List.Mem.tail _ (List.Mem.head _))) (e81).2.1))) er_int (by decide)) k90 (by decide) (noO_cons (by decide) noO_nil) (subN_cons (List.Mem.tail _ (List.Mem.head _)) (by decide) (subN_cons (List.Mem.tail _ (List.Mem.tail _ (List.Mem.head _))) (by decide) (subN_cons (List.Mem.tail _ (List.Mem.tail _ (List.Mem.tail _ (List.Mem.head _)))) (by decide) (subN_cons (List.Mem.tail _ (List.Mem.tail _ (List.Mem.tail _ (List.Mem.tail _ (List.Mem.head _))))) (by decide) subN_nil)))) fun y84 s85 H86 w88 k89 st87 => ?_
        obtain ⟨e91, k99⟩ := k89
        refine d_append (ok := fun (y94 : (List Int)) => True) st87 (er_mod (er_fdiv (st87.k.var (List.Mem.head _)) er_int ⟨by decide, by decide +kernel⟩) er_int (by decide)) (e91).1 k99 fun y94 H95 w97 k98 st96 => ?_
        exact d_end (st96.less (sub_cons (List.Mem.tail _ (List.Mem.tail _ (List.Mem.head _))) (sub_cons (List.Mem.tail _ (List.Mem.tail _ (List.Mem.tail _ (List.Mem.head _)))) (sub_cons (List.Mem.tail _ (List.Mem.tail _ (List.Mem.tail _ (List.Mem.tail _ (List.Mem.head _))))) sub_nil))))
    · have st106 := st104.frz
      exact d_retS st106 (st106.k.var (List.Mem.head _))
abbrev N_law_code_of : List Str := ["number", "width", "text", "k"]
abbrev F_law_code_of : Int × Int × Unit → Tx := fun x => f_law_code_of x.1 x.2.1
abbrev K_law_code_of : Int × Int × Unit → Prop := fun x => k_law_code_of x.1 x.2.1
theorem sc_law_code_of : FnScope N_law_code_of ["number", "width"] (defScope s_law_code_of) := ⟨rfl, rfl, rfl, by decide +kernel, rfl, by decide +kernel, by decide +kernel⟩
theorem ok_law_code_of (T : Txt K mg) : FnOk P w K mg base CX0 1 T.a_law_code_of T.d_law_code_of ["number", "width"] (spF K F_law_code_of K_law_code_of) := by
  refine T.F_law_code_of.ok sc_law_code_of (fun vs H Q E h => ?_) (fun cdv A outer s H vs Q E hr h => ?_)
  · obtain ⟨ps, x, _, hx, _⟩ := h
    obtain ⟨u0, r0, rfl, z0, u1, r1, rfl, z1, rfl⟩ := hx
    rfl
  · obtain ⟨ps0, ⟨a0, a1, _⟩, dm, ⟨u0, r0, rfl, z0, u1, r1, rfl, z1, rfl⟩, hok, q⟩ := h
    have hok : k_law_code_of a0 a1 := hok
    refine ⟨_, (pss_cons (ps_set (i := 2) sc_law_code_of.nd rfl (Or.inl rfl) pe_str) (pss_cons (ps_for PassesOwn.never rfl (pi_range1 (by rfl) T.m_range (pa_cons (pv 1) pa_nil)) (pg_name (i := 3) sc_law_code_of.nd rfl (Or.inl rfl)) (pss_cons (ps_set (i := 2) sc_law_code_of.nd rfl (Or.inl rfl) (pe_op op_catS (pe_ix ix_str pe_str (pe_op op_mod (pv 0) pe_int) (fun _ _ => rfl)) (pv 2))) (pss_cons (ps_set (i := 0) sc_law_code_of.nd rfl (Or.inl rfl) (pe_op op_fdivW (pv 0) pe_int)) pss_nil))) (pss_one (ps_ret (pv 2))))), fn_go (ps0 := ps0) (c := m_law_code_of a0 a1) (r := f_law_code_of a0 a1) ?_ (rt_of _) q⟩
    have st0 : Stt K 4 H ps0 (mn H ps0) (start N_law_code_of [u0, u1]) H [] [bd 0 a0, bd 1 a1] := stt0 rfl dm (asl_cons (i := 0) rfl z0 (asl_cons (i := 1) rfl z1 asl_nil))
    unfold m_law_code_of
    unfold k_law_code_of at hok
    refine d_let (ok := fun (y4 : Tx) => ((rB a1) ∧ True) ∧ (okFor (m_law_code_of_L1) (k_law_code_of_L1) (rng a1) (y4, a0) fun (s14 : (Tx × Int)) => True)) st0 (er_str (s := "")) hok (by decide) noO_nil (subN_cons (List.Mem.head _) (by decide) (subN_cons (List.Mem.tail _ (List.Mem.head _)) (by decide) subN_nil)) fun y4 s5 H6 w8 k9 st7 => ?_
    obtain ⟨e11, k47⟩ := k9
    refine d_loop (f := (m_law_code_of_L1)) (ok := (k_law_code_of_L1)) (s0 := (y4, a0)) (q := fun (s14 : (Tx × Int)) => True) (fun (s14 : (Tx × Int)) => []) (fun (s14 : (Tx × Int)) => [bd 0 s14.2, bd 2 s14.1, bd 1 a1]) st7 (ei_rng (st7.k.var (List.Mem.tail _ (List.Mem.tail _ (List.Mem.head _)))) (e11).1) k47 (fun H49 Hb50 st51 => st51.less (sub_cons (List.Mem.tail _ (List.Mem.head _)) (sub_cons (List.Mem.head _) (sub_cons (List.Mem.tail _ (List.Mem.tail _ (List.Mem.head _))) sub_nil)))) (by decide) (fun s14 => noO_nil) (fun s14 => (noI_cons (by decide) (noI_cons (by decide) (noI_cons (by decide) noI_nil)))) (fun Hb16 x15 s14 s17 H18 h19 k20 st21 => ?_) (fun s14 s42 H43 w44 k45 st46 => ?_)
    · unfold m_law_code_of_L1
      unfold k_law_code_of_L1 at k20
      obtain ⟨e22, k31⟩ := k20
      refine d_let (ok := fun (y25 : Tx) => okLet (s14.2 / (2 : Int)) fun (y35 : Int) => True) st21 (er_catS (er_ixS (er_str (s := "01")) (er_mod (st21.k.var (List.Mem.tail _ (List.Mem.head _))) er_int (by decide)) (e22).1 (e22).2.1) (st21.k.var (List.Mem.tail _ (List.Mem.tail _ (List.Mem.head _)))) (e22).2.2.1) k31 (by decide) noO_nil (subN_cons (List.Mem.head _) (by decide) (subN_cons (List.Mem.tail _ (List.Mem.head _)) (by decide) (subN_cons (List.Mem.tail _ (List.Mem.tail _ (List.Mem.tail _ (List.Mem.head _)))) (by decide) subN_nil))) fun y25 s26 H27 w29 k30 st28 => ?_
      refine d_let (ok := fun (y35 : Int) => True) st28 (er_fdiv (st28.k.var (List.Mem.tail _ (List.Mem.tail _ (List.Mem.head _)))) er_int ⟨by decide, by decide +kernel⟩) k30 (by decide) noO_nil (subN_cons (List.Mem.head _) (by decide) (subN_cons (List.Mem.tail _ (List.Mem.head _)) (by decide) (subN_cons (List.Mem.tail _ (List.Mem.tail _ (List.Mem.tail _ (List.Mem.head _)))) (by decide) subN_nil))) fun y35 s36 H37 w39 k40 st38 => ?_
      exact d_end (st38.less (sub_cons (List.Mem.head _) (sub_cons (List.Mem.tail _ (List.Mem.head _)) (sub_cons (List.Mem.tail _ (List.Mem.tail _ (List.Mem.tail _ (List.Mem.head _)))) sub_nil))))
    · exact d_retS st46 (st46.k.var (List.Mem.tail _ (List.Mem.head _)))
abbrev N_law_codes : List Str := ["width", "many", "number"]
abbrev F_law_codes : Int × Unit → (List Tx) := fun x => f_law_codes x.1
abbrev K_law_codes : Int × Unit → Prop := fun x => k_law_codes x.1
theorem sc_law_codes : FnScope N_law_codes ["width"] (defScope s_law_codes) := ⟨rfl, rfl, rfl, by decide +kernel, rfl, by decide +kernel, by decide +kernel⟩
theorem ok_law_codes (T : Txt K mg) : FnOk P w K mg base CX0 2 T.a_law_codes T.d_law_codes ["width"] (spF K F_law_codes K_law_codes) := by
  refine T.F_law_codes.ok sc_law_codes (fun vs H Q E h => ?_) (fun cdv A outer s H vs Q E hr h => ?_)
  · obtain ⟨ps, x, _, hx, _⟩ := h
    obtain ⟨u0, r0, rfl, z0, rfl⟩ := hx
    rfl
  · obtain ⟨ps0, ⟨a0, _⟩, dm, ⟨u0, r0, rfl, z0, rfl⟩, hok, q⟩ := h
    have hok : k_law_codes a0 := hok
    refine ⟨_, (pss_cons (ps_set (i := 1) sc_law_codes.nd rfl (Or.inl rfl) (pe_ix (kix_list K rfl) (pe_lst (pa_cons pe_int (pa_cons pe_int (pa_cons pe_int (pa_cons pe_int (pa_cons pe_int (pa_cons pe_int (pa_cons pe_int (pa_cons pe_int (pa_cons pe_int pa_nil)))))))))) (pv 0) (fun _ _ => rfl))) (pss_one (ps_ret (pe_lc (own := [("number", 2)]) (g := (gName 2)) (tt := tYes) rfl sc_law_codes.nd (pi_range1 (by rfl) T.m_range (pa_cons (pv 1) pa_nil)) (blkOk_by (own := [("number", 2)]) (N := N_law_codes) (sc := defScope s_law_codes) (by decide +kernel)) (fun _ _ _ _ _ => (pg_name (i := 2) sc_law_codes.nd rfl (Or.inl rfl))) (fun _ _ _ _ _ => pts_nil) (fun _ _ _ _ _ => (pe_call (ok_law_code_of T) (hr.mono (by omega)) (by rfl) T.g_law_code_of T.F_law_code_of.kp T.b_law_code_of .nil pass0 (pa_cons (pv 2) (pa_cons (pv 0) pa_nil)))))))), fn_go (ps0 := ps0) (c := m_law_codes a0) (r := f_law_codes a0) ?_ (rt_of _) q⟩
    have st0 : Stt K 3 H ps0 (mn H ps0) (start N_law_codes [u0]) H [] [bd 0 a0] := stt0 rfl dm (asl_cons (i := 0) rfl z0 asl_nil)
    unfold m_law_codes
    unfold k_law_codes at hok
    obtain ⟨e1, k10⟩ := hok
    refine d_let (ok := fun (y4 : Int) => (rB y4) ∧ ((rng y4).length ≤ 100000) ∧ (∀ x12 ∈ (rng y4), ((k_law_code_of x12 a0) ∧ True)) ∧ True) st0 (er_ixL (er_lst (el_cons er_int (el_cons er_int (el_cons er_int (el_cons er_int (el_cons er_int (el_cons er_int (el_cons er_int (el_cons er_int (el_cons er_int el_nil))))))))) (len_le 9 rfl (by decide))) (st0.k.var (List.Mem.head _)) (e1).1) k10 (by decide) noO_nil (subN_cons (List.Mem.head _) (by decide) subN_nil) fun y4 s5 H6 w8 k9 st7 => ?_
    have e11 := k9
    exact d_retS st7 (er_lcM (h := fun x12 => (f_law_code_of x12 a0)) [bd 1 y4, bd 0 a0] st7.k (ei_rng (st7.k.var (List.Mem.head _)) (e11).1) (e11).2.1 (by decide) (by decide) (subV_cons (List.Mem.head _) (by decide) (subV_cons (List.Mem.tail _ (List.Mem.head _)) (by decide) subV_nil)) (fun P16 x12 s17 H18 h14 q13 => ((er_call (f := F_law_code_of) (ok := K_law_code_of) (ea_cons (q13.var (List.Mem.head _)) (ea_cons (q13.var (List.Mem.tail _ (List.Mem.tail _ (List.Mem.head _)))) ea_nil)) ((e11).2.2.1 x12 h14).1).is rfl)))
abbrev N_law_function : List Str := ["cell", "width", "draws", "on", "off", "codes", "share", "k", "draw"]
abbrev F_law_function : Int × Int × Unit → (List (List Tx)) := fun x => f_law_function x.1 x.2.1
abbrev K_law_function : Int × Int × Unit → Prop := fun x => k_law_function x.1 x.2.1
theorem sc_law_function : FnScope N_law_function ["cell", "width"] (defScope s_law_function) := ⟨rfl, rfl, rfl, by decide +kernel, rfl, by decide +kernel, by decide +kernel⟩
theorem ok_law_function (T : Txt K mg) : FnOk P w K mg base CX0 3 T.a_law_function T.d_law_function ["cell", "width"] (spF K F_law_function K_law_function) := by
  refine T.F_law_function.ok sc_law_function (fun vs H Q E h => ?_) (fun cdv A outer s H vs Q E hr h => ?_)
  · obtain ⟨ps, x, _, hx, _⟩ := h
    obtain ⟨u0, r0, rfl, z0, u1, r1, rfl, z1, rfl⟩ := hx
    rfl
  · obtain ⟨ps0, ⟨a0, a1, _⟩, dm, ⟨u0, r0, rfl, z0, u1, r1, rfl, z1, rfl⟩, hok, q⟩ := h
    have hok : k_law_function a0 a1 := hok
    refine ⟨_, (pss_cons (ps_set (i := 2) sc_law_function.nd rfl (Or.inl rfl) (pe_call (ok_law_draws T) (hr.mono (by omega)) (by rfl) T.g_law_draws T.F_law_draws.kp T.b_law_draws .nil pass0 (pa_cons (pv 0) (pa_cons pe_int pa_nil)))) (pss_cons (ps_set (i := 3) sc_law_function.nd rfl (Or.inl rfl) (pe_lst pa_nil)) (pss_cons (ps_set (i := 4) sc_law_function.nd rfl (Or.inl rfl) (pe_lst pa_nil)) (pss_cons (ps_set (i := 5) sc_law_function.nd rfl (Or.inl rfl) (pe_call (ok_law_codes T) (hr.mono (by omega)) (by rfl) T.g_law_codes T.F_law_codes.kp T.b_law_codes .nil pass0 (pa_cons (pv 1) pa_nil))) (pss_cons (ps_set (i := 6) sc_law_function.nd rfl (Or.inl rfl) (pe_op op_add pe_int (pe_op op_mod (pe_ix (kix_list K rfl) (pv 2) pe_int (fun _ _ => rfl)) pe_int))) (pss_cons (ps_for PassesOwn.never rfl (pi_range1 (by rfl) T.m_range (pa_cons (pe_callB (kcb_lenQ K rfl) (by rfl) T.m_len (by decide +kernel) (pa_cons (pv 5) pa_nil)) pa_nil)) (pg_name (i := 7) sc_law_function.nd rfl (Or.inl rfl)) (pss_cons (ps_set (i := 8) sc_law_function.nd rfl (Or.inl rfl) (pe_op op_mod (pe_op op_fdivW (pe_ix (kix_list K rfl) (pv 2) (pe_op op_mod (pe_op op_add (pv 7) (pe_ix (kix_list K rfl) (pv 2) pe_int (fun _ _ => rfl))) pe_int) (fun _ _ => rfl)) (pe_ix (kix_list K rfl) (pe_lst (pa_cons pe_int (pa_cons pe_int pa_nil))) (pe_op op_mod (pe_op op_fdivW (pv 7) pe_int) pe_int) (fun _ _ => rfl))) (pv 6))) (pss_cons (ps_if (pt_cmpR op_ge (pv 7) pe_int (nomark _)) (pss_cons (ps_set (i := 8) sc_law_function.nd rfl (Or.inl rfl) (pe_op op_mod (pe_op op_add (pv 8) (pe_ix (kix_list K rfl) (pv 2) (pe_op op_mod (pv 7) pe_int) (fun _ _ => rfl))) (pv 6))) pss_nil) pss_nil) (pss_cons (ps_if (pt_cmpR op_eq (pv 8) pe_int (nomark _)) (pss_cons (ps_expr (pe_bm PySem.F.plainAttrs_list PySem.F.slot_list_append PySem.F.type_list_append mt_append (pv 3) (pa_cons (pe_ix (kix_list K rfl) (pv 5) (pv 7) (fun _ _ => rfl)) pa_nil))) pss_nil) pss_nil) (pss_one (ps_if (pt_cmpR op_eq (pv 8) pe_int (nomark _)) (pss_cons (ps_expr (pe_bm PySem.F.plainAttrs_list PySem.F.slot_list_append PySem.F.type_list_append mt_append (pv 4) (pa_cons (pe_ix (kix_list K rfl) (pv 5) (pv 7) (fun _ _ => rfl)) pa_nil))) pss_nil) pss_nil)))))) (pss_cons (ps_if (pt_cmpR op_eq (pe_op op_mod (pe_ix (kix_list K rfl) (pv 2) pe_int (fun _ _ => rfl)) pe_int) pe_int (nomark _)) (pss_cons (ps_set (i := 3) sc_law_function.nd rfl (Or.inl rfl) (pe_op op_cat (kpe_revL K rfl (pv 3)) (pe_slice (ksl_list K rfl) (pv 3) po_none (po_some pe_int)))) (pss_cons (ps_set (i := 4) sc_law_function.nd rfl (Or.inl rfl) (pe_op op_cat (pv 4) (pe_slice (ksl_list K rfl) (pv 4) (po_some (pe_un un_neg pe_int)) po_none))) pss_nil)) pss_nil) (pss_one (ps_ret (pe_lst (pa_cons (pv 3) (pa_cons (pv 4) pa_nil)))))))))))), fn_go (ps0 := ps0) (c := m_law_function a0 a1) (r := f_law_function a0 a1) ?_ (rt_of _) q⟩
    have st0 : Stt K 9 H ps0 (mn H ps0) (start N_law_function [u0, u1]) H [] [bd 0 a0, bd 1 a1] := stt0 rfl dm (asl_cons (i := 0) rfl z0 (asl_cons (i := 1) rfl z1 asl_nil))
    unfold m_law_function
    unfold k_law_function at hok
    obtain ⟨e1, k10⟩ := hok
    refine d_let (ok := fun (y4 : (List Int)) => ((k_law_codes a1) ∧ True) ∧ (okLet (f_law_codes a1) fun (y28 : (List Tx)) => ((inB y4 (39 : Int)) ∧ True) ∧ (okLet ((3 : Int) + ((ixD y4 (39 : Int)) % (3 : Int))) fun (y38 : Int) => ((rB (y28.length : Int)) ∧ True) ∧ (okFor (m_law_function_L1 y38 y28 y4) (k_law_function_L1 y38 y28 y4) (rng (y28.length : Int)) (([] : (List Tx)), ([] : (List Tx))) fun (s48 : ((List Tx) × (List Tx))) => (k_law_function_R3 y4 s48))))) st0 ((er_call (f := F_law_draws) (ok := K_law_draws) (ea_cons (st0.k.var (List.Mem.head _)) (ea_cons er_int ea_nil)) (e1).1).is rfl) k10 (by decide) noO_nil (subN_cons (List.Mem.head _) (by decide) (subN_cons (List.Mem.tail _ (List.Mem.head _)) (by decide) subN_nil)) fun y4 s5 H6 w8 k9 st7 => ?_
    refine d_nil Tx st7 (by decide) noO_nil (subN_cons (List.Mem.head _) (by decide) (subN_cons (List.Mem.tail _ (List.Mem.head _)) (by decide) (subN_cons (List.Mem.tail _ (List.Mem.tail _ (List.Mem.head _))) (by decide) subN_nil))) fun p14 s15 H16 st17 => ?_
    refine d_nil Tx st17 (by decide) (noO_cons (by decide) noO_nil) (subN_cons (List.Mem.head _) (by decide) (subN_cons (List.Mem.tail _ (List.Mem.head _)) (by decide) (subN_cons (List.Mem.tail _ (List.Mem.tail _ (List.Mem.head _))) (by decide) subN_nil))) fun p21 s22 H23 st24 => ?_
    obtain ⟨e25, k34⟩ := k9
    refine d_let (ok := fun (y28 : (List Tx)) => ((inB y4 (39 : Int)) ∧ True) ∧ (okLet ((3 : Int) + ((ixD y4 (39 : Int)) % (3 : Int))) fun (y38 : Int) => ((rB (y28.length : Int)) ∧ True) ∧ (okFor (m_law_function_L1 y38 y28 y4) (k_law_function_L1 y38 y28 y4) (rng (y28.length : Int)) (([] : (List Tx)), ([] : (List Tx))) fun (s48 : ((List Tx) × (List Tx))) => (k_law_function_R3 y4 s48)))) st24 ((er_call (f := F_law_codes) (ok := K_law_codes) (ea_cons (st24.k.var (List.Mem.tail _ (List.Mem.tail _ (List.Mem.head _)))) ea_nil) (e25).1).is rfl) k34 (by decide) (noO_cons (by decide) (noO_cons (by decide) noO_nil)) (subN_cons (List.Mem.head _) (by decide) (subN_cons (List.Mem.tail _ (List.Mem.head _)) (by decide) (subN_cons (List.Mem.tail _ (List.Mem.tail _ (List.Mem.head _))) (by decide) subN_nil))) fun y28 s29 H30 w32 k33 st31 => ?_
    obtain ⟨e35, k44⟩ := k33
    refine d_let (ok := fun (y38 : Int) => ((rB (y28.length : Int)) ∧ True) ∧ (okFor (m_law_function_L1 y38 y28 y4) (k_law_function_L1 y38 y28 y4) (rng (y28.length : Int)) (([] : (List Tx)), ([] : (List Tx))) fun (s48 : ((List Tx) × (List Tx))) => (k_law_function_R3 y4 s48))) st31 (er_add er_int (er_mod (er_ixL (st31.k.var (List.Mem.tail _ (List.Mem.head _))) er_int (e35).1) er_int (by decide))) k44 (by decide) (noO_cons (by decide) (noO_cons (by decide) noO_nil)) (subN_cons (List.Mem.head _) (by decide) (subN_cons (List.Mem.tail _ (List.Mem.head _)) (by decide) (subN_cons (List.Mem.tail _ (List.Mem.tail _ (List.Mem.head _))) (by decide) (subN_cons (List.Mem.tail _ (List.Mem.tail _ (List.Mem.tail _ (List.Mem.head _)))) (by decide) subN_nil)))) fun y38 s39 H40 w42 k43 st41 => ?_
    obtain ⟨e45, k151⟩ := k43
    refine d_loop (f := (m_law_function_L1 y38 y28 y4)) (ok := (k_law_function_L1 y38 y28 y4)) (s0 := (([] : (List Tx)), ([] : (List Tx)))) (q := fun (s48 : ((List Tx) × (List Tx))) => (k_law_function_R3 y4 s48)) (fun (s48 : ((List Tx) × (List Tx))) => [od 4 p21 s48.2, od 3 p14 s48.1]) (fun (s48 : ((List Tx) × (List Tx))) => [bd 6 y38, bd 5 y28, bd 2 y4, bd 0 a0, bd 1 a1]) st41 (ei_rng (er_lenL (st41.k.var (List.Mem.tail _ (List.Mem.head _)))) (e45).1) k151 (fun H194 Hb195 st196 => st196.less (sub_cons (List.Mem.head _) (sub_cons (List.Mem.tail _ (List.Mem.head _)) (sub_cons (List.Mem.tail _ (List.Mem.tail _ (List.Mem.head _))) (sub_cons (List.Mem.tail _ (List.Mem.tail _ (List.Mem.tail _ (List.Mem.head _)))) (sub_cons (List.Mem.tail _ (List.Mem.tail _ (List.Mem.tail _ (List.Mem.tail _ (List.Mem.head _))))) sub_nil)))))) (by decide) (fun s48 => (noO_cons (by decide) (noO_cons (by decide) noO_nil))) (fun s48 => (noI_cons (by decide) (noI_cons (by decide) (noI_cons (by decide) (noI_cons (by decide) (noI_cons (by decide) noI_nil)))))) (fun Hb50 x49 s48 s51 H52 h53 k54 st55 => ?_) (fun s48 s146 H147 w148 k149 st150 => ?_)
    · unfold m_law_function_L1
      unfold k_law_function_L1 at k54
      obtain ⟨e56, k65⟩ := k54
      refine d_let (ok := fun (y59 : Int) => okSeq (okIf (decide ((32 : Int) ≤ x49)) (((inB y4 (x49 % (31 : Int))) ∧ (0 < y38) ∧ True) ∧ (okLet ((y59 + (ixD y4 (x49 % (31 : Int)))) % y38) fun (y82 : Int) => True)) (True)) (cIf (decide ((32 : Int) ≤ x49)) (vLet ((y59 + (ixD y4 (x49 % (31 : Int)))) % y38) fun (y82 : Int) => (.nx y82)) (.nx y59) : Ctl (Int) ((List Tx) × (List Tx)) (List (List Tx))) fun s70 => (k_law_function_R2 x49 y28 s48 s70)) st55 (er_mod (er_fdiv (er_ixL (st55.k.var (List.Mem.tail _ (List.Mem.tail _ (List.Mem.tail _ (List.Mem.head _))))) (er_mod (er_add (st55.k.var (List.Mem.head _)) (er_ixL (st55.k.var (List.Mem.tail _ (List.Mem.tail _ (List.Mem.tail _ (List.Mem.head _))))) er_int (e56).1)) er_int (by decide)) (e56).2.1) (er_ixL (er_lst (el_cons er_int (el_cons er_int el_nil)) (len_le 2 rfl (by decide))) (er_mod (er_fdiv (st55.k.var (List.Mem.head _)) er_int ⟨by decide, by decide +kernel⟩) er_int (by decide)) (e56).2.2.1) (e56).2.2.2.1) (st55.k.var (List.Mem.tail _ (List.Mem.head _))) (e56).2.2.2.2.1) k65 (by decide) (noO_cons (by decide) (noO_cons (by decide) noO_nil)) (subN_cons (List.Mem.head _) (by decide) (subN_cons (List.Mem.tail _ (List.Mem.head _)) (by decide) (subN_cons (List.Mem.tail _ (List.Mem.tail _ (List.Mem.head _))) (by decide) (subN_cons (List.Mem.tail _ (List.Mem.tail _ (List.Mem.tail _ (List.Mem.head _)))) (by decide) (subN_cons (List.Mem.tail _ (List.Mem.tail _ (List.Mem.tail _ (List.Mem.tail _ (List.Mem.head _))))) (by decide) (subN_cons (List.Mem.tail _ (List.Mem.tail _ (List.Mem.tail _ (List.Mem.tail _ (List.Mem.tail _ (List.Mem.head _)))))) (by decide) subN_nil)))))) fun y59 s60 H61 w63 k64 st62 => ?_
      refine d_blk (SR1 := fun (s70 : (Int)) σ' H' => Stt K 9 H ps0 Hb50 σ' H' [od 4 p21 s48.2, od 3 p14 s48.1] [bd 8 s70, bd 7 x49, bd 6 y38, bd 5 y28, bd 2 y4, bd 0 a0, bd 1 a1]) (p := okIf (decide ((32 : Int) ≤ x49)) (((inB y4 (x49 % (31 : Int))) ∧ (0 < y38) ∧ True) ∧ (okLet ((y59 + (ixD y4 (x49 % (31 : Int)))) % y38) fun (y82 : Int) => True)) (True)) (q := fun (s70 : (Int)) => (k_law_function_R2 x49 y28 s48 s70)) k64 (fun k145 => ?_) (fun s70 s89 H90 w91 k92 st93 => ?_)
      · refine d_if (p := ((inB y4 (x49 % (31 : Int))) ∧ (0 < y38) ∧ True) ∧ (okLet ((y59 + (ixD y4 (x49 % (31 : Int)))) % y38) fun (y82 : Int) => True)) (q := True) st62 (et_cmp (er_ge (st62.k.var (List.Mem.tail _ (List.Mem.head _))) er_int)) k145 (fun H71 b72 k73 st74 => ?_) (fun H75 b76 k77 st78 => ?_)
        · obtain ⟨e79, k88⟩ := k73
          refine d_let (ok := fun (y82 : Int) => True) st74 (er_mod (er_add (st74.k.var (List.Mem.head _)) (er_ixL (st74.k.var (List.Mem.tail _ (List.Mem.tail _ (List.Mem.tail _ (List.Mem.tail _ (List.Mem.head _)))))) (er_mod (st74.k.var (List.Mem.tail _ (List.Mem.head _))) er_int (by decide)) (e79).1)) (st74.k.var (List.Mem.tail _ (List.Mem.tail _ (List.Mem.head _)))) (e79).2.1) k88 (by decide) (noO_cons (by decide) (noO_cons (by decide) noO_nil)) (subN_cons (List.Mem.tail _ (List.Mem.head _)) (by decide) (subN_cons (List.Mem.tail _ (List.Mem.tail _ (List.Mem.head _))) (by decide) (subN_cons (List.Mem.tail _ (List.Mem.tail _ (List.Mem.tail _ (List.Mem.head _)))) (by decide) (subN_cons (List.Mem.tail _ (List.Mem.tail _ (List.Mem.tail _ (List.Mem.tail _ (List.Mem.head _))))) (by decide) (subN_cons (List.Mem.tail _ (List.Mem.tail _ (List.Mem.tail _ (List.Mem.tail _ (List.Mem.tail _ (List.Mem.head _)))))) (by decide) (subN_cons (List.Mem.tail _ (List.Mem.tail _ (List.Mem.tail _ (List.Mem.tail _ (List.Mem.tail _ (List.Mem.tail _ (List.Mem.head _))))))) (by decide) subN_nil)))))) fun y82 s83 H84 w86 k87 st85 => ?_
          exact d_end (st85.less (sub_cons (List.Mem.head _) (sub_cons (List.Mem.tail _ (List.Mem.head _)) (sub_cons (List.Mem.tail _ (List.Mem.tail _ (List.Mem.head _))) (sub_cons (List.Mem.tail _ (List.Mem.tail _ (List.Mem.tail _ (List.Mem.head _)))) (sub_cons (List.Mem.tail _ (List.Mem.tail _ (List.Mem.tail _ (List.Mem.tail _ (List.Mem.head _))))) (sub_cons (List.Mem.tail _ (List.Mem.tail _ (List.Mem.tail _ (List.Mem.tail _ (List.Mem.tail _ (List.Mem.head _)))))) (sub_cons (List.Mem.tail _ (List.Mem.tail _ (List.Mem.tail _ (List.Mem.tail _ (List.Mem.tail _ (List.Mem.tail _ (List.Mem.head _))))))) sub_nil))))))))
        · exact d_end (st78.less (sub_cons (List.Mem.head _) (sub_cons (List.Mem.tail _ (List.Mem.head _)) (sub_cons (List.Mem.tail _ (List.Mem.tail _ (List.Mem.head _))) (sub_cons (List.Mem.tail _ (List.Mem.tail _ (List.Mem.tail _ (List.Mem.head _)))) (sub_cons (List.Mem.tail _ (List.Mem.tail _ (List.Mem.tail _ (List.Mem.tail _ (List.Mem.head _))))) (sub_cons (List.Mem.tail _ (List.Mem.tail _ (List.Mem.tail _ (List.Mem.tail _ (List.Mem.tail _ (List.Mem.head _)))))) (sub_cons (List.Mem.tail _ (List.Mem.tail _ (List.Mem.tail _ (List.Mem.tail _ (List.Mem.tail _ (List.Mem.tail _ (List.Mem.head _))))))) sub_nil))))))))
      · unfold m_law_function_R2
        unfold k_law_function_R2 at k92
        refine d_blk (SR1 := fun (s98 : ((List Tx))) σ' H' => Stt K 9 H ps0 Hb50 σ' H' [od 4 p21 s48.2, od 3 p14 s98] [bd 8 s70, bd 7 x49, bd 6 y38, bd 5 y28, bd 2 y4, bd 0 a0, bd 1 a1]) (p := okIf (eqB s70 (1 : Int)) (((inB y28 x49) ∧ (s48.1.length < 100000) ∧ True) ∧ (okLet (s48.1 ++ [(ixD y28 x49)]) fun (y111 : (List Tx)) => True)) (True)) (q := fun (s98 : ((List Tx))) => (k_law_function_R1 s70 x49 y28 s48 s98)) k92 (fun k144 => ?_) (fun s98 s118 H119 w120 k121 st122 => ?_)
        · refine d_if (p := ((inB y28 x49) ∧ (s48.1.length < 100000) ∧ True) ∧ (okLet (s48.1 ++ [(ixD y28 x49)]) fun (y111 : (List Tx)) => True)) (q := True) st93 (et_cmp (er_eq (st93.k.var (List.Mem.head _)) er_int)) k144 (fun H99 b100 k101 st102 => ?_) (fun H103 b104 k105 st106 => ?_)
          · have st110 := st102.perm (O' := [od 3 p14 s48.1, od 4 p21 s48.2]) ((List.Perm.swap _ _ _))
            obtain ⟨e107, k116⟩ := k101
            refine d_append (ok := fun (y111 : (List Tx)) => True) st110 (er_ixL (st110.k.var (List.Mem.tail _ (List.Mem.tail _ (List.Mem.tail _ (List.Mem.head _))))) (st110.k.var (List.Mem.tail _ (List.Mem.head _))) (e107).1) (e107).2.1 k116 fun y111 H112 w114 k115 st113 => ?_
            have st117 := st113.perm (O' := [od 4 p21 s48.2, od 3 p14 y111]) ((List.Perm.swap _ _ _))
            exact d_end (st117.less (sub_cons (List.Mem.head _) (sub_cons (List.Mem.tail _ (List.Mem.head _)) (sub_cons (List.Mem.tail _ (List.Mem.tail _ (List.Mem.head _))) (sub_cons (List.Mem.tail _ (List.Mem.tail _ (List.Mem.tail _ (List.Mem.head _)))) (sub_cons (List.Mem.tail _ (List.Mem.tail _ (List.Mem.tail _ (List.Mem.tail _ (List.Mem.head _))))) (sub_cons (List.Mem.tail _ (List.Mem.tail _ (List.Mem.tail _ (List.Mem.tail _ (List.Mem.tail _ (List.Mem.head _)))))) (sub_cons (List.Mem.tail _ (List.Mem.tail _ (List.Mem.tail _ (List.Mem.tail _ (List.Mem.tail _ (List.Mem.tail _ (List.Mem.head _))))))) sub_nil))))))))
          · exact d_end (st106.less (sub_cons (List.Mem.head _) (sub_cons (List.Mem.tail _ (List.Mem.head _)) (sub_cons (List.Mem.tail _ (List.Mem.tail _ (List.Mem.head _))) (sub_cons (List.Mem.tail _ (List.Mem.tail _ (List.Mem.tail _ (List.Mem.head _)))) (sub_cons (List.Mem.tail _ (List.Mem.tail _ (List.Mem.tail _ (List.Mem.tail _ (List.Mem.head _))))) (sub_cons (List.Mem.tail _ (List.Mem.tail _ (List.Mem.tail _ (List.Mem.tail _ (List.Mem.tail _ (List.Mem.head _)))))) (sub_cons (List.Mem.tail _ (List.Mem.tail _ (List.Mem.tail _ (List.Mem.tail _ (List.Mem.tail _ (List.Mem.tail _ (List.Mem.head _))))))) sub_nil))))))))
        · unfold m_law_function_R1
          unfold k_law_function_R1 at k121
          refine d_if (p := ((inB y28 x49) ∧ (s48.2.length < 100000) ∧ True) ∧ (okLet (s48.2 ++ [(ixD y28 x49)]) fun (y138 : (List Tx)) => True)) (q := True) st122 (et_cmp (er_eq (st122.k.var (List.Mem.head _)) er_int)) k121 (fun H127 b128 k129 st130 => ?_) (fun H131 b132 k133 st134 => ?_)
          · obtain ⟨e135, k143⟩ := k129
            refine d_append (ok := fun (y138 : (List Tx)) => True) st130 (er_ixL (st130.k.var (List.Mem.tail _ (List.Mem.tail _ (List.Mem.tail _ (List.Mem.head _))))) (st130.k.var (List.Mem.tail _ (List.Mem.head _))) (e135).1) (e135).2.1 k143 fun y138 H139 w141 k142 st140 => ?_
            exact d_end (st140.less (sub_cons (List.Mem.tail _ (List.Mem.tail _ (List.Mem.head _))) (sub_cons (List.Mem.tail _ (List.Mem.tail _ (List.Mem.tail _ (List.Mem.head _)))) (sub_cons (List.Mem.tail _ (List.Mem.tail _ (List.Mem.tail _ (List.Mem.tail _ (List.Mem.head _))))) (sub_cons (List.Mem.tail _ (List.Mem.tail _ (List.Mem.tail _ (List.Mem.tail _ (List.Mem.tail _ (List.Mem.head _)))))) (sub_cons (List.Mem.tail _ (List.Mem.tail _ (List.Mem.tail _ (List.Mem.tail _ (List.Mem.tail _ (List.Mem.tail _ (List.Mem.head _))))))) sub_nil))))))
          · exact d_end (st134.less (sub_cons (List.Mem.tail _ (List.Mem.tail _ (List.Mem.head _))) (sub_cons (List.Mem.tail _ (List.Mem.tail _ (List.Mem.tail _ (List.Mem.head _)))) (sub_cons (List.Mem.tail _ (List.Mem.tail _ (List.Mem.tail _ (List.Mem.tail _ (List.Mem.head _))))) (sub_cons (List.Mem.tail _ (List.Mem.tail _ (List.Mem.tail _ (List.Mem.tail _ (List.Mem.tail _ (List.Mem.head _)))))) (sub_cons (List.Mem.tail _ (List.Mem.tail _ (List.Mem.tail _ (List.Mem.tail _ (List.Mem.tail _ (List.Mem.tail _ (List.Mem.head _))))))) sub_nil))))))
    · unfold m_law_function_R3
      unfold k_law_function_R3 at k149
      have st152 := st150.frz
      have st153 := st152.frz
      obtain ⟨e154, k157⟩ := k149
      refine d_blk (SR1 := fun (s158 : ((List Tx) × (List Tx))) σ' H' => Stt K 9 H ps0 (mn H ps0) σ' H' [] [bd 4 s158.2, bd 3 s158.1, bd 6 y38, bd 5 y28, bd 2 y4, bd 0 a0, bd 1 a1]) (p := okIf (eqB ((ixD y4 (36 : Int)) % (2 : Int)) (1 : Int)) (((s48.1.reverse.length + (cut s48.1 none (some (1 : Int))).length ≤ 100000) ∧ True) ∧ (okLet (s48.1.reverse ++ (cut s48.1 none (some (1 : Int)))) fun (y170 : (List Tx)) => ((s48.2.length + (cut s48.2 (some (-(1 : Int))) none).length ≤ 100000) ∧ True) ∧ (okLet (s48.2 ++ (cut s48.2 (some (-(1 : Int))) none)) fun (y180 : (List Tx)) => True))) (True)) (q := fun (s158 : ((List Tx) × (List Tx))) => True) k157 (fun k193 => ?_) (fun s158 s187 H188 w189 k190 st191 => ?_)
      · refine d_if (p := ((s48.1.reverse.length + (cut s48.1 none (some (1 : Int))).length ≤ 100000) ∧ True) ∧ (okLet (s48.1.reverse ++ (cut s48.1 none (some (1 : Int)))) fun (y170 : (List Tx)) => ((s48.2.length + (cut s48.2 (some (-(1 : Int))) none).length ≤ 100000) ∧ True) ∧ (okLet (s48.2 ++ (cut s48.2 (some (-(1 : Int))) none)) fun (y180 : (List Tx)) => True))) (q := True) st153 (et_cmp (er_eq (er_mod (er_ixL (st153.k.var (List.Mem.tail _ (List.Mem.tail _ (List.Mem.tail _ (List.Mem.tail _ (List.Mem.head _)))))) er_int (e154).1) er_int (by decide)) er_int)) k193 (fun H159 b160 k161 st162 => ?_) (fun H163 b164 k165 st166 => ?_)
        · obtain ⟨e167, k176⟩ := k161
          refine d_let (ok := fun (y170 : (List Tx)) => ((s48.2.length + (cut s48.2 (some (-(1 : Int))) none).length ≤ 100000) ∧ True) ∧ (okLet (s48.2 ++ (cut s48.2 (some (-(1 : Int))) none)) fun (y180 : (List Tx)) => True)) st162 (er_catL (er_revL (st162.k.var (List.Mem.head _))) (er_slL (st162.k.var (List.Mem.head _)) eo_none (eo_some er_int)) (e167).1) k176 (by decide) noO_nil (subN_cons (List.Mem.tail _ (List.Mem.head _)) (by decide) (subN_cons (List.Mem.tail _ (List.Mem.tail _ (List.Mem.head _))) (by decide) (subN_cons (List.Mem.tail _ (List.Mem.tail _ (List.Mem.tail _ (List.Mem.head _)))) (by decide) (subN_cons (List.Mem.tail _ (List.Mem.tail _ (List.Mem.tail _ (List.Mem.tail _ (List.Mem.head _))))) (by decide) (subN_cons (List.Mem.tail _ (List.Mem.tail _ (List.Mem.tail _ (List.Mem.tail _ (List.Mem.tail _ (List.Mem.head _)))))) (by decide) (subN_cons (List.Mem.tail _ (List.Mem.tail _ (List.Mem.tail _ (List.Mem.tail _ (List.Mem.tail _ (List.Mem.tail _ (List.Mem.head _))))))) (by decide) subN_nil)))))) fun y170 s171 H172 w174 k175 st173 => ?_
          obtain ⟨e177, k186⟩ := k175
          refine d_let (ok := fun (y180 : (List Tx)) => True) st173 (er_catL (st173.k.var (List.Mem.tail _ (List.Mem.head _))) (er_slL (st173.k.var (List.Mem.tail _ (List.Mem.head _))) (eo_some (er_neg er_int)) eo_none) (e177).1) k186 (by decide) noO_nil (subN_cons (List.Mem.head _) (by decide) (subN_cons (List.Mem.tail _ (List.Mem.tail _ (List.Mem.head _))) (by decide) (subN_cons (List.Mem.tail _ (List.Mem.tail _ (List.Mem.tail _ (List.Mem.head _)))) (by decide) (subN_cons (List.Mem.tail _ (List.Mem.tail _ (List.Mem.tail _ (List.Mem.tail _ (List.Mem.head _))))) (by decide) (subN_cons (List.Mem.tail _ (List.Mem.tail _ (List.Mem.tail _ (List.Mem.tail _ (List.Mem.tail _ (List.Mem.head _)))))) (by decide) (subN_cons (List.Mem.tail _ (List.Mem.tail _ (List.Mem.tail _ (List.Mem.tail _ (List.Mem.tail _ (List.Mem.tail _ (List.Mem.head _))))))) (by decide) subN_nil)))))) fun y180 s181 H182 w184 k185 st183 => ?_
          exact d_end (st183.less (sub_cons (List.Mem.head _) (sub_cons (List.Mem.tail _ (List.Mem.head _)) (sub_cons (List.Mem.tail _ (List.Mem.tail _ (List.Mem.head _))) (sub_cons (List.Mem.tail _ (List.Mem.tail _ (List.Mem.tail _ (List.Mem.head _)))) (sub_cons (List.Mem.tail _ (List.Mem.tail _ (List.Mem.tail _ (List.Mem.tail _ (List.Mem.head _))))) (sub_cons (List.Mem.tail _ (List.Mem.tail _ (List.Mem.tail _ (List.Mem.tail _ (List.Mem.tail _ (List.Mem.head _)))))) (sub_cons (List.Mem.tail _ (List.Mem.tail _ (List.Mem.tail _ (List.Mem.tail _ (List.Mem.tail _ (List.Mem.tail _ (List.Mem.head _))))))) sub_nil))))))))
        · exact d_end (st166.less (sub_cons (List.Mem.tail _ (List.Mem.head _)) (sub_cons (List.Mem.head _) (sub_cons (List.Mem.tail _ (List.Mem.tail _ (List.Mem.head _))) (sub_cons (List.Mem.tail _ (List.Mem.tail _ (List.Mem.tail _ (List.Mem.head _)))) (sub_cons (List.Mem.tail _ (List.Mem.tail _ (List.Mem.tail _ (List.Mem.tail _ (List.Mem.head _))))) (sub_cons (List.Mem.tail _ (List.Mem.tail _ (List.Mem.tail _ (List.Mem.tail _ (List.Mem.tail _ (List.Mem.head _)))))) (sub_cons (List.Mem.tail _ (List.Mem.tail _ (List.Mem.tail _ (List.Mem.tail _ (List.Mem.tail _ (List.Mem.tail _ (List.Mem.head _))))))) sub_nil))))))))
      · exact d_retS st191 (er_lst (el_cons (st191.k.var (List.Mem.tail _ (List.Mem.head _))) (el_cons (st191.k.var (List.Mem.head _)) el_nil)) (len_le 2 rfl (by decide)))
abbrev N_contains : List Str := ["cube", "code", "literal", "value"]
abbrev F_contains : Tx × Tx × Unit → Bool := fun x => f_contains x.1 x.2.1
abbrev K_contains : Tx × Tx × Unit → Prop := fun x => k_contains x.1 x.2.1
theorem sc_contains : FnScope N_contains ["cube", "code"] (defScope s_contains) := ⟨rfl, rfl, rfl, by decide +kernel, rfl, by decide +kernel, by decide +kernel⟩
theorem ok_contains (T : Txt K mg) : FnOk P w K mg base CX0 1 T.a_contains T.d_contains ["cube", "code"] (spF K F_contains K_contains) := by
  refine T.F_contains.ok sc_contains (fun vs H Q E h => ?_) (fun cdv A outer s H vs Q E hr h => ?_)
  · obtain ⟨ps, x, _, hx, _⟩ := h
    obtain ⟨u0, r0, rfl, z0, u1, r1, rfl, z1, rfl⟩ := hx
    rfl
  · obtain ⟨ps0, ⟨a0, a1, _⟩, dm, ⟨u0, r0, rfl, z0, u1, r1, rfl, z1, rfl⟩, hok, q⟩ := h
    have hok : k_contains a0 a1 := hok
    refine ⟨_, (pss_one (ps_ret (pe_callB (kcr_all K rfl rfl) (by rfl) T.m_all (by decide +kernel) (pa_cons (pe_lc (own := [("literal", 2), ("value", 3)]) (g := (gTup _ 2 (gCons (gName 2) (gCons (gName 3) gNil)))) (tt := tYes) rfl sc_contains.nd (kpi_zip K rfl .s .s (by rfl) T.m_zip (pa_cons (pv 0) (pa_cons (pv 1) pa_nil))) (blkOk_by (own := [("literal", 2), ("value", 3)]) (N := N_contains) (sc := defScope s_contains) (by decide +kernel)) (fun _ _ _ _ _ => (pg_tup rfl (pgs_cons (pg_name (i := 2) sc_contains.nd rfl (Or.inl rfl)) (pgs_cons (pg_name (i := 3) sc_contains.nd rfl (Or.inl rfl)) pgs_nil)))) (fun _ _ _ _ _ => pts_nil) (fun _ _ _ _ _ => (pe_cmpR (kop_in K rfl) (pv 2) (pe_tup (pa_cons pe_str (pa_cons (pv 3) pa_nil))) (by rfl)))) pa_nil)))), fn_go (ps0 := ps0) (c := m_contains a0 a1) (r := f_contains a0 a1) ?_ (rt_of _) q⟩
    have st0 : Stt K 4 H ps0 (mn H ps0) (start N_contains [u0, u1]) H [] [bd 0 a0, bd 1 a1] := stt0 rfl dm (asl_cons (i := 0) rfl z0 (asl_cons (i := 1) rfl z1 asl_nil))
    unfold m_contains
    unfold k_contains at hok
    have e1 := hok
    exact d_retS st0 (er_all (er_lcM2 (h := fun x2 => (memB x2.t.1 (⟨[(lit "-"), x2.t.2.1]⟩ : (Tp Tx)).l)) [bd 0 a0, bd 1 a1] st0.k (ei_zip (st0.k.var (List.Mem.head _)) (st0.k.var (List.Mem.tail _ (List.Mem.head _)))) (e1).1 ⟨by decide, by decide, by decide⟩ ⟨by decide, by decide⟩ (subV_cons (List.Mem.head _) (by decide) (subV_cons (List.Mem.tail _ (List.Mem.head _)) (by decide) subV_nil)) (fun P6 x2 s7 H8 h4 q3 => (er_inP (q3.var (List.Mem.tail _ (List.Mem.head _))) (er_tpl (el_cons (er_str (s := "-")) (el_cons (q3.var (List.Mem.head _)) el_nil)) (len_le 2 rfl (by decide)))))))
abbrev N_cover_contains : List Str := ["cover", "code", "cube"]
abbrev F_cover_contains : (List Tx) × Tx × Unit → Bool := fun x => f_cover_contains x.1 x.2.1
abbrev K_cover_contains : (List Tx) × Tx × Unit → Prop := fun x => k_cover_contains x.1 x.2.1
theorem sc_cover_contains : FnScope N_cover_contains ["cover", "code"] (defScope s_cover_contains) := ⟨rfl, rfl, rfl, by decide +kernel, rfl, by decide +kernel, by decide +kernel⟩
theorem ok_cover_contains (T : Txt K mg) : FnOk P w K mg base CX0 2 T.a_cover_contains T.d_cover_contains ["cover", "code"] (spF K F_cover_contains K_cover_contains) := by
  refine T.F_cover_contains.ok sc_cover_contains (fun vs H Q E h => ?_) (fun cdv A outer s H vs Q E hr h => ?_)
  · obtain ⟨ps, x, _, hx, _⟩ := h
    obtain ⟨u0, r0, rfl, z0, u1, r1, rfl, z1, rfl⟩ := hx
    rfl
  · obtain ⟨ps0, ⟨a0, a1, _⟩, dm, ⟨u0, r0, rfl, z0, u1, r1, rfl, z1, rfl⟩, hok, q⟩ := h
    have hok : k_cover_contains a0 a1 := hok
    refine ⟨_, (pss_one (ps_ret (pe_callB (kcr_any K rfl rfl) (by rfl) T.m_any (by decide +kernel) (pa_cons (pe_lc (own := [("cube", 2)]) (g := (gName 2)) (tt := tYes) rfl sc_cover_contains.nd (kpi_list K rfl (pv 0)) (blkOk_by (own := [("cube", 2)]) (N := N_cover_contains) (sc := defScope s_cover_contains) (by decide +kernel)) (fun _ _ _ _ _ => (pg_name (i := 2) sc_cover_contains.nd rfl (Or.inl rfl))) (fun _ _ _ _ _ => pts_nil) (fun _ _ _ _ _ => (pe_call (ok_contains T) (hr.mono (by omega)) (by rfl) T.g_contains T.F_contains.kp T.b_contains .nil pass0 (pa_cons (pv 2) (pa_cons (pv 1) pa_nil))))) pa_nil)))), fn_go (ps0 := ps0) (c := m_cover_contains a0 a1) (r := f_cover_contains a0 a1) ?_ (rt_of _) q⟩
    have st0 : Stt K 3 H ps0 (mn H ps0) (start N_cover_contains [u0, u1]) H [] [bd 0 a0, bd 1 a1] := stt0 rfl dm (asl_cons (i := 0) rfl z0 (asl_cons (i := 1) rfl z1 asl_nil))
    unfold m_cover_contains
    unfold k_cover_contains at hok
    have e1 := hok
    exact d_retS st0 (er_any (er_lcM (h := fun x2 => (f_contains x2 a1)) [bd 0 a0, bd 1 a1] st0.k (ei_list (st0.k.var (List.Mem.head _))) (e1).1 (by decide) (by decide) (subV_cons (List.Mem.head _) (by decide) (subV_cons (List.Mem.tail _ (List.Mem.head _)) (by decide) subV_nil)) (fun P6 x2 s7 H8 h4 q3 => ((er_call (f := F_contains) (ok := K_contains) (ea_cons (q3.var (List.Mem.head _)) (ea_cons (q3.var (List.Mem.tail _ (List.Mem.tail _ (List.Mem.head _)))) ea_nil)) ((e1).2.1 x2 h4).1).is rfl))))
abbrev N_contains_all : List Str := ["cover", "codes", "code"]
abbrev F_contains_all : (List Tx) × (List Tx) × Unit → Bool := fun x => f_contains_all x.1 x.2.1
abbrev K_contains_all : (List Tx) × (List Tx) × Unit → Prop := fun x => k_contains_all x.1 x.2.1
theorem sc_contains_all : FnScope N_contains_all ["cover", "codes"] (defScope s_contains_all) := ⟨rfl, rfl, rfl, by decide +kernel, rfl, by decide +kernel, by decide +kernel⟩
theorem ok_contains_all (T : Txt K mg) : FnOk P w K mg base CX0 3 T.a_contains_all T.d_contains_all ["cover", "codes"] (spF K F_contains_all K_contains_all) := by
  refine T.F_contains_all.ok sc_contains_all (fun vs H Q E h => ?_) (fun cdv A outer s H vs Q E hr h => ?_)
  · obtain ⟨ps, x, _, hx, _⟩ := h
    obtain ⟨u0, r0, rfl, z0, u1, r1, rfl, z1, rfl⟩ := hx
    rfl
  · obtain ⟨ps0, ⟨a0, a1, _⟩, dm, ⟨u0, r0, rfl, z0, u1, r1, rfl, z1, rfl⟩, hok, q⟩ := h
    have hok : k_contains_all a0 a1 := hok
    refine ⟨_, (pss_one (ps_ret (pe_callB (kcr_all K rfl rfl) (by rfl) T.m_all (by decide +kernel) (pa_cons (pe_lc (own := [("code", 2)]) (g := (gName 2)) (tt := tYes) rfl sc_contains_all.nd (kpi_list K rfl (pv 1)) (blkOk_by (own := [("code", 2)]) (N := N_contains_all) (sc := defScope s_contains_all) (by decide +kernel)) (fun _ _ _ _ _ => (pg_name (i := 2) sc_contains_all.nd rfl (Or.inl rfl))) (fun _ _ _ _ _ => pts_nil) (fun _ _ _ _ _ => (pe_call (ok_cover_contains T) (hr.mono (by omega)) (by rfl) T.g_cover_contains T.F_cover_contains.kp T.b_cover_contains .nil pass0 (pa_cons (pv 0) (pa_cons (pv 2) pa_nil))))) pa_nil)))), fn_go (ps0 := ps0) (c := m_contains_all a0 a1) (r := f_contains_all a0 a1) ?_ (rt_of _) q⟩
    have st0 : Stt K 3 H ps0 (mn H ps0) (start N_contains_all [u0, u1]) H [] [bd 0 a0, bd 1 a1] := stt0 rfl dm (asl_cons (i := 0) rfl z0 (asl_cons (i := 1) rfl z1 asl_nil))
    unfold m_contains_all
    unfold k_contains_all at hok
    have e1 := hok
    exact d_retS st0 (er_all (er_lcM (h := fun x2 => (f_cover_contains a0 x2)) [bd 0 a0, bd 1 a1] st0.k (ei_list (st0.k.var (List.Mem.tail _ (List.Mem.head _)))) (e1).1 (by decide) (by decide) (subV_cons (List.Mem.head _) (by decide) (subV_cons (List.Mem.tail _ (List.Mem.head _)) (by decide) subV_nil)) (fun P6 x2 s7 H8 h4 q3 => ((er_call (f := F_cover_contains) (ok := K_cover_contains) (ea_cons (q3.var (List.Mem.tail _ (List.Mem.head _))) (ea_cons (q3.var (List.Mem.head _)) ea_nil)) ((e1).2.1 x2 h4).1).is rfl))))
abbrev N_without_needless : List Str := ["cover", "on", "index", "rest"]
abbrev F_without_needless : (List Tx) × (List Tx) × Unit → (List Tx) := fun x => f_without_needless x.1 x.2.1
abbrev K_without_needless : (List Tx) × (List Tx) × Unit → Prop := fun x => k_without_needless x.1 x.2.1
theorem sc_without_needless : FnScope N_without_needless ["cover", "on"] (defScope s_without_needless) := ⟨rfl, rfl, rfl, by decide +kernel, rfl, by decide +kernel, by decide +kernel⟩
theorem ok_without_needless (T : Txt K mg) : FnOk P w K mg base CX0 4 T.a_without_needless T.d_without_needless ["cover", "on"] (spF K F_without_needless K_without_needless) := by
  refine T.F_without_needless.ok sc_without_needless (fun vs H Q E h => ?_) (fun cdv A outer s H vs Q E hr h => ?_)
  · obtain ⟨ps, x, _, hx, _⟩ := h
    obtain ⟨u0, r0, rfl, z0, u1, r1, rfl, z1, rfl⟩ := hx
    rfl
  · obtain ⟨ps0, ⟨a0, a1, _⟩, dm, ⟨u0, r0, rfl, z0, u1, r1, rfl, z1, rfl⟩, hok, q⟩ := h
    have hok : k_without_needless a0 a1 := hok
    refine ⟨_, (pss_cons (ps_for PassesOwn.never rfl (pi_revR (by rfl) T.m_reversed (prg_1 (by rfl) T.m_range (pe_callB (kcb_lenQ K rfl) (by rfl) T.m_len (by decide +kernel) (pa_cons (pv 0) pa_nil)))) (pg_name (i := 2) sc_without_needless.nd rfl (Or.inl rfl)) (pss_cons (ps_set (i := 3) sc_without_needless.nd rfl (Or.inl rfl) (pe_op op_cat (pe_slice (ksl_list K rfl) (pv 0) po_none (po_some (pv 2))) (pe_slice (ksl_list K rfl) (pv 0) (po_some (pe_op op_add (pv 2) pe_int)) po_none))) (pss_one (ps_if (pt_val (pe_call (ok_contains_all T) (hr.mono (by omega)) (by rfl) T.g_contains_all T.F_contains_all.kp T.b_contains_all .nil pass0 (pa_cons (pv 3) (pa_cons (pv 1) pa_nil)))) (pss_cons (ps_set (i := 0) sc_without_needless.nd rfl (Or.inl rfl) (pv 3)) pss_nil) pss_nil)))) (pss_one (ps_ret (pv 0)))), fn_go (ps0 := ps0) (c := m_without_needless a0 a1) (r := f_without_needless a0 a1) ?_ (rt_of _) q⟩
    have st0 : Stt K 4 H ps0 (mn H ps0) (start N_without_needless [u0, u1]) H [] [bd 0 a0, bd 1 a1] := stt0 rfl dm (asl_cons (i := 0) rfl z0 (asl_cons (i := 1) rfl z1 asl_nil))
    unfold m_without_needless
    unfold k_without_needless at hok
    obtain ⟨e1, k49⟩ := hok
    refine d_loop (f := (m_without_needless_L1 a1)) (ok := (k_without_needless_L1 a1)) (s0 := a0) (q := fun (s4 : ((List Tx))) => True) (fun (s4 : ((List Tx))) => []) (fun (s4 : ((List Tx))) => [bd 0 s4, bd 1 a1]) st0 (ei_revrng (er_lenL (st0.k.var (List.Mem.head _))) (e1).1) k49 (fun H51 Hb52 st53 => st53.less (sub_cons (List.Mem.head _) (sub_cons (List.Mem.tail _ (List.Mem.head _)) sub_nil))) (by decide) (fun s4 => noO_nil) (fun s4 => (noI_cons (by decide) (noI_cons (by decide) noI_nil))) (fun Hb6 x5 s4 s7 H8 h9 k10 st11 => ?_) (fun s4 s44 H45 w46 k47 st48 => ?_)
    · unfold m_without_needless_L1
      unfold k_without_needless_L1 at k10
      obtain ⟨e12, k21⟩ := k10
      refine d_let (ok := fun (y15 : (List Tx)) => ((k_contains_all y15 a1) ∧ True) ∧ (okIf (f_contains_all y15 a1) (okLet y15 fun (y37 : (List Tx)) => True) (True))) st11 (er_catL (er_slL (st11.k.var (List.Mem.tail _ (List.Mem.head _))) eo_none (eo_some (st11.k.var (List.Mem.head _)))) (er_slL (st11.k.var (List.Mem.tail _ (List.Mem.head _))) (eo_some (er_add (st11.k.var (List.Mem.head _)) er_int)) eo_none) (e12).1) k21 (by decide) noO_nil (subN_cons (List.Mem.head _) (by decide) (subN_cons (List.Mem.tail _ (List.Mem.head _)) (by decide) (subN_cons (List.Mem.tail _ (List.Mem.tail _ (List.Mem.head _))) (by decide) subN_nil))) fun y15 s16 H17 w19 k20 st18 => ?_
      obtain ⟨e22, k25⟩ := k20
      refine d_if (p := okLet y15 fun (y37 : (List Tx)) => True) (q := True) st18 (et_val ((er_call (f := F_contains_all) (ok := K_contains_all) (ea_cons (st18.k.var (List.Mem.head _)) (ea_cons (st18.k.var (List.Mem.tail _ (List.Mem.tail _ (List.Mem.tail _ (List.Mem.head _))))) ea_nil)) (e22).1).is rfl)) k25 (fun H26 b27 k28 st29 => ?_) (fun H30 b31 k32 st33 => ?_)
      · refine d_let (ok := fun (y37 : (List Tx)) => True) st29 (st29.k.var (List.Mem.head _)) k28 (by decide) noO_nil (subN_cons (List.Mem.head _) (by decide) (subN_cons (List.Mem.tail _ (List.Mem.head _)) (by decide) (subN_cons (List.Mem.tail _ (List.Mem.tail _ (List.Mem.tail _ (List.Mem.head _)))) (by decide) subN_nil))) fun y37 s38 H39 w41 k42 st40 => ?_
        exact d_end (st40.less (sub_cons (List.Mem.head _) (sub_cons (List.Mem.tail _ (List.Mem.tail _ (List.Mem.tail _ (List.Mem.head _)))) sub_nil)))
      · exact d_end (st33.less (sub_cons (List.Mem.tail _ (List.Mem.tail _ (List.Mem.head _))) (sub_cons (List.Mem.tail _ (List.Mem.tail _ (List.Mem.tail _ (List.Mem.head _)))) sub_nil)))
    · exact d_retS st48 (st48.k.var (List.Mem.head _))
abbrev N_with_character : List Str := ["cube", "index", "character"]
abbrev F_with_character : Tx × Int × Tx × Unit → Tx := fun x => f_with_character x.1 x.2.1 x.2.2.1
abbrev K_with_character : Tx × Int × Tx × Unit → Prop := fun x => k_with_character x.1 x.2.1 x.2.2.1
theorem sc_with_character : FnScope N_with_character ["cube", "index", "character"] (defScope s_with_character) := ⟨rfl, rfl, rfl, by decide +kernel, rfl, by decide +kernel, by decide +kernel⟩
theorem ok_with_character (T : Txt K mg) : FnOk P w K mg base CX0 1 T.a_with_character T.d_with_character ["cube", "index", "character"] (spF K F_with_character K_with_character) := by
  refine T.F_with_character.ok sc_with_character (fun vs H Q E h => ?_) (fun cdv A outer s H vs Q E hr h => ?_)
  · obtain ⟨ps, x, _, hx, _⟩ := h
    obtain ⟨u0, r0, rfl, z0, u1, r1, rfl, z1, u2, r2, rfl, z2, rfl⟩ := hx
    rfl
  · obtain ⟨ps0, ⟨a0, a1, a2, _⟩, dm, ⟨u0, r0, rfl, z0, u1, r1, rfl, z1, u2, r2, rfl, z2, rfl⟩, hok, q⟩ := h
    have hok : k_with_character a0 a1 a2 := hok
    refine ⟨_, (pss_one (ps_ret (pe_op op_catS (pe_op op_catS (pe_slice sl_str (pv 0) po_none (po_some (pv 1))) (pv 2)) (pe_slice sl_str (pv 0) (po_some (pe_op op_add (pv 1) pe_int)) po_none)))), fn_go (ps0 := ps0) (c := m_with_character a0 a1 a2) (r := f_with_character a0 a1 a2) ?_ (rt_of _) q⟩
    have st0 : Stt K 3 H ps0 (mn H ps0) (start N_with_character [u0, u1, u2]) H [] [bd 0 a0, bd 1 a1, bd 2 a2] := stt0 rfl dm (asl_cons (i := 0) rfl z0 (asl_cons (i := 1) rfl z1 (asl_cons (i := 2) rfl z2 asl_nil)))
    unfold m_with_character
    unfold k_with_character at hok
    have e1 := hok
    exact d_retS st0 (er_catS (er_catS (er_slS (st0.k.var (List.Mem.head _)) eo_none (eo_some (st0.k.var (List.Mem.tail _ (List.Mem.head _)))) (e1).1) (st0.k.var (List.Mem.tail _ (List.Mem.tail _ (List.Mem.head _)))) (e1).2.1) (er_slS (st0.k.var (List.Mem.head _)) (eo_some (er_add (st0.k.var (List.Mem.tail _ (List.Mem.head _))) er_int)) eo_none (e1).2.2.1) (e1).2.2.2.1)
abbrev N_contains_some : List Str := ["cube", "codes", "code"]
abbrev F_contains_some : Tx × (List Tx) × Unit → Bool := fun x => f_contains_some x.1 x.2.1
abbrev K_contains_some : Tx × (List Tx) × Unit → Prop := fun x => k_contains_some x.1 x.2.1
theorem sc_contains_some : FnScope N_contains_some ["cube", "codes"] (defScope s_contains_some) := ⟨rfl, rfl, rfl, by decide +kernel, rfl, by decide +kernel, by decide +kernel⟩
theorem ok_contains_some (T : Txt K mg) : FnOk P w K mg base CX0 2 T.a_contains_some T.d_contains_some ["cube", "codes"] (spF K F_contains_some K_contains_some) := by
  refine T.F_contains_some.ok sc_contains_some (fun vs H Q E h => ?_) (fun cdv A outer s H vs Q E hr h => ?_)
  · obtain ⟨ps, x, _, hx, _⟩ := h
    obtain ⟨u0, r0, rfl, z0, u1, r1, rfl, z1, rfl⟩ := hx
    rfl
  · obtain ⟨ps0, ⟨a0, a1, _⟩, dm, ⟨u0, r0, rfl, z0, u1, r1, rfl, z1, rfl⟩, hok, q⟩ := h
    have hok : k_contains_some a0 a1 := hok
    refine ⟨_, (pss_one (ps_ret (pe_callB (kcr_any K rfl rfl) (by rfl) T.m_any (by decide +kernel) (pa_cons (pe_lc (own := [("code", 2)]) (g := (gName 2)) (tt := tYes) rfl sc_contains_some.nd (kpi_list K rfl (pv 1)) (blkOk_by (own := [("code", 2)]) (N := N_contains_some) (sc := defScope s_contains_some) (by decide +kernel)) (fun _ _ _ _ _ => (pg_name (i := 2) sc_contains_some.nd rfl (Or.inl rfl))) (fun _ _ _ _ _ => pts_nil) (fun _ _ _ _ _ => (pe_call (ok_contains T) (hr.mono (by omega)) (by rfl) T.g_contains T.F_contains.kp T.b_contains .nil pass0 (pa_cons (pv 0) (pa_cons (pv 2) pa_nil))))) pa_nil)))), fn_go (ps0 := ps0) (c := m_contains_some a0 a1) (r := f_contains_some a0 a1) ?_ (rt_of _) q⟩
    have st0 : Stt K 3 H ps0 (mn H ps0) (start N_contains_some [u0, u1]) H [] [bd 0 a0, bd 1 a1] := stt0 rfl dm (asl_cons (i := 0) rfl z0 (asl_cons (i := 1) rfl z1 asl_nil))
    unfold m_contains_some
    unfold k_contains_some at hok
    have e1 := hok
    exact d_retS st0 (er_any (er_lcM (h := fun x2 => (f_contains a0 x2)) [bd 0 a0, bd 1 a1] st0.k (ei_list (st0.k.var (List.Mem.tail _ (List.Mem.head _)))) (e1).1 (by decide) (by decide) (subV_cons (List.Mem.head _) (by decide) (subV_cons (List.Mem.tail _ (List.Mem.head _)) (by decide) subV_nil)) (fun P6 x2 s7 H8 h4 q3 => ((er_call (f := F_contains) (ok := K_contains) (ea_cons (q3.var (List.Mem.tail _ (List.Mem.head _))) (ea_cons (q3.var (List.Mem.head _)) ea_nil)) ((e1).2.1 x2 h4).1).is rfl))))
abbrev N_expand : List Str := ["cube", "off", "index", "wider"]
abbrev F_expand : Tx × (List Tx) × Unit → Tx := fun x => f_expand x.1 x.2.1
abbrev K_expand : Tx × (List Tx) × Unit → Prop := fun x => k_expand x.1 x.2.1
theorem sc_expand : FnScope N_expand ["cube", "off"] (defScope s_expand) := ⟨rfl, rfl, rfl, by decide +kernel, rfl, by decide +kernel, by decide +kernel⟩
theorem ok_expand (T : Txt K mg) : FnOk P w K mg base CX0 3 T.a_expand T.d_expand ["cube", "off"] (spF K F_expand K_expand) := by
  refine T.F_expand.ok sc_expand (fun vs H Q E h => ?_) (fun cdv A outer s H vs Q E hr h => ?_)
  · obtain ⟨ps, x, _, hx, _⟩ := h
    obtain ⟨u0, r0, rfl, z0, u1, r1, rfl, z1, rfl⟩ := hx
    rfl
  · obtain ⟨ps0, ⟨a0, a1, _⟩, dm, ⟨u0, r0, rfl, z0, u1, r1, rfl, z1, rfl⟩, hok, q⟩ := h
    have hok : k_expand a0 a1 := hok
    refine ⟨_, (pss_cons (ps_for PassesOwn.never rfl (pi_range1 (by rfl) T.m_range (pa_cons (pe_callB cb_lenT (by rfl) T.m_len (by decide +kernel) (pa_cons (pv 0) pa_nil)) pa_nil)) (pg_name (i := 2) sc_expand.nd rfl (Or.inl rfl)) (pss_cons (ps_set (i := 3) sc_expand.nd rfl (Or.inl rfl) (pe_call (ok_with_character T) (hr.mono (by omega)) (by rfl) T.g_with_character T.F_with_character.kp T.b_with_character .nil pass0 (pa_cons (pv 0) (pa_cons (pv 2) (pa_cons pe_str pa_nil))))) (pss_one (ps_if (pt_not (pt_val (pe_call (ok_contains_some T) (hr.mono (by omega)) (by rfl) T.g_contains_some T.F_contains_some.kp T.b_contains_some .nil pass0 (pa_cons (pv 3) (pa_cons (pv 1) pa_nil))))) (pss_cons (ps_set (i := 0) sc_expand.nd rfl (Or.inl rfl) (pv 3)) pss_nil) pss_nil)))) (pss_one (ps_ret (pv 0)))), fn_go (ps0 := ps0) (c := m_expand a0 a1) (r := f_expand a0 a1) ?_ (rt_of _) q⟩
    have st0 : Stt K 4 H ps0 (mn H ps0) (start N_expand [u0, u1]) H [] [bd 0 a0, bd 1 a1] := stt0 rfl dm (asl_cons (i := 0) rfl z0 (asl_cons (i := 1) rfl z1 asl_nil))
    unfold m_expand
    unfold k_expand at hok
    obtain ⟨e1, k49⟩ := hok
    refine d_loop (f := (m_expand_L1 a1)) (ok := (k_expand_L1 a1)) (s0 := a0) (q := fun (s4 : (Tx)) => True) (fun (s4 : (Tx)) => []) (fun (s4 : (Tx)) => [bd 0 s4, bd 1 a1]) st0 (ei_rng (er_lenS (st0.k.var (List.Mem.head _)) (e1).1) (e1).2.1) k49 (fun H51 Hb52 st53 => st53.less (sub_cons (List.Mem.head _) (sub_cons (List.Mem.tail _ (List.Mem.head _)) sub_nil))) (by decide) (fun s4 => noO_nil) (fun s4 => (noI_cons (by decide) (noI_cons (by decide) noI_nil))) (fun Hb6 x5 s4 s7 H8 h9 k10 st11 => ?_) (fun s4 s44 H45 w46 k47 st48 => ?_)
    · unfold m_expand_L1
      unfold k_expand_L1 at k10
      obtain ⟨e12, k21⟩ := k10
      refine d_let (ok := fun (y15 : Tx) => ((k_contains_some y15 a1) ∧ True) ∧ (okIf (!(f_contains_some y15 a1)) (okLet y15 fun (y37 : Tx) => True) (True))) st11 ((er_call (f := F_with_character) (ok := K_with_character) (ea_cons (st11.k.var (List.Mem.tail _ (List.Mem.head _))) (ea_cons (st11.k.var (List.Mem.head _)) (ea_cons (er_str (s := "-")) ea_nil))) (e12).1).is rfl) k21 (by decide) noO_nil (subN_cons (List.Mem.head _) (by decide) (subN_cons (List.Mem.tail _ (List.Mem.head _)) (by decide) (subN_cons (List.Mem.tail _ (List.Mem.tail _ (List.Mem.head _))) (by decide) subN_nil))) fun y15 s16 H17 w19 k20 st18 => ?_
      obtain ⟨e22, k25⟩ := k20
      refine d_if (p := okLet y15 fun (y37 : Tx) => True) (q := True) st18 (et_not (et_val ((er_call (f := F_contains_some) (ok := K_contains_some) (ea_cons (st18.k.var (List.Mem.head _)) (ea_cons (st18.k.var (List.Mem.tail _ (List.Mem.tail _ (List.Mem.tail _ (List.Mem.head _))))) ea_nil)) (e22).1).is rfl))) k25 (fun H26 b27 k28 st29 => ?_) (fun H30 b31 k32 st33 => ?_)
      · refine d_let (ok := fun (y37 : Tx) => True) st29 (st29.k.var (List.Mem.head _)) k28 (by decide) noO_nil (subN_cons (List.Mem.head _) (by decide) (subN_cons (List.Mem.tail _ (List.Mem.head _)) (by decide) (subN_cons (List.Mem.tail _ (List.Mem.tail _ (List.Mem.tail _ (List.Mem.head _)))) (by decide) subN_nil))) fun y37 s38 H39 w41 k42 st40 => ?_
        exact d_end (st40.less (sub_cons (List.Mem.head _) (sub_cons (List.Mem.tail _ (List.Mem.tail _ (List.Mem.tail _ (List.Mem.head _)))) sub_nil)))
      · exact d_end (st33.less (sub_cons (List.Mem.tail _ (List.Mem.tail _ (List.Mem.head _))) (sub_cons (List.Mem.tail _ (List.Mem.tail _ (List.Mem.tail _ (List.Mem.head _)))) sub_nil)))
    · exact d_retS st48 (st48.k.var (List.Mem.head _))
abbrev N_compact_cover : List Str := ["on", "off", "cover", "code"]
abbrev F_compact_cover : (List Tx) × (List Tx) × Unit → (List Tx) := fun x => f_compact_cover x.1 x.2.1
abbrev K_compact_cover : (List Tx) × (List Tx) × Unit → Prop := fun x => k_compact_cover x.1 x.2.1
theorem sc_compact_cover : FnScope N_compact_cover ["on", "off"] (defScope s_compact_cover) := ⟨rfl, rfl, rfl, by decide +kernel, rfl, by decide +kernel, by decide +kernel⟩
theorem ok_compact_cover (T : Txt K mg) : FnOk P w K mg base CX0 5 T.a_compact_cover T.d_compact_cover ["on", "off"] (spF K F_compact_cover K_compact_cover) := by
  refine T.F_compact_cover.ok sc_compact_cover (fun vs H Q E h => ?_) (fun cdv A outer s H vs Q E hr h => ?_)
  · obtain ⟨ps, x, _, hx, _⟩ := h
    obtain ⟨u0, r0, rfl, z0, u1, r1, rfl, z1, rfl⟩ := hx
    rfl
  · obtain ⟨ps0, ⟨a0, a1, _⟩, dm, ⟨u0, r0, rfl, z0, u1, r1, rfl, z1, rfl⟩, hok, q⟩ := h
    have hok : k_compact_cover a0 a1 := hok
    refine ⟨_, (pss_cons (ps_set (i := 2) sc_compact_cover.nd rfl (Or.inl rfl) (pe_lst pa_nil)) (pss_cons (ps_for PassesOwn.never rfl (kpi_list K rfl (pe_callB (kcr_sortedA K rfl) (by rfl) T.m_sorted (by decide +kernel) (pa_cons (pv 0) pa_nil))) (pg_name (i := 3) sc_compact_cover.nd rfl (Or.inl rfl)) (pss_one (ps_if (pt_not (pt_val (pe_call (ok_cover_contains T) (hr.mono (by omega)) (by rfl) T.g_cover_contains T.F_cover_contains.kp T.b_cover_contains .nil pass0 (pa_cons (pv 2) (pa_cons (pv 3) pa_nil))))) (pss_cons (ps_expr (pe_bm PySem.F.plainAttrs_list PySem.F.slot_list_append PySem.F.type_list_append mt_append (pv 2) (pa_cons (pe_call (ok_expand T) (hr.mono (by omega)) (by rfl) T.g_expand T.F_expand.kp T.b_expand .nil pass0 (pa_cons (pv 3) (pa_cons (pv 1) pa_nil))) pa_nil))) pss_nil) pss_nil))) (pss_one (ps_ret (pe_call (ok_without_needless T) (hr.mono (by omega)) (by rfl) T.g_without_needless T.F_without_needless.kp T.b_without_needless .nil pass0 (pa_cons (pv 2) (pa_cons (pv 0) pa_nil))))))), fn_go (ps0 := ps0) (c := m_compact_cover a0 a1) (r := f_compact_cover a0 a1) ?_ (rt_of _) q⟩
    have st0 : Stt K 4 H ps0 (mn H ps0) (start N_compact_cover [u0, u1]) H [] [bd 0 a0, bd 1 a1] := stt0 rfl dm (asl_cons (i := 0) rfl z0 (asl_cons (i := 1) rfl z1 asl_nil))
    unfold m_compact_cover
    unfold k_compact_cover at hok
    refine d_nil Tx st0 (by decide) noO_nil (subN_cons (List.Mem.head _) (by decide) (subN_cons (List.Mem.tail _ (List.Mem.head _)) (by decide) subN_nil)) fun p4 s5 H6 st7 => ?_
    obtain ⟨e8, k45⟩ := hok
    refine d_loop (f := (m_compact_cover_L1 a1)) (ok := (k_compact_cover_L1 a1)) (s0 := ([] : (List Tx))) (q := fun (s11 : ((List Tx))) => (k_without_needless s11 a0) ∧ True) (fun (s11 : ((List Tx))) => [od 2 p4 s11]) (fun (s11 : ((List Tx))) => [bd 0 a0, bd 1 a1]) st7 (ei_list (er_sortedS (st7.k.var (List.Mem.head _)) (e8).1)) k45 (fun H48 Hb49 st50 => st50.less (sub_cons (List.Mem.head _) (sub_cons (List.Mem.tail _ (List.Mem.head _)) sub_nil))) (by decide) (fun s11 => (noO_cons (by decide) noO_nil)) (fun s11 => (noI_cons (by decide) (noI_cons (by decide) noI_nil))) (fun Hb13 x12 s11 s14 H15 h16 k17 st18 => ?_) (fun s11 s40 H41 w42 k43 st44 => ?_)
    · unfold m_compact_cover_L1
      unfold k_compact_cover_L1 at k17
      obtain ⟨e19, k22⟩ := k17
      refine d_if (p := ((k_expand x12 a1) ∧ (s11.length < 100000) ∧ True) ∧ (okLet (s11 ++ [(f_expand x12 a1)]) fun (y34 : (List Tx)) => True)) (q := True) st18 (et_up (et_not (et_val ((er_call (f := F_cover_contains) (ok := K_cover_contains) (ea_cons ((st18.kp (List.Mem.head _) st18.k0).var (List.Mem.head _)) (ea_cons ((st18.kp (List.Mem.head _) st18.k0).var (List.Mem.tail _ (List.Mem.head _))) ea_nil)) (e19).1).is rfl)))) k22 (fun H23 b24 k25 st26 => ?_) (fun H27 b28 k29 st30 => ?_)
      · obtain ⟨e31, k39⟩ := k25
        refine d_append (ok := fun (y34 : (List Tx)) => True) st26 ((er_call (f := F_expand) (ok := K_expand) (ea_cons (st26.k.var (List.Mem.head _)) (ea_cons (st26.k.var (List.Mem.tail _ (List.Mem.tail _ (List.Mem.head _)))) ea_nil)) (e31).1).is rfl) (e31).2.1 k39 fun y34 H35 w37 k38 st36 => ?_
        exact d_end (st36.less (sub_cons (List.Mem.tail _ (List.Mem.head _)) (sub_cons (List.Mem.tail _ (List.Mem.tail _ (List.Mem.head _))) sub_nil)))
      · exact d_end (st30.less (sub_cons (List.Mem.tail _ (List.Mem.head _)) (sub_cons (List.Mem.tail _ (List.Mem.tail _ (List.Mem.head _))) sub_nil)))
    · have st46 := st44.frz
      have e47 := k43
      exact d_retS st46 ((er_call (f := F_without_needless) (ok := K_without_needless) (ea_cons (st46.k.var (List.Mem.head _)) (ea_cons (st46.k.var (List.Mem.tail _ (List.Mem.head _))) ea_nil)) (e47).1).is rfl)
abbrev N_law_cell : List Str := ["script", "k"]
abbrev F_law_cell : Scr × Int × Unit → Int := fun x => f_law_cell x.1 x.2.1
abbrev K_law_cell : Scr × Int × Unit → Prop := fun x => k_law_cell x.1 x.2.1
theorem sc_law_cell : FnScope N_law_cell ["script", "k"] (defScope s_law_cell) := ⟨rfl, rfl, rfl, by decide +kernel, rfl, by decide +kernel, by decide +kernel⟩
theorem ok_law_cell (T : Txt K mg) : FnOk P w K mg base CX0 1 T.a_law_cell T.d_law_cell ["script", "k"] (spF K F_law_cell K_law_cell) := by
  refine T.F_law_cell.ok sc_law_cell (fun vs H Q E h => ?_) (fun cdv A outer s H vs Q E hr h => ?_)
  · obtain ⟨ps, x, _, hx, _⟩ := h
    obtain ⟨u0, r0, rfl, z0, u1, r1, rfl, z1, rfl⟩ := hx
    rfl
  · obtain ⟨ps0, ⟨a0, a1, _⟩, dm, ⟨u0, r0, rfl, z0, u1, r1, rfl, z1, rfl⟩, hok, q⟩ := h
    have hok : k_law_cell a0 a1 := hok
    refine ⟨_, (pss_cons (ps_if (pt_cmpR op_lt (pv 1) (pe_callB (kcb_lenQ K rfl) (by rfl) T.m_len (by decide +kernel) (pa_cons (pv 0) pa_nil)) (nomark _)) (pss_one (ps_ret (pe_ix (kix_list K rfl) (pv 0) (pv 1) (fun _ _ => rfl)))) pss_nil) (pss_one (ps_ret pe_int))), fn_go (ps0 := ps0) (c := m_law_cell a0 a1) (r := f_law_cell a0 a1) ?_ (rt_of _) q⟩
    have st0 : Stt K 2 H ps0 (mn H ps0) (start N_law_cell [u0, u1]) H [] [bd 0 a0, bd 1 a1] := stt0 rfl dm (asl_cons (i := 0) rfl z0 (asl_cons (i := 1) rfl z1 asl_nil))
    unfold m_law_cell
    unfold k_law_cell at hok
    refine d_iff (p := (inB a0.l a1) ∧ True) (q := True) st0 (et_cmp (er_lt (st0.k.var (List.Mem.tail _ (List.Mem.head _))) (er_lenScr (st0.k.var (List.Mem.head _))))) hok (fun H5 b6 k7 st8 => ?_) (fun H9 b10 k11 st12 => ?_)
    · have e13 := k7
      exact d_retS st8 (er_ixScr (st8.k.var (List.Mem.head _)) (st8.k.var (List.Mem.tail _ (List.Mem.head _))) (e13).1)
    · exact d_retS st12 er_int
abbrev N_law_is_cube : List Str := ["x", "width", "sign"]
abbrev F_law_is_cube : Tx × Int × Unit → Bool := fun x => f_law_is_cube x.1 x.2.1
abbrev K_law_is_cube : Tx × Int × Unit → Prop := fun x => k_law_is_cube x.1 x.2.1
theorem sc_law_is_cube : FnScope N_law_is_cube ["x", "width"] (defScope s_law_is_cube) := ⟨rfl, rfl, rfl, by decide +kernel, rfl, by decide +kernel, by decide +kernel⟩
theorem ok_law_is_cube (T : Txt K mg) : FnOk P w K mg base CX0 1 T.a_law_is_cube T.d_law_is_cube ["x", "width"] (spF K F_law_is_cube K_law_is_cube) := by
  refine T.F_law_is_cube.ok sc_law_is_cube (fun vs H Q E h => ?_) (fun cdv A outer s H vs Q E hr h => ?_)
  · obtain ⟨ps, x, _, hx, _⟩ := h
    obtain ⟨u0, r0, rfl, z0, u1, r1, rfl, z1, rfl⟩ := hx
    rfl
  · obtain ⟨ps0, ⟨a0, a1, _⟩, dm, ⟨u0, r0, rfl, z0, u1, r1, rfl, z1, rfl⟩, hok, q⟩ := h
    have hok : k_law_is_cube a0 a1 := hok
    refine ⟨_, (pss_cons (ps_if (PW.pt (pw_or (pt_not (pt_val (pe_callB (kcb_isi K rfl) (by rfl) T.m_isinstance (by decide +kernel) (pa_cons (pv 0) (pa_cons (pe_bltn (v := .ty "str") (by rfl) T.m_str (by decide +kernel) rfl) pa_nil))))) (pw_or1 (pt_cmpR op_ne (pe_callB cb_lenT (by rfl) T.m_len (by decide +kernel) (pa_cons (pv 0) pa_nil)) (pv 1) (nomark _))))) (pss_one (ps_ret pe_bl)) pss_nil) (pss_cons (ps_for PassesOwn.never rfl (pi_str (pv 0)) (pg_name (i := 2) sc_law_is_cube.nd rfl (Or.inl rfl)) (pss_one (ps_if (pt_cmpR (kop_nin K rfl) (pv 2) (pe_tup (pa_cons pe_str (pa_cons pe_str (pa_cons pe_str pa_nil)))) (by rfl)) (pss_one (ps_ret pe_bl)) pss_nil))) (pss_one (ps_ret pe_bl)))), fn_go (ps0 := ps0) (c := m_law_is_cube a0 a1) (r := f_law_is_cube a0 a1) ?_ (rt_of _) q⟩
    have st0 : Stt K 3 H ps0 (mn H ps0) (start N_law_is_cube [u0, u1]) H [] [bd 0 a0, bd 1 a1] := stt0 rfl dm (asl_cons (i := 0) rfl z0 (asl_cons (i := 1) rfl z1 asl_nil))
    unfold m_law_is_cube
    unfold k_law_is_cube at hok
    obtain ⟨e1, k5⟩ := hok
    refine d_iff (p := True) (q := okFor (m_law_is_cube_L1) (k_law_is_cube_L1) (chs a0) () fun (s18 : Unit) => True) st0 (et_or (et_not (et_val (er_isiT true (st0.k.var (List.Mem.head _))))) (fun h4 => (et_cmp (er_ne (er_lenS (st0.k.var (List.Mem.head _)) ((e1).1 h4).1) (st0.k.var (List.Mem.tail _ (List.Mem.head _))))))) k5 (fun H6 b7 k8 st9 => ?_) (fun H10 b11 k12 st13 => ?_)
    · exact d_retS st9 er_bl
    · refine d_loop (f := (m_law_is_cube_L1)) (ok := (k_law_is_cube_L1)) (s0 := ()) (q := fun (s18 : Unit) => True) (fun (s18 : Unit) => []) (fun (s18 : Unit) => [bd 0 a0, bd 1 a1]) st13 (ei_str (st13.k.var (List.Mem.head _))) k12 (fun H46 Hb47 st48 => st48.less (sub_cons (List.Mem.head _) (sub_cons (List.Mem.tail _ (List.Mem.head _)) sub_nil))) (by decide) (fun s18 => noO_nil) (fun s18 => (noI_cons (by decide) (noI_cons (by decide) noI_nil))) (fun Hb20 x19 s18 s21 H22 h23 k24 st25 => ?_) (fun s18 s39 H40 w41 k42 st43 => ?_)
      · unfold m_law_is_cube_L1
        unfold k_law_is_cube_L1 at k24
        refine d_if (p := True) (q := True) st25 (et_cmp (er_ninP (st25.k.var (List.Mem.head _)) (er_tpl (el_cons (er_str (s := "0")) (el_cons (er_str (s := "1")) (el_cons (er_str (s := "-")) el_nil))) (len_le 3 rfl (by decide))))) k24 (fun H30 b31 k32 st33 => ?_) (fun H34 b35 k36 st37 => ?_)
        · exact d_retS st33 er_bl
        · exact d_end (st37.less (sub_cons (List.Mem.tail _ (List.Mem.head _)) (sub_cons (List.Mem.tail _ (List.Mem.tail _ (List.Mem.head _))) sub_nil)))
      · exact d_retS st43 er_bl
abbrev N_law_is_cover : List Str := ["x", "width", "cube"]
abbrev F_law_is_cover : (List Tx) × Int × Unit → Bool := fun x => f_law_is_cover x.1 x.2.1
abbrev K_law_is_cover : (List Tx) × Int × Unit → Prop := fun x => k_law_is_cover x.1 x.2.1
theorem sc_law_is_cover : FnScope N_law_is_cover ["x", "width"] (defScope s_law_is_cover) := ⟨rfl, rfl, rfl, by decide +kernel, rfl, by decide +kernel, by decide +kernel⟩
theorem ok_law_is_cover (T : Txt K mg) : FnOk P w K mg base CX0 2 T.a_law_is_cover T.d_law_is_cover ["x", "width"] (spF K F_law_is_cover K_law_is_cover) := by
  refine T.F_law_is_cover.ok sc_law_is_cover (fun vs H Q E h => ?_) (fun cdv A outer s H vs Q E hr h => ?_)
  · obtain ⟨ps, x, _, hx, _⟩ := h
    obtain ⟨u0, r0, rfl, z0, u1, r1, rfl, z1, rfl⟩ := hx
    rfl
  · obtain ⟨ps0, ⟨a0, a1, _⟩, dm, ⟨u0, r0, rfl, z0, u1, r1, rfl, z1, rfl⟩, hok, q⟩ := h
    have hok : k_law_is_cover a0 a1 := hok
    refine ⟨_, (pss_cons (ps_if (pt_not (pt_val (pe_callB (kcb_isi K rfl) (by rfl) T.m_isinstance (by decide +kernel) (pa_cons (pv 0) (pa_cons (pe_bltn (v := .ty "list") (by rfl) T.m_list (by decide +kernel) rfl) pa_nil))))) (pss_one (ps_ret pe_bl)) pss_nil) (pss_cons (ps_for PassesOwn.never rfl (kpi_list K rfl (pv 0)) (pg_name (i := 2) sc_law_is_cover.nd rfl (Or.inl rfl)) (pss_one (ps_if (pt_not (pt_val (pe_call (ok_law_is_cube T) (hr.mono (by omega)) (by rfl) T.g_law_is_cube T.F_law_is_cube.kp T.b_law_is_cube .nil pass0 (pa_cons (pv 2) (pa_cons (pv 1) pa_nil))))) (pss_one (ps_ret pe_bl)) pss_nil))) (pss_one (ps_ret pe_bl)))), fn_go (ps0 := ps0) (c := m_law_is_cover a0 a1) (r := f_law_is_cover a0 a1) ?_ (rt_of _) q⟩
    have st0 : Stt K 3 H ps0 (mn H ps0) (start N_law_is_cover [u0, u1]) H [] [bd 0 a0, bd 1 a1] := stt0 rfl dm (asl_cons (i := 0) rfl z0 (asl_cons (i := 1) rfl z1 asl_nil))
    unfold m_law_is_cover
    unfold k_law_is_cover at hok
    refine d_iff (p := True) (q := okFor (m_law_is_cover_L1 a1) (k_law_is_cover_L1 a1) a0 () fun (s17 : Unit) => True) st0 (et_not (et_val (er_isiT true (st0.k.var (List.Mem.head _))))) hok (fun H5 b6 k7 st8 => ?_) (fun H9 b10 k11 st12 => ?_)
    · exact d_retS st8 er_bl
    · refine d_loop (f := (m_law_is_cover_L1 a1)) (ok := (k_law_is_cover_L1 a1)) (s0 := ()) (q := fun (s17 : Unit) => True) (fun (s17 : Unit) => []) (fun (s17 : Unit) => [bd 0 a0, bd 1 a1]) st12 (ei_list (st12.k.var (List.Mem.head _))) k11 (fun H45 Hb46 st47 => st47.less (sub_cons (List.Mem.head _) (sub_cons (List.Mem.tail _ (List.Mem.head _)) sub_nil))) (by decide) (fun s17 => noO_nil) (fun s17 => (noI_cons (by decide) (noI_cons (by decide) noI_nil))) (fun Hb19 x18 s17 s20 H21 h22 k23 st24 => ?_) (fun s17 s38 H39 w40 k41 st42 => ?_)
      · unfold m_law_is_cover_L1
        unfold k_law_is_cover_L1 at k23
        obtain ⟨e25, k28⟩ := k23
        refine d_if (p := True) (q := True) st24 (et_not (et_val ((er_call (f := F_law_is_cube) (ok := K_law_is_cube) (ea_cons (st24.k.var (List.Mem.head _)) (ea_cons (st24.k.var (List.Mem.tail _ (List.Mem.tail _ (List.Mem.head _)))) ea_nil)) (e25).1).is rfl))) k28 (fun H29 b30 k31 st32 => ?_) (fun H33 b34 k35 st36 => ?_)
        · exact d_retS st32 er_bl
        · exact d_end (st36.less (sub_cons (List.Mem.tail _ (List.Mem.head _)) (sub_cons (List.Mem.tail _ (List.Mem.tail _ (List.Mem.head _))) sub_nil)))
      · exact d_retS st42 er_bl
abbrev N_law_in : List Str := ["cube", "code", "k"]
abbrev F_law_in : Tx × Tx × Unit → Bool := fun x => f_law_in x.1 x.2.1
abbrev K_law_in : Tx × Tx × Unit → Prop := fun x => k_law_in x.1 x.2.1
theorem sc_law_in : FnScope N_law_in ["cube", "code"] (defScope s_law_in) := ⟨rfl, rfl, rfl, by decide +kernel, rfl, by decide +kernel, by decide +kernel⟩
theorem ok_law_in (T : Txt K mg) : FnOk P w K mg base CX0 1 T.a_law_in T.d_law_in ["cube", "code"] (spF K F_law_in K_law_in) := by
  refine T.F_law_in.ok sc_law_in (fun vs H Q E h => ?_) (fun cdv A outer s H vs Q E hr h => ?_)
  · obtain ⟨ps, x, _, hx, _⟩ := h
    obtain ⟨u0, r0, rfl, z0, u1, r1, rfl, z1, rfl⟩ := hx
    rfl
  · obtain ⟨ps0, ⟨a0, a1, _⟩, dm, ⟨u0, r0, rfl, z0, u1, r1, rfl, z1, rfl⟩, hok, q⟩ := h
    have hok : k_law_in a0 a1 := hok
    refine ⟨_, (pss_cons (ps_for PassesOwn.never rfl (pi_range1 (by rfl) T.m_range (pa_cons (pe_callB cb_lenT (by rfl) T.m_len (by decide +kernel) (pa_cons (pv 1) pa_nil)) pa_nil)) (pg_name (i := 2) sc_law_in.nd rfl (Or.inl rfl)) (pss_one (ps_if (PW.pt (pw_and (pt_cmpR op_ne (pe_ix ix_str (pv 0) (pv 2) (fun _ _ => rfl)) pe_str (nomark _)) (pw_and1 (pt_cmpR op_ne (pe_ix ix_str (pv 0) (pv 2) (fun _ _ => rfl)) (pe_ix ix_str (pv 1) (pv 2) (fun _ _ => rfl)) (nomark _))))) (pss_one (ps_ret pe_bl)) pss_nil))) (pss_one (ps_ret pe_bl))), fn_go (ps0 := ps0) (c := m_law_in a0 a1) (r := f_law_in a0 a1) ?_ (rt_of _) q⟩
    have st0 : Stt K 3 H ps0 (mn H ps0) (start N_law_in [u0, u1]) H [] [bd 0 a0, bd 1 a1] := stt0 rfl dm (asl_cons (i := 0) rfl z0 (asl_cons (i := 1) rfl z1 asl_nil))
    unfold m_law_in
    unfold k_law_in at hok
    obtain ⟨e1, k31⟩ := hok
    refine d_loop (f := (m_law_in_L1 a0 a1)) (ok := (k_law_in_L1 a0 a1)) (s0 := ()) (q := fun (s4 : Unit) => True) (fun (s4 : Unit) => []) (fun (s4 : Unit) => [bd 0 a0, bd 1 a1]) st0 (ei_rng (er_lenS (st0.k.var (List.Mem.tail _ (List.Mem.head _))) (e1).1) (e1).2.1) k31 (fun H33 Hb34 st35 => st35.less (sub_cons (List.Mem.head _) (sub_cons (List.Mem.tail _ (List.Mem.head _)) sub_nil))) (by decide) (fun s4 => noO_nil) (fun s4 => (noI_cons (by decide) (noI_cons (by decide) noI_nil))) (fun Hb6 x5 s4 s7 H8 h9 k10 st11 => ?_) (fun s4 s26 H27 w28 k29 st30 => ?_)
    · unfold m_law_in_L1
      unfold k_law_in_L1 at k10
      obtain ⟨e12, k16⟩ := k10
      refine d_if (p := True) (q := True) st11 (et_and (et_cmp (er_ne (er_ixS (st11.k.var (List.Mem.tail _ (List.Mem.head _))) (st11.k.var (List.Mem.head _)) (e12).1 (e12).2.1) (er_str (s := "-")))) (fun h15 => (et_cmp (er_ne (er_ixS (st11.k.var (List.Mem.tail _ (List.Mem.head _))) (st11.k.var (List.Mem.head _)) ((e12).2.2.1 h15).1 ((e12).2.2.1 h15).2.1) (er_ixS (st11.k.var (List.Mem.tail _ (List.Mem.tail _ (List.Mem.head _)))) (st11.k.var (List.Mem.head _)) ((e12).2.2.1 h15).2.2.1 ((e12).2.2.1 h15).2.2.2.1))))) k16 (fun H17 b18 k19 st20 => ?_) (fun H21 b22 k23 st24 => ?_)
      · exact d_retS st20 er_bl
      · exact d_end (st24.less (sub_cons (List.Mem.tail _ (List.Mem.head _)) (sub_cons (List.Mem.tail _ (List.Mem.tail _ (List.Mem.head _))) sub_nil)))
    · exact d_retS st30 er_bl
abbrev N_law_covered : List Str := ["cover", "code", "cube"]
abbrev F_law_covered : (List Tx) × Tx × Unit → Bool := fun x => f_law_covered x.1 x.2.1
abbrev K_law_covered : (List Tx) × Tx × Unit → Prop := fun x => k_law_covered x.1 x.2.1
theorem sc_law_covered : FnScope N_law_covered ["cover", "code"] (defScope s_law_covered) := ⟨rfl, rfl, rfl, by decide +kernel, rfl, by decide +kernel, by decide +kernel⟩
theorem ok_law_covered (T : Txt K mg) : FnOk P w K mg base CX0 2 T.a_law_covered T.d_law_covered ["cover", "code"] (spF K F_law_covered K_law_covered) := by
  refine T.F_law_covered.ok sc_law_covered (fun vs H Q E h => ?_) (fun cdv A outer s H vs Q E hr h => ?_)
  · obtain ⟨ps, x, _, hx, _⟩ := h
    obtain ⟨u0, r0, rfl, z0, u1, r1, rfl, z1, rfl⟩ := hx
    rfl
  · obtain ⟨ps0, ⟨a0, a1, _⟩, dm, ⟨u0, r0, rfl, z0, u1, r1, rfl, z1, rfl⟩, hok, q⟩ := h
    have hok : k_law_covered a0 a1 := hok
    refine ⟨_, (pss_cons (ps_for PassesOwn.never rfl (kpi_list K rfl (pv 0)) (pg_name (i := 2) sc_law_covered.nd rfl (Or.inl rfl)) (pss_one (ps_if (pt_val (pe_call (ok_law_in T) (hr.mono (by omega)) (by rfl) T.g_law_in T.F_law_in.kp T.b_law_in .nil pass0 (pa_cons (pv 2) (pa_cons (pv 1) pa_nil)))) (pss_one (ps_ret pe_bl)) pss_nil))) (pss_one (ps_ret pe_bl))), fn_go (ps0 := ps0) (c := m_law_covered a0 a1) (r := f_law_covered a0 a1) ?_ (rt_of _) q⟩
    have st0 : Stt K 3 H ps0 (mn H ps0) (start N_law_covered [u0, u1]) H [] [bd 0 a0, bd 1 a1] := stt0 rfl dm (asl_cons (i := 0) rfl z0 (asl_cons (i := 1) rfl z1 asl_nil))
    unfold m_law_covered
    unfold k_law_covered at hok
    refine d_loop (f := (m_law_covered_L1 a1)) (ok := (k_law_covered_L1 a1)) (s0 := ()) (q := fun (s4 : Unit) => True) (fun (s4 : Unit) => []) (fun (s4 : Unit) => [bd 0 a0, bd 1 a1]) st0 (ei_list (st0.k.var (List.Mem.head _))) hok (fun H32 Hb33 st34 => st34.less (sub_cons (List.Mem.head _) (sub_cons (List.Mem.tail _ (List.Mem.head _)) sub_nil))) (by decide) (fun s4 => noO_nil) (fun s4 => (noI_cons (by decide) (noI_cons (by decide) noI_nil))) (fun Hb6 x5 s4 s7 H8 h9 k10 st11 => ?_) (fun s4 s25 H26 w27 k28 st29 => ?_)
    · unfold m_law_covered_L1
      unfold k_law_covered_L1 at k10
      obtain ⟨e12, k15⟩ := k10
      refine d_if (p := True) (q := True) st11 (et_val ((er_call (f := F_law_in) (ok := K_law_in) (ea_cons (st11.k.var (List.Mem.head _)) (ea_cons (st11.k.var (List.Mem.tail _ (List.Mem.tail _ (List.Mem.head _)))) ea_nil)) (e12).1).is rfl)) k15 (fun H16 b17 k18 st19 => ?_) (fun H20 b21 k22 st23 => ?_)
      · exact d_retS st19 er_bl
      · exact d_end (st23.less (sub_cons (List.Mem.tail _ (List.Mem.head _)) (sub_cons (List.Mem.tail _ (List.Mem.tail _ (List.Mem.head _))) sub_nil)))
    · exact d_retS st29 er_bl
abbrev N_law_avoids : List Str := ["cube", "off", "code"]
abbrev F_law_avoids : Tx × (List Tx) × Unit → Bool := fun x => f_law_avoids x.1 x.2.1
abbrev K_law_avoids : Tx × (List Tx) × Unit → Prop := fun x => k_law_avoids x.1 x.2.1
theorem sc_law_avoids : FnScope N_law_avoids ["cube", "off"] (defScope s_law_avoids) := ⟨rfl, rfl, rfl, by decide +kernel, rfl, by decide +kernel, by decide +kernel⟩
theorem ok_law_avoids (T : Txt K mg) : FnOk P w K mg base CX0 2 T.a_law_avoids T.d_law_avoids ["cube", "off"] (spF K F_law_avoids K_law_avoids) := by
  refine T.F_law_avoids.ok sc_law_avoids (fun vs H Q E h => ?_) (fun cdv A outer s H vs Q E hr h => ?_)
  · obtain ⟨ps, x, _, hx, _⟩ := h
    obtain ⟨u0, r0, rfl, z0, u1, r1, rfl, z1, rfl⟩ := hx
    rfl
  · obtain ⟨ps0, ⟨a0, a1, _⟩, dm, ⟨u0, r0, rfl, z0, u1, r1, rfl, z1, rfl⟩, hok, q⟩ := h
    have hok : k_law_avoids a0 a1 := hok
    refine ⟨_, (pss_cons (ps_for PassesOwn.never rfl (kpi_list K rfl (pv 1)) (pg_name (i := 2) sc_law_avoids.nd rfl (Or.inl rfl)) (pss_one (ps_if (pt_val (pe_call (ok_law_in T) (hr.mono (by omega)) (by rfl) T.g_law_in T.F_law_in.kp T.b_law_in .nil pass0 (pa_cons (pv 0) (pa_cons (pv 2) pa_nil)))) (pss_one (ps_ret pe_bl)) pss_nil))) (pss_one (ps_ret pe_bl))), fn_go (ps0 := ps0) (c := m_law_avoids a0 a1) (r := f_law_avoids a0 a1) ?_ (rt_of _) q⟩
    have st0 : Stt K 3 H ps0 (mn H ps0) (start N_law_avoids [u0, u1]) H [] [bd 0 a0, bd 1 a1] := stt0 rfl dm (asl_cons (i := 0) rfl z0 (asl_cons (i := 1) rfl z1 asl_nil))
    unfold m_law_avoids
    unfold k_law_avoids at hok
    refine d_loop (f := (m_law_avoids_L1 a0)) (ok := (k_law_avoids_L1 a0)) (s0 := ()) (q := fun (s4 : Unit) => True) (fun (s4 : Unit) => []) (fun (s4 : Unit) => [bd 0 a0, bd 1 a1]) st0 (ei_list (st0.k.var (List.Mem.tail _ (List.Mem.head _)))) hok (fun H32 Hb33 st34 => st34.less (sub_cons (List.Mem.head _) (sub_cons (List.Mem.tail _ (List.Mem.head _)) sub_nil))) (by decide) (fun s4 => noO_nil) (fun s4 => (noI_cons (by decide) (noI_cons (by decide) noI_nil))) (fun Hb6 x5 s4 s7 H8 h9 k10 st11 => ?_) (fun s4 s25 H26 w27 k28 st29 => ?_)
    · unfold m_law_avoids_L1
      unfold k_law_avoids_L1 at k10
      obtain ⟨e12, k15⟩ := k10
      refine d_if (p := True) (q := True) st11 (et_val ((er_call (f := F_law_in) (ok := K_law_in) (ea_cons (st11.k.var (List.Mem.tail _ (List.Mem.head _))) (ea_cons (st11.k.var (List.Mem.head _)) ea_nil)) (e12).1).is rfl)) k15 (fun H16 b17 k18 st19 => ?_) (fun H20 b21 k22 st23 => ?_)
      · exact d_retS st19 er_bl
      · exact d_end (st23.less (sub_cons (List.Mem.tail _ (List.Mem.head _)) (sub_cons (List.Mem.tail _ (List.Mem.tail _ (List.Mem.head _))) sub_nil)))
    · exact d_retS st29 er_bl
abbrev N_law_with : List Str := ["cube", "k", "sign"]
abbrev F_law_with : Tx × Int × Tx × Unit → Tx := fun x => f_law_with x.1 x.2.1 x.2.2.1
abbrev K_law_with : Tx × Int × Tx × Unit → Prop := fun x => k_law_with x.1 x.2.1 x.2.2.1
theorem sc_law_with : FnScope N_law_with ["cube", "k", "sign"] (defScope s_law_with) := ⟨rfl, rfl, rfl, by decide +kernel, rfl, by decide +kernel, by decide +kernel⟩
theorem ok_law_with (T : Txt K mg) : FnOk P w K mg base CX0 1 T.a_law_with T.d_law_with ["cube", "k", "sign"] (spF K F_law_with K_law_with) := by
  refine T.F_law_with.ok sc_law_with (fun vs H Q E h => ?_) (fun cdv A outer s H vs Q E hr h => ?_)
  · obtain ⟨ps, x, _, hx, _⟩ := h
    obtain ⟨u0, r0, rfl, z0, u1, r1, rfl, z1, u2, r2, rfl, z2, rfl⟩ := hx
    rfl
  · obtain ⟨ps0, ⟨a0, a1, a2, _⟩, dm, ⟨u0, r0, rfl, z0, u1, r1, rfl, z1, u2, r2, rfl, z2, rfl⟩, hok, q⟩ := h
    have hok : k_law_with a0 a1 a2 := hok
    refine ⟨_, (pss_one (ps_ret (pe_op op_catS (pe_op op_catS (pe_slice sl_str (pv 0) po_none (po_some (pv 1))) (pv 2)) (pe_slice sl_str (pv 0) (po_some (pe_op op_add (pv 1) pe_int)) po_none)))), fn_go (ps0 := ps0) (c := m_law_with a0 a1 a2) (r := f_law_with a0 a1 a2) ?_ (rt_of _) q⟩
    have st0 : Stt K 3 H ps0 (mn H ps0) (start N_law_with [u0, u1, u2]) H [] [bd 0 a0, bd 1 a1, bd 2 a2] := stt0 rfl dm (asl_cons (i := 0) rfl z0 (asl_cons (i := 1) rfl z1 (asl_cons (i := 2) rfl z2 asl_nil)))
    unfold m_law_with
    unfold k_law_with at hok
    have e1 := hok
    exact d_retS st0 (er_catS (er_catS (er_slS (st0.k.var (List.Mem.head _)) eo_none (eo_some (st0.k.var (List.Mem.tail _ (List.Mem.head _)))) (e1).1) (st0.k.var (List.Mem.tail _ (List.Mem.tail _ (List.Mem.head _)))) (e1).2.1) (er_slS (st0.k.var (List.Mem.head _)) (eo_some (er_add (st0.k.var (List.Mem.tail _ (List.Mem.head _))) er_int)) eo_none (e1).2.2.1) (e1).2.2.2.1)
abbrev N_law_prime : List Str := ["cube", "off", "k"]
abbrev F_law_prime : Tx × (List Tx) × Unit → Bool := fun x => f_law_prime x.1 x.2.1
abbrev K_law_prime : Tx × (List Tx) × Unit → Prop := fun x => k_law_prime x.1 x.2.1
theorem sc_law_prime : FnScope N_law_prime ["cube", "off"] (defScope s_law_prime) := ⟨rfl, rfl, rfl, by decide +kernel, rfl, by decide +kernel, by decide +kernel⟩
theorem ok_law_prime (T : Txt K mg) : FnOk P w K mg base CX0 3 T.a_law_prime T.d_law_prime ["cube", "off"] (spF K F_law_prime K_law_prime) := by
  refine T.F_law_prime.ok sc_law_prime (fun vs H Q E h => ?_) (fun cdv A outer s H vs Q E hr h => ?_)
  · obtain ⟨ps, x, _, hx, _⟩ := h
    obtain ⟨u0, r0, rfl, z0, u1, r1, rfl, z1, rfl⟩ := hx
    rfl
  · obtain ⟨ps0, ⟨a0, a1, _⟩, dm, ⟨u0, r0, rfl, z0, u1, r1, rfl, z1, rfl⟩, hok, q⟩ := h
    have hok : k_law_prime a0 a1 := hok
    refine ⟨_, (pss_cons (ps_if (pt_not (pt_val (pe_call (ok_law_avoids T) (hr.mono (by omega)) (by rfl) T.g_law_avoids T.F_law_avoids.kp T.b_law_avoids .nil pass0 (pa_cons (pv 0) (pa_cons (pv 1) pa_nil))))) (pss_one (ps_ret pe_bl)) pss_nil) (pss_cons (ps_for PassesOwn.never rfl (pi_range1 (by rfl) T.m_range (pa_cons (pe_callB cb_lenT (by rfl) T.m_len (by decide +kernel) (pa_cons (pv 0) pa_nil)) pa_nil)) (pg_name (i := 2) sc_law_prime.nd rfl (Or.inl rfl)) (pss_one (ps_if (PW.pt (pw_and (pt_cmpR op_ne (pe_ix ix_str (pv 0) (pv 2) (fun _ _ => rfl)) pe_str (nomark _)) (pw_and1 (pt_val (pe_call (ok_law_avoids T) (hr.mono (by omega)) (by rfl) T.g_law_avoids T.F_law_avoids.kp T.b_law_avoids .nil pass0 (pa_cons (pe_call (ok_law_with T) (hr.mono (by omega)) (by rfl) T.g_law_with T.F_law_with.kp T.b_law_with .nil pass0 (pa_cons (pv 0) (pa_cons (pv 2) (pa_cons pe_str pa_nil)))) (pa_cons (pv 1) pa_nil))))))) (pss_one (ps_ret pe_bl)) pss_nil))) (pss_one (ps_ret pe_bl)))), fn_go (ps0 := ps0) (c := m_law_prime a0 a1) (r := f_law_prime a0 a1) ?_ (rt_of _) q⟩
    have st0 : Stt K 3 H ps0 (mn H ps0) (start N_law_prime [u0, u1]) H [] [bd 0 a0, bd 1 a1] := stt0 rfl dm (asl_cons (i := 0) rfl z0 (asl_cons (i := 1) rfl z1 asl_nil))
    unfold m_law_prime
    unfold k_law_prime at hok
    obtain ⟨e1, k4⟩ := hok
    refine d_iff (p := True) (q := ((a0.length ≤ 100000) ∧ (rB (a0.length : Int)) ∧ True) ∧ (okFor (m_law_prime_L1 a0 a1) (k_law_prime_L1 a0 a1) (rng (a0.length : Int)) () fun (s17 : Unit) => True)) st0 (et_not (et_val ((er_call (f := F_law_avoids) (ok := K_law_avoids) (ea_cons (st0.k.var (List.Mem.head _)) (ea_cons (st0.k.var (List.Mem.tail _ (List.Mem.head _))) ea_nil)) (e1).1).is rfl))) k4 (fun H5 b6 k7 st8 => ?_) (fun H9 b10 k11 st12 => ?_)
    · exact d_retS st8 er_bl
    · obtain ⟨e14, k44⟩ := k11
      refine d_loop (f := (m_law_prime_L1 a0 a1)) (ok := (k_law_prime_L1 a0 a1)) (s0 := ()) (q := fun (s17 : Unit) => True) (fun (s17 : Unit) => []) (fun (s17 : Unit) => [bd 0 a0, bd 1 a1]) st12 (ei_rng (er_lenS (st12.k.var (List.Mem.head _)) (e14).1) (e14).2.1) k44 (fun H46 Hb47 st48 => st48.less (sub_cons (List.Mem.head _) (sub_cons (List.Mem.tail _ (List.Mem.head _)) sub_nil))) (by decide) (fun s17 => noO_nil) (fun s17 => (noI_cons (by decide) (noI_cons (by decide) noI_nil))) (fun Hb19 x18 s17 s20 H21 h22 k23 st24 => ?_) (fun s17 s39 H40 w41 k42 st43 => ?_)
      · unfold m_law_prime_L1
        unfold k_law_prime_L1 at k23
        obtain ⟨e25, k29⟩ := k23
        refine d_if (p := True) (q := True) st24 (et_and (et_cmp (er_ne (er_ixS (st24.k.var (List.Mem.tail _ (List.Mem.head _))) (st24.k.var (List.Mem.head _)) (e25).1 (e25).2.1) (er_str (s := "-")))) (fun h28 => (et_val ((er_call (f := F_law_avoids) (ok := K_law_avoids) (ea_cons ((er_call (f := F_law_with) (ok := K_law_with) (ea_cons (st24.k.var (List.Mem.tail _ (List.Mem.head _))) (ea_cons (st24.k.var (List.Mem.head _)) (ea_cons (er_str (s := "-")) ea_nil))) ((e25).2.2.1 h28).1).is rfl) (ea_cons (st24.k.var (List.Mem.tail _ (List.Mem.tail _ (List.Mem.head _)))) ea_nil)) ((e25).2.2.1 h28).2.1).is rfl)))) k29 (fun H30 b31 k32 st33 => ?_) (fun H34 b35 k36 st37 => ?_)
        · exact d_retS st33 er_bl
        · exact d_end (st37.less (sub_cons (List.Mem.tail _ (List.Mem.head _)) (sub_cons (List.Mem.tail _ (List.Mem.tail _ (List.Mem.head _))) sub_nil)))
      · exact d_retS st43 er_bl
abbrev N_law : List Str := ["script", "width", "on", "off", "handed", "cover", "code", "k", "rest"]
abbrev F_law : Scr × Unit → Bool := fun x => f_law x.1
abbrev K_law : Scr × Unit → Prop := fun x => k_law x.1
theorem sc_law : FnScope N_law ["script"] (defScope s_law) := ⟨rfl, rfl, rfl, by decide +kernel, rfl, by decide +kernel, by decide +kernel⟩
theorem ok_law (T : Txt K mg) : FnOk P w K mg base CX0 6 T.a_law T.d_law ["script"] (spF K F_law K_law) := by
  refine T.F_law.ok sc_law (fun vs H Q E h => ?_) (fun cdv A outer s H vs Q E hr h => ?_)
  · obtain ⟨ps, x, _, hx, _⟩ := h
    obtain ⟨u0, r0, rfl, z0, rfl⟩ := hx
    rfl
  · obtain ⟨ps0, ⟨a0, _⟩, dm, ⟨u0, r0, rfl, z0, rfl⟩, hok, q⟩ := h
    have hok : k_law a0 := hok
    refine ⟨_, (pss_cons (ps_set (i := 1) sc_law.nd rfl (Or.inl rfl) (pe_op op_mod (pe_callTy ct_int (by rfl) T.m_int (by decide +kernel) (pa_cons (pe_call (ok_law_cell T) (hr.mono (by omega)) (by rfl) T.g_law_cell T.F_law_cell.kp T.b_law_cell .nil pass0 (pa_cons (pv 0) (pa_cons pe_int pa_nil))) pa_nil)) pe_int)) (pss_cons (ps_asg (pe_call (ok_law_function T) (hr.mono (by omega)) (by rfl) T.g_law_function T.F_law_function.kp T.b_law_function .nil pass0 (pa_cons (pe_call (ok_law_cell T) (hr.mono (by omega)) (by rfl) T.g_law_cell T.F_law_cell.kp T.b_law_cell .nil pass0 (pa_cons (pv 0) (pa_cons pe_int pa_nil))) (pa_cons (pv 1) pa_nil))) (pg_unl rfl (pgs_cons (pg_name (i := 2) sc_law.nd rfl (Or.inl rfl)) (pgs_cons (pg_name (i := 3) sc_law.nd rfl (Or.inl rfl)) pgs_nil)))) (pss_cons (ps_set (i := 4) sc_law.nd rfl (Or.inl rfl) (pe_lst (pa_cons (pe_callTy (kct_list K rfl) (by rfl) T.m_list (by decide +kernel) (pa_cons (pv 2) pa_nil)) (pa_cons (pe_callTy (kct_list K rfl) (by rfl) T.m_list (by decide +kernel) (pa_cons (pv 3) pa_nil)) pa_nil)))) (pss_cons (ps_set (i := 5) sc_law.nd rfl (Or.inl rfl) (pe_call (ok_compact_cover T) (hr.mono (by omega)) (by rfl) T.g_compact_cover T.F_compact_cover.kp T.b_compact_cover .nil pass0 (pa_cons (pe_ix (kix_list K rfl) (pv 4) pe_int (fun _ _ => rfl)) (pa_cons (pe_ix (kix_list K rfl) (pv 4) pe_int (fun _ _ => rfl)) pa_nil)))) (pss_cons (ps_if (PW.pt (pw_or (pt_cmpR (kop_neD K rfl hr.units) (pe_ix (kix_list K rfl) (pv 4) pe_int (fun _ _ => rfl)) (pv 2) (nomark _)) (pw_or (pt_cmpR (kop_neD K rfl hr.units) (pe_ix (kix_list K rfl) (pv 4) pe_int (fun _ _ => rfl)) (pv 3) (nomark _)) (pw_or1 (pt_not (pt_val (pe_call (ok_law_is_cover T) (hr.mono (by omega)) (by rfl) T.g_law_is_cover T.F_law_is_cover.kp T.b_law_is_cover .nil pass0 (pa_cons (pv 5) (pa_cons (pv 1) pa_nil))))))))) (pss_one (ps_ret pe_bl)) pss_nil) (pss_cons (ps_for PassesOwn.never rfl (kpi_list K rfl (pv 2)) (pg_name (i := 6) sc_law.nd rfl (Or.inl rfl)) (pss_one (ps_if (pt_not (pt_val (pe_call (ok_law_covered T) (hr.mono (by omega)) (by rfl) T.g_law_covered T.F_law_covered.kp T.b_law_covered .nil pass0 (pa_cons (pv 5) (pa_cons (pv 6) pa_nil))))) (pss_one (ps_ret pe_bl)) pss_nil))) (pss_cons (ps_for PassesOwn.never rfl (pi_range1 (by rfl) T.m_range (pa_cons (pe_callB (kcb_lenQ K rfl) (by rfl) T.m_len (by decide +kernel) (pa_cons (pv 5) pa_nil)) pa_nil)) (pg_name (i := 7) sc_law.nd rfl (Or.inl rfl)) (pss_cons (ps_if (pt_not (pt_val (pe_call (ok_law_prime T) (hr.mono (by omega)) (by rfl) T.g_law_prime T.F_law_prime.kp T.b_law_prime .nil pass0 (pa_cons (pe_ix (kix_list K rfl) (pv 5) (pv 7) (fun _ _ => rfl)) (pa_cons (pv 3) pa_nil))))) (pss_one (ps_ret pe_bl)) pss_nil) (pss_cons (ps_set (i := 8) sc_law.nd rfl (Or.inr rfl) (pe_op op_cat (pe_slice (ksl_list K rfl) (pv 5) po_none (po_some (pv 7))) (pe_slice (ksl_list K rfl) (pv 5) (po_some (pe_op op_add (pv 7) pe_int)) po_none))) (pss_one (ps_if (pt_cmpR op_eq (pe_callB (kcb_lenQ K rfl) (by rfl) T.m_len (by decide +kernel) (pa_cons (pe_lc (own := [("code", 6)]) (g := (gName 6)) (tt := _) rfl sc_law.nd (kpi_list K rfl (pv 2)) (blkOk_by (own := [("code", 6)]) (N := N_law) (sc := defScope s_law) (by decide +kernel)) (fun _ _ _ _ _ => (pg_name (i := 6) sc_law.nd rfl (Or.inl rfl))) (fun _ _ _ _ _ => pts_one (pt_not (pt_val (pe_call (ok_law_covered T) (hr.mono (by omega)) (by rfl) T.g_law_covered T.F_law_covered.kp T.b_law_covered .nil pass0 (pa_cons (pv 8) (pa_cons (pv 6) pa_nil)))))) (fun _ _ _ _ _ => (pv 6))) pa_nil)) pe_int (nomark _)) (pss_one (ps_ret pe_bl)) pss_nil))))) (pss_one (ps_ret pe_bl))))))))), fn_go (ps0 := ps0) (c := m_law a0) (r := f_law a0) ?_ (rt_of _) q⟩
    have st0 : Stt K 9 H ps0 (mn H ps0) (start N_law [u0]) H [] [bd 0 a0] := stt0 rfl dm (asl_cons (i := 0) rfl z0 asl_nil)
    unfold m_law
    unfold k_law at hok
    obtain ⟨e1, k10⟩ := hok
    refine d_let (ok := fun (y4 : Int) => ((k_law_cell a0 (1 : Int)) ∧ (k_law_function (f_law_cell a0 (1 : Int)) y4) ∧ ((f_law_function (f_law_cell a0 (1 : Int)) y4).length = 2) ∧ True) ∧ (okLet (f_law_function (f_law_cell a0 (1 : Int)) y4) fun (y14 : (List (List Tx))) => okLet ([(ixD y14 0), (ixD y14 1)] : (List (List Tx))) fun (y24 : (List (List Tx))) => ((inB y24 (0 : Int)) ∧ (inB y24 (1 : Int)) ∧ (k_compact_cover (ixD y24 (0 : Int)) (ixD y24 (1 : Int))) ∧ True) ∧ (okLet (f_compact_cover (ixD y24 (0 : Int)) (ixD y24 (1 : Int))) fun (y34 : (List Tx)) => ((inB y24 (0 : Int)) ∧ ((!eqB (ixD y24 (0 : Int)) (ixD y14 0)) = false → ((inB y24 (1 : Int)) ∧ ((!eqB (ixD y24 (1 : Int)) (ixD y14 1)) = false → ((k_law_is_cover y34 y4) ∧ True)) ∧ True)) ∧ True) ∧ (okIf ((!eqB (ixD y24 (0 : Int)) (ixD y14 0)) || ((!eqB (ixD y24 (1 : Int)) (ixD y14 1)) || (!(f_law_is_cover y34 y4)))) (True) (okFor (m_law_L1 y34) (k_law_L1 y34) (ixD y14 0) () fun (s59 : Unit) => (k_law_R1 y34 y14 s59)))))) st0 (er_mod (er_intI ((er_call (f := F_law_cell) (ok := K_law_cell) (ea_cons (st0.k.var (List.Mem.head _)) (ea_cons er_int ea_nil)) (e1).1).is rfl)) er_int (by decide)) k10 (by decide) noO_nil (subN_cons (List.Mem.head _) (by decide) subN_nil) fun y4 s5 H6 w8 k9 st7 => ?_
    obtain ⟨e11, k20⟩ := k9
    refine d_unl2 (i := 2) (j := 3) (ok := fun (y14 : (List (List Tx))) => okLet ([(ixD y14 0), (ixD y14 1)] : (List (List Tx))) fun (y24 : (List (List Tx))) => ((inB y24 (0 : Int)) ∧ (inB y24 (1 : Int)) ∧ (k_compact_cover (ixD y24 (0 : Int)) (ixD y24 (1 : Int))) ∧ True) ∧ (okLet (f_compact_cover (ixD y24 (0 : Int)) (ixD y24 (1 : Int))) fun (y34 : (List Tx)) => ((inB y24 (0 : Int)) ∧ ((!eqB (ixD y24 (0 : Int)) (ixD y14 0)) = false → ((inB y24 (1 : Int)) ∧ ((!eqB (ixD y24 (1 : Int)) (ixD y14 1)) = false → ((k_law_is_cover y34 y4) ∧ True)) ∧ True)) ∧ True) ∧ (okIf ((!eqB (ixD y24 (0 : Int)) (ixD y14 0)) || ((!eqB (ixD y24 (1 : Int)) (ixD y14 1)) || (!(f_law_is_cover y34 y4)))) (True) (okFor (m_law_L1 y34) (k_law_L1 y34) (ixD y14 0) () fun (s59 : Unit) => (k_law_R1 y34 y14 s59))))) st7 ((er_call (f := F_law_function) (ok := K_law_function) (ea_cons ((er_call (f := F_law_cell) (ok := K_law_cell) (ea_cons (st7.k.var (List.Mem.tail _ (List.Mem.head _))) (ea_cons er_int ea_nil)) (e11).1).is rfl) (ea_cons (st7.k.var (List.Mem.head _)) ea_nil)) (e11).2.1).is rfl) (e11).2.2.1 k20 ⟨by decide, by decide, by decide⟩ ⟨noO_nil, noO_nil⟩ (subV_cons (List.Mem.head _) (by decide) (subV_cons (List.Mem.tail _ (List.Mem.head _)) (by decide) subV_nil)) fun y14 s15 H16 w18 k19 st17 => ?_
    refine d_let (ok := fun (y24 : (List (List Tx))) => ((inB y24 (0 : Int)) ∧ (inB y24 (1 : Int)) ∧ (k_compact_cover (ixD y24 (0 : Int)) (ixD y24 (1 : Int))) ∧ True) ∧ (okLet (f_compact_cover (ixD y24 (0 : Int)) (ixD y24 (1 : Int))) fun (y34 : (List Tx)) => ((inB y24 (0 : Int)) ∧ ((!eqB (ixD y24 (0 : Int)) (ixD y14 0)) = false → ((inB y24 (1 : Int)) ∧ ((!eqB (ixD y24 (1 : Int)) (ixD y14 1)) = false → ((k_law_is_cover y34 y4) ∧ True)) ∧ True)) ∧ True) ∧ (okIf ((!eqB (ixD y24 (0 : Int)) (ixD y14 0)) || ((!eqB (ixD y24 (1 : Int)) (ixD y14 1)) || (!(f_law_is_cover y34 y4)))) (True) (okFor (m_law_L1 y34) (k_law_L1 y34) (ixD y14 0) () fun (s59 : Unit) => (k_law_R1 y34 y14 s59))))) st17 (er_lst (el_cons (er_listL (st17.k.var (List.Mem.tail _ (List.Mem.head _)))) (el_cons (er_listL (st17.k.var (List.Mem.head _))) el_nil)) (len_le 2 rfl (by decide))) k19 (by decide) noO_nil (subN_cons (List.Mem.head _) (by decide) (subN_cons (List.Mem.tail _ (List.Mem.head _)) (by decide) (subN_cons (List.Mem.tail _ (List.Mem.tail _ (List.Mem.head _))) (by decide) (subN_cons (List.Mem.tail _ (List.Mem.tail _ (List.Mem.tail _ (List.Mem.head _)))) (by decide) subN_nil)))) fun y24 s25 H26 w28 k29 st27 => ?_
    obtain ⟨e31, k40⟩ := k29
    refine d_let (ok := fun (y34 : (List Tx)) => ((inB y24 (0 : Int)) ∧ ((!eqB (ixD y24 (0 : Int)) (ixD y14 0)) = false → ((inB y24 (1 : Int)) ∧ ((!eqB (ixD y24 (1 : Int)) (ixD y14 1)) = false → ((k_law_is_cover y34 y4) ∧ True)) ∧ True)) ∧ True) ∧ (okIf ((!eqB (ixD y24 (0 : Int)) (ixD y14 0)) || ((!eqB (ixD y24 (1 : Int)) (ixD y14 1)) || (!(f_law_is_cover y34 y4)))) (True) (okFor (m_law_L1 y34) (k_law_L1 y34) (ixD y14 0) () fun (s59 : Unit) => (k_law_R1 y34 y14 s59)))) st27 ((er_call (f := F_compact_cover) (ok := K_compact_cover) (ea_cons (er_ixL (st27.k.var (List.Mem.head _)) er_int (e31).1) (ea_cons (er_ixL (st27.k.var (List.Mem.head _)) er_int (e31).2.1) ea_nil)) (e31).2.2.1).is rfl) k40 (by decide) noO_nil (subN_cons (List.Mem.head _) (by decide) (subN_cons (List.Mem.tail _ (List.Mem.head _)) (by decide) (subN_cons (List.Mem.tail _ (List.Mem.tail _ (List.Mem.head _))) (by decide) (subN_cons (List.Mem.tail _ (List.Mem.tail _ (List.Mem.tail _ (List.Mem.head _)))) (by decide) (subN_cons (List.Mem.tail _ (List.Mem.tail _ (List.Mem.tail _ (List.Mem.tail _ (List.Mem.head _))))) (by decide) subN_nil))))) fun y34 s35 H36 w38 k39 st37 => ?_
    obtain ⟨e41, k46⟩ := k39
    refine d_iff (p := True) (q := okFor (m_law_L1 y34) (k_law_L1 y34) (ixD y14 0) () fun (s59 : Unit) => (k_law_R1 y34 y14 s59)) st37 (et_or (et_cmp (er_neD (er_ixL (st37.k.var (List.Mem.tail _ (List.Mem.head _))) er_int (e41).1) (st37.k.var (List.Mem.tail _ (List.Mem.tail _ (List.Mem.tail _ (List.Mem.head _))))))) (fun h44 => (et_or (et_cmp (er_neD (er_ixL (st37.k.var (List.Mem.tail _ (List.Mem.head _))) er_int ((e41).2.1 h44).1) (st37.k.var (List.Mem.tail _ (List.Mem.tail _ (List.Mem.head _)))))) (fun h45 => (et_not (et_val ((er_call (f := F_law_is_cover) (ok := K_law_is_cover) (ea_cons (st37.k.var (List.Mem.head _)) (ea_cons (st37.k.var (List.Mem.tail _ (List.Mem.tail _ (List.Mem.tail _ (List.Mem.tail _ (List.Mem.head _)))))) ea_nil)) (((e41).2.1 h44).2.1 h45).1).is rfl))))))) k46 (fun H47 b48 k49 st50 => ?_) (fun H51 b52 k53 st54 => ?_)
    · exact d_retS st50 er_bl
    · refine d_loop (f := (m_law_L1 y34)) (ok := (k_law_L1 y34)) (s0 := ()) (q := fun (s59 : Unit) => (k_law_R1 y34 y14 s59)) (fun (s59 : Unit) => []) (fun (s59 : Unit) => [bd 5 y34, bd 4 y24, bd 3 (ixD y14 1), bd 2 (ixD y14 0), bd 1 y4, bd 0 a0]) st54 (ei_list (st54.k.var (List.Mem.tail _ (List.Mem.tail _ (List.Mem.tail _ (List.Mem.head _)))))) k53 (fun H150 Hb151 st152 => st152.less (sub_cons (List.Mem.head _) (sub_cons (List.Mem.tail _ (List.Mem.head _)) (sub_cons (List.Mem.tail _ (List.Mem.tail _ (List.Mem.head _))) (sub_cons (List.Mem.tail _ (List.Mem.tail _ (List.Mem.tail _ (List.Mem.head _)))) (sub_cons (List.Mem.tail _ (List.Mem.tail _ (List.Mem.tail _ (List.Mem.tail _ (List.Mem.head _))))) (sub_cons (List.Mem.tail _ (List.Mem.tail _ (List.Mem.tail _ (List.Mem.tail _ (List.Mem.tail _ (List.Mem.head _)))))) sub_nil))))))) (by decide) (fun s59 => noO_nil) (fun s59 => (noI_cons (by decide) (noI_cons (by decide) (noI_cons (by decide) (noI_cons (by decide) (noI_cons (by decide) (noI_cons (by decide) noI_nil))))))) (fun Hb61 x60 s59 s62 H63 h64 k65 st66 => ?_) (fun s59 s80 H81 w82 k83 st84 => ?_)
      · unfold m_law_L1
        unfold k_law_L1 at k65
        obtain ⟨e67, k70⟩ := k65
        refine d_if (p := True) (q := True) st66 (et_not (et_val ((er_call (f := F_law_covered) (ok := K_law_covered) (ea_cons (st66.k.var (List.Mem.tail _ (List.Mem.head _))) (ea_cons (st66.k.var (List.Mem.head _)) ea_nil)) (e67).1).is rfl))) k70 (fun H71 b72 k73 st74 => ?_) (fun H75 b76 k77 st78 => ?_)
        · exact d_retS st74 er_bl
        · exact d_end (st78.less (sub_cons (List.Mem.tail _ (List.Mem.head _)) (sub_cons (List.Mem.tail _ (List.Mem.tail _ (List.Mem.head _))) (sub_cons (List.Mem.tail _ (List.Mem.tail _ (List.Mem.tail _ (List.Mem.head _)))) (sub_cons (List.Mem.tail _ (List.Mem.tail _ (List.Mem.tail _ (List.Mem.tail _ (List.Mem.head _))))) (sub_cons (List.Mem.tail _ (List.Mem.tail _ (List.Mem.tail _ (List.Mem.tail _ (List.Mem.tail _ (List.Mem.head _)))))) (sub_cons (List.Mem.tail _ (List.Mem.tail _ (List.Mem.tail _ (List.Mem.tail _ (List.Mem.tail _ (List.Mem.tail _ (List.Mem.head _))))))) sub_nil)))))))
      · unfold m_law_R1
        unfold k_law_R1 at k83
        obtain ⟨e86, k145⟩ := k83
        refine d_loop (f := (m_law_L2 y34 y14)) (ok := (k_law_L2 y34 y14)) (s0 := ()) (q := fun (s89 : Unit) => True) (fun (s89 : Unit) => []) (fun (s89 : Unit) => [bd 5 y34, bd 4 y24, bd 3 (ixD y14 1), bd 2 (ixD y14 0), bd 1 y4, bd 0 a0]) st84 (ei_rng (er_lenL (st84.k.var (List.Mem.head _))) (e86).1) k145 (fun H147 Hb148 st149 => st149.less (sub_cons (List.Mem.head _) (sub_cons (List.Mem.tail _ (List.Mem.head _)) (sub_cons (List.Mem.tail _ (List.Mem.tail _ (List.Mem.head _))) (sub_cons (List.Mem.tail _ (List.Mem.tail _ (List.Mem.tail _ (List.Mem.head _)))) (sub_cons (List.Mem.tail _ (List.Mem.tail _ (List.Mem.tail _ (List.Mem.tail _ (List.Mem.head _))))) (sub_cons (List.Mem.tail _ (List.Mem.tail _ (List.Mem.tail _ (List.Mem.tail _ (List.Mem.tail _ (List.Mem.head _)))))) sub_nil))))))) (by decide) (fun s89 => noO_nil) (fun s89 => (noI_cons (by decide) (noI_cons (by decide) (noI_cons (by decide) (noI_cons (by decide) (noI_cons (by decide) (noI_cons (by decide) noI_nil))))))) (fun Hb91 x90 s89 s92 H93 h94 k95 st96 => ?_) (fun s89 s140 H141 w142 k143 st144 => ?_)
        · unfold m_law_L2
          unfold k_law_L2 at k95
          obtain ⟨e97, k100⟩ := k95
          refine d_iff (p := True) (q := (((cut y34 none (some x90)).length + (cut y34 (some (x90 + (1 : Int))) none).length ≤ 100000) ∧ True) ∧ (okLet ((cut y34 none (some x90)) ++ (cut y34 (some (x90 + (1 : Int))) none)) fun (y113 : (List Tx)) => (((ixD y14 0).length ≤ 100000) ∧ (∀ x123 ∈ (ixD y14 0), ((k_law_covered y113 x123) ∧ True)) ∧ (True) ∧ True) ∧ (okIf (eqB ((((ixD y14 0).filter fun x123 => (!(f_law_covered y113 x123))).map fun x123 => x123).length : Int) (0 : Int)) (True) (True)))) st96 (et_not (et_val ((er_call (f := F_law_prime) (ok := K_law_prime) (ea_cons (er_ixL (st96.k.var (List.Mem.tail _ (List.Mem.head _))) (st96.k.var (List.Mem.head _)) (e97).1) (ea_cons (st96.k.var (List.Mem.tail _ (List.Mem.tail _ (List.Mem.tail _ (List.Mem.head _))))) ea_nil)) (e97).2.1).is rfl))) k100 (fun H101 b102 k103 st104 => ?_) (fun H105 b106 k107 st108 => ?_)
          · exact d_retS st104 er_bl
          · obtain ⟨e110, k119⟩ := k107
            refine d_let (ok := fun (y113 : (List Tx)) => (((ixD y14 0).length ≤ 100000) ∧ (∀ x123 ∈ (ixD y14 0), ((k_law_covered y113 x123) ∧ True)) ∧ (True) ∧ True) ∧ (okIf (eqB ((((ixD y14 0).filter fun x123 => (!(f_law_covered y113 x123))).map fun x123 => x123).length : Int) (0 : Int)) (True) (True))) st108 (er_catL (er_slL (st108.k.var (List.Mem.tail _ (List.Mem.head _))) eo_none (eo_some (st108.k.var (List.Mem.head _)))) (er_slL (st108.k.var (List.Mem.tail _ (List.Mem.head _))) (eo_some (er_add (st108.k.var (List.Mem.head _)) er_int)) eo_none) (e110).1) k119 (by decide) noO_nil (subN_cons (List.Mem.head _) (by decide) (subN_cons (List.Mem.tail _ (List.Mem.head _)) (by decide) (subN_cons (List.Mem.tail _ (List.Mem.tail _ (List.Mem.head _))) (by decide) (subN_cons (List.Mem.tail _ (List.Mem.tail _ (List.Mem.tail _ (List.Mem.head _)))) (by decide) (subN_cons (List.Mem.tail _ (List.Mem.tail _ (List.Mem.tail _ (List.Mem.tail _ (List.Mem.head _))))) (by decide) (subN_cons (List.Mem.tail _ (List.Mem.tail _ (List.Mem.tail _ (List.Mem.tail _ (List.Mem.tail _ (List.Mem.head _)))))) (by decide) (subN_cons (List.Mem.tail _ (List.Mem.tail _ (List.Mem.tail _ (List.Mem.tail _ (List.Mem.tail _ (List.Mem.tail _ (List.Mem.head _))))))) (by decide) subN_nil))))))) fun y113 s114 H115 w117 k118 st116 => ?_
            obtain ⟨e120, k130⟩ := k118
            refine d_if (p := True) (q := True) st116 (et_cmp (er_eq (er_lenL (er_lcF (p := fun x123 => (!(f_law_covered y113 x123))) (h := fun x123 => x123) [bd 8 y113, bd 7 x90, bd 5 y34, bd 4 y24, bd 3 (ixD y14 1), bd 2 (ixD y14 0), bd 1 y4, bd 0 a0] st116.k (ei_list (st116.k.var (List.Mem.tail _ (List.Mem.tail _ (List.Mem.tail _ (List.Mem.tail _ (List.Mem.tail _ (List.Mem.head _)))))))) (e120).1 (by decide) (by decide) (subV_cons (List.Mem.head _) (by decide) (subV_cons (List.Mem.tail _ (List.Mem.head _)) (by decide) (subV_cons (List.Mem.tail _ (List.Mem.tail _ (List.Mem.head _))) (by decide) (subV_cons (List.Mem.tail _ (List.Mem.tail _ (List.Mem.tail _ (List.Mem.head _)))) (by decide) (subV_cons (List.Mem.tail _ (List.Mem.tail _ (List.Mem.tail _ (List.Mem.tail _ (List.Mem.head _))))) (by decide) (subV_cons (List.Mem.tail _ (List.Mem.tail _ (List.Mem.tail _ (List.Mem.tail _ (List.Mem.tail _ (List.Mem.head _)))))) (by decide) (subV_cons (List.Mem.tail _ (List.Mem.tail _ (List.Mem.tail _ (List.Mem.tail _ (List.Mem.tail _ (List.Mem.tail _ (List.Mem.head _))))))) (by decide) (subV_cons (List.Mem.tail _ (List.Mem.tail _ (List.Mem.tail _ (List.Mem.tail _ (List.Mem.tail _ (List.Mem.tail _ (List.Mem.tail _ (List.Mem.head _)))))))) (by decide) subV_nil)))))))) (fun P127 x123 s128 H129 h125 q124 => (et_not (et_val ((er_call (f := F_law_covered) (ok := K_law_covered) (ea_cons (q124.var (List.Mem.tail _ (List.Mem.head _))) (ea_cons (q124.var (List.Mem.head _)) ea_nil)) ((e120).2.1 x123 h125).1).is rfl)))) (fun P127 x123 s128 H129 h125 h126 q124 => (q124.var (List.Mem.head _))))) er_int)) k130 (fun H131 b132 k133 st134 => ?_) (fun H135 b136 k137 st138 => ?_)
            · exact d_retS st134 er_bl
            · exact d_end (st138.less (sub_cons (List.Mem.tail _ (List.Mem.tail _ (List.Mem.head _))) (sub_cons (List.Mem.tail _ (List.Mem.tail _ (List.Mem.tail _ (List.Mem.head _)))) (sub_cons (List.Mem.tail _ (List.Mem.tail _ (List.Mem.tail _ (List.Mem.tail _ (List.Mem.head _))))) (sub_cons (List.Mem.tail _ (List.Mem.tail _ (List.Mem.tail _ (List.Mem.tail _ (List.Mem.tail _ (List.Mem.head _)))))) (sub_cons (List.Mem.tail _ (List.Mem.tail _ (List.Mem.tail _ (List.Mem.tail _ (List.Mem.tail _ (List.Mem.tail _ (List.Mem.head _))))))) (sub_cons (List.Mem.tail _ (List.Mem.tail _ (List.Mem.tail _ (List.Mem.tail _ (List.Mem.tail _ (List.Mem.tail _ (List.Mem.tail _ (List.Mem.head _)))))))) sub_nil)))))))
        · exact d_retS st144 er_bl
end
/-! ### the mathematics of cubes -/
/-- a text of the signs 0, 1 and - -/
def Cub (w : Nat) (x : Tx) : Prop := x.length = w ∧ ∀ c ∈ x, c = 48 ∨ c = 49 ∨ c = 45
def Cod (w : Nat) (x : Tx) : Prop := x.length = w ∧ ∀ c ∈ x, c = 48 ∨ c = 49
theorem Cod.cub {w : Nat} {x : Tx} (h : Cod w x) : Cub w x := ⟨h.1, fun c hc => (h.2 c hc).elim .inl fun e => .inr (.inl e)⟩
/-- the code is in the cube -/
def mat : Tx → Tx → Bool
  | a :: x, b :: y => (decide (a = 45) || decide (a = b)) && mat x y
  | _, _ => true
theorem mat_iff : ∀ {x y : Tx}, x.length = y.length → (mat x y = true ↔ ∀ (i : Nat) (a b : Nat), x[i]? = some a → y[i]? = some b → a = 45 ∨ a = b)
  | [], [], _ => ⟨fun _ i a b h => by simp at h, fun _ => rfl⟩
  | a :: x, b :: y, h => by
    have ih := mat_iff (x := x) (y := y) (by simpa using h)
    unfold mat
    rw [Bool.and_eq_true, Bool.or_eq_true, decide_eq_true_iff, decide_eq_true_iff, ih]
    constructor
    · rintro ⟨h1, h2⟩ i c d hc hd
      cases i with
      | zero => simp at hc hd; subst hc; subst hd; exact h1
      | succ i => exact h2 i c d (by simpa using hc) (by simpa using hd)
    · exact fun h => ⟨h 0 a b rfl rfl, fun i c d hc hd => h (i + 1) c d (by simpa using hc) (by simpa using hd)⟩
/-- a number's binary signs -/
def bin : Nat → Nat → Tx
  | 0, _ => []
  | w + 1, n => bin w (n / 2) ++ [48 + n % 2]
theorem bin_len : ∀ (w n : Nat), (bin w n).length = w
  | 0, _ => rfl
  | w + 1, n => by rw [bin, List.length_append, bin_len w]; rfl
theorem bin_cod : ∀ (w n : Nat), Cod w (bin w n)
  | 0, _ => ⟨rfl, fun c h => nomatch h⟩
  | w + 1, n => ⟨bin_len _ _, fun c h => by
    rw [bin, List.mem_append] at h
    rcases h with h | h
    · exact (bin_cod w _).2 c h
    · rw [List.mem_singleton] at h; omega⟩
theorem bin_all : ∀ {w : Nat} {x : Tx}, Cod w x → ∃ n, n < 2 ^ w ∧ bin w n = x
  | 0, x, h => ⟨0, by decide, by rw [List.eq_nil_of_length_eq_zero h.1]; rfl⟩
  | w + 1, x, h => by
    have hne : x ≠ [] := fun e => by have := h.1; rw [e] at this; simp at this
    have hd := List.dropLast_concat_getLast hne
    obtain ⟨n, hn, e⟩ := bin_all (w := w) (x := x.dropLast) ⟨by rw [List.length_dropLast, h.1]; rfl, fun c hc => h.2 c ((List.dropLast_sublist x).subset hc)⟩
    have hl := h.2 _ (List.getLast_mem hne)
    refine ⟨2 * n + (x.getLast hne - 48), by rw [Nat.pow_succ]; omega, ?_⟩
    rw [bin, show (2 * n + (x.getLast hne - 48)) / 2 = n by omega, e, show 48 + (2 * n + (x.getLast hne - 48)) % 2 = x.getLast hne by omega]
    exact hd
theorem bin_inj : ∀ {w n m : Nat}, n < 2 ^ w → m < 2 ^ w → bin w n = bin w m → n = m
  | 0, n, m, hn, hm, _ => by simp at hn hm; omega
  | w + 1, n, m, hn, hm, h => by
    rw [bin, bin] at h
    obtain ⟨h1, h2⟩ := List.append_inj' h rfl
    have h3 := bin_inj (w := w) (n := n / 2) (m := m / 2) (by rw [Nat.pow_succ] at hn; omega) (by rw [Nat.pow_succ] at hm; omega) h1
    have h4 : 48 + n % 2 = 48 + m % 2 := by simpa using h2
    omega
/-- all codes of a width -/
def codes (w : Nat) : List Tx := (List.range (2 ^ w)).map (bin w)
theorem mem_codes {w : Nat} {x : Tx} : x ∈ codes w ↔ Cod w x := by
  unfold codes
  rw [List.mem_map]
  constructor
  · rintro ⟨n, _, rfl⟩; exact bin_cod w n
  · intro h
    obtain ⟨n, hn, e⟩ := bin_all h
    exact ⟨n, List.mem_range.mpr hn, e⟩
theorem codes_nodup (w : Nat) : (codes w).Nodup := by
  unfold codes
  rw [List.nodup_iff_pairwise_ne, List.pairwise_map]
  refine List.Pairwise.imp_of_mem (R := fun a b => a ≠ b) ?_ List.nodup_range
  intro a b ha hb hab e
  exact hab (bin_inj (List.mem_range.mp ha) (List.mem_range.mp hb) e)
theorem codes_len (w : Nat) : (codes w).length = 2 ^ w := by unfold codes; rw [List.length_map, List.length_range]
theorem mem2 {c : Nat} {l : List Nat} : True := trivial
/-! ### the law's own defs -/

theorem cell_ok (ns : List Int) (k : Int) (h : 0 ≤ k) : k_law_cell ⟨ns⟩ k := by
  unfold k_law_cell
  by_cases hk : k < (ns.length : Int)
  · exact okIf_t (decide_eq_true hk) ⟨inB_nat h hk, trivial⟩
  · exact okIf_f (decide_eq_false hk) trivial

theorem code_of_all (n w : Int) (hn : 0 ≤ n) (hw : 0 ≤ w) (hw2 : w ≤ 1000) : k_law_code_of n w ∧ f_law_code_of n w = bin w.toNat n.toNat := by
  unfold k_law_code_of f_law_code_of m_law_code_of okLet
  rw [outC_let]
  have key : ∀ (w a : Nat) (i : Nat), bin (i + 1) a = [48 + a / 2 ^ i % 2] ++ bin i a := fun w a i => by
    induction i generalizing a with
    | zero => simp [bin]
    | succ i ih =>
      rw [bin, ih (a / 2), bin, ← List.append_assoc]
      congr 4
      rw [Nat.pow_succ, Nat.mul_comm]; rw [← Nat.div_div_eq_div_mul]
  have h := for_def (f := m_law_code_of_L1) (ok := k_law_code_of_L1) (items := rng w) (s0 := (lit "", n)) (k := fun s10 : Tx × Int => .rt s10.1) (q := fun _ => True) (Q := fun r => r = bin w.toNat n.toNat)
    (fun i s => s.1 = bin i n.toNat ∧ s.2 = ((n.toNat / 2 ^ i : Nat) : Int)) (fun _ => False) ⟨by rw [lit_e]; rfl, by show n = _; simp; omega⟩ (fun i x s hx hs => ?_) (fun s hs => ?_)
  · exact ⟨⟨⟨⟨by omega, by omega⟩, trivial⟩, h.1⟩, h.2⟩
  · obtain ⟨h1, h2⟩ := rng_get hx
    obtain ⟨e1, e2⟩ := hs
    have hm : s.2 % 2 = ((n.toNat / 2 ^ i % 2 : Nat) : Int) := by rw [e2]; omega
    have hlt : n.toNat / 2 ^ i % 2 < 2 := Nat.mod_lt _ (by decide)
    have hB : inB (lit "01") (s.2 % 2) := by rw [lit_01, hm]; exact ⟨by show -2 ≤ _; omega, by show _ < (2 : Int); omega⟩
    have hi : ixD (lit "01") (s.2 % 2) = 48 + n.toNat / 2 ^ i % 2 := by
      rw [lit_01, hm]
      generalize n.toNat / 2 ^ i % 2 = z at hlt ⊢
      match z, hlt with
      | 0, _ => rfl
      | 1, _ => rfl
    refine ⟨⟨⟨hB, by rw [lit_01]; decide, ?_, trivial⟩, ?_⟩, ?_⟩
    · rw [e1, bin_len, List.length_singleton]; omega
    · trivial
    · show _ ∧ _
      refine ⟨?_, ?_⟩
      · show [ixD (lit "01") (s.2 % 2)] ++ s.1 = _
        rw [hi, e1, key 0]
      · show s.2 / 2 = _
        rw [e2, Nat.pow_succ, ← Nat.div_div_eq_div_mul]; omega
  · obtain hs | hs := hs
    · exact ⟨trivial, by rw [rng_len] at hs; exact hs.1⟩
    · exact hs.elim
theorem pow_at (w : Nat) (h : w ≤ 8) : ixD ([(1 : Int), (2 : Int), (4 : Int), (8 : Int), (16 : Int), (32 : Int), (64 : Int), (128 : Int), (256 : Int)] : (List Int)) (w : Int) = ((2 ^ w : Nat) : Int) := by
  match w, h with
  | 0, _ => rfl
  | 1, _ => rfl
  | 2, _ => rfl
  | 3, _ => rfl
  | 4, _ => rfl
  | 5, _ => rfl
  | 6, _ => rfl
  | 7, _ => rfl
  | 8, _ => rfl
theorem codes_all (w : Int) (hw : 0 ≤ w) (hw2 : w ≤ 8) : k_law_codes w ∧ f_law_codes w = codes w.toNat := by
  obtain ⟨n, rfl⟩ : ∃ n : Nat, w = (n : Int) := ⟨w.toNat, by omega⟩
  have hn : n ≤ 8 := by omega
  have hp : (2 ^ n : Nat) ≤ 256 := Nat.pow_le_pow_right (by decide) hn
  unfold k_law_codes f_law_codes m_law_codes okLet
  rw [outC_let, outC_rt, pow_at n hn]
  have hp0 : ((2 ^ n : Nat) : Int) ≤ 256 := by exact_mod_cast hp
  have hp1 : (0 : Int) ≤ ((2 ^ n : Nat) : Int) := Int.natCast_nonneg _
  refine ⟨⟨⟨⟨by show -9 ≤ _; omega, by show _ < (9 : Int); omega⟩, trivial⟩, ⟨Int.le_trans (by decide) hp1, Int.le_trans hp0 (by decide)⟩, by rw [rng_len, Int.toNat_natCast]; exact Nat.le_trans hp (by decide), fun x hx => ?_, trivial⟩, ?_⟩
  · exact ⟨(code_of_all x n (mem_rng.mp hx).1 (by omega) (by omega)).1, trivial⟩
  · unfold codes
    rw [rng_nat, List.map_map, Int.toNat_natCast]
    exact List.map_congr_left fun x _ => (code_of_all (Int.ofNat x) n (Int.natCast_nonneg x) (by omega) (by omega)).2

theorem in_all (x y : Tx) (h : x.length = y.length) (hz : x.length ≤ 1000) : k_law_in x y ∧ f_law_in x y = mat x y := by
  unfold k_law_in f_law_in m_law_in
  have g := for_def (f := m_law_in_L1 x y) (ok := k_law_in_L1 x y) (items := rng (y.length : Int)) (s0 := ()) (k := fun _ => .rt true) (q := fun _ => True) (Q := fun r => r = mat x y)
    (fun i _ => ∀ (j a b : Nat), j < i → x[j]? = some a → y[j]? = some b → a = 45 ∨ a = b) (fun _ => False) (fun j a b h => nomatch h) (fun i z s hx hs => ?_) (fun s hs => ?_)
  · exact ⟨⟨⟨by omega, ⟨by omega, by omega⟩, trivial⟩, g.1⟩, g.2⟩
  · obtain ⟨rfl, h2⟩ := rng_get hx
    have l1 : i < x.length := by omega
    have l2 : i < y.length := by omega
    have b1 : inB x (i : Int) := inB_nat (by omega) (by omega)
    have b2 : inB y (i : Int) := inB_nat (by omega) (by omega)
    refine ⟨⟨⟨b1, by omega, fun _ => ⟨b1, by omega, b2, by omega, trivial⟩, trivial⟩, okIf_b trivial trivial⟩, ?_⟩
    unfold m_law_in_L1
    rw [ixD_nat l1, ixD_nat l2, lit_d]
    by_cases hb : x[i] = 45 ∨ x[i] = y[i]
    · rw [cIf_f]
      · intro j a b hj ha hb'
        by_cases e : j = i
        · subst e
          rw [List.getElem?_eq_getElem l1] at ha
          rw [List.getElem?_eq_getElem l2] at hb'
          cases ha; cases hb'; exact hb
        · exact hs j a b (by omega) ha hb'
      · rcases hb with e | e
        · rw [e]; simp [eqB]
        · rw [e]; simp [eqB]
    · rw [cIf_t]
      · show false = mat x y
        symm
        rw [Bool.eq_false_iff]
        intro hm
        exact hb ((mat_iff h).mp hm i _ _ (List.getElem?_eq_getElem l1) (List.getElem?_eq_getElem l2))
      · have h1 : x[i] ≠ 45 := fun e => hb (.inl e)
        have h2 : x[i] ≠ y[i] := fun e => hb (.inr e)
        simp [eqB, h1, h2]
  · obtain hs | hs := hs
    · refine ⟨trivial, ?_⟩
      show true = mat x y
      rw [eq_comm, mat_iff h]
      intro i a b ha hb
      have := (List.getElem?_eq_some_iff.mp hb).1
      exact hs i a b (by rw [rng_len]; omega) ha hb
    · exact hs.elim

/-! ### the intersection -/
def com (a b : Nat) : Option Nat := if a = 45 then some b else if b = 45 ∨ b = a then some a else none
theorem com_some {a b c : Nat} (h : com a b = some c) (ha : a = 48 ∨ a = 49 ∨ a = 45) (hb : b = 48 ∨ b = 49 ∨ b = 45) : (c = 48 ∨ c = 49 ∨ c = 45) ∧ ∀ v, v = 48 ∨ v = 49 → ((c = 45 ∨ c = v) ↔ (a = 45 ∨ a = v) ∧ (b = 45 ∨ b = v)) := by
  unfold com at h
  split at h
  · cases h; exact ⟨hb, fun v hv => by omega⟩
  · split at h
    · cases h; exact ⟨ha, fun v hv => by omega⟩
    · cases h
theorem com_none {a b : Nat} (h : com a b = none) : ∀ v, ¬ ((a = 45 ∨ a = v) ∧ (b = 45 ∨ b = v)) := by
  unfold com at h
  split at h
  · cases h
  · split at h
    · cases h
    · intro v; omega
def inter : Tx → Tx → Option Tx
  | a :: x, b :: y => match com a b, inter x y with
    | some c, some r => some (c :: r)
    | _, _ => none
  | _, _ => some []
theorem mat_nl (y : Tx) : mat [] y = true := by cases y <;> rfl
theorem mat_cons (a b : Nat) (x y : Tx) : mat (a :: x) (b :: y) = ((decide (a = 45) || decide (a = b)) && mat x y) := by rw [mat]
theorem cub_cons {w a : Nat} {x : Tx} (h : Cub (w + 1) (a :: x)) : (a = 48 ∨ a = 49 ∨ a = 45) ∧ Cub w x := ⟨h.2 a List.mem_cons_self, by have := h.1; simp at this; exact this, fun c hc => h.2 c (List.mem_cons_of_mem _ hc)⟩
theorem cod_cons {w a : Nat} {x : Tx} (h : Cod (w + 1) (a :: x)) : (a = 48 ∨ a = 49) ∧ Cod w x := ⟨h.2 a List.mem_cons_self, by have := h.1; simp at this; exact this, fun c hc => h.2 c (List.mem_cons_of_mem _ hc)⟩
theorem cub_mk {w a : Nat} {x : Tx} (h : a = 48 ∨ a = 49 ∨ a = 45) (k : Cub w x) : Cub (w + 1) (a :: x) := ⟨by rw [List.length_cons, k.1], fun c hc => (List.mem_cons.mp hc).elim (fun e => e ▸ h) (k.2 c)⟩
theorem cod_mk {w a : Nat} {x : Tx} (h : a = 48 ∨ a = 49) (k : Cod w x) : Cod (w + 1) (a :: x) := ⟨by rw [List.length_cons, k.1], fun c hc => (List.mem_cons.mp hc).elim (fun e => e ▸ h) (k.2 c)⟩
theorem len0 {w : Nat} {x : Tx} {p : Nat → Prop} (h : x.length = 0 ∧ ∀ c ∈ x, p c) : x = [] := List.eq_nil_of_length_eq_zero h.1
theorem len1 {w : Nat} {x : Tx} (h : x.length = w + 1) : ∃ a y, x = a :: y := by
  cases x with
  | nil => simp at h
  | cons a y => exact ⟨a, y, rfl⟩
theorem inter_some : ∀ {w : Nat} {x y z : Tx}, Cub w x → Cub w y → inter x y = some z → Cub w z ∧ ∀ c, Cod w c → mat z c = (mat x c && mat y c)
  | 0, x, y, z, hx, hy, h => by
    have e1 : x = [] := List.eq_nil_of_length_eq_zero hx.1
    subst e1
    have e : z = [] := by unfold inter at h; exact (Option.some.inj h).symm
    subst e
    have e3 : y = [] := List.eq_nil_of_length_eq_zero hy.1
    subst e3
    exact ⟨⟨rfl, fun c h => nomatch h⟩, fun c hc => by rw [mat_nl]; rfl⟩
  | w + 1, x, y, z, hx, hy, h => by
    obtain ⟨a, x, rfl⟩ := len1 hx.1
    obtain ⟨b, y, rfl⟩ := len1 hy.1
    obtain ⟨ha, hx⟩ := cub_cons hx
    obtain ⟨hb, hy⟩ := cub_cons hy
    rw [inter] at h
    cases hc : com a b with
    | none => rw [hc] at h; exact nomatch h
    | some c =>
      cases hr : inter x y with
      | none => rw [hc, hr] at h; cases h
      | some r =>
        rw [hc, hr] at h
        cases h
        obtain ⟨h1, h2⟩ := com_some hc ha hb
        obtain ⟨h3, h4⟩ := inter_some hx hy hr
        refine ⟨cub_mk h1 h3, fun d hd => ?_⟩
        obtain ⟨v, d, rfl⟩ := len1 hd.1
        obtain ⟨hv, hd⟩ := cod_cons hd
        rw [mat_cons, mat_cons, mat_cons, h4 d hd, Bool.eq_iff_iff]
        have := h2 v hv
        simp only [Bool.and_eq_true, Bool.or_eq_true, decide_eq_true_iff]
        constructor
        · rintro ⟨p, q, r⟩; exact ⟨⟨(this.mp p).1, q⟩, (this.mp p).2, r⟩
        · rintro ⟨⟨p, q⟩, r, s⟩; exact ⟨this.mpr ⟨p, r⟩, q, s⟩
theorem inter_none : ∀ {w : Nat} {x y : Tx}, Cub w x → Cub w y → inter x y = none → ∀ c, Cod w c → (mat x c && mat y c) = false
  | 0, x, y, hx, hy, h => by
    have e1 : x = [] := List.eq_nil_of_length_eq_zero hx.1
    subst e1
    unfold inter at h; cases h
  | w + 1, x, y, hx, hy, h => by
    obtain ⟨a, x, rfl⟩ := len1 hx.1
    obtain ⟨b, y, rfl⟩ := len1 hy.1
    obtain ⟨ha, hx⟩ := cub_cons hx
    obtain ⟨hb, hy⟩ := cub_cons hy
    intro d hd
    obtain ⟨v, d, rfl⟩ := len1 hd.1
    obtain ⟨hv, hd⟩ := cod_cons hd
    rw [inter] at h
    rw [mat_cons, mat_cons, Bool.eq_false_iff]
    simp only [ne_eq, Bool.and_eq_true, Bool.or_eq_true, decide_eq_true_iff]
    rintro ⟨⟨p, q⟩, r, s⟩
    cases hc : com a b with
    | none => exact com_none hc v ⟨p, r⟩
    | some c =>
      cases hr : inter x y with
      | none =>
        have := inter_none hx hy hr d hd
        rw [q, s] at this; cases this
      | some r => rw [hc, hr] at h; cases h
/-- a code within a cube -/
theorem some_code : ∀ {w : Nat} {x : Tx}, Cub w x → ∃ c, Cod w c ∧ mat x c = true
  | 0, x, hx => ⟨[], ⟨rfl, fun c h => nomatch h⟩, by
    have e1 : x = [] := List.eq_nil_of_length_eq_zero hx.1
    subst e1; rw [mat]; simp⟩
  | w + 1, x, hx => by
    obtain ⟨a, x, rfl⟩ := len1 hx.1
    obtain ⟨ha, hx⟩ := cub_cons hx
    obtain ⟨c, h1, h2⟩ := some_code hx
    rcases ha with e | e | e
    · exact ⟨48 :: c, cod_mk (.inl rfl) h1, by rw [mat_cons, h2, e]; rfl⟩
    · exact ⟨49 :: c, cod_mk (.inr rfl) h1, by rw [mat_cons, h2, e]; rfl⟩
    · exact ⟨48 :: c, cod_mk (.inl rfl) h1, by rw [mat_cons, h2, e]; rfl⟩
/-- inside: every code of x is in y -/
theorem mat_inside : ∀ {w : Nat} {x y : Tx}, Cub w x → Cub w y → (mat y x = true ↔ ∀ c, Cod w c → mat x c = true → mat y c = true)
  | 0, x, y, hx, hy => by
    have e1 : x = [] := List.eq_nil_of_length_eq_zero hx.1
    have e2 : y = [] := List.eq_nil_of_length_eq_zero hy.1
    subst e1; subst e2
    exact ⟨fun _ c _ h => by simpa [mat] using h, fun _ => rfl⟩
  | w + 1, x, y, hx, hy => by
    obtain ⟨a, x, rfl⟩ := len1 hx.1
    obtain ⟨b, y, rfl⟩ := len1 hy.1
    obtain ⟨ha, hx⟩ := cub_cons hx
    obtain ⟨hb, hy⟩ := cub_cons hy
    have ih := mat_inside hx hy
    rw [mat_cons, Bool.and_eq_true, Bool.or_eq_true, decide_eq_true_iff, decide_eq_true_iff, ih]
    constructor
    · rintro ⟨h1, h2⟩ d hd hm
      obtain ⟨v, d, rfl⟩ := len1 hd.1
      obtain ⟨hv, hd⟩ := cod_cons hd
      rw [mat_cons, Bool.and_eq_true, Bool.or_eq_true, decide_eq_true_iff, decide_eq_true_iff] at hm ⊢
      exact ⟨by omega, h2 d hd hm.2⟩
    · intro h
      have ex : ∃ v, (v = 48 ∨ v = 49) ∧ (a = 45 ∨ a = v) ∧ (b = 45 ∨ b = a ∨ ¬ (b = 45 ∨ b = v)) := by
        rcases ha with e | e | e
        · exact ⟨48, .inl rfl, .inr e, by omega⟩
        · exact ⟨49, .inr rfl, .inr e, by omega⟩
        · by_cases hb2 : b = 48
          · exact ⟨49, .inr rfl, .inl e, by omega⟩
          · exact ⟨48, .inl rfl, .inl e, by omega⟩
      obtain ⟨v, hv, hav, hbv⟩ := ex
      constructor
      · rcases hbv with q | q | q
        · exact .inl q
        · exact .inr q
        · obtain ⟨c, h1, h2⟩ := some_code hx
          have := h (v :: c) (cod_mk hv h1) (by rw [mat_cons, h2, Bool.and_true, Bool.or_eq_true, decide_eq_true_iff, decide_eq_true_iff]; exact hav)
          rw [mat_cons, Bool.and_eq_true, Bool.or_eq_true, decide_eq_true_iff, decide_eq_true_iff] at this
          exact absurd this.1 q
      · intro d hd hm
        have := h (v :: d) (cod_mk hv hd) (by rw [mat_cons, hm, Bool.and_true, Bool.or_eq_true, decide_eq_true_iff, decide_eq_true_iff]; exact hav)
        rw [mat_cons, Bool.and_eq_true] at this
        exact this.2
theorem mat_self : ∀ x : Tx, mat x x = true
  | [] => rfl
  | a :: x => by rw [mat_cons, mat_self x]; simp

theorem contains_all (x y : Tx) (hz : x.length ≤ 1000) : k_contains x y ∧ f_contains x y = mat x y := by
  unfold k_contains f_contains m_contains
  refine ⟨⟨by rw [zipT_len, chs_len]; omega, trivial, trivial⟩, ?_⟩
  rw [outC_rt]
  clear hz
  induction x generalizing y with
  | nil => rfl
  | cons a x ih =>
    cases y with
    | nil => rfl
    | cons b y =>
      rw [zipT_chs, List.map_cons, List.all_cons, ih y]
      show (memB [a] [lit "-", [b]] && mat x y) = mat (a :: x) (b :: y)
      rw [mat]
      congr 1
      rw [lit_d, Bool.eq_iff_iff, memB_t, Bool.or_eq_true, decide_eq_true_iff, decide_eq_true_iff]
      simp

theorem with_all (x : Tx) (k : Nat) (c : Nat) (h : k < x.length) (hz : x.length ≤ 1000) : k_law_with x (k : Int) [c] ∧ f_law_with x (k : Int) [c] = x.set k c := by
  unfold k_law_with f_law_with m_law_with
  rw [outC_rt]
  refine ⟨⟨by omega, ?_, by omega, ?_, trivial⟩, cut_set h⟩
  · rw [cut_to, List.length_take, List.length_singleton]; omega
  · rw [List.length_append, cut_to, List.length_take, List.length_singleton, show ((k : Int) + 1) = ((k + 1 : Nat) : Int) by omega, cut_from, List.length_drop]; omega
theorem Cub.set {w k c : Nat} {x : Tx} (h : Cub w x) (hc : c = 48 ∨ c = 49 ∨ c = 45) : Cub w (x.set k c) := ⟨by rw [List.length_set]; exact h.1, fun d hd => (List.mem_or_eq_of_mem_set hd).elim (h.2 d) fun e => e ▸ hc⟩

theorem is_cube_all (x : Tx) (w : Nat) (h : Cub w x) (hz : w ≤ 1000) : k_law_is_cube x (w : Int) ∧ f_law_is_cube x (w : Int) = true := by
  unfold k_law_is_cube f_law_is_cube m_law_is_cube
  have hl : ((!true) || (!eqB (x.length : Int) (w : Int))) = false := by
    show (false || !eqB (x.length : Int) (w : Int)) = false
    rw [h.1, eqB_self]; rfl
  rw [cIf_f hl]
  have g := for_def (f := m_law_is_cube_L1) (ok := k_law_is_cube_L1) (items := chs x) (s0 := ()) (k := fun _ => .rt true) (q := fun _ => True) (Q := fun r => r = true)
    (fun i _ => True) (fun _ => False) trivial (fun i z s hx hs => ?_) (fun s hs => ⟨trivial, rfl⟩)
  · refine ⟨⟨⟨fun _ => ⟨by rw [h.1]; omega, trivial⟩, trivial⟩, okIf_f hl g.1⟩, g.2⟩
  · refine ⟨okIf_b trivial trivial, ?_⟩
    unfold m_law_is_cube_L1
    have hz := List.mem_of_getElem? hx
    unfold chs at hz
    rw [List.mem_map] at hz
    obtain ⟨c, hc, rfl⟩ := hz
    rw [cIf_f]
    · trivial
    · rw [Bool.not_eq_false', memB_t, lit_0, lit_1, lit_d]
      have := h.2 c hc
      simpa using this

theorem cell_bits (ns : List Int) (hb : ∀ z ∈ ns, Builtin.Int.intBits z ≤ 1048576) (k : Int) (h : 0 ≤ k) : (f_law_cell ⟨ns⟩ k).natAbs.log2 ≤ 1048576 := by
  unfold f_law_cell m_law_cell
  rw [outC_if, outC_rt, outC_rt]
  by_cases hk : k < (ns.length : Int)
  · rw [if_pos (decide_eq_true_iff.mpr hk)]
    have := hb _ (ixD_mem (l := ns) h hk)
    show (ixD ns k).natAbs.log2 ≤ _
    unfold Builtin.Int.intBits at this
    split at this
    · rename_i e
      rw [show ixD ns k = 0 by simpa using e]; decide
    · omega
  · rw [if_neg (by simpa using hk)]; decide
theorem small_log2 {i : Int} {m : Nat} (h : i.natAbs < m) (hm : m ≤ 2 ^ 40) : i.natAbs.log2 ≤ 40 := by
  have := log2_lt (i := i) (a := 40) (by omega) (by decide)
  omega
theorem draws_all (a n : Int) (h0 : 0 ≤ n) (hn : n ≤ 1000) (ha : a.natAbs.log2 ≤ 1048576) : k_law_draws a n ∧ ((f_law_draws a n).length = n.toNat ∧ ∀ d ∈ f_law_draws a n, 0 ≤ d ∧ d < 4096) := by
  unfold k_law_draws f_law_draws m_law_draws okLet
  rw [outC_let]
  have h := for_def (f := m_law_draws_L1 a) (ok := k_law_draws_L1 a) (items := rng n) (s0 := (([] : List Int), a)) (k := fun s15 : (List Int) × Int => .rt s15.1) (q := fun _ => True) (Q := fun r => r.length = n.toNat ∧ ∀ d ∈ r, 0 ≤ d ∧ d < 4096)
    (fun i s => s.1.length = i ∧ ∀ d ∈ s.1, 0 ≤ d ∧ d < 4096) (fun _ => False) ⟨rfl, fun d hd => nomatch hd⟩ (fun i x s hx hs => ?_) (fun s hs => ?_)
  · exact ⟨⟨⟨⟨by omega, by omega⟩, trivial⟩, h.1⟩, h.2⟩
  · obtain ⟨h1, h2⟩ := rng_get hx
    obtain ⟨s1, s2⟩ := s
    obtain ⟨hl, hm⟩ := hs
    have push : ∀ z : Int, 0 ≤ z ∧ z < 4096 → (s1 ++ [z]).length = i + 1 ∧ ∀ d ∈ s1 ++ [z], 0 ≤ d ∧ d < 4096 := fun z hz => ⟨by rw [List.length_append, hl]; rfl, fun d hd => by
      obtain q | q := List.mem_append.mp hd
      · exact hm d q
      · rw [List.mem_singleton] at q; rw [q]; exact hz⟩
    have r1 : ∀ z : Int, 0 ≤ z % 2147483647 ∧ z % 2147483647 < 2147483647 := fun z => ⟨Int.emod_nonneg _ (by decide), Int.emod_lt_of_pos _ (by decide)⟩
    have r2 : ∀ z : Int, 0 ≤ z % 2147483629 ∧ z % 2147483629 < 2147483629 := fun z => ⟨Int.emod_nonneg _ (by decide), Int.emod_lt_of_pos _ (by decide)⟩
    have r3 : ∀ z : Int, 0 ≤ z % 2147483587 ∧ z % 2147483587 < 2147483587 := fun z => ⟨Int.emod_nonneg _ (by decide), Int.emod_lt_of_pos _ (by decide)⟩
    have r4 : ∀ z : Int, 0 ≤ z % 4096 ∧ z % 4096 < 4096 := fun z => ⟨Int.emod_nonneg _ (by decide), Int.emod_lt_of_pos _ (by decide)⟩
    have cm : ∀ {p q : Int}, p.natAbs < 2 ^ 40 → q.natAbs < 2 ^ 40 → CMulX p q := fun hp hq => mulX hp hq (by decide) (by decide) (by decide)
    have cl : s1.length < 100000 := by rw [hl]; omega
    have ca : CMulX a 48271 := by
      have : (48271 : Int).natAbs.log2 ≤ 40 := small_log2 (m := 48272) (by decide) (by decide)
      exact mulG (by omega)
    refine ⟨⟨⟨⟨by decide, by decide, by decide⟩, trivial, trivial⟩, okIf_b ⟨⟨cl, trivial⟩, trivial⟩ ⟨⟨ca, cm (by omega) (by decide), trivial⟩, ?_⟩⟩, ?_⟩
    · unfold okLet
      have q1 := r1 (a * 48271 + (x + 1) * 69621)
      generalize (a * 48271 + (x + 1) * 69621) % 2147483647 = y at q1 ⊢
      have q2 := r2 (y * y + y * 16807 + x * 7919)
      generalize (y * y + y * 16807 + x * 7919) % 2147483629 = z at q2 ⊢
      exact ⟨⟨cm (by omega) (by omega), cm (by omega) (by decide), cm (by omega) (by decide), trivial⟩, ⟨cm (by omega) (by omega), cm (by decide) (by omega), trivial⟩, ⟨cl, trivial⟩, trivial⟩
    · unfold m_law_draws_L1
      by_cases hb : (decide ((10 : Int) ^ (18 : Int).toNat ≤ a) && decide ((0 : Int) < s2)) = true
      · rw [cIf_t hb]
        exact push _ (r4 _)
      · rw [cIf_f (Bool.eq_false_iff.mpr hb)]
        exact push _ (r4 _)
  · obtain hs | hs := hs
    · exact ⟨trivial, by rw [rng_len] at hs; exact hs⟩
    · exact hs.elim

theorem cut_mem {α : Type} {l : List α} {lo hi : Option Int} {x : α} (h : x ∈ cut l lo hi) : x ∈ l := by
  unfold cut at h
  exact List.mem_of_mem_drop (List.mem_of_mem_take h)
theorem cut_len {α : Type} (l : List α) (lo hi : Option Int) : (cut l lo hi).length ≤ l.length := by
  unfold cut
  rw [List.length_take]; rw [List.length_drop]
  omega
/-- the codes of a drawn function -/
structure Fn2 (w : Nat) (on off : List Tx) : Prop where
  mon : ∀ x ∈ on, Cod w x
  mof : ∀ x ∈ off, Cod w x
  dis : ∀ x ∈ on, x ∉ off
  l1 : on.length ≤ 200
  l2 : off.length ≤ 200
structure FnI (w i : Nat) (on off : List Tx) : Prop where
  mon : ∀ x ∈ on, x ∈ (codes w).take i
  mof : ∀ x ∈ off, x ∈ (codes w).take i
  dis : ∀ x ∈ on, x ∉ off
  l1 : on.length ≤ i
  l2 : off.length ≤ i
theorem take_next {w i : Nat} (h : i < (codes w).length) : (codes w).take (i + 1) = (codes w).take i ++ [(codes w)[i]] := by
  rw [List.take_add_one]; rw [List.getElem?_eq_getElem h]; rfl
theorem not_take {w i : Nat} (h : i < (codes w).length) : (codes w)[i] ∉ (codes w).take i := fun q => by
  obtain ⟨j, hj, e⟩ := List.getElem_of_mem q
  rw [List.getElem_take] at e
  rw [List.length_take] at hj
  have hp := List.pairwise_iff_getElem.mp (List.nodup_iff_pairwise_ne.mp (codes_nodup w)) j i (by omega) h (by omega)
  exact hp e
theorem FnI.next {w i : Nat} {on off : List Tx} (f : FnI w i on off) (h : i < (codes w).length) : FnI w (i + 1) on off := by
  exact ⟨fun x hx => by rw [take_next h]; exact List.mem_append_left _ (f.mon x hx), fun x hx => by rw [take_next h]; exact List.mem_append_left _ (f.mof x hx), f.dis, by have := f.l1; omega, by have := f.l2; omega⟩
theorem FnI.pushOn {w i : Nat} {on off : List Tx} (f : FnI w i on off) (h : i < (codes w).length) : FnI w (i + 1) (on ++ [(codes w)[i]]) off :=
  ⟨fun x hx => by
    rw [take_next h]
    exact (List.mem_append.mp hx).elim (fun q => List.mem_append_left _ (f.mon x q)) fun q => List.mem_append_right _ q, (f.next h).mof, fun x hx hy => by
    obtain q | q := List.mem_append.mp hx
    · exact f.dis x q hy
    · rw [List.mem_singleton] at q
      rw [q] at hy
      exact not_take h (f.mof _ hy), by have := f.l1; simp only [List.length_append, List.length_singleton]; omega, by have := f.l2; omega⟩
theorem FnI.pushOff {w i : Nat} {on off : List Tx} (f : FnI w i on off) (h : i < (codes w).length) : FnI w (i + 1) on (off ++ [(codes w)[i]]) :=
  ⟨(f.next h).mon, fun x hx => by
    rw [take_next h]
    exact (List.mem_append.mp hx).elim (fun q => List.mem_append_left _ (f.mof x q)) fun q => List.mem_append_right _ q, fun x hx hy => by
    obtain q | q := List.mem_append.mp hy
    · exact f.dis x hx q
    · rw [List.mem_singleton] at q
      rw [q] at hx
      exact not_take h (f.mon _ hx), by have := f.l1; omega, by have := f.l2; simp only [List.length_append, List.length_singleton]; omega⟩
theorem function_all (a : Int) (w : Nat) (hw : w ≤ 6) (ha : a.natAbs.log2 ≤ 1048576) : k_law_function a (w : Int) ∧ ∃ on off, f_law_function a (w : Int) = [on, off] ∧ Fn2 w on off := by
  unfold k_law_function f_law_function m_law_function okLet
  obtain ⟨kd, ld, md⟩ := draws_all a 40 (by decide) (by decide) ha
  have hc := codes_all (w : Int) (by omega) (by omega)
  rw [Int.toNat_natCast] at hc
  dsimp only
  rw [outC_let, outC_let, outC_let, hc.2]
  generalize f_law_draws a 40 = ds at ld md ⊢
  have ld2 : ds.length = 40 := ld
  have hin : ∀ k : Int, 0 ≤ k → k < 40 → inB ds k ∧ 0 ≤ ixD ds k ∧ ixD ds k < 4096 := fun k h1 h2 =>
    ⟨inB_nat h1 (by rw [ld2]; exact h2), md _ (ixD_mem h1 (by rw [ld2]; exact h2))⟩
  have hsh : 3 ≤ 3 + ixD ds 39 % 3 := by have := Int.emod_nonneg (ixD ds 39) (show (3 : Int) ≠ 0 by decide); omega
  generalize 3 + ixD ds 39 % 3 = sh at hsh ⊢
  have hcl : (codes w).length ≤ 64 := by rw [codes_len]; exact Nat.pow_le_pow_right (by decide) hw
  have g := for_def (f := m_law_function_L1 sh (codes w) ds) (ok := k_law_function_L1 sh (codes w) ds) (items := rng ((codes w).length : Int)) (s0 := (([] : List Tx), ([] : List Tx))) (k := m_law_function_R3 ds) (q := k_law_function_R3 ds)
    (Q := fun r => ∃ on off, r = [on, off] ∧ Fn2 w on off) (fun i s => FnI w i s.1 s.2) (fun _ => False) ⟨fun x h => (nomatch h), fun x h => (nomatch h), fun x h => (nomatch h), Nat.le_refl _, Nat.le_refl _⟩ (fun i x s hx hs => ?_) (fun s hs => ?_)
  · exact ⟨⟨⟨kd, trivial⟩, ⟨hc.1, trivial⟩, ⟨(hin 39 (by decide) (by decide)).1, trivial⟩, ⟨⟨by omega, by omega⟩, trivial⟩, g.1⟩, g.2⟩
  · obtain ⟨rfl, h2⟩ := rng_get hx
    have hi : i < (codes w).length := by omega
    obtain ⟨s1, s2⟩ := s
    have hs : FnI w i s1 s2 := hs
    have e37 : 0 ≤ ((i : Int) + ixD ds 38) % 37 ∧ ((i : Int) + ixD ds 38) % 37 < 37 := ⟨Int.emod_nonneg _ (by decide), Int.emod_lt_of_pos _ (by decide)⟩
    have e31 : 0 ≤ (i : Int) % 31 ∧ (i : Int) % 31 < 31 := ⟨Int.emod_nonneg _ (by decide), Int.emod_lt_of_pos _ (by decide)⟩
    have e2 : 0 ≤ (i : Int) / 32 % 2 ∧ (i : Int) / 32 % 2 < 2 := ⟨Int.emod_nonneg _ (by decide), Int.emod_lt_of_pos _ (by decide)⟩
    have b2 : inB ([1, 7] : List Int) ((i : Int) / 32 % 2) := ⟨by show -2 ≤ _; omega, by show _ < (2 : Int); omega⟩
    have v2 : ixD ([1, 7] : List Int) ((i : Int) / 32 % 2) = 1 ∨ ixD ([1, 7] : List Int) ((i : Int) / 32 % 2) = 7 := by
      have := ixD_mem (l := ([1, 7] : List Int)) e2.1 (by show _ < (2 : Int); omega)
      simpa using this
    have bi : inB (codes w) (i : Int) := inB_nat (by omega) (by omega)
    have key : ∀ draw : Int, k_law_function_R2 (i : Int) (codes w) (s1, s2) draw ∧ Post (m_law_function_R2 (i : Int) (codes w) (s1, s2) draw) (fun s => FnI w (i + 1) s.1 s.2) (fun _ => False) (fun r => ∃ on off, r = [on, off] ∧ Fn2 w on off) := fun draw => by
      have g1 := hs.l1
      have g2 := hs.l2
      have key2 : ∀ s78 : List Tx, k_law_function_R1 draw (i : Int) (codes w) (s1, s2) s78 ∧ (FnI w (i + 1) s78 s2 → (eqB draw 2 = true → s78 = s1) → Post (m_law_function_R1 draw (i : Int) (codes w) (s1, s2) s78) (fun s => FnI w (i + 1) s.1 s.2) (fun _ => False) (fun r => ∃ on off, r = [on, off] ∧ Fn2 w on off)) := fun s78 => by
        refine ⟨okIf_b ⟨⟨bi, by show s2.length < 100000; omega, trivial⟩, trivial⟩ trivial, fun hf hq => ?_⟩
        unfold m_law_function_R1
        cases hd : eqB draw 2
        · rw [cIf_f rfl]; exact hf
        · rw [cIf_t rfl, hq hd, ixD_nat hi]
          exact hs.pushOff hi
      unfold k_law_function_R2 m_law_function_R2
      refine ⟨⟨okIf_b ⟨⟨bi, by show s1.length < 100000; omega, trivial⟩, trivial⟩ trivial, fun s _ => (key2 s).1⟩, ?_⟩
      cases hd : eqB draw 1
      · rw [cIf_f rfl]
        exact (key2 s1).2 (hs.next hi) fun _ => rfl
      · rw [cIf_t rfl, ixD_nat hi]
        refine (key2 (s1 ++ [(codes w)[i]])).2 (hs.pushOn hi) fun h2 => ?_
        rw [eqB_t] at hd h2
        omega
    unfold k_law_function_L1 m_law_function_L1 okLet vLet
    dsimp only
    have hdiv : CDivW (ixD ds (((i : Int) + ixD ds 38) % 37)) (ixD ([1, 7] : List Int) ((i : Int) / 32 % 2)) := by
      rcases v2 with e | e
      · rw [e]; exact ⟨by decide, by decide +kernel⟩
      · rw [e]; exact ⟨by decide, by decide +kernel⟩
    refine ⟨⟨⟨(hin 38 (by decide) (by decide)).1, (hin _ e37.1 (by omega)).1, b2, hdiv, by omega, trivial⟩, okIf_b ⟨⟨(hin _ e31.1 (by omega)).1, by omega, trivial⟩, trivial⟩ trivial, fun s _ => (key s).1⟩, ?_⟩
    cases hc32 : decide ((32 : Int) ≤ (i : Int))
    · rw [cIf_f rfl]; exact (key _).2
    · rw [cIf_t rfl]; exact (key _).2
  · obtain hs | hs := hs
    · rw [rng_len, Int.toNat_natCast] at hs
      obtain ⟨s1, s2⟩ := s
      have hs : FnI w (codes w).length s1 s2 := hs
      have o1 : ∀ x ∈ s1, Cod w x := fun x hx => mem_codes.mp (List.mem_of_mem_take (hs.mon x hx))
      have o2 : ∀ x ∈ s2, Cod w x := fun x hx => mem_codes.mp (List.mem_of_mem_take (hs.mof x hx))
      have g1 := hs.l1
      have g2 := hs.l2
      have c1 := cut_len s1 none (some (1 : Int))
      have c2 := cut_len s2 (some (-(1 : Int))) none
      unfold k_law_function_R3 m_law_function_R3 okLet vLet
      dsimp only
      refine ⟨⟨⟨(hin 36 (by decide) (by decide)).1, trivial⟩, okIf_b ⟨⟨by rw [List.length_reverse]; omega, trivial⟩, ⟨by omega, trivial⟩, trivial⟩ trivial, fun s _ => trivial⟩, ?_⟩
      cases hd : eqB (ixD ds 36 % 2) 1
      · rw [cIf_f rfl]
        exact ⟨s1, s2, rfl, o1, o2, hs.dis, by omega, by omega⟩
      · rw [cIf_t rfl]
        have m1 : ∀ x ∈ s1.reverse ++ cut s1 none (some (1 : Int)), x ∈ s1 := fun x hx => (List.mem_append.mp hx).elim (fun q => List.mem_reverse.mp q) cut_mem
        have m2 : ∀ x ∈ s2 ++ cut s2 (some (-(1 : Int))) none, x ∈ s2 := fun x hx => (List.mem_append.mp hx).elim id cut_mem
        exact ⟨_, _, rfl, fun x hx => o1 x (m1 x hx), fun x hx => o2 x (m2 x hx), fun x hx hy => hs.dis x (m1 x hx) (m2 x hy), by rw [List.length_append, List.length_reverse]; omega, by rw [List.length_append]; omega⟩
    · exact hs.elim

theorem is_cover_all (xs : List Tx) (w : Nat) (h : ∀ x ∈ xs, Cub w x) (hz : w ≤ 1000) : k_law_is_cover xs (w : Int) ∧ f_law_is_cover xs (w : Int) = true := by
  unfold k_law_is_cover f_law_is_cover m_law_is_cover
  rw [cIf_f (show (!true) = false from rfl)]
  have g := for_def (f := m_law_is_cover_L1 (w : Int)) (ok := k_law_is_cover_L1 (w : Int)) (items := xs) (s0 := ()) (k := fun _ => .rt true) (q := fun _ => True) (Q := fun r => r = true)
    (fun i _ => True) (fun _ => False) trivial (fun i z s hx hs => ?_) (fun s hs => ⟨trivial, rfl⟩)
  · exact ⟨okIf_f rfl g.1, g.2⟩
  · have hc := is_cube_all z w (h z (List.mem_of_getElem? hx)) hz
    refine ⟨⟨⟨hc.1, trivial⟩, okIf_b trivial trivial⟩, ?_⟩
    unfold m_law_is_cover_L1
    rw [cIf_f (by rw [hc.2]; rfl)]
    trivial

theorem covered_all (xs : List Tx) (c : Tx) (h : ∀ x ∈ xs, x.length = c.length) (hz : c.length ≤ 1000) : k_law_covered xs c ∧ f_law_covered xs c = xs.any fun x => mat x c := by
  unfold k_law_covered f_law_covered m_law_covered
  have g := for_def (f := m_law_covered_L1 c) (ok := k_law_covered_L1 c) (items := xs) (s0 := ()) (k := fun _ => .rt false) (q := fun _ => True) (Q := fun r => r = xs.any fun x => mat x c)
    (fun i _ => ∀ x ∈ xs.take i, mat x c = false) (fun _ => False) (fun x hx => by rw [List.take_zero] at hx; nomatch hx) (fun i z s hx hs => ?_) (fun s hs => ⟨trivial, ?_⟩)
  · exact g
  · have hm := List.mem_of_getElem? hx
    have hc := in_all z c (h z hm) (by rw [h z hm]; exact hz)
    refine ⟨⟨⟨hc.1, trivial⟩, okIf_b trivial trivial⟩, ?_⟩
    unfold m_law_covered_L1
    by_cases hb : mat z c = true
    · rw [cIf_t (by rw [hc.2]; exact hb)]
      exact (List.any_eq_true.mpr ⟨z, hm, hb⟩).symm
    · rw [cIf_f (by rw [hc.2]; exact Bool.eq_false_iff.mpr hb)]
      intro x hx'
      rw [List.take_add_one, hx] at hx'
      rcases List.mem_append.mp hx' with q | q
      · exact hs x q
      · rw [Option.toList_some, List.mem_singleton] at q
        rw [q]; exact Bool.eq_false_iff.mpr hb
  · obtain hs | hs := hs
    · show false = _
      rw [eq_comm, List.any_eq_false]
      intro x hx
      rw [hs x (by rw [List.take_length]; exact hx)]
      exact Bool.false_ne_true
    · exact hs.elim

/-- some code of the list is in the cube -/
def hit (y : Tx) (off : List Tx) : Bool := off.any fun c => mat y c
theorem hit_mono {y z : Tx} {off : List Tx} (h : ∀ c ∈ off, mat y c = true → mat z c = true) (hy : hit y off = true) : hit z off = true := by
  obtain ⟨c, hc, hm⟩ := List.any_eq_true.mp hy
  exact List.any_eq_true.mpr ⟨c, hc, h c hc hm⟩
theorem mat_set : ∀ (y c : Tx) (i : Nat), mat y c = true → mat (y.set i 45) c = true
  | [], _, _, h => h
  | a :: y, [], i, _ => by cases i <;> (rw [List.set]; unfold mat; rfl)
  | a :: y, b :: c, 0, h => by
    rw [List.set_cons_zero]
    unfold mat at h ⊢
    rw [Bool.and_eq_true] at h ⊢
    exact ⟨by simp, h.2⟩
  | a :: y, b :: c, i + 1, h => by
    rw [List.set_cons_succ]
    unfold mat at h ⊢
    rw [Bool.and_eq_true] at h ⊢
    exact ⟨h.1, mat_set y c i h.2⟩
theorem avoids_all (y : Tx) (off : List Tx) (h : ∀ x ∈ off, x.length = y.length) (hz : y.length ≤ 1000) : k_law_avoids y off ∧ f_law_avoids y off = !hit y off := by
  unfold k_law_avoids f_law_avoids m_law_avoids
  have g := for_def (f := m_law_avoids_L1 y) (ok := k_law_avoids_L1 y) (items := off) (s0 := ()) (k := fun _ => .rt true) (q := fun _ => True) (Q := fun r => r = !hit y off)
    (fun i _ => ∀ x ∈ off.take i, mat y x = false) (fun _ => False) (fun x hx => by rw [List.take_zero] at hx; nomatch hx) (fun i z s hx hs => ?_) (fun s hs => ⟨trivial, ?_⟩)
  · exact g
  · have hm := List.mem_of_getElem? hx
    have hc := in_all y z (h z hm).symm hz
    refine ⟨⟨⟨hc.1, trivial⟩, okIf_b trivial trivial⟩, ?_⟩
    unfold m_law_avoids_L1
    by_cases hb : mat y z = true
    · rw [cIf_t (by rw [hc.2]; exact hb)]
      show false = !hit y off
      rw [show hit y off = true from List.any_eq_true.mpr ⟨z, hm, hb⟩]; rfl
    · rw [cIf_f (by rw [hc.2]; exact Bool.eq_false_iff.mpr hb)]
      intro x hx'
      rw [List.take_add_one, hx] at hx'
      rcases List.mem_append.mp hx' with q | q
      · exact hs x q
      · rw [Option.toList_some, List.mem_singleton] at q
        rw [q]; exact Bool.eq_false_iff.mpr hb
  · obtain hs | hs := hs
    · show true = !hit y off
      rw [show hit y off = false from List.any_eq_false.mpr fun x hx => by rw [hs x (by rw [List.take_length]; exact hx)]; exact Bool.false_ne_true]; rfl
    · exact hs.elim
/-- one literal more left out, where that meets no code -/
def wid (off : List Tx) (s : Tx) (i : Nat) : Tx := if hit (s.set i 45) off then s else s.set i 45
def expd (x : Tx) (off : List Tx) : Tx := (List.range x.length).foldl (wid off) x
def expi (x : Tx) (off : List Tx) (i : Nat) : Tx := (List.range i).foldl (wid off) x
theorem expi_succ (x : Tx) (off : List Tx) (i : Nat) : expi x off (i + 1) = wid off (expi x off i) i := by
  unfold expi; rw [List.range_succ, List.foldl_append]; rfl
theorem wid_len (off : List Tx) (s : Tx) (i : Nat) : (wid off s i).length = s.length := by
  unfold wid; split
  · rfl
  · exact List.length_set
theorem expi_len (x : Tx) (off : List Tx) : ∀ i, (expi x off i).length = x.length
  | 0 => rfl
  | i + 1 => by rw [expi_succ, wid_len, expi_len x off i]
theorem expi_cub {w : Nat} {x : Tx} (off : List Tx) (hx : Cub w x) : ∀ i, Cub w (expi x off i)
  | 0 => hx
  | i + 1 => by
    rw [expi_succ]
    unfold wid
    split
    · exact expi_cub off hx i
    · exact (expi_cub off hx i).set (.inr (.inr rfl))
/-- prime: no code of the list, and no literal can be left out -/
def Pr (y : Tx) (off : List Tx) : Prop := hit y off = false ∧ ∀ (k a : Nat), y[k]? = some a → a = 45 ∨ hit (y.set k 45) off = true
theorem expi_inv (x : Tx) (off : List Tx) (h0 : hit x off = false) : ∀ i, hit (expi x off i) off = false ∧ (∀ (k a : Nat), k < i → (expi x off i)[k]? = some a → a = 45 ∨ hit ((expi x off i).set k 45) off = true) ∧ ∀ (k a b : Nat), (expi x off i)[k]? = some a → x[k]? = some b → a = 45 ∨ a = b
  | 0 => ⟨h0, fun k a h => (nomatch h), fun k a b h1 h2 => by
    rw [show expi x off 0 = x from rfl, h2] at h1; exact .inr (Option.some.inj h1).symm⟩
  | i + 1 => by
    obtain ⟨g1, g2, g3⟩ := expi_inv x off h0 i
    rw [expi_succ]
    unfold wid
    by_cases hh : hit ((expi x off i).set i 45) off = true
    · rw [if_pos hh]
      refine ⟨g1, fun k a hk ha => ?_, g3⟩
      by_cases e : k = i
      · rw [e]; exact .inr hh
      · exact g2 k a (by omega) ha
    · rw [if_neg hh]
      refine ⟨Bool.eq_false_iff.mpr hh, fun k a hk ha => ?_, fun k a b ha hb => ?_⟩
      · by_cases e : k = i
        · rw [e, List.getElem?_set] at ha
          simp only [if_true] at ha
          split at ha
          · exact .inl (Option.some.inj ha).symm
          · cases ha
        · rw [List.getElem?_set_ne (Ne.symm e)] at ha
          rcases g2 k a (by omega) ha with q | q
          · exact .inl q
          · refine .inr ?_
            rw [List.set_comm _ _ (Ne.symm e)]
            exact hit_mono (fun c _ => mat_set _ c i) q
      · by_cases e : k = i
        · rw [e, List.getElem?_set] at ha
          simp only [if_true] at ha
          split at ha
          · exact .inl (Option.some.inj ha).symm
          · cases ha
        · rw [List.getElem?_set_ne (Ne.symm e)] at ha
          exact g3 k a b ha hb
theorem expd_pr (x : Tx) (off : List Tx) (h0 : hit x off = false) : Pr (expd x off) off := by
  obtain ⟨g1, g2, _⟩ := expi_inv x off h0 x.length
  refine ⟨g1, fun k a ha => g2 k a ?_ ha⟩
  have := (List.getElem?_eq_some_iff.mp ha).1
  rw [show expd x off = expi x off x.length from rfl, expi_len] at this
  exact this
theorem set_self {y : Tx} {k : Nat} (h : y[k]? = some 45) : y.set k 45 = y := by
  obtain ⟨h1, h2⟩ := List.getElem?_eq_some_iff.mp h
  rw [← h2, List.set_getElem_self]
theorem expi_fix {y : Tx} {off : List Tx} (h : Pr y off) : ∀ i, i ≤ y.length → expi y off i = y
  | 0, _ => rfl
  | i + 1, hi => by
    rw [expi_succ, expi_fix h i (by omega)]
    unfold wid
    have hy : y[i]? = some y[i] := List.getElem?_eq_getElem (by omega)
    rcases h.2 i _ hy with q | q
    · rw [q] at hy
      rw [set_self hy, if_neg (by rw [h.1]; exact Bool.false_ne_true)]
    · rw [if_pos q]
theorem pr_iff {y : Tx} {off : List Tx} (h : hit y off = false) : Pr y off ↔ expd y off = y :=
  ⟨fun p => expi_fix p _ (Nat.le_refl _), fun e => by rw [← e]; exact expd_pr y off h⟩

theorem csome_all (y : Tx) (off : List Tx) (hz : y.length ≤ 1000) (hl : off.length ≤ 1000) : k_contains_some y off ∧ f_contains_some y off = hit y off := by
  unfold k_contains_some f_contains_some m_contains_some
  rw [outC_rt, List.any_map]
  refine ⟨⟨by omega, fun x _ => ⟨(contains_all y x hz).1, trivial⟩, trivial⟩, ?_⟩
  unfold hit
  congr 1
  funext x
  exact (contains_all y x hz).2
theorem withc_all (x : Tx) (k : Nat) (c : Nat) (h : k < x.length) (hz : x.length ≤ 1000) : k_with_character x (k : Int) [c] ∧ f_with_character x (k : Int) [c] = x.set k c := by
  unfold k_with_character f_with_character m_with_character
  rw [outC_rt]
  refine ⟨⟨by omega, ?_, by omega, ?_, trivial⟩, cut_set h⟩
  · rw [cut_to, List.length_take, List.length_singleton]; omega
  · rw [List.length_append, cut_to, List.length_take, List.length_singleton, show ((k : Int) + 1) = ((k + 1 : Nat) : Int) by omega, cut_from, List.length_drop]; omega
theorem expand_all (x : Tx) (off : List Tx) (hz : x.length ≤ 1000) (hl : off.length ≤ 1000) : k_expand x off ∧ f_expand x off = expd x off := by
  unfold k_expand f_expand m_expand
  have g := for_def (f := m_expand_L1 off) (ok := k_expand_L1 off) (items := rng (x.length : Int)) (s0 := x) (k := fun s => .rt s) (q := fun _ => True) (Q := fun r => r = expd x off)
    (fun i s => s = expi x off i) (fun _ => False) rfl (fun i z s hx hs => ?_) (fun s hs => ⟨trivial, ?_⟩)
  · exact ⟨⟨⟨by omega, ⟨by omega, by omega⟩, trivial⟩, g.1⟩, g.2⟩
  · obtain ⟨rfl, h2⟩ := rng_get hx
    have sl : s.length = x.length := by rw [hs, expi_len]
    have hw := withc_all s i 45 (by omega) (by omega)
    unfold k_expand_L1 m_expand_L1 okLet vLet
    dsimp only
    rw [lit_d, hw.2]
    have hc := csome_all (s.set i 45) off (by rw [List.length_set]; omega) hl
    refine ⟨⟨⟨hw.1, trivial⟩, ⟨hc.1, trivial⟩, okIf_b trivial trivial⟩, ?_⟩
    rw [hc.2]
    cases hh : hit (s.set i 45) off
    · rw [cIf_t (b := !false) rfl]
      show s.set i 45 = expi x off (i + 1)
      rw [expi_succ, ← hs]; unfold wid; rw [hh]; rfl
    · rw [cIf_f (b := !true) rfl]
      show s = expi x off (i + 1)
      rw [expi_succ, ← hs]; unfold wid; rw [hh]; rfl
  · obtain hs | hs := hs
    · rw [rng_len, Int.toNat_natCast] at hs
      exact hs
    · exact hs.elim

theorem law_prime_all (y : Tx) (off : List Tx) (h : ∀ x ∈ off, x.length = y.length) (hz : y.length ≤ 1000) : k_law_prime y off ∧ (f_law_prime y off = true ↔ Pr y off) := by
  unfold k_law_prime f_law_prime m_law_prime
  have h1 := avoids_all y off h hz
  have g := for_def (f := m_law_prime_L1 y off) (ok := k_law_prime_L1 y off) (items := rng (y.length : Int)) (s0 := ()) (k := fun _ => .rt true) (q := fun _ => True) (Q := fun r => hit y off = false → (r = true ↔ Pr y off))
    (fun i _ => ∀ (k a : Nat), k < i → y[k]? = some a → a = 45 ∨ hit (y.set k 45) off = true) (fun _ => False) (fun k a h => nomatch h) (fun i z s hx hs => ?_) (fun s hs => ⟨trivial, fun hh => ?_⟩)
  · rw [h1.2]
    refine ⟨⟨⟨h1.1, trivial⟩, okIf_b trivial ⟨⟨by omega, ⟨by omega, by omega⟩, trivial⟩, g.1⟩⟩, ?_⟩
    cases hh : hit y off
    · exact g.2 hh
    · rw [cIf_t (b := !!true) rfl]
      exact ⟨fun q => (nomatch (show false = true from q)), fun q => by rw [q.1] at hh; cases hh⟩
  · obtain ⟨rfl, h2⟩ := rng_get hx
    have hi : i < y.length := by omega
    have hw := with_all y i 45 hi hz
    have ha := avoids_all (y.set i 45) off (fun x hx => by rw [List.length_set]; exact h x hx) (by rw [List.length_set]; exact hz)
    have hb : inB y (i : Int) := inB_nat (by omega) (by omega)
    unfold k_law_prime_L1 m_law_prime_L1
    rw [lit_d, hw.2, ha.2, ixD_nat hi]
    refine ⟨⟨⟨hb, by omega, fun _ => ⟨hw.1, ha.1, trivial⟩, trivial⟩, okIf_b trivial trivial⟩, ?_⟩
    by_cases hc : y[i] = 45 ∨ hit (y.set i 45) off = true
    · rw [cIf_f]
      · intro k a hk hka
        by_cases e : k = i
        · rw [e] at hka ⊢
          rw [List.getElem?_eq_getElem hi] at hka
          cases hka; exact hc
        · exact hs k a (by omega) hka
      · rcases hc with e | e
        · rw [e, eqB_self]; rfl
        · rw [e, Bool.not_true, Bool.and_false]
    · rw [cIf_t]
      · intro _
        refine ⟨fun q => (nomatch (show false = true from q)), fun q => absurd (q.2 i _ (List.getElem?_eq_getElem hi)) hc⟩
      · have e1 : y[i] ≠ 45 := fun e => hc (.inl e)
        have e2 : hit (y.set i 45) off = false := Bool.eq_false_iff.mpr fun e => hc (.inr e)
        rw [e2, show eqB [y[i]] [45] = false from eqB_f.mpr (by simpa using e1)]; rfl
  · obtain hs | hs := hs
    · refine ⟨fun _ => ⟨hh, fun k a hk => hs k a ?_ hk⟩, fun _ => rfl⟩
      rw [rng_len, Int.toNat_natCast]
      exact (List.getElem?_eq_some_iff.mp hk).1
    · exact hs.elim

theorem ixl0 {α : Type} [Inhabited α] (a b : α) : ixD [a, b] 0 = a := rfl
theorem ixl1 {α : Type} [Inhabited α] (a b : α) : ixD [a, b] 1 = b := rfl
theorem mat_cods {w : Nat} {x c : Tx} (hx : Cod w x) (hc : Cod w c) (h : mat x c = true) : x = c := by
  have hl : x.length = c.length := by rw [hx.1, hc.1]
  refine List.ext_getElem hl fun i h1 h2 => ?_
  rcases (mat_iff hl).mp h i _ _ (List.getElem?_eq_getElem h1) (List.getElem?_eq_getElem h2) with e | e
  · have := hx.2 _ (List.getElem_mem h1); omega
  · exact e
theorem on_hit {w : Nat} {on off : List Tx} (f : Fn2 w on off) {x : Tx} (hx : x ∈ on) : hit x off = false := by
  refine List.any_eq_false.mpr fun c hc hm => ?_
  have := mat_cods (f.mon x hx) (f.mof c hc) hm
  rw [this] at hx
  exact f.dis _ hx hc

/-- every code of the list is in some cube -/
def covs (xs on : List Tx) : Bool := on.all fun c => xs.any fun x => mat x c
theorem covs_mono {xs ys on : List Tx} (h : ∀ x ∈ xs, x ∈ ys) (hc : covs xs on = true) : covs ys on = true := by
  unfold covs at hc ⊢
  rw [List.all_eq_true] at hc ⊢
  intro c hcm
  obtain ⟨x, hx, hm⟩ := List.any_eq_true.mp (hc c hcm)
  exact List.any_eq_true.mpr ⟨x, h x hx, hm⟩
/-- the needless ones left out, from the end -/
def wnr (on : List Tx) : List Tx → List Tx → List Tx
  | [], T => T
  | x :: rp, T => if covs (rp.reverse ++ T) on then wnr on rp T else wnr on rp (x :: T)
theorem wnr_spec (on : List Tx) : ∀ rp T, covs (rp.reverse ++ T) on = true → (∀ A t B, T = A ++ t :: B → covs (rp.reverse ++ (A ++ B)) on = false) →
    covs (wnr on rp T) on = true ∧ (∀ A t B, wnr on rp T = A ++ t :: B → covs (A ++ B) on = false) ∧ (∀ x ∈ wnr on rp T, x ∈ rp ∨ x ∈ T) ∧ (wnr on rp T).length ≤ rp.length + T.length
  | [], T, h1, h2 => ⟨h1, h2, fun x hx => .inr hx, by unfold wnr; simp⟩
  | x :: rp, T, h1, h2 => by
    rw [wnr]
    by_cases hc : covs (rp.reverse ++ T) on = true
    · rw [if_pos hc]
      obtain ⟨g1, g2, g3, g4⟩ := wnr_spec on rp T hc fun A t B e => by
        have := h2 A t B e
        rw [Bool.eq_false_iff] at this ⊢
        intro q
        refine this (covs_mono (fun y hy => ?_) q)
        rw [List.reverse_cons]
        obtain z | z := List.mem_append.mp hy
        · exact List.mem_append_left _ (List.mem_append_left _ z)
        · exact List.mem_append_right _ z
      exact ⟨g1, g2, fun y hy => (g3 y hy).elim (fun q => .inl (List.mem_cons_of_mem _ q)) .inr, by rw [List.length_cons]; omega⟩
    · rw [if_neg hc]
      have e1 : rp.reverse ++ x :: T = (x :: rp).reverse ++ T := by rw [List.reverse_cons, List.append_assoc]; rfl
      obtain ⟨g1, g2, g3, g4⟩ := wnr_spec on rp (x :: T) (by rw [e1]; exact h1) fun A t B e => by
        cases A with
        | nil =>
          rw [List.nil_append] at e
          cases e
          exact Bool.eq_false_iff.mpr hc
        | cons a A =>
          rw [List.cons_append] at e
          cases e
          have := h2 A t B rfl
          rw [List.reverse_cons, List.append_assoc] at this
          exact this
      refine ⟨g1, g2, fun y hy => (g3 y hy).elim (fun q => .inl (List.mem_cons_of_mem _ q)) fun q => ?_, by rw [List.length_cons] at g4 ⊢; omega⟩
      obtain z | z := List.mem_cons.mp q
      · exact .inl (by rw [z]; exact List.mem_cons_self)
      · exact .inr z
theorem rrng_get {n : Nat} {i : Nat} {x : Int} (h : (rng (n : Int)).reverse[i]? = some x) : i < n ∧ x = ((n - 1 - i : Nat) : Int) := by
  have hi : i < (rng (n : Int)).reverse.length := (List.getElem?_eq_some_iff.mp h).1
  rw [List.length_reverse, rng_len, Int.toNat_natCast] at hi
  rw [List.getElem?_reverse (by rw [rng_len, Int.toNat_natCast]; exact hi), rng_len, Int.toNat_natCast] at h
  exact ⟨hi, (rng_get h).1⟩
theorem cut_out {α : Type} (l : List α) (k : Nat) : cut l none (some (k : Int)) ++ cut l (some ((k : Int) + 1)) none = l.take k ++ l.drop (k + 1) := by
  rw [cut_to, show ((k : Int) + 1) = ((k + 1 : Nat) : Int) by omega, cut_from]
/-- the cubes of the first round -/
def cc1 (off : List Tx) (s : List Tx) (x : Tx) : List Tx := if s.any fun y => mat y x then s else s ++ [expd x off]
def ccs (on off : List Tx) (i : Nat) : List Tx := ((srtS on).take i).foldl (cc1 off) []
theorem ccs_succ (on off : List Tx) (i : Nat) (x : Tx) (h : (srtS on)[i]? = some x) : ccs on off (i + 1) = cc1 off (ccs on off i) x := by
  unfold ccs; rw [List.take_add_one, h, List.foldl_append]; rfl
theorem expi_mat (x : Tx) (off : List Tx) (c : Tx) (h : mat x c = true) : ∀ i, mat (expi x off i) c = true
  | 0 => h
  | i + 1 => by
    rw [expi_succ]
    unfold wid
    split
    · exact expi_mat x off c h i
    · exact mat_set _ c i (expi_mat x off c h i)
theorem srt_len (l : List Tx) : (srtS l).length = l.length := (srtS_perm l).length_eq
theorem ccs_inv {w : Nat} {on off : List Tx} (f : Fn2 w on off) : ∀ i, i ≤ on.length → (∀ y ∈ ccs on off i, Cub w y ∧ Pr y off) ∧ (ccs on off i).length ≤ i ∧ covs (ccs on off i) ((srtS on).take i) = true
  | 0, _ => ⟨fun y hy => (nomatch hy), Nat.le_refl _, rfl⟩
  | i + 1, hi => by
    obtain ⟨g1, g2, g3⟩ := ccs_inv f i (by omega)
    have hsi : i < (srtS on).length := by rw [srt_len]; omega
    have hx := List.getElem?_eq_getElem hsi
    have hon : (srtS on)[i] ∈ on := (srtS_perm on).mem_iff.mp (List.getElem_mem hsi)
    rw [ccs_succ on off i _ hx]
    have hcv : ∀ ys : List Tx, (∀ y ∈ ccs on off i, y ∈ ys) → (ys.any fun y => mat y (srtS on)[i]) = true → covs ys ((srtS on).take (i + 1)) = true := fun ys h1 h2 => by
      unfold covs
      rw [List.take_add_one, hx, List.all_append, Bool.and_eq_true]
      refine ⟨covs_mono h1 g3, ?_⟩
      rw [Option.toList_some, List.all_cons, h2]; rfl
    unfold cc1
    by_cases hc : ((ccs on off i).any fun y => mat y (srtS on)[i]) = true
    · rw [if_pos hc]
      exact ⟨g1, by omega, hcv _ (fun y hy => hy) hc⟩
    · rw [if_neg hc]
      refine ⟨fun y hy => ?_, by simp only [List.length_append, List.length_singleton]; omega, hcv _ (fun y hy => List.mem_append_left _ hy) (List.any_eq_true.mpr ⟨expd (srtS on)[i] off, List.mem_append_right _ List.mem_cons_self, expi_mat _ off _ (mat_self _) _⟩)⟩
      obtain q | q := List.mem_append.mp hy
      · exact g1 y q
      · rw [List.mem_singleton] at q
        rw [q]
        exact ⟨expi_cub off (f.mon _ hon).cub _, expd_pr _ off (on_hit f hon)⟩
/-- the compact cover -/
def ccov (on off : List Tx) : List Tx := wnr on (ccs on off on.length).reverse []
theorem covs_perm {xs on on' : List Tx} (h : ∀ x ∈ on, x ∈ on') (hc : covs xs on' = true) : covs xs on = true := by
  unfold covs at hc ⊢
  rw [List.all_eq_true] at hc ⊢
  exact fun c hcm => hc c (h c hcm)
theorem ccov_spec {w : Nat} {on off : List Tx} (f : Fn2 w on off) : (∀ y ∈ ccov on off, Cub w y ∧ Pr y off) ∧ covs (ccov on off) on = true ∧ (∀ A t B, ccov on off = A ++ t :: B → covs (A ++ B) on = false) ∧ (ccov on off).length ≤ 200 := by
  obtain ⟨g1, g2, g3⟩ := ccs_inv f on.length (Nat.le_refl _)
  have hl := f.l1
  obtain ⟨p1, p2, p3, p4⟩ := wnr_spec on (ccs on off on.length).reverse [] (by
    rw [List.reverse_reverse, List.append_nil]
    refine covs_perm (fun x hx => ?_) g3
    rw [← srt_len on, List.take_length]
    exact (srtS_perm on).mem_iff.mpr hx) fun A t B e => by cases A <;> cases e
  refine ⟨fun y hy => g1 y ?_, p1, p2, ?_⟩
  · exact (p3 y hy).elim (fun q => List.mem_reverse.mp q) fun q => (nomatch q)
  · have : (ccov on off).length ≤ (ccs on off on.length).reverse.length + ([] : List Tx).length := p4
    rw [List.length_reverse, List.length_nil] at this
    omega

theorem ccont_all (xs : List Tx) (c : Tx) (h : ∀ x ∈ xs, x.length ≤ 1000) (hl : xs.length ≤ 1000) : k_cover_contains xs c ∧ f_cover_contains xs c = xs.any fun x => mat x c := by
  unfold k_cover_contains f_cover_contains m_cover_contains
  rw [outC_rt, List.any_map]
  refine ⟨⟨by omega, fun x hx => ⟨(contains_all x c (h x hx)).1, trivial⟩, trivial⟩, ?_⟩
  rw [Bool.eq_iff_iff]; rw [List.any_eq_true, List.any_eq_true]
  constructor
  · rintro ⟨x, hx, hm⟩
    refine ⟨x, hx, ?_⟩
    rw [← (contains_all x c (h x hx)).2]; exact hm
  · rintro ⟨x, hx, hm⟩
    refine ⟨x, hx, ?_⟩
    show f_contains x c = true
    rw [(contains_all x c (h x hx)).2]; exact hm
theorem conall_all (xs on : List Tx) (h : ∀ x ∈ xs, x.length ≤ 1000) (hl : xs.length ≤ 1000) (ho : on.length ≤ 1000) : k_contains_all xs on ∧ f_contains_all xs on = covs xs on := by
  unfold k_contains_all f_contains_all m_contains_all
  rw [outC_rt, List.all_map]
  refine ⟨⟨by omega, fun x _ => ⟨(ccont_all xs x h hl).1, trivial⟩, trivial⟩, ?_⟩
  unfold covs
  congr 1
  funext c
  exact (ccont_all xs c h hl).2

theorem without_all (s on : List Tx) (h : ∀ x ∈ s, x.length ≤ 1000) (hl : s.length ≤ 1000) (ho : on.length ≤ 1000) : k_without_needless s on ∧ f_without_needless s on = wnr on s.reverse [] := by
  unfold k_without_needless f_without_needless m_without_needless
  have g := for_def (f := m_without_needless_L1 on) (ok := k_without_needless_L1 on) (items := (rng (s.length : Int)).reverse) (s0 := s) (k := fun s => .rt s) (q := fun _ => True) (Q := fun r => r = wnr on s.reverse [])
    (fun i l => ∃ T, l = s.take (s.length - i) ++ T ∧ (∀ x ∈ T, x ∈ s) ∧ T.length ≤ i ∧ wnr on (s.take (s.length - i)).reverse T = wnr on s.reverse []) (fun _ => False) ⟨[], by rw [Nat.sub_zero, List.take_length, List.append_nil], fun x hx => (nomatch hx), Nat.le_refl _, by rw [Nat.sub_zero, List.take_length]⟩ (fun i z l hx hs => ?_) (fun l hs => ⟨trivial, ?_⟩)
  · exact ⟨⟨⟨⟨by omega, by omega⟩, trivial⟩, g.1⟩, g.2⟩
  · obtain ⟨hi, rfl⟩ := rrng_get hx
    obtain ⟨T, rfl, hT, hTl, hw⟩ := hs
    have e0 : s.length - i = (s.length - 1 - i) + 1 := by omega
    rw [e0] at hw ⊢
    generalize hk : s.length - 1 - i = k at hw hx ⊢
    have hks : k < s.length := by omega
    have et : s.take (k + 1) = s.take k ++ [s[k]] := by rw [List.take_add_one, List.getElem?_eq_getElem hks]; rfl
    have ecut : cut (s.take (k + 1) ++ T) none (some (k : Int)) ++ cut (s.take (k + 1) ++ T) (some ((k : Int) + 1)) none = s.take k ++ T := by
      rw [cut_out, et, List.append_assoc, List.take_append_of_le_length (by rw [List.length_take]; omega), List.take_of_length_le (by rw [List.length_take]; omega), ← List.append_assoc,
        List.drop_append_of_le_length (by rw [List.length_append, List.length_take, List.length_singleton]; omega), List.drop_of_length_le (by rw [List.length_append, List.length_take, List.length_singleton]; omega), List.nil_append]
    unfold k_without_needless_L1 m_without_needless_L1 okLet vLet
    dsimp only
    have el : (cut (s.take (k + 1) ++ T) none (some (k : Int))).length + (cut (s.take (k + 1) ++ T) (some ((k : Int) + 1)) none).length = (s.take k ++ T).length := by rw [← List.length_append, ecut]
    rw [el, ecut]
    have hml : ∀ x ∈ s.take k ++ T, x.length ≤ 1000 := fun x hx => (List.mem_append.mp hx).elim (fun q => h x (List.mem_of_mem_take q)) fun q => h x (hT x q)
    have hll : (s.take k ++ T).length ≤ 1000 := by rw [List.length_append, List.length_take]; omega
    have hc := conall_all (s.take k ++ T) on hml hll ho
    refine ⟨⟨⟨by omega, trivial⟩, ⟨hc.1, trivial⟩, okIf_b trivial trivial⟩, ?_⟩
    rw [hc.2]
    rw [et, List.reverse_append, List.reverse_singleton, List.singleton_append, wnr, List.reverse_reverse] at hw
    have e1 : s.length - (i + 1) = k := by omega
    cases hcv : covs (s.take k ++ T) on
    · rw [cIf_f rfl]
      rw [hcv] at hw
      refine ⟨s[k] :: T, by rw [e1, et, List.append_assoc]; rfl, fun x hx => ?_, by rw [List.length_cons]; omega, by rw [e1]; exact hw⟩
      obtain q | q := List.mem_cons.mp hx
      · rw [q]; exact List.getElem_mem hks
      · exact hT x q
    · rw [cIf_t rfl]
      rw [hcv] at hw
      exact ⟨T, by rw [e1], hT, by omega, by rw [e1]; exact hw⟩
  · obtain hs | hs := hs
    · obtain ⟨T, rfl, _, _, hw⟩ := hs
      rw [List.length_reverse, rng_len, Int.toNat_natCast, Nat.sub_self] at hw
      rw [List.length_reverse, rng_len, Int.toNat_natCast, Nat.sub_self]
      exact hw
    · exact hs.elim
theorem compact_all {w : Nat} {on off : List Tx} (f : Fn2 w on off) (hw : w ≤ 8) : k_compact_cover on off ∧ f_compact_cover on off = ccov on off := by
  unfold k_compact_cover f_compact_cover m_compact_cover
  have hl := f.l1
  have hl2 := f.l2
  have g := for_def (f := m_compact_cover_L1 off) (ok := k_compact_cover_L1 off) (items := srtS on) (s0 := ([] : List Tx)) (k := fun s => .rt (f_without_needless s on)) (q := fun s => k_without_needless s on ∧ True) (Q := fun r => r = ccov on off)
    (fun i s => s = ccs on off i) (fun _ => False) rfl (fun i x s hx hs => ?_) (fun s hs => ?_)
  · exact ⟨⟨⟨by omega, trivial⟩, g.1⟩, g.2⟩
  · have hi : i < on.length := by
      have := (List.getElem?_eq_some_iff.mp hx).1
      rwa [srt_len] at this
    obtain ⟨g1, g2, g3⟩ := ccs_inv f i (by omega)
    rw [← hs] at g1 g2
    have hon : x ∈ on := (srtS_perm on).mem_iff.mp (List.mem_of_getElem? hx)
    have hxl := (f.mon x hon).1
    have c1 := ccont_all s x (fun y hy => by rw [(g1 y hy).1.1]; omega) (by omega)
    have e1 := expand_all x off (by omega) (by omega)
    unfold k_compact_cover_L1 m_compact_cover_L1 okLet vLet
    dsimp only
    refine ⟨⟨⟨c1.1, trivial⟩, okIf_b ⟨⟨e1.1, by omega, trivial⟩, trivial⟩ trivial⟩, ?_⟩
    rw [c1.2, e1.2]
    have hn := ccs_succ on off i x hx
    rw [← hs] at hn
    unfold cc1 at hn
    cases hc : s.any fun y => mat y x
    · rw [hc] at hn
      rw [cIf_t (b := !false) rfl]
      exact hn.symm
    · rw [hc] at hn
      rw [cIf_f (b := !true) rfl]
      exact hn.symm
  · obtain hs | hs := hs
    · rw [srt_len] at hs
      obtain ⟨g1, g2, g3⟩ := ccs_inv f on.length (Nat.le_refl _)
      rw [← hs] at g1 g2
      have := without_all s on (fun y hy => by rw [(g1 y hy).1.1]; omega) (by omega) (by omega)
      refine ⟨⟨this.1, trivial⟩, ?_⟩
      show f_without_needless s on = _
      rw [this.2, hs]; rfl
    · exact hs.elim

theorem law_L2_all {w : Nat} (on off cv : List Tx) (f : Fn2 w on off) (hw : w ≤ 8) (h1 : ∀ y ∈ cv, Cub w y ∧ Pr y off) (h3 : ∀ A t B, cv = A ++ t :: B → covs (A ++ B) on = false) (hl : cv.length ≤ 200) (k : Nat) (hk : k < cv.length) :
    k_law_L2 cv [on, off] (k : Int) () ∧ m_law_L2 cv [on, off] (k : Int) () = .nx () := by
  have l1 := f.l1
  have hy := h1 _ (List.getElem_mem hk)
  have hyl := hy.1.1
  have p1 := law_prime_all cv[k] off (fun c hc => by rw [(f.mof c hc).1, hyl]) (by omega)
  unfold k_law_L2 m_law_L2 okLet vLet
  dsimp only
  rw [cut_out, ixD_nat hk]
  simp only [ixl0, ixl1]
  have el : (cut cv none (some (k : Int))).length + (cut cv (some ((k : Int) + 1)) none).length = (cv.take k ++ cv.drop (k + 1)).length := by rw [← List.length_append, cut_out]
  rw [el]
  have ell : (cv.take k ++ cv.drop (k + 1)).length ≤ 200 := by rw [List.length_append, List.length_take, List.length_drop]; omega
  have hr := h3 (cv.take k) cv[k] (cv.drop (k + 1)) (by rw [← List.drop_eq_getElem_cons hk, List.take_append_drop])
  have hrm : ∀ x ∈ cv.take k ++ cv.drop (k + 1), Cub w x := fun x hx => (h1 x ((List.mem_append.mp hx).elim List.mem_of_mem_take List.mem_of_mem_drop)).1
  generalize cv.take k ++ cv.drop (k + 1) = rest at ell hr hrm ⊢
  have hcv : ∀ c ∈ on, k_law_covered rest c ∧ f_law_covered rest c = rest.any fun x => mat x c := fun c hc => covered_all rest c (fun x hx => by rw [(hrm x hx).1, (f.mon c hc).1]) (by rw [(f.mon c hc).1]; omega)
  have b1 : (!(f_law_prime cv[k] off)) = false := by rw [p1.2.mpr hy.2]; rfl
  have b2 : eqB (((on.filter fun x101 => (!(f_law_covered rest x101))).map fun x101 => x101).length : Int) (0 : Int) = false := by
    rw [eqB_f, List.map_id']
    intro h0
    rw [Bool.eq_false_iff] at hr
    apply hr
    unfold covs
    rw [List.all_eq_true]
    intro c hc
    have hn := List.filter_eq_nil_iff.mp (List.eq_nil_of_length_eq_zero (Int.ofNat_eq_zero.mp h0)) c hc
    rw [(hcv c hc).2] at hn
    simpa using hn
  rw [cIf_f b1, cIf_f b2]
  exact ⟨⟨⟨inB_nat (by omega) (by omega), p1.1, trivial⟩, okIf_f b1 ⟨⟨by omega, trivial⟩, ⟨by omega, fun c hc => ⟨(hcv c hc).1, trivial⟩, trivial, trivial⟩, okIf_b trivial trivial⟩⟩, rfl⟩
theorem law_all (ns : List Int) (hb : ∀ z ∈ ns, Builtin.Int.intBits z ≤ 1048576) : k_law ⟨ns⟩ ∧ f_law ⟨ns⟩ = true := by
  unfold k_law f_law m_law okLet
  simp only [outC_let]
  have hcb := cell_bits ns hb 1 (by decide)
  generalize f_law_cell ⟨ns⟩ 0 = a
  have hw : 0 ≤ a % 7 ∧ a % 7 < 7 := ⟨Int.emod_nonneg _ (by decide), Int.emod_lt_of_pos _ (by decide)⟩
  obtain ⟨w, hw2⟩ : ∃ w : Nat, a % 7 = (w : Int) := ⟨(a % 7).toNat, by omega⟩
  rw [hw2]
  have h6 : w ≤ 6 := by omega
  generalize f_law_cell ⟨ns⟩ 1 = b at hcb ⊢
  obtain ⟨kf, on, off, ef, f⟩ := function_all b w h6 hcb
  rw [ef]
  simp only [ixl0, ixl1]
  have l1 := f.l1
  obtain ⟨kc, ec⟩ := compact_all f (by omega)
  rw [ec]
  obtain ⟨s1, s2, s3, s4⟩ := ccov_spec f
  generalize ccov on off = cv at s1 s2 s3 s4 ⊢
  have v1 := is_cover_all cv w (fun x hx => (s1 x hx).1) (by omega)
  have hb0 : ((!eqB on on) || ((!eqB off off) || (!(f_law_is_cover cv (w : Int))))) = false := by rw [eqB_self, eqB_self, v1.2]; rfl
  rw [cIf_f hb0]
  have i0 : ∀ {α : Type} (a b : α), inB [a, b] 0 := fun a b => ⟨by show -2 ≤ (0 : Int); decide, by show (0 : Int) < 2; decide⟩
  have i1 : ∀ {α : Type} (a b : α), inB [a, b] 1 := fun a b => ⟨by show -2 ≤ (1 : Int); decide, by show (1 : Int) < 2; decide⟩
  have hr : k_law_R1 cv [on, off] () ∧ outC (m_law_R1 cv [on, off] ()) = true := by
    unfold k_law_R1 m_law_R1
    have g := for_def (f := m_law_L2 cv [on, off]) (ok := k_law_L2 cv [on, off]) (items := rng (cv.length : Int)) (s0 := ()) (k := fun _ => .rt true) (q := fun _ => True) (Q := fun r => r = true)
      (fun i _ => True) (fun _ => False) trivial (fun i z s hz hs => ?_) (fun s hs => ⟨trivial, rfl⟩)
    · exact ⟨⟨⟨⟨by omega, by omega⟩, trivial⟩, g.1⟩, g.2⟩
    · obtain ⟨rfl, h2⟩ := rng_get hz
      have := law_L2_all on off cv f (by omega) s1 s3 s4 i (by omega)
      refine ⟨this.1, ?_⟩
      rw [this.2]; trivial
  have g := for_def (f := m_law_L1 cv) (ok := k_law_L1 cv) (items := on) (s0 := ()) (k := m_law_R1 cv [on, off]) (q := k_law_R1 cv [on, off]) (Q := fun r => r = true)
    (fun i _ => True) (fun _ => False) trivial (fun i z s hz hs => ?_) (fun s hs => hr)
  · exact ⟨⟨⟨cell_ok ns 0 (by decide), trivial⟩, ⟨cell_ok ns 1 (by decide), kf, rfl, trivial⟩, ⟨i0 _ _, i1 _ _, kc, trivial⟩, ⟨i0 _ _, fun _ => ⟨i1 _ _, fun _ => ⟨v1.1, trivial⟩, trivial⟩, trivial⟩, okIf_f hb0 g.1⟩, g.2⟩
  · have hz := List.mem_of_getElem? hz
    have c1 := covered_all cv z (fun x hx => by rw [(s1 x hx).1.1, (f.mon z hz).1]) (by rw [(f.mon z hz).1]; omega)
    have hcz : (cv.any fun x => mat x z) = true := by
      unfold covs at s2
      exact List.all_eq_true.mp s2 z hz
    refine ⟨⟨⟨c1.1, trivial⟩, okIf_b trivial trivial⟩, ?_⟩
    unfold m_law_L1
    rw [cIf_f (by rw [c1.2, hcz]; rfl)]
    trivial
theorem law_ok (ns : List Int) (hl : ns.length ≤ 63) (hb : ∀ z ∈ ns, Builtin.Int.intBits z ≤ 1048576) : K_law (⟨ns⟩, ()) := (law_all ns hb).1
theorem law_true (ns : List Int) (hl : ns.length ≤ 63) (hb : ∀ z ∈ ns, Builtin.Int.intBits z ≤ 1048576) : F_law (⟨ns⟩, ()) = true := (law_all ns hb).2

theorem all_mk {l : PySem.W.OpenLaw} {w : World} {K : PySem.W.Frag} {h : Heap} {mg : Str → Option Value} {fa : Addr} (X : K.In h) (G : h.Ns mainGlobals mg) (hfa : mg "law" = some (.ref fa))
    {f1 : Addr} {od1 an1 : Option Addr} {sl1 : Array (Option Value)} {oc1 kV1 dc1 pm1 cd1 ct1 : Value}
    {f2 : Addr} {od2 an2 : Option Addr} {sl2 : Array (Option Value)} {oc2 kV2 dc2 pm2 cd2 ct2 : Value}
    {f3 : Addr} {od3 an3 : Option Addr} {sl3 : Array (Option Value)} {oc3 kV3 dc3 pm3 cd3 ct3 : Value}
    {f4 : Addr} {od4 an4 : Option Addr} {sl4 : Array (Option Value)} {oc4 kV4 dc4 pm4 cd4 ct4 : Value}
    {f5 : Addr} {od5 an5 : Option Addr} {sl5 : Array (Option Value)} {oc5 kV5 dc5 pm5 cd5 ct5 : Value}
    {f6 : Addr} {od6 an6 : Option Addr} {sl6 : Array (Option Value)} {oc6 kV6 dc6 pm6 cd6 ct6 : Value}
    {f7 : Addr} {od7 an7 : Option Addr} {sl7 : Array (Option Value)} {oc7 kV7 dc7 pm7 cd7 ct7 : Value}
    {f8 : Addr} {od8 an8 : Option Addr} {sl8 : Array (Option Value)} {oc8 kV8 dc8 pm8 cd8 ct8 : Value}
    {f9 : Addr} {od9 an9 : Option Addr} {sl9 : Array (Option Value)} {oc9 kV9 dc9 pm9 cd9 ct9 : Value}
    {f10 : Addr} {od10 an10 : Option Addr} {sl10 : Array (Option Value)} {oc10 kV10 dc10 pm10 cd10 ct10 : Value}
    {f11 : Addr} {od11 an11 : Option Addr} {sl11 : Array (Option Value)} {oc11 kV11 dc11 pm11 cd11 ct11 : Value}
    {f12 : Addr} {od12 an12 : Option Addr} {sl12 : Array (Option Value)} {oc12 kV12 dc12 pm12 cd12 ct12 : Value}
    {f13 : Addr} {od13 an13 : Option Addr} {sl13 : Array (Option Value)} {oc13 kV13 dc13 pm13 cd13 ct13 : Value}
    {f14 : Addr} {od14 an14 : Option Addr} {sl14 : Array (Option Value)} {oc14 kV14 dc14 pm14 cd14 ct14 : Value}
    {f15 : Addr} {od15 an15 : Option Addr} {sl15 : Array (Option Value)} {oc15 kV15 dc15 pm15 cd15 ct15 : Value}
    {f16 : Addr} {od16 an16 : Option Addr} {sl16 : Array (Option Value)} {oc16 kV16 dc16 pm16 cd16 ct16 : Value}
    {f17 : Addr} {od17 an17 : Option Addr} {sl17 : Array (Option Value)} {oc17 kV17 dc17 pm17 cd17 ct17 : Value}
    {f18 : Addr} {od18 an18 : Option Addr} {sl18 : Array (Option Value)} {oc18 kV18 dc18 pm18 cd18 ct18 : Value}
    {f19 : Addr} {od19 an19 : Option Addr} {sl19 : Array (Option Value)} {oc19 kV19 dc19 pm19 cd19 ct19 : Value}
    {f20 : Addr} {od20 an20 : Option Addr} {sl20 : Array (Option Value)} {oc20 kV20 dc20 pm20 cd20 ct20 : Value}
    {f21 : Addr} {od21 an21 : Option Addr} {sl21 : Array (Option Value)} {oc21 kV21 dc21 pm21 cd21 ct21 : Value}
    (a1 : PySem.W.nsIn K mainGlobals "_law_draws" = some (some (.ref f1)))
    (l1 : K.lookup f1 = some ⟨oc1, od1, .func (PySem.W.fnOf "_law_draws" "_law_draws" (defArgs s_law_draws) (defBody s_law_draws) (defScope s_law_draws) .none kV1 dc1 pm1 an1 cd1 ct1), sl1⟩) (c1 : PySem.W.codeIn K cd1 "_law_draws" = true) (k1 : PySem.W.keepIn K (.ref f1) = true)
    (a2 : PySem.W.nsIn K mainGlobals "_law_code_of" = some (some (.ref f2)))
    (l2 : K.lookup f2 = some ⟨oc2, od2, .func (PySem.W.fnOf "_law_code_of" "_law_code_of" (defArgs s_law_code_of) (defBody s_law_code_of) (defScope s_law_code_of) .none kV2 dc2 pm2 an2 cd2 ct2), sl2⟩) (c2 : PySem.W.codeIn K cd2 "_law_code_of" = true) (k2 : PySem.W.keepIn K (.ref f2) = true)
    (a3 : PySem.W.nsIn K mainGlobals "_law_codes" = some (some (.ref f3)))
    (l3 : K.lookup f3 = some ⟨oc3, od3, .func (PySem.W.fnOf "_law_codes" "_law_codes" (defArgs s_law_codes) (defBody s_law_codes) (defScope s_law_codes) .none kV3 dc3 pm3 an3 cd3 ct3), sl3⟩) (c3 : PySem.W.codeIn K cd3 "_law_codes" = true) (k3 : PySem.W.keepIn K (.ref f3) = true)
    (a4 : PySem.W.nsIn K mainGlobals "_law_function" = some (some (.ref f4)))
    (l4 : K.lookup f4 = some ⟨oc4, od4, .func (PySem.W.fnOf "_law_function" "_law_function" (defArgs s_law_function) (defBody s_law_function) (defScope s_law_function) .none kV4 dc4 pm4 an4 cd4 ct4), sl4⟩) (c4 : PySem.W.codeIn K cd4 "_law_function" = true) (k4 : PySem.W.keepIn K (.ref f4) = true)
    (a5 : PySem.W.nsIn K mainGlobals "contains" = some (some (.ref f5)))
    (l5 : K.lookup f5 = some ⟨oc5, od5, .func (PySem.W.fnOf "contains" "contains" (defArgs s_contains) (defBody s_contains) (defScope s_contains) .none kV5 dc5 pm5 an5 cd5 ct5), sl5⟩) (c5 : PySem.W.codeIn K cd5 "contains" = true) (k5 : PySem.W.keepIn K (.ref f5) = true)
    (a6 : PySem.W.nsIn K mainGlobals "cover_contains" = some (some (.ref f6)))
    (l6 : K.lookup f6 = some ⟨oc6, od6, .func (PySem.W.fnOf "cover_contains" "cover_contains" (defArgs s_cover_contains) (defBody s_cover_contains) (defScope s_cover_contains) .none kV6 dc6 pm6 an6 cd6 ct6), sl6⟩) (c6 : PySem.W.codeIn K cd6 "cover_contains" = true) (k6 : PySem.W.keepIn K (.ref f6) = true)
    (a7 : PySem.W.nsIn K mainGlobals "_contains_all" = some (some (.ref f7)))
    (l7 : K.lookup f7 = some ⟨oc7, od7, .func (PySem.W.fnOf "_contains_all" "_contains_all" (defArgs s_contains_all) (defBody s_contains_all) (defScope s_contains_all) .none kV7 dc7 pm7 an7 cd7 ct7), sl7⟩) (c7 : PySem.W.codeIn K cd7 "_contains_all" = true) (k7 : PySem.W.keepIn K (.ref f7) = true)
    (a8 : PySem.W.nsIn K mainGlobals "_without_needless" = some (some (.ref f8)))
    (l8 : K.lookup f8 = some ⟨oc8, od8, .func (PySem.W.fnOf "_without_needless" "_without_needless" (defArgs s_without_needless) (defBody s_without_needless) (defScope s_without_needless) .none kV8 dc8 pm8 an8 cd8 ct8), sl8⟩) (c8 : PySem.W.codeIn K cd8 "_without_needless" = true) (k8 : PySem.W.keepIn K (.ref f8) = true)
    (a9 : PySem.W.nsIn K mainGlobals "with_character" = some (some (.ref f9)))
    (l9 : K.lookup f9 = some ⟨oc9, od9, .func (PySem.W.fnOf "with_character" "with_character" (defArgs s_with_character) (defBody s_with_character) (defScope s_with_character) .none kV9 dc9 pm9 an9 cd9 ct9), sl9⟩) (c9 : PySem.W.codeIn K cd9 "with_character" = true) (k9 : PySem.W.keepIn K (.ref f9) = true)
    (a10 : PySem.W.nsIn K mainGlobals "_contains_some" = some (some (.ref f10)))
    (l10 : K.lookup f10 = some ⟨oc10, od10, .func (PySem.W.fnOf "_contains_some" "_contains_some" (defArgs s_contains_some) (defBody s_contains_some) (defScope s_contains_some) .none kV10 dc10 pm10 an10 cd10 ct10), sl10⟩) (c10 : PySem.W.codeIn K cd10 "_contains_some" = true) (k10 : PySem.W.keepIn K (.ref f10) = true)
    (a11 : PySem.W.nsIn K mainGlobals "expand" = some (some (.ref f11)))
    (l11 : K.lookup f11 = some ⟨oc11, od11, .func (PySem.W.fnOf "expand" "expand" (defArgs s_expand) (defBody s_expand) (defScope s_expand) .none kV11 dc11 pm11 an11 cd11 ct11), sl11⟩) (c11 : PySem.W.codeIn K cd11 "expand" = true) (k11 : PySem.W.keepIn K (.ref f11) = true)
    (a12 : PySem.W.nsIn K mainGlobals "compact_cover" = some (some (.ref f12)))
    (l12 : K.lookup f12 = some ⟨oc12, od12, .func (PySem.W.fnOf "compact_cover" "compact_cover" (defArgs s_compact_cover) (defBody s_compact_cover) (defScope s_compact_cover) .none kV12 dc12 pm12 an12 cd12 ct12), sl12⟩) (c12 : PySem.W.codeIn K cd12 "compact_cover" = true) (k12 : PySem.W.keepIn K (.ref f12) = true)
    (a13 : PySem.W.nsIn K mainGlobals "_law_cell" = some (some (.ref f13)))
    (l13 : K.lookup f13 = some ⟨oc13, od13, .func (PySem.W.fnOf "_law_cell" "_law_cell" (defArgs s_law_cell) (defBody s_law_cell) (defScope s_law_cell) .none kV13 dc13 pm13 an13 cd13 ct13), sl13⟩) (c13 : PySem.W.codeIn K cd13 "_law_cell" = true) (k13 : PySem.W.keepIn K (.ref f13) = true)
    (a14 : PySem.W.nsIn K mainGlobals "_law_is_cube" = some (some (.ref f14)))
    (l14 : K.lookup f14 = some ⟨oc14, od14, .func (PySem.W.fnOf "_law_is_cube" "_law_is_cube" (defArgs s_law_is_cube) (defBody s_law_is_cube) (defScope s_law_is_cube) .none kV14 dc14 pm14 an14 cd14 ct14), sl14⟩) (c14 : PySem.W.codeIn K cd14 "_law_is_cube" = true) (k14 : PySem.W.keepIn K (.ref f14) = true)
    (a15 : PySem.W.nsIn K mainGlobals "_law_is_cover" = some (some (.ref f15)))
    (l15 : K.lookup f15 = some ⟨oc15, od15, .func (PySem.W.fnOf "_law_is_cover" "_law_is_cover" (defArgs s_law_is_cover) (defBody s_law_is_cover) (defScope s_law_is_cover) .none kV15 dc15 pm15 an15 cd15 ct15), sl15⟩) (c15 : PySem.W.codeIn K cd15 "_law_is_cover" = true) (k15 : PySem.W.keepIn K (.ref f15) = true)
    (a16 : PySem.W.nsIn K mainGlobals "_law_in" = some (some (.ref f16)))
    (l16 : K.lookup f16 = some ⟨oc16, od16, .func (PySem.W.fnOf "_law_in" "_law_in" (defArgs s_law_in) (defBody s_law_in) (defScope s_law_in) .none kV16 dc16 pm16 an16 cd16 ct16), sl16⟩) (c16 : PySem.W.codeIn K cd16 "_law_in" = true) (k16 : PySem.W.keepIn K (.ref f16) = true)
    (a17 : PySem.W.nsIn K mainGlobals "_law_covered" = some (some (.ref f17)))
    (l17 : K.lookup f17 = some ⟨oc17, od17, .func (PySem.W.fnOf "_law_covered" "_law_covered" (defArgs s_law_covered) (defBody s_law_covered) (defScope s_law_covered) .none kV17 dc17 pm17 an17 cd17 ct17), sl17⟩) (c17 : PySem.W.codeIn K cd17 "_law_covered" = true) (k17 : PySem.W.keepIn K (.ref f17) = true)
    (a18 : PySem.W.nsIn K mainGlobals "_law_avoids" = some (some (.ref f18)))
    (l18 : K.lookup f18 = some ⟨oc18, od18, .func (PySem.W.fnOf "_law_avoids" "_law_avoids" (defArgs s_law_avoids) (defBody s_law_avoids) (defScope s_law_avoids) .none kV18 dc18 pm18 an18 cd18 ct18), sl18⟩) (c18 : PySem.W.codeIn K cd18 "_law_avoids" = true) (k18 : PySem.W.keepIn K (.ref f18) = true)
    (a19 : PySem.W.nsIn K mainGlobals "_law_with" = some (some (.ref f19)))
    (l19 : K.lookup f19 = some ⟨oc19, od19, .func (PySem.W.fnOf "_law_with" "_law_with" (defArgs s_law_with) (defBody s_law_with) (defScope s_law_with) .none kV19 dc19 pm19 an19 cd19 ct19), sl19⟩) (c19 : PySem.W.codeIn K cd19 "_law_with" = true) (k19 : PySem.W.keepIn K (.ref f19) = true)
    (a20 : PySem.W.nsIn K mainGlobals "_law_prime" = some (some (.ref f20)))
    (l20 : K.lookup f20 = some ⟨oc20, od20, .func (PySem.W.fnOf "_law_prime" "_law_prime" (defArgs s_law_prime) (defBody s_law_prime) (defScope s_law_prime) .none kV20 dc20 pm20 an20 cd20 ct20), sl20⟩) (c20 : PySem.W.codeIn K cd20 "_law_prime" = true) (k20 : PySem.W.keepIn K (.ref f20) = true)
    (a21 : PySem.W.nsIn K mainGlobals "law" = some (some (.ref f21)))
    (l21 : K.lookup f21 = some ⟨oc21, od21, .func (PySem.W.fnOf "law" "law" (defArgs s_law) (defBody s_law) (defScope s_law) .none kV21 dc21 pm21 an21 cd21 ct21), sl21⟩) (c21 : PySem.W.codeIn K cd21 "law" = true) (k21 : PySem.W.keepIn K (.ref f21) = true)
    (z1 : PySem.W.nsIn K mainGlobals "all" = some none)
    (z2 : PySem.W.nsIn K mainGlobals "any" = some none)
    (z3 : PySem.W.nsIn K mainGlobals "int" = some none)
    (z4 : PySem.W.nsIn K mainGlobals "isinstance" = some none)
    (z5 : PySem.W.nsIn K mainGlobals "len" = some none)
    (z6 : PySem.W.nsIn K mainGlobals "list" = some none)
    (z7 : PySem.W.nsIn K mainGlobals "range" = some none)
    (z8 : PySem.W.nsIn K mainGlobals "reversed" = some none)
    (z9 : PySem.W.nsIn K mainGlobals "sorted" = some none)
    (z10 : PySem.W.nsIn K mainGlobals "str" = some none)
    (z11 : PySem.W.nsIn K mainGlobals "zip" = some none) :
    ∃ fd : FuncData, (∀ (s : Shared) (v : Value), BindsTo s fd ⟨[v], []⟩ [("script", v)]) ∧ ∀ base : Heap, K.In base → base.Ns mainGlobals mg → FnOk l.prog w K mg base CX0 6 fa fd ["script"] (spF K F_law K_law) := by
  have e := hfa.symm.trans (PySem.W.mg_of X G a21)
  cases e
  have F1 := fun_mk (st := s_law_draws) l1 c1 k1
  have b1 := F1.binds (ps := ["cell", "count"]) fun _ _ _ _ _ _ us hl => match us, hl with | [_, _], _ => rfl
  have F2 := fun_mk (st := s_law_code_of) l2 c2 k2
  have b2 := F2.binds (ps := ["number", "width"]) fun _ _ _ _ _ _ us hl => match us, hl with | [_, _], _ => rfl
  have F3 := fun_mk (st := s_law_codes) l3 c3 k3
  have b3 := F3.binds (ps := ["width"]) fun _ _ _ _ _ _ us hl => match us, hl with | [_], _ => rfl
  have F4 := fun_mk (st := s_law_function) l4 c4 k4
  have b4 := F4.binds (ps := ["cell", "width"]) fun _ _ _ _ _ _ us hl => match us, hl with | [_, _], _ => rfl
  have F5 := fun_mk (st := s_contains) l5 c5 k5
  have b5 := F5.binds (ps := ["cube", "code"]) fun _ _ _ _ _ _ us hl => match us, hl with | [_, _], _ => rfl
  have F6 := fun_mk (st := s_cover_contains) l6 c6 k6
  have b6 := F6.binds (ps := ["cover", "code"]) fun _ _ _ _ _ _ us hl => match us, hl with | [_, _], _ => rfl
  have F7 := fun_mk (st := s_contains_all) l7 c7 k7
  have b7 := F7.binds (ps := ["cover", "codes"]) fun _ _ _ _ _ _ us hl => match us, hl with | [_, _], _ => rfl
  have F8 := fun_mk (st := s_without_needless) l8 c8 k8
  have b8 := F8.binds (ps := ["cover", "on"]) fun _ _ _ _ _ _ us hl => match us, hl with | [_, _], _ => rfl
  have F9 := fun_mk (st := s_with_character) l9 c9 k9
  have b9 := F9.binds (ps := ["cube", "index", "character"]) fun _ _ _ _ _ _ us hl => match us, hl with | [_, _, _], _ => rfl
  have F10 := fun_mk (st := s_contains_some) l10 c10 k10
  have b10 := F10.binds (ps := ["cube", "codes"]) fun _ _ _ _ _ _ us hl => match us, hl with | [_, _], _ => rfl
  have F11 := fun_mk (st := s_expand) l11 c11 k11
  have b11 := F11.binds (ps := ["cube", "off"]) fun _ _ _ _ _ _ us hl => match us, hl with | [_, _], _ => rfl
  have F12 := fun_mk (st := s_compact_cover) l12 c12 k12
  have b12 := F12.binds (ps := ["on", "off"]) fun _ _ _ _ _ _ us hl => match us, hl with | [_, _], _ => rfl
  have F13 := fun_mk (st := s_law_cell) l13 c13 k13
  have b13 := F13.binds (ps := ["script", "k"]) fun _ _ _ _ _ _ us hl => match us, hl with | [_, _], _ => rfl
  have F14 := fun_mk (st := s_law_is_cube) l14 c14 k14
  have b14 := F14.binds (ps := ["x", "width"]) fun _ _ _ _ _ _ us hl => match us, hl with | [_, _], _ => rfl
  have F15 := fun_mk (st := s_law_is_cover) l15 c15 k15
  have b15 := F15.binds (ps := ["x", "width"]) fun _ _ _ _ _ _ us hl => match us, hl with | [_, _], _ => rfl
  have F16 := fun_mk (st := s_law_in) l16 c16 k16
  have b16 := F16.binds (ps := ["cube", "code"]) fun _ _ _ _ _ _ us hl => match us, hl with | [_, _], _ => rfl
  have F17 := fun_mk (st := s_law_covered) l17 c17 k17
  have b17 := F17.binds (ps := ["cover", "code"]) fun _ _ _ _ _ _ us hl => match us, hl with | [_, _], _ => rfl
  have F18 := fun_mk (st := s_law_avoids) l18 c18 k18
  have b18 := F18.binds (ps := ["cube", "off"]) fun _ _ _ _ _ _ us hl => match us, hl with | [_, _], _ => rfl
  have F19 := fun_mk (st := s_law_with) l19 c19 k19
  have b19 := F19.binds (ps := ["cube", "k", "sign"]) fun _ _ _ _ _ _ us hl => match us, hl with | [_, _, _], _ => rfl
  have F20 := fun_mk (st := s_law_prime) l20 c20 k20
  have b20 := F20.binds (ps := ["cube", "off"]) fun _ _ _ _ _ _ us hl => match us, hl with | [_, _], _ => rfl
  have F21 := fun_mk (st := s_law) l21 c21 k21
  have b21 := F21.binds (ps := ["script"]) fun _ _ _ _ _ _ us hl => match us, hl with | [_], _ => rfl
  let T : Txt K mg := ⟨_, _, F1, b1, PySem.W.mg_of X G a1, _, _, F2, b2, PySem.W.mg_of X G a2, _, _, F3, b3, PySem.W.mg_of X G a3, _, _, F4, b4, PySem.W.mg_of X G a4, _, _, F5, b5, PySem.W.mg_of X G a5, _, _, F6, b6, PySem.W.mg_of X G a6, _, _, F7, b7, PySem.W.mg_of X G a7, _, _, F8, b8, PySem.W.mg_of X G a8, _, _, F9, b9, PySem.W.mg_of X G a9, _, _, F10, b10, PySem.W.mg_of X G a10, _, _, F11, b11, PySem.W.mg_of X G a11, _, _, F12, b12, PySem.W.mg_of X G a12, _, _, F13, b13, PySem.W.mg_of X G a13, _, _, F14, b14, PySem.W.mg_of X G a14, _, _, F15, b15, PySem.W.mg_of X G a15, _, _, F16, b16, PySem.W.mg_of X G a16, _, _, F17, b17, PySem.W.mg_of X G a17, _, _, F18, b18, PySem.W.mg_of X G a18, _, _, F19, b19, PySem.W.mg_of X G a19, _, _, F20, b20, PySem.W.mg_of X G a20, _, _, F21, b21, PySem.W.mg_of X G a21, PySem.W.mg_none_of X G z1, PySem.W.mg_none_of X G z2, PySem.W.mg_none_of X G z3, PySem.W.mg_none_of X G z4, PySem.W.mg_none_of X G z5, PySem.W.mg_none_of X G z6, PySem.W.mg_none_of X G z7, PySem.W.mg_none_of X G z8, PySem.W.mg_none_of X G z9, PySem.W.mg_none_of X G z10, PySem.W.mg_none_of X G z11⟩
  exact ⟨PySem.W.fnOf "law" "law" (defArgs s_law) (defBody s_law) (defScope s_law) .none kV21 dc21 pm21 an21 cd21 ct21, fun s v => .of_eq rfl, fun base _ _ => ok_law T⟩
end Wk
open PySem PySem.W PyProof.Rows
set_option maxHeartbeats 0 in
theorem PySem.Challenge.cw_clockless_k30_compact_covers_holds : PySem.Challenge.rw_clockless_k30_compact_covers.Holds := by
  w_on; o_law; k_head; (case hw => w_witness2)
  k_fill
  refine L2.walk_ofB (l := PySem.Challenge.rw_clockless_k30_compact_covers) (n := 63) (k := 6) (x := "script") (CX := fun _ => L2.CX0) (sp := fun w => Cx.spF _ Wk.F_law Wk.K_law) rfl (by decide) rfl ⟨rfl, by decide, by decide⟩ (fun w h Y => PySem.W.kIn_of Y) ?F (fun _ _ a ns hl hb _ hS => Cx.spF_law hS (Wk.law_ok ns hl hb) (Wk.law_true ns hl hb)) (fun _ _ _ _ _ h => h)
  case F =>
    intro w mg fa h KX G hmg
    refine' Wk.all_mk KX G hmg ?a1 ?l1 ?c1 ?k1 ?a2 ?l2 ?c2 ?k2 ?a3 ?l3 ?c3 ?k3 ?a4 ?l4 ?c4 ?k4 ?a5 ?l5 ?c5 ?k5 ?a6 ?l6 ?c6 ?k6 ?a7 ?l7 ?c7 ?k7 ?a8 ?l8 ?c8 ?k8 ?a9 ?l9 ?c9 ?k9 ?a10 ?l10 ?c10 ?k10 ?a11 ?l11 ?c11 ?k11 ?a12 ?l12 ?c12 ?k12 ?a13 ?l13 ?c13 ?k13 ?a14 ?l14 ?c14 ?k14 ?a15 ?l15 ?c15 ?k15 ?a16 ?l16 ?c16 ?k16 ?a17 ?l17 ?c17 ?k17 ?a18 ?l18 ?c18 ?k18 ?a19 ?l19 ?c19 ?k19 ?a20 ?l20 ?c20 ?k20 ?a21 ?l21 ?c21 ?k21 ?z1 ?z2 ?z3 ?z4 ?z5 ?z6 ?z7 ?z8 ?z9 ?z10 ?z11
    (case a1 => k_is); (case l1 => k_is); (case c1 => k_is); (case k1 => k_is)
    (case a2 => k_is); (case l2 => k_is); (case c2 => k_is); (case k2 => k_is)
    (case a3 => k_is); (case l3 => k_is); (case c3 => k_is); (case k3 => k_is)
    (case a4 => k_is); (case l4 => k_is); (case c4 => k_is); (case k4 => k_is)
    (case a5 => k_is); (case l5 => k_is); (case c5 => k_is); (case k5 => k_is)
    (case a6 => k_is); (case l6 => k_is); (case c6 => k_is); (case k6 => k_is)
    (case a7 => k_is); (case l7 => k_is); (case c7 => k_is); (case k7 => k_is)
    (case a8 => k_is); (case l8 => k_is); (case c8 => k_is); (case k8 => k_is)
    (case a9 => k_is); (case l9 => k_is); (case c9 => k_is); (case k9 => k_is)
    (case a10 => k_is); (case l10 => k_is); (case c10 => k_is); (case k10 => k_is)
    (case a11 => k_is); (case l11 => k_is); (case c11 => k_is); (case k11 => k_is)
    (case a12 => k_is); (case l12 => k_is); (case c12 => k_is); (case k12 => k_is)
    (case a13 => k_is); (case l13 => k_is); (case c13 => k_is); (case k13 => k_is)
    (case a14 => k_is); (case l14 => k_is); (case c14 => k_is); (case k14 => k_is)
    (case a15 => k_is); (case l15 => k_is); (case c15 => k_is); (case k15 => k_is)
    (case a16 => k_is); (case l16 => k_is); (case c16 => k_is); (case k16 => k_is)
    (case a17 => k_is); (case l17 => k_is); (case c17 => k_is); (case k17 => k_is)
    (case a18 => k_is); (case l18 => k_is); (case c18 => k_is); (case k18 => k_is)
    (case a19 => k_is); (case l19 => k_is); (case c19 => k_is); (case k19 => k_is)
    (case a20 => k_is); (case l20 => k_is); (case c20 => k_is); (case k20 => k_is)
    (case a21 => k_is); (case l21 => k_is); (case c21 => k_is); (case k21 => k_is)
    (case z1 => k_is)
    (case z2 => k_is)
    (case z3 => k_is)
    (case z4 => k_is)
    (case z5 => k_is)
    (case z6 => k_is)
    (case z7 => k_is)
    (case z8 => k_is)
    (case z9 => k_is)
    (case z10 => k_is)
    (case z11 => k_is)