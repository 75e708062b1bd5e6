import PyProof.Rows.All
import Wide.All
import OpenK.AllK
import Wide.FinOn
import PyProof.EqAt
import PyProof.EqKinds
import PyProof.TupleCall
import HandS.ForMost
import HandS.ForExc
import HandS.Star
import HandS.Style
import HandS.Strs
import HandS.ExcInit
import HandS.ExcIs
import HandS.ExcField
import HandS.ClsMeth
import KE.KExcIs
import HandS.Codes
import PyProof.StrOps2
import HandS.Text
import HandS.TupAny
import HandS.TupLe
import HandS.IsInst
import PyProof.StrLawsTight
import PySem.Challenge.RW_keyfocus_k02_key_sequences
set_option Elab.async false
set_option linter.all false
set_option maxRecDepth 100000
set_option maxHeartbeats 2000000
/-! A layer of our own over HandS: what an expression is worth in typed data, told of a part G of the heap that never changes; the heap H at hand has G and what the def at hand may still change. -/
namespace RL
open PySem PySem.Spec PyProof.Rows L2

/-! ### heaps -/
theorem same_upd {H : Hp} {p : Addr} {o : HO} (h : H p = none) : Same H (upd H p o) := fun b u e => by
  rw [upd_ne (ne_of_none e h)]
  exact e
theorem same_upd2 {G H : Hp} {p : Addr} {o : HO} (e : Same G H) (h : G p = none) : Same G (upd H p o) := fun b u q => by
  rw [upd_ne (ne_of_none q h)]
  exact e b u q
theorem same_updB {G H : Hp} {p : Addr} {o : HO} (e : Same G H) : Same (upd G p o) (upd H p o) := fun b u q => by
  by_cases hb : b = p
  · subst hb
    rw [upd_same] at q ⊢
    exact q
  · rw [upd_ne hb] at q ⊢
    exact e b u q
structure Grow (G H G' H' : Hp) : Prop where
  g : Same G G'
  s : Same G' H'
  h : Same H H'
  f : ∀ a o, H a = some o → G a = none → G' a = none
theorem Grow.refl {G H : Hp} (e : Same G H) : Grow G H G H := ⟨Same.refl _, e, Same.refl _, fun _ _ _ h => h⟩
theorem Grow.trans {G H G1 H1 G2 H2 : Hp} (a : Grow G H G1 H1) (b : Grow G1 H1 G2 H2) : Grow G H G2 H2 :=
  ⟨a.g.trans b.g, b.s, a.h.trans b.h, fun x o h n => b.f x o (a.h x o h) (a.f x o h n)⟩
theorem Grow.new {G H : Hp} (e : Same G H) {p : Addr} {o : HO} (hp : H p = none) : Grow G H (upd G p o) (upd H p o) :=
  ⟨same_upd (e.free hp), same_updB e, same_upd hp, fun a u ha hg => by
    rw [upd_ne (ne_of_none ha hp)]
    exact hg⟩
/-- an object that the entry does not know is changed -/
theorem Grow.mut {Ge He G H : Hp} (a : Grow Ge He G H) {p : Addr} {o : HO} (h0 : He p = none) (hg : G p = none) : Grow Ge He G (upd H p o) :=
  ⟨a.g, same_upd2 a.s hg, same_upd2 a.h h0, a.f⟩
/-- such an object is from now on one of those that never change -/
theorem Grow.fix {Ge He G H : Hp} (a : Grow Ge He G H) {p : Addr} {o : HO} (h0 : He p = none) (hg : G p = none) (hp : H p = some o) : Grow Ge He (upd G p o) H :=
  ⟨a.g.trans (same_upd hg), fun b u q => by
    by_cases hb : b = p
    · subst hb
      rw [upd_same] at q
      rw [hp]
      exact q
    · rw [upd_ne hb] at q
      exact a.s b u q, a.h, fun x u hx hn => by
    rw [upd_ne (ne_of_none hx h0)]
    exact a.f x u hx hn⟩
/-- a new object that may still change -/
theorem Grow.loose {Ge He G H : Hp} (a : Grow Ge He G H) {p : Addr} {o : HO} (hp : H p = none) : Grow Ge He G (upd H p o) :=
  ⟨a.g, a.s.trans (same_upd hp), a.h.trans (same_upd hp), a.f⟩
def jn (G1 G2 : Hp) : Hp := fun a => match G1 a with
  | some o => some o
  | none => G2 a
theorem jn_l (G1 G2 : Hp) : Same G1 (jn G1 G2) := fun b o e => by
  show (match G1 b with | some o => some o | none => G2 b) = some o
  rw [e]
theorem jn_r {G1 G2 H : Hp} (h1 : Same G1 H) (h2 : Same G2 H) : Same G2 (jn G1 G2) := fun b o e => by
  show (match G1 b with | some o => some o | none => G2 b) = some o
  cases q : G1 b with
  | none => exact e
  | some u =>
    have a := h1 b u q
    rw [h2 b o e] at a
    exact a.symm
theorem jn_s {G1 G2 H : Hp} (h1 : Same G1 H) (h2 : Same G2 H) : Same (jn G1 G2) H := fun b o e => by
  have e' : (match G1 b with | some o => some o | none => G2 b) = some o := e
  cases q : G1 b with
  | none =>
    rw [q] at e'
    exact h2 b o e'
  | some u =>
    rw [q] at e'
    rw [h1 b u q]
    exact e'
theorem jn_none {G1 G2 : Hp} {b : Addr} (h1 : G1 b = none) (h2 : G2 b = none) : jn G1 G2 b = none := by
  show (match G1 b with | some o => some o | none => G2 b) = none
  rw [h1]
  exact h2
theorem same_none {G G' : Hp} (e : Same G G') {b : Addr} (h : G' b = none) : G b = none := e.free h
theorem rd_mono {G G' : Hp} {a : Addr} {u : HO} (e : Same G G') (h : Rd G a u) : Rd G' a u := by
  rcases h with h | ⟨o, h⟩
  · exact Or.inl (e a _ h)
  · exact Or.inr ⟨o, e a _ h⟩
theorem sqT_mono {K : PySem.W.Frag} {G G' : Hp} {a : Addr} {xs : List V} (e : Same G G') (h : SqT K G a xs) : SqT K G' a xs := by
  rcases h with h | h
  · exact Or.inl (rd_mono e h)
  · exact Or.inr h
theorem sqL_mono {K : PySem.W.Frag} {G G' : Hp} {a : Addr} {xs : List V} (e : Same G G') (h : SqL K G a xs) : SqL K G' a xs := by
  rcases h with h | h
  · exact Or.inl (rd_mono e h)
  · exact Or.inr h

/-! ### typed data -/
class Rep (α : Type) where
  rep : PySem.W.Frag → α → V → Hp → Prop
  mono : ∀ {K : PySem.W.Frag} {x : α} {v : V} {G G' : Hp}, Same G G' → rep K x v G → rep K x v G'
open Rep (rep)
theorem up {α : Type} [Rep α] {K : PySem.W.Frag} {x : α} {v : V} {G G' : Hp} (e : Same G G') (h : rep K x v G) : rep K x v G' := Rep.mono e h
instance : Rep Int := ⟨fun _ x v _ => v = .int x, fun _ h => h⟩
instance : Rep Bool := ⟨fun _ x v _ => v = .bl x, fun _ h => h⟩
instance : Rep Str := ⟨fun _ x v _ => v = .str x, fun _ h => h⟩
instance : Rep Unit := ⟨fun _ _ v _ => v = .non, fun _ h => h⟩
def repO {α : Type} [Rep α] (K : PySem.W.Frag) (o : Option α) (v : V) (G : Hp) : Prop := match o with
  | none => v = .non
  | some x => rep K x v G
instance {α : Type} [Rep α] : Rep (Option α) := ⟨repO, fun {K x v G G'} e h => by
  cases x with
  | none => exact h
  | some y => exact up e (show rep K y v G from h)⟩
def repS {α β : Type} [Rep α] [Rep β] (K : PySem.W.Frag) (o : Sum α β) (v : V) (G : Hp) : Prop := match o with
  | .inl x => rep K x v G
  | .inr x => rep K x v G
instance {α β : Type} [Rep α] [Rep β] : Rep (Sum α β) := ⟨repS, fun {K x v G G'} e h => by
  cases x with
  | inl y => exact up e (show rep K y v G from h)
  | inr y => exact up e (show rep K y v G from h)⟩
abbrev Reps {α : Type} [Rep α] (K : PySem.W.Frag) (l : List α) (vs : List V) (G : Hp) : Prop := Paired (fun x v => rep K x v G) l vs
theorem Reps.up {α : Type} [Rep α] {K : PySem.W.Frag} {l : List α} {vs : List V} {G G' : Hp} (e : Same G G') (h : Reps K l vs G) : Reps K l vs G' := Paired.mapP h fun _ _ r => RL.up e r
instance {α : Type} [Rep α] : Rep (List α) := ⟨fun K l v G => ∃ a xs, v = .ref a ∧ G a = some (.lst xs) ∧ Reps K l xs G, fun e ⟨a, xs, h1, h2, h3⟩ => ⟨a, xs, h1, e _ _ h2, h3.up e⟩⟩
/-- the script -/
structure Scr where
  l : List Int
instance : Rep Scr := ⟨fun K s v G => ∃ a, v = .ref a ∧ SqL K G a (s.l.map V.int), fun e ⟨a, h1, h2⟩ => ⟨a, h1, sqL_mono e h2⟩⟩
/-- a tuple of things of one kind -/
structure Tpl (α : Type) where
  l : List α
instance {α : Type} [Rep α] : Rep (Tpl α) := ⟨fun K t v G => ∃ a xs, v = .ref a ∧ SqT K G a xs ∧ Reps K t.l xs G, fun e ⟨a, xs, h1, h2, h3⟩ => ⟨a, xs, h1, sqT_mono e h2, h3.up e⟩⟩
instance {α β : Type} [Rep α] [Rep β] : Rep (α × β) := ⟨fun K p v G => ∃ a x y, v = .ref a ∧ SqT K G a [x, y] ∧ rep K p.1 x G ∧ rep K p.2 y G, fun e ⟨a, x, y, h1, h2, h3, h4⟩ => ⟨a, x, y, h1, sqT_mono e h2, up e h3, up e h4⟩⟩
structure T3 (α β γ : Type) where
  a : α
  b : β
  c : γ
instance {α β γ : Type} [Rep α] [Rep β] [Rep γ] : Rep (T3 α β γ) := ⟨fun K p v G => ∃ a x y z, v = .ref a ∧ SqT K G a [x, y, z] ∧ rep K p.a x G ∧ rep K p.b y G ∧ rep K p.c z G,
  fun e ⟨a, x, y, z, h1, h2, h3, h4, h5⟩ => ⟨a, x, y, z, h1, sqT_mono e h2, up e h3, up e h4, up e h5⟩⟩

/-- kinds whose things are told by their value alone -/
class Flat (α : Type) [Rep α] [DecidableEq α] where
  toV : α → V
  eq : ∀ {K : PySem.W.Frag} {x : α} {v : V} {G : Hp}, rep K x v G ↔ v = toV x
  flat : ∀ x : α, flatV (toV x) = true
  eqv : ∀ x y : α, eqV (toV x) (toV y) = decide (x = y)
  sc : ∀ x y : α, scal (toV x) (toV y) = true
  inj : ∀ x y : α, decide (toV x = toV y) = decide (x = y)
theorem inj_dec {α : Type} [DecidableEq α] {x y : α} {a b : V} (h : a = b ↔ x = y) : decide (a = b) = decide (x = y) := decide_eq_decide.mpr h
instance : Flat Int := ⟨V.int, Iff.rfl, fun _ => rfl, fun x y => by show (x == y) = _; exact Bool.beq_eq_decide_eq x y, fun _ _ => rfl, fun x y => inj_dec ⟨V.int.inj, congrArg _⟩⟩
instance : Flat Bool := ⟨V.bl, Iff.rfl, fun _ => rfl, fun x y => by show (x == y) = _; exact Bool.beq_eq_decide_eq x y, fun _ _ => rfl, fun x y => inj_dec ⟨V.bl.inj, congrArg _⟩⟩
instance : Flat Str := ⟨V.str, Iff.rfl, fun _ => rfl, fun x y => by show (x == y) = _; first | exact Bool.beq_eq_decide_eq x y | exact beq_eq_decide x y, fun _ _ => rfl, fun x y => inj_dec ⟨V.str.inj, congrArg _⟩⟩
def toVO : Option Str → V
  | none => .non
  | some x => .str x
instance : Flat (Option Str) := ⟨toVO, fun {K x v G} => by cases x <;> exact Iff.rfl, fun x => by cases x <;> rfl, fun x y => by
    cases x with
    | none =>
      cases y with
      | none => rfl
      | some y => exact (decide_eq_false (fun h => by cases h)).symm
    | some x =>
      cases y with
      | none => exact (decide_eq_false (fun h => by cases h)).symm
      | some y =>
        show eqV (.str x) (.str y) = _
        rw [show eqV (.str x) (.str y) = decide (x = y) from Flat.eqv x y]
        exact decide_eq_decide.mpr ⟨fun h => by rw [h], fun h => Option.some.inj h⟩, fun x y => by cases x <;> cases y <;> rfl, fun x y => inj_dec ⟨fun h => by
    cases x with
    | none =>
      cases y with
      | none => rfl
      | some y => cases h
    | some x =>
      cases y with
      | none => cases h
      | some y => exact congrArg some (V.str.inj h), fun h => by rw [h]⟩⟩
theorem reps_flat {α : Type} [Rep α] [DecidableEq α] [Flat α] {K : PySem.W.Frag} {G : Hp} : ∀ {l : List α} {vs : List V}, Reps K l vs G → vs = l.map Flat.toV
  | _, _, .nil => rfl
  | x :: l, v :: vs, .cons r t => by
    rw [List.map_cons, ← reps_flat t, (Flat.eq (x := x)).mp r]
theorem reps_of_flat {α : Type} [Rep α] [DecidableEq α] [Flat α] {K : PySem.W.Frag} {G : Hp} : ∀ (l : List α), Reps K l (l.map Flat.toV) G
  | [] => .nil
  | x :: l => .cons (Flat.eq.mpr rfl) (reps_of_flat l)
theorem paired_len {α β : Type} {F : α → β → Prop} : ∀ {l : List α} {m : List β}, Paired F l m → l.length = m.length
  | _, _, .nil => rfl
  | _, _, .cons _ t => congrArg (· + 1) (paired_len t)
theorem paired_get {α β : Type} {F : α → β → Prop} : ∀ {l : List α} {m : List β} {i : Nat} {b : β}, Paired F l m → m[i]? = some b → ∃ a, l[i]? = some a ∧ F a b
  | _, _, i, b, .nil, h => by simp at h
  | x :: l, y :: m, 0, b, .cons r t, h => ⟨x, rfl, by simp at h; rw [← h]; exact r⟩
  | x :: l, y :: m, i + 1, b, .cons r t, h => by
    have h' : m[i]? = some b := by simpa using h
    obtain ⟨a, e, f⟩ := paired_get t h'
    exact ⟨a, by simpa using e, f⟩
theorem paired_get' {α β : Type} {F : α → β → Prop} : ∀ {l : List α} {m : List β} {i : Nat} {a : α}, Paired F l m → l[i]? = some a → ∃ b, m[i]? = some b ∧ F a b
  | _, _, i, b, .nil, h => by simp at h
  | x :: l, y :: m, 0, b, .cons r t, h => ⟨y, rfl, by simp at h; rw [← h]; exact r⟩
  | x :: l, y :: m, i + 1, b, .cons r t, h => by
    have h' : l[i]? = some b := by simpa using h
    obtain ⟨a, e, f⟩ := paired_get' t h'
    exact ⟨a, by simpa using e, f⟩
theorem paired_append {α β : Type} {F : α → β → Prop} : ∀ {l l' : List α} {m m' : List β}, Paired F l m → Paired F l' m' → Paired F (l ++ l') (m ++ m')
  | _, _, _, _, .nil, s => s
  | _, _, _, _, .cons r t, s => .cons r (paired_append t s)
theorem paired_take {α β : Type} {F : α → β → Prop} : ∀ {l : List α} {m : List β} (n : Nat), Paired F l m → Paired F (l.take n) (m.take n)
  | _, _, 0, _ => .nil
  | _, _, _ + 1, .nil => .nil
  | _, _, n + 1, .cons r t => .cons r (paired_take n t)
theorem paired_drop {α β : Type} {F : α → β → Prop} : ∀ {l : List α} {m : List β} (n : Nat), Paired F l m → Paired F (l.drop n) (m.drop n)
  | _, _, 0, r => r
  | _, _, _ + 1, .nil => .nil
  | _, _, n + 1, .cons _ t => paired_drop n t
theorem paired_rev {α β : Type} {F : α → β → Prop} : ∀ {l : List α} {m : List β}, Paired F l m → Paired F l.reverse m.reverse
  | _, _, .nil => .nil
  | x :: l, y :: m, .cons r t => by
    rw [List.reverse_cons, List.reverse_cons]
    exact paired_append (paired_rev t) (.cons r .nil)
theorem atI_pair {α β : Type} {F : α → β → Prop} {l : List α} {m : List β} {i : Int} {a : α} (p : Paired F l m) (h : atI l i = some a) : ∃ b, atI m i = some b ∧ F a b := by
  unfold atI at h ⊢
  rw [← paired_len p]
  cases e : ixN l.length i with
  | none => rw [e] at h; cases h
  | some j =>
    rw [e] at h
    exact paired_get' p h

/-- the two questions, by one word each -/
def eqB {α : Type} [DecidableEq α] (x y : α) : Bool := decide (x = y)
def memB {α : Type} [DecidableEq α] (x : α) (l : List α) : Bool := decide (x ∈ l)
/-! ### what an expression is worth -/
abbrev RP := V → Hp → Prop
def EvG (te : TE) (σ : L2.St) (G : Hp) (P : RP) : Prop := ∀ H, Same G H → ∀ Q : VK, (∀ v G' H', Grow G H G' H' → P v G' → Q v H') → te σ H Q
def EvR {α : Type} [Rep α] (K : PySem.W.Frag) (te : TE) (σ : L2.St) (G : Hp) (x : α) : Prop := EvG te σ G (rep K x)
def EvB (tt : TT) (σ : L2.St) (G : Hp) (b : Bool) : Prop := ∀ H, Same G H → ∀ Q : Bool → Hp → Prop, (∀ G' H', Grow G H G' H' → Q b H') → tt σ H Q
/-- arguments, items: told one by one -/
def EvA {α : Type} [Rep α] (K : PySem.W.Frag) (ta : TA) (σ : L2.St) (G : Hp) (l : List α) : Prop := ∀ H, Same G H → ∀ Q : List V → Hp → Prop, (∀ vs G' H', Grow G H G' H' → Reps K l vs G' → Q vs H') → ta σ H Q
/-- nothing is made: the heap stands -/
theorem grow_up {G G' H G2 H2 : Hp} (a : Grow G H G2 H2) (e : Same G G') (s : Same G' H) : Grow G' H (jn G2 G') H2 := by
  have s2 : Same G' H2 := s.trans a.h
  exact ⟨jn_r a.s s2, jn_s a.s s2, a.h, fun b o hb hn => jn_none (a.f b o hb (e.free hn)) hn⟩
section
variable {α β γ : Type} [Rep α] [Rep β] [Rep γ] {K : PySem.W.Frag} {σ : L2.St} {G G' : Hp} {te ta tb tc : TE} {tt tu : TT} {x : α} {y : β} {z : γ} {b c : Bool} {i : Nat} {v : V} {ts tr : TA}
theorem EvR.mono (h : EvR K te σ G x) (e : Same G G') : EvR K te σ G' x := fun H s Q q => h H (e.trans s) Q fun v G2 H2 gr r => q v _ H2 (grow_up gr e s) (up (jn_l G2 G') r)
theorem EvB.mono (h : EvB tt σ G b) (e : Same G G') : EvB tt σ G' b := fun H s Q q => h H (e.trans s) Q fun G2 H2 gr => q _ H2 (grow_up gr e s)
theorem EvA.mono {l : List α} (h : EvA K ts σ G l) (e : Same G G') : EvA K ts σ G' l := fun H s Q q => h H (e.trans s) Q fun v G2 H2 gr r => q v _ H2 (grow_up gr e s) (r.up (jn_l G2 G'))
theorem EvR.to {x' : α} (h : EvR K te σ G x) (e : x = x') : EvR K te σ G x' := e ▸ h
theorem EvB.to (h : EvB tt σ G b) (e : b = c) : EvB tt σ G c := e ▸ h
theorem ev_var (h : σ[i]? = some (some v)) (r : rep K x v G) : EvR K (tVar i) σ G x := fun H e Q q => ⟨v, h, q v G H (Grow.refl e) r⟩
theorem ev_c (r : rep K x v G) : EvR K (tC v) σ G x := fun H e Q q => q v G H (Grow.refl e) r
theorem ev_int {n : Int} : EvR K (tC (.int n)) σ G n := ev_c rfl
theorem ev_str {n : Str} : EvR K (tC (.str n)) σ G n := ev_c rfl
theorem ev_bl {n : Bool} : EvR K (tC (.bl n)) σ G n := ev_c rfl
theorem ev_non : EvR K (tC .non) σ G (none : Option α) := ev_c (show repO K (none : Option α) V.non G from rfl)
theorem ev_some (h : EvR K te σ G x) : EvR K te σ G (some x) := h
/-- two operands -/
theorem ev_op {r : R2} (ha : EvR K ta σ G x) (hb : EvR K tb σ G y)
    (hr : ∀ v w G1 H1, Same G G1 → Same G1 H1 → rep K x v G1 → rep K y w G1 → ∀ Q : VK, (∀ u G2 H2, Grow G1 H1 G2 H2 → rep K z u G2 → Q u H2) → r v w H1 Q) : EvR K (tOp r ta tb) σ G z := fun H e Q q =>
  ha H e _ fun v G1 H1 g1 r1 => hb.mono g1.g H1 g1.s _ fun w G2 H2 g2 r2 => hr v w G2 H2 (g1.g.trans g2.g) g2.s (up g2.g r1) r2 Q fun u G3 H3 g3 r3 => q u G3 H3 ((g1.trans g2).trans g3) r3
theorem ev_I0 {g : Int → Int → Int} {m n : Int} (ha : EvR K ta σ G m) (hb : EvR K tb σ G n) : EvR K (tOp (rI0 fun i j => .int (g i j)) ta tb) σ G (g m n) :=
  ev_op ha hb fun v w G1 H1 _ s hv hw Q q => ⟨m, n, hv, hw, q _ G1 H1 (Grow.refl s) rfl⟩
theorem ev_B0 {g : Int → Int → Bool} {m n : Int} (ha : EvR K ta σ G m) (hb : EvR K tb σ G n) : EvR K (tOp (rI0 fun i j => .bl (g i j)) ta tb) σ G (g m n) :=
  ev_op ha hb fun v w G1 H1 _ s hv hw Q q => ⟨m, n, hv, hw, q _ G1 H1 (Grow.refl s) rfl⟩
theorem ev_I {C : Int → Int → Prop} {g : Int → Int → Int} {m n : Int} (ha : EvR K ta σ G m) (hb : EvR K tb σ G n) (hc : C m n) : EvR K (tOp (rI C fun i j => .int (g i j)) ta tb) σ G (g m n) :=
  ev_op ha hb fun v w G1 H1 _ s hv hw Q q => ⟨m, n, hv, hw, hc, q _ G1 H1 (Grow.refl s) rfl⟩
theorem ev_add {m n : Int} (ha : EvR K ta σ G m) (hb : EvR K tb σ G n) : EvR K (tOp (rI0 fun i j => .int (i + j)) ta tb) σ G (m + n) := ev_I0 (g := fun i j => i + j) ha hb
theorem ev_sub {m n : Int} (ha : EvR K ta σ G m) (hb : EvR K tb σ G n) : EvR K (tOp (rI0 fun i j => .int (i - j)) ta tb) σ G (m - n) := ev_I0 (g := fun i j => i - j) ha hb
theorem ev_mul {m n : Int} (ha : EvR K ta σ G m) (hb : EvR K tb σ G n) (hc : CMul m n) : EvR K (tOp (rI CMul fun i j => .int (i * j)) ta tb) σ G (m * n) := ev_I (g := fun i j => i * j) ha hb hc
theorem ev_mod {m n : Int} (ha : EvR K ta σ G m) (hb : EvR K tb σ G n) (hc : 0 < n) : EvR K (tOp (rI (fun _ j => 0 < j) fun i j => .int (i % j)) ta tb) σ G (m % n) := ev_I (g := fun i j => i % j) (C := fun _ j => 0 < j) ha hb hc
theorem ev_fdiv {m n : Int} (ha : EvR K ta σ G m) (hb : EvR K tb σ G n) (hc : CDiv m n) : EvR K (tOp (rI CDiv fun i j => .int (i / j)) ta tb) σ G (m / n) := ev_I (g := fun i j => i / j) ha hb hc
theorem ev_pow {m n : Int} (ha : EvR K ta σ G m) (hb : EvR K tb σ G n) (hc : CPow m n) : EvR K (tOp (rI CPow fun i j => .int (i ^ j.toNat)) ta tb) σ G (m ^ n.toNat) := ev_I (g := fun i j => i ^ j.toNat) ha hb hc
theorem ev_lt {m n : Int} (ha : EvR K ta σ G m) (hb : EvR K tb σ G n) : EvR K (tOp (rI0 fun i j => .bl (decide (i < j))) ta tb) σ G (decide (m < n)) := ev_B0 (g := fun i j => decide (i < j)) ha hb
theorem ev_le {m n : Int} (ha : EvR K ta σ G m) (hb : EvR K tb σ G n) : EvR K (tOp (rI0 fun i j => .bl (decide (i ≤ j))) ta tb) σ G (decide (m ≤ n)) := ev_B0 (g := fun i j => decide (i ≤ j)) ha hb
theorem ev_gt {m n : Int} (ha : EvR K ta σ G m) (hb : EvR K tb σ G n) : EvR K (tOp (rI0 fun i j => .bl (decide (j < i))) ta tb) σ G (decide (n < m)) := ev_B0 (g := fun i j => decide (j < i)) ha hb
theorem ev_ge {m n : Int} (ha : EvR K ta σ G m) (hb : EvR K tb σ G n) : EvR K (tOp (rI0 fun i j => .bl (decide (j ≤ i))) ta tb) σ G (decide (n ≤ m)) := ev_B0 (g := fun i j => decide (j ≤ i)) ha hb
theorem ev_neg {m : Int} (ha : EvR K ta σ G m) : EvR K (tUn (rU fun i => .int (-i)) ta) σ G (-m) := fun H e Q q => ha H e _ fun v G1 H1 g1 r1 => ⟨m, r1, q _ G1 H1 g1 rfl⟩
/-- == != of things told by their value -/
theorem ev_eq {δ : Type} [Rep δ] [DecidableEq δ] [Flat δ] {m n : δ} (ha : EvR K ta σ G m) (hb : EvR K tb σ G n) : EvR K (tOp rEq ta tb) σ G (eqB m n) :=
  ev_op ha hb fun v w G1 H1 _ s hv hw Q q => by
    rw [Flat.eq.mp hv, Flat.eq.mp hw]
    refine ⟨Flat.sc m n, q _ G1 H1 (Grow.refl s) ?_⟩
    rw [Flat.inj m n]
    rfl
theorem ev_ne {δ : Type} [Rep δ] [DecidableEq δ] [Flat δ] {m n : δ} (ha : EvR K ta σ G m) (hb : EvR K tb σ G n) : EvR K (tOp rNe ta tb) σ G (!eqB m n) :=
  ev_op ha hb fun v w G1 H1 _ s hv hw Q q => by
    rw [Flat.eq.mp hv, Flat.eq.mp hw]
    refine ⟨Flat.sc m n, q _ G1 H1 (Grow.refl s) ?_⟩
    rw [Flat.inj m n]
    rfl
theorem ev_isN {o : Option α} (hn : ∀ v G, (∃ x : α, rep K x v G) → v ≠ .non) (ha : EvR K ta σ G o) : EvR K (tOp (fun x y H Q => y = .non ∧ Q (.bl (decide (x = .non))) H) ta (tC .non)) σ G o.isNone := fun H e Q q =>
  ha H e _ fun v G1 H1 g1 r1 => ⟨rfl, q _ G1 H1 g1 (by
    cases o with
    | none =>
      have e : v = V.non := r1
      rw [e]
      rfl
    | some x => exact congrArg V.bl (decide_eq_false (hn v G1 ⟨x, r1⟩)))⟩
theorem ev_notN {o : Option α} (hn : ∀ v G, (∃ x : α, rep K x v G) → v ≠ .non) (ha : EvR K ta σ G o) : EvR K (tOp (fun x y H Q => y = .non ∧ Q (.bl (!decide (x = .non))) H) ta (tC .non)) σ G o.isSome := fun H e Q q =>
  ha H e _ fun v G1 H1 g1 r1 => ⟨rfl, q _ G1 H1 g1 (by
    cases o with
    | none =>
      have e : v = V.non := r1
      rw [e]
      rfl
    | some x => exact congrArg V.bl (by rw [decide_eq_false (hn v G1 ⟨x, r1⟩)]; rfl))⟩
theorem nn_str {K : PySem.W.Frag} : ∀ (v : V) (G : Hp), (∃ x : Str, rep K x v G) → v ≠ .non := fun v G ⟨x, h⟩ => by rw [show v = V.str x from h]; intro z; cases z
theorem nn_int {K : PySem.W.Frag} : ∀ (v : V) (G : Hp), (∃ x : Int, rep K x v G) → v ≠ .non := fun v G ⟨x, h⟩ => by rw [show v = V.int x from h]; intro z; cases z
theorem nn_pair {K : PySem.W.Frag} : ∀ (v : V) (G : Hp), (∃ x : α × β, rep K x v G) → v ≠ .non := fun v G ⟨x, a, y, w, h, _⟩ => by rw [h]; intro z; cases z
/-- texts -/
theorem ev_addS {m n : Str} (ha : EvR K ta σ G m) (hb : EvR K tb σ G n) (hl : m.length + n.length ≤ sizeLine) :
    EvR K (tOp (fun x y H Q => ∃ i j, x = .str i ∧ y = .str j ∧ i.length + j.length ≤ sizeLine ∧ Q (.str (i ++ j)) H) ta tb) σ G (m ++ n) :=
  ev_op ha hb fun v w G1 H1 _ s hv hw Q q => ⟨m, n, hv, hw, hl, q _ G1 H1 (Grow.refl s) rfl⟩
theorem ev_leS {m n : Str} (ha : EvR K ta σ G m) (hb : EvR K tb σ G n) :
    EvR K (tOp (fun x y H Q => ∃ i j, x = .str i ∧ y = .str j ∧ Q (.bl (!decide (j.cps.toList < i.cps.toList))) H) ta tb) σ G (!decide (n.cps.toList < m.cps.toList)) :=
  ev_op ha hb fun v w G1 H1 _ s hv hw Q q => ⟨m, n, hv, hw, q _ G1 H1 (Grow.refl s) rfl⟩
/-- a <= b <= c -/
theorem ev_chain {r r' : R2} {u : Bool} (ha : EvR K ta σ G x) (hb : EvR K tb σ G y) (hr : ∀ v w G1 H1, Same G G1 → Same G1 H1 → rep K x v G1 → rep K y w G1 → ∀ Q : VK, (∀ G2 H2, Grow G1 H1 G2 H2 → Q (.bl b) H2) → r v w H1 Q)
    (hc : b = true → EvR K tc σ G z) (hr2 : ∀ v w G1 H1, Same G G1 → Same G1 H1 → rep K y v G1 → rep K z w G1 → ∀ Q : VK, (∀ G2 H2, Grow G1 H1 G2 H2 → Q (.bl u) H2) → r' v w H1 Q) : EvR K (tChain r r' ta tb tc) σ G (b && u) := fun H e Q q =>
  ha H e _ fun v G1 H1 g1 r1 => hb.mono g1.g H1 g1.s _ fun w G2 H2 g2 r2 => hr v w G2 H2 (g1.g.trans g2.g) g2.s (up g2.g r1) r2 _ fun G3 H3 g3 => ⟨b, rfl, by
    cases b with
    | true =>
      refine iteT ?_
      have g := (g1.trans g2).trans g3
      refine (hc rfl).mono g.g H3 g.s _ fun w' G4 H4 g4 r4 => ?_
      exact hr2 w w' G4 H4 (g.g.trans g4.g) g4.s (up (g3.g.trans g4.g) r2) r4 Q fun G5 H5 g5 => q _ G5 H5 ((g.trans g4).trans g5) rfl
    | false =>
      refine iteF ?_
      exact q _ G3 H3 ((g1.trans g2).trans g3) rfl⟩
/-- tests -/
theorem et_test (h : EvR K te σ G b) : EvB (tTest te) σ G b := fun H e Q q => h H e _ fun v G1 H1 g1 r1 => ⟨b, r1, q G1 H1 g1⟩
theorem et_B (h : EvR K te σ G b) : EvB (tB te) σ G b := fun H e Q q => h H e _ fun v G1 H1 g1 r1 => ⟨b, r1, q G1 H1 g1⟩
theorem et_and (h1 : EvB tt σ G b) (h2 : b = true → EvB tu σ G c) : EvB (tAnd tt tu) σ G (b && c) := fun H e Q q => h1 H e _ fun G1 H1 g1 => by
  cases b with
  | true => exact iteT ((h2 rfl).mono g1.g H1 g1.s Q fun G2 H2 g2 => q G2 H2 (g1.trans g2))
  | false => exact iteF (q G1 H1 g1)
theorem et_or (h1 : EvB tt σ G b) (h2 : b = false → EvB tu σ G c) : EvB (tOr tt tu) σ G (b || c) := fun H e Q q => h1 H e _ fun G1 H1 g1 => by
  cases b with
  | true => exact iteT (q G1 H1 g1)
  | false => exact iteF ((h2 rfl).mono g1.g H1 g1.s Q fun G2 H2 g2 => q G2 H2 (g1.trans g2))
theorem et_not (h : EvB tt σ G b) : EvB (tNot tt) σ G (!b) := fun H e Q q => h H e _ q
theorem ev_andV (h1 : EvR K ta σ G b) (h2 : b = true → EvR K tb σ G c) : EvR K (tAndV ta tb) σ G (b && c) := fun H e Q q => h1 H e _ fun v G1 H1 g1 r1 => ⟨b, r1, by
  cases b with
  | true => exact iteT ((h2 rfl).mono g1.g H1 g1.s Q fun v G2 H2 g2 r2 => q v G2 H2 (g1.trans g2) r2)
  | false => exact iteF (q _ G1 H1 g1 rfl)⟩
theorem ev_orV (h1 : EvR K ta σ G b) (h2 : b = false → EvR K tb σ G c) : EvR K (tOrV ta tb) σ G (b || c) := fun H e Q q => h1 H e _ fun v G1 H1 g1 r1 => ⟨b, r1, by
  cases b with
  | true => exact iteT (q _ G1 H1 g1 rfl)
  | false => exact iteF ((h2 rfl).mono g1.g H1 g1.s Q fun v G2 H2 g2 r2 => q v G2 H2 (g1.trans g2) r2)⟩
theorem ev_notV (h1 : EvR K ta σ G b) : EvR K (tNotV ta) σ G (!b) := fun H e Q q => h1 H e _ fun v G1 H1 g1 r1 => ⟨b, r1, q _ G1 H1 g1 rfl⟩
theorem ev_if (h : EvB tt σ G b) {x' : α} (h1 : b = true → EvR K ta σ G x) (h2 : b = false → EvR K tb σ G x') : EvR K (tIf tt ta tb) σ G (cond b x x') := fun H e Q q => h H e _ fun G1 H1 g1 => by
  cases b with
  | true => exact iteT ((h1 rfl).mono g1.g H1 g1.s Q fun v G2 H2 g2 r2 => q v G2 H2 (g1.trans g2) r2)
  | false => exact iteF ((h2 rfl).mono g1.g H1 g1.s Q fun v G2 H2 g2 r2 => q v G2 H2 (g1.trans g2) r2)
/-- arguments -/
theorem ea_nil : EvA K tNil σ G ([] : List α) := fun H e Q q => q [] G H (Grow.refl e) .nil
theorem ea_cons {l : List α} (h : EvR K te σ G x) (hr : EvA K tr σ G l) : EvA K (tCons te tr) σ G (x :: l) := fun H e Q q =>
  h H e _ fun v G1 H1 g1 r1 => hr.mono g1.g H1 g1.s _ fun vs G2 H2 g2 r2 => q (v :: vs) G2 H2 (g1.trans g2) (.cons (up g2.g r1) r2)
theorem ea_star {l m : List α} (h : EvR K te σ G l) (hr : EvA K tr σ G m) : EvA K (StX.tStar K te tr) σ G (l ++ m) := fun H e Q q =>
  h H e _ fun v G1 H1 g1 ⟨a, xs, ev, ha, r1⟩ => ⟨a, xs, ev, .inr (SqL.of (g1.s _ _ ha)), hr.mono g1.g H1 g1.s _ fun vs G2 H2 g2 r2 => q (xs ++ vs) G2 H2 (g1.trans g2) (paired_append (r1.up g2.g) r2)⟩
theorem ev_lst {l : List α} (h : EvA K ts σ G l) (hl : l.length ≤ sizeLine) : EvR K (tLst ts) σ G l := fun H e Q q =>
  h H e _ fun vs G1 H1 g1 r1 => ⟨by rw [← paired_len r1]; exact hl, fun p hp => q _ _ _ (g1.trans (Grow.new g1.s hp)) ⟨p, vs, rfl, upd_same, r1.up (same_upd (g1.s.free hp))⟩⟩
theorem ev_tpl {l : List α} (h : EvA K ts σ G l) (hl : l.length ≤ sizeLine) : EvR K (tTup ts) σ G (Tpl.mk l) := fun H e Q q =>
  h H e _ fun vs G1 H1 g1 r1 => ⟨by rw [← paired_len r1]; exact hl, fun p hp => q _ _ _ (g1.trans (Grow.new g1.s hp)) ⟨p, vs, rfl, SqT.of upd_same, r1.up (same_upd (g1.s.free hp))⟩⟩
theorem ev_tup2 (ha : EvR K ta σ G x) (hb : EvR K tb σ G y) : EvR K (tTup (tCons ta (tCons tb tNil))) σ G (x, y) := fun H e Q q =>
  ha H e _ fun v G1 H1 g1 r1 => hb.mono g1.g H1 g1.s _ fun w G2 H2 g2 r2 => ⟨by show 2 ≤ sizeLine; decide, fun p hp => q _ _ _ ((g1.trans g2).trans (Grow.new g2.s hp))
    ⟨p, v, w, rfl, SqT.of upd_same, up (g2.g.trans (same_upd (g2.s.free hp))) r1, up (same_upd (g2.s.free hp)) r2⟩⟩
/-- items, slices -/
theorem ev_ixL {l : List α} {n : Int} (ha : EvR K ta σ G l) (hb : EvR K tb σ G n) (h : atI l n = some x) : EvR K (tOp (rIxL K) ta tb) σ G x :=
  ev_op ha hb fun v w G1 H1 _ s ⟨a, xs, ev, hA, r⟩ hw Q q => by
    obtain ⟨u, h1, h2⟩ := atI_pair r h
    exact ⟨a, xs, n, u, ev, hw, SqL.of (s _ _ hA), h1, q u G1 H1 (Grow.refl s) h2⟩
theorem ev_ixT {l : Tpl α} {n : Int} (ha : EvR K ta σ G l) (hb : EvR K tb σ G n) (h : atI l.l n = some x) : EvR K (tOp (rIxT K) ta tb) σ G x :=
  ev_op ha hb fun v w G1 H1 _ s ⟨a, xs, ev, hA, r⟩ hw Q q => by
    obtain ⟨u, h1, h2⟩ := atI_pair r h
    exact ⟨a, xs, n, u, ev, hw, sqT_mono s hA, h1, q u G1 H1 (Grow.refl s) h2⟩
theorem ev_ix20 {p : α × β} (ha : EvR K ta σ G p) : EvR K (tOp (rIxT K) ta (tC (.int 0))) σ G p.1 :=
  ev_op (y := (0 : Int)) ha ev_int fun v w G1 H1 _ s ⟨a, x, y, ev, hA, r1, r2⟩ hw Q q => ⟨a, [x, y], 0, x, ev, hw, sqT_mono s hA, rfl, q x G1 H1 (Grow.refl s) r1⟩
theorem ev_ix21 {p : α × β} (ha : EvR K ta σ G p) : EvR K (tOp (rIxT K) ta (tC (.int 1))) σ G p.2 :=
  ev_op (y := (1 : Int)) ha ev_int fun v w G1 H1 _ s ⟨a, x, y, ev, hA, r1, r2⟩ hw Q q => ⟨a, [x, y], 1, y, ev, hw, sqT_mono s hA, rfl, q y G1 H1 (Grow.refl s) r2⟩
theorem ev_ixS {z : Str} {n : Int} {c : Nat} (ha : EvR K ta σ G z) (hb : EvR K tb σ G n) (hl : z.length ≤ sizeLine) (h : atI z.cps.toList n = some c) : EvR K (tOp rIxS ta tb) σ G (Str.mk #[c]) :=
  ev_op ha hb fun v w G1 H1 _ s hv hw Q q => ⟨z, n, c, hv, hw, hl, h, q _ G1 H1 (Grow.refl s) rfl⟩
theorem ev_ixScr {z : Scr} {n m : Int} (ha : EvR K ta σ G z) (hb : EvR K tb σ G n) (h : atI z.l n = some m) : EvR K (tOp (rIxL K) ta tb) σ G m :=
  ev_op ha hb fun v w G1 H1 _ s ⟨a, ev, hA⟩ hw Q q => by
    have h2 : atI (z.l.map V.int) n = some (V.int m) := by
      unfold atI at h ⊢
      rw [List.length_map]
      cases e : ixN z.l.length n with
      | none => rw [e] at h; cases h
      | some j =>
        rw [e] at h
        show (z.l.map V.int)[j]? = some (V.int m)
        rw [List.getElem?_map, show z.l[j]? = some m from h]
        rfl
    exact ⟨a, _, n, _, ev, hw, sqL_mono s hA, h2, q _ G1 H1 (Grow.refl s) rfl⟩
def cutL {δ : Type} (xs : List δ) (lo hi : Option Int) : List δ := (xs.drop (HT.sIx xs.length 0 lo)).take (HT.sIx xs.length xs.length hi - HT.sIx xs.length 0 lo)
theorem cut_pair {δ ε : Type} {F : δ → ε → Prop} {l : List δ} {m : List ε} (lo hi : Option Int) (p : Paired F l m) : Paired F (cutL l lo hi) (cutL m lo hi) := by
  unfold cutL
  rw [← paired_len p]
  exact paired_take _ (paired_drop _ p)
def EvO (K : PySem.W.Frag) (to : TO) (σ : L2.St) (G : Hp) (o : Option Int) : Prop := ∀ H, Same G H → ∀ Q : Option Int → Hp → Prop, (∀ G' H', Grow G H G' H' → Q o H') → to σ H Q
theorem eo_none : EvO K tNoPart σ G none := fun H e Q q => q G H (Grow.refl e)
theorem eo_some {n : Int} (h : EvR K te σ G n) : EvO K (tPart te) σ G (some n) := fun H e Q q => h H e _ fun v G1 H1 g1 r1 => ⟨n, r1, q G1 H1 g1⟩
theorem EvO.mono {to : TO} {o : Option Int} (h : EvO K to σ G o) (e : Same G G') : EvO K to σ G' o := fun H s Q q => h H (e.trans s) Q fun G2 H2 gr => q _ H2 (grow_up gr e s)
theorem ev_slL {l : List α} {tl th : TO} {lo hi : Option Int} (ha : EvR K ta σ G l) (hl : EvO K tl σ G lo) (hh : EvO K th σ G hi) : EvR K (tSl (rSlL K) ta tl th) σ G (cutL l lo hi) := fun H e Q q =>
  ha H e _ fun v G1 H1 g1 r1 => hl.mono g1.g H1 g1.s _ fun G2 H2 g2 => hh.mono (g1.g.trans g2.g) H2 g2.s _ fun G3 H3 g3 => by
    obtain ⟨a, xs, ev, hA, r⟩ := up (g2.g.trans g3.g) r1
    exact ⟨a, xs, ev, SqL.of (g3.s _ _ hA), fun p hp => q _ _ _ (((g1.trans g2).trans g3).trans (Grow.new g3.s hp)) ⟨p, cutL xs lo hi, rfl, upd_same, Reps.up (same_upd (g3.s.free hp)) (cut_pair lo hi r)⟩⟩
theorem ev_slS {l : Str} {tl th : TO} {lo hi : Option Int} (ha : EvR K ta σ G l) (hl : EvO K tl σ G lo) (hh : EvO K th σ G hi) (hz : l.length ≤ sizeLine) : EvR K (tSl rSlS ta tl th) σ G (cutS l lo hi) := fun H e Q q =>
  ha H e _ fun v G1 H1 g1 r1 => hl.mono g1.g H1 g1.s _ fun G2 H2 g2 => hh.mono (g1.g.trans g2.g) H2 g2.s _ fun G3 H3 g3 => ⟨l, r1, hz, q _ G3 H3 ((g1.trans g2).trans g3) rfl⟩
theorem ev_revL {l : List α} (ha : EvR K ta σ G l) : EvR K (L2.tRevL K ta) σ G l.reverse := fun H e Q q =>
  ha H e _ fun v G1 H1 g1 ⟨a, xs, ev, hA, r⟩ => ⟨a, xs, ev, SqL.of (g1.s _ _ hA), fun p hp => q _ _ _ (g1.trans (Grow.new g1.s hp)) ⟨p, xs.reverse, rfl, upd_same, Reps.up (same_upd (g1.s.free hp)) (paired_rev r)⟩⟩
theorem ev_cat {l m : List α} (ha : EvR K ta σ G l) (hb : EvR K tb σ G m) (hl : l.length + m.length ≤ sizeLine) : EvR K (tOp rCat ta tb) σ G (l ++ m) :=
  ev_op ha hb fun v w G1 H1 _ s ⟨a, xs, ev, hA, r⟩ ⟨b, ys, ew, hB, r'⟩ Q q => ⟨a, b, xs, ys, ev, ew, s _ _ hA, s _ _ hB, by rw [← paired_len r, ← paired_len r']; exact hl, fun p hp =>
    q _ _ _ (Grow.new s hp) ⟨p, xs ++ ys, rfl, upd_same, paired_append (r.up (same_upd (s.free hp))) (r'.up (same_upd (s.free hp)))⟩⟩
/-- in -/
theorem inV_flat {δ : Type} [Rep δ] [DecidableEq δ] [Flat δ] {x : δ} : ∀ {l : List δ}, inV (Flat.toV x) (l.map Flat.toV) = decide (x ∈ l)
  | [] => by simp [inV]
  | y :: l => by
    have ih := inV_flat (x := x) (l := l)
    unfold inV at ih ⊢
    rw [List.map_cons, List.any_cons, ih, Flat.eqv y x]
    by_cases h : y = x
    · subst h
      simp
    · have h' : x ≠ y := fun e => h e.symm
      simp [h, h']
theorem flat_all {δ : Type} [Rep δ] [DecidableEq δ] [Flat δ] {l : List δ} : (l.map Flat.toV).all flatV = true := by
  rw [List.all_map, List.all_eq_true]
  intro y _
  exact Flat.flat y
theorem ev_inL {δ : Type} [Rep δ] [DecidableEq δ] [Flat δ] {x : δ} {l : List δ} (ha : EvR K ta σ G x) (hb : EvR K tb σ G l) : EvR K (tOp (rIn K false) ta tb) σ G (memB x l) :=
  ev_op ha hb fun v w G1 H1 _ s hv ⟨b, ys, ew, hB, r⟩ Q q => by
    have e1 := Flat.eq.mp hv
    have e2 := reps_flat r
    subst e1
    subst e2
    refine ⟨b, _, ew, .inl (SqL.of (s _ _ hB)), Flat.flat x, flat_all, ?_⟩
    rw [if_neg Bool.false_ne_true, inV_flat]
    exact q _ G1 H1 (Grow.refl s) rfl
theorem ev_inT {δ : Type} [Rep δ] [DecidableEq δ] [Flat δ] {x : δ} {l : Tpl δ} (ha : EvR K ta σ G x) (hb : EvR K tb σ G l) : EvR K (tOp (rIn K false) ta tb) σ G (memB x l.l) :=
  ev_op ha hb fun v w G1 H1 _ s hv ⟨b, ys, ew, hB, r⟩ Q q => by
    have e1 := Flat.eq.mp hv
    have e2 := reps_flat r
    subst e1
    subst e2
    refine ⟨b, _, ew, .inr (sqT_mono s hB), Flat.flat x, flat_all, ?_⟩
    rw [if_neg Bool.false_ne_true, inV_flat]
    exact q _ G1 H1 (Grow.refl s) rfl
/-- len -/
theorem ev_len1 {r : List V → Hp → VK → Prop} {n : Nat} (ha : EvR K ta σ G x) (hr : ∀ v G1 H1, Same G1 H1 → rep K x v G1 → ∀ Q : VK, Q (.int n) H1 → r [v] H1 Q) : EvR K (tCB r (tCons ta tNil)) σ G (n : Int) := fun H e Q q =>
  ha H e _ fun v G1 H1 g1 r1 => hr v G1 H1 g1.s r1 Q (q _ G1 H1 g1 rfl)
abbrev rLen (K : PySem.W.Frag) : List V → Hp → VK → Prop := fun xs H Q => ∃ x n, xs = [x] ∧ LenV K x H n ∧ Q (.int n) H
theorem ev_lenL {l : List α} (ha : EvR K ta σ G l) : EvR K (tCB (rLen K) (tCons ta tNil)) σ G (l.length : Int) :=
  ev_len1 ha fun v G1 H1 s ⟨a, xs, ev, hA, r⟩ Q q => ⟨v, l.length, rfl, by rw [ev]; exact .inl ⟨xs, SqL.of (s _ _ hA), paired_len r⟩, q⟩
theorem ev_lenT {l : Tpl α} (ha : EvR K ta σ G l) : EvR K (tCB (rLen K) (tCons ta tNil)) σ G (l.l.length : Int) :=
  ev_len1 ha fun v G1 H1 s ⟨a, xs, ev, hA, r⟩ Q q => ⟨v, l.l.length, rfl, by rw [ev]; exact .inr ⟨xs, sqT_mono s hA, paired_len r⟩, q⟩
theorem ev_lenScr {l : Scr} (ha : EvR K ta σ G l) : EvR K (tCB (rLen K) (tCons ta tNil)) σ G (l.l.length : Int) :=
  ev_len1 ha fun v G1 H1 s ⟨a, ev, hA⟩ Q q => ⟨v, l.l.length, rfl, by rw [ev]; exact .inl ⟨_, sqL_mono s hA, by rw [List.length_map]⟩, q⟩
theorem ev_lenS {l : Str} (ha : EvR K ta σ G l) (hl : l.length ≤ sizeLine) : EvR K (tCB (rLen K) (tCons ta tNil)) σ G (l.length : Int) :=
  ev_len1 ha fun v G1 H1 s hv Q q => ⟨v, l.length, rfl, by rw [show v = V.str l from hv]; exact ⟨hl, rfl⟩, q⟩
/-- int(n), str(n) -/
theorem ev_int1 {n : Int} (ha : EvR K ta σ G n) : EvR K (tCB (fun xs H Q => (∃ i, xs = [.int i] ∧ Q (.int i) H) ∨ ∃ k, xs = [.bl k] ∧ Q (.int (if k then 1 else 0)) H) (tCons ta tNil)) σ G n := fun H e Q q =>
  ha H e _ fun v G1 H1 g1 r1 => .inl ⟨n, by rw [show v = V.int n from r1], q _ G1 H1 g1 rfl⟩
theorem ev_strI {n : Int} (ha : EvR K ta σ G n) (hn : n.natAbs.log2 < 1920) : EvR K (tCB (fun xs H Q => ∃ i, xs = [.int i] ∧ i.natAbs.log2 < 1920 ∧ Q (.str (toString i)) H) (tCons ta tNil)) σ G (PySem.Str.ofString (toString n)) := fun H e Q q =>
  ha H e _ fun v G1 H1 g1 r1 => ⟨n, by rw [show v = V.int n from r1], hn, q _ G1 H1 g1 rfl⟩
theorem ev_listL {l : List α} (ha : EvR K ta σ G l) : EvR K (tCB (fun xs H Q => ∃ p ys, xs = [.ref p] ∧ (SqL K H p ys ∨ SqT K H p ys) ∧ ∀ l, H l = none → Q (.ref l) (upd H l (.lst ys))) (tCons ta tNil)) σ G l := fun H e Q q =>
  ha H e _ fun v G1 H1 g1 ⟨a, xs, ev, hA, r⟩ => ⟨a, xs, by rw [ev], .inl (SqL.of (g1.s _ _ hA)), fun p hp => q _ _ _ (g1.trans (Grow.new g1.s hp)) ⟨p, xs, rfl, upd_same, r.up (same_upd (g1.s.free hp))⟩⟩
/-- methods of texts -/
theorem ev_m0 {f : Str → Str} {C : Str → Prop} {s : Str} (ha : EvR K ta σ G s) (hc : C s) : EvR K (tM0 (fun x xs H Q => ∃ a, x = .str a ∧ xs = [] ∧ C a ∧ Q (.str (f a)) H) ta) σ G (f s) := fun H e Q q =>
  ha H e _ fun v G1 H1 g1 r1 => ⟨⟨s, r1⟩, s, r1, rfl, hc, q _ G1 H1 g1 rfl⟩
theorem ev_lower {s : Str} (ha : EvR K ta σ G s) (hc : s.length ≤ 5592405) : EvR K (tM0 (fun x xs H Q => ∃ a, x = .str a ∧ xs = [] ∧ a.length ≤ 5592405 ∧ Q (.str (Txt.lower a)) H) ta) σ G (Txt.lower s) := ev_m0 (f := Txt.lower) (C := fun a => a.length ≤ 5592405) ha hc
theorem ev_upper {s : Str} (ha : EvR K ta σ G s) (hc : s.length ≤ 5592405) : EvR K (tM0 (fun x xs H Q => ∃ a, x = .str a ∧ xs = [] ∧ a.length ≤ 5592405 ∧ Q (.str (Txt.upper a)) H) ta) σ G (Txt.upper s) := ev_m0 (f := Txt.upper) (C := fun a => a.length ≤ 5592405) ha hc
theorem ev_split {s t : Str} (ha : EvR K ta σ G s) (hb : EvR K tb σ G t) (h1 : (t.length == 0) = false) (h2 : s.length + 2 ≤ sizeLine) :
    EvR K (tM1 (fun x xs H Q => ∃ a b, x = .str a ∧ xs = [.str b] ∧ (b.length == 0) = false ∧ a.length + 2 ≤ sizeLine ∧ rNewStrs (Txt.split a b) H Q) ta tb) σ G (Txt.split s t) := fun H e Q q =>
  ha H e _ fun v G1 H1 g1 r1 => ⟨⟨s, r1⟩, hb.mono g1.g H1 g1.s _ fun w G2 H2 g2 r2 => ⟨s, t, r1, by rw [show w = V.str t from r2], h1, h2, fun p hp =>
    q _ _ _ ((g1.trans g2).trans (Grow.new g2.s hp)) ⟨p, _, rfl, upd_same, reps_of_flat (Txt.split s t)⟩⟩⟩
theorem ev_join {s : Str} {l : List Str} (ha : EvR K ta σ G s) (hb : EvR K tb σ G l) (h : (l.map (·.length)).sum + l.length * s.length ≤ 16777216) :
    EvR K (tM1 (fun x xs H Q => ∃ a p, ∃ ys : List Str, x = .str a ∧ xs = [.ref p] ∧ (SqL K H p (ys.map V.str) ∨ SqT K H p (ys.map V.str)) ∧ (ys.map (·.length)).sum + ys.length * a.length ≤ 16777216 ∧ Q (.str (Txt.join a ys)) H) ta tb) σ G (Txt.join s l) := fun H e Q q =>
  ha H e _ fun v G1 H1 g1 r1 => ⟨⟨s, r1⟩, hb.mono g1.g H1 g1.s _ fun w G2 H2 g2 ⟨a, xs, ev, hA, r2⟩ => ⟨s, a, l, r1, by rw [ev], .inl (by
    have e := reps_flat r2
    subst e
    exact SqL.of (g2.s _ _ hA)), h, q _ G2 H2 (g1.trans g2) rfl⟩⟩
end

/-! ### what a def keeps -/
section
variable {α β γ δ ρ : Type} [Rep α] [Rep β] [Rep γ] [Rep δ] [Rep ρ]
def sp1 (K : PySem.W.Frag) (pre : α → Prop) (f : α → ρ) : Sp := fun vs H Q _ => ∃ x v G, vs = [v] ∧ Same G H ∧ rep K x v G ∧ pre x ∧ ∀ u G' H', Grow G H G' H' → rep K (f x) u G' → Q u H'
def sp2 (K : PySem.W.Frag) (pre : α → β → Prop) (f : α → β → ρ) : Sp := fun vs H Q _ => ∃ x y v w G, vs = [v, w] ∧ Same G H ∧ rep K x v G ∧ rep K y w G ∧ pre x y ∧ ∀ u G' H', Grow G H G' H' → rep K (f x y) u G' → Q u H'
def sp3 (K : PySem.W.Frag) (pre : α → β → γ → Prop) (f : α → β → γ → ρ) : Sp := fun vs H Q _ => ∃ x y z v w u G, vs = [v, w, u] ∧ Same G H ∧ rep K x v G ∧ rep K y w G ∧ rep K z u G ∧ pre x y z ∧ ∀ r G' H', Grow G H G' H' → rep K (f x y z) r G' → Q r H'
def sp0 (K : PySem.W.Frag) (f : ρ) : Sp := fun vs H Q _ => vs = [] ∧ ∃ G, Same G H ∧ ∀ u G' H', Grow G H G' H' → rep K f u G' → Q u H'
variable {K : PySem.W.Frag} {σ : L2.St} {G : Hp} {ta tb tc : TE} {E : XK}
theorem ev_call1 {x : α} {pre : α → Prop} {f : α → ρ} (ha : EvR K ta σ G x) (hp : pre x) : EvR K (tCall (sp1 K pre f) [] E (tCons ta tNil)) σ G (f x) := fun H e Q q =>
  ha H e _ fun v G1 H1 g1 r1 => ⟨x, v, G1, rfl, g1.s, r1, hp, fun u G2 H2 g2 r2 => q u G2 H2 (g1.trans g2) r2⟩
theorem ev_call2 {x : α} {y : β} {pre : α → β → Prop} {f : α → β → ρ} (ha : EvR K ta σ G x) (hb : EvR K tb σ G y) (hp : pre x y) : EvR K (tCall (sp2 K pre f) [] E (tCons ta (tCons tb tNil))) σ G (f x y) := fun H e Q q =>
  ha H e _ fun v G1 H1 g1 r1 => hb.mono g1.g H1 g1.s _ fun w G2 H2 g2 r2 => ⟨x, y, v, w, G2, rfl, g2.s, up g2.g r1, r2, hp, fun u G3 H3 g3 r3 => q u G3 H3 ((g1.trans g2).trans g3) r3⟩
theorem ev_call3 {x : α} {y : β} {z : γ} {pre : α → β → γ → Prop} {f : α → β → γ → ρ} (ha : EvR K ta σ G x) (hb : EvR K tb σ G y) (hc : EvR K tc σ G z) (hp : pre x y z) :
    EvR K (tCall (sp3 K pre f) [] E (tCons ta (tCons tb (tCons tc tNil)))) σ G (f x y z) := fun H e Q q =>
  ha H e _ fun v G1 H1 g1 r1 => hb.mono g1.g H1 g1.s _ fun w G2 H2 g2 r2 => hc.mono (g1.g.trans g2.g) H2 g2.s _ fun u G3 H3 g3 r3 =>
    ⟨x, y, z, v, w, u, G3, rfl, g3.s, up (g2.g.trans g3.g) r1, up g3.g r2, r3, hp, fun u G4 H4 g4 r4 => q u G4 H4 (((g1.trans g2).trans g3).trans g4) r4⟩
theorem ev_call0 {f : ρ} : EvR K (tCall (sp0 K f) [] E tNil) σ G f := fun H e Q q => ⟨rfl, G, e, fun u G' H' g r => q u G' H' g r⟩
end

/-! ### statements -/
section
variable {α β : Type} [Rep α] [Rep β] {K : PySem.W.Frag} {σ : L2.St} {G H : Hp} {te ta tl : TE} {tt : TT} {t u tb : TS} {D : Ends} {x : α} {b : Bool} {i j : Nat} {a : Addr}
theorem s_seq (h : t { D with nx := u D } σ H) : tSeq t u D σ H := h
theorem s_next (h : D.nx σ H) : tNext D σ H := h
theorem s_asg (e : Same G H) (h : EvR K te σ G x) (k : ∀ v G' H', Grow G H G' H' → rep K x v G' → D.nx (σ.set i (some v)) H') : tAsg te (gName i) D σ H := h H e _ k
theorem s_drop (e : Same G H) (h : EvR K te σ G x) (k : ∀ G' H', Grow G H G' H' → D.nx σ H') : tDrop te D σ H := h H e _ fun _ G' H' g _ => k G' H' g
theorem s_ret (e : Same G H) (h : EvR K te σ G x) (k : ∀ v G' H', Grow G H G' H' → rep K x v G' → D.rt v H') : tRet te D σ H := h H e _ k
theorem s_if (e : Same G H) (h : EvB tt σ G b) (k1 : b = true → ∀ G' H', Grow G H G' H' → t D σ H') (k2 : b = false → ∀ G' H', Grow G H G' H' → u D σ H') : tIfS tt t u D σ H := h H e _ fun G' H' g => by
  cases b with
  | true => exact iteT (k1 rfl G' H' g)
  | false => exact iteF (k2 rfl G' H' g)
/-- a new list that is still to be filled -/
theorem s_new (k : ∀ p, H p = none → D.nx (σ.set i (some (.ref p))) (upd H p (.lst []))) : tAsg (tLst tNil) (gName i) D σ H := ⟨Nat.zero_le _, fun p hp => k p hp⟩
theorem s_app {xs : List V} (e : Same G H) (hi : σ[i]? = some (some (.ref a))) (ha : H a = some (.lst xs)) (hz : xs.length < sizeLine) (h : EvR K te σ G x)
    (k : ∀ v G' H', Grow G H G' H' → rep K x v G' → D.nx σ (upd H' a (.lst (xs ++ [v])))) : tDrop (tBM K "list" rAppend (tVar i) (tCons te tNil)) D σ H :=
  ⟨.ref a, hi, .inl ⟨rfl, xs, SqL.of ha⟩, h H e _ fun v G' H' g r => ⟨a, xs, v, rfl, rfl, g.h _ _ ha, hz, k v G' H' g r⟩⟩
/-- the same, told of the def's entry -/
theorem s_newF {Ge He : Hp} (gr : Grow Ge He G H) (k : ∀ p H2, He p = none → G p = none → H p = none → H2 p = some (.lst []) → Grow Ge He G H2 → Same H H2 → D.nx (σ.set i (some (.ref p))) H2) : tAsg (tLst tNil) (gName i) D σ H :=
  s_new fun p hp => k p _ (gr.h.free hp) (gr.s.free hp) hp upd_same (gr.loose hp) (same_upd hp)
theorem s_appF {Ge He : Hp} {xs : List V} {l : List α} (gr : Grow Ge He G H) (hF : He a = none) (hN : G a = none) (hi : σ[i]? = some (some (.ref a))) (ha : H a = some (.lst xs)) (hl : Reps K l xs G) (hz : l.length < sizeLine) (h : EvR K te σ G x)
    (k : ∀ G' H' H2 zs, Grow G H G' H' → Grow Ge He G' H2 → G' a = none → H2 a = some (.lst zs) → Reps K (l ++ [x]) zs G' → (∀ b, b ≠ a → H2 b = H' b) → D.nx σ H2) : tDrop (tBM K "list" rAppend (tVar i) (tCons te tNil)) D σ H :=
  s_app gr.s hi ha (by rw [← paired_len hl]; exact hz) h fun v G' H' g r => k G' H' _ _ g ((gr.trans g).mut hF (g.f _ _ ha hN)) (g.f _ _ ha hN) upd_same (paired_append (hl.up g.g) (.cons r .nil)) fun b hb => upd_ne hb
theorem fix_rep {zs : List V} {l : List α} (r : Reps K l zs G) (n : G a = none) : rep K l (V.ref a) (upd G a (.lst zs)) := ⟨a, zs, rfl, upd_same, Reps.up (same_upd n) r⟩
/-- loops -/
theorem s_forL {l : List α} {g : TG} (e : Same G H) (h : EvR K tl σ G l) (k : ∀ G1 H1 xs, Grow G H G1 H1 → Reps K l xs G1 → ∃ Pv : Nat → L2.St → Hp → Prop, Pv 0 σ H1 ∧ (∀ i σ' H', Pv i σ' H' → Same G1 H') ∧
    (∀ i x v σ' H', l[i]? = some x → rep K x v G1 → Pv i σ' H' → g v σ' H' fun σ2 H2 => tb { D with nx := Pv (i + 1), ct := Pv (i + 1), bk := D.nx } σ2 H2) ∧ ∀ σ' H', Pv l.length σ' H' → D.nx σ' H') : tFor (iList K tl) g tb D σ H :=
  h H e _ fun v G1 H1 g1 ⟨a, xs, ev, hA, r⟩ => by
    obtain ⟨Pv, p0, ps, pt, pe⟩ := k G1 H1 xs g1 r
    refine ⟨a, ev, ⟨xs, SqL.of (g1.s _ _ hA)⟩, for_list (K := K) (a := a) (xs := xs) Pv p0 (fun i σ' H' _ p => SqL.of (ps i σ' H' p _ _ hA)) (fun i v σ' H' hi p => ?_) fun σ' H' p => pe σ' H' (by rw [paired_len r]; exact p)⟩
    obtain ⟨x, hx, rx⟩ := paired_get r hi
    exact pt i x v σ' H' hx rx p
theorem s_forT {l : Tpl α} {g : TG} (e : Same G H) (h : EvR K tl σ G l) (k : ∀ G1 H1 xs, Grow G H G1 H1 → Reps K l.l xs G1 → ∃ Pv : Nat → L2.St → Hp → Prop, Pv 0 σ H1 ∧ (∀ i σ' H', Pv i σ' H' → Same G1 H') ∧
    (∀ i x v σ' H', l.l[i]? = some x → rep K x v G1 → Pv i σ' H' → g v σ' H' fun σ2 H2 => tb { D with nx := Pv (i + 1), ct := Pv (i + 1), bk := D.nx } σ2 H2) ∧ ∀ σ' H', Pv l.l.length σ' H' → D.nx σ' H') : tFor (iTup K tl) g tb D σ H :=
  h H e _ fun v G1 H1 g1 ⟨a, xs, ev, hA, r⟩ => by
    obtain ⟨Pv, p0, ps, pt, pe⟩ := k G1 H1 xs g1 r
    refine ⟨a, ev, ⟨xs, sqT_mono g1.s hA⟩, for_tup (K := K) (a := a) (xs := xs) Pv p0 (fun i σ' H' _ p => sqT_mono (ps i σ' H' p) hA) (fun i v σ' H' hi p => ?_) fun σ' H' p => pe σ' H' (by rw [paired_len r]; exact p)⟩
    obtain ⟨x, hx, rx⟩ := paired_get r hi
    exact pt i x v σ' H' hx rx p
theorem s_forR1 {n : Int} (e : Same G H) (h : EvR K te σ G n) (hn : -(2 ^ 62) ≤ n ∧ n < 2 ^ 62) (k : ∀ G1 H1, Grow G H G1 H1 → ∃ Pv : Nat → L2.St → Hp → Prop, Pv 0 σ H1 ∧
    (∀ (i : Nat) σ' H', (i : Int) < n → Pv i σ' H' → tb { D with nx := Pv (i + 1), ct := Pv (i + 1), bk := D.nx } (σ'.set j (some (.int (i : Int)))) H') ∧ ∀ σ' H', Pv n.toNat σ' H' → D.nx σ' H') : tFor (iRng1 (tCons te tNil)) (gName j) tb D σ H :=
  h H e _ fun v G1 H1 g1 r => by
    obtain ⟨Pv, p0, pt, pe⟩ := k G1 H1 g1
    refine ⟨n, by rw [show v = V.int n from r], hn.1, hn.2, for_range (lo := 0) (n := n.toNat) Pv p0 (fun i σ' H' hi p => ?_) pe⟩
    show tb _ (σ'.set j (some (.int (0 + (i : Int))))) H'
    rw [Int.zero_add]
    exact pt i σ' H' (by omega) p
theorem s_forR2 {m n : Int} (e : Same G H) (h : EvR K ta σ G m) (h2 : EvR K te σ G n) (hn : -(2 ^ 62) ≤ m ∧ m < 2 ^ 62 ∧ -(2 ^ 62) ≤ n ∧ n < 2 ^ 62) (k : ∀ G1 H1, Grow G H G1 H1 → ∃ Pv : Nat → L2.St → Hp → Prop, Pv 0 σ H1 ∧
    (∀ (i : Nat) σ' H', m + (i : Int) < n → Pv i σ' H' → tb { D with nx := Pv (i + 1), ct := Pv (i + 1), bk := D.nx } (σ'.set j (some (.int (m + (i : Int))))) H') ∧ ∀ σ' H', Pv (n - m).toNat σ' H' → D.nx σ' H') : tFor (iRng2 (tCons ta (tCons te tNil))) (gName j) tb D σ H :=
  h H e _ fun v G1 H1 g1 r => (h2.mono g1.g) H1 g1.s _ fun v2 G2 H2 g2 r2 => by
    obtain ⟨Pv, p0, pt, pe⟩ := k G2 H2 (g1.trans g2)
    refine ⟨m, n, by rw [show v = V.int m from r, show v2 = V.int n from r2], hn, for_range (lo := m) (n := (n - m).toNat) Pv p0 (fun i σ' H' hi p => pt i σ' H' (by omega) p) pe⟩
end

/-! ### comprehensions -/
section
variable {α β : Type} [Rep α] [Rep β] {K : PySem.W.Frag} {σ : L2.St} {G H : Hp} {te tl ta : TE} {tt : TT} {j : Nat} {vs : List Nat}
/-- the list at Dl while it is filled -/
def Lc (K : PySem.W.Frag) (G1 H1 : Hp) (Dl : Addr) (ys : List β) (H' : Hp) : Prop := ∃ G' zs, Grow G1 H1 G' H' ∧ G' Dl = none ∧ H' Dl = some (.lst zs) ∧ Reps K ys zs G'
theorem lc_start {G1 H1 : Hp} {Dl : Addr} (s : Same G1 H1) (h : H1 Dl = none) : Lc (β := β) K G1 H1 Dl [] (upd H1 Dl (.lst [])) := ⟨G1, [], (Grow.refl s).loose h, s.free h, upd_same, .nil⟩
theorem lc_end {G1 H1 H' : Hp} {Dl : Addr} {ys : List β} (h : H1 Dl = none) (p : Lc K G1 H1 Dl ys H') : ∃ G', Grow G1 H1 G' H' ∧ rep K ys (V.ref Dl) G' := by
  obtain ⟨G', zs, g, n, e, r⟩ := p
  exact ⟨upd G' Dl (.lst zs), g.fix h n e, Dl, zs, rfl, upd_same, r.up (same_upd n)⟩
theorem lc_turn {G1 H1 H' : Hp} {Dl : Addr} {ys : List β} {σ2 : L2.St} {b : Bool} {y : β} (h : H1 Dl = none) (p : Lc K G1 H1 Dl ys H') (hl : ys.length < sizeLine) (ht : EvB tt σ2 G1 b) (he : b = true → EvR K te σ2 G1 y) {N : Hp → Prop}
    (hN : ∀ H2, Lc K G1 H1 Dl (cond b (ys ++ [y]) ys) H2 → N H2) :
    tt σ2 H' fun b H3 => if b = true then te σ2 H3 fun y H4 => ∃ acc, H4 Dl = some (.lst acc) ∧ acc.length < sizeLine ∧ N (upd H4 Dl (.lst (acc ++ [y]))) else N H3 := by
  obtain ⟨G', zs, g, n, e, r⟩ := p
  refine ht.mono g.g H' g.s _ fun G3 H3 g3 => ?_
  have g13 := g.trans g3
  have n3 : G3 Dl = none := g3.f _ _ e n
  cases b with
  | true =>
    refine iteT ?_
    refine (he rfl).mono g13.g H3 g13.s _ fun v G4 H4 g4 r4 => ?_
    have e4 := g4.h _ _ (g3.h _ _ e)
    have n4 : G4 Dl = none := g4.f _ _ (g3.h _ _ e) n3
    exact ⟨zs, e4, by rw [← paired_len r]; exact hl, hN _ ⟨G4, zs ++ [v], (g13.trans g4).mut h n4, n4, upd_same, paired_append (r.up (g3.g.trans g4.g)) (.cons r4 .nil)⟩⟩
  | false =>
    refine iteF (hN _ ⟨G3, zs, g13, n3, g3.h _ _ e, r.up g3.g⟩)
theorem take_snoc {α : Type} {l : List α} {i : Nat} {x : α} (h : l[i]? = some x) : l.take (i + 1) = l.take i ++ [x] := by
  rw [List.take_add_one, h]
  rfl
theorem filt_snoc {α β : Type} (f : α → Bool) (g : α → β) (l : List α) (x : α) : ((l ++ [x]).filter f).map g = cond (f x) ((l.filter f).map g ++ [g x]) ((l.filter f).map g) := by
  rw [List.filter_append, List.map_append]
  cases h : f x with
  | true => simp [h]
  | false => simp [h]
theorem ev_lcL {l : List α} {g : TG} (f : α → Bool) (h : α → β) (hl : EvR K tl σ G l) (hz : l.length < sizeLine)
    (ht : ∀ x v G' H', Same G G' → Same G' H' → x ∈ l → rep K x v G' → ∀ (P : L2.St → Hp → Prop), (∀ σ2, wipe σ2 vs = wipe σ vs → EvB tt σ2 G' (f x) → (f x = true → EvR K te σ2 G' (h x)) → P σ2 H') → g v (wipe σ vs) H' P) :
    EvR K (tLc (iList K tl) g tt te vs) σ G ((l.filter f).map h) := fun H e Q q =>
  hl H e _ fun v G1 H1 g1 ⟨a, xs, ev, hA, r⟩ => ⟨a, ev, ⟨xs, SqL.of (g1.s _ _ hA)⟩, fun Dl hD =>
    lc_list (K := K) (a := a) (xs := xs) (fun i H' => Lc K G1 H1 Dl (((l.take i).filter f).map h) H') (lc_start g1.s hD) (fun i H' _ ⟨G', zs, g, _, _, _⟩ => SqL.of (g.s _ _ (g.g _ _ hA))) (fun i v H' hi p => by
      obtain ⟨x, hx, rx⟩ := paired_get r hi
      obtain ⟨G', zs, g', n', e', r'⟩ := id p
      refine ht x v G1 H' g1.g (g'.g.trans g'.s) (List.mem_of_getElem? hx) rx _ fun σ2 hw hb he => ⟨hw, ?_⟩
      refine lc_turn hD p ?_ hb he fun H2 p2 => ?_
      · rw [List.length_map]
        exact Nat.lt_of_le_of_lt (Nat.le_trans (List.length_filter_le _ _) (by rw [List.length_take]; exact Nat.min_le_right _ _)) hz
      · rw [take_snoc hx, filt_snoc]
        exact p2) fun H' p => by
      obtain ⟨G', g', r'⟩ := lc_end hD p
      refine q _ G' H' (g1.trans g') ?_
      rw [show l = l.take xs.length by rw [← paired_len r, List.take_length]]
      exact r'⟩
theorem ev_lcT {l : Tpl α} {g : TG} (f : α → Bool) (h : α → β) (hl : EvR K tl σ G l) (hz : l.l.length < sizeLine)
    (ht : ∀ x v G' H', Same G G' → Same G' H' → x ∈ l.l → rep K x v G' → ∀ (P : L2.St → Hp → Prop), (∀ σ2, wipe σ2 vs = wipe σ vs → EvB tt σ2 G' (f x) → (f x = true → EvR K te σ2 G' (h x)) → P σ2 H') → g v (wipe σ vs) H' P) :
    EvR K (tLc (iTup K tl) g tt te vs) σ G ((l.l.filter f).map h) := fun H e Q q =>
  hl H e _ fun v G1 H1 g1 ⟨a, xs, ev, hA, r⟩ => ⟨a, ev, ⟨xs, sqT_mono g1.s hA⟩, fun Dl hD =>
    lc_tup (K := K) (a := a) (xs := xs) (fun i H' => Lc K G1 H1 Dl (((l.l.take i).filter f).map h) H') (lc_start g1.s hD) (fun i H' _ ⟨G', zs, g, _, _, _⟩ => sqT_mono (g.g.trans g.s) hA) (fun i v H' hi p => by
      obtain ⟨x, hx, rx⟩ := paired_get r hi
      obtain ⟨G', zs, g', n', e', r'⟩ := id p
      refine ht x v G1 H' g1.g (g'.g.trans g'.s) (List.mem_of_getElem? hx) rx _ fun σ2 hw hb he => ⟨hw, ?_⟩
      refine lc_turn hD p ?_ hb he fun H2 p2 => ?_
      · rw [List.length_map]
        exact Nat.lt_of_le_of_lt (Nat.le_trans (List.length_filter_le _ _) (by rw [List.length_take]; exact Nat.min_le_right _ _)) hz
      · rw [take_snoc hx, filt_snoc]
        exact p2) fun H' p => by
      obtain ⟨G', g', r'⟩ := lc_end hD p
      refine q _ G' H' (g1.trans g') ?_
      rw [show l.l = l.l.take xs.length by rw [← paired_len r, List.take_length]]
      exact r'⟩
/-- the ints of range(n), of range(m, n) -/
def rgs (m n : Int) : List Int := (List.range (n - m).toNat).map fun (i : Nat) => m + (i : Int)
theorem rgs_snoc (m : Int) (i : Nat) : ((List.range (i + 1)).map fun (i : Nat) => m + (i : Int)) = ((List.range i).map fun (i : Nat) => m + (i : Int)) ++ [m + (i : Int)] := by
  rw [List.range_succ, List.map_append]
  rfl
theorem mem_rgs {m n x : Int} : x ∈ rgs m n ↔ m ≤ x ∧ x < n := by
  unfold rgs
  rw [List.mem_map]
  constructor
  · rintro ⟨i, hi, rfl⟩
    have := List.mem_range.mp hi
    omega
  · intro h
    exact ⟨(x - m).toNat, List.mem_range.mpr (by omega), by omega⟩
theorem lc_rgs {G1 H1 : Hp} {σ : L2.St} {g : TG} {Dl : Addr} {m n : Int} (f : Int → Bool) (h : Int → β) (hs : Same G1 H1) (hD : H1 Dl = none) (hz : (n - m).toNat < sizeLine) {Qd : Hp → Prop}
    (ht : ∀ x H', m ≤ x → x < n → Same G1 H' → ∀ (P : L2.St → Hp → Prop), (∀ σ2, wipe σ2 vs = wipe σ vs → EvB tt σ2 G1 (f x) → (f x = true → EvR K te σ2 G1 (h x)) → P σ2 H') → g (.int x) (wipe σ vs) H' P)
    (hd : ∀ G' H', Grow G1 H1 G' H' → rep K (((rgs m n).filter f).map h) (V.ref Dl) G' → Qd H') :
    ∃ W : Nat → Nat → Hp → Prop, (∃ m, W 0 m (upd H1 Dl (.lst []))) ∧ ∀ i k H, W i k H →
      ((Itr m (n - m).toNat).stop i H ∧ Qd H) ∨ ((Itr m (n - m).toNat).go i H ∧ ∃ Nx : Hp → Prop, (∀ H', Nx H' → ∃ m', m' < k ∧ W (i + 1) m' H') ∧ ∀ x H', (Itr m (n - m).toNat).yld i H x H' → g x (wipe σ vs) H' fun σ2 H2 => wipe σ2 vs = wipe σ vs ∧ tt σ2 H2 fun b H3 =>
        if b = true then te σ2 H3 fun y H4 => ∃ acc, H4 Dl = some (.lst acc) ∧ acc.length < sizeLine ∧ Nx (upd H4 Dl (.lst (acc ++ [y]))) else Nx H3) :=
  lc_range (lo := m) (n := (n - m).toNat) (fun i H' => Lc K G1 H1 Dl ((((List.range i).map fun (i : Nat) => m + (i : Int)).filter f).map h) H') (lc_start hs hD) (fun i H' hi p => by
      obtain ⟨G', zs, g', n', e', r'⟩ := id p
      refine ht (m + (i : Int)) H' (by omega) (by omega) (g'.g.trans g'.s) _ fun σ2 hw hb he => ⟨hw, ?_⟩
      refine lc_turn hD p ?_ hb he fun H2 p2 => ?_
      · rw [List.length_map]
        exact Nat.lt_of_le_of_lt (Nat.le_trans (List.length_filter_le _ _) (by rw [List.length_map, List.length_range]; omega)) hz
      · rw [rgs_snoc, filt_snoc]
        exact p2) fun H' p => by
      obtain ⟨G', g', r'⟩ := lc_end hD p
      exact hd G' H' g' r'
theorem ev_lcR1 {n : Int} {g : TG} (f : Int → Bool) (h : Int → β) (hl : EvR K te σ G n) (hn : n < 16777216 ∧ -16777216 < n) {tf : TE}
    (ht : ∀ x G' H', 0 ≤ x → x < n → Same G G' → Same G' H' → ∀ (P : L2.St → Hp → Prop), (∀ σ2, wipe σ2 vs = wipe σ vs → EvB tt σ2 G' (f x) → (f x = true → EvR K tf σ2 G' (h x)) → P σ2 H') → g (.int x) (wipe σ vs) H' P) :
    EvR K (tLc (iRng1 (tCons te tNil)) g tt tf vs) σ G (((rgs 0 n).filter f).map h) := fun H e Q q =>
  hl H e _ fun v G1 H1 g1 r => ⟨n, by rw [show v = V.int n from r], by omega, by omega, fun Dl hD => by
    have hh := lc_rgs (K := K) (tt := tt) (te := tf) (vs := vs) (σ := σ) (g := g) (m := 0) (n := n) f h g1.s hD (by rw [sizeLine_eq]; omega) (Qd := fun H' => Q (.ref Dl) H') (fun x H' h1 h2 s P k => ht x G1 H' h1 h2 g1.g s P k) (fun G' H' g' r' => q _ G' H' (g1.trans g') r')
    rw [Int.sub_zero] at hh
    exact hh⟩
theorem ev_lcR2 {m n : Int} {g : TG} (f : Int → Bool) (h : Int → β) (hl : EvR K ta σ G m) (hh : EvR K te σ G n) (hn : -16777216 < m ∧ m < 16777216 ∧ n < 16777216 ∧ -16777216 < n ∧ n - m < 16777216) {tf : TE}
    (ht : ∀ x G' H', m ≤ x → x < n → Same G G' → Same G' H' → ∀ (P : L2.St → Hp → Prop), (∀ σ2, wipe σ2 vs = wipe σ vs → EvB tt σ2 G' (f x) → (f x = true → EvR K tf σ2 G' (h x)) → P σ2 H') → g (.int x) (wipe σ vs) H' P) :
    EvR K (tLc (iRng2 (tCons ta (tCons te tNil))) g tt tf vs) σ G (((rgs m n).filter f).map h) := fun H e Q q =>
  hl H e _ fun v G1 H1 g1 r => hh.mono g1.g H1 g1.s _ fun v2 G2 H2 g2 r2 => ⟨m, n, by rw [show v = V.int m from r, show v2 = V.int n from r2], by omega, fun Dl hD =>
    lc_rgs (K := K) (tt := tt) (te := tf) (vs := vs) (σ := σ) (g := g) (m := m) (n := n) f h g2.s hD (by rw [sizeLine_eq]; omega) (Qd := fun H' => Q (.ref Dl) H') (fun x H' h1 h2 s P k => ht x G2 H' h1 h2 (g1.g.trans g2.g) s P k) (fun G' H' g' r' => q _ G' H' ((g1.trans g2).trans g') r')⟩
theorem eb_yes : EvB tYes σ G true := fun H e Q q => q G H (Grow.refl e)
end
end RL

set_option Elab.async false
set_option linter.all false
set_option maxRecDepth 100000
set_option maxHeartbeats 4000000
namespace RL
open PySem PySem.Spec PyProof.Rows L2
open Rep (rep)
/-! ### set(l), l a list of texts, of any length below the scan's bound; its size -/
/-- each text once -/
def once : List Str → List Str
  | [] => []
  | x :: l => if x ∈ l then once l else x :: once l
theorem once_mem {y : Str} : ∀ {l : List Str}, y ∈ once l ↔ y ∈ l
  | [] => Iff.rfl
  | x :: l => by
    unfold once
    by_cases h : x ∈ l
    · rw [if_pos h, once_mem (l := l), List.mem_cons]
      exact ⟨.inr, fun e => e.elim (fun q => q ▸ h) id⟩
    · rw [if_neg h, List.mem_cons, List.mem_cons, once_mem (l := l)]
theorem once_le : ∀ l : List Str, (once l).length ≤ l.length
  | [] => Nat.le_refl _
  | x :: l => by
    unfold once
    have := once_le l
    by_cases h : x ∈ l
    · rw [if_pos h, List.length_cons]; omega
    · rw [if_neg h, List.length_cons, List.length_cons]; omega
theorem once_lt : ∀ {l : List Str}, (once l).length < l.length ↔ ¬ l.Nodup
  | [] => by simp [once]
  | x :: l => by
    unfold once
    have h0 := once_le l
    rw [List.nodup_cons]
    by_cases h : x ∈ l
    · rw [if_pos h, List.length_cons]
      exact ⟨fun _ q => q.1 h, fun _ => by omega⟩
    · rw [if_neg h, List.length_cons, List.length_cons]
      have ih := once_lt (l := l)
      constructor
      · intro q r
        exact ih.mp (by omega) r.2
      · intro q
        have : ¬ l.Nodup := fun r => q ⟨h, r⟩
        have := ih.mpr this
        omega
/-- read from the left: the count behind i items -/
def onceN (l : List Str) (i : Nat) : Nat := (once (l.take i).reverse).length
theorem onceN_zero (l : List Str) : onceN l 0 = 0 := by simp [onceN, once]
theorem onceN_succ {l : List Str} {i : Nat} {x : Str} (h : l[i]? = some x) : onceN l (i + 1) = if decide (x ∈ l.take i) = true then onceN l i else onceN l i + 1 := by
  unfold onceN
  rw [take_snoc h, List.reverse_append, List.reverse_cons, List.reverse_nil, List.nil_append, List.singleton_append]
  by_cases q : x ∈ l.take i
  · rw [if_pos (decide_eq_true q)]
    show (if x ∈ (l.take i).reverse then _ else _ : List Str).length = _
    rw [if_pos (List.mem_reverse.mpr q)]
  · rw [if_neg (by simpa using q)]
    show (if x ∈ (l.take i).reverse then _ else _ : List Str).length = _
    rw [if_neg (fun z => q (List.mem_reverse.mp z))]
    rfl
theorem onceN_le (l : List Str) (i : Nat) : onceN l i ≤ i := by
  have h := once_le (l.take i).reverse
  rw [List.length_reverse, List.length_take] at h
  unfold onceN
  omega
theorem onceN_all {l : List Str} : onceN l l.length < l.length ↔ ¬ l.Nodup := by
  unfold onceN
  rw [List.take_length]
  have h := once_lt (l := l.reverse)
  rw [List.length_reverse] at h
  have e : l.reverse.Nodup ↔ l.Nodup := by
    unfold List.Nodup
    rw [List.pairwise_reverse]
    exact ⟨fun q => q.imp fun z => Ne.symm z, fun q => q.imp fun z => Ne.symm z⟩
  rw [e] at h
  exact h
section
variable {prog : Program} {w : World} {A : Around} {R : Result → Shared → Prop} {it : Addr} {seen made : List Addr} {G : Array GenState → Array GenState → Prop} {n : Nat} {P : Nat → Value → Prop} {St : Nat → Shared → Prop}
theorem set_at {h h' : Heap} {a : Addr} {S : Str → Bool} {c : Nat} (q : h.SetOf (PySem.strKind prog w) a S c) (k : ∀ o, h.get? a = some o → h'.get? a = some o) : h'.SetOf (PySem.strKind prog w) a S c := by
  obtain ⟨o, es, ep, t, ho, r⟩ := q
  exact ⟨o, es, ep, t, k o ho, r⟩
/-- the loop that puts the texts in, from the i-th on -/
theorem set_fill (W : WalksS prog w A.in1 it seen made G n P St) (b : Addr) (hb : b ∉ seen) (l : List Str) (hn : l.length = n) (room : n + 1 < scanBound) (val : ∀ i v, P i v → ∃ x t, l[i]? = some x ∧ v = .str x t) (m : Nat) : ∀ (i : Nat) (s : Shared), n - i = m → i ≤ n → St i s →
      s.heap.SetOf (PySem.strKind prog w) b (fun y => decide (y ∈ l.take i)) (onceN l i) →
      (∀ s', Moved (b :: made) G s s' → s'.heap.SetOf (PySem.strKind prog w) b (fun y => decide (y ∈ l.take n)) (onceN l n) → R (.ok (.ret .none)) s') →
      codeAny (model prog w) A (.builtin "set.update.loop" ⟨[.ref b, .ref it], []⟩) R s := by
  have b_made : b ∉ made := fun z => hb (W.sub _ z)
  have more : ∀ c ∈ made, c ∈ b :: made := fun _ z => .tail _ z
  induction m with
  | zero =>
    intro i s em hi st hset fin
    obtain rfl : i = n := by omega
    refine codeAny_builtin F.entry_set_update_loop ?_; rw [Around.under_plainId F.plain_set_update_loop _]
    show wpAny _ A.in1 (pyNext (.ref it) >>= _) _ _ s; refine wpAny_bind (W.done s _ _ st fun s1 mv => ?_)
    show wpAny _ A.in1 (ret Value.none) _ _ s1; exact wpAny_pure (fin s1 (mv.mono more) (set_at hset fun o e => mv.heap b o b_made e))
  | succ m ih =>
    intro i s em hi st hset fin
    have lt : i < n := by omega
    refine codeAny_builtin F.entry_set_update_loop ?_; rw [Around.under_plainId F.plain_set_update_loop _]
    show wpAny _ A.in1 (pyNext (.ref it) >>= _) _ _ s; refine wpAny_bind (W.item i s _ _ lt st fun v s1 pv st1 mv => ?_)
    obtain ⟨x, t, hx, rfl⟩ := val i v pv
    have hset1 := set_at hset fun o e => mv.heap b o b_made e
    show wpAny _ A.in1 (holding [Value.str x t] (setAdd b (.str x t)) >>= _) _ _ s1
    refine wpAny_bind (wpAny_holding ?_); unfold setAdd; refine wpAny_holding (wpAny_bind ((PySem.strKind prog w).pyHash (k := x) (strKind_is _ _ _ _) ?_))
    have le := onceN_le l i
    refine wpAny_setAddHashed_of (knd := PySem.strKind prog w) (s := { s1 with toks := s1.toks + 1 }) (strKind_is _ _ _ _) rfl hset1 (by omega) fun h2 only hset2 => ?_
    have hset3 : h2.SetOf (PySem.strKind prog w) b (fun y => decide (y ∈ l.take (i + 1))) (onceN l (i + 1)) := by
      rw [onceN_succ hx]
      refine PyProof.Rows.SetOf_congr hset2 (fun y => ?_) rfl
      rw [take_snoc hx]
      by_cases e : y = x
      · simp [e]
      · simp [e]
    refine wpAny_pure ⟨plainId_quiet F.plain_set_update_loop _, ih (i + 1) _ (by omega) lt (W.frame _ s1 _ _ st1 (Nat.le_succ _) fun c hc o e => (only.2 c (fun z : c = b => hb (z ▸ hc))).trans e) hset3 fun s3 mv3 hset4 => ?_⟩
    exact fin s3 (Moved.trans W.gtrans ((mv.mono more).then_heap (Nat.le_succ _) fun c o hc e => (only.2 c (fun z : c = b => hc (z ▸ List.mem_cons_self))).trans e) mv3) hset4
end
section
variable {prog : Program} {w : World} {A : Around} {E : Value → Shared → Prop} {s : Shared}
set_option maxHeartbeats 3200000 in
theorem call_set_texts {l : Addr} {items : Array Value} {xs : List Str} {Q : Value → Shared → Prop} (calm : A.handled = none) (hl : s.heap.IsList l items) (hi : StrsAre items.toList xs) (room : xs.length + 1 < scanBound)
    (fin : ∀ (h' : Heap) (tk : Nat), h'.SetOf (PySem.strKind prog w) s.heap.objs.size (fun y => decide (y ∈ xs)) (onceN xs xs.length) → (∀ b o, b < s.heap.objs.size → s.heap.get? b = some o → h'.get? b = some o) →
      Q (.ref s.heap.objs.size) { s with heap := h', toks := tk }) : wpAny (model prog w) A (call (.type "set") [.ref l]) Q E s := by
  have size : xs.length = items.size := by rw [← PyProof.Rows.StrsAre.len_eq hi, Array.length_toList]
  obtain ⟨c, tl, hmro⟩ := PySem.F.called_set.mro; have hmade := PySem.F.called_set.made; have hsub := PySem.F.called_set.sub
  refine wpAny_call (codeAny_of_tree ?_); show wpAny _ _ (callAny (.type "set") _) _ _ _
  refine wpAny_pure ⟨Code.quiet_builtin _ (by decide +kernel), codeAny_builtin PySem.F.entry_type_call ?_⟩; rw [Around.under_plain (weight_type_call_type "set" [.ref l] []) rfl]
  have k1 := PySem.F.called_set.notType; have k2 := PySem.F.called_set.canCreate; have k3 := PySem.F.typeCall_set_1 (.ref l)
  repeat (any_goals (first | assumption | wp_step))
  obtain ⟨o0, e0⟩ : ∃ o0 : Bool → Obj, o0 = fun led => { cls := .type "set", dict := none, data := .set #[] 0 (.fresh 0 0 led) } := ⟨_, rfl⟩
  refine codeAny_mono (code_set_new_1 (.ref l) (E := E) (Q₁ := fun v s1 => ∃ led : Bool, v = .ref s.heap.objs.size ∧ s1 = { s with heap := s.heap.push { cls := .type "set", dict := none, data := .set #[] 0 (.fresh 0 0 led) } }) fun led => ⟨led, rfl, rfl⟩) fun r s1 hr => ?_
  cases r with
  | error e => exact hr
  | ok fl =>
    cases fl with
    | ret v =>
      obtain ⟨led, rfl, rfl⟩ := hr
      have hnew : (s.heap.push { cls := .type "set", dict := none, data := .set #[] 0 (.fresh 0 0 led) }).get? s.heap.objs.size = some { cls := .type "set", dict := none, data := .set #[] 0 (.fresh 0 0 led) } := Heap.get?_push_size _ rfl
      have hty : Shared.TypeIs { s with heap := s.heap.push { cls := .type "set", dict := none, data := .set #[] 0 (.fresh 0 0 led) } } (.ref s.heap.objs.size) "set" := ⟨_, hnew, rfl⟩
      have k4 := PySem.F.called_set.init.lookup; have k5 := PySem.F.called_set.init.bind (.ref s.heap.objs.size)
      repeat (any_goals (first | assumption | wp_step))
      refine codeAny_mono (codeAny_call_builtin (R := wants (fun r s2 => r = .none ∧ ∃ h' tk, s2 = { s with heap := h', toks := tk } ∧ h'.SetOf (PySem.strKind prog w) s.heap.objs.size (fun y => decide (y ∈ xs)) (onceN xs xs.length) ∧
          (∀ b o, b < s.heap.objs.size → s.heap.get? b = some o → h'.get? b = some o)) E) PySem.F.called_set.init.plain PySem.F.entry_set_init (check_set_init_1 hty ?_)) fun r2 s2 hr2 => ?_
      · obtain ⟨⟨oc, od, oda, osl⟩, ho, hc, nl, hd⟩ := hl
        simp only at hc hd; subst hc hd
        have ho2 : (s.heap.push { cls := .type "set", dict := none, data := .set #[] 0 (.fresh 0 0 led) }).get? l = some { cls := .type "list", dict := od, data := .seq items nl, slots := osl } := Heap.get?_push_of_some _ ho
        have k6 := PySem.F.sub_list_set; have k7 := PySem.F.sub_list_frozenset; have k8 : (Value.type "list" == Value.type "dict") = false := by decide
        have hl2 : (s.heap.push { cls := .type "set", dict := none, data := .set #[] 0 (.fresh 0 0 led) }).IsList l items := ⟨_, ho2, rfl, nl, rfl⟩
        unfold Builtin.«set.__init__» noKeywords Builtin.Frozenset.updateFrom; generalize hpi : pyIter = PI; wp_walk; subst hpi
        refine wpAny_pyIter_list hl2 (wpAny_bind (wpAny_runValue ?_))
        have hlt : l < s.heap.objs.size := Heap.lt_size ho
        have h3 : A.in1.in1.in1.handled = none := by simp [calm]
        have n1 : l ≠ (s.heap.push { cls := .type "set", dict := none, data := .set #[] 0 (.fresh 0 0 led) }).objs.size := by rw [Heap.size_push]; exact Nat.ne_of_lt (Nat.lt_succ_of_lt hlt)
        have n2 : s.heap.objs.size ∉ [(s.heap.push { cls := .type "set", dict := none, data := .set #[] 0 (.fresh 0 0 led) }).objs.size, l] := by
          rw [Heap.size_push]; simp only [List.mem_cons, List.not_mem_nil, or_false, not_or]; exact ⟨Nat.ne_of_lt (Nat.lt_succ_self _), Nat.ne_of_gt hlt⟩
        refine set_fill ((Walks.list h3 _ l n1 items).toS) s.heap.objs.size n2 xs size (by omega) (fun i v hv => ?_) (items.size - 0) 0 _ (by omega) (Nat.zero_le _) ⟨⟨_, Heap.get?_push_size _ rfl, rfl, rfl⟩, (hl2.push _)⟩ ?z0 ?zR
        · have hv2 : items[i]? = some v := hv
          have hlt2 : i < items.size := by
            rw [Array.getElem?_eq_some_iff] at hv2
            exact hv2.1
          obtain ⟨t, et⟩ := SS.strs_at hi i v (by rw [Array.getElem?_toList]; exact hv2)
          refine ⟨xs.getD i Str.empty, t, ?_, et⟩
          rw [List.getD_eq_getElem?_getD, List.getElem?_eq_getElem (by omega : i < xs.length)]
          rfl
        case z0 =>
          have hg : ((s.heap.push { cls := .type "set", dict := none, data := .set #[] 0 (.fresh 0 0 led) }).push { cls := .type "list_iterator", data := .fields #[.ref l, .int 0 0] }).get? s.heap.objs.size = some { cls := .type "set", dict := none, data := .set #[] 0 (.fresh 0 0 led) } := Heap.get?_push_of_some _ hnew
          exact PyProof.Rows.SetOf_congr ((PyProof.Rows.setObjOf_fresh (knd := PySem.strKind prog w) led).setOf hg (by unfold scanBound; omega)) (fun y => by simp) (onceN_zero xs).symm
        case zR =>
          intro s3 mv hset
          rw [← size, List.take_length] at hset
          obtain ⟨h3', g3, d3, t3, os3⟩ := s3
          obtain rfl : g3 = s.gens := mv.gens
          obtain rfl : d3 = s.drawn := mv.drawn
          obtain rfl : os3 = s.os := mv.os
          show wpAny _ _ _ _ _ _; refine wpAny_pure ?_; show wpAny _ _ (ret Value.none) _ _ _
          refine wpAny_pure ⟨rfl, h3', t3, rfl, hset, fun b o hb e => mv.heap b o ?_ (Heap.get?_push_of_some _ (Heap.get?_push_of_some _ e))⟩
          rw [Heap.size_push]; simp only [List.mem_cons, List.not_mem_nil, or_false, not_or]; exact ⟨Nat.ne_of_lt hb, Nat.ne_of_lt (Nat.lt_succ_of_lt hb)⟩
      · cases r2 with
        | error e => exact hr2
        | ok fl2 =>
          cases fl2 with
          | ret r =>
            obtain ⟨rfl, h', tk, rfl, hset, hk⟩ := hr2
            repeat (any_goals (first | assumption | wp_step))
            exact fin _ _ hset hk
          | _ => exact hr2.elim
    | _ => exact hr.elim
end
/-- len(set(xs)), xs a list of texts -/
def tLenSetS (K : PySem.W.Frag) (ta : TE) : TE := fun σ H Q => ta σ H fun x H1 => ∃ l, ∃ xs : List Str, x = .ref l ∧ SqL K H1 l (xs.map V.str) ∧ xs.length + 1 < scanBound ∧ Q (.int (onceN xs xs.length : Nat)) H1
theorem pe_lenSetS {X : Cx} {a : Expr} {ta : TE} {p p2 q pos : Pos} (hc : X.calm = true) (hg : Gl X "len") (hm : X.mg "len" = none) (hg2 : Gl X "set") (hm2 : X.mg "set" = none) (ha : PE X a ta)
    (na : starEach [a] X.env = (false, eval a X.env) :: starEach [] X.env := by rfl) : PE X (.Call (.Name "len" p) [.Call (.Name "set" p2) [a] [] q] [] pos) (tLenSetS X.K ta) := by
  refine ⟨fun pins s σ H Q I h => Call_ (ld_blt I hg hm boot_len (PyProof.Rows.callWith_builtin1 (PyProof.Rows.args_cons (Call_ (ld_blt I hg2 hm2 boot_set ?_)) rfl) rfl rfl))⟩
  refine PyProof.Rows.callWith_type1 (PyProof.Rows.args_cons (thn (ha.run pins s σ H _ I h) fun v s1 ⟨x, H1, I1, r1, l, xs, ex, hq, room, q1⟩ => PyProof.Rows.args_nil ?_) na) na rfl
  subst ex
  cases r1
  obtain ⟨its, r, pl, hz⟩ := I1.list hq
  refine call_set_texts (I1.ok.hd hc) pl.isList (by simpa using strsAre_of r) room fun h' tk hset hk => PyProof.Rows.args_nil ?_
  obtain ⟨o, es, ep, t, ho, hex, hd, _, _, _, hf, hn⟩ := hset
  have I2 : Inv X pins σ H1 { s1 with heap := h', toks := tk } := I1.kept fun b o e => hk b o (Heap.lt_size e) e
  have le := onceN_le xs xs.length
  refine call_len_set ho hex hd hf (by rw [hn]; unfold scanBound at room; omega) ⟨.int (onceN xs xs.length : Nat), H1, I2.tok _, ⟨_, by rw [hn]⟩, q1⟩
theorem ev_lenSetS {K : PySem.W.Frag} {σ : L2.St} {G : Hp} {ta : TE} {l : List Str} (ha : EvR K ta σ G l) (hl : l.length + 1 < scanBound) : EvR K (tLenSetS K ta) σ G (onceN l l.length : Int) := fun H e Q q =>
  ha H e _ fun v G1 H1 g1 ⟨a, xs, ev, hA, r⟩ => ⟨a, l, ev, by
    have e2 := reps_flat r
    subst e2
    exact SqL.of (g1.s _ _ hA), hl, q _ G1 H1 g1 rfl⟩
end RL

set_option Elab.async false
set_option linter.all false
set_option maxRecDepth 100000
set_option maxHeartbeats 4000000
namespace RL
open PySem PySem.Spec PyProof.Rows L2
open Rep (rep)
/-! ### own errors: class B(ValueError): pass; class C(B) with an __init__ that calls B.__init__ and stores one field -/
section
variable {X : Cx} {e : Expr} {es : List Expr} {ta : TA} {p p1 p2 pos : Pos}
/-- B.__init__(self, ..), B an own class over ValueError that has none itself -/
theorem pe_baseInit {x : Str} {B : Addr} {mc : Value} {pl : Sem Bool} (hg : Gl X x) (hm : X.mg x = some (.ref B)) (rd : ClX.CRead X.K B mc) (vB : PySem.W.findCls X.K (.ref B) mc "__init__" = some (.val (.builtin "ValueError.__init__"))) (ha : PA X (e :: es) ta)
    (hc : eval (.Call (.Attribute (.Name x p1) "__init__" p2) (e :: es) [] pos) X.env = (do
      let ov ← eval (.Name x p1) X.env
      standAt p2.atName
      let (f, first) ← holding [ov] (getMethod ov "__init__" pl)
      callWith pos f first (backTo pos (starEach (e :: es) X.env)) (backToKw pos (keywordEach [] X.env))) := by rfl)
    (he : starEach (e :: es) X.env = (false, eval e X.env) :: starEach es X.env := by rfl) (hpl : (backTo pos (starEach es X.env)).any (·.1) = false := by rfl) (hdb : (x == ("__debug__" : Str)) = false := by decide) :
    PE X (.Call (.Attribute (.Name x p1) "__init__" p2) (e :: es) [] pos) (tVeI X.K ta) := by
  refine ⟨fun pins s σ H Q I h => PySem.W.methodCall_KW (ld_glob I hg hm ?_ hdb) hc⟩
  refine PySem.W.method_cls I.kIn rd.ga (PySem.W.cls_value I.kIn rd.rd vB rfl ?_)
  show wpAny _ _ (callWith pos (Value.builtin "ValueError.__init__") [] (backTo pos (starEach (e :: es) X.env)) []) _ _ _
  refine PyProof.Rows.callWith_method1 (thn (ha.run pos pins _ σ H _ (I.tok _) h) fun us s1 ⟨vs, H1, I1, r1, a, C, ws, ev, hl, T, ea, q⟩ => ?_) he hpl
  subst ev
  cases r1 with
  | @cons _ u0 _ ur ra rw' =>
    obtain rfl : u0 = Value.ref a := ra
    have room : ur.length ≤ sizeLine := by rw [← Paired.length rw', sizeLine_eq]; omega
    exact oinit_ok T I1 ea room fun s2 J => ⟨.non, H1, J, rfl, q⟩
end
/-- what the written part says of such a class: at C, named n; its base at B, named b; its __init__ at fI; its field f -/
structure ErrTxt (K : PySem.W.Frag) (mg : Str → Option Value) (n b f : Str) (C B fI : Addr) : Prop where
  gC : mg n = some (.ref C)
  gB : mg b = some (.ref B)
  ox : OexC K C
  iC : PySem.W.findIn K (.ref C) "__init__" = some (some (.ref fI))
  tI : PySem.W.typeIn K (.ref fI) = some (.type "function")
  rd : ClX.CRead K B (.type "type")
  vB : PySem.W.findCls K (.ref B) (.type "type") "__init__" = some (.val (.builtin "ValueError.__init__"))
  nF : PySem.W.findIn K (.ref C) f = some none
  xf : XfC K C
  te : PySem.W.exmOne K (.ref C) (.ref C) = some true
/-- what __init__(self, x) keeps: the field alone is stored -/
def spErr (C : Addr) (f : Str) (ok : V → Prop) : Sp := fun vs H Q _ => ∃ a v, vs = [.ref a, v] ∧ ok v ∧ H a = some (exo a C none) ∧ ∀ d, H d = none → d ≠ a → Q .non (upd (upd H d (exd d [(f, v)])) a (exo a C (some d)))
/-- an error of the class at C with the field f = v leaves -/
def ErrAt (C : Addr) (f : Str) (v : V) (H : Hp) (E : XK) : Prop := ∀ d H', Same H H' → H d = none → H' d = some (.xd [(f, v)]) → E (.ref C) (some d) H'
theorem err_made {C : Addr} {f : Str} {ok : V → Prop} {v : V} {te : TE} {σ : L2.St} {G H : Hp} {E : XK} {α : Type} [Rep α] {K : PySem.W.Frag} {x : α} (e : Same G H) (h : EvR K te σ G x) (hv : ∀ w G, rep K x w G → w = v) (hok : ok v) (k : ErrAt C f v H E) :
    tMkO C (spErr C f ok) [] (tCons te tNil) σ H (fun cls d H' => E cls d H') := h H e _ fun w G1 H1 g1 r1 => by
  obtain rfl := hv w G1 r1
  refine ⟨by show 1 ≤ 1000; decide, fun a ha => ⟨a, w, rfl, hok, upd_same, fun d hd hne => ⟨rfl, d, [(f, w)], upd_same, ?_, ?_, ?_⟩⟩⟩
  · rw [upd_ne hne, upd_same]
  · rw [upd_ne hne] at hd
    exact hd
  · rw [upd_ne hne] at hd
    refine k d _ (fun b o q => ?_) (g1.h.free hd) upd_same
    have q1 := g1.h b o q
    have nb : b ≠ d := ne_of_none q1 hd
    have na : b ≠ a := ne_of_none q1 ha
    rw [upd_ne nb, del_ne na, upd_ne na, upd_ne nb, upd_ne na]
    exact q1
/-- isinstance(e, c), e the caught exception that stands at a, of the class cls, with the dict d -/
def rIsX (K : PySem.W.Frag) (a : Addr) (cls : Value) (d : Option Addr) : List V → Hp → VK → Prop := fun xs H Q => ∃ (D dd : Addr) (c : V) (cv : Value) (b : Bool) (fs : List (Str × V)), xs = [.ref a, c] ∧ cls = .ref D ∧ d = some dd ∧ ExcC K D ∧ (∀ u, RelV c u → u = cv) ∧
  PySem.W.kitOne K (.ref D) cv = some b ∧ H dd = some (.xd fs) ∧ Q (.bl b) H
theorem call_isX {X : Cx} {a : Addr} {cls : Value} {d : Option Addr} {oe : Obj} {pn : List (Addr × Obj)} (hz : Zc cls d oe) (hf : ∃ vs, oe.data = .fields vs) : CallR (X.suite a ((a, oe) :: pn)) (.builtin "isinstance") (rIsX X.K a cls d) := by
  intro pins s σ H xs us Q I r h
  obtain ⟨D, dd, c, cv, b, fs, rfl, rfl, rfl, C, hcv, e, hd, q⟩ := h
  cases r with
  | cons rx rr =>
    cases rr with
    | cons rt rr =>
      cases rr
      cases rx
      obtain rfl := hcv _ rt
      obtain ⟨hget, _⟩ := I.pin (a, oe) (List.mem_append.mpr (.inl List.mem_cons_self))
      obtain ⟨vs, hv⟩ := hf
      obtain ⟨mA, hns, _⟩ : ∃ mA, s.heap.Ns1 dd mA ∧ ∀ f, RelO (fs.lookup f) (mA f) := I.hok dd _ hd
      obtain ⟨od, ho, hl⟩ := lookIn_ns hns
      have J : PySem.W.InstAt s.heap a oe D (some od) := ⟨hget, hz.1, by unfold PySem.W.notCls; rw [hv] <;> rfl, by rw [hz.2]; exact ho⟩
      have hcl : (PySem.W.clsIn X.K D).isSome = true := by
        obtain ⟨cd, hc, _⟩ := PySem.W.any_some C.hd
        rw [hc]
        rfl
      exact PySem.W.kia_one (PySem.W.kitx_exc hcl C.hg C.hk C.hs C.ha C.hn C.ht C.hm) I.kIn J e (fun z => nomatch z) fun tk => ⟨.bl b, H, I.kept (t' := tk) fun _ _ z => z, rfl, q⟩
end RL

set_option Elab.async false
set_option linter.all false
set_option maxRecDepth 100000
set_option maxHeartbeats 4000000
namespace RL
open PySem PySem.Spec PyProof.Rows L2
open Rep (rep)
/-! ### items -/
def getI {α : Type} [Inhabited α] (l : List α) (n : Int) : α := (atI l n).getD default
def getS (z : Str) (n : Int) : Str := ⟨#[getI z.cps.toList n]⟩
theorem atI_get {α : Type} [Inhabited α] {l : List α} {n : Int} (h : (atI l n).isSome = true) : atI l n = some (getI l n) := by
  unfold getI
  cases e : atI l n with
  | none => rw [e] at h; cases h
  | some x => rfl
theorem at_in {α : Type} {l : List α} {n : Int} (h0 : 0 ≤ n) (h1 : n < l.length) : (atI l n).isSome = true := by
  have e : ixN l.length n = some n.toNat := by unfold ixN; rw [if_pos h0, if_pos h1]
  unfold atI
  rw [e]
  show (l[n.toNat]?).isSome = true
  rw [List.getElem?_eq_getElem (by omega : n.toNat < l.length)]
  rfl
theorem at_neg {α : Type} {l : List α} {n : Int} (h0 : n < 0) (h1 : -(l.length : Int) ≤ n) : (atI l n).isSome = true := by
  have e : ixN l.length n = some (n + l.length).toNat := by unfold ixN; rw [if_neg (by omega), if_pos h1]
  unfold atI
  rw [e]
  show (l[(n + l.length).toNat]?).isSome = true
  rw [List.getElem?_eq_getElem (by omega)]
  rfl
theorem getI_nat {α : Type} [Inhabited α] {l : List α} {n : Int} (h0 : 0 ≤ n) (h1 : n < l.length) : getI l n = l.getD n.toNat default := by
  have e : ixN l.length n = some n.toNat := by unfold ixN; rw [if_pos h0, if_pos h1]
  unfold getI atI
  rw [e]
  show (l[n.toNat]?).getD default = _
  rw [List.getD_eq_getElem?_getD]
theorem getI_mem {α : Type} [Inhabited α] {l : List α} {n : Int} (h : (atI l n).isSome = true) : getI l n ∈ l := by
  have e := atI_get h
  unfold atI at e
  cases q : ixN l.length n with
  | none => rw [q] at e; cases e
  | some j =>
    rw [q] at e
    exact List.mem_of_getElem? e

/-! ### loops that may be left -/
inductive Step (σ ρ : Type) where
  | go (s : σ)
  | ret (r : ρ)
  | brk (s : σ)
def runL {σ ρ α : Type} (f : σ → α → Step σ ρ) (s : σ) : List α → Step σ ρ
  | [] => .go s
  | x :: l => match f s x with
    | .go s' => runL f s' l
    | .ret r => .ret r
    | .brk s' => .brk s'
theorem runL_append {σ ρ α : Type} (f : σ → α → Step σ ρ) : ∀ (l m : List α) (s s' : σ), runL f s l = .go s' → runL f s (l ++ m) = runL f s' m
  | [], m, s, s', h => by
    have e : Step.go s = Step.go s' := h
    cases e
    rfl
  | x :: l, m, s, s', h => by
    show (match f s x with | .go s' => runL f s' (l ++ m) | .ret r => .ret r | .brk s' => .brk s') = _
    have h' : (match f s x with | .go s' => runL f s' l | .ret r => .ret r | .brk s' => .brk s') = Step.go s' := h
    cases e : f s x with
    | go a =>
      rw [e] at h'
      exact runL_append f l m a s' h'
    | ret r => rw [e] at h'; cases h'
    | brk a => rw [e] at h'; cases h'
theorem runL_go {σ ρ α : Type} {f : σ → α → Step σ ρ} {l : List α} {s st s' : σ} {i : Nat} {x : α} (h : runL f s (l.take i) = .go st) (hx : l[i]? = some x) (e : f st x = .go s') : runL f s (l.take (i + 1)) = .go s' := by
  rw [take_snoc hx, runL_append f _ _ _ _ h]
  show (match f st x with | .go s' => runL f s' [] | .ret r => .ret r | .brk s' => .brk s') = _
  rw [e]
  rfl
theorem split_at {α : Type} {l : List α} {i : Nat} {x : α} (hx : l[i]? = some x) : l = l.take i ++ x :: l.drop (i + 1) := by
  obtain ⟨h, e⟩ := List.getElem?_eq_some_iff.mp hx
  rw [← e, ← List.drop_eq_getElem_cons h, List.take_append_drop]
theorem runL_ret {σ ρ α : Type} {f : σ → α → Step σ ρ} {l : List α} {s st : σ} {i : Nat} {x : α} {r : ρ} (h : runL f s (l.take i) = .go st) (hx : l[i]? = some x) (e : f st x = .ret r) : runL f s l = .ret r := by
  rw [split_at hx, runL_append f _ _ _ _ h]
  show (match f st x with | .go s' => runL f s' _ | .ret r => .ret r | .brk s' => .brk s') = _
  rw [e]
def exitF {σ ρ : Type} (a : Step σ ρ) (k : σ → ρ) : ρ := match a with
  | .go s => k s
  | .ret r => r
  | .brk s => k s
def exitS {σ σ' ρ : Type} (a : Step σ ρ) (k : σ → Step σ' ρ) : Step σ' ρ := match a with
  | .go s => k s
  | .ret r => .ret r
  | .brk s => k s
theorem exitF_go {σ ρ : Type} {s : σ} {k : σ → ρ} : exitF (.go s) k = k s := rfl
theorem exitS_go {σ σ' ρ : Type} {s : σ} {k : σ → Step σ' ρ} : exitS (.go s) k = k s := rfl
theorem exitF_ret {σ ρ : Type} {m r : ρ} {a : Step σ ρ} {k : σ → ρ} (h : m = exitF a k) (e : a = .ret r) : m = r := by rw [h, e]; rfl
theorem exitS_ret {σ σ' ρ : Type} {m : Step σ' ρ} {r : ρ} {a : Step σ ρ} {k : σ → Step σ' ρ} (h : m = exitS a k) (e : a = .ret r) : m = .ret r := by rw [h, e]; rfl
theorem rgs_at {m n : Int} {i : Nat} (h : m + (i : Int) < n) : ∃ d, m + (i : Int) = d ∧ (rgs m n)[i]? = some d ∧ m ≤ d ∧ d < n := by
  refine ⟨m + (i : Int), rfl, ?_, by omega, h⟩
  unfold rgs
  rw [List.getElem?_map, List.getElem?_range (by omega)]
  rfl
theorem rgs_at0 {n : Int} {i : Nat} (h : (i : Int) < n) : ∃ d, (i : Int) = d ∧ (rgs 0 n)[i]? = some d ∧ 0 ≤ d ∧ d < n := by
  obtain ⟨d, e1, e2, e3, e4⟩ := rgs_at (m := 0) (n := n) (i := i) (by omega)
  exact ⟨d, by omega, e2, e3, e4⟩
theorem rgs_len (m n : Int) : (rgs m n).length = (n - m).toNat := by unfold rgs; rw [List.length_map, List.length_range]
theorem rgs_take (m n : Int) : List.take (n - m).toNat (rgs m n) = rgs m n := by rw [← rgs_len m n, List.take_length]
theorem rgs_take0 (n : Int) : List.take n.toNat (rgs 0 n) = rgs 0 n := by
  have h := rgs_take 0 n
  rw [Int.sub_zero] at h
  exact h

/-! ### chains, comprehensions without if -/
section
variable {α β γ : Type} [Rep α] [Rep β] [Rep γ] {K : PySem.W.Frag} {σ : L2.St} {G : Hp} {te ta tb tl : TE} {x : α} {y : β} {vs : List Nat}
theorem rv_le {G : Hp} {m n : Int} : ∀ v w G1 H1, Same G G1 → Same G1 H1 → rep K m v G1 → rep K n w G1 → ∀ Q : VK, (∀ G2 H2, Grow G1 H1 G2 H2 → Q (.bl (decide (m ≤ n))) H2) → (rI0 fun i j => .bl (decide (i ≤ j))) v w H1 Q :=
  fun v w G1 H1 _ s hv hw Q q => ⟨m, n, hv, hw, q G1 H1 (Grow.refl s)⟩
theorem rv_lt {G : Hp} {m n : Int} : ∀ v w G1 H1, Same G G1 → Same G1 H1 → rep K m v G1 → rep K n w G1 → ∀ Q : VK, (∀ G2 H2, Grow G1 H1 G2 H2 → Q (.bl (decide (m < n))) H2) → (rI0 fun i j => .bl (decide (i < j))) v w H1 Q :=
  fun v w G1 H1 _ s hv hw Q q => ⟨m, n, hv, hw, q G1 H1 (Grow.refl s)⟩
theorem rv_leS {G : Hp} {m n : Str} : ∀ v w G1 H1, Same G G1 → Same G1 H1 → rep K m v G1 → rep K n w G1 → ∀ Q : VK, (∀ G2 H2, Grow G1 H1 G2 H2 → Q (.bl (!decide (n.cps.toList < m.cps.toList))) H2) →
    (fun x y H Q => ∃ i j, x = V.str i ∧ y = V.str j ∧ Q (V.bl (!decide (j.cps.toList < i.cps.toList))) H : R2) v w H1 Q :=
  fun v w G1 H1 _ s hv hw Q q => ⟨m, n, hv, hw, q G1 H1 (Grow.refl s)⟩
theorem filt_true {α : Type} (l : List α) : l.filter (fun _ => true) = l := by
  induction l with
  | nil => rfl
  | cons a l ih => rw [List.filter_cons_of_pos rfl, ih]
theorem ev_lcLm {l : List α} {g : TG} (h : α → β) (hl : EvR K tl σ G l) (hz : l.length < sizeLine)
    (ht : ∀ x v G' H', Same G G' → Same G' H' → x ∈ l → rep K x v G' → ∀ (P : L2.St → Hp → Prop), (∀ σ2, wipe σ2 vs = wipe σ vs → EvB tYes σ2 G' true → (true = true → EvR K te σ2 G' (h x)) → P σ2 H') → g v (wipe σ vs) H' P) :
    EvR K (tLc (iList K tl) g tYes te vs) σ G (l.map h) := (ev_lcL (fun _ => true) h hl hz ht).to (by rw [filt_true])
theorem ev_lcTm {l : Tpl α} {g : TG} (h : α → β) (hl : EvR K tl σ G l) (hz : l.l.length < sizeLine)
    (ht : ∀ x v G' H', Same G G' → Same G' H' → x ∈ l.l → rep K x v G' → ∀ (P : L2.St → Hp → Prop), (∀ σ2, wipe σ2 vs = wipe σ vs → EvB tYes σ2 G' true → (true = true → EvR K te σ2 G' (h x)) → P σ2 H') → g v (wipe σ vs) H' P) :
    EvR K (tLc (iTup K tl) g tYes te vs) σ G (l.l.map h) := (ev_lcT (fun _ => true) h hl hz ht).to (by rw [filt_true])
theorem ev_lcR1m {n : Int} {g : TG} (h : Int → β) (hl : EvR K te σ G n) (hn : n < 16777216 ∧ -16777216 < n) {tf : TE}
    (ht : ∀ x G' H', 0 ≤ x → x < n → Same G G' → Same G' H' → ∀ (P : L2.St → Hp → Prop), (∀ σ2, wipe σ2 vs = wipe σ vs → EvB tYes σ2 G' true → (true = true → EvR K tf σ2 G' (h x)) → P σ2 H') → g (.int x) (wipe σ vs) H' P) :
    EvR K (tLc (iRng1 (tCons te tNil)) g tYes tf vs) σ G ((rgs 0 n).map h) := (ev_lcR1 (fun _ => true) h hl hn ht).to (by rw [filt_true])
theorem ev_lcR2m {m n : Int} {g : TG} (h : Int → β) (hl : EvR K ta σ G m) (hh : EvR K te σ G n) (hn : -16777216 < m ∧ m < 16777216 ∧ n < 16777216 ∧ -16777216 < n ∧ n - m < 16777216) {tf : TE}
    (ht : ∀ x G' H', m ≤ x → x < n → Same G G' → Same G' H' → ∀ (P : L2.St → Hp → Prop), (∀ σ2, wipe σ2 vs = wipe σ vs → EvB tYes σ2 G' true → (true = true → EvR K tf σ2 G' (h x)) → P σ2 H') → g (.int x) (wipe σ vs) H' P) :
    EvR K (tLc (iRng2 (tCons ta (tCons te tNil))) g tYes tf vs) σ G ((rgs m n).map h) := (ev_lcR2 (fun _ => true) h hl hh hn ht).to (by rw [filt_true])
/-- a list of texts or None that has no None -/
def texts (l : List (Option Str)) : List Str := l.filterMap id
theorem texts_map {l : List (Option Str)} (h : none ∉ l) : (texts l).map some = l := by
  unfold texts
  induction l with
  | nil => rfl
  | cons o l ih =>
    cases o with
    | none => exact absurd List.mem_cons_self h
    | some x =>
      show (x :: List.filterMap id l).map some = some x :: l
      rw [List.map_cons, ih fun q => h (.tail _ q)]
theorem ev_texts {l : List (Option Str)} (h : EvR K te σ G l) (hn : none ∉ l) : EvR K te σ G (texts l) := fun H e Q q => h H e Q fun v G1 H1 g1 ⟨a, xs, ev, hA, r⟩ => q v G1 H1 g1 ⟨a, xs, ev, hA, by
  have e1 := reps_flat r
  have e2 : xs = (texts l).map V.str := by
    rw [e1]
    conv => lhs; rw [← texts_map hn]
    rw [List.map_map]
    rfl
  rw [e2]
  exact reps_of_flat (texts l)⟩
end
/-! ### list.count of texts -/
theorem countP_eqU {x : V} : ∀ {xs : List V} {us : List Value}, Vals xs us → xs.all flatV = true → us.countP (eqU x) = xs.countP fun y => eqV y x
  | _, _, .nil, _ => rfl
  | y :: xs, u :: us, .cons r t, f => by
    rw [List.all_cons, Bool.and_eq_true] at f
    rw [List.countP_cons, List.countP_cons, eqU_of r f.1, countP_eqU t f.2]
def rCntV (K : PySem.W.Frag) : V → List V → Hp → VK → Prop := fun x args H Q => ∃ (p : Addr) (xs : List V) (y : V), x = .ref p ∧ args = [y] ∧ SqL K H p xs ∧ flatV y = true ∧ xs.all flatV = true ∧ Q (.int (xs.countP (fun z => eqV z y) : Nat)) H
theorem mt_countS {X : Cx} : MtR X "list.count" (rCntV X.K) := fun pins s σ H x args v us Q I rx rv ⟨p, xs, y, ex, ea, hs, fy, fx, q⟩ => by
  subst ex ea
  obtain rfl : v = Value.ref p := rx
  obtain ⟨u, rfl, ru⟩ := rv.one
  obtain ⟨its, ri, ⟨⟨cls, dd, data, sl⟩, n, ho, hc, hdn, hd⟩, hlen⟩ := I.list hs
  simp only at hc hd
  subst hc hd
  refine call_meets PySem.F.slot_list_count ⟨_, ho, rfl⟩ PySem.F.entry_list_count (PySem.F.args_list_count_2 _ _) (SeqAt.list_countAt p its.toArray n dd sl u (eqU y)) ⟨ho, fun z hz => mem_eqAt ru fy ri fx z (by simpa using hz), ?_⟩
  have e : its.toArray.toList.countP (eqU y) = xs.countP fun z => eqV z y := by
    rw [List.toList_toArray]
    exact countP_eqU ri fx
  rw [e]
  exact ⟨.int (xs.countP (fun z => eqV z y) : Nat), H, I.tok _, ⟨s.toks, rfl⟩, q⟩
theorem ev_countS {K : PySem.W.Frag} {σ : L2.St} {G : Hp} {ta tb : TE} {l : List Str} {x : Str} (ha : EvR K ta σ G l) (hb : EvR K tb σ G x) : EvR K (tBM K "list" (rCntV K) ta (tCons tb tNil)) σ G ((List.count x l : Nat) : Int) := fun H e Q q =>
  ha H e _ fun v G1 H1 g1 r1 => by
    obtain ⟨a, xs, ev, hA, r⟩ := id r1
    refine ⟨by rw [ev]; exact .inl ⟨rfl, xs, SqL.of (g1.s _ _ hA)⟩, hb.mono g1.g H1 g1.s _ fun w G2 H2 g2 r2 => ?_⟩
    have ex := reps_flat r
    subst ex
    refine ⟨a, _, w, ev, rfl, SqL.of (g2.h _ _ (g1.s _ _ hA)), by rw [show w = V.str x from r2]; rfl, flat_all, ?_⟩
    have e2 : (l.map Flat.toV).countP (fun z => eqV z w) = List.count x l := by
      rw [List.countP_map, show w = Flat.toV x from r2, List.count]
      refine List.countP_congr fun z _ => ?_
      rw [Function.comp, Flat.eqv z x]
      simp
    rw [e2]
    exact q _ G2 H2 (g1.trans g2) rfl
/-! ### text * n -/
def mulS (x : Str) (n : Int) : Str := ⟨(List.replicate n.toNat x.cps.toList).flatten.toArray⟩
theorem fold_cps : ∀ (n : Nat) (a b : Array Nat), ((List.replicate n a).foldl (· ++ ·) b).toList = b.toList ++ (List.replicate n a.toList).flatten
  | 0, a, b => by simp
  | n + 1, a, b => by
    rw [List.replicate_succ, List.foldl_cons, fold_cps n a (b ++ a), List.replicate_succ, List.flatten_cons, Array.toList_append, List.append_assoc]
/-! ### what a def keeps that may raise an error of the class at C with the text field f -/
section
variable {α β ρ : Type} [Rep α] [Rep β] [Rep ρ]
def spx1 (K : PySem.W.Frag) (C : Addr) (f : Str) (pre : α → Prop) (m : α → Except Str ρ) : Sp := fun vs H Q E => ∃ x v G, vs = [v] ∧ Same G H ∧ rep K x v G ∧ pre x ∧
  (∀ y, m x = .ok y → ∀ u G' H', Grow G H G' H' → rep K y u G' → Q u H') ∧ ∀ s, m x = .error s → ErrAt C f (.str s) H E
end
theorem tpl_written {K : PySem.W.Frag} {q : Addr} {qd : Option Addr} {qi : Array Value} {qn : Nat} {qs : Array (Option Value)} {ks : List Str} (l : K.lookup q = some ⟨.type "tuple", qd, .seq qi qn, qs⟩) (v : Vals (ks.map V.str) qi.toList) (hz : ks.length ≤ 1000 := by decide) {G : Hp} : rep K (Tpl.mk ks) (V.ref q) G := by
  refine ⟨q, ks.map V.str, rfl, .inr ⟨_, qi, qn, l, rfl, rfl, ?_, v⟩, reps_of_flat ks⟩
  have e : (ks.map V.str).length = qi.toList.length := Vals.length v
  have e2 : qi.toList.length = qi.size := Array.length_toList
  rw [List.length_map] at e
  rw [← e2, ← e, sizeLine_eq]
  omega
end RL
namespace RL
open PySem PySem.Spec PyProof.Rows L2
open Rep (rep)
/-! ### the rules that name the written part, with it told: they hold within a comprehension as well -/
section
variable {X : Cx} {K : PySem.W.Frag}
theorem op_inK (h : X.K = K := by rfl) : OpR X (compareOp .In) (rIn K false) := by subst h; exact op_in_seq
theorem op_notInK (h : X.K = K := by rfl) : OpR X (compareOp .NotIn) (rIn K true) := by subst h; exact op_notIn_seq
theorem ix_listK (h : X.K = K := by rfl) : IxR X (rIxL K) := by subst h; exact ix_list
theorem ix_tupK (h : X.K = K := by rfl) : IxR X (rIxT K) := by subst h; exact ix_tup
theorem sl_listK (h : X.K = K := by rfl) : SlR X (rSlL K) := by subst h; exact sl_list
theorem call_lenK (h : X.K = K := by rfl) : CallR X (.builtin "len") (rLen K) := by subst h; exact call_len
theorem call_listK (h : X.K = K := by rfl) : CallR X (.type "list") (fun xs H Q => ∃ p ys, xs = [.ref p] ∧ (SqL K H p ys ∨ SqT K H p ys) ∧ ∀ l, H l = none → Q (.ref l) (upd H l (.lst ys))) := by subst h; exact call_list_of
theorem mt_countK (h : X.K = K := by rfl) : MtR X "list.count" (rCntV K) := by subst h; exact mt_countS
variable {a e o : Expr} {ta te to : TE} {tg : Expr} {k : Nat} {p1 p2 p3 pos p q apos cpos : Pos} {es : List Expr} {t : TA}
theorem pe_revK (he : PE X e te) (h : X.K = K := by rfl) : PE X (.Subscript e (.Slice none none (some (.UnaryOp .USub (.Constant (.int 1) k p1) p2)) p3) pos) (tRevL K te) := by subst h; exact pe_revL he
theorem pi_listK (he : PE X e te) (h : X.K = K := by rfl) : PI X tg e (iList K te) := by subst h; exact pi_list he
theorem pi_tupK (he : PE X e te) (h : X.K = K := by rfl) : PI X tg e (iTup K te) := by subst h; exact pi_tup he
theorem pe_lenSetK (hc : X.calm = true) (hg : Gl X "len") (hm : X.mg "len" = none) (hg2 : Gl X "set") (hm2 : X.mg "set" = none) (ha : PE X a ta)
    (na : starEach [a] X.env = (false, eval a X.env) :: starEach [] X.env := by rfl) (h : X.K = K := by rfl) : PE X (.Call (.Name "len" p) [.Call (.Name "set" p2) [a] [] q] [] pos) (tLenSetS K ta) := by subst h; exact pe_lenSetS hc hg hm hg2 hm2 ha na
theorem pa_starK (he : PE X e te) (hr : PA X es t) (hs : starEach (.Starred e p :: es) X.env = (true, eval e X.env) :: starEach es X.env := by rfl) (h : X.K = K := by rfl) : PA X (.Starred e p :: es) (StX.tStar K te t) := by subst h; exact StX.pa_star he hr hs
end
end RL
namespace RL
open PySem PySem.Spec PyProof.Rows L2
section
variable {X : Cx} {K : PySem.W.Frag} {e o : Expr} {te to : TE} {apos cpos pos : Pos}
theorem pe_joinK (ho : PE X o to) (he : PE X e te) (hs : starEach [e] X.env = [(false, eval e X.env)] := by rfl) (hbase : attributeBase o "join" X.env (eval o X.env) = eval o X.env := by rfl) (hline : (apos.endLine == pos.line) = true := by rfl) (h : X.K = K := by rfl) :
    PE X (.Call (.Attribute o "join" apos) [e] [] pos) (tM1 (fun x xs H Q => ∃ a p, ∃ ys : List Str, x = .str a ∧ xs = [.ref p] ∧ (SqL K H p (ys.map V.str) ∨ SqT K H p (ys.map V.str)) ∧
      (ys.map (·.length)).sum + ys.length * a.length ≤ 16777216 ∧ Q (.str (Txt.join a ys)) H) to te) := by subst h; exact pe_join ho he hs hbase hline
theorem pe_bmK {es : List Expr} {t : TA} {name : Str} {T id : String} {r : V → List V → Hp → VK → Prop} (pa : PlainAttrs T) (slot : Slot T name id) (hty : typeOf (.builtin id) = pure (.type "method_descriptor")) (hm : MtR X id r) (ho : PE X o to) (ha : PA X (e :: es) t)
    (hbase : attributeBase o name X.env (eval o X.env) = eval o X.env := by rfl)
    (hfew : ((backTo cpos (starEach (e :: es) X.env)).all (fun x => !x.1) && (backToKw cpos (keywordEach [] X.env)).all (fun x => x.1.isSome)
      && decide ((e :: es).length + ([] : List Keyword).length + (if ([] : List Keyword).isEmpty then 0 else 1) < 30)) = true := by rfl)
    (hline : (apos.endLine == cpos.line) = true := by rfl) (hs : starEach (e :: es) X.env = (false, eval e X.env) :: starEach es X.env := by rfl) (hplain : (backTo cpos (starEach es X.env)).any (·.1) = false := by rfl) (h : X.K = K := by rfl) :
    PE X (.Call (.Attribute o name apos) (e :: es) [] cpos) (tBM K T r to t) := by subst h; exact pe_bm pa slot hty hm ho ha hbase hfew hline hs hplain
end
end RL
namespace RL
open PySem PySem.Spec PyProof.Rows L2
open Rep (rep)
/-! ### the statements, something behind -/
section
variable {α : Type} [Rep α] {K : PySem.W.Frag} {σ : L2.St} {G H : Hp} {te tl ta : TE} {tt : TT} {t u tb tz : TS} {D : Ends} {x : α} {b : Bool} {i j : Nat} {a : Addr}
theorem nx_mk {nx : L2.St → Hp → Prop} {rt : VK} {bk ct : L2.St → Hp → Prop} (h : nx σ H) : Ends.nx ⟨nx, rt, bk, ct⟩ σ H := h
theorem reps_nil {Ge He : Hp} (g : Grow Ge He G H) : Reps K ([] : List α) [] G := .nil
theorem q_asg (e : Same G H) (h : EvR K te σ G x) (k : ∀ v G' H', Grow G H G' H' → rep K x v G' → tz D (σ.set i (some v)) H') : tSeq (tAsg te (gName i)) tz D σ H := s_asg (D := { D with nx := tz D }) e h k
theorem q_drop (e : Same G H) (h : EvR K te σ G x) (k : ∀ G' H', Grow G H G' H' → tz D σ H') : tSeq (tDrop te) tz D σ H := s_drop (D := { D with nx := tz D }) e h k
theorem q_if (e : Same G H) (h : EvB tt σ G b) (k1 : b = true → ∀ G' H', Grow G H G' H' → t { D with nx := tz D } σ H') (k2 : b = false → ∀ G' H', Grow G H G' H' → u { D with nx := tz D } σ H') : tSeq (tIfS tt t u) tz D σ H := s_if (D := { D with nx := tz D }) e h k1 k2
theorem q_new (k : ∀ p, H p = none → tz D (σ.set i (some (.ref p))) (upd H p (.lst []))) : tSeq (tAsg (tLst tNil) (gName i)) tz D σ H := s_new (D := { D with nx := tz D }) k
theorem q_app {xs : List V} (e : Same G H) (hi : σ[i]? = some (some (.ref a))) (ha : H a = some (.lst xs)) (hz : xs.length < sizeLine) (h : EvR K te σ G x)
    (k : ∀ v G' H', Grow G H G' H' → rep K x v G' → tz D σ (upd H' a (.lst (xs ++ [v])))) : tSeq (tDrop (tBM K "list" rAppend (tVar i) (tCons te tNil))) tz D σ H := s_app (D := { D with nx := tz D }) e hi ha hz h k
theorem q_newF {Ge He : Hp} (gr : Grow Ge He G H) (k : ∀ p H2, He p = none → G p = none → H p = none → H2 p = some (.lst []) → Grow Ge He G H2 → Same H H2 → tz D (σ.set i (some (.ref p))) H2) : tSeq (tAsg (tLst tNil) (gName i)) tz D σ H := s_newF (D := { D with nx := tz D }) gr k
theorem q_appF {Ge He : Hp} {xs : List V} {l : List α} (gr : Grow Ge He G H) (hF : He a = none) (hN : G a = none) (hi : σ[i]? = some (some (.ref a))) (ha : H a = some (.lst xs)) (hl : Reps K l xs G) (hz : l.length < sizeLine) (h : EvR K te σ G x)
    (k : ∀ G' H' H2 zs, Grow G H G' H' → Grow Ge He G' H2 → G' a = none → H2 a = some (.lst zs) → Reps K (l ++ [x]) zs G' → (∀ b, b ≠ a → H2 b = H' b) → tz D σ H2) : tSeq (tDrop (tBM K "list" rAppend (tVar i) (tCons te tNil))) tz D σ H := s_appF (D := { D with nx := tz D }) gr hF hN hi ha hl hz h k
theorem q_forL {l : List α} {g : TG} (e : Same G H) (h : EvR K tl σ G l) (k : ∀ G1 H1 xs, Grow G H G1 H1 → Reps K l xs G1 → ∃ Pv : Nat → L2.St → Hp → Prop, Pv 0 σ H1 ∧ (∀ i σ' H', Pv i σ' H' → Same G1 H') ∧
    (∀ i x v σ' H', l[i]? = some x → rep K x v G1 → Pv i σ' H' → g v σ' H' fun σ2 H2 => tb { D with nx := Pv (i + 1), ct := Pv (i + 1), bk := tz D } σ2 H2) ∧ ∀ σ' H', Pv l.length σ' H' → tz D σ' H') : tSeq (tFor (iList K tl) g tb) tz D σ H :=
  s_forL (D := { D with nx := tz D }) e h k
theorem q_forT {l : Tpl α} {g : TG} (e : Same G H) (h : EvR K tl σ G l) (k : ∀ G1 H1 xs, Grow G H G1 H1 → Reps K l.l xs G1 → ∃ Pv : Nat → L2.St → Hp → Prop, Pv 0 σ H1 ∧ (∀ i σ' H', Pv i σ' H' → Same G1 H') ∧
    (∀ i x v σ' H', l.l[i]? = some x → rep K x v G1 → Pv i σ' H' → g v σ' H' fun σ2 H2 => tb { D with nx := Pv (i + 1), ct := Pv (i + 1), bk := tz D } σ2 H2) ∧ ∀ σ' H', Pv l.l.length σ' H' → tz D σ' H') : tSeq (tFor (iTup K tl) g tb) tz D σ H :=
  s_forT (D := { D with nx := tz D }) e h k
theorem q_forR1 {n : Int} (e : Same G H) (h : EvR K te σ G n) (hn : -(2 ^ 62) ≤ n ∧ n < 2 ^ 62) (k : ∀ G1 H1, Grow G H G1 H1 → ∃ Pv : Nat → L2.St → Hp → Prop, Pv 0 σ H1 ∧
    (∀ (i : Nat) σ' H', (i : Int) < n → Pv i σ' H' → tb { D with nx := Pv (i + 1), ct := Pv (i + 1), bk := tz D } (σ'.set j (some (.int (i : Int)))) H') ∧ ∀ σ' H', Pv n.toNat σ' H' → tz D σ' H') : tSeq (tFor (iRng1 (tCons te tNil)) (gName j) tb) tz D σ H :=
  s_forR1 (D := { D with nx := tz D }) e h hn k
theorem q_forR2 {m n : Int} (e : Same G H) (h : EvR K ta σ G m) (h2 : EvR K te σ G n) (hn : -(2 ^ 62) ≤ m ∧ m < 2 ^ 62 ∧ -(2 ^ 62) ≤ n ∧ n < 2 ^ 62) (k : ∀ G1 H1, Grow G H G1 H1 → ∃ Pv : Nat → L2.St → Hp → Prop, Pv 0 σ H1 ∧
    (∀ (i : Nat) σ' H', m + (i : Int) < n → Pv i σ' H' → tb { D with nx := Pv (i + 1), ct := Pv (i + 1), bk := tz D } (σ'.set j (some (.int (m + (i : Int))))) H') ∧ ∀ σ' H', Pv (n - m).toNat σ' H' → tz D σ' H') : tSeq (tFor (iRng2 (tCons ta (tCons te tNil))) (gName j) tb) tz D σ H :=
  s_forR2 (D := { D with nx := tz D }) e h h2 hn k
end
theorem un_some {α : Type} [Rep α] {K : PySem.W.Frag} {x : α} {v : V} {G : Hp} (h : rep K (some x) v G) : rep K x v G := h
theorem condT {α : Type} {c : Bool} {a b m : α} (h : m = cond c a b) (e : c = true) : m = a := by rw [h, e]; rfl
theorem condF {α : Type} {c : Bool} {a b m : α} (h : m = cond c a b) (e : c = false) : m = b := by rw [h, e]; rfl
end RL

set_option Elab.async false
set_option linter.all false
set_option maxRecDepth 100000
set_option maxHeartbeats 1000000
/-! texts, lists: plain mathematics for the laws -/
namespace RL
open PySem PySem.Spec PyProof.Rows L2 TL
theorem len_tl (x : Str) : x.length = (tl x).length := by simp [Str.length, tl]
theorem len_app (x y : Str) : (x ++ y).length = x.length + y.length := by rw [len_tl, len_tl, len_tl, tl_append, List.length_append]
theorem join_len (y : Str) : ∀ l : List Str, (Txt.join y l).length = (l.map (·.length)).sum + (l.length - 1) * y.length
  | [] => by rw [join_eq]; simp [Str.join, Str.empty, Str.length]
  | [x] => by rw [join_eq]; show x.length = x.length + 0 + 0 * y.length; omega
  | x :: z :: r => by
    have ih := join_len y (z :: r)
    rw [join_eq] at ih ⊢
    show (x ++ y ++ Str.join y (z :: r)).length = _
    rw [len_app, len_app, ih]
    simp only [List.map_cons, List.sum_cons, List.length_cons, Nat.add_sub_cancel]
    have : (r.length + 1) * y.length = r.length * y.length + y.length := by rw [Nat.add_mul, Nat.one_mul]
    omega
theorem split_ne {x y : Str} (hy : 1 ≤ y.length) : Txt.split x y ≠ [] := fun h => by
  have e := StrLaws.join_split x y
  rw [h] at e
  have e2 : x = Str.empty := e.symm
  subst e2
  unfold Txt.split at h
  have : (decide (Str.empty.length < y.length) || decide (Builtin.Str.strKind Str.empty < Builtin.Str.strKind y)) = true := by
    have : decide (Str.empty.length < y.length) = true := decide_eq_true (by show 0 < y.length; omega)
    rw [this]; rfl
  rw [if_pos this] at h
  cases h
theorem sum_mem {l : List Str} {p : Str} (h : p ∈ l) : p.length ≤ (l.map (·.length)).sum := by
  induction l with
  | nil => cases h
  | cons a l ih =>
    rw [List.map_cons, List.sum_cons]
    rcases List.mem_cons.mp h with e | e
    · subst e; omega
    · have := ih e; omega
theorem split_sum {x y : Str} : ((Txt.split x y).map (·.length)).sum + ((Txt.split x y).length - 1) * y.length = x.length := by
  rw [← join_len y (Txt.split x y), join_eq, StrLaws.join_split]
theorem split_part {x y p : Str} (h : p ∈ Txt.split x y) : p.length ≤ x.length := by
  have h1 := sum_mem h
  have h2 := split_sum (x := x) (y := y)
  omega
theorem split_count {x y : Str} (hy : 1 ≤ y.length) : (Txt.split x y).length ≤ x.length + 1 := by
  have h2 := split_sum (x := x) (y := y)
  have h3 : (Txt.split x y).length - 1 ≤ ((Txt.split x y).length - 1) * y.length := Nat.le_mul_of_pos_right _ hy
  omega
theorem sum_le {l : List Str} {n : Nat} (h : ∀ p ∈ l, p.length ≤ n) : (l.map (·.length)).sum ≤ l.length * n := by
  induction l with
  | nil => simp
  | cons a l ih =>
    rw [List.map_cons, List.sum_cons, List.length_cons, Nat.add_mul, Nat.one_mul]
    have := h a List.mem_cons_self
    have := ih fun p hp => h p (.tail _ hp)
    omega
theorem sum_sub {l m : List Str} (h : l.Sublist m) : (l.map (·.length)).sum ≤ (m.map (·.length)).sum := by
  induction h with
  | slnil => exact Nat.le_refl _
  | cons a _ ih => rw [List.map_cons, List.sum_cons]; omega
  | cons_cons a _ ih => rw [List.map_cons, List.map_cons, List.sum_cons, List.sum_cons]; omega
/-! ### last, all but the last -/
theorem at_last {α : Type} {l : List α} (h : l ≠ []) : (atI l (-1)).isSome = true := at_neg (by omega) (by have := List.length_pos_iff.mpr h; omega)
theorem get_last {α : Type} [Inhabited α] {l : List α} (h : l ≠ []) : getI l (-1) = l.getLast h := by
  have e := atI_get (at_last h)
  have hp := List.length_pos_iff.mpr h
  have e2 : ixN l.length (-1) = some (l.length - 1) := by
    unfold ixN
    rw [if_neg (by omega), if_pos (by omega)]
    congr 1
    omega
  unfold atI at e
  rw [e2] at e
  have e3 : l[l.length - 1]? = some (getI l (-1)) := e
  rw [← List.getLast?_eq_getElem?, List.getLast?_eq_some_getLast h] at e3
  exact (Option.some.inj e3).symm
theorem cut_init {α : Type} (l : List α) : cutL l none (some (-1)) = l.dropLast := by
  unfold cutL
  rw [HT.sIx_none]
  have e : HT.sIx l.length l.length (some (-1)) = l.length - 1 := by
    show (if (-1 : Int) < 0 then (-1 + (l.length : Int)).toNat else min (-1 : Int).toNat l.length) = _
    rw [if_pos (by omega)]
    omega
  rw [e, List.drop_zero, Nat.sub_zero, List.dropLast_eq_take]
theorem cut_from {α : Type} (l : List α) {n : Int} (h : 0 ≤ n) : cutL l (some n) none = l.drop n.toNat := by
  unfold cutL
  rw [HT.sIx_none]
  have e : HT.sIx l.length 0 (some n) = min n.toNat l.length := by
    show (if n < 0 then _ else min n.toNat l.length) = _
    rw [if_neg (by omega)]
  rw [e, List.take_of_length_le (by rw [List.length_drop]; omega)]
  by_cases q : n.toNat ≤ l.length
  · rw [Nat.min_eq_left q]
  · rw [Nat.min_eq_right (by omega), List.drop_length, List.drop_eq_nil_of_le (by omega)]
theorem cut_to {α : Type} (l : List α) {n : Int} (h : 0 ≤ n) : cutL l none (some n) = l.take n.toNat := by
  unfold cutL
  rw [HT.sIx_none]
  have e : HT.sIx l.length l.length (some n) = min n.toNat l.length := by
    show (if n < 0 then _ else min n.toNat l.length) = _
    rw [if_neg (by omega)]
  rw [e, List.drop_zero, Nat.sub_zero]
  by_cases q : n.toNat ≤ l.length
  · rw [Nat.min_eq_left q]
  · rw [Nat.min_eq_right (by omega), List.take_length, List.take_of_length_le (by omega)]
theorem cut_le {α : Type} (l : List α) (a b : Option Int) : (cutL l a b).length ≤ l.length := by
  unfold cutL
  rw [List.length_take, List.length_drop]
  omega
theorem cut_sub {α : Type} (l : List α) (a b : Option Int) : (cutL l a b).Sublist l := (List.take_sublist _ _).trans (List.drop_sublist _ _)
theorem cut_mem {α : Type} {l : List α} {a b : Option Int} {x : α} (h : x ∈ cutL l a b) : x ∈ l := List.mem_of_mem_drop (List.mem_of_mem_take h)
/-! ### a list in which one thing answers a question -/
theorem filter_find {α β : Type} [DecidableEq β] (f : α → β) (y : β) : ∀ {l : List α}, (l.map f).Nodup → l.filter (fun a => decide (f a = y)) = (l.find? fun a => decide (f a = y)).toList
  | [], _ => rfl
  | a :: l, h => by
    rw [List.map_cons, List.nodup_cons] at h
    by_cases e : f a = y
    · rw [List.filter_cons_of_pos (by simpa using e), List.find?_cons_of_pos (by simpa using e)]
      have : l.filter (fun a => decide (f a = y)) = [] := by
        rw [List.filter_eq_nil_iff]
        intro b hb q
        have q' : f b = y := by simpa using q
        exact h.1 (e ▸ q' ▸ List.mem_map_of_mem hb)
      rw [this]
      rfl
    · rw [List.filter_cons_of_neg (by simpa using e), List.find?_cons_of_neg (by simpa using e), filter_find f y h.2]
/-! ### ASCII texts -/
def Asc (x : Str) : Prop := ∀ c ∈ tl x, c < 128
theorem lower_tl {x : Str} (h : Asc x) : tl (Txt.lower x) = (tl x).map lo1 := by
  rw [lower_ascii h]
  simp [tl]
theorem upper_tl {x : Str} (h : Asc x) : tl (Txt.upper x) = (tl x).map up1 := by
  rw [upper_ascii h]
  simp [tl]
theorem tl_inj {x y : Str} (h : tl x = tl y) : x = y := by
  rw [← mk_tl x, ← mk_tl y, h]
end RL
namespace RL
open PySem PySem.Spec PyProof.Rows L2 TL
/-! ### sizes that are small -/
def PreT (t : Str) : Prop := t.length ≤ 1000
def NN (l : List Int) : Prop := ∀ x ∈ l, 0 ≤ x
theorem pre_low {t : Str} (h : PreT t) : t.length ≤ 5592405 := Nat.le_trans h (by decide)
theorem pre_line {t : Str} (h : PreT t) : t.length ≤ sizeLine := Nat.le_trans h (by decide)
theorem pre_line2 {t : Str} (h : PreT t) : t.length + 2 ≤ sizeLine := Nat.le_trans (Nat.add_le_add_right h 2) (by decide)
theorem lt_line {n : Nat} (h : n ≤ 100000) : n < sizeLine := Nat.lt_of_le_of_lt h (by decide)
theorem le_line {n : Nat} (h : n ≤ 100000) : n ≤ sizeLine := Nat.le_trans h (by decide)
theorem le_low {n : Nat} (h : n ≤ 100000) : n ≤ 5592405 := Nat.le_trans h (by decide)
theorem pos_of {n : Nat} (h : decide ((0 : Int) < (n : Int)) = true) : (0 : Int) < (n : Int) := of_decide_eq_true h
theorem of_memB {α : Type} [DecidableEq α] {x : α} {l : List α} (h : memB x l = false) : x ∉ l := of_decide_eq_false h
theorem memB_of {α : Type} [DecidableEq α] {x : α} {l : List α} (h : memB x l = true) : x ∈ l := of_decide_eq_true h
theorem memB_in {α : Type} [DecidableEq α] {x : α} {l : List α} (h : x ∈ l) : memB x l = true := decide_eq_true h
theorem memB_no {α : Type} [DecidableEq α] {x : α} {l : List α} (h : x ∉ l) : memB x l = false := decide_eq_false h
theorem memB_iff {α β : Type} [DecidableEq α] [DecidableEq β] {x : α} {l : List α} {y : β} {m : List β} (h : x ∈ l ↔ y ∈ m) : memB x l = memB y m := decide_eq_decide.mpr h
theorem eqB_of {α : Type} [DecidableEq α] {x y : α} (h : eqB x y = true) : x = y := of_decide_eq_true h
theorem ne_eqB {α : Type} [DecidableEq α] {x y : α} (h : eqB x y = false) : x ≠ y := of_decide_eq_false h
theorem eqB_self {α : Type} [DecidableEq α] (x : α) : eqB x x = true := decide_eq_true rfl
theorem texts_le (l : List (Option Str)) : (texts l).length ≤ l.length := List.length_filterMap_le _ _
/-- a short list of short texts, joined by one sign -/
theorem join_fits {l : List Str} {m n : Nat} (hn : l.length ≤ n) (hl : ∀ p ∈ l, p.length ≤ m) {s : Str} (hs : s.length ≤ 1) (hb : n * (m + 1) ≤ 16777216) : (l.map (·.length)).sum + l.length * s.length ≤ 16777216 := by
  have h1 := sum_le hl
  have h2 : l.length * m ≤ n * m := Nat.mul_le_mul_right m hn
  have h3 : l.length * s.length ≤ n * 1 := Nat.mul_le_mul hn hs
  have h4 : n * (m + 1) = n * m + n := by rw [Nat.mul_add, Nat.mul_one]
  omega
theorem join_short {l : List Str} {m n : Nat} (hn : l.length ≤ n) (hl : ∀ p ∈ l, p.length ≤ m) {s : Str} (hs : s.length ≤ 1) : (Txt.join s l).length ≤ n * m + n := by
  rw [join_len]
  have h1 := sum_le hl
  have h2 : l.length * m ≤ n * m := Nat.mul_le_mul_right m hn
  have h3 : (l.length - 1) * s.length ≤ n * 1 := Nat.mul_le_mul (by omega) hs
  omega
theorem runL_all {σ ρ α : Type} {f : σ → α → Step σ ρ} {s : σ} : ∀ {l : List α}, (∀ x ∈ l, f s x = .go s) → runL f s l = .go s
  | [], _ => rfl
  | x :: l, h => by
    show (match f s x with | .go s' => runL f s' l | .ret r => .ret r | .brk s' => .brk s') = _
    rw [h x List.mem_cons_self]
    exact runL_all fun y hy => h y (.tail _ hy)
theorem runL_find {α : Type} (p : α → Bool) : ∀ l : List α, runL (fun (_ : Unit) x => cond (p x) (Step.ret (some x)) (Step.go ())) () l = (match l.find? p with | some x => Step.ret (some x) | none => Step.go ())
  | [] => rfl
  | x :: l => by
    have ih := runL_find p l
    cases h : p x with
    | true => rw [List.find?_cons_of_pos h]; simp only [runL, h]; rfl
    | false =>
      rw [List.find?_cons_of_neg (by rw [h]; decide), ← ih]
      simp only [runL, h]
      rfl
/-! ### a law's draws -/
theorem log_small {n : Int} (h0 : 0 ≤ n) (h : n ≤ 100000) : n.natAbs.log2 < 1920 := by
  have h1 : n.natAbs ≤ 100000 := by omega
  have h2 : n.natAbs.log2 ≤ n.natAbs := Nat.log2_le_self _
  by_cases z : n.natAbs = 0
  · rw [z]; decide
  · have := (Nat.log2_lt z (k := 17)).mpr (by omega)
    omega
end RL
namespace RL
open PySem PySem.Spec PyProof.Rows L2 TL
theorem at_mod {α : Type} {l : List α} {n : Int} (h : 0 < (l.length : Int)) : (atI l (n % (l.length : Int))).isSome = true := at_in (Int.emod_nonneg _ (by omega)) (Int.emod_lt_of_pos _ h)
theorem at_modS {z : Str} {n : Int} (h : 0 < (z.length : Int)) : (atI z.cps.toList (n % (z.length : Int))).isSome = true := by
  have e : z.cps.toList.length = z.length := (len_tl z).symm
  rw [← e] at h ⊢
  exact at_mod h
theorem at_S {z : Str} {n : Int} (h0 : 0 ≤ n) (h : n < (z.length : Int)) : (atI z.cps.toList n).isSome = true := at_in h0 (by
  have e : z.cps.toList.length = z.length := (len_tl z).symm
  rw [e]; exact h)
theorem at_3 {α : Type} {a b c : α} {n : Int} : (atI [a, b, c] (n % 3)).isSome = true := at_in (Int.emod_nonneg _ (by decide)) (Int.emod_lt_of_pos n (by decide))
theorem getI_3 {α : Type} [Inhabited α] {a b c : α} {n : Int} (P : α → Prop) (ha : P a) (hb : P b) (hc : P c) : P (getI [a, b, c] (n % 3)) := by
  have h := getI_mem (at_3 (a := a) (b := b) (c := c) (n := n))
  rcases List.mem_cons.mp h with e | h
  · rw [e]; exact ha
  · rcases List.mem_cons.mp h with e | h
    · rw [e]; exact hb
    · rw [List.mem_singleton.mp h]; exact hc
theorem asc_one {c : Nat} (h : c < 128) : Asc ⟨#[c]⟩ := fun d hd => by
  have e : d = c := List.mem_singleton.mp hd
  rw [e]; exact h
theorem lower_one {c : Nat} (h : c < 128) : Txt.lower ⟨#[c]⟩ = ⟨#[lo1 c]⟩ := tl_inj (lower_tl (asc_one h))
theorem upper_one {c : Nat} (h : c < 128) : Txt.upper ⟨#[c]⟩ = ⟨#[up1 c]⟩ := tl_inj (upper_tl (asc_one h))
theorem rot_perm {α : Type} (l : List α) {a : Int} (h : 0 ≤ a) : (cutL l (some a) none ++ cutL l none (some a)).Perm l := by
  rw [cut_from l h, cut_to l h]
  refine (List.perm_append_comm).trans ?_
  rw [List.take_append_drop]
/-- what a list of a comprehension's items keeps -/
theorem mem_map_all {α β : Type} {f : α → β} {l : List α} {P : β → Prop} (h : ∀ x ∈ l, P (f x)) : ∀ y ∈ l.map f, P y := fun y hy => by
  obtain ⟨x, hx, e⟩ := List.mem_map.mp hy
  rw [← e]; exact h x hx
end RL

set_option Elab.async false
set_option linter.all false
set_option maxRecDepth 100000
set_option maxHeartbeats 4000000
namespace RL
open PySem PySem.Spec PyProof.Rows L2
open Rep (rep)
/-! ### tuples: parts, sums, ==, tuple(..) of a list; texts times a number; isinstance; is True -/
section
variable {X : Cx} {K : PySem.W.Frag}
theorem sl_tupK (h : X.K = K := by rfl) : SlR X (rSlA K) := by subst h; exact sl_tupA
theorem op_catTK (h : X.K = K := by rfl) : OpR X (binaryOp .Add) (rCatA K) := by subst h; exact op_catA
theorem op_eqK (hu : X.A.units + 64 < cLine) (h : X.K = K := by rfl) : OpR X (compareOp .Eq) (rEqD K) := by subst h; exact op_eqD hu
theorem op_neK (hu : X.A.units + 64 < cLine) (h : X.K = K := by rfl) : OpR X (compareOp .NotEq) (rNeD K) := by subst h; exact op_neD hu
theorem call_tupleK (h : X.K = K := by rfl) : CallR X (.type "tuple") (fun xs H Q => ∃ p ys, xs = [.ref p] ∧ ((SqL K H p ys ∧ ∀ l, H l = none → Q (.ref l) (upd H l (.tup ys))) ∨ (SqT K H p ys ∧ Q (.ref p) H))) := by subst h; exact call_tuple_of
theorem call_isiK (h : X.K = K := by rfl) : CallR X (.builtin "isinstance") (rIsi K) := by subst h; exact call_isi
def rMulS : R2 := fun x y H Q => ∃ i n, x = .str i ∧ y = .int n ∧ 0 ≤ n ∧ n < 16777216 ∧ i.length * n.toNat ≤ sizeLine ∧ Q (.str (mulS i n)) H
theorem mulS_one {x : Str} : mulS x 1 = x := by
  obtain ⟨⟨l⟩⟩ := x
  show Str.mk (List.replicate 1 l).flatten.toArray = _
  rw [List.replicate_succ, List.replicate_zero, List.flatten_cons, List.flatten_nil, List.append_nil]
theorem mulS_nil {x : Str} {n : Int} (h : (x.length == 0) = true) : mulS x n = x := by
  obtain ⟨⟨l⟩⟩ := x
  have e : l.length = 0 := by
    have : (Str.mk ⟨l⟩).length = l.length := rfl
    rw [this] at h
    exact beq_iff_eq.mp h
  have e2 : l = [] := List.eq_nil_of_length_eq_zero e
  subst e2
  show Str.mk (List.replicate n.toNat []).flatten.toArray = _
  have : (List.replicate n.toNat ([] : List Nat)).flatten = [] := by
    induction n.toNat with
    | zero => rfl
    | succ k ih => rw [List.replicate_succ, List.flatten_cons, ih]; rfl
  rw [this]
theorem mulS_zero {x : Str} {n : Int} (h : n < 1) : mulS x n = Str.empty := by
  show Str.mk (List.replicate n.toNat x.cps.toList).flatten.toArray = _
  rw [show n.toNat = 0 by omega]
  rfl
theorem mulS_fold {x : Str} {n : Int} : mulS x n = ⟨(List.replicate n.toNat x.cps).foldl (· ++ ·) #[]⟩ := by
  have h := fold_cps n.toNat x.cps #[]
  show Str.mk (List.replicate n.toNat x.cps.toList).flatten.toArray = _
  rw [← Array.toArray_toList (xs := (List.replicate n.toNat x.cps).foldl (· ++ ·) #[]), h]
  rfl
theorem mulS_len (x : Str) (n : Int) : (mulS x n).length = x.length * n.toNat := by
  obtain ⟨⟨l⟩⟩ := x
  show (List.replicate n.toNat l).flatten.toArray.size = l.length * n.toNat
  rw [List.size_toArray]
  induction n.toNat with
  | zero => rfl
  | succ k ih => rw [List.replicate_succ, List.flatten_cons, List.length_append, ih, Nat.mul_succ]; omega
theorem op_repS : OpR X (binaryOp .Mult) rMulS := by
  intro pins s σ H x y v u Q I rx ry h
  obtain ⟨i, n, rfl, rfl, hn, hn2, hz, q⟩ := h
  obtain ⟨t, rfl⟩ := rx
  obtain ⟨t', rfl⟩ := ry
  have f1 : ¬ n < -(2 ^ 63 : Int) := by omega
  have f2 : ¬ n ≥ 2 ^ 63 := by omega
  refine P.mul_str (by rw [decide_eq_false f1, decide_eq_false f2]; rfl) (fun h1 _ => ?_) (fun _ _ => decide_eq_false (by omega)) ?_
  · have hp : 0 < n := by omega
    have h2 : (i.length : Int) * n ≤ (sizeLine : Int) := by
      have e : ((i.length * n.toNat : Nat) : Int) = (i.length : Int) * n := by
        rw [Int.natCast_mul, Int.toNat_of_nonneg hn]
      rw [← e]
      exact Int.ofNat_le.mpr hz
    intro z
    have h3 : ((2 ^ 63 - 1 : Int) / n + 1) * n > 2 ^ 63 - 1 := by
      have := Int.lt_ediv_add_one_mul_self (2 ^ 63 - 1 : Int) hp
      exact this
    have h4 : ((2 ^ 63 - 1 : Int) / n + 1) * n ≤ (i.length : Int) * n := Int.mul_le_mul_of_nonneg_right (by omega) hn
    rw [sizeLine_eq] at h2
    omega
  · by_cases h1 : n < 1
    · rw [if_pos h1]
      rw [mulS_zero h1] at q
      exact ⟨by decide, ⟨.str Str.empty, H, I.tok _, ⟨_, rfl⟩, q⟩⟩
    · rw [if_neg h1]
      by_cases h2 : (n == 1 || i.length == 0) = true
      · rw [if_pos h2]
        have e : mulS i n = i := by
          rcases Bool.or_eq_true_iff.mp h2 with a | a
          · rw [show n = 1 from beq_iff_eq.mp a]; exact mulS_one
          · exact mulS_nil a
        rw [e] at q
        exact ⟨.str i, H, I, ⟨_, rfl⟩, q⟩
      · rw [if_neg h2]
        rw [mulS_fold] at q
        exact ⟨by rw [← mulS_fold]; exact Nat.le_trans (Nat.le_of_eq (mulS_len i n)) hz, ⟨.str _, H, I.tok _, ⟨_, rfl⟩, q⟩⟩
end
section
variable {α β γ : Type} [Rep α] [Rep β] [Rep γ] {K : PySem.W.Frag} {σ : L2.St} {G G' : Hp} {te ta tb tc : TE} {tt tu : TT} {x : α} {y : β} {z : γ} {b c : Bool} {i : Nat} {v : V} {ts tr : TA}
theorem ev_repS {s : Str} {n : Int} (ha : EvR K ta σ G s) (hb : EvR K tb σ G n) (h : 0 ≤ n ∧ n < 16777216 ∧ s.length * n.toNat ≤ sizeLine) : EvR K (tOp rMulS ta tb) σ G (mulS s n) :=
  ev_op ha hb fun v w G1 H1 _ s hv hw Q q => ⟨_, n, hv, hw, h.1, h.2.1, h.2.2, q _ G1 H1 (Grow.refl s) rfl⟩
theorem ev_slT {l : Tpl α} {tl th : TO} {lo hi : Option Int} (ha : EvR K ta σ G l) (hl : EvO K tl σ G lo) (hh : EvO K th σ G hi) : EvR K (tSl (rSlA K) ta tl th) σ G (Tpl.mk (cutL l.l lo hi)) := fun H e Q q =>
  ha H e _ fun v G1 H1 g1 r1 => hl.mono g1.g H1 g1.s _ fun G2 H2 g2 => hh.mono (g1.g.trans g2.g) H2 g2.s _ fun G3 H3 g3 => by
    obtain ⟨a, xs, ev, hA, r⟩ := up (g2.g.trans g3.g) r1
    refine ⟨a, xs, ev, sqT_mono g3.s hA, fun hw => ?_, fun hw p hp => ?_⟩
    · have e1 : cutL l.l lo hi = l.l := by
        unfold cutL
        rw [paired_len r, hw.1, hw.2, Nat.sub_zero, List.drop_zero, ← paired_len r, List.take_length]
      exact q _ _ _ ((g1.trans g2).trans g3) ⟨a, xs, rfl, hA, by show Reps K (cutL l.l lo hi) xs G3; rw [e1]; exact r⟩
    · exact q _ _ _ (((g1.trans g2).trans g3).trans (Grow.new g3.s hp)) ⟨p, cutL xs lo hi, rfl, SqT.of upd_same, Reps.up (same_upd (g3.s.free hp)) (cut_pair lo hi r)⟩
theorem ev_catT {l m : Tpl α} (ha : EvR K ta σ G l) (hb : EvR K tb σ G m) (hl : l.l.length + m.l.length ≤ sizeLine) : EvR K (tOp (rCatA K) ta tb) σ G (Tpl.mk (l.l ++ m.l)) :=
  ev_op ha hb fun v w G1 H1 _ s ⟨a, xs, ev, hA, r⟩ ⟨b, ys, ew, hB, r'⟩ Q q => by
    refine ⟨a, b, xs, ys, ev, ew, sqT_mono s hA, sqT_mono s hB, by rw [← paired_len r, ← paired_len r']; exact hl, fun hx => ?_, fun _ hy => ?_, fun _ _ p hp => ?_⟩
    · subst hx
      have e : l.l = [] := List.eq_nil_of_length_eq_zero (paired_len r)
      exact q _ G1 H1 (Grow.refl s) ⟨b, ys, rfl, hB, by show Reps K (l.l ++ m.l) ys G1; rw [e]; exact r'⟩
    · subst hy
      have e : m.l = [] := List.eq_nil_of_length_eq_zero (paired_len r')
      exact q _ G1 H1 (Grow.refl s) ⟨a, xs, rfl, hA, by show Reps K (l.l ++ m.l) xs G1; rw [e, List.append_nil]; exact r⟩
    · exact q _ _ _ (Grow.new s hp) ⟨p, xs ++ ys, rfl, SqT.of upd_same, paired_append (r.up (same_upd (s.free hp))) (r'.up (same_upd (s.free hp)))⟩
theorem ev_tupleL {l : List α} (ha : EvR K ta σ G l) : EvR K (tCB (fun xs H Q => ∃ p ys, xs = [.ref p] ∧ ((SqL K H p ys ∧ ∀ l, H l = none → Q (.ref l) (upd H l (.tup ys))) ∨ (SqT K H p ys ∧ Q (.ref p) H))) (tCons ta tNil)) σ G (Tpl.mk l) := fun H e Q q =>
  ha H e _ fun v G1 H1 g1 ⟨a, xs, ev, hA, r⟩ => ⟨a, xs, by rw [ev], .inl ⟨SqL.of (g1.s _ _ hA), fun p hp => q _ _ _ (g1.trans (Grow.new g1.s hp)) ⟨p, xs, rfl, SqT.of upd_same, r.up (same_upd (g1.s.free hp))⟩⟩⟩
/-- texts that may be laid -/
def TOk (l : List Str) : Prop := ∀ p ∈ l, PyData.strOk p = true
theorem dp_texts {H : Hp} : ∀ (l : List Str), DpAll K H (l.map Flat.toV) (l.map PyData.str)
  | [] => .nil
  | x :: l => .cons (.str x) (dp_texts l)
theorem lay_texts : ∀ (l : List Str), TOk l → PyData.canLayAll0 (l.map PyData.str) = true
  | [], _ => rfl
  | x :: l, h => by
    show (PyData.canLay0 (.str x) && PyData.canLayAll0 (l.map PyData.str)) = true
    rw [lay_texts l fun p hp => h p (.tail _ hp), Bool.and_true]
    exact h x List.mem_cons_self
theorem depth_texts : ∀ (l : List Str), PyData.depthAll (l.map PyData.str) = 0
  | [] => rfl
  | x :: l => by
    show max (PyData.depth (.str x)) (PyData.depthAll (l.map PyData.str)) = 0
    rw [depth_texts l]
    rfl
theorem shaped_texts {l : List Str} (h : TOk l) : SeqAt.shaped (.tuple (l.map PyData.str)) = true := by
  unfold SeqAt.shaped
  rw [show PyData.canLay0 (.tuple (l.map PyData.str)) = PyData.canLayAll0 (l.map PyData.str) from rfl, lay_texts l h,
    show PyData.depth (.tuple (l.map PyData.str)) = PyData.depthAll (l.map PyData.str) + 1 from rfl, depth_texts l]
  rfl
theorem eqv_texts : ∀ (l m : List Str), PyData.eqvAll (l.map PyData.str) (m.map PyData.str) = decide (l = m)
  | [], [] => rfl
  | [], _ :: _ => rfl
  | _ :: _, [] => rfl
  | x :: l, y :: m => by
    show (PyData.eqv (.str x) (.str y) && PyData.eqvAll (l.map PyData.str) (m.map PyData.str)) = _
    rw [eqv_texts l m, show PyData.eqv (.str x) (.str y) = decide (x = y) from Flat.eqv x y, ← Bool.decide_and]
    exact decide_eq_decide.mpr ⟨fun h => by rw [h.1, h.2], fun h => by cases h; exact ⟨rfl, rfl⟩⟩
theorem dp_tpl {H : Hp} {t : Tpl Str} {v : V} (s : Same G H) (h : rep K t v G) : Dp K H v (.tuple (t.l.map PyData.str)) := by
  obtain ⟨a, xs, ev, hA, r⟩ := h
  have e := reps_flat r
  subst e
  rw [ev]
  exact .tup (sqT_mono s hA) (dp_texts t.l)
theorem ev_eqT {l m : Tpl Str} (ha : EvR K ta σ G l) (hb : EvR K tb σ G m) (hl : TOk l.l ∧ TOk m.l) : EvR K (tOp (rEqD K) ta tb) σ G (eqB l.l m.l) :=
  ev_op ha hb fun v w G1 H1 _ s hv hw Q q => ⟨_, _, dp_tpl s hv, dp_tpl s hw, shaped_texts hl.1, shaped_texts hl.2, by
    rw [show PyData.eqv (.tuple (l.l.map PyData.str)) (.tuple (m.l.map PyData.str)) = PyData.eqvAll (l.l.map PyData.str) (m.l.map PyData.str) from rfl, eqv_texts]
    exact q _ G1 H1 (Grow.refl s) rfl⟩
theorem ev_neT {l m : Tpl Str} (ha : EvR K ta σ G l) (hb : EvR K tb σ G m) (hl : TOk l.l ∧ TOk m.l) : EvR K (tOp (rNeD K) ta tb) σ G (!eqB l.l m.l) :=
  ev_op ha hb fun v w G1 H1 _ s hv hw Q q => ⟨_, _, dp_tpl s hv, dp_tpl s hw, shaped_texts hl.1, shaped_texts hl.2, by
    rw [show PyData.eqv (.tuple (l.l.map PyData.str)) (.tuple (m.l.map PyData.str)) = PyData.eqvAll (l.l.map PyData.str) (m.l.map PyData.str) from rfl, eqv_texts]
    exact q _ G1 H1 (Grow.refl s) rfl⟩
/-- x is True, x is not False -/
abbrev rIsB : R2 := fun x y H Q => ∃ a b, x = .bl a ∧ y = .bl b ∧ Q (.bl (decide (a = b))) H
abbrev rIsNB : R2 := fun x y H Q => ∃ a b, x = .bl a ∧ y = .bl b ∧ Q (.bl (!decide (a = b))) H
theorem ev_isB (ha : EvR K ta σ G b) (hb : EvR K tb σ G c) : EvR K (tOp rIsB ta tb) σ G (eqB b c) :=
  ev_op ha hb fun v w G1 H1 _ s hv hw Q q => ⟨b, c, hv, hw, q _ G1 H1 (Grow.refl s) rfl⟩
theorem ev_isNB (ha : EvR K ta σ G b) (hb : EvR K tb σ G c) : EvR K (tOp rIsNB ta tb) σ G (!eqB b c) :=
  ev_op ha hb fun v w G1 H1 _ s hv hw Q q => ⟨b, c, hv, hw, q _ G1 H1 (Grow.refl s) rfl⟩
theorem tyX_tup {H : Hp} {a : Addr} {xs : List V} (h : SqT K H a xs) : TyX K H (.ref a) (.type "tuple") := by
  rcases h with h | ⟨o, _, _, h, hc, _⟩
  · rcases h with h | ⟨o, h⟩
    · exact .base (.tup h)
    · exact .fTuple h
  · exact .kTuple h hc
theorem ev_isTup {l : Tpl α} (ha : EvR K ta σ G l) : EvR K (tCB (rIsi K) (tCons ta (tCons (tC (.ty "tuple")) tNil))) σ G true := fun H e Q q =>
  ha H e _ fun v G1 H1 g1 ⟨a, xs, ev, hA, r⟩ => ⟨v, .ty "tuple", .type "tuple", .type "tuple", true, rfl, .ty _, by rw [ev]; exact tyX_tup (sqT_mono g1.s hA), kit_ty (by decide +kernel), q _ G1 H1 g1 rfl⟩
theorem ev_isBool (ha : EvR K ta σ G b) : EvR K (tCB (rIsi K) (tCons ta (tCons (tC (.ty "bool")) tNil))) σ G true := fun H e Q q =>
  ha H e _ fun v G1 H1 g1 r => ⟨v, .ty "bool", .type "bool", .type "bool", true, rfl, .ty _, by rw [show v = V.bl b from r]; exact .base (.bl b), kit_ty (by decide +kernel), q _ G1 H1 g1 rfl⟩
theorem ev_joinT {s : Str} {l : Tpl Str} (ha : EvR K ta σ G s) (hb : EvR K tb σ G l) (h : (l.l.map (·.length)).sum + l.l.length * s.length ≤ 16777216) :
    EvR K (tM1 (fun x xs H Q => ∃ a p, ∃ ys : List Str, x = .str a ∧ xs = [.ref p] ∧ (SqL K H p (ys.map V.str) ∨ SqT K H p (ys.map V.str)) ∧ (ys.map (·.length)).sum + ys.length * a.length ≤ 16777216 ∧ Q (.str (Txt.join a ys)) H) ta tb) σ G (Txt.join s l.l) := fun H e Q q =>
  ha H e _ fun v G1 H1 g1 r1 => ⟨⟨s, r1⟩, hb.mono g1.g H1 g1.s _ fun w G2 H2 g2 ⟨a, xs, ev, hA, r2⟩ => ⟨s, a, l.l, r1, by rw [ev], .inr (by
    have e := reps_flat r2
    subst e
    exact sqT_mono g2.s hA), h, q _ G2 H2 (g1.trans g2) rfl⟩⟩
/-! ### one of two kinds -/
def getL [Inhabited α] (s : Sum α β) : α := match s with
  | .inl x => x
  | .inr _ => default
def getR [Inhabited β] (s : Sum α β) : β := match s with
  | .inl _ => default
  | .inr x => x
theorem ev_inl [Inhabited α] {s : Sum α β} (h : EvR K te σ G s) (hs : s.isLeft = true) : EvR K te σ G (getL s) := by
  cases s with
  | inl x => exact h
  | inr x => cases hs
theorem ev_inr [Inhabited β] {s : Sum α β} (h : EvR K te σ G s) (hs : s.isRight = true) : EvR K te σ G (getR s) := by
  cases s with
  | inl x => cases hs
  | inr x => exact h
instance : Inhabited (Tpl α) := ⟨⟨[]⟩⟩
/-- for a, b in pairs: the pair taken apart -/
theorem pair_apart {p : α × β} {σ' : L2.St} {H : Hp} {Q : L2.St → Hp → Prop} {i j : Nat} {v : V} (r : rep K p v G) (s : Same G H) (k : ∀ u w, rep K p.1 u G → rep K p.2 w G → Q ((σ'.set i (some u)).set j (some w)) H) :
    gTup K 2 (gCons (gName i) (gCons (gName j) gNil)) v σ' H Q := by
  obtain ⟨a, u, w, ev, hA, r1, r2⟩ := r
  exact ⟨a, [u, w], ev, sqT_mono s hA, rfl, u, [w], rfl, w, [], rfl, rfl, k u w r1 r2⟩
end
/-! ### words with spaces between -/
section
open TL
variable {t w l : Str} {L : List Str} {n : Int}
theorem s_assoc (a b c : Str) : a ++ b ++ c = a ++ (b ++ c) := tl_inj (by rw [tl_append, tl_append, tl_append, tl_append, List.append_assoc])
theorem s_nil (a : Str) : a ++ ("" : Str) = a := tl_inj (by rw [tl_append, show tl ("" : Str) = [] by decide +kernel, List.append_nil])
theorem s_nil0 (a : Str) : ("" : Str) ++ a = a := tl_inj (by rw [tl_append, show tl ("" : Str) = [] by decide +kernel, List.nil_append])
theorem s_empty : (Str.empty : Str) = ("" : Str) := by decide +kernel
theorem join_cons2 (y x z : Str) (r : List Str) : Txt.join y (x :: z :: r) = x ++ y ++ Txt.join y (z :: r) := by rw [join_eq, join_eq]; rfl
theorem join_one (y x : Str) : Txt.join y [x] = x := by rw [join_eq]; rfl
theorem join_snoc (y : Str) : ∀ (l : List Str) (a m : Str), Txt.join y (l ++ [a] ++ [m]) = Txt.join y (l ++ [a]) ++ y ++ m
  | [], a, m => by
    show Txt.join y [a, m] = Txt.join y [a] ++ y ++ m
    rw [join_cons2, join_one, join_one]
  | [x], a, m => by
    show Txt.join y [x, a, m] = Txt.join y [x, a] ++ y ++ m
    rw [join_cons2, join_cons2, join_cons2, join_one, join_one]
    simp only [s_assoc]
  | x :: z :: r, a, m => by
    show Txt.join y (x :: z :: (r ++ [a] ++ [m])) = Txt.join y (x :: z :: (r ++ [a])) ++ y ++ m
    rw [join_cons2, join_cons2, show z :: (r ++ [a] ++ [m]) = (z :: r) ++ [a] ++ [m] from rfl, join_snoc y (z :: r) a m, show z :: (r ++ [a]) = (z :: r) ++ [a] from rfl]
    simp only [s_assoc]
theorem join_last (y : Str) (w : Str) : ∀ (l : List Str) (a : Str), Txt.join y (l ++ [a]) ++ w = Txt.join y (l ++ [a ++ w])
  | [], a => by
    show Txt.join y [a] ++ w = Txt.join y [a ++ w]
    rw [join_one, join_one]
  | [x], a => by
    show Txt.join y [x, a] ++ w = Txt.join y [x, a ++ w]
    rw [join_cons2, join_cons2, join_one, join_one, s_assoc]
  | x :: z :: r, a => by
    show Txt.join y (x :: z :: (r ++ [a])) ++ w = Txt.join y (x :: z :: (r ++ [a ++ w]))
    rw [join_cons2, join_cons2, s_assoc, show z :: (r ++ [a]) = (z :: r) ++ [a] from rfl, join_last y w (z :: r) a]
    rfl
theorem tl_sp : tl (" " : Str) = [32] := by decide +kernel
/-- the text's parts between single spaces: L, the last one l -/
structure Pt (t : Str) (L : List Str) (l : Str) : Prop where
  eq : t = Txt.join (" " : Str) (L ++ [l])
  no : ∀ p ∈ L ++ [l], 32 ∉ tl p
theorem Pt.split (h : Pt t L l) : Txt.split t (" " : Str) = L ++ [l] := by
  rw [h.eq]
  exact split_join tl_sp (by decide +kernel) (by simp) h.no
theorem pt_nil : Pt ("" : Str) [] ("" : Str) := ⟨by decide +kernel, fun p hp => by rw [List.mem_singleton.mp hp]; decide +kernel⟩
theorem Pt.sp (h : Pt t L l) : Pt (t ++ (" " : Str)) (L ++ [l]) ("" : Str) := ⟨by rw [join_snoc, s_nil, h.eq], fun p hp => by
  rcases List.mem_append.mp hp with q | q
  · exact h.no p q
  · rw [List.mem_singleton.mp q]; decide +kernel⟩
theorem Pt.word (h : Pt t L l) (hw : 32 ∉ tl w) : Pt (t ++ w) L (l ++ w) := ⟨by rw [h.eq, join_last], fun p hp => by
  rcases List.mem_append.mp hp with q | q
  · exact h.no p (List.mem_append_left _ q)
  · rw [List.mem_singleton.mp q, tl_append]
    intro z
    rcases List.mem_append.mp z with z | z
    · exact h.no l (List.mem_append_right _ List.mem_cons_self) z
    · exact hw z⟩
/-- the parts that are not empty -/
def wds (l : List Str) : List Str := l.filter fun p => !eqB p ("" : Str)
theorem wds_snoc (l : List Str) (x : Str) (h : x ≠ ("" : Str)) : wds (l ++ [x]) = wds l ++ [x] := by
  unfold wds
  rw [List.filter_append, List.filter_cons_of_pos (by rw [show eqB x ("" : Str) = false from decide_eq_false h]; rfl)]
  rfl
theorem wds_nil (l : List Str) : wds (l ++ [("" : Str)]) = wds l := by
  unfold wds
  rw [List.filter_append, List.filter_cons_of_neg (by rw [eqB_self]; decide)]
  rw [List.filter_nil, List.append_nil]
theorem mulS_succ (x : Str) (k : Nat) : mulS x ((k + 1 : Nat) : Int) = mulS x (k : Int) ++ x := by
  refine tl_inj ?_
  rw [tl_append]
  show (List.replicate ((k + 1 : Nat) : Int).toNat x.cps.toList).flatten = (List.replicate ((k : Nat) : Int).toNat x.cps.toList).flatten ++ x.cps.toList
  rw [Int.toNat_natCast, Int.toNat_natCast, List.replicate_succ', List.flatten_append]
  simp
theorem Pt.sps : ∀ (k : Nat), Pt t L l → ∃ L' l', Pt (t ++ mulS (" " : Str) (k : Int)) L' l' ∧ wds (L' ++ [l']) = wds (L ++ [l]) ∧ ((1 ≤ k ∨ l = ("" : Str)) → l' = ("" : Str)) ∧ ∀ p ∈ L ++ [l], p ∈ L' ++ [l']
  | 0, h => ⟨L, l, by rw [mulS_zero (by decide), s_empty, s_nil]; exact h, rfl, fun q => q.elim (fun z => absurd z (by decide)) id, fun _ q => q⟩
  | k + 1, h => by
    obtain ⟨L', l', h1, h2, _, h4⟩ := Pt.sps k h
    refine ⟨L' ++ [l'], ("" : Str), ?_, by rw [wds_nil, h2], fun _ => rfl, fun p hp => List.mem_append_left _ (h4 p hp)⟩
    rw [mulS_succ, ← s_assoc]
    exact h1.sp
theorem Pt.spI (h0 : 0 ≤ n) (h : Pt t L l) : ∃ L' l', Pt (t ++ mulS (" " : Str) n) L' l' ∧ wds (L' ++ [l']) = wds (L ++ [l]) ∧ ((1 ≤ n ∨ l = ("" : Str)) → l' = ("" : Str)) ∧ ∀ p ∈ L ++ [l], p ∈ L' ++ [l'] := by
  obtain ⟨L', l', h1, h2, h3, h4⟩ := Pt.sps n.toNat h
  rw [Int.toNat_of_nonneg h0] at h1
  exact ⟨L', l', h1, h2, fun q => h3 (q.imp (fun z => by omega) id), h4⟩
end
end RL

set_option Elab.async false
set_option linter.all false
set_option maxRecDepth 100000
set_option maxHeartbeats 4000000
namespace RL
open PySem PySem.Spec PyProof.Rows L2
open Rep (rep)

def OkT (x : Str) : Prop := x.length ≤ 10 ∧ Asc x
def SmallS (p : List Str × Str) : Prop := p.1.length ≤ 4 ∧ (∀ x ∈ p.1, OkT x) ∧ OkT p.2
theorem parts_ok {w : List Str} {p : List Str × Str} (h : SmallS p) (hw : w.Perm p.1) : (∀ x ∈ w ++ [p.2], OkT x) ∧ (w ++ [p.2]).length ≤ 5 := by
  refine ⟨fun x hx => ?_, ?_⟩
  · rcases List.mem_append.mp hx with q | q
    · exact h.2.1 x (hw.mem_iff.mp q)
    · rw [List.mem_singleton.mp q]; exact h.2.2
  · rw [List.length_append, hw.length_eq]
    exact Nat.succ_le_succ h.1

def ShP (l : List Str) : Prop := l.length ≤ 5 ∧ ∀ p ∈ l, p.length ≤ 60
theorem shp_fits {l : List Str} (h : ShP l) : (l.map (·.length)).sum + l.length * (" " : Str).length ≤ 16777216 := join_fits (n := 5) (m := 60) h.1 h.2 (by decide) (by decide)

def topS (i : Nat) : Stmt := PySem.Challenge.pw_keyfocus_k02_key_sequences.main.body.getD i (.Pass ⟨0, 0, 0, 0⟩)
structure Adr where
  f__spelled : Addr
  d__spelled : FuncData
  f__key_of : Addr
  d__key_of : FuncData
  f__canonical : Addr
  d__canonical : FuncData
  f_key_sequence : Addr
  d_key_sequence : FuncData
  f_is_prefix : Addr
  d_is_prefix : FuncData
  f_shown : Addr
  d_shown : FuncData
  f__law_cell : Addr
  d__law_cell : FuncData
  f__law_draws : Addr
  d__law_draws : FuncData
  f__law_keys : Addr
  d__law_keys : FuncData
  f__law_stroke : Addr
  d__law_stroke : FuncData
  f__law_mixed : Addr
  d__law_mixed : FuncData
  f__law_shown : Addr
  d__law_shown : FuncData
  f__law_loose : Addr
  d__law_loose : FuncData
  f__law_told : Addr
  d__law_told : FuncData
  f_law : Addr
  d_law : FuncData
  k__MODIFIERS : Addr
  k__KEY_NAMES : Addr
  x_FocusError : Addr
  x_BadKeys : Addr
  i_BadKeys : Addr
  di_BadKeys : FuncData
def k__MODIFIERS : List Str := [("Ctrl" : Str), ("Alt" : Str), ("Shift" : Str), ("Meta" : Str)]
def k__KEY_NAMES : List Str := [("Tab" : Str), ("Enter" : Str), ("Escape" : Str), ("Space" : Str), ("Backspace" : Str), ("Delete" : Str), ("Up" : Str), ("Down" : Str), ("Left" : Str), ("Right" : Str), ("Home" : Str), ("End" : Str), ("PageUp" : Str), ("PageDown" : Str), ("Plus" : Str), ("F1" : Str), ("F2" : Str), ("F3" : Str), ("F4" : Str), ("F5" : Str), ("F6" : Str), ("F7" : Str), ("F8" : Str), ("F9" : Str), ("F10" : Str), ("F11" : Str), ("F12" : Str)]
abbrev s_init_BadKeys : Stmt := inClass (topS 2) 0
theorem sc_init_BadKeys : FnScope ["self", "what"] ["self", "what"] (defScope s_init_BadKeys) := ⟨rfl, rfl, rfl, by decide +kernel, rfl, by decide +kernel, by decide +kernel⟩
/-! ### _spelled -/
abbrev s__spelled : Stmt := topS 7
abbrev n__spelled : List Str := ["part", "names", "name"]
theorem sc__spelled : FnScope n__spelled ["part", "names"] (defScope s__spelled) := ⟨rfl, rfl, rfl, by decide +kernel, rfl, by decide +kernel, by decide +kernel⟩
/-! ### _key_of -/
abbrev s__key_of : Stmt := topS 8
abbrev n__key_of : List Str := ["part"]
theorem sc__key_of : FnScope n__key_of ["part"] (defScope s__key_of) := ⟨rfl, rfl, rfl, by decide +kernel, rfl, by decide +kernel, by decide +kernel⟩
/-! ### _canonical -/
abbrev s__canonical : Stmt := topS 9
abbrev n__canonical : List Str := ["text", "parts", "key", "modifiers", "ordered", "part", "modifier"]
theorem sc__canonical : FnScope n__canonical ["text"] (defScope s__canonical) := ⟨rfl, rfl, rfl, by decide +kernel, rfl, by decide +kernel, by decide +kernel⟩
/-! ### key_sequence -/
abbrev s_key_sequence : Stmt := topS 10
abbrev n_key_sequence : List Str := ["text", "strokes", "part"]
theorem sc_key_sequence : FnScope n_key_sequence ["text"] (defScope s_key_sequence) := ⟨rfl, rfl, rfl, by decide +kernel, rfl, by decide +kernel, by decide +kernel⟩
/-! ### is_prefix -/
abbrev s_is_prefix : Stmt := topS 11
abbrev n_is_prefix : List Str := ["one", "two"]
theorem sc_is_prefix : FnScope n_is_prefix ["one", "two"] (defScope s_is_prefix) := ⟨rfl, rfl, rfl, by decide +kernel, rfl, by decide +kernel, by decide +kernel⟩
/-! ### shown -/
abbrev s_shown : Stmt := topS 12
abbrev n_shown : List Str := ["strokes"]
theorem sc_shown : FnScope n_shown ["strokes"] (defScope s_shown) := ⟨rfl, rfl, rfl, by decide +kernel, rfl, by decide +kernel, by decide +kernel⟩
/-! ### _law_cell -/
abbrev s__law_cell : Stmt := topS 14
abbrev n__law_cell : List Str := ["script", "k"]
theorem sc__law_cell : FnScope n__law_cell ["script", "k"] (defScope s__law_cell) := ⟨rfl, rfl, rfl, by decide +kernel, rfl, by decide +kernel, by decide +kernel⟩
/-! ### _law_draws -/
abbrev s__law_draws : Stmt := topS 15
abbrev n__law_draws : List Str := ["cell", "count", "found", "is_wide", "k", "mixed"]
theorem sc__law_draws : FnScope n__law_draws ["cell", "count"] (defScope s__law_draws) := ⟨rfl, rfl, rfl, by decide +kernel, rfl, by decide +kernel, by decide +kernel⟩
/-! ### _law_keys -/
abbrev s__law_keys : Stmt := topS 16
abbrev n__law_keys : List Str := ["names", "k"]
theorem sc__law_keys : FnScope n__law_keys [] (defScope s__law_keys) := ⟨rfl, rfl, rfl, by decide +kernel, rfl, by decide +kernel, by decide +kernel⟩
/-! ### _law_stroke -/
abbrev s__law_stroke : Stmt := topS 17
abbrev n__law_stroke : List Str := ["draws", "names", "signs", "key", "words", "k"]
theorem sc__law_stroke : FnScope n__law_stroke ["draws"] (defScope s__law_stroke) := ⟨rfl, rfl, rfl, by decide +kernel, rfl, by decide +kernel, by decide +kernel⟩
/-! ### _law_mixed -/
abbrev s__law_mixed : Stmt := topS 18
abbrev n__law_mixed : List Str := ["text", "draw", "made", "k"]
theorem sc__law_mixed : FnScope n__law_mixed ["text", "draw"] (defScope s__law_mixed) := ⟨rfl, rfl, rfl, by decide +kernel, rfl, by decide +kernel, by decide +kernel⟩
/-! ### _law_shown -/
abbrev s__law_shown : Stmt := topS 19
abbrev n__law_shown : List Str := ["stroke"]
theorem sc__law_shown : FnScope n__law_shown ["stroke"] (defScope s__law_shown) := ⟨rfl, rfl, rfl, by decide +kernel, rfl, by decide +kernel, by decide +kernel⟩
/-! ### _law_loose -/
abbrev s__law_loose : Stmt := topS 20
abbrev n__law_loose : List Str := ["draws", "stroke", "words", "parts", "at", "k"]
theorem sc__law_loose : FnScope n__law_loose ["draws", "stroke"] (defScope s__law_loose) := ⟨rfl, rfl, rfl, by decide +kernel, rfl, by decide +kernel, by decide +kernel⟩
/-! ### _law_told -/
abbrev s__law_told : Stmt := topS 21
abbrev n__law_told : List Str := ["text", "e"]
theorem sc__law_told : FnScope n__law_told ["text"] (defScope s__law_told) := ⟨rfl, rfl, rfl, by decide +kernel, rfl, by decide +kernel, by decide +kernel⟩
/-! ### law -/
abbrev s_law : Stmt := topS 22
abbrev n_law : List Str := ["script", "draws", "strokes", "text", "k", "is_wrong", "told", "size", "one", "two", "other", "due", "more", "stroke"]
theorem sc_law : FnScope n_law ["script"] (defScope s_law) := ⟨rfl, rfl, rfl, by decide +kernel, rfl, by decide +kernel, by decide +kernel⟩
/-- what the top has written -/
structure Tx (K : PySem.W.Frag) (mg : Str → Option Value) (A : Adr) : Prop where
  F__spelled : Fun K "_spelled" "_spelled" s__spelled A.f__spelled A.d__spelled
  g__spelled : mg "_spelled" = some (.ref A.f__spelled)
  b__spelled : Binds K A.d__spelled ["part", "names"] []
  F__key_of : Fun K "_key_of" "_key_of" s__key_of A.f__key_of A.d__key_of
  g__key_of : mg "_key_of" = some (.ref A.f__key_of)
  b__key_of : Binds K A.d__key_of ["part"] []
  F__canonical : Fun K "_canonical" "_canonical" s__canonical A.f__canonical A.d__canonical
  g__canonical : mg "_canonical" = some (.ref A.f__canonical)
  b__canonical : Binds K A.d__canonical ["text"] []
  F_key_sequence : Fun K "key_sequence" "key_sequence" s_key_sequence A.f_key_sequence A.d_key_sequence
  g_key_sequence : mg "key_sequence" = some (.ref A.f_key_sequence)
  b_key_sequence : Binds K A.d_key_sequence ["text"] []
  F_is_prefix : Fun K "is_prefix" "is_prefix" s_is_prefix A.f_is_prefix A.d_is_prefix
  g_is_prefix : mg "is_prefix" = some (.ref A.f_is_prefix)
  b_is_prefix : Binds K A.d_is_prefix ["one", "two"] []
  F_shown : Fun K "shown" "shown" s_shown A.f_shown A.d_shown
  g_shown : mg "shown" = some (.ref A.f_shown)
  b_shown : Binds K A.d_shown ["strokes"] []
  F__law_cell : Fun K "_law_cell" "_law_cell" s__law_cell A.f__law_cell A.d__law_cell
  g__law_cell : mg "_law_cell" = some (.ref A.f__law_cell)
  b__law_cell : Binds K A.d__law_cell ["script", "k"] []
  F__law_draws : Fun K "_law_draws" "_law_draws" s__law_draws A.f__law_draws A.d__law_draws
  g__law_draws : mg "_law_draws" = some (.ref A.f__law_draws)
  b__law_draws : Binds K A.d__law_draws ["cell", "count"] []
  F__law_keys : Fun K "_law_keys" "_law_keys" s__law_keys A.f__law_keys A.d__law_keys
  g__law_keys : mg "_law_keys" = some (.ref A.f__law_keys)
  b__law_keys : Binds K A.d__law_keys [] []
  F__law_stroke : Fun K "_law_stroke" "_law_stroke" s__law_stroke A.f__law_stroke A.d__law_stroke
  g__law_stroke : mg "_law_stroke" = some (.ref A.f__law_stroke)
  b__law_stroke : Binds K A.d__law_stroke ["draws"] []
  F__law_mixed : Fun K "_law_mixed" "_law_mixed" s__law_mixed A.f__law_mixed A.d__law_mixed
  g__law_mixed : mg "_law_mixed" = some (.ref A.f__law_mixed)
  b__law_mixed : Binds K A.d__law_mixed ["text", "draw"] []
  F__law_shown : Fun K "_law_shown" "_law_shown" s__law_shown A.f__law_shown A.d__law_shown
  g__law_shown : mg "_law_shown" = some (.ref A.f__law_shown)
  b__law_shown : Binds K A.d__law_shown ["stroke"] []
  F__law_loose : Fun K "_law_loose" "_law_loose" s__law_loose A.f__law_loose A.d__law_loose
  g__law_loose : mg "_law_loose" = some (.ref A.f__law_loose)
  b__law_loose : Binds K A.d__law_loose ["draws", "stroke"] []
  F__law_told : Fun K "_law_told" "_law_told" s__law_told A.f__law_told A.d__law_told
  g__law_told : mg "_law_told" = some (.ref A.f__law_told)
  b__law_told : Binds K A.d__law_told ["text"] []
  F_law : Fun K "law" "law" s_law A.f_law A.d_law
  g_law : mg "law" = some (.ref A.f_law)
  b_law : Binds K A.d_law ["script"] []
  c__MODIFIERS : mg "_MODIFIERS" = some (.ref A.k__MODIFIERS)
  r__MODIFIERS : ∀ G, rep K (Tpl.mk k__MODIFIERS) (V.ref A.k__MODIFIERS) G
  c__KEY_NAMES : mg "_KEY_NAMES" = some (.ref A.k__KEY_NAMES)
  r__KEY_NAMES : ∀ G, rep K (Tpl.mk k__KEY_NAMES) (V.ref A.k__KEY_NAMES) G
  c__LONGEST_SEQUENCE : ∃ u, mg "_LONGEST_SEQUENCE" = some u ∧ RelV (.int 3) u
  n_bool : mg "bool" = none
  n_int : mg "int" = none
  n_isinstance : mg "isinstance" = none
  n_len : mg "len" = none
  n_list : mg "list" = none
  n_range : mg "range" = none
  n_set : mg "set" = none
  n_str : mg "str" = none
  n_tuple : mg "tuple" = none
  x_BadKeys : ErrTxt K mg "BadKeys" "FocusError" "what" A.x_BadKeys A.x_FocusError A.i_BadKeys
  FI_BadKeys : Fun K "__init__" "BadKeys.__init__" s_init_BadKeys A.i_BadKeys A.di_BadKeys
  bi_BadKeys : Binds K A.di_BadKeys ["self", "what"] []
section
variable {P : Program} {w : World} {K : PySem.W.Frag} {mg : Str → Option Value} {base : Heap} {A : Adr}
theorem ok_init_BadKeys (T : Tx K mg A) : FnOk P w K mg base CX0 1 A.i_BadKeys A.di_BadKeys ["self", "what"] (spErr A.x_BadKeys "what" fun v => ∃ s, v = V.str s) := by
  refine T.FI_BadKeys.ok sc_init_BadKeys (fun vs H Q E h => ?_) (fun cdv A0 outer s H vs Q E hr h => ⟨_, pss_cons (ps_expr (pe_baseInit rfl T.x_BadKeys.gB T.x_BadKeys.rd T.x_BadKeys.vB (pa_cons (pv 0) (pa_cons (pv 1) pa_nil)))) (pss_one (ps_ost (pv 0) (pv 1))), ?_⟩)
  · obtain ⟨a, v, rfl, _⟩ := h
    rfl
  · obtain ⟨a, v, rfl, ⟨z, rfl⟩, ha, k⟩ := h
    exact ⟨_, rfl, _, rfl, a, A.x_BadKeys, [.str z], rfl, by show 1 ≤ 1000; decide, T.x_BadKeys.ox, ha, _, rfl, _, rfl, a, A.x_BadKeys, rfl, T.x_BadKeys.ox, T.x_BadKeys.nF, .inl ⟨ha, fun d hd hne => k d hd hne⟩⟩
/-! #### _spelled -/
theorem mods_pre : ∀ n ∈ (Tpl.mk k__MODIFIERS).l, PreT n := by unfold PreT; decide +kernel
theorem keys_pre : ∀ n ∈ (Tpl.mk k__KEY_NAMES).l, PreT n := by unfold PreT; decide +kernel
theorem mods_len : ∀ n ∈ k__MODIFIERS, n.length ≤ 10 := by decide +kernel
theorem mods_ok : ∀ n ∈ k__MODIFIERS, OkT n := by unfold OkT Asc; decide +kernel
theorem keys_ok : ∀ n ∈ k__KEY_NAMES, OkT n := by unfold OkT Asc; decide +kernel

def m__spelled_1 (d_part : Str) (d_1 : Str) : (Step (Unit) (Option Str)) := (cond (eqB (Txt.lower d_1) (Txt.lower d_part)) (Step.ret (some d_1)) (Step.go ()))
def m__spelled_2 (d_part : Str) (s : Unit) (d_1 : Str) : (Step (Unit) (Option Str)) := m__spelled_1 d_part (d_1)
def m__spelled_3  (s : Unit) : (Option Str) := (none : (Option Str))
def m__spelled (d_part : Str) (d_names : (Tpl Str)) : (Option Str) := (exitF (runL (m__spelled_2 d_part) () (d_names).l) m__spelled_3)
abbrev p__spelled (K : PySem.W.Frag) : Sp := sp2 K (fun part names => PreT part ∧ ∀ n ∈ names.l, PreT n) m__spelled
theorem spelled_find (p : Str) (ns : List Str) : m__spelled p ⟨ns⟩ = ns.find? fun n => eqB (Txt.lower n) (Txt.lower p) := by
  show exitF (runL (fun (_ : Unit) n => cond (eqB (Txt.lower n) (Txt.lower p)) (Step.ret (some n)) (Step.go ())) () ns) (fun _ => none) = _
  rw [runL_find]
  cases List.find? (fun n => eqB (Txt.lower n) (Txt.lower p)) ns <;> rfl

theorem ok__spelled (T : Tx K mg A) : FnOk P w K mg base CX0 1 A.f__spelled A.d__spelled ["part", "names"] (p__spelled K) := by
  refine T.F__spelled.ok sc__spelled (fun vs He Q E h => ?_) (fun cdv A0 outer s He vs Q E hr h => ⟨_, (pss_cons (ps_for PassesOwn.never rfl (pi_tupK (K := K) (pv 1)) (pg_name (i := 2) sc__spelled.nd rfl (Or.inl rfl)) (pss_one (ps_if (pt_cmpR op_eq (pe_lower (pv 2)) (pe_lower (pv 0)) (nomark _)) (pss_one (ps_ret (pv 2))) pss_nil))) (pss_one (ps_ret pe_non))), ?_⟩)
  · obtain ⟨d_part, d_names, w_part, w_names, G, rfl, eG, h_part, h_names, hpre, hQ⟩ := h
    rfl
  · obtain ⟨d_part, d_names, w_part, w_names, G, rfl, eG, h_part, h_names, hpre, hQ⟩ := h
    have gr : Grow G He G He := Grow.refl eG
    obtain ⟨Ge, eGe⟩ : ∃ z, z = G := ⟨G, rfl⟩
    have gr : Grow Ge He G He := by rw [eGe]; exact gr
    rw [← eGe] at hQ
    clear eGe
    have hM : m__spelled d_part d_names = (exitF (runL (m__spelled_2 d_part) () (d_names).l) m__spelled_3) := rfl
    refine q_forT (K := K) gr.s (ev_var rfl h_names) fun G4 H5 xs6 g7 rs8 => ?_
    have h_part := up g7.g h_part
    have h_names := up g7.g h_names
    have gr := gr.trans g7
    refine ⟨fun i_ σ_ H_ => ∃ st_ : Unit, (runL (m__spelled_2 d_part) () (List.take i_ (d_names).l)) = Step.go st_ ∧ ∃ (G16 : Hp) (o_9 : Option V), Grow Ge He G16 H_ ∧ Same G4 G16 ∧ σ_ = [some w_part, some w_names, o_9], ⟨(), rfl, _, _, gr, Same.refl _, rfl⟩, ?_, ?_, ?_⟩
    · rintro i_ σ_ H_ ⟨st_, hgo_, G16, o_9, gr, sg0, rfl⟩
      exact sg0.trans gr.s
    · rintro i_0 d_1 w_2 σ_0 H_0 hx0 h_3 ⟨st_0, hgo0, G16, o_9, gr, sg0, rfl⟩
      have h_part := up sg0 h_part
      have h_names := up sg0 h_names
      have h_3 := up sg0 h_3
      have hMo0 := hM
      clear hM
      obtain ⟨⟩ := st_0
      have hM : (m__spelled_2 d_part) () d_1 = (m__spelled_2 d_part) () d_1 := rfl
      conv at hM => rhs; unfold m__spelled_2; unfold m__spelled_1
      refine s_if gr.s (et_test (ev_eq (ev_lower (ev_var rfl h_3) (by first | (first | exact pre_low hpre.1 | exact pre_low (hpre.2 _ (List.mem_of_getElem? (by assumption)))) | (first | omega | decide | (show _ ≤ sizeLine; decide) | (show _ < sizeLine; decide)))) (ev_lower (ev_var rfl h_part) (by first | (first | exact pre_low hpre.1 | exact pre_low (hpre.2 _ (List.mem_of_getElem? (by assumption)))) | (first | omega | decide | (show _ ≤ sizeLine; decide) | (show _ < sizeLine; decide)))))) ?_ ?_
      · intro hb11 G12 H13 g10
        have h_part := up g10.g h_part
        have h_names := up g10.g h_names
        have h_3 := up g10.g h_3
        have sg0 := sg0.trans g10.g
        have gr := gr.trans g10
        replace hM := condT hM hb11
        refine s_ret (K := K) gr.s (ev_some (ev_var rfl h_3)) fun u Gr Hr gq hu => ?_
        exact hQ u Gr Hr (gr.trans gq) (by rw [(exitF_ret hMo0 (runL_ret hgo0 hx0 hM))]; exact hu)
      · intro hb11 G14 H15 g10
        have h_part := up g10.g h_part
        have h_names := up g10.g h_names
        have h_3 := up g10.g h_3
        have sg0 := sg0.trans g10.g
        have gr := gr.trans g10
        replace hM := condF hM hb11
        refine s_next ?_
        exact ⟨_, (runL_go hgo0 hx0 hM), _, _, gr, sg0, rfl⟩
    · rintro σ_0 H_0 ⟨st_0, hgo0, G16, o_9, gr, sg0, rfl⟩
      have h_part := up sg0 h_part
      have h_names := up sg0 h_names
      rw [List.take_length] at hgo0
      rw [hgo0, exitF_go] at hM
      unfold m__spelled_3 at hM
      refine s_ret (K := K) gr.s (ev_non (α := Str)) fun u Gr Hr gq hu => ?_
      exact hQ u Gr Hr (gr.trans gq) (by rw [hM]; exact hu)
/-! #### _key_of -/
def m__key_of (d_part : Str) : (Option Str) := (cond ((eqB ((d_part).length : Int) (1 : Int)) && (!decide ((d_part).cps.toList < (("!" : Str)).cps.toList) && !decide ((("~" : Str)).cps.toList < (d_part).cps.toList))) (some (Txt.upper d_part)) (m__spelled d_part (Tpl.mk k__KEY_NAMES)))
abbrev p__key_of (K : PySem.W.Frag) : Sp := sp1 K (fun part => PreT part) m__key_of
abbrev single (p : Str) : Bool := (eqB (p.length : Int) (1 : Int)) && (!decide (p.cps.toList < (("!" : Str)).cps.toList) && !decide ((("~" : Str)).cps.toList < p.cps.toList))
theorem single_is {p : Str} (h : single p = true) : ∃ c, c < 128 ∧ p = ⟨#[c]⟩ := by
  unfold single at h
  rw [Bool.and_eq_true, Bool.and_eq_true] at h
  obtain ⟨h1, h2, h3⟩ := h
  have h1 := eqB_of h1
  obtain ⟨⟨l⟩⟩ := p
  have h4 : l.length = 1 := by
    have : (l.length : Int) = 1 := h1
    omega
  obtain ⟨c, rfl⟩ := List.length_eq_one_iff.mp h4
  refine ⟨c, ?_, rfl⟩
  have h5 : ¬ ([126] : List Nat) < [c] := fun q => by
    have e : (("~" : Str)).cps.toList = [126] := by decide +kernel
    rw [e, decide_eq_true q] at h3
    cases h3
  by_cases q : c < 128
  · exact q
  · exact absurd (List.cons_lt_cons_iff.mpr (.inl (by omega))) h5
theorem key_len {p k : Str} (h : m__key_of p = some k) : k.length ≤ 10 := by
  have e : m__key_of p = cond (single p) (some (Txt.upper p)) (m__spelled p ⟨k__KEY_NAMES⟩) := rfl
  rw [e] at h
  cases hs : single p with
  | true =>
    rw [hs] at h
    obtain ⟨c, hc, rfl⟩ := single_is hs
    have h2 : some (Txt.upper ⟨#[c]⟩) = some k := h
    rw [upper_one hc] at h2
    cases h2
    show 1 ≤ 10
    decide
  | false =>
    rw [hs] at h
    have h2 : m__spelled p ⟨k__KEY_NAMES⟩ = some k := h
    rw [spelled_find] at h2
    exact (keys_ok k (List.mem_of_find?_eq_some h2)).1

theorem ok__key_of (T : Tx K mg A) : FnOk P w K mg base CX0 2 A.f__key_of A.d__key_of ["part"] (p__key_of K) := by
  refine T.F__key_of.ok sc__key_of (fun vs He Q E h => ?_) (fun cdv A0 outer s He vs Q E hr h => ⟨_, (pss_cons (ps_if (PW.pt (pw_and (pt_cmpR op_eq (pe_callB (call_lenK (K := K)) rfl T.n_len boot_len (pa_cons (pv 0) pa_nil)) pe_int (nomark _)) (pw_and1 (pt_chain op_le_str op_le_str pe_str (pv 0) pe_str)))) (pss_one (ps_ret (pe_upper (pv 0)))) pss_nil) (pss_one (ps_ret (pe_call (ok__spelled T) (hr.mono (by decide)) rfl T.g__spelled T.F__spelled.kp T.b__spelled .nil pass0 (pa_cons (pv 0) (pa_cons (C8.pe_gc (v := .ref A.k__KEY_NAMES) rfl ⟨_, T.c__KEY_NAMES, rfl⟩) pa_nil)))))), ?_⟩)
  · obtain ⟨d_part, w_part, G, rfl, eG, h_part, hpre, hQ⟩ := h
    rfl
  · obtain ⟨d_part, w_part, G, rfl, eG, h_part, hpre, hQ⟩ := h
    have gr : Grow G He G He := Grow.refl eG
    obtain ⟨Ge, eGe⟩ : ∃ z, z = G := ⟨G, rfl⟩
    have gr : Grow Ge He G He := by rw [eGe]; exact gr
    rw [← eGe] at hQ
    clear eGe
    have hM : m__key_of d_part = (cond ((eqB ((d_part).length : Int) (1 : Int)) && (!decide ((d_part).cps.toList < (("!" : Str)).cps.toList) && !decide ((("~" : Str)).cps.toList < (d_part).cps.toList))) (some (Txt.upper d_part)) (m__spelled d_part (Tpl.mk k__KEY_NAMES))) := rfl
    refine q_if gr.s (et_and (et_test (ev_eq (ev_lenS (ev_var rfl h_part) (by first | (first | exact pre_line hpre | exact pre_low hpre | exact ⟨hpre, keys_pre⟩) | (first | omega | decide | (show _ ≤ sizeLine; decide) | (show _ < sizeLine; decide)))) ev_int)) (fun hb1 => (et_test (ev_chain ev_str (ev_var rfl h_part) rv_leS (fun _ => ev_str) rv_leS)))) ?_ ?_
    · intro hb3 G4 H5 g2
      have h_part := up g2.g h_part
      have gr := gr.trans g2
      replace hM := condT hM hb3
      refine s_ret (K := K) gr.s (ev_some (ev_upper (ev_var rfl h_part) (by first | (first | exact pre_line hpre | exact pre_low hpre | exact ⟨hpre, keys_pre⟩) | (first | omega | decide | (show _ ≤ sizeLine; decide) | (show _ < sizeLine; decide))))) fun u Gr Hr gq hu => ?_
      exact hQ u Gr Hr (gr.trans gq) (by rw [hM]; exact hu)
    · intro hb3 G6 H7 g2
      have h_part := up g2.g h_part
      have gr := gr.trans g2
      replace hM := condF hM hb3
      refine s_next ?_
      refine nx_mk ?_
      refine s_ret (K := K) gr.s (ev_call2 (ev_var rfl h_part) (ev_c (T.r__KEY_NAMES _)) (by first | (first | exact pre_line hpre | exact pre_low hpre | exact ⟨hpre, keys_pre⟩) | (first | omega | decide))) fun u Gr Hr gq hu => ?_
      exact hQ u Gr Hr (gr.trans gq) (by rw [hM]; exact hu)
/-! #### _canonical -/
def m__canonical_1 (d_33 : Str) (d_40 : (List Str)) : (Option Str) := (some (Txt.join ("+" : Str) (d_40 ++ (d_33 :: ([] : List Str)))))
def m__canonical_2 (d_33 : Str) (d_19 : (List (Option Str))) : (Option Str) := (m__canonical_1 d_33 (List.map (fun d_34 => d_34) (List.filter (fun d_34 => (memB (some d_34) d_19)) ((Tpl.mk k__MODIFIERS)).l)))
def m__canonical_3 (d_7 : (Option Str)) (d_19 : (List (Option Str))) : (Option Str) := (cond ((d_7).isNone || ((memB (none : (Option Str)) d_19) || (decide (((onceN (texts d_19) (texts d_19).length : Nat) : Int) < ((d_19).length : Int))))) (none : (Option Str)) (m__canonical_2 (Option.getD d_7 default) d_19))
def m__canonical_4 (d_1 : (List Str)) (d_7 : (Option Str)) : (Option Str) := (m__canonical_3 d_7 (List.map (fun d_13 => (m__spelled d_13 (Tpl.mk k__MODIFIERS))) (cutL d_1 none (some (-(1 : Int))))))
def m__canonical_5 (d_1 : (List Str)) : (Option Str) := (m__canonical_4 d_1 (m__key_of (getI d_1 (-(1 : Int)))))
def m__canonical (d_text : Str) : (Option Str) := (m__canonical_5 (Txt.split d_text ("+" : Str)))
abbrev p__canonical (K : PySem.W.Frag) : Sp := sp1 K (fun text => PreT text) m__canonical
theorem ok__canonical (T : Tx K mg A) : FnOk P w K mg base CX0 3 A.f__canonical A.d__canonical ["text"] (p__canonical K) := by
  refine T.F__canonical.ok sc__canonical (fun vs He Q E h => ?_) (fun cdv A0 outer s He vs Q E hr h => ⟨_, (pss_cons (ps_set (i := 1) sc__canonical.nd rfl (Or.inl rfl) (pe_split (pv 0) pe_str)) (pss_cons (ps_set (i := 2) sc__canonical.nd rfl (Or.inl rfl) (pe_call (ok__key_of T) (hr.mono (by decide)) rfl T.g__key_of T.F__key_of.kp T.b__key_of .nil pass0 (pa_cons (pe_ix (ix_listK (K := K)) (pv 1) (pe_un un_neg pe_int) fun _ _ => rfl) pa_nil))) (pss_cons (ps_set (i := 3) sc__canonical.nd rfl (Or.inr rfl) (pe_lc (own := [("part", 5)]) (g := gName 5) (tt := tYes) rfl sc__canonical.nd (pi_listK (K := K) (pe_slice (sl_listK (K := K)) (pv 1) po_none (po_some (pe_un un_neg pe_int)))) (blkOk_by (N := n__canonical) (sc := defScope s__canonical) (by decide +kernel)) (fun _ _ _ _ _ => pg_name (i := 5) sc__canonical.nd rfl (Or.inl rfl)) (fun _ _ _ _ _ => pts_nil) (fun _ _ _ _ _ => (pe_call (ok__spelled T) (hr.mono (by decide)) rfl T.g__spelled T.F__spelled.kp T.b__spelled .nil pass0 (pa_cons (pv 5) (pa_cons (C8.pe_gc (v := .ref A.k__MODIFIERS) rfl ⟨_, T.c__MODIFIERS, rfl⟩) pa_nil)))))) (pss_cons (ps_if (PW.pt (pw_or (pt_cmpR op_isN (pv 2) pe_non (nomark _)) (pw_or (pt_cmpR (op_inK (K := K)) pe_non (pv 3) (by rfl)) (pw_or1 (pt_cmpR op_lt (pe_lenSetK (K := K) rfl rfl T.n_len rfl T.n_set (pv 3)) (pe_callB (call_lenK (K := K)) rfl T.n_len boot_len (pa_cons (pv 3) pa_nil)) (nomark _)))))) (pss_one (ps_ret pe_non)) pss_nil) (pss_cons (ps_setLc (i := 4) (own := [("modifier", 6)]) (g := gName 6) rfl sc__canonical.nd rfl rfl (sw_true rfl rfl rfl (by decide +kernel)) (pi_tupK (K := K) (C8.pe_gc (v := .ref A.k__MODIFIERS) rfl ⟨_, T.c__MODIFIERS, rfl⟩)) (blkOk_by (N := n__canonical) (sc := defScope s__canonical) (by decide +kernel)) (fun _ _ _ _ _ => pg_name (i := 6) sc__canonical.nd rfl (Or.inl rfl)) (fun _ _ _ _ _ => (pts_one (pt_cmpR (op_inK (K := K)) (pv 6) (pv 3) (by rfl)))) (fun _ _ _ _ _ => (pv 6))) (pss_one (ps_ret (pe_joinK (K := K) pe_str (pe_lst (pa_starK (K := K) (pv 4) (pa_cons (pv 2) pa_nil))))))))))), ?_⟩)
  · obtain ⟨d_text, w_text, G, rfl, eG, h_text, hpre, hQ⟩ := h
    rfl
  · obtain ⟨d_text, w_text, G, rfl, eG, h_text, hpre, hQ⟩ := h
    have gr : Grow G He G He := Grow.refl eG
    obtain ⟨Ge, eGe⟩ : ∃ z, z = G := ⟨G, rfl⟩
    have gr : Grow Ge He G He := by rw [eGe]; exact gr
    rw [← eGe] at hQ
    clear eGe
    have hM : m__canonical d_text = (m__canonical_5 (Txt.split d_text ("+" : Str))) := rfl
    refine q_asg (K := K) gr.s (ev_split (ev_var rfl h_text) ev_str (by decide) (by first | (first | exact pre_line2 hpre | exact at_last fne | exact fp _ (getI_mem (at_last fne)) | exact lt_line (Nat.le_trans (cut_le _ _ _) (Nat.le_trans fc (by decide))) | exact ⟨fp _ (cut_mem (by assumption)), mods_pre⟩ | exact of_memB (by assumption) | exact Nat.lt_of_le_of_lt (Nat.succ_le_succ (Nat.le_trans (texts_le _) fm)) (by decide) | (show _ ≤ sizeLine; rw [List.length_append]; exact le_line (Nat.le_trans (Nat.add_le_add_right fo1 _) (by decide))) | exact join_fits (n := 5) (m := 10) (by rw [List.length_append]; exact Nat.add_le_add_right fo1 _) (fun p hp => (List.mem_append.mp hp).elim (fo2 p) (fun q => by rw [List.mem_singleton.mp q]; exact key_len ed_7)) (by decide) (by decide)) | (first | omega | decide | (show _ ≤ sizeLine; decide) | (show _ < sizeLine; decide)))) fun w_2 G5 H6 g4 (h_3 : rep K (Txt.split d_text ("+" : Str)) w_2 G5) => ?_
    have h_text := up g4.g h_text
    have gr := gr.trans g4
    generalize ed_1 : (Txt.split d_text ("+" : Str)) = d_1 at h_3 hM
    unfold m__canonical_5 at hM
    have fne : d_1 ≠ [] := by rw [← ed_1]; exact split_ne (by decide)
    have fp : ∀ p ∈ d_1, PreT p := by rw [← ed_1]; exact fun p hp => Nat.le_trans (split_part hp) hpre
    have fc : d_1.length ≤ 1001 := by rw [← ed_1]; exact Nat.le_trans (split_count (by decide)) (Nat.succ_le_succ hpre)
    refine q_asg (K := K) gr.s (ev_call1 (ev_ixL (ev_var rfl h_3) (ev_neg ev_int) (atI_get (by first | (first | exact pre_line2 hpre | exact at_last fne | exact fp _ (getI_mem (at_last fne)) | exact lt_line (Nat.le_trans (cut_le _ _ _) (Nat.le_trans fc (by decide))) | exact ⟨fp _ (cut_mem (by assumption)), mods_pre⟩ | exact of_memB (by assumption) | exact Nat.lt_of_le_of_lt (Nat.succ_le_succ (Nat.le_trans (texts_le _) fm)) (by decide) | (show _ ≤ sizeLine; rw [List.length_append]; exact le_line (Nat.le_trans (Nat.add_le_add_right fo1 _) (by decide))) | exact join_fits (n := 5) (m := 10) (by rw [List.length_append]; exact Nat.add_le_add_right fo1 _) (fun p hp => (List.mem_append.mp hp).elim (fo2 p) (fun q => by rw [List.mem_singleton.mp q]; exact key_len ed_7)) (by decide) (by decide)) | (first | decide | (refine at_in ?_ ?_ <;> omega) | (refine at_neg ?_ ?_ <;> omega))))) (by first | (first | exact pre_line2 hpre | exact at_last fne | exact fp _ (getI_mem (at_last fne)) | exact lt_line (Nat.le_trans (cut_le _ _ _) (Nat.le_trans fc (by decide))) | exact ⟨fp _ (cut_mem (by assumption)), mods_pre⟩ | exact of_memB (by assumption) | exact Nat.lt_of_le_of_lt (Nat.succ_le_succ (Nat.le_trans (texts_le _) fm)) (by decide) | (show _ ≤ sizeLine; rw [List.length_append]; exact le_line (Nat.le_trans (Nat.add_le_add_right fo1 _) (by decide))) | exact join_fits (n := 5) (m := 10) (by rw [List.length_append]; exact Nat.add_le_add_right fo1 _) (fun p hp => (List.mem_append.mp hp).elim (fo2 p) (fun q => by rw [List.mem_singleton.mp q]; exact key_len ed_7)) (by decide) (by decide)) | (first | omega | decide))) fun w_8 G11 H12 g10 (h_9 : rep K (m__key_of (getI d_1 (-(1 : Int)))) w_8 G11) => ?_
    have h_text := up g10.g h_text
    have h_3 := up g10.g h_3
    have gr := gr.trans g10
    generalize ed_7 : (m__key_of (getI d_1 (-(1 : Int)))) = d_7 at h_9 hM
    unfold m__canonical_4 at hM
    refine q_asg (K := K) gr.s (ev_lcLm (fun d_13 => (m__spelled d_13 (Tpl.mk k__MODIFIERS))) (ev_slL (ev_var rfl h_3) eo_none (eo_some (ev_neg ev_int))) (by first | (first | exact pre_line2 hpre | exact at_last fne | exact fp _ (getI_mem (at_last fne)) | exact lt_line (Nat.le_trans (cut_le _ _ _) (Nat.le_trans fc (by decide))) | exact ⟨fp _ (cut_mem (by assumption)), mods_pre⟩ | exact of_memB (by assumption) | exact Nat.lt_of_le_of_lt (Nat.succ_le_succ (Nat.le_trans (texts_le _) fm)) (by decide) | (show _ ≤ sizeLine; rw [List.length_append]; exact le_line (Nat.le_trans (Nat.add_le_add_right fo1 _) (by decide))) | exact join_fits (n := 5) (m := 10) (by rw [List.length_append]; exact Nat.add_le_add_right fo1 _) (fun p hp => (List.mem_append.mp hp).elim (fo2 p) (fun q => by rw [List.mem_singleton.mp q]; exact key_len ed_7)) (by decide) (by decide)) | (first | omega | decide | (show _ ≤ sizeLine; decide) | (show _ < sizeLine; decide))) (fun d_13 w_14 G_ H_ sg16 sh_ hm18 h_15 P k => by exact k _ rfl eb_yes (fun hc17 => (ev_call2 (ev_var rfl h_15) (ev_c (T.r__MODIFIERS _)) (by first | (first | exact pre_line2 hpre | exact at_last fne | exact fp _ (getI_mem (at_last fne)) | exact lt_line (Nat.le_trans (cut_le _ _ _) (Nat.le_trans fc (by decide))) | exact ⟨fp _ (cut_mem (by assumption)), mods_pre⟩ | exact of_memB (by assumption) | exact Nat.lt_of_le_of_lt (Nat.succ_le_succ (Nat.le_trans (texts_le _) fm)) (by decide) | (show _ ≤ sizeLine; rw [List.length_append]; exact le_line (Nat.le_trans (Nat.add_le_add_right fo1 _) (by decide))) | exact join_fits (n := 5) (m := 10) (by rw [List.length_append]; exact Nat.add_le_add_right fo1 _) (fun p hp => (List.mem_append.mp hp).elim (fo2 p) (fun q => by rw [List.mem_singleton.mp q]; exact key_len ed_7)) (by decide) (by decide)) | (first | omega | decide)))))) fun w_20 G23 H24 g22 (h_21 : rep K (List.map (fun d_13 => (m__spelled d_13 (Tpl.mk k__MODIFIERS))) (cutL d_1 none (some (-(1 : Int))))) w_20 G23) => ?_
    have h_text := up g22.g h_text
    have h_3 := up g22.g h_3
    have h_9 := up g22.g h_9
    have gr := gr.trans g22
    generalize ed_19 : (List.map (fun d_13 => (m__spelled d_13 (Tpl.mk k__MODIFIERS))) (cutL d_1 none (some (-(1 : Int))))) = d_19 at h_21 hM
    unfold m__canonical_3 at hM
    have fm : d_19.length ≤ 1001 := by rw [← ed_19, List.length_map]; exact Nat.le_trans (cut_le _ _ _) fc
    refine q_if gr.s (et_or (et_test (ev_isN nn_str (ev_var rfl h_9))) (fun hb26 => (et_or (et_test (ev_inL (ev_non (α := Str)) (ev_var rfl h_21))) (fun hb25 => (et_test (ev_lt (ev_lenSetS (ev_texts (ev_var rfl h_21) (by first | (first | exact pre_line2 hpre | exact at_last fne | exact fp _ (getI_mem (at_last fne)) | exact lt_line (Nat.le_trans (cut_le _ _ _) (Nat.le_trans fc (by decide))) | exact ⟨fp _ (cut_mem (by assumption)), mods_pre⟩ | exact of_memB (by assumption) | exact Nat.lt_of_le_of_lt (Nat.succ_le_succ (Nat.le_trans (texts_le _) fm)) (by decide) | (show _ ≤ sizeLine; rw [List.length_append]; exact le_line (Nat.le_trans (Nat.add_le_add_right fo1 _) (by decide))) | exact join_fits (n := 5) (m := 10) (by rw [List.length_append]; exact Nat.add_le_add_right fo1 _) (fun p hp => (List.mem_append.mp hp).elim (fo2 p) (fun q => by rw [List.mem_singleton.mp q]; exact key_len ed_7)) (by decide) (by decide)) | (first | omega | decide | (show _ ≤ sizeLine; decide) | (show _ < sizeLine; decide)))) (by first | (first | exact pre_line2 hpre | exact at_last fne | exact fp _ (getI_mem (at_last fne)) | exact lt_line (Nat.le_trans (cut_le _ _ _) (Nat.le_trans fc (by decide))) | exact ⟨fp _ (cut_mem (by assumption)), mods_pre⟩ | exact of_memB (by assumption) | exact Nat.lt_of_le_of_lt (Nat.succ_le_succ (Nat.le_trans (texts_le _) fm)) (by decide) | (show _ ≤ sizeLine; rw [List.length_append]; exact le_line (Nat.le_trans (Nat.add_le_add_right fo1 _) (by decide))) | exact join_fits (n := 5) (m := 10) (by rw [List.length_append]; exact Nat.add_le_add_right fo1 _) (fun p hp => (List.mem_append.mp hp).elim (fo2 p) (fun q => by rw [List.mem_singleton.mp q]; exact key_len ed_7)) (by decide) (by decide)) | (first | omega | decide | (show _ ≤ sizeLine; decide) | (show _ < sizeLine; decide)))) (ev_lenL (ev_var rfl h_21)))))))) ?_ ?_
    · intro hb28 G29 H30 g27
      have h_text := up g27.g h_text
      have h_3 := up g27.g h_3
      have h_9 := up g27.g h_9
      have h_21 := up g27.g h_21
      have gr := gr.trans g27
      replace hM := condT hM hb28
      refine s_ret (K := K) gr.s (ev_non (α := Str)) fun u Gr Hr gq hu => ?_
      exact hQ u Gr Hr (gr.trans gq) (by rw [hM]; exact hu)
    · intro hb28 G31 H32 g27
      have h_text := up g27.g h_text
      have h_3 := up g27.g h_3
      have h_9 := up g27.g h_9
      have h_21 := up g27.g h_21
      have gr := gr.trans g27
      replace hM := condF hM hb28
      rcases d_7 with _ | d_33
      · exact absurd hb28 (by simp)
      have h_9 := un_some h_9
      rw [Option.getD_some] at hM
      unfold m__canonical_2 at hM
      refine s_next ?_
      refine nx_mk ?_
      refine q_asg (K := K) gr.s (ev_lcT (fun d_34 => (memB (some d_34) d_19)) (fun d_34 => d_34) (ev_c (T.r__MODIFIERS _)) (by first | (first | exact pre_line2 hpre | exact at_last fne | exact fp _ (getI_mem (at_last fne)) | exact lt_line (Nat.le_trans (cut_le _ _ _) (Nat.le_trans fc (by decide))) | exact ⟨fp _ (cut_mem (by assumption)), mods_pre⟩ | exact of_memB (by assumption) | exact Nat.lt_of_le_of_lt (Nat.succ_le_succ (Nat.le_trans (texts_le _) fm)) (by decide) | (show _ ≤ sizeLine; rw [List.length_append]; exact le_line (Nat.le_trans (Nat.add_le_add_right fo1 _) (by decide))) | exact join_fits (n := 5) (m := 10) (by rw [List.length_append]; exact Nat.add_le_add_right fo1 _) (fun p hp => (List.mem_append.mp hp).elim (fo2 p) (fun q => by rw [List.mem_singleton.mp q]; exact key_len ed_7)) (by decide) (by decide)) | (first | omega | decide | (show _ ≤ sizeLine; decide) | (show _ < sizeLine; decide))) (fun d_34 w_35 G_ H_ sg37 sh_ hm39 h_36 P k => by have h_21 := up sg37 h_21; exact k _ rfl (et_test (ev_inL (ev_some (ev_var rfl h_36)) (ev_var rfl h_21))) (fun hc38 => (ev_var rfl h_36)))) fun w_41 G44 H45 g43 (h_42 : rep K (List.map (fun d_34 => d_34) (List.filter (fun d_34 => (memB (some d_34) d_19)) ((Tpl.mk k__MODIFIERS)).l)) w_41 G44) => ?_
      have h_text := up g43.g h_text
      have h_3 := up g43.g h_3
      have h_9 := up g43.g h_9
      have h_21 := up g43.g h_21
      have gr := gr.trans g43
      generalize ed_40 : (List.map (fun d_34 => d_34) (List.filter (fun d_34 => (memB (some d_34) d_19)) ((Tpl.mk k__MODIFIERS)).l)) = d_40 at h_42 hM
      unfold m__canonical_1 at hM
      have fo1 : d_40.length ≤ 4 := by rw [← ed_40, List.length_map]; exact List.length_filter_le _ _
      have fo2 : ∀ p ∈ d_40, p.length ≤ 10 := by rw [← ed_40, List.map_id']; exact fun p hp => mods_len p ((List.mem_filter.mp hp).1)
      refine s_ret (K := K) gr.s (ev_some (ev_join ev_str (ev_lst (ea_star (ev_var rfl h_42) (ea_cons (ev_var rfl h_9) ea_nil)) (by first | (first | exact pre_line2 hpre | exact at_last fne | exact fp _ (getI_mem (at_last fne)) | exact lt_line (Nat.le_trans (cut_le _ _ _) (Nat.le_trans fc (by decide))) | exact ⟨fp _ (cut_mem (by assumption)), mods_pre⟩ | exact of_memB (by assumption) | exact Nat.lt_of_le_of_lt (Nat.succ_le_succ (Nat.le_trans (texts_le _) fm)) (by decide) | (show _ ≤ sizeLine; rw [List.length_append]; exact le_line (Nat.le_trans (Nat.add_le_add_right fo1 _) (by decide))) | exact join_fits (n := 5) (m := 10) (by rw [List.length_append]; exact Nat.add_le_add_right fo1 _) (fun p hp => (List.mem_append.mp hp).elim (fo2 p) (fun q => by rw [List.mem_singleton.mp q]; exact key_len ed_7)) (by decide) (by decide)) | (first | (show _ ≤ sizeLine; decide) | (simp only [List.length_cons, List.length_nil, List.length_append, sizeLine_eq]; omega) | (fail)))) (by first | (first | exact pre_line2 hpre | exact at_last fne | exact fp _ (getI_mem (at_last fne)) | exact lt_line (Nat.le_trans (cut_le _ _ _) (Nat.le_trans fc (by decide))) | exact ⟨fp _ (cut_mem (by assumption)), mods_pre⟩ | exact of_memB (by assumption) | exact Nat.lt_of_le_of_lt (Nat.succ_le_succ (Nat.le_trans (texts_le _) fm)) (by decide) | (show _ ≤ sizeLine; rw [List.length_append]; exact le_line (Nat.le_trans (Nat.add_le_add_right fo1 _) (by decide))) | exact join_fits (n := 5) (m := 10) (by rw [List.length_append]; exact Nat.add_le_add_right fo1 _) (fun p hp => (List.mem_append.mp hp).elim (fo2 p) (fun q => by rw [List.mem_singleton.mp q]; exact key_len ed_7)) (by decide) (by decide)) | (first | omega | decide | (show _ ≤ sizeLine; decide) | (show _ < sizeLine; decide))))) fun u Gr Hr gq hu => ?_
      exact hQ u Gr Hr (gr.trans gq) (by rw [hM]; exact hu)
/-! #### key_sequence -/
theorem seq_side {t : Str} (h : PreT t) : (Txt.split t (" " : Str)).length < sizeLine := lt_line (Nat.le_trans (split_count (by decide)) (Nat.le_trans (Nat.succ_le_succ h) (by decide)))
theorem seq_side2 {t p : Str} (h : PreT t) (hp : p ∈ Txt.split t (" " : Str)) : PreT p := Nat.le_trans (split_part hp) h
theorem seq_none {a : Bool} {l : List (Option Str)} (h : (a || memB (none : Option Str) l) = false) : none ∉ l := of_memB (Bool.or_eq_false_iff.mp h).2

def m_key_sequence_1 (d_7 : (List (Option Str))) : (Except Str (Tpl Str)) := (cond ((!(decide ((1 : Int) ≤ ((d_7).length : Int)) && decide (((d_7).length : Int) ≤ (3 : Int)))) || (memB (none : (Option Str)) d_7)) (Except.error ("invalid key sequence" : Str)) (Except.ok (Tpl.mk (texts d_7))))
def m_key_sequence (d_text : Str) : (Except Str (Tpl Str)) := (m_key_sequence_1 (List.map (fun d_1 => (m__canonical d_1)) (List.filter (fun d_1 => (!eqB d_1 ("" : Str))) (Txt.split d_text (" " : Str)))))
abbrev p_key_sequence (K : PySem.W.Frag) (A : Adr) : Sp := spx1 K A.x_BadKeys "what" (fun text => PreT text) m_key_sequence
theorem ok_key_sequence (T : Tx K mg A) : FnOk P w K mg base (L2.CX P w) 4 A.f_key_sequence A.d_key_sequence ["text"] (p_key_sequence K A) := by
  refine T.F_key_sequence.okX sc_key_sequence (fun vs He Q E h => ?_) (fun cdv A0 outer s He vs Q E hr h => ⟨_, (pss_cons (ps_setLc (i := 1) (own := [("part", 2)]) (g := gName 2) rfl sc_key_sequence.nd rfl rfl (sw_true rfl rfl rfl (by decide +kernel)) (pi_listK (K := K) (pe_split (pv 0) pe_str)) (blkOk_by (N := n_key_sequence) (sc := defScope s_key_sequence) (by decide +kernel)) (fun _ _ _ _ _ => pg_name (i := 2) sc_key_sequence.nd rfl (Or.inl rfl)) (fun _ _ _ _ _ => (pts_one (pt_cmpR op_ne (pv 2) pe_str (nomark _)))) (fun _ _ _ _ _ => (pe_call (ok__canonical T) (hr.mono (by decide)) rfl T.g__canonical T.F__canonical.kp T.b__canonical .nil pass0 (pa_cons (pv 2) pa_nil)))) (pss_cons (ps_if (PW.pt (pw_or (pt_not (pt_chain op_le op_le pe_int (pe_callB (call_lenK (K := K)) rfl T.n_len boot_len (pa_cons (pv 1) pa_nil)) (C8.pe_gc rfl T.c__LONGEST_SEQUENCE))) (pw_or1 (pt_cmpR (op_inK (K := K)) pe_non (pv 1) (by rfl))))) (pss_one (ps_raise rfl (takes_of rfl rfl rfl rfl) (pmk_oex T.x_BadKeys.ox T.x_BadKeys.iC T.x_BadKeys.tI (ok_init_BadKeys T) (hr.mono (by decide)) T.bi_BadKeys .nil pass0 rfl T.x_BadKeys.gC (pa_cons pe_str pa_nil)))) pss_nil) (pss_one (ps_ret (pe_callTy (call_tupleK (K := K)) rfl T.n_tuple boot_tuple (pa_cons (pv 1) pa_nil)))))), ?_⟩)
  · obtain ⟨d_text, w_text, G, rfl, eG, h_text, hpre, hQ, hE⟩ := h
    rfl
  · obtain ⟨d_text, w_text, G, rfl, eG, h_text, hpre, hQ, hE⟩ := h
    have gr : Grow G He G He := Grow.refl eG
    obtain ⟨Ge, eGe⟩ : ∃ z, z = G := ⟨G, rfl⟩
    have gr : Grow Ge He G He := by rw [eGe]; exact gr
    rw [← eGe] at hQ
    clear eGe
    have hM : m_key_sequence d_text = (m_key_sequence_1 (List.map (fun d_1 => (m__canonical d_1)) (List.filter (fun d_1 => (!eqB d_1 ("" : Str))) (Txt.split d_text (" " : Str))))) := rfl
    refine q_asg (K := K) gr.s (ev_lcL (fun d_1 => (!eqB d_1 ("" : Str))) (fun d_1 => (m__canonical d_1)) (ev_split (ev_var rfl h_text) ev_str (by decide) (by first | (first | exact pre_line2 hpre | exact seq_side hpre | exact seq_side2 hpre (by assumption) | exact seq_none (by assumption)) | (first | omega | decide | (show _ ≤ sizeLine; decide) | (show _ < sizeLine; decide)))) (by first | (first | exact pre_line2 hpre | exact seq_side hpre | exact seq_side2 hpre (by assumption) | exact seq_none (by assumption)) | (first | omega | decide | (show _ ≤ sizeLine; decide) | (show _ < sizeLine; decide))) (fun d_1 w_2 G_ H_ sg4 sh_ hm6 h_3 P k => by exact k _ rfl (et_test (ev_ne (ev_var rfl h_3) ev_str)) (fun hc5 => (ev_call1 (ev_var rfl h_3) (by first | (first | exact pre_line2 hpre | exact seq_side hpre | exact seq_side2 hpre (by assumption) | exact seq_none (by assumption)) | (first | omega | decide)))))) fun w_8 G11 H12 g10 (h_9 : rep K (List.map (fun d_1 => (m__canonical d_1)) (List.filter (fun d_1 => (!eqB d_1 ("" : Str))) (Txt.split d_text (" " : Str)))) w_8 G11) => ?_
    have h_text := up g10.g h_text
    have gr := gr.trans g10
    generalize ed_7 : (List.map (fun d_1 => (m__canonical d_1)) (List.filter (fun d_1 => (!eqB d_1 ("" : Str))) (Txt.split d_text (" " : Str)))) = d_7 at h_9 hM
    unfold m_key_sequence_1 at hM
    refine q_if gr.s (et_or (et_not (et_test (ev_chain ev_int (ev_lenL (ev_var rfl h_9)) rv_le (fun _ => ev_int) rv_le))) (fun hb13 => (et_test (ev_inL (ev_non (α := Str)) (ev_var rfl h_9))))) ?_ ?_
    · intro hb15 G16 H17 g14
      have h_text := up g14.g h_text
      have h_9 := up g14.g h_9
      have gr := gr.trans g14
      replace hM := condT hM hb15
      refine err_made (K := K) gr.s ev_str (v := V.str ("invalid key sequence" : Str)) (fun _ _ z => z) ⟨_, rfl⟩ ?_
      exact fun d H1 sm n q => hE _ hM d H1 (gr.h.trans sm) (gr.h.free n) q
    · intro hb15 G18 H19 g14
      have h_text := up g14.g h_text
      have h_9 := up g14.g h_9
      have gr := gr.trans g14
      replace hM := condF hM hb15
      refine s_next ?_
      refine nx_mk ?_
      refine s_ret (K := K) gr.s (ev_tupleL (ev_texts (ev_var rfl h_9) (by first | (first | exact pre_line2 hpre | exact seq_side hpre | exact seq_side2 hpre (by assumption) | exact seq_none (by assumption)) | (first | omega | decide)))) fun u Gr Hr gq hu => ?_
      exact hQ _ hM u Gr Hr (gr.trans gq) hu
/-! #### is_prefix -/
def m_is_prefix (d_one : (Tpl Str)) (d_two : (Tpl Str)) : Bool := (eqB ((Tpl.mk (cutL (d_two).l none (some ((d_one).l.length : Int))))).l (d_one).l)
abbrev p_is_prefix (K : PySem.W.Frag) : Sp := sp2 K (fun one two => TOk one.l ∧ TOk two.l) m_is_prefix
theorem ok_is_prefix (T : Tx K mg A) : FnOk P w K mg base CX0 1 A.f_is_prefix A.d_is_prefix ["one", "two"] (p_is_prefix K) := by
  refine T.F_is_prefix.ok sc_is_prefix (fun vs He Q E h => ?_) (fun cdv A0 outer s He vs Q E hr h => ⟨_, (pss_one (ps_ret (pe_cmpR (op_eqK (K := K) hr.units) (pe_slice (sl_tupK (K := K)) (pv 1) po_none (po_some (pe_callB (call_lenK (K := K)) rfl T.n_len boot_len (pa_cons (pv 0) pa_nil)))) (pv 0) (nomark _)))), ?_⟩)
  · obtain ⟨d_one, d_two, w_one, w_two, G, rfl, eG, h_one, h_two, hpre, hQ⟩ := h
    rfl
  · obtain ⟨d_one, d_two, w_one, w_two, G, rfl, eG, h_one, h_two, hpre, hQ⟩ := h
    have gr : Grow G He G He := Grow.refl eG
    obtain ⟨Ge, eGe⟩ : ∃ z, z = G := ⟨G, rfl⟩
    have gr : Grow Ge He G He := by rw [eGe]; exact gr
    rw [← eGe] at hQ
    clear eGe
    have hM : m_is_prefix d_one d_two = (eqB ((Tpl.mk (cutL (d_two).l none (some ((d_one).l.length : Int))))).l (d_one).l) := rfl
    refine s_ret (K := K) gr.s (ev_eqT (ev_slT (ev_var rfl h_two) eo_none (eo_some (ev_lenT (ev_var rfl h_one)))) (ev_var rfl h_one) (by first | (exact ⟨fun p hp => hpre.2 p (cut_mem hp), hpre.1⟩) | (first | omega | decide | (show _ ≤ sizeLine; decide) | (show _ < sizeLine; decide)))) fun u Gr Hr gq hu => ?_
    exact hQ u Gr Hr (gr.trans gq) (by rw [hM]; exact hu)
/-! #### shown -/
def m_shown (d_strokes : (Tpl Str)) : Str := (Txt.join (" " : Str) (d_strokes).l)
abbrev p_shown (K : PySem.W.Frag) : Sp := sp1 K (fun s => ShP s.l) m_shown
theorem ok_shown (T : Tx K mg A) : FnOk P w K mg base CX0 1 A.f_shown A.d_shown ["strokes"] (p_shown K) := by
  refine T.F_shown.ok sc_shown (fun vs He Q E h => ?_) (fun cdv A0 outer s He vs Q E hr h => ⟨_, (pss_one (ps_ret (pe_joinK (K := K) pe_str (pv 0)))), ?_⟩)
  · obtain ⟨d_strokes, w_strokes, G, rfl, eG, h_strokes, hpre, hQ⟩ := h
    rfl
  · obtain ⟨d_strokes, w_strokes, G, rfl, eG, h_strokes, hpre, hQ⟩ := h
    have gr : Grow G He G He := Grow.refl eG
    obtain ⟨Ge, eGe⟩ : ∃ z, z = G := ⟨G, rfl⟩
    have gr : Grow Ge He G He := by rw [eGe]; exact gr
    rw [← eGe] at hQ
    clear eGe
    have hM : m_shown d_strokes = (Txt.join (" " : Str) (d_strokes).l) := rfl
    refine s_ret (K := K) gr.s (ev_joinT ev_str (ev_var rfl h_strokes) (by first | (exact shp_fits hpre) | (first | omega | decide | (show _ ≤ sizeLine; decide) | (show _ < sizeLine; decide)))) fun u Gr Hr gq hu => ?_
    exact hQ u Gr Hr (gr.trans gq) (by rw [hM]; exact hu)
/-! #### _law_cell -/
def m__law_cell (d_script : Scr) (d_k : Int) : Int := (cond (decide (d_k < ((d_script).l.length : Int))) (getI (d_script).l d_k) (0 : Int))
abbrev p__law_cell (K : PySem.W.Frag) : Sp := sp2 K (fun _ k => 0 ≤ k) m__law_cell
theorem ok__law_cell (T : Tx K mg A) : FnOk P w K mg base CX0 1 A.f__law_cell A.d__law_cell ["script", "k"] (p__law_cell K) := by
  refine T.F__law_cell.ok sc__law_cell (fun vs He Q E h => ?_) (fun cdv A0 outer s He vs Q E hr h => ⟨_, (pss_cons (ps_if (pt_cmpR op_lt (pv 1) (pe_callB (call_lenK (K := K)) rfl T.n_len boot_len (pa_cons (pv 0) pa_nil)) (nomark _)) (pss_one (ps_ret (pe_ix (ix_listK (K := K)) (pv 0) (pv 1) fun _ _ => rfl))) pss_nil) (pss_one (ps_ret pe_int))), ?_⟩)
  · obtain ⟨d_script, d_k, w_script, w_k, G, rfl, eG, h_script, h_k, hpre, hQ⟩ := h
    rfl
  · obtain ⟨d_script, d_k, w_script, w_k, G, rfl, eG, h_script, h_k, hpre, hQ⟩ := h
    have gr : Grow G He G He := Grow.refl eG
    obtain ⟨Ge, eGe⟩ : ∃ z, z = G := ⟨G, rfl⟩
    have gr : Grow Ge He G He := by rw [eGe]; exact gr
    rw [← eGe] at hQ
    clear eGe
    have hM : m__law_cell d_script d_k = (cond (decide (d_k < ((d_script).l.length : Int))) (getI (d_script).l d_k) (0 : Int)) := rfl
    refine q_if gr.s (et_test (ev_lt (ev_var rfl h_k) (ev_lenScr (ev_var rfl h_script)))) ?_ ?_
    · intro hb2 G3 H4 g1
      have h_script := up g1.g h_script
      have h_k := up g1.g h_k
      have gr := gr.trans g1
      replace hM := condT hM hb2
      refine s_ret (K := K) gr.s (ev_ixScr (ev_var rfl h_script) (ev_var rfl h_k) (atI_get (by first | (exact at_in hpre (by exact of_decide_eq_true (by assumption))) | (first | decide | (refine at_in ?_ ?_ <;> omega) | (refine at_neg ?_ ?_ <;> omega))))) fun u Gr Hr gq hu => ?_
      exact hQ u Gr Hr (gr.trans gq) (by rw [hM]; exact hu)
    · intro hb2 G5 H6 g1
      have h_script := up g1.g h_script
      have h_k := up g1.g h_k
      have gr := gr.trans g1
      replace hM := condF hM hb2
      refine s_next ?_
      refine nx_mk ?_
      refine s_ret (K := K) gr.s ev_int fun u Gr Hr gq hu => ?_
      exact hQ u Gr Hr (gr.trans gq) (by rw [hM]; exact hu)
/-! #### _law_draws -/
def m__law_draws_1 (d_37 : Int) (d_35 : (List Int)) : ((List Int) × Int) := (d_35, d_37)
def m__law_draws_2 (d_21 : Int) (d_35 : (List Int)) : ((List Int) × Int) := (m__law_draws_1 (d_21 / (1009 : Int)) d_35)
def m__law_draws_3 (d_21 : Int) (d_59 : (List Int)) : ((List Int) × Int) := (d_59, d_21)
def m__law_draws_4 (d_21 : Int) (d_18 : (List Int)) (d_10 : Int) (d_48 : Int) : ((List Int) × Int) := (m__law_draws_3 d_21 (d_18 ++ [((((d_48 * d_48) + (d_21 * (31 : Int))) + d_10) % (1000003 : Int))]))
def m__law_draws_5 (d_21 : Int) (d_18 : (List Int)) (d_10 : Int) : ((List Int) × Int) := (m__law_draws_4 d_21 d_18 d_10 (((d_21 * (48271 : Int)) + (d_10 * (69621 : Int))) % (2147483647 : Int)))
def m__law_draws_6 (d_4 : Bool) (d_21 : Int) (d_18 : (List Int)) (d_10 : Int) : ((List Int) × Int) := (cond d_4 (m__law_draws_2 d_21 (d_18 ++ [(d_21 % (1009 : Int))])) (m__law_draws_5 d_21 d_18 d_10))
def m__law_draws_7 (d_4 : Bool) (s : (List Int) × Int) (d_10 : Int) : ((List Int) × Int) := m__law_draws_6 d_4 (s).2 (s).1 (d_10)
def m__law_draws_8  (s : (List Int) × Int) : (List Int) := (s).1
def m__law_draws_9 (d_cell : Int) (d_count : Int) (d_1 : (List Int)) (d_4 : Bool) : (List Int) := (m__law_draws_8 (List.foldl (m__law_draws_7 d_4) (d_1, d_cell) (rgs 0 d_count)))
def m__law_draws_10 (d_cell : Int) (d_count : Int) (d_1 : (List Int)) : (List Int) := (m__law_draws_9 d_cell d_count d_1 (decide (((10 : Int) ^ ((18 : Int)).toNat) ≤ d_cell)))
def m__law_draws (d_cell : Int) (d_count : Int) : (List Int) := (m__law_draws_10 d_cell d_count ([] : List Int))
abbrev p__law_draws (K : PySem.W.Frag) : Sp := sp2 K (fun _ n => 0 ≤ n ∧ n ≤ 1000) m__law_draws
theorem draws_step (b : Bool) (s : List Int × Int) (k : Int) : ∃ x, 0 ≤ x ∧ (m__law_draws_7 b s k).1 = s.1 ++ [x] := by
  cases b with
  | true => exact ⟨s.2 % 1009, Int.emod_nonneg _ (by decide), rfl⟩
  | false => exact ⟨_, Int.emod_nonneg _ (by decide), rfl⟩
theorem draws_fold (b : Bool) : ∀ (l : List Int) (s : List Int × Int), (List.foldl (m__law_draws_7 b) s l).1.length = s.1.length + l.length
  | [], s => rfl
  | k :: l, s => by
    obtain ⟨x, _, e⟩ := draws_step b s k
    rw [List.foldl_cons, draws_fold b l, e, List.length_append, List.length_cons, List.length_cons, List.length_nil]
    omega
theorem draws_nn (b : Bool) : ∀ (l : List Int) (s : List Int × Int), NN s.1 → NN (List.foldl (m__law_draws_7 b) s l).1
  | [], s, h => h
  | k :: l, s, h => by
    obtain ⟨x, hx, e⟩ := draws_step b s k
    rw [List.foldl_cons]
    refine draws_nn b l _ ?_
    rw [e]
    intro y hy
    rcases List.mem_append.mp hy with q | q
    · exact h y q
    · rw [List.mem_singleton.mp q]; exact hx
theorem draws_len (cell : Int) {n : Int} (h : 0 ≤ n) : (m__law_draws cell n).length = n.toNat := by
  show (List.foldl (m__law_draws_7 _) (([] : List Int), cell) (rgs 0 n)).1.length = _
  rw [draws_fold, rgs_len, List.length_nil]
  omega
theorem draws_pos (cell n : Int) : NN (m__law_draws cell n) := draws_nn _ _ _ (fun _ h => by cases h)

theorem ok__law_draws (T : Tx K mg A) : FnOk P w K mg base CX0 1 A.f__law_draws A.d__law_draws ["cell", "count"] (p__law_draws K) := by
  refine T.F__law_draws.ok sc__law_draws (fun vs He Q E h => ?_) (fun cdv A0 outer s He vs Q E hr h => ⟨_, (pss_cons (ps_set (i := 2) sc__law_draws.nd rfl (Or.inl rfl) (pe_lst pa_nil)) (pss_cons (ps_set (i := 3) sc__law_draws.nd rfl (Or.inl rfl) (pe_cmpR op_ge (pv 0) (pe_op op_pow pe_int pe_int) (nomark _))) (pss_cons (ps_for PassesOwn.never rfl (pi_range1 rfl T.n_range (pa_cons (pv 1) pa_nil)) (pg_name (i := 4) sc__law_draws.nd rfl (Or.inl rfl)) (pss_one (ps_if (pt_val (pv 3)) (pss_cons (ps_expr (pe_bmK (K := K) PySem.F.plainAttrs_list PySem.F.slot_list_append PySem.F.type_list_append mt_append (pv 2) (pa_cons (pe_op op_mod (pe_callTy call_int1 rfl T.n_int boot_int (pa_cons (pv 0) pa_nil)) pe_int) pa_nil))) (pss_one (ps_set (i := 0) sc__law_draws.nd rfl (Or.inl rfl) (pe_op op_fdiv (pv 0) pe_int)))) (pss_cons (ps_set (i := 5) sc__law_draws.nd rfl (Or.inl rfl) (pe_op op_mod (pe_callTy call_int1 rfl T.n_int boot_int (pa_cons (pe_op op_add (pe_op op_mul (pv 0) pe_int) (pe_op op_mul (pv 4) pe_int)) pa_nil)) pe_int)) (pss_one (ps_expr (pe_bmK (K := K) PySem.F.plainAttrs_list PySem.F.slot_list_append PySem.F.type_list_append mt_append (pv 2) (pa_cons (pe_op op_mod (pe_callTy call_int1 rfl T.n_int boot_int (pa_cons (pe_op op_add (pe_op op_add (pe_op op_mul (pv 5) (pv 5)) (pe_op op_mul (pv 0) pe_int)) (pv 4)) pa_nil)) pe_int) pa_nil)))))))) (pss_one (ps_ret (pv 2)))))), ?_⟩)
  · obtain ⟨d_cell, d_count, w_cell, w_count, G, rfl, eG, h_cell, h_count, hpre, hQ⟩ := h
    rfl
  · obtain ⟨d_cell, d_count, w_cell, w_count, G, rfl, eG, h_cell, h_count, hpre, hQ⟩ := h
    have gr : Grow G He G He := Grow.refl eG
    obtain ⟨Ge, eGe⟩ : ∃ z, z = G := ⟨G, rfl⟩
    have gr : Grow Ge He G He := by rw [eGe]; exact gr
    rw [← eGe] at hQ
    clear eGe
    have hM : m__law_draws d_cell d_count = (m__law_draws_10 d_cell d_count ([] : List Int)) := rfl
    refine q_newF gr fun a3 H65 hF_3 hN_3 np3 hH_3 gr sm3 => ?_
    have h_2 := reps_nil (K := K) (α := Int) gr
    generalize ed_1 : ([] : List Int) = d_1 at h_2 hM
    unfold m__law_draws_10 at hM
    refine q_asg (K := K) gr.s (ev_ge (ev_var rfl h_cell) (ev_pow ev_int ev_int ⟨by decide, by decide, by decide⟩)) fun w_5 G8 H9 g7 (h_6 : rep K (decide (((10 : Int) ^ ((18 : Int)).toNat) ≤ d_cell)) w_5 G8) => ?_
    have h_cell := up g7.g h_cell
    have h_count := up g7.g h_count
    have hN_3 := g7.f _ _ hH_3 hN_3
    have hH_3 := g7.h _ _ hH_3
    have h_2 := Reps.up g7.g h_2
    have gr := gr.trans g7
    generalize ed_4 : (decide (((10 : Int) ^ ((18 : Int)).toNat) ≤ d_cell)) = d_4 at h_6 hM
    unfold m__law_draws_9 at hM
    refine q_forR1 (K := K) gr.s (ev_var rfl h_count) (by first | (first | exact lt_line (by omega) | exact ⟨by omega, by omega⟩) | (first | (constructor <;> omega) | (decide))) fun G13 H14 g16 => ?_
    have h_cell := up g16.g h_cell
    have h_count := up g16.g h_count
    have hN_3 := g16.f _ _ hH_3 hN_3
    have hH_3 := g16.h _ _ hH_3
    have h_2 := Reps.up g16.g h_2
    have h_6 := up g16.g h_6
    have gr := gr.trans g16
    refine ⟨fun i_ σ_ H_ => ∃ (G64 : Hp) (w_22 : V) (o_24 : Option V) (o_25 : Option V), Grow Ge He G64 H_ ∧ Same G13 G64 ∧ σ_ = [some w_22, some w_count, some (V.ref a3), some w_5, o_25, o_24] ∧ (∃ zs, Reps K (((List.foldl (m__law_draws_7 d_4) (d_1, d_cell) (List.take i_ (rgs 0 d_count)))).1 : (List Int)) zs G64 ∧ H_ a3 = some (.lst zs) ∧ G64 a3 = none) ∧ rep K (((List.foldl (m__law_draws_7 d_4) (d_1, d_cell) (List.take i_ (rgs 0 d_count)))).2 : Int) w_22 G64, ⟨_, w_cell, _, _, gr, Same.refl _, rfl, ⟨_, h_2, hH_3, hN_3⟩, h_cell⟩, ?_, ?_⟩
    · rintro i_0 σ_0 H_0 hlt_0 ⟨G64, w_22, o_24, o_25, gr, sg0, rfl, ⟨zs_3, h_20, hH_3, hN_3⟩, h_23⟩
      obtain ⟨d_10, hx0_0, hx0, lo_0, hi_0⟩ := rgs_at0 hlt_0
      rw [hx0_0]
      have h_12 : rep K d_10 (V.int d_10) G64 := rfl
      generalize ew_11 : V.int d_10 = w_11 at h_12
      have h_count := up sg0 h_count
      have h_6 := up sg0 h_6
      have hMo0 := hM
      clear hM
      have hM : (List.foldl (m__law_draws_7 d_4) (d_1, d_cell) (List.take (i_0 + 1) (rgs 0 d_count))) = (m__law_draws_7 d_4) (List.foldl (m__law_draws_7 d_4) (d_1, d_cell) (List.take i_0 (rgs 0 d_count))) d_10 := by rw [take_snoc hx0, List.foldl_append]; rfl
      have fl_0 := draws_fold d_4 (List.take i_0 (rgs 0 d_count)) (d_1, d_cell)
      rw [List.length_take, rgs_len] at fl_0
      have fz : d_1.length = 0 := by rw [← ed_1]; rfl
      generalize (List.foldl (m__law_draws_7 d_4) (d_1, d_cell) (List.take i_0 (rgs 0 d_count))) = st_0 at h_20 h_23 fl_0 hM
      obtain ⟨d_18, d_21⟩ := st_0
      dsimp only at h_20 h_23 fl_0
      conv at hM => rhs; unfold m__law_draws_7; unfold m__law_draws_6
      dsimp only at hM
      refine s_if gr.s (et_B (ev_var rfl h_6)) ?_ ?_
      · intro hb27 G28 H29 g26
        have h_23 := up g26.g h_23
        have h_count := up g26.g h_count
        have hN_3 := g26.f _ _ hH_3 hN_3
        have hH_3 := g26.h _ _ hH_3
        have h_20 := Reps.up g26.g h_20
        have h_6 := up g26.g h_6
        have h_12 := up g26.g h_12
        have sg0 := sg0.trans g26.g
        have gr := gr.trans g26
        replace hM := condT hM hb27
        refine q_appF (K := K) gr hF_3 hN_3 rfl hH_3 h_20 (by first | (first | exact lt_line (by omega) | exact ⟨by omega, by omega⟩) | (fail)) (ev_mod (ev_int1 (ev_var rfl h_23)) ev_int (by first | (first | exact lt_line (by omega) | exact ⟨by omega, by omega⟩) | (first | omega | decide | (show _ ≤ sizeLine; decide) | (show _ < sizeLine; decide)))) fun G31 H32 H45 zs43 g30 gr2 hN2 hH2 h_36 bt44 => ?_
        have h_23 := up g30.g h_23
        have h_count := up g30.g h_count
        have hN_3 := g30.f _ _ hH_3 hN_3
        have hH_3 := g30.h _ _ hH_3
        have h_20 := Reps.up g30.g h_20
        have h_6 := up g30.g h_6
        have h_12 := up g30.g h_12
        have sg0 := sg0.trans g30.g
        have gr := gr2
        have hN_3 := hN2
        have hH_3 := hH2
        generalize ed_35 : (d_18 ++ [(d_21 % (1009 : Int))]) = d_35 at h_36 hM
        unfold m__law_draws_2 at hM
        refine s_asg (K := K) gr.s (ev_fdiv (ev_var rfl h_23) ev_int ⟨(by first | (first | exact lt_line (by omega) | exact ⟨by omega, by omega⟩) | (first | omega | decide | (show _ ≤ sizeLine; decide) | (show _ < sizeLine; decide))), (by first | (first | exact lt_line (by omega) | exact ⟨by omega, by omega⟩) | (first | omega | decide | (show _ ≤ sizeLine; decide) | (show _ < sizeLine; decide)))⟩) fun w_38 G41 H42 g40 (h_39 : rep K (d_21 / (1009 : Int)) w_38 G41) => ?_
        have h_count := up g40.g h_count
        have hN_3 := g40.f _ _ hH_3 hN_3
        have hH_3 := g40.h _ _ hH_3
        have h_36 := Reps.up g40.g h_36
        have h_6 := up g40.g h_6
        have h_12 := up g40.g h_12
        have sg0 := sg0.trans g40.g
        have gr := gr.trans g40
        generalize ed_37 : (d_21 / (1009 : Int)) = d_37 at h_39 hM
        unfold m__law_draws_1 at hM
        exact ⟨_, w_38, _, _, gr, sg0, rfl, ⟨_, (by rw [hM]; exact h_36), hH_3, hN_3⟩, (by rw [hM]; exact h_39)⟩
      · intro hb27 G46 H47 g26
        have h_23 := up g26.g h_23
        have h_count := up g26.g h_count
        have hN_3 := g26.f _ _ hH_3 hN_3
        have hH_3 := g26.h _ _ hH_3
        have h_20 := Reps.up g26.g h_20
        have h_6 := up g26.g h_6
        have h_12 := up g26.g h_12
        have sg0 := sg0.trans g26.g
        have gr := gr.trans g26
        replace hM := condF hM hb27
        unfold m__law_draws_5 at hM
        refine q_asg (K := K) gr.s (ev_mod (ev_int1 (ev_add (ev_mul (ev_var rfl h_23) ev_int (by first | (first | exact lt_line (by omega) | exact ⟨by omega, by omega⟩) | (first | exact Or.inl ⟨by omega, by omega⟩ | exact Or.inr ⟨by omega, by omega⟩ | (exact Or.inr (by constructor <;> decide))))) (ev_mul (ev_var rfl h_12) ev_int (by first | (first | exact lt_line (by omega) | exact ⟨by omega, by omega⟩) | (first | exact Or.inl ⟨by omega, by omega⟩ | exact Or.inr ⟨by omega, by omega⟩ | (exact Or.inr (by constructor <;> decide))))))) ev_int (by first | (first | exact lt_line (by omega) | exact ⟨by omega, by omega⟩) | (first | omega | decide | (show _ ≤ sizeLine; decide) | (show _ < sizeLine; decide)))) fun w_49 G52 H53 g51 (h_50 : rep K (((d_21 * (48271 : Int)) + (d_10 * (69621 : Int))) % (2147483647 : Int)) w_49 G52) => ?_
        have h_23 := up g51.g h_23
        have h_count := up g51.g h_count
        have hN_3 := g51.f _ _ hH_3 hN_3
        have hH_3 := g51.h _ _ hH_3
        have h_20 := Reps.up g51.g h_20
        have h_6 := up g51.g h_6
        have h_12 := up g51.g h_12
        have sg0 := sg0.trans g51.g
        have gr := gr.trans g51
        generalize ed_48 : (((d_21 * (48271 : Int)) + (d_10 * (69621 : Int))) % (2147483647 : Int)) = d_48 at h_50 hM
        unfold m__law_draws_4 at hM
        refine s_appF (K := K) gr hF_3 hN_3 rfl hH_3 h_20 (by first | (first | exact lt_line (by omega) | exact ⟨by omega, by omega⟩) | (fail)) (ev_mod (ev_int1 (ev_add (ev_add (ev_mul (ev_var rfl h_50) (ev_var rfl h_50) (by first | (first | exact lt_line (by omega) | exact ⟨by omega, by omega⟩) | (first | exact Or.inl ⟨by omega, by omega⟩ | exact Or.inr ⟨by omega, by omega⟩ | (exact Or.inr (by constructor <;> decide))))) (ev_mul (ev_var rfl h_23) ev_int (by first | (first | exact lt_line (by omega) | exact ⟨by omega, by omega⟩) | (first | exact Or.inl ⟨by omega, by omega⟩ | exact Or.inr ⟨by omega, by omega⟩ | (exact Or.inr (by constructor <;> decide)))))) (ev_var rfl h_12))) ev_int (by first | (first | exact lt_line (by omega) | exact ⟨by omega, by omega⟩) | (first | omega | decide | (show _ ≤ sizeLine; decide) | (show _ < sizeLine; decide)))) fun G55 H56 H63 zs61 g54 gr2 hN2 hH2 h_60 bt62 => ?_
        have h_23 := up g54.g h_23
        have h_count := up g54.g h_count
        have hN_3 := g54.f _ _ hH_3 hN_3
        have hH_3 := g54.h _ _ hH_3
        have h_20 := Reps.up g54.g h_20
        have h_6 := up g54.g h_6
        have h_12 := up g54.g h_12
        have h_50 := up g54.g h_50
        have sg0 := sg0.trans g54.g
        have gr := gr2
        have hN_3 := hN2
        have hH_3 := hH2
        generalize ed_59 : (d_18 ++ [((((d_48 * d_48) + (d_21 * (31 : Int))) + d_10) % (1000003 : Int))]) = d_59 at h_60 hM
        unfold m__law_draws_3 at hM
        exact ⟨_, w_22, _, _, gr, sg0, rfl, ⟨_, (by rw [hM]; exact h_60), hH_3, hN_3⟩, (by rw [hM]; exact h_23)⟩
    · rintro σ_0 H_0 ⟨G64, w_22, o_24, o_25, gr, sg0, rfl, ⟨zs_3, h_20, hH_3, hN_3⟩, h_23⟩
      have h_count := up sg0 h_count
      have h_6 := up sg0 h_6
      rw [rgs_take0] at h_20
      rw [rgs_take0] at h_23
      generalize est_0 : (List.foldl (m__law_draws_7 d_4) (d_1, d_cell) (rgs 0 d_count)) = st_0 at h_20 h_23 hM
      obtain ⟨d_18, d_21⟩ := st_0
      dsimp only at h_20 h_23
      unfold m__law_draws_8 at hM
      dsimp only at hM
      refine s_ret (K := K) (gr.fix hF_3 hN_3 hH_3).s (ev_var rfl (fix_rep h_20 hN_3)) fun u Gr Hr gq hu => ?_
      exact hQ u Gr Hr ((gr.fix hF_3 hN_3 hH_3).trans gq) (by rw [hM]; exact hu)
/-! #### _law_keys -/
theorem keys_f {n : Int} (h0 : 1 ≤ n) (h : n < 13) : ("F" : Str).length + (PySem.Str.ofString (toString n)).length ≤ sizeLine := by
  have k : n = 1 ∨ n = 2 ∨ n = 3 ∨ n = 4 ∨ n = 5 ∨ n = 6 ∨ n = 7 ∨ n = 8 ∨ n = 9 ∨ n = 10 ∨ n = 11 ∨ n = 12 := by omega
  rcases k with e | e | e | e | e | e | e | e | e | e | e | e <;> rw [e] <;> decide +kernel

def m__law_keys_1 (d_15 : (List Str)) : (List Str) := d_15
def m__law_keys_2 (d_1 : (List Str)) : (List Str) := (m__law_keys_1 ((d_1 ++ (("PageUp" : Str) :: (("PageDown" : Str) :: (("Plus" : Str) :: ([] : List Str))))) ++ (List.map (fun d_7 => (("F" : Str) ++ (PySem.Str.ofString (toString d_7)))) (rgs (1 : Int) (13 : Int)))))
def m__law_keys  : (List Str) := (m__law_keys_2 (("Tab" : Str) :: (("Enter" : Str) :: (("Escape" : Str) :: (("Space" : Str) :: (("Backspace" : Str) :: (("Delete" : Str) :: (("Up" : Str) :: (("Down" : Str) :: (("Left" : Str) :: (("Right" : Str) :: (("Home" : Str) :: (("End" : Str) :: ([] : List Str))))))))))))))
abbrev p__law_keys (K : PySem.W.Frag) : Sp := sp0 K m__law_keys
theorem law_keys_eq : m__law_keys = k__KEY_NAMES := by decide +kernel
theorem law_keys_len : ∀ n ∈ m__law_keys, n.length ≤ 10 := by rw [law_keys_eq]; decide +kernel

theorem ok__law_keys (T : Tx K mg A) : FnOk P w K mg base CX0 1 A.f__law_keys A.d__law_keys [] (p__law_keys K) := by
  refine T.F__law_keys.ok sc__law_keys (fun vs He Q E h => ?_) (fun cdv A0 outer s He vs Q E hr h => ⟨_, (pss_cons (ps_set (i := 0) sc__law_keys.nd rfl (Or.inl rfl) (pe_lst (pa_cons pe_str (pa_cons pe_str (pa_cons pe_str (pa_cons pe_str (pa_cons pe_str (pa_cons pe_str (pa_cons pe_str (pa_cons pe_str (pa_cons pe_str (pa_cons pe_str (pa_cons pe_str (pa_cons pe_str pa_nil)))))))))))))) (pss_cons (ps_set (i := 0) sc__law_keys.nd rfl (Or.inl rfl) (pe_op op_cat (pe_op op_cat (pv 0) (pe_lst (pa_cons pe_str (pa_cons pe_str (pa_cons pe_str pa_nil))))) (pe_lc (own := [("k", 1)]) (g := gName 1) (tt := tYes) rfl sc__law_keys.nd (pi_range2 rfl T.n_range (pa_cons pe_int (pa_cons pe_int pa_nil))) (blkOk_by (N := n__law_keys) (sc := defScope s__law_keys) (by decide +kernel)) (fun _ _ _ _ _ => pg_name (i := 1) sc__law_keys.nd rfl (Or.inl rfl)) (fun _ _ _ _ _ => pts_nil) (fun _ _ _ _ _ => (pe_op op_add_str pe_str (pe_callTy call_str_int rfl T.n_str boot_str (pa_cons (pv 1) pa_nil))))))) (pss_one (ps_ret (pv 0))))), ?_⟩)
  · obtain ⟨rfl, G, eG, hQ⟩ := h
    rfl
  · obtain ⟨rfl, G, eG, hQ⟩ := h
    have gr : Grow G He G He := Grow.refl eG
    obtain ⟨Ge, eGe⟩ : ∃ z, z = G := ⟨G, rfl⟩
    have gr : Grow Ge He G He := by rw [eGe]; exact gr
    rw [← eGe] at hQ
    clear eGe
    have hM : m__law_keys  = (m__law_keys_2 (("Tab" : Str) :: (("Enter" : Str) :: (("Escape" : Str) :: (("Space" : Str) :: (("Backspace" : Str) :: (("Delete" : Str) :: (("Up" : Str) :: (("Down" : Str) :: (("Left" : Str) :: (("Right" : Str) :: (("Home" : Str) :: (("End" : Str) :: ([] : List Str)))))))))))))) := rfl
    refine q_asg (K := K) gr.s (ev_lst (ea_cons ev_str (ea_cons ev_str (ea_cons ev_str (ea_cons ev_str (ea_cons ev_str (ea_cons ev_str (ea_cons ev_str (ea_cons ev_str (ea_cons ev_str (ea_cons ev_str (ea_cons ev_str (ea_cons ev_str ea_nil)))))))))))) (by first | (first | exact log_small (by omega) (by omega) | (show _ ≤ sizeLine; rw [← ed_1]; decide) | exact keys_f (by omega) (by omega) | (rw [← ed_1]; exact le_line (by decide))) | (first | (show _ ≤ sizeLine; decide) | (simp only [List.length_cons, List.length_nil, List.length_append, sizeLine_eq]; omega) | (fail)))) fun w_2 G5 H6 g4 (h_3 : rep K (("Tab" : Str) :: (("Enter" : Str) :: (("Escape" : Str) :: (("Space" : Str) :: (("Backspace" : Str) :: (("Delete" : Str) :: (("Up" : Str) :: (("Down" : Str) :: (("Left" : Str) :: (("Right" : Str) :: (("Home" : Str) :: (("End" : Str) :: ([] : List Str))))))))))))) w_2 G5) => ?_
    have gr := gr.trans g4
    generalize ed_1 : (("Tab" : Str) :: (("Enter" : Str) :: (("Escape" : Str) :: (("Space" : Str) :: (("Backspace" : Str) :: (("Delete" : Str) :: (("Up" : Str) :: (("Down" : Str) :: (("Left" : Str) :: (("Right" : Str) :: (("Home" : Str) :: (("End" : Str) :: ([] : List Str))))))))))))) = d_1 at h_3 hM
    unfold m__law_keys_2 at hM
    refine q_asg (K := K) gr.s (ev_cat (ev_cat (ev_var rfl h_3) (ev_lst (ea_cons ev_str (ea_cons ev_str (ea_cons ev_str ea_nil))) (by first | (first | exact log_small (by omega) (by omega) | (show _ ≤ sizeLine; rw [← ed_1]; decide) | exact keys_f (by omega) (by omega) | (rw [← ed_1]; exact le_line (by decide))) | (first | (show _ ≤ sizeLine; decide) | (simp only [List.length_cons, List.length_nil, List.length_append, sizeLine_eq]; omega) | (fail)))) (by first | (first | exact log_small (by omega) (by omega) | (show _ ≤ sizeLine; rw [← ed_1]; decide) | exact keys_f (by omega) (by omega) | (rw [← ed_1]; exact le_line (by decide))) | (first | omega | decide | (show _ ≤ sizeLine; decide) | (show _ < sizeLine; decide)))) (ev_lcR2m (fun d_7 => (("F" : Str) ++ (PySem.Str.ofString (toString d_7)))) ev_int ev_int (by first | (first | exact log_small (by omega) (by omega) | (show _ ≤ sizeLine; rw [← ed_1]; decide) | exact keys_f (by omega) (by omega) | (rw [← ed_1]; exact le_line (by decide))) | (first | omega | decide | (show _ ≤ sizeLine; decide) | (show _ < sizeLine; decide))) (fun d_7 G_ H_ lo13 hi14 sg10 sh_ P k => by have h_9 : rep K d_7 (V.int d_7) G_ := rfl; exact k _ rfl eb_yes (fun hc11 => (ev_addS ev_str (ev_strI (ev_var rfl h_9) (by first | (first | exact log_small (by omega) (by omega) | (show _ ≤ sizeLine; rw [← ed_1]; decide) | exact keys_f (by omega) (by omega) | (rw [← ed_1]; exact le_line (by decide))) | (fail))) (by first | (first | exact log_small (by omega) (by omega) | (show _ ≤ sizeLine; rw [← ed_1]; decide) | exact keys_f (by omega) (by omega) | (rw [← ed_1]; exact le_line (by decide))) | (first | omega | decide | (show _ ≤ sizeLine; decide) | (show _ < sizeLine; decide))))))) (by first | (first | exact log_small (by omega) (by omega) | (show _ ≤ sizeLine; rw [← ed_1]; decide) | exact keys_f (by omega) (by omega) | (rw [← ed_1]; exact le_line (by decide))) | (first | omega | decide | (show _ ≤ sizeLine; decide) | (show _ < sizeLine; decide)))) fun w_16 G19 H20 g18 (h_17 : rep K ((d_1 ++ (("PageUp" : Str) :: (("PageDown" : Str) :: (("Plus" : Str) :: ([] : List Str))))) ++ (List.map (fun d_7 => (("F" : Str) ++ (PySem.Str.ofString (toString d_7)))) (rgs (1 : Int) (13 : Int)))) w_16 G19) => ?_
    have gr := gr.trans g18
    generalize ed_15 : ((d_1 ++ (("PageUp" : Str) :: (("PageDown" : Str) :: (("Plus" : Str) :: ([] : List Str))))) ++ (List.map (fun d_7 => (("F" : Str) ++ (PySem.Str.ofString (toString d_7)))) (rgs (1 : Int) (13 : Int)))) = d_15 at h_17 hM
    unfold m__law_keys_1 at hM
    refine s_ret (K := K) gr.s (ev_var rfl h_17) fun u Gr Hr gq hu => ?_
    exact hQ u Gr Hr (gr.trans gq) (by rw [hM]; exact hu)
/-! #### _law_stroke -/
def SIGNS : Str := "!\"#&'()*,-./09:;<=>?@AZ[\\]^_`KQS{|}~"
theorem signs_asc : ∀ c ∈ SIGNS.cps.toList, c < 128 := by decide +kernel

def m__law_stroke_1 (d_draws : (List Int)) (d_15 : Str) (d_21 : (List Str)) : ((List Str) × Str) := ((List.map (fun d_27 => (getI d_21 d_27)) (List.filter (fun d_27 => (eqB (((getI d_draws (2 : Int)) / (getI ((1 : Int) :: ((2 : Int) :: ((4 : Int) :: ((8 : Int) :: ([] : List Int))))) d_27)) % (2 : Int)) (1 : Int))) (rgs 0 (4 : Int)))), d_15)
def m__law_stroke_2 (d_draws : (List Int)) (d_15 : Str) : ((List Str) × Str) := (m__law_stroke_1 d_draws d_15 (("Ctrl" : Str) :: (("Alt" : Str) :: (("Shift" : Str) :: (("Meta" : Str) :: ([] : List Str))))))
def m__law_stroke_3 (d_draws : (List Int)) (d_1 : (List Str)) (d_7 : Str) : ((List Str) × Str) := (m__law_stroke_2 d_draws (cond (eqB ((getI d_draws (1 : Int)) % (3 : Int)) (0 : Int)) (getI d_1 ((getI d_draws (0 : Int)) % ((d_1).length : Int))) (getS d_7 ((getI d_draws (0 : Int)) % ((d_7).length : Int)))))
def m__law_stroke_4 (d_draws : (List Int)) (d_1 : (List Str)) : ((List Str) × Str) := (m__law_stroke_3 d_draws d_1 ("!\"#&'()*,-./09:;<=>?@AZ[\\]^_`KQS{|}~" : Str))
def m__law_stroke (d_draws : (List Int)) : ((List Str) × Str) := (m__law_stroke_4 d_draws m__law_keys)
abbrev p__law_stroke (K : PySem.W.Frag) : Sp := sp1 K (fun draws => 3 ≤ draws.length ∧ NN draws) m__law_stroke
theorem stroke_small {d : List Int} (h : 3 ≤ d.length) : SmallS (m__law_stroke d) := by
  refine ⟨?_, ?_, ?_⟩
  · show (List.map _ (List.filter _ (rgs 0 4))).length ≤ 4
    rw [List.length_map]
    exact List.length_filter_le _ _
  · show ∀ x ∈ List.map _ (List.filter _ (rgs 0 4)), OkT x
    refine mem_map_all fun i hi => ?_
    have hm := mem_rgs.mp (List.mem_filter.mp hi).1
    exact mods_ok _ (getI_mem (at_in hm.1 hm.2))
  · show OkT (cond _ (getI m__law_keys _) (getS _ _))
    rw [law_keys_eq]
    cases eqB (getI d 1 % 3) 0 with
    | true => exact keys_ok _ (getI_mem (at_mod (by decide)))
    | false =>
      refine ⟨by show 1 ≤ 10; decide, fun c hc => ?_⟩
      have e : c = _ := List.mem_singleton.mp hc
      rw [e]
      exact signs_asc _ (getI_mem (at_modS (by decide)))

theorem ok__law_stroke (T : Tx K mg A) : FnOk P w K mg base CX0 2 A.f__law_stroke A.d__law_stroke ["draws"] (p__law_stroke K) := by
  refine T.F__law_stroke.ok sc__law_stroke (fun vs He Q E h => ?_) (fun cdv A0 outer s He vs Q E hr h => ⟨_, (pss_cons (ps_set (i := 1) sc__law_stroke.nd rfl (Or.inl rfl) (pe_call0 (ok__law_keys T) (hr.mono (by decide)) rfl T.g__law_keys T.F__law_keys.kp T.b__law_keys .nil pass0)) (pss_cons (ps_set (i := 2) sc__law_stroke.nd rfl (Or.inl rfl) pe_str) (pss_cons (ps_set (i := 3) sc__law_stroke.nd rfl (Or.inl rfl) (pe_ifExp (pt_cmpR op_eq (pe_op op_mod (pe_callTy call_int1 rfl T.n_int boot_int (pa_cons (pe_ix (ix_listK (K := K)) (pv 0) pe_int fun _ _ => rfl) pa_nil)) pe_int) pe_int (nomark _)) (pe_ix (ix_listK (K := K)) (pv 1) (pe_op op_mod (pe_callTy call_int1 rfl T.n_int boot_int (pa_cons (pe_ix (ix_listK (K := K)) (pv 0) pe_int fun _ _ => rfl) pa_nil)) (pe_callB (call_lenK (K := K)) rfl T.n_len boot_len (pa_cons (pv 1) pa_nil))) fun _ _ => rfl) (pe_ix ix_str (pv 2) (pe_op op_mod (pe_callTy call_int1 rfl T.n_int boot_int (pa_cons (pe_ix (ix_listK (K := K)) (pv 0) pe_int fun _ _ => rfl) pa_nil)) (pe_callB (call_lenK (K := K)) rfl T.n_len boot_len (pa_cons (pv 2) pa_nil))) fun _ _ => rfl))) (pss_cons (ps_set (i := 4) sc__law_stroke.nd rfl (Or.inr rfl) (pe_lst (pa_cons pe_str (pa_cons pe_str (pa_cons pe_str (pa_cons pe_str pa_nil)))))) (pss_one (ps_ret (pe_tup (pa_cons (pe_lc (own := [("k", 5)]) (g := gName 5) rfl sc__law_stroke.nd (pi_range1 rfl T.n_range (pa_cons pe_int pa_nil)) (blkOk_by (N := n__law_stroke) (sc := defScope s__law_stroke) (by decide +kernel)) (fun _ _ _ _ _ => pg_name (i := 5) sc__law_stroke.nd rfl (Or.inl rfl)) (fun _ _ _ _ _ => (pts_one (pt_cmpR op_eq (pe_op op_mod (pe_op op_fdiv (pe_callTy call_int1 rfl T.n_int boot_int (pa_cons (pe_ix (ix_listK (K := K)) (pv 0) pe_int fun _ _ => rfl) pa_nil)) (pe_ix (ix_listK (K := K)) (pe_lst (pa_cons pe_int (pa_cons pe_int (pa_cons pe_int (pa_cons pe_int pa_nil))))) (pv 5) fun _ _ => rfl)) pe_int) pe_int (nomark _)))) (fun _ _ _ _ _ => (pe_ix (ix_listK (K := K)) (pv 4) (pv 5) fun _ _ => rfl))) (pa_cons (pv 3) pa_nil))))))))), ?_⟩)
  · obtain ⟨d_draws, w_draws, G, rfl, eG, h_draws, hpre, hQ⟩ := h
    rfl
  · obtain ⟨d_draws, w_draws, G, rfl, eG, h_draws, hpre, hQ⟩ := h
    have gr : Grow G He G He := Grow.refl eG
    obtain ⟨Ge, eGe⟩ : ∃ z, z = G := ⟨G, rfl⟩
    have gr : Grow Ge He G He := by rw [eGe]; exact gr
    rw [← eGe] at hQ
    clear eGe
    have hM : m__law_stroke d_draws = (m__law_stroke_4 d_draws m__law_keys) := rfl
    refine q_asg (K := K) gr.s ev_call0 fun w_2 G5 H6 g4 (h_3 : rep K m__law_keys w_2 G5) => ?_
    have h_draws := up g4.g h_draws
    have gr := gr.trans g4
    generalize ed_1 : m__law_keys = d_1 at h_3 hM
    unfold m__law_stroke_4 at hM
    refine q_asg (K := K) gr.s ev_str fun w_8 G11 H12 g10 (h_9 : rep K ("!\"#&'()*,-./09:;<=>?@AZ[\\]^_`KQS{|}~" : Str) w_8 G11) => ?_
    have h_draws := up g10.g h_draws
    have h_3 := up g10.g h_3
    have gr := gr.trans g10
    generalize ed_7 : ("!\"#&'()*,-./09:;<=>?@AZ[\\]^_`KQS{|}~" : Str) = d_7 at h_9 hM
    unfold m__law_stroke_3 at hM
    refine q_asg (K := K) gr.s (ev_if (et_test (ev_eq (ev_mod (ev_int1 (ev_ixL (ev_var rfl h_draws) ev_int (atI_get (by first | (first | (rw [← ed_1]; decide) | exact at_mod (by rw [← ed_1]; decide) | exact le_line (by rw [← ed_7]; decide) | (rw [← ed_7]; decide) | exact at_modS (by rw [← ed_7]; decide) | exact at_in (by omega) (by rw [← ed_21]; show d_27 < 4; omega) | (rcases (show d_27 = 0 ∨ d_27 = 1 ∨ d_27 = 2 ∨ d_27 = 3 by omega) with e | e | e | e <;> rw [e] <;> decide) | exact at_in (by omega) (by omega)) | (first | decide | (refine at_in ?_ ?_ <;> omega) | (refine at_neg ?_ ?_ <;> omega)))))) ev_int (by first | (first | (rw [← ed_1]; decide) | exact at_mod (by rw [← ed_1]; decide) | exact le_line (by rw [← ed_7]; decide) | (rw [← ed_7]; decide) | exact at_modS (by rw [← ed_7]; decide) | exact at_in (by omega) (by rw [← ed_21]; show d_27 < 4; omega) | (rcases (show d_27 = 0 ∨ d_27 = 1 ∨ d_27 = 2 ∨ d_27 = 3 by omega) with e | e | e | e <;> rw [e] <;> decide) | exact at_in (by omega) (by omega)) | (first | omega | decide | (show _ ≤ sizeLine; decide) | (show _ < sizeLine; decide)))) ev_int)) (fun hb13 => (ev_ixL (ev_var rfl h_3) (ev_mod (ev_int1 (ev_ixL (ev_var rfl h_draws) ev_int (atI_get (by first | (first | (rw [← ed_1]; decide) | exact at_mod (by rw [← ed_1]; decide) | exact le_line (by rw [← ed_7]; decide) | (rw [← ed_7]; decide) | exact at_modS (by rw [← ed_7]; decide) | exact at_in (by omega) (by rw [← ed_21]; show d_27 < 4; omega) | (rcases (show d_27 = 0 ∨ d_27 = 1 ∨ d_27 = 2 ∨ d_27 = 3 by omega) with e | e | e | e <;> rw [e] <;> decide) | exact at_in (by omega) (by omega)) | (first | decide | (refine at_in ?_ ?_ <;> omega) | (refine at_neg ?_ ?_ <;> omega)))))) (ev_lenL (ev_var rfl h_3)) (by first | (first | (rw [← ed_1]; decide) | exact at_mod (by rw [← ed_1]; decide) | exact le_line (by rw [← ed_7]; decide) | (rw [← ed_7]; decide) | exact at_modS (by rw [← ed_7]; decide) | exact at_in (by omega) (by rw [← ed_21]; show d_27 < 4; omega) | (rcases (show d_27 = 0 ∨ d_27 = 1 ∨ d_27 = 2 ∨ d_27 = 3 by omega) with e | e | e | e <;> rw [e] <;> decide) | exact at_in (by omega) (by omega)) | (first | omega | decide | (show _ ≤ sizeLine; decide) | (show _ < sizeLine; decide)))) (atI_get (by first | (first | (rw [← ed_1]; decide) | exact at_mod (by rw [← ed_1]; decide) | exact le_line (by rw [← ed_7]; decide) | (rw [← ed_7]; decide) | exact at_modS (by rw [← ed_7]; decide) | exact at_in (by omega) (by rw [← ed_21]; show d_27 < 4; omega) | (rcases (show d_27 = 0 ∨ d_27 = 1 ∨ d_27 = 2 ∨ d_27 = 3 by omega) with e | e | e | e <;> rw [e] <;> decide) | exact at_in (by omega) (by omega)) | (first | decide | (refine at_in ?_ ?_ <;> omega) | (refine at_neg ?_ ?_ <;> omega)))))) (fun hb14 => (ev_ixS (ev_var rfl h_9) (ev_mod (ev_int1 (ev_ixL (ev_var rfl h_draws) ev_int (atI_get (by first | (first | (rw [← ed_1]; decide) | exact at_mod (by rw [← ed_1]; decide) | exact le_line (by rw [← ed_7]; decide) | (rw [← ed_7]; decide) | exact at_modS (by rw [← ed_7]; decide) | exact at_in (by omega) (by rw [← ed_21]; show d_27 < 4; omega) | (rcases (show d_27 = 0 ∨ d_27 = 1 ∨ d_27 = 2 ∨ d_27 = 3 by omega) with e | e | e | e <;> rw [e] <;> decide) | exact at_in (by omega) (by omega)) | (first | decide | (refine at_in ?_ ?_ <;> omega) | (refine at_neg ?_ ?_ <;> omega)))))) (ev_lenS (ev_var rfl h_9) (by first | (first | (rw [← ed_1]; decide) | exact at_mod (by rw [← ed_1]; decide) | exact le_line (by rw [← ed_7]; decide) | (rw [← ed_7]; decide) | exact at_modS (by rw [← ed_7]; decide) | exact at_in (by omega) (by rw [← ed_21]; show d_27 < 4; omega) | (rcases (show d_27 = 0 ∨ d_27 = 1 ∨ d_27 = 2 ∨ d_27 = 3 by omega) with e | e | e | e <;> rw [e] <;> decide) | exact at_in (by omega) (by omega)) | (first | omega | decide | (show _ ≤ sizeLine; decide) | (show _ < sizeLine; decide)))) (by first | (first | (rw [← ed_1]; decide) | exact at_mod (by rw [← ed_1]; decide) | exact le_line (by rw [← ed_7]; decide) | (rw [← ed_7]; decide) | exact at_modS (by rw [← ed_7]; decide) | exact at_in (by omega) (by rw [← ed_21]; show d_27 < 4; omega) | (rcases (show d_27 = 0 ∨ d_27 = 1 ∨ d_27 = 2 ∨ d_27 = 3 by omega) with e | e | e | e <;> rw [e] <;> decide) | exact at_in (by omega) (by omega)) | (first | omega | decide | (show _ ≤ sizeLine; decide) | (show _ < sizeLine; decide)))) (by first | (first | (rw [← ed_1]; decide) | exact at_mod (by rw [← ed_1]; decide) | exact le_line (by rw [← ed_7]; decide) | (rw [← ed_7]; decide) | exact at_modS (by rw [← ed_7]; decide) | exact at_in (by omega) (by rw [← ed_21]; show d_27 < 4; omega) | (rcases (show d_27 = 0 ∨ d_27 = 1 ∨ d_27 = 2 ∨ d_27 = 3 by omega) with e | e | e | e <;> rw [e] <;> decide) | exact at_in (by omega) (by omega)) | (first | omega | decide | (show _ ≤ sizeLine; decide) | (show _ < sizeLine; decide))) (atI_get (by first | (first | (rw [← ed_1]; decide) | exact at_mod (by rw [← ed_1]; decide) | exact le_line (by rw [← ed_7]; decide) | (rw [← ed_7]; decide) | exact at_modS (by rw [← ed_7]; decide) | exact at_in (by omega) (by rw [← ed_21]; show d_27 < 4; omega) | (rcases (show d_27 = 0 ∨ d_27 = 1 ∨ d_27 = 2 ∨ d_27 = 3 by omega) with e | e | e | e <;> rw [e] <;> decide) | exact at_in (by omega) (by omega)) | (first | decide | (refine at_in ?_ ?_ <;> omega) | (refine at_neg ?_ ?_ <;> omega))))))) fun w_16 G19 H20 g18 (h_17 : rep K (cond (eqB ((getI d_draws (1 : Int)) % (3 : Int)) (0 : Int)) (getI d_1 ((getI d_draws (0 : Int)) % ((d_1).length : Int))) (getS d_7 ((getI d_draws (0 : Int)) % ((d_7).length : Int)))) w_16 G19) => ?_
    have h_draws := up g18.g h_draws
    have h_3 := up g18.g h_3
    have h_9 := up g18.g h_9
    have gr := gr.trans g18
    generalize ed_15 : (cond (eqB ((getI d_draws (1 : Int)) % (3 : Int)) (0 : Int)) (getI d_1 ((getI d_draws (0 : Int)) % ((d_1).length : Int))) (getS d_7 ((getI d_draws (0 : Int)) % ((d_7).length : Int)))) = d_15 at h_17 hM
    unfold m__law_stroke_2 at hM
    refine q_asg (K := K) gr.s (ev_lst (ea_cons ev_str (ea_cons ev_str (ea_cons ev_str (ea_cons ev_str ea_nil)))) (by first | (first | (rw [← ed_1]; decide) | exact at_mod (by rw [← ed_1]; decide) | exact le_line (by rw [← ed_7]; decide) | (rw [← ed_7]; decide) | exact at_modS (by rw [← ed_7]; decide) | exact at_in (by omega) (by rw [← ed_21]; show d_27 < 4; omega) | (rcases (show d_27 = 0 ∨ d_27 = 1 ∨ d_27 = 2 ∨ d_27 = 3 by omega) with e | e | e | e <;> rw [e] <;> decide) | exact at_in (by omega) (by omega)) | (first | (show _ ≤ sizeLine; decide) | (simp only [List.length_cons, List.length_nil, List.length_append, sizeLine_eq]; omega) | (fail)))) fun w_22 G25 H26 g24 (h_23 : rep K (("Ctrl" : Str) :: (("Alt" : Str) :: (("Shift" : Str) :: (("Meta" : Str) :: ([] : List Str))))) w_22 G25) => ?_
    have h_draws := up g24.g h_draws
    have h_3 := up g24.g h_3
    have h_9 := up g24.g h_9
    have h_17 := up g24.g h_17
    have gr := gr.trans g24
    generalize ed_21 : (("Ctrl" : Str) :: (("Alt" : Str) :: (("Shift" : Str) :: (("Meta" : Str) :: ([] : List Str))))) = d_21 at h_23 hM
    unfold m__law_stroke_1 at hM
    refine s_ret (K := K) gr.s (ev_tup2 (ev_lcR1 (fun d_27 => (eqB (((getI d_draws (2 : Int)) / (getI ((1 : Int) :: ((2 : Int) :: ((4 : Int) :: ((8 : Int) :: ([] : List Int))))) d_27)) % (2 : Int)) (1 : Int))) (fun d_27 => (getI d_21 d_27)) ev_int (by first | (first | (rw [← ed_1]; decide) | exact at_mod (by rw [← ed_1]; decide) | exact le_line (by rw [← ed_7]; decide) | (rw [← ed_7]; decide) | exact at_modS (by rw [← ed_7]; decide) | exact at_in (by omega) (by rw [← ed_21]; show d_27 < 4; omega) | (rcases (show d_27 = 0 ∨ d_27 = 1 ∨ d_27 = 2 ∨ d_27 = 3 by omega) with e | e | e | e <;> rw [e] <;> decide) | exact at_in (by omega) (by omega)) | (first | omega | decide | (show _ ≤ sizeLine; decide) | (show _ < sizeLine; decide))) (fun d_27 G_ H_ lo33 hi34 sg30 sh_ P k => by have h_draws := up sg30 h_draws; have h_23 := up sg30 h_23; have h_29 : rep K d_27 (V.int d_27) G_ := rfl; exact k _ rfl (et_test (ev_eq (ev_mod (ev_fdiv (ev_int1 (ev_ixL (ev_var rfl h_draws) ev_int (atI_get (by first | (first | (rw [← ed_1]; decide) | exact at_mod (by rw [← ed_1]; decide) | exact le_line (by rw [← ed_7]; decide) | (rw [← ed_7]; decide) | exact at_modS (by rw [← ed_7]; decide) | exact at_in (by omega) (by rw [← ed_21]; show d_27 < 4; omega) | (rcases (show d_27 = 0 ∨ d_27 = 1 ∨ d_27 = 2 ∨ d_27 = 3 by omega) with e | e | e | e <;> rw [e] <;> decide) | exact at_in (by omega) (by omega)) | (first | decide | (refine at_in ?_ ?_ <;> omega) | (refine at_neg ?_ ?_ <;> omega)))))) (ev_ixL (ev_lst (ea_cons ev_int (ea_cons ev_int (ea_cons ev_int (ea_cons ev_int ea_nil)))) (by first | (first | (rw [← ed_1]; decide) | exact at_mod (by rw [← ed_1]; decide) | exact le_line (by rw [← ed_7]; decide) | (rw [← ed_7]; decide) | exact at_modS (by rw [← ed_7]; decide) | exact at_in (by omega) (by rw [← ed_21]; show d_27 < 4; omega) | (rcases (show d_27 = 0 ∨ d_27 = 1 ∨ d_27 = 2 ∨ d_27 = 3 by omega) with e | e | e | e <;> rw [e] <;> decide) | exact at_in (by omega) (by omega)) | (first | (show _ ≤ sizeLine; decide) | (simp only [List.length_cons, List.length_nil, List.length_append, sizeLine_eq]; omega) | (fail)))) (ev_var rfl h_29) (atI_get (by first | (first | (rw [← ed_1]; decide) | exact at_mod (by rw [← ed_1]; decide) | exact le_line (by rw [← ed_7]; decide) | (rw [← ed_7]; decide) | exact at_modS (by rw [← ed_7]; decide) | exact at_in (by omega) (by rw [← ed_21]; show d_27 < 4; omega) | (rcases (show d_27 = 0 ∨ d_27 = 1 ∨ d_27 = 2 ∨ d_27 = 3 by omega) with e | e | e | e <;> rw [e] <;> decide) | exact at_in (by omega) (by omega)) | (first | decide | (refine at_in ?_ ?_ <;> omega) | (refine at_neg ?_ ?_ <;> omega))))) ⟨(by first | (first | (rw [← ed_1]; decide) | exact at_mod (by rw [← ed_1]; decide) | exact le_line (by rw [← ed_7]; decide) | (rw [← ed_7]; decide) | exact at_modS (by rw [← ed_7]; decide) | exact at_in (by omega) (by rw [← ed_21]; show d_27 < 4; omega) | (rcases (show d_27 = 0 ∨ d_27 = 1 ∨ d_27 = 2 ∨ d_27 = 3 by omega) with e | e | e | e <;> rw [e] <;> decide) | exact at_in (by omega) (by omega)) | (first | omega | decide | (show _ ≤ sizeLine; decide) | (show _ < sizeLine; decide))), (by first | (first | (rw [← ed_1]; decide) | exact at_mod (by rw [← ed_1]; decide) | exact le_line (by rw [← ed_7]; decide) | (rw [← ed_7]; decide) | exact at_modS (by rw [← ed_7]; decide) | exact at_in (by omega) (by rw [← ed_21]; show d_27 < 4; omega) | (rcases (show d_27 = 0 ∨ d_27 = 1 ∨ d_27 = 2 ∨ d_27 = 3 by omega) with e | e | e | e <;> rw [e] <;> decide) | exact at_in (by omega) (by omega)) | (first | omega | decide | (show _ ≤ sizeLine; decide) | (show _ < sizeLine; decide)))⟩) ev_int (by first | (first | (rw [← ed_1]; decide) | exact at_mod (by rw [← ed_1]; decide) | exact le_line (by rw [← ed_7]; decide) | (rw [← ed_7]; decide) | exact at_modS (by rw [← ed_7]; decide) | exact at_in (by omega) (by rw [← ed_21]; show d_27 < 4; omega) | (rcases (show d_27 = 0 ∨ d_27 = 1 ∨ d_27 = 2 ∨ d_27 = 3 by omega) with e | e | e | e <;> rw [e] <;> decide) | exact at_in (by omega) (by omega)) | (first | omega | decide | (show _ ≤ sizeLine; decide) | (show _ < sizeLine; decide)))) ev_int)) (fun hc31 => (ev_ixL (ev_var rfl h_23) (ev_var rfl h_29) (atI_get (by first | (first | (rw [← ed_1]; decide) | exact at_mod (by rw [← ed_1]; decide) | exact le_line (by rw [← ed_7]; decide) | (rw [← ed_7]; decide) | exact at_modS (by rw [← ed_7]; decide) | exact at_in (by omega) (by rw [← ed_21]; show d_27 < 4; omega) | (rcases (show d_27 = 0 ∨ d_27 = 1 ∨ d_27 = 2 ∨ d_27 = 3 by omega) with e | e | e | e <;> rw [e] <;> decide) | exact at_in (by omega) (by omega)) | (first | decide | (refine at_in ?_ ?_ <;> omega) | (refine at_neg ?_ ?_ <;> omega)))))))) (ev_var rfl h_17)) fun u Gr Hr gq hu => ?_
    exact hQ u Gr Hr (gr.trans gq) (by rw [hM]; exact hu)
/-! #### _law_mixed -/
def m__law_mixed_1 (d_19 : Str) : (Str) := d_19
def m__law_mixed_2 (d_text : Str) (d_draw : Int) (d_15 : Str) (d_7 : Int) : (Str) := (m__law_mixed_1 (d_15 ++ (getI ((Txt.lower (getS d_text d_7)) :: ((Txt.upper (getS d_text d_7)) :: ((getS d_text d_7) :: ([] : List Str)))) ((d_draw + (d_7 * d_7)) % (3 : Int)))))
def m__law_mixed_3 (d_text : Str) (d_draw : Int) (s : Str) (d_7 : Int) : (Str) := m__law_mixed_2 d_text d_draw s (d_7)
def m__law_mixed_4  (s : Str) : Str := s
def m__law_mixed_5 (d_text : Str) (d_draw : Int) (d_1 : Str) : Str := (m__law_mixed_4 (List.foldl (m__law_mixed_3 d_text d_draw) d_1 (rgs 0 ((d_text).length : Int))))
def m__law_mixed (d_text : Str) (d_draw : Int) : Str := (m__law_mixed_5 d_text d_draw ("" : Str))
abbrev p__law_mixed (K : PySem.W.Frag) : Sp := sp2 K (fun t _ => OkT t) m__law_mixed
theorem sign_at {t : Str} (h : Asc t) {k : Int} (h0 : 0 ≤ k) (h1 : k < (t.length : Int)) : ∃ c, c < 128 ∧ c ∈ TL.tl t ∧ getS t k = ⟨#[c]⟩ := ⟨_, h _ (getI_mem (at_S h0 h1)), getI_mem (at_S h0 h1), rfl⟩
theorem mixed_one {c : Nat} (h : c < 128) (n : Int) : ∃ d, getI [Txt.lower (Str.mk #[c]), Txt.upper (Str.mk #[c]), Str.mk #[c]] (n % 3) = (⟨#[d]⟩ : Str) := by
  rw [lower_one h, upper_one h]
  exact getI_3 (fun z => ∃ d, z = (⟨#[d]⟩ : Str)) ⟨_, rfl⟩ ⟨_, rfl⟩ ⟨_, rfl⟩
theorem mixed_step {t : Str} (h : OkT t) {k : Int} (h0 : 0 ≤ k) (h1 : k < (t.length : Int)) (d : Int) (s : Str) : (m__law_mixed_3 t d s k).length = s.length + 1 := by
  obtain ⟨c, hc, _, e⟩ := sign_at h.2 h0 h1
  show (s ++ getI [Txt.lower (getS t k), Txt.upper (getS t k), getS t k] ((d + k * k) % 3)).length = _
  obtain ⟨x, ex⟩ := mixed_one hc (d + k * k)
  rw [e, ex, len_app]
  rfl
theorem mixed_fold {t : Str} (h : OkT t) : ∀ (l : List Int) (hl : ∀ x ∈ l, 0 ≤ x ∧ x < (t.length : Int)) (d : Int) (s : Str), (List.foldl (m__law_mixed_3 t d) s l).length = s.length + l.length
  | [], _, _, _ => rfl
  | k :: l, hl, d, s => by
    rw [List.foldl_cons, mixed_fold h l (fun x hx => hl x (.tail _ hx)), mixed_step h (hl k List.mem_cons_self).1 (hl k List.mem_cons_self).2, List.length_cons]
    omega
theorem mixed_side {t : Str} (h : OkT t) {a : Str} (ha : a.length ≤ 100) {k n : Int} (h0 : 0 ≤ k) (h1 : k < (t.length : Int)) : a.length + (getI [Txt.lower (getS t k), Txt.upper (getS t k), getS t k] (n % 3)).length ≤ sizeLine := by
  obtain ⟨c, hc, _, e⟩ := sign_at h.2 h0 h1
  obtain ⟨x, ex⟩ := mixed_one hc n
  rw [e, ex]
  exact le_line (Nat.le_trans (Nat.succ_le_succ ha) (by decide))
theorem mixed_len {t : Str} (h : OkT t) {d : Int} : (m__law_mixed t d).length = t.length := by
  show (List.foldl (m__law_mixed_3 t d) (("" : Str)) (rgs 0 (t.length : Int))).length = _
  rw [mixed_fold h _ fun x hx => mem_rgs.mp hx, rgs_len, show ("" : Str).length = 0 by decide]
  omega

theorem ok__law_mixed (T : Tx K mg A) : FnOk P w K mg base CX0 1 A.f__law_mixed A.d__law_mixed ["text", "draw"] (p__law_mixed K) := by
  refine T.F__law_mixed.ok sc__law_mixed (fun vs He Q E h => ?_) (fun cdv A0 outer s He vs Q E hr h => ⟨_, (pss_cons (ps_set (i := 2) sc__law_mixed.nd rfl (Or.inl rfl) pe_str) (pss_cons (ps_for PassesOwn.never rfl (pi_range1 rfl T.n_range (pa_cons (pe_callB (call_lenK (K := K)) rfl T.n_len boot_len (pa_cons (pv 0) pa_nil)) pa_nil)) (pg_name (i := 3) sc__law_mixed.nd rfl (Or.inl rfl)) (pss_one (ps_set (i := 2) sc__law_mixed.nd rfl (Or.inl rfl) (pe_op op_add_str (pv 2) (pe_ix (ix_listK (K := K)) (pe_lst (pa_cons (pe_lower (pe_ix ix_str (pv 0) (pv 3) fun _ _ => rfl)) (pa_cons (pe_upper (pe_ix ix_str (pv 0) (pv 3) fun _ _ => rfl)) (pa_cons (pe_ix ix_str (pv 0) (pv 3) fun _ _ => rfl) pa_nil)))) (pe_op op_mod (pe_callTy call_int1 rfl T.n_int boot_int (pa_cons (pe_op op_add (pv 1) (pe_op op_mul (pv 3) (pv 3))) pa_nil)) pe_int) fun _ _ => rfl))))) (pss_one (ps_ret (pv 2))))), ?_⟩)
  · obtain ⟨d_text, d_draw, w_text, w_draw, G, rfl, eG, h_text, h_draw, hpre, hQ⟩ := h
    rfl
  · obtain ⟨d_text, d_draw, w_text, w_draw, G, rfl, eG, h_text, h_draw, hpre, hQ⟩ := h
    have gr : Grow G He G He := Grow.refl eG
    obtain ⟨Ge, eGe⟩ : ∃ z, z = G := ⟨G, rfl⟩
    have gr : Grow Ge He G He := by rw [eGe]; exact gr
    rw [← eGe] at hQ
    clear eGe
    have hM : m__law_mixed d_text d_draw = (m__law_mixed_5 d_text d_draw ("" : Str)) := rfl
    have hl := hpre.1
    refine q_asg (K := K) gr.s ev_str fun w_2 G5 H6 g4 (h_3 : rep K ("" : Str) w_2 G5) => ?_
    have h_text := up g4.g h_text
    have h_draw := up g4.g h_draw
    have gr := gr.trans g4
    generalize ed_1 : ("" : Str) = d_1 at h_3 hM
    unfold m__law_mixed_5 at hM
    refine q_forR1 (K := K) gr.s (ev_lenS (ev_var rfl h_text) (by first | (first | exact le_line (Nat.le_trans hpre.1 (by decide)) | exact at_S (by omega) (by omega) | (show 1 ≤ 5592405; decide) | exact at_3 | exact mixed_side hpre (by omega) lo_0 hi_0) | (first | omega | decide | (show _ ≤ sizeLine; decide) | (show _ < sizeLine; decide)))) (by first | (first | exact le_line (Nat.le_trans hpre.1 (by decide)) | exact at_S (by omega) (by omega) | (show 1 ≤ 5592405; decide) | exact at_3 | exact mixed_side hpre (by omega) lo_0 hi_0) | (first | (constructor <;> omega) | (decide))) fun G10 H11 g13 => ?_
    have h_text := up g13.g h_text
    have h_draw := up g13.g h_draw
    have h_3 := up g13.g h_3
    have gr := gr.trans g13
    refine ⟨fun i_ σ_ H_ => ∃ (G25 : Hp) (w_16 : V) (o_18 : Option V), Grow Ge He G25 H_ ∧ Same G10 G25 ∧ σ_ = [some w_text, some w_draw, some w_16, o_18] ∧ rep K ((List.foldl (m__law_mixed_3 d_text d_draw) d_1 (List.take i_ (rgs 0 ((d_text).length : Int)))) : Str) w_16 G25, ⟨_, w_2, _, gr, Same.refl _, rfl, h_3⟩, ?_, ?_⟩
    · rintro i_0 σ_0 H_0 hlt_0 ⟨G25, w_16, o_18, gr, sg0, rfl, h_17⟩
      obtain ⟨d_7, hx0_0, hx0, lo_0, hi_0⟩ := rgs_at0 hlt_0
      rw [hx0_0]
      have h_9 : rep K d_7 (V.int d_7) G25 := rfl
      generalize ew_8 : V.int d_7 = w_8 at h_9
      have h_text := up sg0 h_text
      have h_draw := up sg0 h_draw
      have hMo0 := hM
      clear hM
      have hM : (List.foldl (m__law_mixed_3 d_text d_draw) d_1 (List.take (i_0 + 1) (rgs 0 ((d_text).length : Int)))) = (m__law_mixed_3 d_text d_draw) (List.foldl (m__law_mixed_3 d_text d_draw) d_1 (List.take i_0 (rgs 0 ((d_text).length : Int)))) d_7 := by rw [take_snoc hx0, List.foldl_append]; rfl
      have fl_0 := mixed_fold hpre (List.take i_0 (rgs 0 ↑d_text.length)) (fun x hx => mem_rgs.mp (List.mem_of_mem_take hx)) d_draw d_1
      have fz : d_1.length = 0 := by rw [← ed_1]; rfl
      rw [List.length_take, rgs_len, fz] at fl_0
      generalize (List.foldl (m__law_mixed_3 d_text d_draw) d_1 (List.take i_0 (rgs 0 ((d_text).length : Int)))) = st_0 at h_17 fl_0 hM
      obtain ⟨d_15, est_0⟩ : ∃ z, z = st_0 := ⟨_, rfl⟩
      subst est_0
      conv at hM => rhs; unfold m__law_mixed_3; unfold m__law_mixed_2
      refine s_asg (K := K) gr.s (ev_addS (ev_var rfl h_17) (ev_ixL (ev_lst (ea_cons (ev_lower (ev_ixS (ev_var rfl h_text) (ev_var rfl h_9) (by first | (first | exact le_line (Nat.le_trans hpre.1 (by decide)) | exact at_S (by omega) (by omega) | (show 1 ≤ 5592405; decide) | exact at_3 | exact mixed_side hpre (by omega) lo_0 hi_0) | (first | omega | decide | (show _ ≤ sizeLine; decide) | (show _ < sizeLine; decide))) (atI_get (by first | (first | exact le_line (Nat.le_trans hpre.1 (by decide)) | exact at_S (by omega) (by omega) | (show 1 ≤ 5592405; decide) | exact at_3 | exact mixed_side hpre (by omega) lo_0 hi_0) | (first | decide | (refine at_in ?_ ?_ <;> omega) | (refine at_neg ?_ ?_ <;> omega))))) (by first | (first | exact le_line (Nat.le_trans hpre.1 (by decide)) | exact at_S (by omega) (by omega) | (show 1 ≤ 5592405; decide) | exact at_3 | exact mixed_side hpre (by omega) lo_0 hi_0) | (first | omega | decide | (show _ ≤ sizeLine; decide) | (show _ < sizeLine; decide)))) (ea_cons (ev_upper (ev_ixS (ev_var rfl h_text) (ev_var rfl h_9) (by first | (first | exact le_line (Nat.le_trans hpre.1 (by decide)) | exact at_S (by omega) (by omega) | (show 1 ≤ 5592405; decide) | exact at_3 | exact mixed_side hpre (by omega) lo_0 hi_0) | (first | omega | decide | (show _ ≤ sizeLine; decide) | (show _ < sizeLine; decide))) (atI_get (by first | (first | exact le_line (Nat.le_trans hpre.1 (by decide)) | exact at_S (by omega) (by omega) | (show 1 ≤ 5592405; decide) | exact at_3 | exact mixed_side hpre (by omega) lo_0 hi_0) | (first | decide | (refine at_in ?_ ?_ <;> omega) | (refine at_neg ?_ ?_ <;> omega))))) (by first | (first | exact le_line (Nat.le_trans hpre.1 (by decide)) | exact at_S (by omega) (by omega) | (show 1 ≤ 5592405; decide) | exact at_3 | exact mixed_side hpre (by omega) lo_0 hi_0) | (first | omega | decide | (show _ ≤ sizeLine; decide) | (show _ < sizeLine; decide)))) (ea_cons (ev_ixS (ev_var rfl h_text) (ev_var rfl h_9) (by first | (first | exact le_line (Nat.le_trans hpre.1 (by decide)) | exact at_S (by omega) (by omega) | (show 1 ≤ 5592405; decide) | exact at_3 | exact mixed_side hpre (by omega) lo_0 hi_0) | (first | omega | decide | (show _ ≤ sizeLine; decide) | (show _ < sizeLine; decide))) (atI_get (by first | (first | exact le_line (Nat.le_trans hpre.1 (by decide)) | exact at_S (by omega) (by omega) | (show 1 ≤ 5592405; decide) | exact at_3 | exact mixed_side hpre (by omega) lo_0 hi_0) | (first | decide | (refine at_in ?_ ?_ <;> omega) | (refine at_neg ?_ ?_ <;> omega))))) ea_nil))) (by first | (first | exact le_line (Nat.le_trans hpre.1 (by decide)) | exact at_S (by omega) (by omega) | (show 1 ≤ 5592405; decide) | exact at_3 | exact mixed_side hpre (by omega) lo_0 hi_0) | (first | (show _ ≤ sizeLine; decide) | (simp only [List.length_cons, List.length_nil, List.length_append, sizeLine_eq]; omega) | (fail)))) (ev_mod (ev_int1 (ev_add (ev_var rfl h_draw) (ev_mul (ev_var rfl h_9) (ev_var rfl h_9) (by first | (first | exact le_line (Nat.le_trans hpre.1 (by decide)) | exact at_S (by omega) (by omega) | (show 1 ≤ 5592405; decide) | exact at_3 | exact mixed_side hpre (by omega) lo_0 hi_0) | (first | exact Or.inl ⟨by omega, by omega⟩ | exact Or.inr ⟨by omega, by omega⟩ | (exact Or.inr (by constructor <;> decide))))))) ev_int (by first | (first | exact le_line (Nat.le_trans hpre.1 (by decide)) | exact at_S (by omega) (by omega) | (show 1 ≤ 5592405; decide) | exact at_3 | exact mixed_side hpre (by omega) lo_0 hi_0) | (first | omega | decide | (show _ ≤ sizeLine; decide) | (show _ < sizeLine; decide)))) (atI_get (by first | (first | exact le_line (Nat.le_trans hpre.1 (by decide)) | exact at_S (by omega) (by omega) | (show 1 ≤ 5592405; decide) | exact at_3 | exact mixed_side hpre (by omega) lo_0 hi_0) | (first | decide | (refine at_in ?_ ?_ <;> omega) | (refine at_neg ?_ ?_ <;> omega))))) (by first | (first | exact le_line (Nat.le_trans hpre.1 (by decide)) | exact at_S (by omega) (by omega) | (show 1 ≤ 5592405; decide) | exact at_3 | exact mixed_side hpre (by omega) lo_0 hi_0) | (first | omega | decide | (show _ ≤ sizeLine; decide) | (show _ < sizeLine; decide)))) fun w_20 G23 H24 g22 (h_21 : rep K (d_15 ++ (getI ((Txt.lower (getS d_text d_7)) :: ((Txt.upper (getS d_text d_7)) :: ((getS d_text d_7) :: ([] : List Str)))) ((d_draw + (d_7 * d_7)) % (3 : Int)))) w_20 G23) => ?_
      have h_text := up g22.g h_text
      have h_draw := up g22.g h_draw
      have h_9 := up g22.g h_9
      have sg0 := sg0.trans g22.g
      have gr := gr.trans g22
      generalize ed_19 : (d_15 ++ (getI ((Txt.lower (getS d_text d_7)) :: ((Txt.upper (getS d_text d_7)) :: ((getS d_text d_7) :: ([] : List Str)))) ((d_draw + (d_7 * d_7)) % (3 : Int)))) = d_19 at h_21 hM
      unfold m__law_mixed_1 at hM
      exact ⟨_, w_20, _, gr, sg0, rfl, (by rw [hM]; exact h_21)⟩
    · rintro σ_0 H_0 ⟨G25, w_16, o_18, gr, sg0, rfl, h_17⟩
      have h_text := up sg0 h_text
      have h_draw := up sg0 h_draw
      rw [rgs_take0] at h_17
      generalize est_0 : (List.foldl (m__law_mixed_3 d_text d_draw) d_1 (rgs 0 ((d_text).length : Int))) = st_0 at h_17 hM
      obtain ⟨d_15, est2_0⟩ : ∃ z, z = st_0 := ⟨_, rfl⟩
      subst est2_0
      unfold m__law_mixed_4 at hM
      refine s_ret (K := K) gr.s (ev_var rfl h_17) fun u Gr Hr gq hu => ?_
      exact hQ u Gr Hr (gr.trans gq) (by rw [hM]; exact hu)
/-! #### _law_shown -/
def m__law_shown (d_stroke : ((List Str) × Str)) : Str := (Txt.join ("+" : Str) ((d_stroke).1 ++ ((d_stroke).2 :: ([] : List Str))))
abbrev p__law_shown (K : PySem.W.Frag) : Sp := sp1 K (fun s => SmallS s) m__law_shown
theorem ok__law_shown (T : Tx K mg A) : FnOk P w K mg base CX0 1 A.f__law_shown A.d__law_shown ["stroke"] (p__law_shown K) := by
  refine T.F__law_shown.ok sc__law_shown (fun vs He Q E h => ?_) (fun cdv A0 outer s He vs Q E hr h => ⟨_, (pss_one (ps_ret (pe_joinK (K := K) pe_str (pe_op op_cat (pe_ix (ix_tupK (K := K)) (pv 0) pe_int fun _ _ => rfl) (pe_lst (pa_cons (pe_ix (ix_tupK (K := K)) (pv 0) pe_int fun _ _ => rfl) pa_nil)))))), ?_⟩)
  · obtain ⟨d_stroke, w_stroke, G, rfl, eG, h_stroke, hpre, hQ⟩ := h
    rfl
  · obtain ⟨d_stroke, w_stroke, G, rfl, eG, h_stroke, hpre, hQ⟩ := h
    have gr : Grow G He G He := Grow.refl eG
    obtain ⟨Ge, eGe⟩ : ∃ z, z = G := ⟨G, rfl⟩
    have gr : Grow Ge He G He := by rw [eGe]; exact gr
    rw [← eGe] at hQ
    clear eGe
    have hM : m__law_shown d_stroke = (Txt.join ("+" : Str) ((d_stroke).1 ++ ((d_stroke).2 :: ([] : List Str)))) := rfl
    refine s_ret (K := K) gr.s (ev_join ev_str (ev_cat (ev_ix20 (ev_var rfl h_stroke)) (ev_lst (ea_cons (ev_ix21 (ev_var rfl h_stroke)) ea_nil) (by first | (first | (rw [List.length_singleton]; exact le_line (Nat.le_trans (Nat.succ_le_succ hpre.1) (by decide))) | exact join_fits (n := 5) (m := 10) (parts_ok hpre (List.Perm.refl _)).2 (fun p hp => ((parts_ok hpre (List.Perm.refl _)).1 p hp).1) (by decide) (by decide)) | (first | (show _ ≤ sizeLine; decide) | (simp only [List.length_cons, List.length_nil, List.length_append, sizeLine_eq]; omega) | (fail)))) (by first | (first | (rw [List.length_singleton]; exact le_line (Nat.le_trans (Nat.succ_le_succ hpre.1) (by decide))) | exact join_fits (n := 5) (m := 10) (parts_ok hpre (List.Perm.refl _)).2 (fun p hp => ((parts_ok hpre (List.Perm.refl _)).1 p hp).1) (by decide) (by decide)) | (first | omega | decide | (show _ ≤ sizeLine; decide) | (show _ < sizeLine; decide)))) (by first | (first | (rw [List.length_singleton]; exact le_line (Nat.le_trans (Nat.succ_le_succ hpre.1) (by decide))) | exact join_fits (n := 5) (m := 10) (parts_ok hpre (List.Perm.refl _)).2 (fun p hp => ((parts_ok hpre (List.Perm.refl _)).1 p hp).1) (by decide) (by decide)) | (first | omega | decide | (show _ ≤ sizeLine; decide) | (show _ < sizeLine; decide)))) fun u Gr Hr gq hu => ?_
    exact hQ u Gr Hr (gr.trans gq) (by rw [hM]; exact hu)
/-! #### _law_loose -/
def m__law_loose_1 (d_draws : (List Int)) (d_33 : (List Str)) : Str := (Txt.join ("+" : Str) (List.map (fun d_39 => (m__law_mixed (getI d_33 d_39) ((getI d_draws (5 : Int)) + d_39))) (rgs 0 ((d_33).length : Int))))
def m__law_loose_2 (d_draws : (List Int)) (d_stroke : ((List Str) × Str)) (d_27 : (List Str)) : Str := (m__law_loose_1 d_draws (d_27 ++ ((d_stroke).2 :: ([] : List Str))))
def m__law_loose_3 (d_draws : (List Int)) (d_49 : (List Str)) : Str := (Txt.join ("+" : Str) (List.map (fun d_55 => (m__law_mixed (getI d_49 d_55) ((getI d_draws (5 : Int)) + d_55))) (rgs 0 ((d_49).length : Int))))
def m__law_loose_4 (d_draws : (List Int)) (d_stroke : ((List Str) × Str)) (d_17 : (List Str)) : Str := (cond (eqB ((getI d_draws (4 : Int)) % (2 : Int)) (0 : Int)) (m__law_loose_2 d_draws d_stroke (d_17).reverse) (m__law_loose_3 d_draws (d_17 ++ ((d_stroke).2 :: ([] : List Str)))))
def m__law_loose_5 (d_draws : (List Int)) (d_stroke : ((List Str) × Str)) (d_1 : (List Str)) (d_11 : Int) : Str := (m__law_loose_4 d_draws d_stroke ((cutL d_1 (some d_11) none) ++ (cutL d_1 none (some d_11))))
def m__law_loose_6 (d_draws : (List Int)) (d_stroke : ((List Str) × Str)) (d_1 : (List Str)) : Str := (m__law_loose_5 d_draws d_stroke d_1 ((getI d_draws (3 : Int)) % ((d_1).length : Int)))
def m__law_loose_7 (d_draws : (List Int)) (d_75 : (List Str)) : Str := (Txt.join ("+" : Str) (List.map (fun d_81 => (m__law_mixed (getI d_75 d_81) ((getI d_draws (5 : Int)) + d_81))) (rgs 0 ((d_75).length : Int))))
def m__law_loose_8 (d_draws : (List Int)) (d_stroke : ((List Str) × Str)) (d_69 : (List Str)) : Str := (m__law_loose_7 d_draws (d_69 ++ ((d_stroke).2 :: ([] : List Str))))
def m__law_loose_9 (d_draws : (List Int)) (d_91 : (List Str)) : Str := (Txt.join ("+" : Str) (List.map (fun d_97 => (m__law_mixed (getI d_91 d_97) ((getI d_draws (5 : Int)) + d_97))) (rgs 0 ((d_91).length : Int))))
def m__law_loose_10 (d_draws : (List Int)) (d_stroke : ((List Str) × Str)) (d_1 : (List Str)) : Str := (cond (eqB ((getI d_draws (4 : Int)) % (2 : Int)) (0 : Int)) (m__law_loose_8 d_draws d_stroke (d_1).reverse) (m__law_loose_9 d_draws (d_1 ++ ((d_stroke).2 :: ([] : List Str)))))
def m__law_loose_11 (d_draws : (List Int)) (d_stroke : ((List Str) × Str)) (d_1 : (List Str)) : Str := (cond (decide ((0 : Int) < ((d_1).length : Int))) (m__law_loose_6 d_draws d_stroke d_1) (m__law_loose_10 d_draws d_stroke d_1))
def m__law_loose (d_draws : (List Int)) (d_stroke : ((List Str) × Str)) : Str := (m__law_loose_11 d_draws d_stroke (d_stroke).1)
abbrev p__law_loose (K : PySem.W.Frag) : Sp := sp2 K (fun draws s => 6 ≤ draws.length ∧ NN draws ∧ SmallS s) m__law_loose
def mixL (ps : List Str) (d : Int) : List Str := List.map (fun k => m__law_mixed (getI ps k) (d + k)) (rgs 0 (ps.length : Int))
theorem loose_is (d : List Int) (s : List Str × Str) (h : NN d) (h5 : 6 ≤ d.length) : ∃ us : List Str, us.Perm s.1 ∧ m__law_loose d s = Txt.join ("+" : Str) (mixL (us ++ [s.2]) (getI d 5)) := by
  show ∃ us : List Str, us.Perm s.1 ∧ m__law_loose_11 d s s.1 = _
  unfold m__law_loose_11
  cases h1 : decide ((0 : Int) < (s.1.length : Int)) with
  | true =>
    have ha : (0 : Int) ≤ getI d 3 % (s.1.length : Int) := Int.emod_nonneg _ (by have := of_decide_eq_true h1; omega)
    show ∃ us : List Str, us.Perm s.1 ∧ m__law_loose_4 d s (cutL s.1 (some (getI d 3 % (s.1.length : Int))) none ++ cutL s.1 none (some (getI d 3 % (s.1.length : Int)))) = _
    unfold m__law_loose_4
    cases eqB (getI d 4 % 2) 0 with
    | true => exact ⟨_, (List.reverse_perm _).trans (rot_perm _ ha), rfl⟩
    | false => exact ⟨_, rot_perm _ ha, rfl⟩
  | false =>
    show ∃ us : List Str, us.Perm s.1 ∧ m__law_loose_10 d s s.1 = _
    unfold m__law_loose_10
    cases eqB (getI d 4 % 2) 0 with
    | true => exact ⟨_, List.reverse_perm _, rfl⟩
    | false => exact ⟨_, List.Perm.refl _, rfl⟩
theorem mixL_len {ps : List Str} {d : Int} : (mixL ps d).length = ps.length := by
  unfold mixL
  rw [List.length_map, rgs_len, Int.sub_zero, Int.toNat_natCast]
theorem mixL_ok {ps : List Str} (h : ∀ p ∈ ps, OkT p) {d : Int} : ∀ p ∈ mixL ps d, p.length ≤ 10 := mem_map_all fun k hk => by
  have hm := getI_mem (at_in (mem_rgs.mp hk).1 (mem_rgs.mp hk).2)
  rw [mixed_len (h _ hm)]
  exact (h _ hm).1

theorem ok__law_loose (T : Tx K mg A) : FnOk P w K mg base CX0 2 A.f__law_loose A.d__law_loose ["draws", "stroke"] (p__law_loose K) := by
  refine T.F__law_loose.ok sc__law_loose (fun vs He Q E h => ?_) (fun cdv A0 outer s He vs Q E hr h => ⟨_, (pss_cons (ps_set (i := 2) sc__law_loose.nd rfl (Or.inl rfl) (pe_callTy (call_listK (K := K)) rfl T.n_list boot_list (pa_cons (pe_ix (ix_tupK (K := K)) (pv 1) pe_int fun _ _ => rfl) pa_nil))) (pss_cons (ps_if (pt_cmpR op_gt (pe_callB (call_lenK (K := K)) rfl T.n_len boot_len (pa_cons (pv 2) pa_nil)) pe_int (nomark _)) (pss_cons (ps_set (i := 4) sc__law_loose.nd rfl (Or.inl rfl) (pe_op op_mod (pe_callTy call_int1 rfl T.n_int boot_int (pa_cons (pe_ix (ix_listK (K := K)) (pv 0) pe_int fun _ _ => rfl) pa_nil)) (pe_callB (call_lenK (K := K)) rfl T.n_len boot_len (pa_cons (pv 2) pa_nil)))) (pss_one (ps_set (i := 2) sc__law_loose.nd rfl (Or.inl rfl) (pe_op op_cat (pe_slice (sl_listK (K := K)) (pv 2) (po_some (pv 4)) po_none) (pe_slice (sl_listK (K := K)) (pv 2) po_none (po_some (pv 4))))))) pss_nil) (pss_cons (ps_if (pt_cmpR op_eq (pe_op op_mod (pe_callTy call_int1 rfl T.n_int boot_int (pa_cons (pe_ix (ix_listK (K := K)) (pv 0) pe_int fun _ _ => rfl) pa_nil)) pe_int) pe_int (nomark _)) (pss_one (ps_set (i := 2) sc__law_loose.nd rfl (Or.inl rfl) (pe_revK (K := K) (pv 2)))) pss_nil) (pss_cons (ps_set (i := 3) sc__law_loose.nd rfl (Or.inr rfl) (pe_op op_cat (pv 2) (pe_lst (pa_cons (pe_ix (ix_tupK (K := K)) (pv 1) pe_int fun _ _ => rfl) pa_nil)))) (pss_one (ps_ret (pe_joinK (K := K) pe_str (pe_lc (own := [("k", 5)]) (g := gName 5) (tt := tYes) rfl sc__law_loose.nd (pi_range1 rfl T.n_range (pa_cons (pe_callB (call_lenK (K := K)) rfl T.n_len boot_len (pa_cons (pv 3) pa_nil)) pa_nil)) (blkOk_by (N := n__law_loose) (sc := defScope s__law_loose) (by decide +kernel)) (fun _ _ _ _ _ => pg_name (i := 5) sc__law_loose.nd rfl (Or.inl rfl)) (fun _ _ _ _ _ => pts_nil) (fun _ _ _ _ _ => (pe_call (ok__law_mixed T) (hr.mono (by decide)) rfl T.g__law_mixed T.F__law_mixed.kp T.b__law_mixed .nil pass0 (pa_cons (pe_ix (ix_listK (K := K)) (pv 3) (pv 5) fun _ _ => rfl) (pa_cons (pe_op op_add (pe_callTy call_int1 rfl T.n_int boot_int (pa_cons (pe_ix (ix_listK (K := K)) (pv 0) pe_int fun _ _ => rfl) pa_nil)) (pv 5)) pa_nil)))))))))))), ?_⟩)
  · obtain ⟨d_draws, d_stroke, w_draws, w_stroke, G, rfl, eG, h_draws, h_stroke, hpre, hQ⟩ := h
    rfl
  · obtain ⟨d_draws, d_stroke, w_draws, w_stroke, G, rfl, eG, h_draws, h_stroke, hpre, hQ⟩ := h
    have gr : Grow G He G He := Grow.refl eG
    obtain ⟨Ge, eGe⟩ : ∃ z, z = G := ⟨G, rfl⟩
    have gr : Grow Ge He G He := by rw [eGe]; exact gr
    rw [← eGe] at hQ
    clear eGe
    have hM : m__law_loose d_draws d_stroke = (m__law_loose_11 d_draws d_stroke (d_stroke).1) := rfl
    refine q_asg (K := K) gr.s (ev_listL (ev_ix20 (ev_var rfl h_stroke))) fun w_2 G5 H6 g4 (h_3 : rep K (d_stroke).1 w_2 G5) => ?_
    have h_draws := up g4.g h_draws
    have h_stroke := up g4.g h_stroke
    have gr := gr.trans g4
    generalize ed_1 : (d_stroke).1 = d_1 at h_3 hM
    unfold m__law_loose_11 at hM
    have fw : d_1.Perm d_stroke.1 := by first | (rw [← ed_1]; done) | (rw [← ed_1]; exact (rot_perm _ (by omega)).trans fw) | (rw [← ed_1]; exact (List.reverse_perm _).trans fw)
    refine q_if gr.s (et_test (ev_gt (ev_lenL (ev_var rfl h_3)) ev_int)) ?_ ?_
    · intro hb8 G9 H10 g7
      have h_draws := up g7.g h_draws
      have h_stroke := up g7.g h_stroke
      have h_3 := up g7.g h_3
      have gr := gr.trans g7
      replace hM := condT hM hb8
      unfold m__law_loose_6 at hM
      refine q_asg (K := K) gr.s (ev_mod (ev_int1 (ev_ixL (ev_var rfl h_draws) ev_int (atI_get (by first | (first | exact pos_of (by assumption) | (rw [List.length_singleton, fw.length_eq]; exact le_line (Nat.le_trans (Nat.succ_le_succ hpre.2.2.1) (by decide))) | (have q := fw.length_eq; have q2 := hpre.2.2.1; refine le_line ?_; have := cut_le d_1 (some d_11) none; have := cut_le d_1 none (some d_11); omega) | (have := fq.2; omega) | exact fq.1 _ (getI_mem (at_in (by omega) (by omega))) | exact join_fits (n := 5) (m := 10) (by rw [List.length_map, rgs_len]; have := fq.2; omega) (mem_map_all fun x hx => by rw [mixed_len (fq.1 _ (getI_mem (at_in (mem_rgs.mp hx).1 (mem_rgs.mp hx).2)))]; exact (fq.1 _ (getI_mem (at_in (mem_rgs.mp hx).1 (mem_rgs.mp hx).2))).1) (by decide) (by decide) | exact at_in (by omega) (by have := hpre.1; omega)) | (first | decide | (refine at_in ?_ ?_ <;> omega) | (refine at_neg ?_ ?_ <;> omega)))))) (ev_lenL (ev_var rfl h_3)) (by first | (first | exact pos_of (by assumption) | (rw [List.length_singleton, fw.length_eq]; exact le_line (Nat.le_trans (Nat.succ_le_succ hpre.2.2.1) (by decide))) | (have q := fw.length_eq; have q2 := hpre.2.2.1; refine le_line ?_; have := cut_le d_1 (some d_11) none; have := cut_le d_1 none (some d_11); omega) | (have := fq.2; omega) | exact fq.1 _ (getI_mem (at_in (by omega) (by omega))) | exact join_fits (n := 5) (m := 10) (by rw [List.length_map, rgs_len]; have := fq.2; omega) (mem_map_all fun x hx => by rw [mixed_len (fq.1 _ (getI_mem (at_in (mem_rgs.mp hx).1 (mem_rgs.mp hx).2)))]; exact (fq.1 _ (getI_mem (at_in (mem_rgs.mp hx).1 (mem_rgs.mp hx).2))).1) (by decide) (by decide) | exact at_in (by omega) (by have := hpre.1; omega)) | (first | omega | decide | (show _ ≤ sizeLine; decide) | (show _ < sizeLine; decide)))) fun w_12 G15 H16 g14 (h_13 : rep K ((getI d_draws (3 : Int)) % ((d_1).length : Int)) w_12 G15) => ?_
      have h_draws := up g14.g h_draws
      have h_stroke := up g14.g h_stroke
      have h_3 := up g14.g h_3
      have gr := gr.trans g14
      generalize ed_11 : ((getI d_draws (3 : Int)) % ((d_1).length : Int)) = d_11 at h_13 hM
      unfold m__law_loose_5 at hM
      have fa : 0 ≤ d_11 := by rw [← ed_11]; exact Int.emod_nonneg _ (Int.ne_of_gt (pos_of (by assumption)))
      refine s_asg (K := K) gr.s (ev_cat (ev_slL (ev_var rfl h_3) (eo_some (ev_var rfl h_13)) eo_none) (ev_slL (ev_var rfl h_3) eo_none (eo_some (ev_var rfl h_13))) (by first | (first | exact pos_of (by assumption) | (rw [List.length_singleton, fw.length_eq]; exact le_line (Nat.le_trans (Nat.succ_le_succ hpre.2.2.1) (by decide))) | (have q := fw.length_eq; have q2 := hpre.2.2.1; refine le_line ?_; have := cut_le d_1 (some d_11) none; have := cut_le d_1 none (some d_11); omega) | (have := fq.2; omega) | exact fq.1 _ (getI_mem (at_in (by omega) (by omega))) | exact join_fits (n := 5) (m := 10) (by rw [List.length_map, rgs_len]; have := fq.2; omega) (mem_map_all fun x hx => by rw [mixed_len (fq.1 _ (getI_mem (at_in (mem_rgs.mp hx).1 (mem_rgs.mp hx).2)))]; exact (fq.1 _ (getI_mem (at_in (mem_rgs.mp hx).1 (mem_rgs.mp hx).2))).1) (by decide) (by decide) | exact at_in (by omega) (by have := hpre.1; omega)) | (first | omega | decide | (show _ ≤ sizeLine; decide) | (show _ < sizeLine; decide)))) fun w_18 G21 H22 g20 (h_19 : rep K ((cutL d_1 (some d_11) none) ++ (cutL d_1 none (some d_11))) w_18 G21) => ?_
      have h_draws := up g20.g h_draws
      have h_stroke := up g20.g h_stroke
      have h_13 := up g20.g h_13
      have gr := gr.trans g20
      generalize ed_17 : ((cutL d_1 (some d_11) none) ++ (cutL d_1 none (some d_11))) = d_17 at h_19 hM
      unfold m__law_loose_4 at hM
      have fw : d_17.Perm d_stroke.1 := by first | (rw [← ed_17]; done) | (rw [← ed_17]; exact (rot_perm _ (by omega)).trans fw) | (rw [← ed_17]; exact (List.reverse_perm _).trans fw)
      refine nx_mk ?_
      refine q_if gr.s (et_test (ev_eq (ev_mod (ev_int1 (ev_ixL (ev_var rfl h_draws) ev_int (atI_get (by first | (first | exact pos_of (by assumption) | (rw [List.length_singleton, fw.length_eq]; exact le_line (Nat.le_trans (Nat.succ_le_succ hpre.2.2.1) (by decide))) | (have q := fw.length_eq; have q2 := hpre.2.2.1; refine le_line ?_; have := cut_le d_1 (some d_11) none; have := cut_le d_1 none (some d_11); omega) | (have := fq.2; omega) | exact fq.1 _ (getI_mem (at_in (by omega) (by omega))) | exact join_fits (n := 5) (m := 10) (by rw [List.length_map, rgs_len]; have := fq.2; omega) (mem_map_all fun x hx => by rw [mixed_len (fq.1 _ (getI_mem (at_in (mem_rgs.mp hx).1 (mem_rgs.mp hx).2)))]; exact (fq.1 _ (getI_mem (at_in (mem_rgs.mp hx).1 (mem_rgs.mp hx).2))).1) (by decide) (by decide) | exact at_in (by omega) (by have := hpre.1; omega)) | (first | decide | (refine at_in ?_ ?_ <;> omega) | (refine at_neg ?_ ?_ <;> omega)))))) ev_int (by first | (first | exact pos_of (by assumption) | (rw [List.length_singleton, fw.length_eq]; exact le_line (Nat.le_trans (Nat.succ_le_succ hpre.2.2.1) (by decide))) | (have q := fw.length_eq; have q2 := hpre.2.2.1; refine le_line ?_; have := cut_le d_1 (some d_11) none; have := cut_le d_1 none (some d_11); omega) | (have := fq.2; omega) | exact fq.1 _ (getI_mem (at_in (by omega) (by omega))) | exact join_fits (n := 5) (m := 10) (by rw [List.length_map, rgs_len]; have := fq.2; omega) (mem_map_all fun x hx => by rw [mixed_len (fq.1 _ (getI_mem (at_in (mem_rgs.mp hx).1 (mem_rgs.mp hx).2)))]; exact (fq.1 _ (getI_mem (at_in (mem_rgs.mp hx).1 (mem_rgs.mp hx).2))).1) (by decide) (by decide) | exact at_in (by omega) (by have := hpre.1; omega)) | (first | omega | decide | (show _ ≤ sizeLine; decide) | (show _ < sizeLine; decide)))) ev_int)) ?_ ?_
      · intro hb24 G25 H26 g23
        have h_draws := up g23.g h_draws
        have h_stroke := up g23.g h_stroke
        have h_19 := up g23.g h_19
        have h_13 := up g23.g h_13
        have gr := gr.trans g23
        replace hM := condT hM hb24
        refine s_asg (K := K) gr.s (ev_revL (ev_var rfl h_19)) fun w_28 G31 H32 g30 (h_29 : rep K (d_17).reverse w_28 G31) => ?_
        have h_draws := up g30.g h_draws
        have h_stroke := up g30.g h_stroke
        have h_13 := up g30.g h_13
        have gr := gr.trans g30
        generalize ed_27 : (d_17).reverse = d_27 at h_29 hM
        unfold m__law_loose_2 at hM
        have fw : d_27.Perm d_stroke.1 := by first | (rw [← ed_27]; done) | (rw [← ed_27]; exact (rot_perm _ (by omega)).trans fw) | (rw [← ed_27]; exact (List.reverse_perm _).trans fw)
        refine nx_mk ?_
        refine q_asg (K := K) gr.s (ev_cat (ev_var rfl h_29) (ev_lst (ea_cons (ev_ix21 (ev_var rfl h_stroke)) ea_nil) (by first | (first | exact pos_of (by assumption) | (rw [List.length_singleton, fw.length_eq]; exact le_line (Nat.le_trans (Nat.succ_le_succ hpre.2.2.1) (by decide))) | (have q := fw.length_eq; have q2 := hpre.2.2.1; refine le_line ?_; have := cut_le d_1 (some d_11) none; have := cut_le d_1 none (some d_11); omega) | (have := fq.2; omega) | exact fq.1 _ (getI_mem (at_in (by omega) (by omega))) | exact join_fits (n := 5) (m := 10) (by rw [List.length_map, rgs_len]; have := fq.2; omega) (mem_map_all fun x hx => by rw [mixed_len (fq.1 _ (getI_mem (at_in (mem_rgs.mp hx).1 (mem_rgs.mp hx).2)))]; exact (fq.1 _ (getI_mem (at_in (mem_rgs.mp hx).1 (mem_rgs.mp hx).2))).1) (by decide) (by decide) | exact at_in (by omega) (by have := hpre.1; omega)) | (first | (show _ ≤ sizeLine; decide) | (simp only [List.length_cons, List.length_nil, List.length_append, sizeLine_eq]; omega) | (fail)))) (by first | (first | exact pos_of (by assumption) | (rw [List.length_singleton, fw.length_eq]; exact le_line (Nat.le_trans (Nat.succ_le_succ hpre.2.2.1) (by decide))) | (have q := fw.length_eq; have q2 := hpre.2.2.1; refine le_line ?_; have := cut_le d_1 (some d_11) none; have := cut_le d_1 none (some d_11); omega) | (have := fq.2; omega) | exact fq.1 _ (getI_mem (at_in (by omega) (by omega))) | exact join_fits (n := 5) (m := 10) (by rw [List.length_map, rgs_len]; have := fq.2; omega) (mem_map_all fun x hx => by rw [mixed_len (fq.1 _ (getI_mem (at_in (mem_rgs.mp hx).1 (mem_rgs.mp hx).2)))]; exact (fq.1 _ (getI_mem (at_in (mem_rgs.mp hx).1 (mem_rgs.mp hx).2))).1) (by decide) (by decide) | exact at_in (by omega) (by have := hpre.1; omega)) | (first | omega | decide | (show _ ≤ sizeLine; decide) | (show _ < sizeLine; decide)))) fun w_34 G37 H38 g36 (h_35 : rep K (d_27 ++ ((d_stroke).2 :: ([] : List Str))) w_34 G37) => ?_
        have h_draws := up g36.g h_draws
        have h_stroke := up g36.g h_stroke
        have h_29 := up g36.g h_29
        have h_13 := up g36.g h_13
        have gr := gr.trans g36
        generalize ed_33 : (d_27 ++ ((d_stroke).2 :: ([] : List Str))) = d_33 at h_35 hM
        unfold m__law_loose_1 at hM
        have fq : (∀ p ∈ d_33, OkT p) ∧ d_33.length ≤ 5 := by rw [← ed_33]; exact parts_ok hpre.2.2 fw
        refine s_ret (K := K) gr.s (ev_join ev_str (ev_lcR1m (fun d_39 => (m__law_mixed (getI d_33 d_39) ((getI d_draws (5 : Int)) + d_39))) (ev_lenL (ev_var rfl h_35)) (by first | (first | exact pos_of (by assumption) | (rw [List.length_singleton, fw.length_eq]; exact le_line (Nat.le_trans (Nat.succ_le_succ hpre.2.2.1) (by decide))) | (have q := fw.length_eq; have q2 := hpre.2.2.1; refine le_line ?_; have := cut_le d_1 (some d_11) none; have := cut_le d_1 none (some d_11); omega) | (have := fq.2; omega) | exact fq.1 _ (getI_mem (at_in (by omega) (by omega))) | exact join_fits (n := 5) (m := 10) (by rw [List.length_map, rgs_len]; have := fq.2; omega) (mem_map_all fun x hx => by rw [mixed_len (fq.1 _ (getI_mem (at_in (mem_rgs.mp hx).1 (mem_rgs.mp hx).2)))]; exact (fq.1 _ (getI_mem (at_in (mem_rgs.mp hx).1 (mem_rgs.mp hx).2))).1) (by decide) (by decide) | exact at_in (by omega) (by have := hpre.1; omega)) | (first | omega | decide | (show _ ≤ sizeLine; decide) | (show _ < sizeLine; decide))) (fun d_39 G_ H_ lo45 hi46 sg42 sh_ P k => by have h_draws := up sg42 h_draws; have h_35 := up sg42 h_35; have h_41 : rep K d_39 (V.int d_39) G_ := rfl; exact k _ rfl eb_yes (fun hc43 => (ev_call2 (ev_ixL (ev_var rfl h_35) (ev_var rfl h_41) (atI_get (by first | (first | exact pos_of (by assumption) | (rw [List.length_singleton, fw.length_eq]; exact le_line (Nat.le_trans (Nat.succ_le_succ hpre.2.2.1) (by decide))) | (have q := fw.length_eq; have q2 := hpre.2.2.1; refine le_line ?_; have := cut_le d_1 (some d_11) none; have := cut_le d_1 none (some d_11); omega) | (have := fq.2; omega) | exact fq.1 _ (getI_mem (at_in (by omega) (by omega))) | exact join_fits (n := 5) (m := 10) (by rw [List.length_map, rgs_len]; have := fq.2; omega) (mem_map_all fun x hx => by rw [mixed_len (fq.1 _ (getI_mem (at_in (mem_rgs.mp hx).1 (mem_rgs.mp hx).2)))]; exact (fq.1 _ (getI_mem (at_in (mem_rgs.mp hx).1 (mem_rgs.mp hx).2))).1) (by decide) (by decide) | exact at_in (by omega) (by have := hpre.1; omega)) | (first | decide | (refine at_in ?_ ?_ <;> omega) | (refine at_neg ?_ ?_ <;> omega))))) (ev_add (ev_int1 (ev_ixL (ev_var rfl h_draws) ev_int (atI_get (by first | (first | exact pos_of (by assumption) | (rw [List.length_singleton, fw.length_eq]; exact le_line (Nat.le_trans (Nat.succ_le_succ hpre.2.2.1) (by decide))) | (have q := fw.length_eq; have q2 := hpre.2.2.1; refine le_line ?_; have := cut_le d_1 (some d_11) none; have := cut_le d_1 none (some d_11); omega) | (have := fq.2; omega) | exact fq.1 _ (getI_mem (at_in (by omega) (by omega))) | exact join_fits (n := 5) (m := 10) (by rw [List.length_map, rgs_len]; have := fq.2; omega) (mem_map_all fun x hx => by rw [mixed_len (fq.1 _ (getI_mem (at_in (mem_rgs.mp hx).1 (mem_rgs.mp hx).2)))]; exact (fq.1 _ (getI_mem (at_in (mem_rgs.mp hx).1 (mem_rgs.mp hx).2))).1) (by decide) (by decide) | exact at_in (by omega) (by have := hpre.1; omega)) | (first | decide | (refine at_in ?_ ?_ <;> omega) | (refine at_neg ?_ ?_ <;> omega)))))) (ev_var rfl h_41)) (by first | (first | exact pos_of (by assumption) | (rw [List.length_singleton, fw.length_eq]; exact le_line (Nat.le_trans (Nat.succ_le_succ hpre.2.2.1) (by decide))) | (have q := fw.length_eq; have q2 := hpre.2.2.1; refine le_line ?_; have := cut_le d_1 (some d_11) none; have := cut_le d_1 none (some d_11); omega) | (have := fq.2; omega) | exact fq.1 _ (getI_mem (at_in (by omega) (by omega))) | exact join_fits (n := 5) (m := 10) (by rw [List.length_map, rgs_len]; have := fq.2; omega) (mem_map_all fun x hx => by rw [mixed_len (fq.1 _ (getI_mem (at_in (mem_rgs.mp hx).1 (mem_rgs.mp hx).2)))]; exact (fq.1 _ (getI_mem (at_in (mem_rgs.mp hx).1 (mem_rgs.mp hx).2))).1) (by decide) (by decide) | exact at_in (by omega) (by have := hpre.1; omega)) | (first | omega | decide)))))) (by first | (first | exact pos_of (by assumption) | (rw [List.length_singleton, fw.length_eq]; exact le_line (Nat.le_trans (Nat.succ_le_succ hpre.2.2.1) (by decide))) | (have q := fw.length_eq; have q2 := hpre.2.2.1; refine le_line ?_; have := cut_le d_1 (some d_11) none; have := cut_le d_1 none (some d_11); omega) | (have := fq.2; omega) | exact fq.1 _ (getI_mem (at_in (by omega) (by omega))) | exact join_fits (n := 5) (m := 10) (by rw [List.length_map, rgs_len]; have := fq.2; omega) (mem_map_all fun x hx => by rw [mixed_len (fq.1 _ (getI_mem (at_in (mem_rgs.mp hx).1 (mem_rgs.mp hx).2)))]; exact (fq.1 _ (getI_mem (at_in (mem_rgs.mp hx).1 (mem_rgs.mp hx).2))).1) (by decide) (by decide) | exact at_in (by omega) (by have := hpre.1; omega)) | (first | omega | decide | (show _ ≤ sizeLine; decide) | (show _ < sizeLine; decide)))) fun u Gr Hr gq hu => ?_
        exact hQ u Gr Hr (gr.trans gq) (by rw [hM]; exact hu)
      · intro hb24 G47 H48 g23
        have h_draws := up g23.g h_draws
        have h_stroke := up g23.g h_stroke
        have h_19 := up g23.g h_19
        have h_13 := up g23.g h_13
        have gr := gr.trans g23
        replace hM := condF hM hb24
        refine s_next ?_
        refine nx_mk ?_
        refine q_asg (K := K) gr.s (ev_cat (ev_var rfl h_19) (ev_lst (ea_cons (ev_ix21 (ev_var rfl h_stroke)) ea_nil) (by first | (first | exact pos_of (by assumption) | (rw [List.length_singleton, fw.length_eq]; exact le_line (Nat.le_trans (Nat.succ_le_succ hpre.2.2.1) (by decide))) | (have q := fw.length_eq; have q2 := hpre.2.2.1; refine le_line ?_; have := cut_le d_1 (some d_11) none; have := cut_le d_1 none (some d_11); omega) | (have := fq.2; omega) | exact fq.1 _ (getI_mem (at_in (by omega) (by omega))) | exact join_fits (n := 5) (m := 10) (by rw [List.length_map, rgs_len]; have := fq.2; omega) (mem_map_all fun x hx => by rw [mixed_len (fq.1 _ (getI_mem (at_in (mem_rgs.mp hx).1 (mem_rgs.mp hx).2)))]; exact (fq.1 _ (getI_mem (at_in (mem_rgs.mp hx).1 (mem_rgs.mp hx).2))).1) (by decide) (by decide) | exact at_in (by omega) (by have := hpre.1; omega)) | (first | (show _ ≤ sizeLine; decide) | (simp only [List.length_cons, List.length_nil, List.length_append, sizeLine_eq]; omega) | (fail)))) (by first | (first | exact pos_of (by assumption) | (rw [List.length_singleton, fw.length_eq]; exact le_line (Nat.le_trans (Nat.succ_le_succ hpre.2.2.1) (by decide))) | (have q := fw.length_eq; have q2 := hpre.2.2.1; refine le_line ?_; have := cut_le d_1 (some d_11) none; have := cut_le d_1 none (some d_11); omega) | (have := fq.2; omega) | exact fq.1 _ (getI_mem (at_in (by omega) (by omega))) | exact join_fits (n := 5) (m := 10) (by rw [List.length_map, rgs_len]; have := fq.2; omega) (mem_map_all fun x hx => by rw [mixed_len (fq.1 _ (getI_mem (at_in (mem_rgs.mp hx).1 (mem_rgs.mp hx).2)))]; exact (fq.1 _ (getI_mem (at_in (mem_rgs.mp hx).1 (mem_rgs.mp hx).2))).1) (by decide) (by decide) | exact at_in (by omega) (by have := hpre.1; omega)) | (first | omega | decide | (show _ ≤ sizeLine; decide) | (show _ < sizeLine; decide)))) fun w_50 G53 H54 g52 (h_51 : rep K (d_17 ++ ((d_stroke).2 :: ([] : List Str))) w_50 G53) => ?_
        have h_draws := up g52.g h_draws
        have h_stroke := up g52.g h_stroke
        have h_19 := up g52.g h_19
        have h_13 := up g52.g h_13
        have gr := gr.trans g52
        generalize ed_49 : (d_17 ++ ((d_stroke).2 :: ([] : List Str))) = d_49 at h_51 hM
        unfold m__law_loose_3 at hM
        have fq : (∀ p ∈ d_49, OkT p) ∧ d_49.length ≤ 5 := by rw [← ed_49]; exact parts_ok hpre.2.2 fw
        refine s_ret (K := K) gr.s (ev_join ev_str (ev_lcR1m (fun d_55 => (m__law_mixed (getI d_49 d_55) ((getI d_draws (5 : Int)) + d_55))) (ev_lenL (ev_var rfl h_51)) (by first | (first | exact pos_of (by assumption) | (rw [List.length_singleton, fw.length_eq]; exact le_line (Nat.le_trans (Nat.succ_le_succ hpre.2.2.1) (by decide))) | (have q := fw.length_eq; have q2 := hpre.2.2.1; refine le_line ?_; have := cut_le d_1 (some d_11) none; have := cut_le d_1 none (some d_11); omega) | (have := fq.2; omega) | exact fq.1 _ (getI_mem (at_in (by omega) (by omega))) | exact join_fits (n := 5) (m := 10) (by rw [List.length_map, rgs_len]; have := fq.2; omega) (mem_map_all fun x hx => by rw [mixed_len (fq.1 _ (getI_mem (at_in (mem_rgs.mp hx).1 (mem_rgs.mp hx).2)))]; exact (fq.1 _ (getI_mem (at_in (mem_rgs.mp hx).1 (mem_rgs.mp hx).2))).1) (by decide) (by decide) | exact at_in (by omega) (by have := hpre.1; omega)) | (first | omega | decide | (show _ ≤ sizeLine; decide) | (show _ < sizeLine; decide))) (fun d_55 G_ H_ lo61 hi62 sg58 sh_ P k => by have h_draws := up sg58 h_draws; have h_51 := up sg58 h_51; have h_57 : rep K d_55 (V.int d_55) G_ := rfl; exact k _ rfl eb_yes (fun hc59 => (ev_call2 (ev_ixL (ev_var rfl h_51) (ev_var rfl h_57) (atI_get (by first | (first | exact pos_of (by assumption) | (rw [List.length_singleton, fw.length_eq]; exact le_line (Nat.le_trans (Nat.succ_le_succ hpre.2.2.1) (by decide))) | (have q := fw.length_eq; have q2 := hpre.2.2.1; refine le_line ?_; have := cut_le d_1 (some d_11) none; have := cut_le d_1 none (some d_11); omega) | (have := fq.2; omega) | exact fq.1 _ (getI_mem (at_in (by omega) (by omega))) | exact join_fits (n := 5) (m := 10) (by rw [List.length_map, rgs_len]; have := fq.2; omega) (mem_map_all fun x hx => by rw [mixed_len (fq.1 _ (getI_mem (at_in (mem_rgs.mp hx).1 (mem_rgs.mp hx).2)))]; exact (fq.1 _ (getI_mem (at_in (mem_rgs.mp hx).1 (mem_rgs.mp hx).2))).1) (by decide) (by decide) | exact at_in (by omega) (by have := hpre.1; omega)) | (first | decide | (refine at_in ?_ ?_ <;> omega) | (refine at_neg ?_ ?_ <;> omega))))) (ev_add (ev_int1 (ev_ixL (ev_var rfl h_draws) ev_int (atI_get (by first | (first | exact pos_of (by assumption) | (rw [List.length_singleton, fw.length_eq]; exact le_line (Nat.le_trans (Nat.succ_le_succ hpre.2.2.1) (by decide))) | (have q := fw.length_eq; have q2 := hpre.2.2.1; refine le_line ?_; have := cut_le d_1 (some d_11) none; have := cut_le d_1 none (some d_11); omega) | (have := fq.2; omega) | exact fq.1 _ (getI_mem (at_in (by omega) (by omega))) | exact join_fits (n := 5) (m := 10) (by rw [List.length_map, rgs_len]; have := fq.2; omega) (mem_map_all fun x hx => by rw [mixed_len (fq.1 _ (getI_mem (at_in (mem_rgs.mp hx).1 (mem_rgs.mp hx).2)))]; exact (fq.1 _ (getI_mem (at_in (mem_rgs.mp hx).1 (mem_rgs.mp hx).2))).1) (by decide) (by decide) | exact at_in (by omega) (by have := hpre.1; omega)) | (first | decide | (refine at_in ?_ ?_ <;> omega) | (refine at_neg ?_ ?_ <;> omega)))))) (ev_var rfl h_57)) (by first | (first | exact pos_of (by assumption) | (rw [List.length_singleton, fw.length_eq]; exact le_line (Nat.le_trans (Nat.succ_le_succ hpre.2.2.1) (by decide))) | (have q := fw.length_eq; have q2 := hpre.2.2.1; refine le_line ?_; have := cut_le d_1 (some d_11) none; have := cut_le d_1 none (some d_11); omega) | (have := fq.2; omega) | exact fq.1 _ (getI_mem (at_in (by omega) (by omega))) | exact join_fits (n := 5) (m := 10) (by rw [List.length_map, rgs_len]; have := fq.2; omega) (mem_map_all fun x hx => by rw [mixed_len (fq.1 _ (getI_mem (at_in (mem_rgs.mp hx).1 (mem_rgs.mp hx).2)))]; exact (fq.1 _ (getI_mem (at_in (mem_rgs.mp hx).1 (mem_rgs.mp hx).2))).1) (by decide) (by decide) | exact at_in (by omega) (by have := hpre.1; omega)) | (first | omega | decide)))))) (by first | (first | exact pos_of (by assumption) | (rw [List.length_singleton, fw.length_eq]; exact le_line (Nat.le_trans (Nat.succ_le_succ hpre.2.2.1) (by decide))) | (have q := fw.length_eq; have q2 := hpre.2.2.1; refine le_line ?_; have := cut_le d_1 (some d_11) none; have := cut_le d_1 none (some d_11); omega) | (have := fq.2; omega) | exact fq.1 _ (getI_mem (at_in (by omega) (by omega))) | exact join_fits (n := 5) (m := 10) (by rw [List.length_map, rgs_len]; have := fq.2; omega) (mem_map_all fun x hx => by rw [mixed_len (fq.1 _ (getI_mem (at_in (mem_rgs.mp hx).1 (mem_rgs.mp hx).2)))]; exact (fq.1 _ (getI_mem (at_in (mem_rgs.mp hx).1 (mem_rgs.mp hx).2))).1) (by decide) (by decide) | exact at_in (by omega) (by have := hpre.1; omega)) | (first | omega | decide | (show _ ≤ sizeLine; decide) | (show _ < sizeLine; decide)))) fun u Gr Hr gq hu => ?_
        exact hQ u Gr Hr (gr.trans gq) (by rw [hM]; exact hu)
    · intro hb8 G63 H64 g7
      have h_draws := up g7.g h_draws
      have h_stroke := up g7.g h_stroke
      have h_3 := up g7.g h_3
      have gr := gr.trans g7
      replace hM := condF hM hb8
      unfold m__law_loose_10 at hM
      refine s_next ?_
      refine nx_mk ?_
      refine q_if gr.s (et_test (ev_eq (ev_mod (ev_int1 (ev_ixL (ev_var rfl h_draws) ev_int (atI_get (by first | (first | exact pos_of (by assumption) | (rw [List.length_singleton, fw.length_eq]; exact le_line (Nat.le_trans (Nat.succ_le_succ hpre.2.2.1) (by decide))) | (have q := fw.length_eq; have q2 := hpre.2.2.1; refine le_line ?_; have := cut_le d_1 (some d_11) none; have := cut_le d_1 none (some d_11); omega) | (have := fq.2; omega) | exact fq.1 _ (getI_mem (at_in (by omega) (by omega))) | exact join_fits (n := 5) (m := 10) (by rw [List.length_map, rgs_len]; have := fq.2; omega) (mem_map_all fun x hx => by rw [mixed_len (fq.1 _ (getI_mem (at_in (mem_rgs.mp hx).1 (mem_rgs.mp hx).2)))]; exact (fq.1 _ (getI_mem (at_in (mem_rgs.mp hx).1 (mem_rgs.mp hx).2))).1) (by decide) (by decide) | exact at_in (by omega) (by have := hpre.1; omega)) | (first | decide | (refine at_in ?_ ?_ <;> omega) | (refine at_neg ?_ ?_ <;> omega)))))) ev_int (by first | (first | exact pos_of (by assumption) | (rw [List.length_singleton, fw.length_eq]; exact le_line (Nat.le_trans (Nat.succ_le_succ hpre.2.2.1) (by decide))) | (have q := fw.length_eq; have q2 := hpre.2.2.1; refine le_line ?_; have := cut_le d_1 (some d_11) none; have := cut_le d_1 none (some d_11); omega) | (have := fq.2; omega) | exact fq.1 _ (getI_mem (at_in (by omega) (by omega))) | exact join_fits (n := 5) (m := 10) (by rw [List.length_map, rgs_len]; have := fq.2; omega) (mem_map_all fun x hx => by rw [mixed_len (fq.1 _ (getI_mem (at_in (mem_rgs.mp hx).1 (mem_rgs.mp hx).2)))]; exact (fq.1 _ (getI_mem (at_in (mem_rgs.mp hx).1 (mem_rgs.mp hx).2))).1) (by decide) (by decide) | exact at_in (by omega) (by have := hpre.1; omega)) | (first | omega | decide | (show _ ≤ sizeLine; decide) | (show _ < sizeLine; decide)))) ev_int)) ?_ ?_
      · intro hb66 G67 H68 g65
        have h_draws := up g65.g h_draws
        have h_stroke := up g65.g h_stroke
        have h_3 := up g65.g h_3
        have gr := gr.trans g65
        replace hM := condT hM hb66
        refine s_asg (K := K) gr.s (ev_revL (ev_var rfl h_3)) fun w_70 G73 H74 g72 (h_71 : rep K (d_1).reverse w_70 G73) => ?_
        have h_draws := up g72.g h_draws
        have h_stroke := up g72.g h_stroke
        have gr := gr.trans g72
        generalize ed_69 : (d_1).reverse = d_69 at h_71 hM
        unfold m__law_loose_8 at hM
        have fw : d_69.Perm d_stroke.1 := by first | (rw [← ed_69]; done) | (rw [← ed_69]; exact (rot_perm _ (by omega)).trans fw) | (rw [← ed_69]; exact (List.reverse_perm _).trans fw)
        refine nx_mk ?_
        refine q_asg (K := K) gr.s (ev_cat (ev_var rfl h_71) (ev_lst (ea_cons (ev_ix21 (ev_var rfl h_stroke)) ea_nil) (by first | (first | exact pos_of (by assumption) | (rw [List.length_singleton, fw.length_eq]; exact le_line (Nat.le_trans (Nat.succ_le_succ hpre.2.2.1) (by decide))) | (have q := fw.length_eq; have q2 := hpre.2.2.1; refine le_line ?_; have := cut_le d_1 (some d_11) none; have := cut_le d_1 none (some d_11); omega) | (have := fq.2; omega) | exact fq.1 _ (getI_mem (at_in (by omega) (by omega))) | exact join_fits (n := 5) (m := 10) (by rw [List.length_map, rgs_len]; have := fq.2; omega) (mem_map_all fun x hx => by rw [mixed_len (fq.1 _ (getI_mem (at_in (mem_rgs.mp hx).1 (mem_rgs.mp hx).2)))]; exact (fq.1 _ (getI_mem (at_in (mem_rgs.mp hx).1 (mem_rgs.mp hx).2))).1) (by decide) (by decide) | exact at_in (by omega) (by have := hpre.1; omega)) | (first | (show _ ≤ sizeLine; decide) | (simp only [List.length_cons, List.length_nil, List.length_append, sizeLine_eq]; omega) | (fail)))) (by first | (first | exact pos_of (by assumption) | (rw [List.length_singleton, fw.length_eq]; exact le_line (Nat.le_trans (Nat.succ_le_succ hpre.2.2.1) (by decide))) | (have q := fw.length_eq; have q2 := hpre.2.2.1; refine le_line ?_; have := cut_le d_1 (some d_11) none; have := cut_le d_1 none (some d_11); omega) | (have := fq.2; omega) | exact fq.1 _ (getI_mem (at_in (by omega) (by omega))) | exact join_fits (n := 5) (m := 10) (by rw [List.length_map, rgs_len]; have := fq.2; omega) (mem_map_all fun x hx => by rw [mixed_len (fq.1 _ (getI_mem (at_in (mem_rgs.mp hx).1 (mem_rgs.mp hx).2)))]; exact (fq.1 _ (getI_mem (at_in (mem_rgs.mp hx).1 (mem_rgs.mp hx).2))).1) (by decide) (by decide) | exact at_in (by omega) (by have := hpre.1; omega)) | (first | omega | decide | (show _ ≤ sizeLine; decide) | (show _ < sizeLine; decide)))) fun w_76 G79 H80 g78 (h_77 : rep K (d_69 ++ ((d_stroke).2 :: ([] : List Str))) w_76 G79) => ?_
        have h_draws := up g78.g h_draws
        have h_stroke := up g78.g h_stroke
        have h_71 := up g78.g h_71
        have gr := gr.trans g78
        generalize ed_75 : (d_69 ++ ((d_stroke).2 :: ([] : List Str))) = d_75 at h_77 hM
        unfold m__law_loose_7 at hM
        have fq : (∀ p ∈ d_75, OkT p) ∧ d_75.length ≤ 5 := by rw [← ed_75]; exact parts_ok hpre.2.2 fw
        refine s_ret (K := K) gr.s (ev_join ev_str (ev_lcR1m (fun d_81 => (m__law_mixed (getI d_75 d_81) ((getI d_draws (5 : Int)) + d_81))) (ev_lenL (ev_var rfl h_77)) (by first | (first | exact pos_of (by assumption) | (rw [List.length_singleton, fw.length_eq]; exact le_line (Nat.le_trans (Nat.succ_le_succ hpre.2.2.1) (by decide))) | (have q := fw.length_eq; have q2 := hpre.2.2.1; refine le_line ?_; have := cut_le d_1 (some d_11) none; have := cut_le d_1 none (some d_11); omega) | (have := fq.2; omega) | exact fq.1 _ (getI_mem (at_in (by omega) (by omega))) | exact join_fits (n := 5) (m := 10) (by rw [List.length_map, rgs_len]; have := fq.2; omega) (mem_map_all fun x hx => by rw [mixed_len (fq.1 _ (getI_mem (at_in (mem_rgs.mp hx).1 (mem_rgs.mp hx).2)))]; exact (fq.1 _ (getI_mem (at_in (mem_rgs.mp hx).1 (mem_rgs.mp hx).2))).1) (by decide) (by decide) | exact at_in (by omega) (by have := hpre.1; omega)) | (first | omega | decide | (show _ ≤ sizeLine; decide) | (show _ < sizeLine; decide))) (fun d_81 G_ H_ lo87 hi88 sg84 sh_ P k => by have h_draws := up sg84 h_draws; have h_77 := up sg84 h_77; have h_83 : rep K d_81 (V.int d_81) G_ := rfl; exact k _ rfl eb_yes (fun hc85 => (ev_call2 (ev_ixL (ev_var rfl h_77) (ev_var rfl h_83) (atI_get (by first | (first | exact pos_of (by assumption) | (rw [List.length_singleton, fw.length_eq]; exact le_line (Nat.le_trans (Nat.succ_le_succ hpre.2.2.1) (by decide))) | (have q := fw.length_eq; have q2 := hpre.2.2.1; refine le_line ?_; have := cut_le d_1 (some d_11) none; have := cut_le d_1 none (some d_11); omega) | (have := fq.2; omega) | exact fq.1 _ (getI_mem (at_in (by omega) (by omega))) | exact join_fits (n := 5) (m := 10) (by rw [List.length_map, rgs_len]; have := fq.2; omega) (mem_map_all fun x hx => by rw [mixed_len (fq.1 _ (getI_mem (at_in (mem_rgs.mp hx).1 (mem_rgs.mp hx).2)))]; exact (fq.1 _ (getI_mem (at_in (mem_rgs.mp hx).1 (mem_rgs.mp hx).2))).1) (by decide) (by decide) | exact at_in (by omega) (by have := hpre.1; omega)) | (first | decide | (refine at_in ?_ ?_ <;> omega) | (refine at_neg ?_ ?_ <;> omega))))) (ev_add (ev_int1 (ev_ixL (ev_var rfl h_draws) ev_int (atI_get (by first | (first | exact pos_of (by assumption) | (rw [List.length_singleton, fw.length_eq]; exact le_line (Nat.le_trans (Nat.succ_le_succ hpre.2.2.1) (by decide))) | (have q := fw.length_eq; have q2 := hpre.2.2.1; refine le_line ?_; have := cut_le d_1 (some d_11) none; have := cut_le d_1 none (some d_11); omega) | (have := fq.2; omega) | exact fq.1 _ (getI_mem (at_in (by omega) (by omega))) | exact join_fits (n := 5) (m := 10) (by rw [List.length_map, rgs_len]; have := fq.2; omega) (mem_map_all fun x hx => by rw [mixed_len (fq.1 _ (getI_mem (at_in (mem_rgs.mp hx).1 (mem_rgs.mp hx).2)))]; exact (fq.1 _ (getI_mem (at_in (mem_rgs.mp hx).1 (mem_rgs.mp hx).2))).1) (by decide) (by decide) | exact at_in (by omega) (by have := hpre.1; omega)) | (first | decide | (refine at_in ?_ ?_ <;> omega) | (refine at_neg ?_ ?_ <;> omega)))))) (ev_var rfl h_83)) (by first | (first | exact pos_of (by assumption) | (rw [List.length_singleton, fw.length_eq]; exact le_line (Nat.le_trans (Nat.succ_le_succ hpre.2.2.1) (by decide))) | (have q := fw.length_eq; have q2 := hpre.2.2.1; refine le_line ?_; have := cut_le d_1 (some d_11) none; have := cut_le d_1 none (some d_11); omega) | (have := fq.2; omega) | exact fq.1 _ (getI_mem (at_in (by omega) (by omega))) | exact join_fits (n := 5) (m := 10) (by rw [List.length_map, rgs_len]; have := fq.2; omega) (mem_map_all fun x hx => by rw [mixed_len (fq.1 _ (getI_mem (at_in (mem_rgs.mp hx).1 (mem_rgs.mp hx).2)))]; exact (fq.1 _ (getI_mem (at_in (mem_rgs.mp hx).1 (mem_rgs.mp hx).2))).1) (by decide) (by decide) | exact at_in (by omega) (by have := hpre.1; omega)) | (first | omega | decide)))))) (by first | (first | exact pos_of (by assumption) | (rw [List.length_singleton, fw.length_eq]; exact le_line (Nat.le_trans (Nat.succ_le_succ hpre.2.2.1) (by decide))) | (have q := fw.length_eq; have q2 := hpre.2.2.1; refine le_line ?_; have := cut_le d_1 (some d_11) none; have := cut_le d_1 none (some d_11); omega) | (have := fq.2; omega) | exact fq.1 _ (getI_mem (at_in (by omega) (by omega))) | exact join_fits (n := 5) (m := 10) (by rw [List.length_map, rgs_len]; have := fq.2; omega) (mem_map_all fun x hx => by rw [mixed_len (fq.1 _ (getI_mem (at_in (mem_rgs.mp hx).1 (mem_rgs.mp hx).2)))]; exact (fq.1 _ (getI_mem (at_in (mem_rgs.mp hx).1 (mem_rgs.mp hx).2))).1) (by decide) (by decide) | exact at_in (by omega) (by have := hpre.1; omega)) | (first | omega | decide | (show _ ≤ sizeLine; decide) | (show _ < sizeLine; decide)))) fun u Gr Hr gq hu => ?_
        exact hQ u Gr Hr (gr.trans gq) (by rw [hM]; exact hu)
      · intro hb66 G89 H90 g65
        have h_draws := up g65.g h_draws
        have h_stroke := up g65.g h_stroke
        have h_3 := up g65.g h_3
        have gr := gr.trans g65
        replace hM := condF hM hb66
        refine s_next ?_
        refine nx_mk ?_
        refine q_asg (K := K) gr.s (ev_cat (ev_var rfl h_3) (ev_lst (ea_cons (ev_ix21 (ev_var rfl h_stroke)) ea_nil) (by first | (first | exact pos_of (by assumption) | (rw [List.length_singleton, fw.length_eq]; exact le_line (Nat.le_trans (Nat.succ_le_succ hpre.2.2.1) (by decide))) | (have q := fw.length_eq; have q2 := hpre.2.2.1; refine le_line ?_; have := cut_le d_1 (some d_11) none; have := cut_le d_1 none (some d_11); omega) | (have := fq.2; omega) | exact fq.1 _ (getI_mem (at_in (by omega) (by omega))) | exact join_fits (n := 5) (m := 10) (by rw [List.length_map, rgs_len]; have := fq.2; omega) (mem_map_all fun x hx => by rw [mixed_len (fq.1 _ (getI_mem (at_in (mem_rgs.mp hx).1 (mem_rgs.mp hx).2)))]; exact (fq.1 _ (getI_mem (at_in (mem_rgs.mp hx).1 (mem_rgs.mp hx).2))).1) (by decide) (by decide) | exact at_in (by omega) (by have := hpre.1; omega)) | (first | (show _ ≤ sizeLine; decide) | (simp only [List.length_cons, List.length_nil, List.length_append, sizeLine_eq]; omega) | (fail)))) (by first | (first | exact pos_of (by assumption) | (rw [List.length_singleton, fw.length_eq]; exact le_line (Nat.le_trans (Nat.succ_le_succ hpre.2.2.1) (by decide))) | (have q := fw.length_eq; have q2 := hpre.2.2.1; refine le_line ?_; have := cut_le d_1 (some d_11) none; have := cut_le d_1 none (some d_11); omega) | (have := fq.2; omega) | exact fq.1 _ (getI_mem (at_in (by omega) (by omega))) | exact join_fits (n := 5) (m := 10) (by rw [List.length_map, rgs_len]; have := fq.2; omega) (mem_map_all fun x hx => by rw [mixed_len (fq.1 _ (getI_mem (at_in (mem_rgs.mp hx).1 (mem_rgs.mp hx).2)))]; exact (fq.1 _ (getI_mem (at_in (mem_rgs.mp hx).1 (mem_rgs.mp hx).2))).1) (by decide) (by decide) | exact at_in (by omega) (by have := hpre.1; omega)) | (first | omega | decide | (show _ ≤ sizeLine; decide) | (show _ < sizeLine; decide)))) fun w_92 G95 H96 g94 (h_93 : rep K (d_1 ++ ((d_stroke).2 :: ([] : List Str))) w_92 G95) => ?_
        have h_draws := up g94.g h_draws
        have h_stroke := up g94.g h_stroke
        have h_3 := up g94.g h_3
        have gr := gr.trans g94
        generalize ed_91 : (d_1 ++ ((d_stroke).2 :: ([] : List Str))) = d_91 at h_93 hM
        unfold m__law_loose_9 at hM
        have fq : (∀ p ∈ d_91, OkT p) ∧ d_91.length ≤ 5 := by rw [← ed_91]; exact parts_ok hpre.2.2 fw
        refine s_ret (K := K) gr.s (ev_join ev_str (ev_lcR1m (fun d_97 => (m__law_mixed (getI d_91 d_97) ((getI d_draws (5 : Int)) + d_97))) (ev_lenL (ev_var rfl h_93)) (by first | (first | exact pos_of (by assumption) | (rw [List.length_singleton, fw.length_eq]; exact le_line (Nat.le_trans (Nat.succ_le_succ hpre.2.2.1) (by decide))) | (have q := fw.length_eq; have q2 := hpre.2.2.1; refine le_line ?_; have := cut_le d_1 (some d_11) none; have := cut_le d_1 none (some d_11); omega) | (have := fq.2; omega) | exact fq.1 _ (getI_mem (at_in (by omega) (by omega))) | exact join_fits (n := 5) (m := 10) (by rw [List.length_map, rgs_len]; have := fq.2; omega) (mem_map_all fun x hx => by rw [mixed_len (fq.1 _ (getI_mem (at_in (mem_rgs.mp hx).1 (mem_rgs.mp hx).2)))]; exact (fq.1 _ (getI_mem (at_in (mem_rgs.mp hx).1 (mem_rgs.mp hx).2))).1) (by decide) (by decide) | exact at_in (by omega) (by have := hpre.1; omega)) | (first | omega | decide | (show _ ≤ sizeLine; decide) | (show _ < sizeLine; decide))) (fun d_97 G_ H_ lo103 hi104 sg100 sh_ P k => by have h_draws := up sg100 h_draws; have h_93 := up sg100 h_93; have h_99 : rep K d_97 (V.int d_97) G_ := rfl; exact k _ rfl eb_yes (fun hc101 => (ev_call2 (ev_ixL (ev_var rfl h_93) (ev_var rfl h_99) (atI_get (by first | (first | exact pos_of (by assumption) | (rw [List.length_singleton, fw.length_eq]; exact le_line (Nat.le_trans (Nat.succ_le_succ hpre.2.2.1) (by decide))) | (have q := fw.length_eq; have q2 := hpre.2.2.1; refine le_line ?_; have := cut_le d_1 (some d_11) none; have := cut_le d_1 none (some d_11); omega) | (have := fq.2; omega) | exact fq.1 _ (getI_mem (at_in (by omega) (by omega))) | exact join_fits (n := 5) (m := 10) (by rw [List.length_map, rgs_len]; have := fq.2; omega) (mem_map_all fun x hx => by rw [mixed_len (fq.1 _ (getI_mem (at_in (mem_rgs.mp hx).1 (mem_rgs.mp hx).2)))]; exact (fq.1 _ (getI_mem (at_in (mem_rgs.mp hx).1 (mem_rgs.mp hx).2))).1) (by decide) (by decide) | exact at_in (by omega) (by have := hpre.1; omega)) | (first | decide | (refine at_in ?_ ?_ <;> omega) | (refine at_neg ?_ ?_ <;> omega))))) (ev_add (ev_int1 (ev_ixL (ev_var rfl h_draws) ev_int (atI_get (by first | (first | exact pos_of (by assumption) | (rw [List.length_singleton, fw.length_eq]; exact le_line (Nat.le_trans (Nat.succ_le_succ hpre.2.2.1) (by decide))) | (have q := fw.length_eq; have q2 := hpre.2.2.1; refine le_line ?_; have := cut_le d_1 (some d_11) none; have := cut_le d_1 none (some d_11); omega) | (have := fq.2; omega) | exact fq.1 _ (getI_mem (at_in (by omega) (by omega))) | exact join_fits (n := 5) (m := 10) (by rw [List.length_map, rgs_len]; have := fq.2; omega) (mem_map_all fun x hx => by rw [mixed_len (fq.1 _ (getI_mem (at_in (mem_rgs.mp hx).1 (mem_rgs.mp hx).2)))]; exact (fq.1 _ (getI_mem (at_in (mem_rgs.mp hx).1 (mem_rgs.mp hx).2))).1) (by decide) (by decide) | exact at_in (by omega) (by have := hpre.1; omega)) | (first | decide | (refine at_in ?_ ?_ <;> omega) | (refine at_neg ?_ ?_ <;> omega)))))) (ev_var rfl h_99)) (by first | (first | exact pos_of (by assumption) | (rw [List.length_singleton, fw.length_eq]; exact le_line (Nat.le_trans (Nat.succ_le_succ hpre.2.2.1) (by decide))) | (have q := fw.length_eq; have q2 := hpre.2.2.1; refine le_line ?_; have := cut_le d_1 (some d_11) none; have := cut_le d_1 none (some d_11); omega) | (have := fq.2; omega) | exact fq.1 _ (getI_mem (at_in (by omega) (by omega))) | exact join_fits (n := 5) (m := 10) (by rw [List.length_map, rgs_len]; have := fq.2; omega) (mem_map_all fun x hx => by rw [mixed_len (fq.1 _ (getI_mem (at_in (mem_rgs.mp hx).1 (mem_rgs.mp hx).2)))]; exact (fq.1 _ (getI_mem (at_in (mem_rgs.mp hx).1 (mem_rgs.mp hx).2))).1) (by decide) (by decide) | exact at_in (by omega) (by have := hpre.1; omega)) | (first | omega | decide)))))) (by first | (first | exact pos_of (by assumption) | (rw [List.length_singleton, fw.length_eq]; exact le_line (Nat.le_trans (Nat.succ_le_succ hpre.2.2.1) (by decide))) | (have q := fw.length_eq; have q2 := hpre.2.2.1; refine le_line ?_; have := cut_le d_1 (some d_11) none; have := cut_le d_1 none (some d_11); omega) | (have := fq.2; omega) | exact fq.1 _ (getI_mem (at_in (by omega) (by omega))) | exact join_fits (n := 5) (m := 10) (by rw [List.length_map, rgs_len]; have := fq.2; omega) (mem_map_all fun x hx => by rw [mixed_len (fq.1 _ (getI_mem (at_in (mem_rgs.mp hx).1 (mem_rgs.mp hx).2)))]; exact (fq.1 _ (getI_mem (at_in (mem_rgs.mp hx).1 (mem_rgs.mp hx).2))).1) (by decide) (by decide) | exact at_in (by omega) (by have := hpre.1; omega)) | (first | omega | decide | (show _ ≤ sizeLine; decide) | (show _ < sizeLine; decide)))) fun u Gr Hr gq hu => ?_
        exact hQ u Gr Hr (gr.trans gq) (by rw [hM]; exact hu)
theorem loose_pre {d : List Int} {s : List Str × Str} (hd : d.length = 9 ∧ NN d) (h : SmallS s) : (m__law_loose d s).length ≤ 55 := by
  obtain ⟨us, hp, e⟩ := loose_is d s hd.2 (by rw [hd.1]; decide)
  rw [e]
  exact join_short (n := 5) (m := 10) (by rw [mixL_len]; exact (parts_ok h hp).2) (mixL_ok (parts_ok h hp).1) (by decide)
theorem shown_pre {s : List Str × Str} (h : SmallS s) : PreT (m__law_shown s) := Nat.le_trans (join_short (n := 5) (m := 10) (parts_ok h (List.Perm.refl _)).2 (fun p hp => ((parts_ok h (List.Perm.refl _)).1 p hp).1) (by decide)) (by decide)
theorem wrong_pre {t o : Str} {a b c e : Option Int} (ht : t.length ≤ 55) (ho : o.length ≤ 10) : PreT (Txt.join ("+" : Str) (cutL (Txt.split t ("+" : Str)) a b ++ [o] ++ cutL (Txt.split t ("+" : Str)) c e)) := by
  unfold PreT
  rw [join_len, show ("+" : Str).length = 1 by decide]
  have h1 := sum_sub (cut_sub (Txt.split t ("+" : Str)) a b)
  have h2 := sum_sub (cut_sub (Txt.split t ("+" : Str)) c e)
  have h3 := cut_le (Txt.split t ("+" : Str)) a b
  have h4 := cut_le (Txt.split t ("+" : Str)) c e
  have h5 := split_sum (x := t) (y := ("+" : Str))
  have h6 := split_count (x := t) (y := ("+" : Str)) (by decide)
  simp only [List.map_append, List.sum_append, List.map_cons, List.map_nil, List.sum_cons, List.sum_nil, List.length_append, List.length_cons, List.length_nil]
  omega
theorem wrong_join {t o : Str} {a b c e : Option Int} (ht : t.length ≤ 55) (ho : o.length ≤ 10) : ((cutL (Txt.split t ("+" : Str)) a b ++ [o] ++ cutL (Txt.split t ("+" : Str)) c e).map (·.length)).sum + (cutL (Txt.split t ("+" : Str)) a b ++ [o] ++ cutL (Txt.split t ("+" : Str)) c e).length * ("+" : Str).length ≤ 16777216 := by
  have h := wrong_pre (a := a) (b := b) (c := c) (e := e) ht ho
  unfold PreT at h
  rw [join_len, show ("+" : Str).length = 1 by decide] at h
  rw [show ("+" : Str).length = 1 by decide]
  omega

/-! #### _law_told -/
def m__law_told (t : Str) : Sum (Tpl Str) Str := match m_key_sequence t with
  | .ok y => .inl y
  | .error s => .inr s
abbrev p__law_told (K : PySem.W.Frag) : Sp := sp1 K (fun t : Str => PreT t) m__law_told
theorem ok__law_told (T : Tx K mg A) : FnOk P w K mg base CX0 6 A.f__law_told A.d__law_told ["text"] (p__law_told K) := by
  refine T.F__law_told.ok sc__law_told (fun vs He Q E h => ?_) (fun cdv A0 outer s He vs Q E hr h => ⟨_, pss_one (ps_try_as (i := 1) (Wout := fun _ _ _ _ => False) rfl rfl sc__law_told.nd rfl rfl ⟨rfl, by decide, .inl T.x_BadKeys.gC⟩ takes0
      (fun W pn xe tk _ => pss_one (ps_ret (pe_callS (ok_key_sequence T) (hr.mono (by decide)) rfl T.g_key_sequence T.F_key_sequence.kp T.b_key_sequence (fun σ => passAt tk σ) (pa_cons (pv 0) pa_nil))))
      (fun a oe cls d pn hz hf => pss_one (ps_ret (pe_xf T.x_BadKeys.xf T.x_BadKeys.nF hz hf (pv 1))))), ?_⟩)
  · obtain ⟨t, v, G, rfl, _⟩ := h
    rfl
  · obtain ⟨t, v, G, rfl, eG, hv, hpre, hQ⟩ := h
    refine ⟨_, rfl, t, v, G, rfl, eG, hv, hpre, fun y e u G' H' g r => hQ u G' H' g (by unfold m__law_told; rw [e]; exact r), fun z e d H1 sm hn hd => ⟨true, T.x_BadKeys.te, fun _ a ha => ?_, fun q => nomatch q⟩⟩
    refine ⟨_, rfl, rfl, rfl, d, _, .str z, rfl, hd, rfl, ?_⟩
    exact hQ _ G H1 ⟨Same.refl _, eG.trans sm, sm, fun _ _ _ h => h⟩ (by unfold m__law_told; rw [e]; rfl)

/-! #### law -/
theorem modifier_of (p : Str) : m__spelled p ⟨k__MODIFIERS⟩ = k__MODIFIERS.find? fun n => decide (Txt.lower n = Txt.lower p) := spelled_find p k__MODIFIERS

def canonL (ini : List Str) (l : Str) : Option Str := cond ((m__key_of l).isNone || ((memB (none : Option Str) (ini.map fun p => m__spelled p ⟨k__MODIFIERS⟩)) ||
    (decide (((onceN (texts (ini.map fun p => m__spelled p ⟨k__MODIFIERS⟩)) (texts (ini.map fun p => m__spelled p ⟨k__MODIFIERS⟩)).length : Nat) : Int) < ((ini.map fun p => m__spelled p ⟨k__MODIFIERS⟩).length : Int))))) none
  (some (Txt.join ("+" : Str) ((List.map (fun x => x) (List.filter (fun m => memB (some m) (ini.map fun p => m__spelled p ⟨k__MODIFIERS⟩)) k__MODIFIERS)) ++ [(m__key_of l).getD default])))
theorem canon_is (t : Str) : m__canonical t = canonL (cutL (Txt.split t ("+" : Str)) none (some (-1))) (getI (Txt.split t ("+" : Str)) (-1)) := rfl

theorem canon_join {qs : List Str} {q : Str} {us ws : List Str} {k : Str} (hp : us.Perm ws) (hn : ws.Nodup) (hf : List.filter (fun m => memB m ws) k__MODIFIERS = ws) (hq : qs.map (fun p => m__spelled p ⟨k__MODIFIERS⟩) = us.map some) (hk : m__key_of q = some k)
    (h1 : ∀ p ∈ qs, 43 ∉ TL.tl p) (h2 : 43 ∉ TL.tl q) : m__canonical (Txt.join ("+" : Str) (qs ++ [q])) = some (Txt.join ("+" : Str) (ws ++ [k])) := by
  have ey : TL.tl ("+" : Str) = 43 :: [] := by decide +kernel
  have es : Txt.split (Txt.join ("+" : Str) (qs ++ [q])) ("+" : Str) = qs ++ [q] := TL.split_join ey (by decide +kernel) (by simp) fun p hp => (List.mem_append.mp hp).elim (h1 p) fun z => by rw [List.mem_singleton.mp z]; exact h2
  rw [canon_is, es, cut_init, get_last (by simp), List.dropLast_concat, List.getLast_concat]
  unfold canonL
  rw [hq, hk]
  have g1 : memB (none : Option Str) (us.map some) = false := memB_no fun z => by
    obtain ⟨x, _, e⟩ := List.mem_map.mp z
    cases e
  have g2 : texts (us.map some) = us := by
    unfold texts
    rw [List.filterMap_map]
    exact List.filterMap_some
  have g3 : decide (((onceN us us.length : Nat) : Int) < ((us.map some).length : Int)) = false := decide_eq_false fun z => by
    rw [List.length_map] at z
    exact onceN_all.mp (by omega) (hp.nodup_iff.mpr hn)
  have g4 : List.filter (fun m => memB (some m) (us.map some)) k__MODIFIERS = ws := by
    rw [← hf]
    refine List.filter_congr fun m _ => ?_
    refine memB_iff ⟨fun h => ?_, fun h => List.mem_map_of_mem (hp.mem_iff.mpr h)⟩
    obtain ⟨x, hx, e⟩ := List.mem_map.mp h
    cases e
    exact hp.mem_iff.mp hx
  rw [g1, g2, g3, g4, List.map_id']
  rfl

theorem mixed_mod (t : Str) (d : Int) : m__law_mixed t d = m__law_mixed t (d % 3) := by
  have e : m__law_mixed_3 t d = m__law_mixed_3 t (d % 3) := by
    funext s k
    show s ++ getI _ ((d + k * k) % 3) = s ++ getI _ ((d % 3 + k * k) % 3)
    rw [Int.emod_add_emod]
  show List.foldl (m__law_mixed_3 t d) _ _ = List.foldl (m__law_mixed_3 t (d % 3)) _ _
  rw [e]
theorem mod3 (d : Int) : d % 3 ∈ ([0, 1, 2] : List Int) := by
  have h1 := Int.emod_nonneg d (show (3 : Int) ≠ 0 by decide)
  have h2 := Int.emod_lt_of_pos d (show (0 : Int) < 3 by decide)
  have : d % 3 = 0 ∨ d % 3 = 1 ∨ d % 3 = 2 := by omega
  rcases this with e | e | e <;> rw [e] <;> decide

def noS (x : Str) : Bool := !decide (43 ∈ x.cps.toList) && !decide (32 ∈ x.cps.toList)
theorem noS_is {x : Str} (h : noS x = true) : 43 ∉ TL.tl x ∧ 32 ∉ TL.tl x := by
  unfold noS at h
  rw [Bool.and_eq_true, Bool.not_eq_true', Bool.not_eq_true'] at h
  exact ⟨of_decide_eq_false h.1, of_decide_eq_false h.2⟩
def goodM (u : Str) (r : Int) : Bool := decide (m__spelled (m__law_mixed u r) ⟨k__MODIFIERS⟩ = some u) && noS (m__law_mixed u r)
def goodK (u : Str) (r : Int) : Bool := decide (m__key_of (m__law_mixed u r) = some u) && noS (m__law_mixed u r)
theorem all_goodM : ∀ u ∈ k__MODIFIERS, ∀ r ∈ ([0, 1, 2] : List Int), goodM u r = true := by decide +kernel
theorem all_goodK : ∀ u ∈ k__KEY_NAMES ++ SIGNS.cps.toList.map (fun c => (⟨#[c]⟩ : Str)), ∀ r ∈ ([0, 1, 2] : List Int), goodK u r = true := by decide +kernel
theorem plainM : ∀ u ∈ k__MODIFIERS, m__spelled u ⟨k__MODIFIERS⟩ = some u ∧ noS u = true := by decide +kernel
theorem plainK : ∀ u ∈ k__KEY_NAMES ++ SIGNS.cps.toList.map (fun c => (⟨#[c]⟩ : Str)), m__key_of u = some u ∧ noS u = true := by decide +kernel
theorem goodM_is {u : Str} (h : u ∈ k__MODIFIERS) (d : Int) : m__spelled (m__law_mixed u d) ⟨k__MODIFIERS⟩ = some u ∧ 43 ∉ TL.tl (m__law_mixed u d) ∧ 32 ∉ TL.tl (m__law_mixed u d) := by
  rw [mixed_mod]
  have g := all_goodM u h _ (mod3 d)
  unfold goodM at g
  rw [Bool.and_eq_true] at g
  exact ⟨of_decide_eq_true g.1, noS_is g.2⟩
theorem goodK_is {u : Str} (h : u ∈ k__KEY_NAMES ++ SIGNS.cps.toList.map (fun c => (⟨#[c]⟩ : Str))) (d : Int) : m__key_of (m__law_mixed u d) = some u ∧ 43 ∉ TL.tl (m__law_mixed u d) ∧ 32 ∉ TL.tl (m__law_mixed u d) := by
  rw [mixed_mod]
  have g := all_goodK u h _ (mod3 d)
  unfold goodK at g
  rw [Bool.and_eq_true] at g
  exact ⟨of_decide_eq_true g.1, noS_is g.2⟩

theorem stroke_words (q : Int → Bool) : (List.map (fun i => getI k__MODIFIERS i) (List.filter q (rgs 0 4))).Nodup ∧ List.filter (fun m => memB m (List.map (fun i => getI k__MODIFIERS i) (List.filter q (rgs 0 4)))) k__MODIFIERS = List.map (fun i => getI k__MODIFIERS i) (List.filter q (rgs 0 4)) := by
  rw [show rgs 0 4 = ([0, 1, 2, 3] : List Int) by decide]
  simp only [List.filter_cons, List.filter_nil]
  cases q 0 <;> cases q 1 <;> cases q 2 <;> cases q 3 <;> decide +kernel
theorem words_mods (q : Int → Bool) : ∀ u ∈ List.map (fun i => getI k__MODIFIERS i) (List.filter q (rgs 0 4)), u ∈ k__MODIFIERS := mem_map_all fun i hi => by
  have hm := mem_rgs.mp (List.mem_filter.mp hi).1
  exact getI_mem (at_in hm.1 hm.2)
theorem stroke_key (d : List Int) : (m__law_stroke d).2 ∈ k__KEY_NAMES ++ SIGNS.cps.toList.map (fun c => (⟨#[c]⟩ : Str)) := by
  show cond _ (getI m__law_keys _) (getS SIGNS _) ∈ _
  rw [law_keys_eq]
  cases eqB (getI d 1 % 3) 0 with
  | true => exact List.mem_append_left _ (getI_mem (at_mod (by decide)))
  | false => exact List.mem_append_right _ (List.mem_map.mpr ⟨_, getI_mem (at_modS (by decide)), rfl⟩)
theorem rgs_last (n : Nat) : rgs 0 ((n + 1 : Nat) : Int) = rgs 0 (n : Int) ++ [(n : Int)] := by
  have h := rgs_snoc 0 n
  unfold rgs
  rw [Int.sub_zero, Int.sub_zero, Int.toNat_natCast, Int.toNat_natCast, h, Int.zero_add]
theorem getI_app {α : Type} [Inhabited α] {l m : List α} {k : Int} (h0 : 0 ≤ k) (h : k < (l.length : Int)) : getI (l ++ m) k = getI l k := by
  rw [getI_nat h0 (by rw [List.length_append]; omega), getI_nat h0 h, List.getD_eq_getElem?_getD, List.getD_eq_getElem?_getD, List.getElem?_append_left (by omega)]
theorem mixL_snoc (us : List Str) (x : Str) (d : Int) : mixL (us ++ [x]) d = mixL us d ++ [m__law_mixed x (d + us.length)] := by
  unfold mixL
  rw [List.length_append, List.length_singleton, rgs_last, List.map_append]
  congr 1
  · refine List.map_congr_left fun k hk => ?_
    rw [getI_app (mem_rgs.mp hk).1 (mem_rgs.mp hk).2]
  · show [m__law_mixed (getI (us ++ [x]) (us.length : Int)) _] = _
    rw [getI_nat (by omega) (by rw [List.length_append, List.length_singleton]; omega), Int.toNat_natCast, List.getD_eq_getElem?_getD, List.getElem?_append_right (Nat.le_refl _), Nat.sub_self]
    rfl
theorem map_getI {α : Type} [Inhabited α] (l : List α) : (rgs 0 (l.length : Int)).map (fun k => getI l k) = l := by
  refine List.ext_getElem? fun i => ?_
  unfold rgs
  rw [List.map_map, List.getElem?_map, Int.sub_zero, Int.toNat_natCast]
  by_cases h : i < l.length
  · rw [List.getElem?_range h]
    show some (getI l (0 + (i : Int))) = _
    rw [Int.zero_add, getI_nat (by omega) (by omega), Int.toNat_natCast, List.getD_eq_getElem?_getD, List.getElem?_eq_getElem h]
    rfl
  · rw [List.getElem?_eq_none (by rw [List.length_range]; omega), List.getElem?_eq_none (by omega)]
    rfl

theorem join_mem {c : Nat} {y : Str} : ∀ {l : List Str}, c ∈ TL.tl (Txt.join y l) → c ∈ TL.tl y ∨ ∃ p ∈ l, c ∈ TL.tl p
  | [], h => by
    rw [TL.join_eq] at h
    have e : TL.tl (Str.join y []) = [] := rfl
    rw [e] at h
    cases h
  | [x], h => by
    rw [join_one] at h
    exact .inr ⟨x, List.mem_cons_self, h⟩
  | x :: z :: r, h => by
    rw [join_cons2, TL.tl_append, TL.tl_append] at h
    rcases List.mem_append.mp h with q | q
    · rcases List.mem_append.mp q with q | q
      · exact .inr ⟨x, List.mem_cons_self, q⟩
      · exact .inl q
    · rcases join_mem q with q | ⟨p, hp, q⟩
      · exact .inl q
      · exact .inr ⟨p, .tail _ hp, q⟩
theorem plus_tl : TL.tl ("+" : Str) = [43] := by decide +kernel
theorem asc_ok {x : Str} (h : Asc x) : PyData.strOk x = true := by
  obtain ⟨⟨l⟩⟩ := x
  show (Array.mk l).all (fun c => decide (c < 0x110000)) = true
  rw [← Array.all_toList]
  exact List.all_eq_true.mpr fun c hc => decide_eq_true (Nat.lt_trans (h c hc) (by decide))
theorem canon_nil : m__canonical ("" : Str) = none := by decide +kernel
structure GoodS (p : Str) : Prop where
  c : m__canonical p = some p
  sp : 32 ∉ TL.tl p
  ne : p ≠ ("" : Str)
  len : p.length ≤ 60
  ok : PyData.strOk p = true
theorem canon_shown (d : List Int) : m__canonical (m__law_shown (m__law_stroke d)) = some (m__law_shown (m__law_stroke d)) := by
  obtain ⟨q, eq⟩ : ∃ q, (m__law_stroke d).1 = List.map (fun i => getI k__MODIFIERS i) (List.filter q (rgs 0 4)) := ⟨_, rfl⟩
  have hw := stroke_words q
  have hk := plainK _ (stroke_key d)
  show m__canonical (Txt.join ("+" : Str) ((m__law_stroke d).1 ++ [(m__law_stroke d).2])) = some (Txt.join ("+" : Str) ((m__law_stroke d).1 ++ [(m__law_stroke d).2]))
  rw [eq]
  refine canon_join (List.Perm.refl _) hw.1 hw.2 ?_ hk.1 (fun p hp => (noS_is (plainM p (words_mods q p hp)).2).1) (noS_is hk.2).1
  exact List.map_congr_left fun p hp => (plainM p (words_mods q p hp)).1
theorem good_shown {d : List Int} (h : 3 ≤ d.length) : GoodS (m__law_shown (m__law_stroke d)) := by
  have hs := stroke_small h
  obtain ⟨q, eq⟩ : ∃ q, (m__law_stroke d).1 = List.map (fun i => getI k__MODIFIERS i) (List.filter q (rgs 0 4)) := ⟨_, rfl⟩
  have hp := parts_ok hs (List.Perm.refl _)
  refine ⟨canon_shown d, fun z => ?_, fun z => ?_, Nat.le_trans (join_short (n := 5) (m := 10) hp.2 (fun p q => (hp.1 p q).1) (by decide)) (by decide), asc_ok fun c z => ?_⟩
  · rcases join_mem z with y | ⟨p, hp, y⟩
    · rw [plus_tl] at y
      exact absurd y (by decide)
    · rcases List.mem_append.mp hp with a | a
      · rw [eq] at a
        exact (noS_is (plainM p (words_mods q p a)).2).2 y
      · rw [List.mem_singleton.mp a] at y
        exact (noS_is (plainK _ (stroke_key d)).2).2 y
  · have e := canon_shown d
    rw [z, canon_nil] at e
    cases e
  · rcases join_mem z with y | ⟨p, hq, y⟩
    · rw [plus_tl] at y
      rw [List.mem_singleton.mp y]
      decide
    · exact (hp.1 p hq).2 c y
theorem canon_loose (a d : List Int) (h : NN a) (h6 : 6 ≤ a.length) : m__canonical (m__law_loose a (m__law_stroke d)) = some (m__law_shown (m__law_stroke d)) ∧ 32 ∉ TL.tl (m__law_loose a (m__law_stroke d)) := by
  obtain ⟨us, hp, e⟩ := loose_is a (m__law_stroke d) h h6
  rw [e, mixL_snoc]
  obtain ⟨q, eq⟩ : ∃ q, (m__law_stroke d).1 = List.map (fun i => getI k__MODIFIERS i) (List.filter q (rgs 0 4)) := ⟨_, rfl⟩
  have hw := stroke_words q
  have hk := goodK_is (stroke_key d) (getI a 5 + us.length)
  show _ = some (Txt.join ("+" : Str) ((m__law_stroke d).1 ++ [(m__law_stroke d).2])) ∧ _
  rw [eq] at hp ⊢
  have hm : ∀ u ∈ us, u ∈ k__MODIFIERS := fun u hu => words_mods q u (hp.mem_iff.mp hu)
  have hg : ∀ k ∈ rgs 0 (us.length : Int), getI us k ∈ k__MODIFIERS := fun k hk => hm _ (getI_mem (at_in (mem_rgs.mp hk).1 (mem_rgs.mp hk).2))
  have hx : ∀ p ∈ mixL us (getI a 5), 43 ∉ TL.tl p ∧ 32 ∉ TL.tl p := mem_map_all fun k hk => (goodM_is (hg k hk) _).2
  refine ⟨canon_join hp hw.1 hw.2 ?_ hk.1 (fun p hp => (hx p hp).1) hk.2.1, fun z => ?_⟩
  · unfold mixL
    rw [List.map_map]
    conv => rhs; rw [← map_getI us, List.map_map]
    exact List.map_congr_left fun k hk => (goodM_is (hg k hk) _).1
  · rcases join_mem z with y | ⟨p, hp, y⟩
    · rw [plus_tl] at y
      exact absurd y (by decide)
    · rcases List.mem_append.mp hp with b | b
      · exact (hx p b).2 y
      · rw [List.mem_singleton.mp b] at y
        exact hk.2.2 y
theorem loose_ne {a d : List Int} (h : NN a) (h6 : 6 ≤ a.length) : m__law_loose a (m__law_stroke d) ≠ ("" : Str) := fun z => by
  have e := (canon_loose a d h h6).1
  rw [z, canon_nil] at e
  cases e

def m_law_1 (d_50 : (List Str)) (d_54 : Str) : ((List Str) × Str) := (d_50, d_54)
def m_law_2 (d_50 : (List Str)) (d_27 : Str) (d_16 : Int) (d_33 : (List Int)) (d_39 : ((List Str) × Str)) : ((List Str) × Str) := (m_law_1 d_50 ((d_27 ++ (cond (decide ((0 : Int) < d_16)) (mulS (" " : Str) ((1 : Int) + ((getI d_33 (6 : Int)) % (3 : Int)))) ("" : Str))) ++ (m__law_loose d_33 d_39)))
def m_law_3 (d_24 : (List Str)) (d_27 : Str) (d_16 : Int) (d_33 : (List Int)) (d_39 : ((List Str) × Str)) : ((List Str) × Str) := (m_law_2 (d_24 ++ [(m__law_shown d_39)]) d_27 d_16 d_33 d_39)
def m_law_4 (d_24 : (List Str)) (d_27 : Str) (d_16 : Int) (d_33 : (List Int)) : ((List Str) × Str) := (m_law_3 d_24 d_27 d_16 d_33 (m__law_stroke d_33))
def m_law_5 (d_script : Scr) (d_24 : (List Str)) (d_27 : Str) (d_16 : Int) : ((List Str) × Str) := (m_law_4 d_24 d_27 d_16 (m__law_draws (m__law_cell d_script ((1 : Int) + d_16)) (9 : Int)))
def m_law_6 (d_script : Scr) (s : (List Str) × Str) (d_16 : Int) : ((List Str) × Str) := m_law_5 d_script (s).1 (s).2 (d_16)
def m_law_7 (d_79 : Str) : Bool := ((eqB (getR (m__law_told d_79)) ("invalid key sequence" : Str)) && (eqB (m_shown (Tpl.mk ([] : List Str))) ("" : Str)))
def m_law_8 (d_129 : (Tpl Str)) (d_132 : (Tpl Str)) : (Step (Unit) Bool) := (cond ((!eqB (m_is_prefix d_129 d_132) false) || (!eqB (m_is_prefix d_132 d_129) false)) (Step.ret false) (Step.go ()))
def m_law_9  (s : Unit) (d_119 : ((Tpl Str) × (Tpl Str))) : (Step (Unit) Bool) := m_law_8 (d_119.1) (d_119.2)
def m_law_10 (d_93 : (Tpl Str)) (d_149 : (Tpl Str)) (d_164 : Bool) : Bool := (true && (eqB (m_is_prefix d_93 d_149) d_164))
def m_law_11 (d_93 : (Tpl Str)) (d_149 : (Tpl Str)) : Bool := (m_law_10 d_93 d_149 (eqB (((List.map (fun d_155 => d_155) (List.filter (fun d_155 => ((decide (d_155 < ((d_149).l.length : Int))) && (eqB (getI (d_149).l d_155) (getI (d_93).l d_155)))) (rgs 0 ((d_93).l.length : Int))))).length : Int) ((d_93).l.length : Int)))
def m_law_12 (d_93 : (Tpl Str)) (d_113 : Int) : Bool := (m_law_11 d_93 (Tpl.mk (cutL ((Tpl.mk (((Tpl.mk (cutL (d_93).l none (some d_113)))).l ++ ((Tpl.mk (("Tab" : Str) :: ([] : List Str)))).l))).l none (some (3 : Int)))))
def m_law_13 (d_93 : (Tpl Str)) (d_113 : Int) (s : Unit) : Bool := (cond ((!eqB (m_is_prefix (Tpl.mk (cutL (d_93).l none (some d_113))) d_93) true) || (!eqB (m_is_prefix d_93 d_93) true)) false (m_law_12 d_93 d_113))
def m_law_14 (d_93 : (Tpl Str)) (d_113 : Int) : Bool := (exitF (runL m_law_9 () (((Tpl.mk (("F1" : Str) :: ([] : List Str))), (Tpl.mk (("F12" : Str) :: ([] : List Str)))) :: (((Tpl.mk (("S" : Str) :: ([] : List Str))), (Tpl.mk (("Space" : Str) :: ([] : List Str)))) :: (((Tpl.mk (("Ctrl+P" : Str) :: ([] : List Str))), (Tpl.mk (("Ctrl+PageUp" : Str) :: ([] : List Str)))) :: (((Tpl.mk (("A" : Str) :: (("F1" : Str) :: ([] : List Str)))), (Tpl.mk (("A" : Str) :: (("F12" : Str) :: ([] : List Str))))) :: ([] : List ((Tpl Str) × (Tpl Str)))))))) (m_law_13 d_93 d_113))
def m_law_15 (d_1 : (List Int)) (d_24 : (List Str)) (d_93 : (Tpl Str)) : Bool := (cond (!eqB ((getL (m__law_told (m_shown d_93)))).l (d_93).l) false (m_law_14 d_93 ((1 : Int) + ((getI d_1 (5 : Int)) % ((d_24).length : Int)))))
def m_law_16 (d_1 : (List Int)) (d_24 : (List Str)) (d_93 : (Tpl Str)) : Bool := (cond ((!eqB (d_93).l ((Tpl.mk d_24)).l) || ((!true) || (!eqB (m_shown d_93) (Txt.join (" " : Str) d_24)))) false (m_law_15 d_1 d_24 d_93))
def m_law_17 (d_1 : (List Int)) (d_24 : (List Str)) (d_79 : Str) (d_63 : Bool) : Bool := (cond (d_63 || (!(decide ((1 : Int) ≤ ((d_24).length : Int)) && decide (((d_24).length : Int) ≤ (3 : Int))))) (m_law_7 d_79) (m_law_16 d_1 d_24 (getL (m__law_told d_79))))
def m_law_18 (d_1 : (List Int)) (d_24 : (List Str)) (d_73 : Str) (d_63 : Bool) : Bool := (m_law_17 d_1 d_24 (d_73 ++ (mulS (" " : Str) ((getI d_1 (4 : Int)) % (3 : Int)))) d_63)
def m_law_19 (d_1 : (List Int)) (d_24 : (List Str)) (d_27 : Str) (d_63 : Bool) : Bool := (m_law_18 d_1 d_24 (d_27 ++ (getI ((" x+y" : Str) :: ((" ctrl" : Str) :: (("  F0" : Str) :: (("+" : Str) :: ((" ++" : Str) :: ([] : List Str)))))) ((getI d_1 (3 : Int)) % (5 : Int)))) d_63)
def m_law_20 (d_174 : Str) : Bool := ((eqB (getR (m__law_told d_174)) ("invalid key sequence" : Str)) && (eqB (m_shown (Tpl.mk ([] : List Str))) ("" : Str)))
def m_law_21 (d_224 : (Tpl Str)) (d_227 : (Tpl Str)) : (Step (Unit) Bool) := (cond ((!eqB (m_is_prefix d_224 d_227) false) || (!eqB (m_is_prefix d_227 d_224) false)) (Step.ret false) (Step.go ()))
def m_law_22  (s : Unit) (d_214 : ((Tpl Str) × (Tpl Str))) : (Step (Unit) Bool) := m_law_21 (d_214.1) (d_214.2)
def m_law_23 (d_188 : (Tpl Str)) (d_244 : (Tpl Str)) (d_259 : Bool) : Bool := (true && (eqB (m_is_prefix d_188 d_244) d_259))
def m_law_24 (d_188 : (Tpl Str)) (d_244 : (Tpl Str)) : Bool := (m_law_23 d_188 d_244 (eqB (((List.map (fun d_250 => d_250) (List.filter (fun d_250 => ((decide (d_250 < ((d_244).l.length : Int))) && (eqB (getI (d_244).l d_250) (getI (d_188).l d_250)))) (rgs 0 ((d_188).l.length : Int))))).length : Int) ((d_188).l.length : Int)))
def m_law_25 (d_188 : (Tpl Str)) (d_208 : Int) : Bool := (m_law_24 d_188 (Tpl.mk (cutL ((Tpl.mk (((Tpl.mk (cutL (d_188).l none (some d_208)))).l ++ ((Tpl.mk (("Tab" : Str) :: ([] : List Str)))).l))).l none (some (3 : Int)))))
def m_law_26 (d_188 : (Tpl Str)) (d_208 : Int) (s : Unit) : Bool := (cond ((!eqB (m_is_prefix (Tpl.mk (cutL (d_188).l none (some d_208))) d_188) true) || (!eqB (m_is_prefix d_188 d_188) true)) false (m_law_25 d_188 d_208))
def m_law_27 (d_188 : (Tpl Str)) (d_208 : Int) : Bool := (exitF (runL m_law_22 () (((Tpl.mk (("F1" : Str) :: ([] : List Str))), (Tpl.mk (("F12" : Str) :: ([] : List Str)))) :: (((Tpl.mk (("S" : Str) :: ([] : List Str))), (Tpl.mk (("Space" : Str) :: ([] : List Str)))) :: (((Tpl.mk (("Ctrl+P" : Str) :: ([] : List Str))), (Tpl.mk (("Ctrl+PageUp" : Str) :: ([] : List Str)))) :: (((Tpl.mk (("A" : Str) :: (("F1" : Str) :: ([] : List Str)))), (Tpl.mk (("A" : Str) :: (("F12" : Str) :: ([] : List Str))))) :: ([] : List ((Tpl Str) × (Tpl Str)))))))) (m_law_26 d_188 d_208))
def m_law_28 (d_1 : (List Int)) (d_24 : (List Str)) (d_188 : (Tpl Str)) : Bool := (cond (!eqB ((getL (m__law_told (m_shown d_188)))).l (d_188).l) false (m_law_27 d_188 ((1 : Int) + ((getI d_1 (5 : Int)) % ((d_24).length : Int)))))
def m_law_29 (d_1 : (List Int)) (d_24 : (List Str)) (d_188 : (Tpl Str)) : Bool := (cond ((!eqB (d_188).l ((Tpl.mk d_24)).l) || ((!true) || (!eqB (m_shown d_188) (Txt.join (" " : Str) d_24)))) false (m_law_28 d_1 d_24 d_188))
def m_law_30 (d_1 : (List Int)) (d_24 : (List Str)) (d_174 : Str) (d_63 : Bool) : Bool := (cond (d_63 || (!(decide ((1 : Int) ≤ ((d_24).length : Int)) && decide (((d_24).length : Int) ≤ (3 : Int))))) (m_law_20 d_174) (m_law_29 d_1 d_24 (getL (m__law_told d_174))))
def m_law_31 (d_1 : (List Int)) (d_24 : (List Str)) (d_27 : Str) (d_63 : Bool) : Bool := (m_law_30 d_1 d_24 (d_27 ++ (mulS (" " : Str) ((getI d_1 (4 : Int)) % (3 : Int)))) d_63)
def m_law_32 (d_1 : (List Int)) (d_24 : (List Str)) (d_27 : Str) (d_63 : Bool) : Bool := (cond d_63 (m_law_19 d_1 d_24 d_27 d_63) (m_law_31 d_1 d_24 d_27 d_63))
def m_law_33 (d_1 : (List Int)) (s : (List Str) × Str) : Bool := (m_law_32 d_1 (s).1 (s).2 (eqB ((getI d_1 (2 : Int)) % (4 : Int)) (0 : Int)))
def m_law_34 (d_script : Scr) (d_1 : (List Int)) (d_7 : (List Str)) (d_10 : Str) : Bool := (m_law_33 d_1 (List.foldl (m_law_6 d_script) (d_7, d_10) (rgs 0 ((getI d_1 (1 : Int)) % (6 : Int)))))
def m_law_35 (d_script : Scr) (d_1 : (List Int)) (d_7 : (List Str)) : Bool := (m_law_34 d_script d_1 d_7 (mulS (" " : Str) ((getI d_1 (0 : Int)) % (3 : Int))))
def m_law_36 (d_script : Scr) (d_1 : (List Int)) : Bool := (m_law_35 d_script d_1 ([] : List Str))
def m_law (d_script : Scr) : Bool := (m_law_36 d_script (m__law_draws (m__law_cell d_script (0 : Int)) (12 : Int)))
abbrev p_law (K : PySem.W.Frag) : Sp := sp1 K (fun s => s.l.length ≤ 63) m_law
theorem sp_len (n : Int) : (mulS (" " : Str) n).length = n.toNat := by rw [mulS_len, show (" " : Str).length = 1 by decide, Nat.one_mul]
/-- what has been written after i strokes -/
structure InvS (i : Nat) (s : List Str × Str) : Prop where
  len : s.1.length = i
  pt : ∃ L l, Pt s.2 L l ∧ (wds (L ++ [l])).map m__canonical = s.1.map some ∧ (i = 0 → l = ("" : Str))
  good : ∀ p ∈ s.1, GoodS p
  sz : s.2.length ≤ 2 + i * 58
theorem inv_start {d : Int} : InvS 0 ([], mulS (" " : Str) (d % 3)) := by
  have h0 : 0 ≤ d % 3 := Int.emod_nonneg _ (by decide)
  have h1 : d % 3 < 3 := Int.emod_lt_of_pos _ (by decide)
  refine ⟨rfl, ?_, (fun _ h => by cases h), ?_⟩
  · obtain ⟨L, l, h1, h2, h3, _⟩ := pt_nil.spI h0
    rw [s_nil0] at h1
    refine ⟨L, l, h1, ?_, fun _ => h3 (.inr rfl)⟩
    rw [h2]
    rfl
  · show (mulS (" " : Str) (d % 3)).length ≤ 2 + 0 * 58
    rw [sp_len]
    omega
theorem inv_step {sc : Scr} {i : Nat} {s : List Str × Str} (h : InvS i s) {k : Int} (hk : k = (i : Int)) : InvS (i + 1) (m_law_6 sc s k) := by
  have hl : (m__law_draws (m__law_cell sc (1 + k)) 9).length = 9 := draws_len _ (by decide)
  have hn := draws_pos (m__law_cell sc (1 + k)) 9
  show InvS (i + 1) (m_law_4 s.1 s.2 k (m__law_draws (m__law_cell sc (1 + k)) 9))
  generalize m__law_draws (m__law_cell sc (1 + k)) 9 = a at hl hn
  show InvS (i + 1) (s.1 ++ [m__law_shown (m__law_stroke a)], (s.2 ++ cond (decide ((0 : Int) < k)) (mulS (" " : Str) (1 + getI a 6 % 3)) ("" : Str)) ++ m__law_loose a (m__law_stroke a))
  have h0 : 0 ≤ getI a 6 % 3 := Int.emod_nonneg _ (by decide)
  have h3 : getI a 6 % 3 < 3 := Int.emod_lt_of_pos _ (by decide)
  have h6 : 6 ≤ a.length := by rw [hl]; decide
  have hs := stroke_small (d := a) (by rw [hl]; decide)
  obtain ⟨hc, hsp⟩ := canon_loose a a hn h6
  have hne := loose_ne (d := a) hn h6
  have hz := loose_pre (d := a) ⟨hl, hn⟩ hs
  refine ⟨by rw [List.length_append, h.len]; rfl, ?_, fun p hp => ?_, ?_⟩
  · obtain ⟨L, l, p1, p2, p3⟩ := h.pt
    have : ∃ L', Pt (s.2 ++ cond (decide ((0 : Int) < k)) (mulS (" " : Str) (1 + getI a 6 % 3)) ("" : Str)) L' ("" : Str) ∧ wds (L' ++ [("" : Str)]) = wds (L ++ [l]) := by
      cases q : decide ((0 : Int) < k) with
      | true =>
        obtain ⟨L', l', q1, q2, q3, _⟩ := p1.spI (n := 1 + getI a 6 % 3) (by omega)
        have e := q3 (.inl (by omega))
        subst e
        exact ⟨L', q1, q2⟩
      | false =>
        have e := p3 (by have := of_decide_eq_false q; omega)
        subst e
        exact ⟨L, by show Pt (s.2 ++ ("" : Str)) L ("" : Str); rw [s_nil]; exact p1, rfl⟩
    obtain ⟨L', q1, q2⟩ := this
    have q3 := q1.word hsp
    rw [s_nil0] at q3
    refine ⟨L', _, q3, ?_, fun z => by omega⟩
    rw [wds_snoc _ _ hne, List.map_append, List.map_append, ← wds_nil, q2, p2]
    show _ ++ [m__canonical _] = _
    rw [hc]
    rfl
  · rcases List.mem_append.mp hp with q | q
    · exact h.good p q
    · rw [List.mem_singleton.mp q]
      exact good_shown (by rw [hl]; decide)
  · have e := h.sz
    show ((s.2 ++ cond (decide ((0 : Int) < k)) (mulS (" " : Str) (1 + getI a 6 % 3)) ("" : Str)) ++ m__law_loose a (m__law_stroke a)).length ≤ _
    rw [len_app, len_app]
    have e2 : (cond (decide ((0 : Int) < k)) (mulS (" " : Str) (1 + getI a 6 % 3)) ("" : Str)).length ≤ 3 := by
      cases decide ((0 : Int) < k) with
      | true =>
        show (mulS (" " : Str) (1 + getI a 6 % 3)).length ≤ 3
        rw [sp_len]
        omega
      | false => show 0 ≤ 3; decide
    omega
theorem inv_fold (sc : Scr) (d : Int) : ∀ n : Nat, InvS n (List.foldl (m_law_6 sc) ([], mulS (" " : Str) (d % 3)) (rgs 0 (n : Int)))
  | 0 => inv_start
  | n + 1 => by
    rw [rgs_last, List.foldl_append]
    exact inv_step (inv_fold sc d n) rfl
theorem take_rgs {i : Nat} {m : Int} (h : (i : Int) ≤ m) : List.take i (rgs 0 m) = rgs 0 (i : Int) := by
  unfold rgs
  rw [← List.map_take, List.take_range, Int.sub_zero, Int.sub_zero, Int.toNat_natCast, Nat.min_eq_left (by omega)]
theorem inv_pre {sc : Scr} {d1 : List Int} {d7 : List Str} {d10 : Str} (e7 : [] = d7) (e10 : mulS (" " : Str) (getI d1 0 % 3) = d10) {i : Nat} (h : (i : Int) < getI d1 1 % 6) : InvS i (List.foldl (m_law_6 sc) (d7, d10) (List.take i (rgs 0 (getI d1 1 % 6)))) := by
  subst e7 e10
  rw [take_rgs (by omega)]
  exact inv_fold sc _ i
theorem inv_end {sc : Scr} {d1 : List Int} {d7 d24 : List Str} {d10 d27 : Str} (e : List.foldl (m_law_6 sc) (d7, d10) (rgs 0 (getI d1 1 % 6)) = (d24, d27)) (e7 : [] = d7) (e10 : mulS (" " : Str) (getI d1 0 % 3) = d10) : ∃ n, n ≤ 5 ∧ InvS n (d24, d27) := by
  subst e7 e10
  have h0 : 0 ≤ getI d1 1 % 6 := Int.emod_nonneg _ (by decide)
  have h1 : getI d1 1 % 6 < 6 := Int.emod_lt_of_pos _ (by decide)
  refine ⟨(getI d1 1 % 6).toNat, by omega, ?_⟩
  rw [← e]
  have h := inv_fold sc (getI d1 0) (getI d1 1 % 6).toNat
  rw [Int.toNat_of_nonneg h0] at h
  exact h
/-! the whole text -/
def BAD : Str := ("invalid key sequence" : Str)
def ODD2 : List Str := [" x+y", " ctrl", "  F0", "+", " ++"]
theorem seq_is (t : Str) : m_key_sequence t = m_key_sequence_1 ((wds (Txt.split t (" " : Str))).map m__canonical) := rfl
theorem seq_none_bad {t w : Str} (h : w ∈ Txt.split t (" " : Str)) (hw : w ≠ ("" : Str)) (hc : m__canonical w = none) : m_key_sequence t = .error BAD := by
  rw [seq_is]
  have h1 : none ∈ (wds (Txt.split t (" " : Str))).map m__canonical := List.mem_map.mpr ⟨w, List.mem_filter.mpr ⟨h, by rw [show eqB w ("" : Str) = false from decide_eq_false hw]; rfl⟩, hc⟩
  unfold m_key_sequence_1
  rw [memB_in h1, Bool.or_true]
  rfl
theorem canon_plus (w : Str) (h : 43 ∉ TL.tl w ∨ True) : m__canonical (w ++ ("+" : Str)) = none := by
  have hs : ∃ L, Txt.split (w ++ ("+" : Str)) ("+" : Str) = L ++ [("" : Str)] := by
    have hj := StrLaws.join_split w ("+" : Str)
    rw [← TL.join_eq] at hj
    have hne := split_ne (x := w) (y := ("+" : Str)) (by decide)
    have hd := List.dropLast_concat_getLast hne
    refine ⟨Txt.split w ("+" : Str), ?_⟩
    have e : w ++ ("+" : Str) = Txt.join ("+" : Str) (Txt.split w ("+" : Str) ++ [("" : Str)]) := by
      conv => rhs; rw [← hd, join_snoc, hd, hj, s_nil]
    rw [e]
    refine TL.split_join plus_tl (by decide +kernel) (by simp) fun p hp => ?_
    rcases List.mem_append.mp hp with q | q
    · rw [show (("+" : Str)) = ⟨#[43]⟩ by decide +kernel] at q
      exact StrLaws.split_free w 43 p q
    · rw [List.mem_singleton.mp q]
      decide +kernel
  obtain ⟨L, e⟩ := hs
  rw [canon_is, e, get_last (by simp), List.getLast_concat]
  unfold canonL
  rw [show m__key_of ("" : Str) = none by decide +kernel]
  rfl
theorem bad_all {n : Nat} {d24 : List Str} {d27 d73 d79 : Str} {a b : Int} (h : InvS n (d24, d27)) (hn : n ≤ 5) (e1 : d27 ++ getI [(" x+y" : Str), " ctrl", "  F0", "+", " ++"] (a % 5) = d73) (e2 : d73 ++ mulS (" " : Str) (b % 3) = d79) : PreT d79 ∧ m_key_sequence d79 = .error BAD := by
  subst e1 e2
  have hb0 : 0 ≤ b % 3 := Int.emod_nonneg _ (by decide)
  have hb1 : b % 3 < 3 := Int.emod_lt_of_pos _ (by decide)
  have hm : getI ODD2 (a % 5) ∈ ODD2 := getI_mem (at_in (Int.emod_nonneg _ (by decide)) (Int.emod_lt_of_pos _ (by decide)))
  show PreT (d27 ++ getI ODD2 (a % 5) ++ mulS (" " : Str) (b % 3)) ∧ m_key_sequence (d27 ++ getI ODD2 (a % 5) ++ mulS (" " : Str) (b % 3)) = .error BAD
  generalize getI ODD2 (a % 5) = o at hm
  have hz : d27.length ≤ 2 + n * 58 := h.sz
  constructor
  · have : ∀ o ∈ ODD2, o.length ≤ 5 := by decide +kernel
    have := this o hm
    unfold PreT
    rw [len_app, len_app, sp_len]
    omega
  · obtain ⟨L, l, p1, _, _⟩ := h.pt
    have fin : ∀ (L' : List Str) (w : Str), Pt (d27 ++ o) L' w → w ≠ ("" : Str) → m__canonical w = none → m_key_sequence (d27 ++ o ++ mulS (" " : Str) (b % 3)) = .error BAD := fun L' w q hw hc => by
      obtain ⟨L2, l2, q1, _, _, q4⟩ := q.spI hb0
      refine seq_none_bad (w := w) ?_ hw hc
      rw [q1.split]
      exact q4 w (List.mem_append_right _ List.mem_cons_self)
    have step : ∀ v : Str, 32 ∉ TL.tl v → v ≠ ("" : Str) → m__canonical v = none → o = (" " : Str) ++ v → m_key_sequence (d27 ++ o ++ mulS (" " : Str) (b % 3)) = .error BAD := fun v h1 h2 h3 e => by
      refine fin (L ++ [l]) v ?_ h2 h3
      rw [e, ← s_assoc]
      have q := p1.sp.word h1
      rw [s_nil0] at q
      exact q
    unfold ODD2 at hm
    rcases List.mem_cons.mp hm with e | hm
    · exact step ("x+y" : Str) (by decide +kernel) (by decide +kernel) (by decide +kernel) (by rw [e]; decide +kernel)
    rcases List.mem_cons.mp hm with e | hm
    · exact step ("ctrl" : Str) (by decide +kernel) (by decide +kernel) (by decide +kernel) (by rw [e]; decide +kernel)
    rcases List.mem_cons.mp hm with e | hm
    · refine fin (L ++ [l] ++ [("" : Str)]) ("F0" : Str) ?_ (by decide +kernel) (by decide +kernel)
      rw [e, show ("  F0" : Str) = (" " : Str) ++ ((" " : Str) ++ ("F0" : Str)) by decide +kernel, ← s_assoc, ← s_assoc]
      have q := p1.sp.sp.word (w := ("F0" : Str)) (by decide +kernel)
      rw [s_nil0] at q
      exact q
    rcases List.mem_cons.mp hm with e | hm
    · refine fin L (l ++ ("+" : Str)) ?_ (fun z => ?_) (canon_plus l (.inr trivial))
      · rw [e]
        exact p1.word (by decide +kernel)
      · have z2 := congrArg Str.length z
        rw [len_app] at z2
        have e1 : ("+" : Str).length = 1 := by decide
        have e2 : ("" : Str).length = 0 := by decide
        omega
    rcases List.mem_cons.mp hm with e | hm
    · exact step ("++" : Str) (by decide +kernel) (by decide +kernel) (by decide +kernel) (by rw [e]; decide +kernel)
    cases hm
def okN (l : List Str) : Bool := decide ((1 : Int) ≤ (l.length : Int)) && decide ((l.length : Int) ≤ 3)
theorem seq_ok {l : List Str} : m_key_sequence_1 (l.map some) = cond (okN l) (.ok ⟨l⟩) (.error BAD) := by
  unfold m_key_sequence_1
  have g1 : memB (none : Option Str) (l.map some) = false := memB_no fun z => by
    obtain ⟨x, _, e⟩ := List.mem_map.mp z
    cases e
  have g2 : texts (l.map some) = l := by
    unfold texts
    rw [List.filterMap_map]
    exact List.filterMap_some
  rw [g1, g2, List.length_map, Bool.or_false]
  show cond (!okN l) _ _ = _
  cases okN l <;> rfl
theorem good_all {n : Nat} {d24 : List Str} {d27 d79 : Str} {b : Int} (h : InvS n (d24, d27)) (hn : n ≤ 5) (e2 : d27 ++ mulS (" " : Str) (b % 3) = d79) : PreT d79 ∧ m_key_sequence d79 = cond (okN d24) (.ok ⟨d24⟩) (.error BAD) := by
  subst e2
  have hb0 : 0 ≤ b % 3 := Int.emod_nonneg _ (by decide)
  have hb1 : b % 3 < 3 := Int.emod_lt_of_pos _ (by decide)
  have hz : d27.length ≤ 2 + n * 58 := h.sz
  constructor
  · unfold PreT
    rw [len_app, sp_len]
    omega
  · obtain ⟨L, l, p1, p2, _⟩ := h.pt
    obtain ⟨L2, l2, q1, q2, _⟩ := p1.spI hb0
    rw [seq_is, q1.split, q2, p2, seq_ok]
theorem told_of {t : Str} {l : List Str} (h : m_key_sequence t = .ok ⟨l⟩) : m__law_told t = .inl ⟨l⟩ := by unfold m__law_told; rw [h]
theorem told_bad {t : Str} (h : m_key_sequence t = .error BAD) : m__law_told t = .inr BAD := by unfold m__law_told; rw [h]
theorem pt_join : ∀ {l : List Str} {x : Str}, (∀ p ∈ l ++ [x], 32 ∉ TL.tl p) → Pt (Txt.join (" " : Str) (l ++ [x])) l x := fun h => ⟨rfl, h⟩
structure Fine (l : List Str) : Prop where
  n : okN l = true
  g : ∀ p ∈ l, GoodS p
theorem Fine.tok {l : List Str} (h : Fine l) : TOk l := fun p hp => (h.g p hp).ok
theorem Fine.len {l : List Str} (h : Fine l) : 1 ≤ l.length ∧ l.length ≤ 3 := by
  have q := h.n
  unfold okN at q
  rw [Bool.and_eq_true] at q
  have := of_decide_eq_true q.1
  have := of_decide_eq_true q.2
  omega
theorem Fine.shp {l : List Str} (h : Fine l) : ShP l := ⟨by have := h.len; omega, fun p hp => (h.g p hp).len⟩
theorem shown_pre2 {l : List Str} (h : Fine l) : PreT (m_shown ⟨l⟩) := Nat.le_trans (join_short (n := 5) (m := 60) h.shp.1 h.shp.2 (by decide)) (by decide)
theorem told_shown {l : List Str} (h : Fine l) : m__law_told (m_shown ⟨l⟩) = .inl ⟨l⟩ := by
  refine told_of ?_
  have hl := h.len
  have hne : l ≠ [] := fun z => by rw [z] at hl; exact absurd hl.1 (by decide)
  have hd := List.dropLast_concat_getLast hne
  show m_key_sequence (Txt.join (" " : Str) l) = _
  have hp : Pt (Txt.join (" " : Str) l) l.dropLast (l.getLast hne) := by
    have := pt_join (l := l.dropLast) (x := l.getLast hne) (by rw [hd]; exact fun p hp => (h.g p hp).sp)
    rw [hd] at this
    exact this
  rw [seq_is, hp.split, hd]
  have e : wds l = l := List.filter_eq_self.mpr fun p hp => by rw [show eqB p ("" : Str) = false from decide_eq_false (h.g p hp).ne]; rfl
  have e2 : l.map m__canonical = l.map some := List.map_congr_left fun p hp => (h.g p hp).c
  rw [e, e2, seq_ok, h.n]
  rfl
theorem told_eq {n : Nat} {d24 : List Str} {d27 d79 : Str} {b : Int} {w : Bool} {t : Tpl Str} (h : InvS n (d24, d27)) (hn : n ≤ 5) (e2 : d27 ++ mulS (" " : Str) (b % 3) = d79) (hb : (w || !okN d24) = false) (e : getL (m__law_told d79) = t) : t = ⟨d24⟩ ∧ Fine d24 := by
  have h1 := (good_all h hn e2).2
  have h2 : okN d24 = true := by
    have := (Bool.or_eq_false_iff.mp hb).2
    cases q : okN d24 with
    | true => rfl
    | false => rw [q] at this; cases this
  rw [h2] at h1
  rw [told_of h1] at e
  exact ⟨e.symm, h2, h.good⟩
theorem left_of {n : Nat} {d24 : List Str} {d27 d79 : Str} {b : Int} {w : Bool} (h : InvS n (d24, d27)) (hn : n ≤ 5) (e2 : d27 ++ mulS (" " : Str) (b % 3) = d79) (hb : (w || !okN d24) = false) : (m__law_told d79).isLeft = true := by
  have h1 := (good_all h hn e2).2
  have h2 : okN d24 = true := by
    have := (Bool.or_eq_false_iff.mp hb).2
    cases q : okN d24 with
    | true => rfl
    | false => rw [q] at this; cases this
  rw [h2] at h1
  rw [told_of h1]
  rfl
theorem right_of {n : Nat} {d24 : List Str} {d27 d79 : Str} {b : Int} {w : Bool} (h : InvS n (d24, d27)) (hn : n ≤ 5) (e2 : d27 ++ mulS (" " : Str) (b % 3) = d79) (hw : w = false) (hb : (w || !okN d24) = true) : (m__law_told d79).isRight = true := by
  have h1 := (good_all h hn e2).2
  have h2 : okN d24 = false := by
    rw [hw, Bool.false_or, Bool.not_eq_true'] at hb
    exact hb
  rw [h2] at h1
  rw [told_bad h1]
  rfl
theorem right_bad {t : Str} (h : m_key_sequence t = .error BAD) : (m__law_told t).isRight = true := by rw [told_bad h]; rfl
def PAIRS : List (Tpl Str × Tpl Str) := [(⟨["F1"]⟩, ⟨["F12"]⟩), (⟨["S"]⟩, ⟨["Space"]⟩), (⟨["Ctrl+P"]⟩, ⟨["Ctrl+PageUp"]⟩), (⟨["A", "F1"]⟩, ⟨["A", "F12"]⟩)]
theorem pairs_ok : ∀ p ∈ PAIRS, TOk p.1.l ∧ TOk p.2.l := by unfold TOk; decide +kernel
theorem tab_ok : TOk [("Tab" : Str)] := by unfold TOk; decide +kernel
theorem tok_app {l m : List Str} (h : TOk l) (k : TOk m) : TOk (l ++ m) := fun p hp => (List.mem_append.mp hp).elim (h p) (k p)
theorem tok_cut {l : List Str} (h : TOk l) {a b : Option Int} : TOk (cutL l a b) := fun p hp => h p (cut_mem hp)
theorem sp_side (n : Int) : 0 ≤ n % 3 ∧ n % 3 < 16777216 ∧ (" " : Str).length * (n % 3).toNat ≤ sizeLine := by
  have h0 : 0 ≤ n % 3 := Int.emod_nonneg _ (by decide)
  have h1 : n % 3 < 3 := Int.emod_lt_of_pos _ (by decide)
  rw [show (" " : Str).length = 1 by decide, Nat.one_mul]
  exact ⟨h0, by omega, le_line (by omega)⟩
theorem sp_side1 (n : Int) : 0 ≤ 1 + n % 3 ∧ 1 + n % 3 < 16777216 ∧ (" " : Str).length * (1 + n % 3).toNat ≤ sizeLine := by
  have h0 : 0 ≤ n % 3 := Int.emod_nonneg _ (by decide)
  have h1 : n % 3 < 3 := Int.emod_lt_of_pos _ (by decide)
  rw [show (" " : Str).length = 1 by decide, Nat.one_mul]
  exact ⟨by omega, by omega, le_line (by omega)⟩

theorem at_5 {α : Type} {a b c d e : α} {n : Int} : (atI [a, b, c, d, e] (n % 5)).isSome = true := at_in (Int.emod_nonneg _ (by decide)) (Int.emod_lt_of_pos n (by decide))
theorem cond3 {b : Bool} {n : Int} : (cond b (mulS (" " : Str) (1 + n % 3)) ("" : Str)).length ≤ 3 := by
  cases b with
  | true =>
    show (mulS (" " : Str) (1 + n % 3)).length ≤ 3
    have h1 : n % 3 < 3 := Int.emod_lt_of_pos _ (by decide)
    rw [sp_len]
    omega
  | false => show 0 ≤ 3; decide
theorem len_side1 {t : Str} {i : Nat} {b : Bool} {n : Int} (h : t.length ≤ 2 + i * 58) (hi : i ≤ 4) : t.length + (cond b (mulS (" " : Str) (1 + n % 3)) ("" : Str)).length ≤ sizeLine := by
  have := cond3 (b := b) (n := n)
  exact le_line (by omega)
theorem len_side2 {t w : Str} {i : Nat} {b : Bool} {n : Int} (h : t.length ≤ 2 + i * 58) (hi : i ≤ 4) (hw : w.length ≤ 55) : (t ++ (cond b (mulS (" " : Str) (1 + n % 3)) ("" : Str))).length + w.length ≤ sizeLine := by
  have := cond3 (b := b) (n := n)
  rw [len_app]
  exact le_line (by omega)
theorem odd2_len : ∀ o ∈ ODD2, o.length ≤ 5 := by decide +kernel
theorem odd2_at (a : Int) : (getI [(" x+y" : Str), " ctrl", "  F0", "+", " ++"] (a % 5)).length ≤ 5 := odd2_len _ (getI_mem at_5)
theorem len_side3 {n : Nat} {d24 : List Str} {d27 : Str} {a : Int} (h : InvS n (d24, d27)) (hn : n ≤ 5) : d27.length + (getI [(" x+y" : Str), " ctrl", "  F0", "+", " ++"] (a % 5)).length ≤ sizeLine := by
  have h1 : d27.length ≤ 2 + n * 58 := h.sz
  have := odd2_at a
  exact le_line (by omega)
theorem len_side4 {n : Nat} {d24 : List Str} {d27 : Str} {b : Int} (h : InvS n (d24, d27)) (hn : n ≤ 5) : d27.length + (mulS (" " : Str) (b % 3)).length ≤ sizeLine := by
  have h1 : d27.length ≤ 2 + n * 58 := h.sz
  have h3 : b % 3 < 3 := Int.emod_lt_of_pos _ (by decide)
  rw [sp_len]
  exact le_line (by omega)
theorem len_side5 {n : Nat} {d24 : List Str} {d27 d73 : Str} {a b : Int} (h : InvS n (d24, d27)) (hn : n ≤ 5) (e : d27 ++ getI [(" x+y" : Str), " ctrl", "  F0", "+", " ++"] (a % 5) = d73) : d73.length + (mulS (" " : Str) (b % 3)).length ≤ sizeLine := by
  subst e
  have h1 : d27.length ≤ 2 + n * 58 := h.sz
  have h3 : b % 3 < 3 := Int.emod_lt_of_pos _ (by decide)
  have := odd2_at a
  rw [sp_len, len_app]
  exact le_line (by omega)
theorem cut_side {l : List Str} {a b : Option Int} (h : Fine l) : (cutL l a b).length + [("Tab" : Str)].length ≤ sizeLine := by
  have := cut_le l a b
  have := h.len
  exact le_line (by simp only [List.length_cons, List.length_nil]; omega)
theorem cut_side2 {l : List Str} {t : Tpl Str} {a b : Option Int} (e : t = ⟨l⟩) (h : Fine l) : (Tpl.mk (cutL t.l a b)).l.length + (Tpl.mk (("Tab" : Str) :: ([] : List Str))).l.length ≤ sizeLine := by
  subst e
  exact cut_side h
theorem rng_side {l : List Str} (h : Fine l) : (l.length : Int) < 16777216 ∧ -16777216 < (l.length : Int) := by
  have := h.len
  omega
theorem len_side6 {l : List Str} (h : Fine l) : l.length < sizeLine := lt_line (by have := h.len; omega)

theorem ok_law (T : Tx K mg A) : FnOk P w K mg base CX0 7 A.f_law A.d_law ["script"] (p_law K) := by
  refine T.F_law.ok sc_law (fun vs He Q E h => ?_) (fun cdv A0 outer s He vs Q E hr h => ⟨_, (pss_cons (ps_set (i := 1) sc_law.nd rfl (Or.inl rfl) (pe_call (ok__law_draws T) (hr.mono (by decide)) rfl T.g__law_draws T.F__law_draws.kp T.b__law_draws .nil pass0 (pa_cons (pe_call (ok__law_cell T) (hr.mono (by decide)) rfl T.g__law_cell T.F__law_cell.kp T.b__law_cell .nil pass0 (pa_cons (pv 0) (pa_cons pe_int pa_nil))) (pa_cons pe_int pa_nil)))) (pss_cons (ps_set (i := 2) sc_law.nd rfl (Or.inl rfl) (pe_lst pa_nil)) (pss_cons (ps_set (i := 3) sc_law.nd rfl (Or.inl rfl) (pe_op op_repS pe_str (pe_op op_mod (pe_callTy call_int1 rfl T.n_int boot_int (pa_cons (pe_ix (ix_listK (K := K)) (pv 1) pe_int fun _ _ => rfl) pa_nil)) pe_int))) (pss_cons (ps_for PassesOwn.never rfl (pi_range1 rfl T.n_range (pa_cons (pe_op op_mod (pe_callTy call_int1 rfl T.n_int boot_int (pa_cons (pe_ix (ix_listK (K := K)) (pv 1) pe_int fun _ _ => rfl) pa_nil)) pe_int) pa_nil)) (pg_name (i := 4) sc_law.nd rfl (Or.inl rfl)) (pss_cons (ps_set (i := 12) sc_law.nd rfl (Or.inl rfl) (pe_call (ok__law_draws T) (hr.mono (by decide)) rfl T.g__law_draws T.F__law_draws.kp T.b__law_draws .nil pass0 (pa_cons (pe_call (ok__law_cell T) (hr.mono (by decide)) rfl T.g__law_cell T.F__law_cell.kp T.b__law_cell .nil pass0 (pa_cons (pv 0) (pa_cons (pe_op op_add pe_int (pv 4)) pa_nil))) (pa_cons pe_int pa_nil)))) (pss_cons (ps_set (i := 13) sc_law.nd rfl (Or.inl rfl) (pe_call (ok__law_stroke T) (hr.mono (by decide)) rfl T.g__law_stroke T.F__law_stroke.kp T.b__law_stroke .nil pass0 (pa_cons (pv 12) pa_nil))) (pss_cons (ps_expr (pe_bmK (K := K) PySem.F.plainAttrs_list PySem.F.slot_list_append PySem.F.type_list_append mt_append (pv 2) (pa_cons (pe_call (ok__law_shown T) (hr.mono (by decide)) rfl T.g__law_shown T.F__law_shown.kp T.b__law_shown .nil pass0 (pa_cons (pv 13) pa_nil)) pa_nil))) (pss_one (ps_set (i := 3) sc_law.nd rfl (Or.inl rfl) (pe_op op_add_str (pe_op op_add_str (pv 3) (pe_ifExp (pt_cmpR op_gt (pv 4) pe_int (nomark _)) (pe_op op_repS pe_str (pe_op op_add pe_int (pe_op op_mod (pe_callTy call_int1 rfl T.n_int boot_int (pa_cons (pe_ix (ix_listK (K := K)) (pv 12) pe_int fun _ _ => rfl) pa_nil)) pe_int))) pe_str)) (pe_call (ok__law_loose T) (hr.mono (by decide)) rfl T.g__law_loose T.F__law_loose.kp T.b__law_loose .nil pass0 (pa_cons (pv 12) (pa_cons (pv 13) pa_nil)))))))))) (pss_cons (ps_set (i := 5) sc_law.nd rfl (Or.inl rfl) (pe_cmpR op_eq (pe_op op_mod (pe_callTy call_int1 rfl T.n_int boot_int (pa_cons (pe_ix (ix_listK (K := K)) (pv 1) pe_int fun _ _ => rfl) pa_nil)) pe_int) pe_int (nomark _))) (pss_cons (ps_if (pt_val (pv 5)) (pss_one (ps_set (i := 3) sc_law.nd rfl (Or.inl rfl) (pe_op op_add_str (pv 3) (pe_ix (ix_listK (K := K)) (pe_lst (pa_cons pe_str (pa_cons pe_str (pa_cons pe_str (pa_cons pe_str (pa_cons pe_str pa_nil)))))) (pe_op op_mod (pe_callTy call_int1 rfl T.n_int boot_int (pa_cons (pe_ix (ix_listK (K := K)) (pv 1) pe_int fun _ _ => rfl) pa_nil)) pe_int) fun _ _ => rfl)))) pss_nil) (pss_cons (ps_set (i := 3) sc_law.nd rfl (Or.inl rfl) (pe_op op_add_str (pv 3) (pe_op op_repS pe_str (pe_op op_mod (pe_callTy call_int1 rfl T.n_int boot_int (pa_cons (pe_ix (ix_listK (K := K)) (pv 1) pe_int fun _ _ => rfl) pa_nil)) pe_int)))) (pss_cons (ps_if (PW.pt (pw_or (pt_val (pv 5)) (pw_or1 (pt_not (pt_chain op_le op_le pe_int (pe_callB (call_lenK (K := K)) rfl T.n_len boot_len (pa_cons (pv 2) pa_nil)) pe_int))))) (pss_one (ps_ret (pe_and (pe_cmpR op_eq (pe_call (ok__law_told T) (hr.mono (by decide)) rfl T.g__law_told T.F__law_told.kp T.b__law_told .nil pass0 (pa_cons (pv 3) pa_nil)) pe_str (nomark _)) (pe_one (pe_cmpR op_eq (pe_call (ok_shown T) (hr.mono (by decide)) rfl T.g_shown T.F_shown.kp T.b_shown .nil pass0 (pa_cons (pe_tup pa_nil) pa_nil)) pe_str (nomark _)))))) pss_nil) (pss_cons (ps_set (i := 6) sc_law.nd rfl (Or.inr rfl) (pe_call (ok__law_told T) (hr.mono (by decide)) rfl T.g__law_told T.F__law_told.kp T.b__law_told .nil pass0 (pa_cons (pv 3) pa_nil))) (pss_cons (ps_if (PW.pt (pw_or (pt_cmpR (op_neK (K := K) hr.units) (pv 6) (pe_callTy (call_tupleK (K := K)) rfl T.n_tuple boot_tuple (pa_cons (pv 2) pa_nil)) (nomark _)) (pw_or (pt_not (pt_val (pe_callB (call_isiK (K := K)) rfl T.n_isinstance boot_isinstance (pa_cons (pv 6) (pa_cons (pe_bltn (v := .ty "tuple") rfl T.n_tuple (by decide +kernel) rfl) pa_nil))))) (pw_or1 (pt_cmpR op_ne (pe_call (ok_shown T) (hr.mono (by decide)) rfl T.g_shown T.F_shown.kp T.b_shown .nil pass0 (pa_cons (pv 6) pa_nil)) (pe_joinK (K := K) pe_str (pv 2)) (nomark _)))))) (pss_one (ps_ret pe_bl)) pss_nil) (pss_cons (ps_if (pt_cmpR (op_neK (K := K) hr.units) (pe_call (ok__law_told T) (hr.mono (by decide)) rfl T.g__law_told T.F__law_told.kp T.b__law_told .nil pass0 (pa_cons (pe_call (ok_shown T) (hr.mono (by decide)) rfl T.g_shown T.F_shown.kp T.b_shown .nil pass0 (pa_cons (pv 6) pa_nil)) pa_nil)) (pv 6) (nomark _)) (pss_one (ps_ret pe_bl)) pss_nil) (pss_cons (ps_set (i := 7) sc_law.nd rfl (Or.inl rfl) (pe_op op_add pe_int (pe_op op_mod (pe_callTy call_int1 rfl T.n_int boot_int (pa_cons (pe_ix (ix_listK (K := K)) (pv 1) pe_int fun _ _ => rfl) pa_nil)) (pe_callB (call_lenK (K := K)) rfl T.n_len boot_len (pa_cons (pv 2) pa_nil))))) (pss_cons (ps_for PassesOwn.never rfl (pi_listK (K := K) (pe_lst (pa_cons (pe_tup (pa_cons (pe_tup (pa_cons pe_str pa_nil)) (pa_cons (pe_tup (pa_cons pe_str pa_nil)) pa_nil))) (pa_cons (pe_tup (pa_cons (pe_tup (pa_cons pe_str pa_nil)) (pa_cons (pe_tup (pa_cons pe_str pa_nil)) pa_nil))) (pa_cons (pe_tup (pa_cons (pe_tup (pa_cons pe_str pa_nil)) (pa_cons (pe_tup (pa_cons pe_str pa_nil)) pa_nil))) (pa_cons (pe_tup (pa_cons (pe_tup (pa_cons pe_str (pa_cons pe_str pa_nil))) (pa_cons (pe_tup (pa_cons pe_str (pa_cons pe_str pa_nil))) pa_nil))) pa_nil)))))) (pg_tup rfl (pgs_cons (pg_name (i := 8) sc_law.nd rfl (Or.inl rfl)) (pgs_cons (pg_name (i := 9) sc_law.nd rfl (Or.inl rfl)) pgs_nil))) (pss_one (ps_if (PW.pt (pw_or (pt_cmpR op_isnot_bl (pe_call (ok_is_prefix T) (hr.mono (by decide)) rfl T.g_is_prefix T.F_is_prefix.kp T.b_is_prefix .nil pass0 (pa_cons (pv 8) (pa_cons (pv 9) pa_nil))) pe_bl (nomark _)) (pw_or1 (pt_cmpR op_isnot_bl (pe_call (ok_is_prefix T) (hr.mono (by decide)) rfl T.g_is_prefix T.F_is_prefix.kp T.b_is_prefix .nil pass0 (pa_cons (pv 9) (pa_cons (pv 8) pa_nil))) pe_bl (nomark _))))) (pss_one (ps_ret pe_bl)) pss_nil))) (pss_cons (ps_if (PW.pt (pw_or (pt_cmpR op_isnot_bl (pe_call (ok_is_prefix T) (hr.mono (by decide)) rfl T.g_is_prefix T.F_is_prefix.kp T.b_is_prefix .nil pass0 (pa_cons (pe_slice (sl_tupK (K := K)) (pv 6) po_none (po_some (pv 7))) (pa_cons (pv 6) pa_nil))) pe_bl (nomark _)) (pw_or1 (pt_cmpR op_isnot_bl (pe_call (ok_is_prefix T) (hr.mono (by decide)) rfl T.g_is_prefix T.F_is_prefix.kp T.b_is_prefix .nil pass0 (pa_cons (pv 6) (pa_cons (pv 6) pa_nil))) pe_bl (nomark _))))) (pss_one (ps_ret pe_bl)) pss_nil) (pss_cons (ps_set (i := 10) sc_law.nd rfl (Or.inr rfl) (pe_slice (sl_tupK (K := K)) (pe_op (op_catTK (K := K)) (pe_slice (sl_tupK (K := K)) (pv 6) po_none (po_some (pv 7))) (pe_tup (pa_cons pe_str pa_nil))) po_none (po_some pe_int))) (pss_cons (ps_set (i := 11) sc_law.nd rfl (Or.inl rfl) (pe_cmpR op_eq (pe_callB (call_lenK (K := K)) rfl T.n_len boot_len (pa_cons (pe_lc (own := [("k", 4)]) (g := gName 4) rfl sc_law.nd (pi_range1 rfl T.n_range (pa_cons (pe_callB (call_lenK (K := K)) rfl T.n_len boot_len (pa_cons (pv 6) pa_nil)) pa_nil)) (blkOk_by (N := n_law) (sc := defScope s_law) (by decide +kernel)) (fun _ _ _ _ _ => pg_name (i := 4) sc_law.nd rfl (Or.inl rfl)) (fun _ _ _ _ _ => (pts_one (PW.pt (pw_and (pt_cmpR op_lt (pv 4) (pe_callB (call_lenK (K := K)) rfl T.n_len boot_len (pa_cons (pv 10) pa_nil)) (nomark _)) (pw_and1 (pt_cmpR op_eq (pe_ix (ix_tupK (K := K)) (pv 10) (pv 4) fun _ _ => rfl) (pe_ix (ix_tupK (K := K)) (pv 6) (pv 4) fun _ _ => rfl) (nomark _))))))) (fun _ _ _ _ _ => (pv 4))) pa_nil)) (pe_callB (call_lenK (K := K)) rfl T.n_len boot_len (pa_cons (pv 6) pa_nil)) (nomark _))) (pss_one (ps_ret (pe_and (pe_callB (call_isiK (K := K)) rfl T.n_isinstance boot_isinstance (pa_cons (pe_call (ok_is_prefix T) (hr.mono (by decide)) rfl T.g_is_prefix T.F_is_prefix.kp T.b_is_prefix .nil pass0 (pa_cons (pv 6) (pa_cons (pv 10) pa_nil))) (pa_cons (pe_bltn (v := .ty "bool") rfl T.n_bool (by decide +kernel) rfl) pa_nil))) (pe_one (pe_cmpR op_eq (pe_call (ok_is_prefix T) (hr.mono (by decide)) rfl T.g_is_prefix T.F_is_prefix.kp T.b_is_prefix .nil pass0 (pa_cons (pv 6) (pa_cons (pv 10) pa_nil))) (pv 11) (nomark _)))))))))))))))))))))), ?_⟩)
  · obtain ⟨d_script, w_script, G, rfl, eG, h_script, hpre, hQ⟩ := h
    rfl
  · obtain ⟨d_script, w_script, G, rfl, eG, h_script, hpre, hQ⟩ := h
    have gr : Grow G He G He := Grow.refl eG
    obtain ⟨Ge, eGe⟩ : ∃ z, z = G := ⟨G, rfl⟩
    have gr : Grow Ge He G He := by rw [eGe]; exact gr
    rw [← eGe] at hQ
    clear eGe
    have hM : m_law d_script = (m_law_36 d_script (m__law_draws (m__law_cell d_script (0 : Int)) (12 : Int))) := rfl
    refine q_asg (K := K) gr.s (ev_call2 (ev_call2 (ev_var rfl h_script) ev_int (by first | (first | exact absurd hb87 (by rw [hb70, Bool.true_or]; decide) | (rw [fto.1]; exact ⟨fto.2.tok, fto.2.tok⟩) | (rw [fto.1]; exact fto.2.shp) | exact shp_fits fto.2.shp | (rw [fto.1]; exact shown_pre2 fto.2) | (rw [fto.1, told_shown fto.2]; rfl) | (rw [fto.1, told_shown fto.2]; exact ⟨fto.2.tok, fto.2.tok⟩) | exact ⟨fp_1, fp_2⟩ | exact ⟨fp_2, fp_1⟩ | (rw [fto.1]; exact ⟨tok_cut fto.2.tok, fto.2.tok⟩) | (rw [fto.1]; exact ⟨fto.2.tok, fo⟩) | (rw [fto.1]; exact rng_side fto.2) | exact cut_side2 fto.1 fto.2 | exact at_in (by omega) (of_decide_eq_true (by assumption)) | (rw [fto.1]; exact len_side6 fto.2) | exact at_in (by decide) (by rw [fd]; decide) | exact sp_side _ | exact sp_side1 _ | exact ⟨by rw [fm.1]; decide, fm.2⟩ | exact fs | exact at_in (by decide) (by rw [fm.1]; decide) | exact lt_line (by omega) | (have := fto.2.len; omega) | exact ⟨by rw [fm.1]; decide, fm.2, fs⟩ | exact len_side1 fz fi | exact len_side2 fz fi (by rw [← ed_39]; exact loose_pre fm (stroke_small (by rw [fm.1]; decide))) | exact at_5 | exact len_side3 fin fn5 | exact len_side4 fin fn5 | exact len_side5 fin fn5 ed_73 | exact (bad_all fin fn5 ed_73 ed_79).1 | exact right_bad (bad_all fin fn5 ed_73 ed_79).2 | exact (good_all fin fn5 ed_174).1 | exact right_of fin fn5 ed_174 hb70 (by assumption) | exact left_of fin fn5 ed_174 (by assumption) | exact ⟨by show 0 ≤ 5; decide, fun _ h => by cases h⟩) | (first | omega | decide))) ev_int (by first | (first | exact absurd hb87 (by rw [hb70, Bool.true_or]; decide) | (rw [fto.1]; exact ⟨fto.2.tok, fto.2.tok⟩) | (rw [fto.1]; exact fto.2.shp) | exact shp_fits fto.2.shp | (rw [fto.1]; exact shown_pre2 fto.2) | (rw [fto.1, told_shown fto.2]; rfl) | (rw [fto.1, told_shown fto.2]; exact ⟨fto.2.tok, fto.2.tok⟩) | exact ⟨fp_1, fp_2⟩ | exact ⟨fp_2, fp_1⟩ | (rw [fto.1]; exact ⟨tok_cut fto.2.tok, fto.2.tok⟩) | (rw [fto.1]; exact ⟨fto.2.tok, fo⟩) | (rw [fto.1]; exact rng_side fto.2) | exact cut_side2 fto.1 fto.2 | exact at_in (by omega) (of_decide_eq_true (by assumption)) | (rw [fto.1]; exact len_side6 fto.2) | exact at_in (by decide) (by rw [fd]; decide) | exact sp_side _ | exact sp_side1 _ | exact ⟨by rw [fm.1]; decide, fm.2⟩ | exact fs | exact at_in (by decide) (by rw [fm.1]; decide) | exact lt_line (by omega) | (have := fto.2.len; omega) | exact ⟨by rw [fm.1]; decide, fm.2, fs⟩ | exact len_side1 fz fi | exact len_side2 fz fi (by rw [← ed_39]; exact loose_pre fm (stroke_small (by rw [fm.1]; decide))) | exact at_5 | exact len_side3 fin fn5 | exact len_side4 fin fn5 | exact len_side5 fin fn5 ed_73 | exact (bad_all fin fn5 ed_73 ed_79).1 | exact right_bad (bad_all fin fn5 ed_73 ed_79).2 | exact (good_all fin fn5 ed_174).1 | exact right_of fin fn5 ed_174 hb70 (by assumption) | exact left_of fin fn5 ed_174 (by assumption) | exact ⟨by show 0 ≤ 5; decide, fun _ h => by cases h⟩) | (first | omega | decide))) fun w_2 G5 H6 g4 (h_3 : rep K (m__law_draws (m__law_cell d_script (0 : Int)) (12 : Int)) w_2 G5) => ?_
    have h_script := up g4.g h_script
    have gr := gr.trans g4
    generalize ed_1 : (m__law_draws (m__law_cell d_script (0 : Int)) (12 : Int)) = d_1 at h_3 hM
    unfold m_law_36 at hM
    have fd : d_1.length = 12 := by rw [← ed_1]; exact draws_len _ (by decide)
    refine q_newF gr fun a9 H268 hF_9 hN_9 np9 hH_9 gr sm9 => ?_
    have h_8 := reps_nil (K := K) (α := Str) gr
    generalize ed_7 : ([] : List Str) = d_7 at h_8 hM
    unfold m_law_35 at hM
    refine q_asg (K := K) gr.s (ev_repS ev_str (ev_mod (ev_int1 (ev_ixL (ev_var rfl h_3) ev_int (atI_get (by first | (first | exact absurd hb87 (by rw [hb70, Bool.true_or]; decide) | (rw [fto.1]; exact ⟨fto.2.tok, fto.2.tok⟩) | (rw [fto.1]; exact fto.2.shp) | exact shp_fits fto.2.shp | (rw [fto.1]; exact shown_pre2 fto.2) | (rw [fto.1, told_shown fto.2]; rfl) | (rw [fto.1, told_shown fto.2]; exact ⟨fto.2.tok, fto.2.tok⟩) | exact ⟨fp_1, fp_2⟩ | exact ⟨fp_2, fp_1⟩ | (rw [fto.1]; exact ⟨tok_cut fto.2.tok, fto.2.tok⟩) | (rw [fto.1]; exact ⟨fto.2.tok, fo⟩) | (rw [fto.1]; exact rng_side fto.2) | exact cut_side2 fto.1 fto.2 | exact at_in (by omega) (of_decide_eq_true (by assumption)) | (rw [fto.1]; exact len_side6 fto.2) | exact at_in (by decide) (by rw [fd]; decide) | exact sp_side _ | exact sp_side1 _ | exact ⟨by rw [fm.1]; decide, fm.2⟩ | exact fs | exact at_in (by decide) (by rw [fm.1]; decide) | exact lt_line (by omega) | (have := fto.2.len; omega) | exact ⟨by rw [fm.1]; decide, fm.2, fs⟩ | exact len_side1 fz fi | exact len_side2 fz fi (by rw [← ed_39]; exact loose_pre fm (stroke_small (by rw [fm.1]; decide))) | exact at_5 | exact len_side3 fin fn5 | exact len_side4 fin fn5 | exact len_side5 fin fn5 ed_73 | exact (bad_all fin fn5 ed_73 ed_79).1 | exact right_bad (bad_all fin fn5 ed_73 ed_79).2 | exact (good_all fin fn5 ed_174).1 | exact right_of fin fn5 ed_174 hb70 (by assumption) | exact left_of fin fn5 ed_174 (by assumption) | exact ⟨by show 0 ≤ 5; decide, fun _ h => by cases h⟩) | (first | decide | (refine at_in ?_ ?_ <;> omega) | (refine at_neg ?_ ?_ <;> omega)))))) ev_int (by first | (first | exact absurd hb87 (by rw [hb70, Bool.true_or]; decide) | (rw [fto.1]; exact ⟨fto.2.tok, fto.2.tok⟩) | (rw [fto.1]; exact fto.2.shp) | exact shp_fits fto.2.shp | (rw [fto.1]; exact shown_pre2 fto.2) | (rw [fto.1, told_shown fto.2]; rfl) | (rw [fto.1, told_shown fto.2]; exact ⟨fto.2.tok, fto.2.tok⟩) | exact ⟨fp_1, fp_2⟩ | exact ⟨fp_2, fp_1⟩ | (rw [fto.1]; exact ⟨tok_cut fto.2.tok, fto.2.tok⟩) | (rw [fto.1]; exact ⟨fto.2.tok, fo⟩) | (rw [fto.1]; exact rng_side fto.2) | exact cut_side2 fto.1 fto.2 | exact at_in (by omega) (of_decide_eq_true (by assumption)) | (rw [fto.1]; exact len_side6 fto.2) | exact at_in (by decide) (by rw [fd]; decide) | exact sp_side _ | exact sp_side1 _ | exact ⟨by rw [fm.1]; decide, fm.2⟩ | exact fs | exact at_in (by decide) (by rw [fm.1]; decide) | exact lt_line (by omega) | (have := fto.2.len; omega) | exact ⟨by rw [fm.1]; decide, fm.2, fs⟩ | exact len_side1 fz fi | exact len_side2 fz fi (by rw [← ed_39]; exact loose_pre fm (stroke_small (by rw [fm.1]; decide))) | exact at_5 | exact len_side3 fin fn5 | exact len_side4 fin fn5 | exact len_side5 fin fn5 ed_73 | exact (bad_all fin fn5 ed_73 ed_79).1 | exact right_bad (bad_all fin fn5 ed_73 ed_79).2 | exact (good_all fin fn5 ed_174).1 | exact right_of fin fn5 ed_174 hb70 (by assumption) | exact left_of fin fn5 ed_174 (by assumption) | exact ⟨by show 0 ≤ 5; decide, fun _ h => by cases h⟩) | (first | omega | decide | (show _ ≤ sizeLine; decide) | (show _ < sizeLine; decide)))) (by first | (first | exact absurd hb87 (by rw [hb70, Bool.true_or]; decide) | (rw [fto.1]; exact ⟨fto.2.tok, fto.2.tok⟩) | (rw [fto.1]; exact fto.2.shp) | exact shp_fits fto.2.shp | (rw [fto.1]; exact shown_pre2 fto.2) | (rw [fto.1, told_shown fto.2]; rfl) | (rw [fto.1, told_shown fto.2]; exact ⟨fto.2.tok, fto.2.tok⟩) | exact ⟨fp_1, fp_2⟩ | exact ⟨fp_2, fp_1⟩ | (rw [fto.1]; exact ⟨tok_cut fto.2.tok, fto.2.tok⟩) | (rw [fto.1]; exact ⟨fto.2.tok, fo⟩) | (rw [fto.1]; exact rng_side fto.2) | exact cut_side2 fto.1 fto.2 | exact at_in (by omega) (of_decide_eq_true (by assumption)) | (rw [fto.1]; exact len_side6 fto.2) | exact at_in (by decide) (by rw [fd]; decide) | exact sp_side _ | exact sp_side1 _ | exact ⟨by rw [fm.1]; decide, fm.2⟩ | exact fs | exact at_in (by decide) (by rw [fm.1]; decide) | exact lt_line (by omega) | (have := fto.2.len; omega) | exact ⟨by rw [fm.1]; decide, fm.2, fs⟩ | exact len_side1 fz fi | exact len_side2 fz fi (by rw [← ed_39]; exact loose_pre fm (stroke_small (by rw [fm.1]; decide))) | exact at_5 | exact len_side3 fin fn5 | exact len_side4 fin fn5 | exact len_side5 fin fn5 ed_73 | exact (bad_all fin fn5 ed_73 ed_79).1 | exact right_bad (bad_all fin fn5 ed_73 ed_79).2 | exact (good_all fin fn5 ed_174).1 | exact right_of fin fn5 ed_174 hb70 (by assumption) | exact left_of fin fn5 ed_174 (by assumption) | exact ⟨by show 0 ≤ 5; decide, fun _ h => by cases h⟩) | (first | omega | decide | (show _ ≤ sizeLine; decide) | (show _ < sizeLine; decide)))) fun w_11 G14 H15 g13 (h_12 : rep K (mulS (" " : Str) ((getI d_1 (0 : Int)) % (3 : Int))) w_11 G14) => ?_
    have h_script := up g13.g h_script
    have h_3 := up g13.g h_3
    have hN_9 := g13.f _ _ hH_9 hN_9
    have hH_9 := g13.h _ _ hH_9
    have h_8 := Reps.up g13.g h_8
    have gr := gr.trans g13
    generalize ed_10 : (mulS (" " : Str) ((getI d_1 (0 : Int)) % (3 : Int))) = d_10 at h_12 hM
    unfold m_law_34 at hM
    refine q_forR1 (K := K) gr.s (ev_mod (ev_int1 (ev_ixL (ev_var rfl h_3) ev_int (atI_get (by first | (first | exact absurd hb87 (by rw [hb70, Bool.true_or]; decide) | (rw [fto.1]; exact ⟨fto.2.tok, fto.2.tok⟩) | (rw [fto.1]; exact fto.2.shp) | exact shp_fits fto.2.shp | (rw [fto.1]; exact shown_pre2 fto.2) | (rw [fto.1, told_shown fto.2]; rfl) | (rw [fto.1, told_shown fto.2]; exact ⟨fto.2.tok, fto.2.tok⟩) | exact ⟨fp_1, fp_2⟩ | exact ⟨fp_2, fp_1⟩ | (rw [fto.1]; exact ⟨tok_cut fto.2.tok, fto.2.tok⟩) | (rw [fto.1]; exact ⟨fto.2.tok, fo⟩) | (rw [fto.1]; exact rng_side fto.2) | exact cut_side2 fto.1 fto.2 | exact at_in (by omega) (of_decide_eq_true (by assumption)) | (rw [fto.1]; exact len_side6 fto.2) | exact at_in (by decide) (by rw [fd]; decide) | exact sp_side _ | exact sp_side1 _ | exact ⟨by rw [fm.1]; decide, fm.2⟩ | exact fs | exact at_in (by decide) (by rw [fm.1]; decide) | exact lt_line (by omega) | (have := fto.2.len; omega) | exact ⟨by rw [fm.1]; decide, fm.2, fs⟩ | exact len_side1 fz fi | exact len_side2 fz fi (by rw [← ed_39]; exact loose_pre fm (stroke_small (by rw [fm.1]; decide))) | exact at_5 | exact len_side3 fin fn5 | exact len_side4 fin fn5 | exact len_side5 fin fn5 ed_73 | exact (bad_all fin fn5 ed_73 ed_79).1 | exact right_bad (bad_all fin fn5 ed_73 ed_79).2 | exact (good_all fin fn5 ed_174).1 | exact right_of fin fn5 ed_174 hb70 (by assumption) | exact left_of fin fn5 ed_174 (by assumption) | exact ⟨by show 0 ≤ 5; decide, fun _ h => by cases h⟩) | (first | decide | (refine at_in ?_ ?_ <;> omega) | (refine at_neg ?_ ?_ <;> omega)))))) ev_int (by first | (first | exact absurd hb87 (by rw [hb70, Bool.true_or]; decide) | (rw [fto.1]; exact ⟨fto.2.tok, fto.2.tok⟩) | (rw [fto.1]; exact fto.2.shp) | exact shp_fits fto.2.shp | (rw [fto.1]; exact shown_pre2 fto.2) | (rw [fto.1, told_shown fto.2]; rfl) | (rw [fto.1, told_shown fto.2]; exact ⟨fto.2.tok, fto.2.tok⟩) | exact ⟨fp_1, fp_2⟩ | exact ⟨fp_2, fp_1⟩ | (rw [fto.1]; exact ⟨tok_cut fto.2.tok, fto.2.tok⟩) | (rw [fto.1]; exact ⟨fto.2.tok, fo⟩) | (rw [fto.1]; exact rng_side fto.2) | exact cut_side2 fto.1 fto.2 | exact at_in (by omega) (of_decide_eq_true (by assumption)) | (rw [fto.1]; exact len_side6 fto.2) | exact at_in (by decide) (by rw [fd]; decide) | exact sp_side _ | exact sp_side1 _ | exact ⟨by rw [fm.1]; decide, fm.2⟩ | exact fs | exact at_in (by decide) (by rw [fm.1]; decide) | exact lt_line (by omega) | (have := fto.2.len; omega) | exact ⟨by rw [fm.1]; decide, fm.2, fs⟩ | exact len_side1 fz fi | exact len_side2 fz fi (by rw [← ed_39]; exact loose_pre fm (stroke_small (by rw [fm.1]; decide))) | exact at_5 | exact len_side3 fin fn5 | exact len_side4 fin fn5 | exact len_side5 fin fn5 ed_73 | exact (bad_all fin fn5 ed_73 ed_79).1 | exact right_bad (bad_all fin fn5 ed_73 ed_79).2 | exact (good_all fin fn5 ed_174).1 | exact right_of fin fn5 ed_174 hb70 (by assumption) | exact left_of fin fn5 ed_174 (by assumption) | exact ⟨by show 0 ≤ 5; decide, fun _ h => by cases h⟩) | (first | omega | decide | (show _ ≤ sizeLine; decide) | (show _ < sizeLine; decide)))) (by first | (first | exact absurd hb87 (by rw [hb70, Bool.true_or]; decide) | (rw [fto.1]; exact ⟨fto.2.tok, fto.2.tok⟩) | (rw [fto.1]; exact fto.2.shp) | exact shp_fits fto.2.shp | (rw [fto.1]; exact shown_pre2 fto.2) | (rw [fto.1, told_shown fto.2]; rfl) | (rw [fto.1, told_shown fto.2]; exact ⟨fto.2.tok, fto.2.tok⟩) | exact ⟨fp_1, fp_2⟩ | exact ⟨fp_2, fp_1⟩ | (rw [fto.1]; exact ⟨tok_cut fto.2.tok, fto.2.tok⟩) | (rw [fto.1]; exact ⟨fto.2.tok, fo⟩) | (rw [fto.1]; exact rng_side fto.2) | exact cut_side2 fto.1 fto.2 | exact at_in (by omega) (of_decide_eq_true (by assumption)) | (rw [fto.1]; exact len_side6 fto.2) | exact at_in (by decide) (by rw [fd]; decide) | exact sp_side _ | exact sp_side1 _ | exact ⟨by rw [fm.1]; decide, fm.2⟩ | exact fs | exact at_in (by decide) (by rw [fm.1]; decide) | exact lt_line (by omega) | (have := fto.2.len; omega) | exact ⟨by rw [fm.1]; decide, fm.2, fs⟩ | exact len_side1 fz fi | exact len_side2 fz fi (by rw [← ed_39]; exact loose_pre fm (stroke_small (by rw [fm.1]; decide))) | exact at_5 | exact len_side3 fin fn5 | exact len_side4 fin fn5 | exact len_side5 fin fn5 ed_73 | exact (bad_all fin fn5 ed_73 ed_79).1 | exact right_bad (bad_all fin fn5 ed_73 ed_79).2 | exact (good_all fin fn5 ed_174).1 | exact right_of fin fn5 ed_174 hb70 (by assumption) | exact left_of fin fn5 ed_174 (by assumption) | exact ⟨by show 0 ≤ 5; decide, fun _ h => by cases h⟩) | (first | (constructor <;> omega) | (decide))) fun G19 H20 g22 => ?_
    have h_script := up g22.g h_script
    have h_3 := up g22.g h_3
    have hN_9 := g22.f _ _ hH_9 hN_9
    have hH_9 := g22.h _ _ hH_9
    have h_8 := Reps.up g22.g h_8
    have h_12 := up g22.g h_12
    have gr := gr.trans g22
    refine ⟨fun i_ σ_ H_ => ∃ (G267 : Hp) (w_28 : V) (o_30 : Option V) (o_31 : Option V) (o_32 : Option V), Grow Ge He G267 H_ ∧ Same G19 G267 ∧ σ_ = [some w_script, some w_2, some (V.ref a9), some w_28, o_32, none, none, none, none, none, none, none, o_30, o_31] ∧ (∃ zs, Reps K (((List.foldl (m_law_6 d_script) (d_7, d_10) (List.take i_ (rgs 0 ((getI d_1 (1 : Int)) % (6 : Int)))))).1 : (List Str)) zs G267 ∧ H_ a9 = some (.lst zs) ∧ G267 a9 = none) ∧ rep K (((List.foldl (m_law_6 d_script) (d_7, d_10) (List.take i_ (rgs 0 ((getI d_1 (1 : Int)) % (6 : Int)))))).2 : Str) w_28 G267, ⟨_, w_11, _, _, _, gr, Same.refl _, rfl, ⟨_, h_8, hH_9, hN_9⟩, h_12⟩, ?_, ?_⟩
    · rintro i_0 σ_0 H_0 hlt_0 ⟨G267, w_28, o_30, o_31, o_32, gr, sg0, rfl, ⟨zs_9, h_26, hH_9, hN_9⟩, h_29⟩
      obtain ⟨d_16, hx0_0, hx0, lo_0, hi_0⟩ := rgs_at0 hlt_0
      rw [hx0_0]
      have h_18 : rep K d_16 (V.int d_16) G267 := rfl
      generalize ew_17 : V.int d_16 = w_17 at h_18
      have h_script := up sg0 h_script
      have h_3 := up sg0 h_3
      have hMo0 := hM
      clear hM
      have hM : (List.foldl (m_law_6 d_script) (d_7, d_10) (List.take (i_0 + 1) (rgs 0 ((getI d_1 (1 : Int)) % (6 : Int))))) = (m_law_6 d_script) (List.foldl (m_law_6 d_script) (d_7, d_10) (List.take i_0 (rgs 0 ((getI d_1 (1 : Int)) % (6 : Int))))) d_16 := by rw [take_snoc hx0, List.foldl_append]; rfl
      have fl_0 := inv_pre (sc := d_script) ed_7 ed_10 hlt_0
      generalize (List.foldl (m_law_6 d_script) (d_7, d_10) (List.take i_0 (rgs 0 ((getI d_1 (1 : Int)) % (6 : Int))))) = st_0 at h_26 h_29 fl_0 hM
      obtain ⟨d_24, d_27⟩ := st_0
      dsimp only at h_26 h_29 fl_0
      conv at hM => rhs; unfold m_law_6; unfold m_law_5
      dsimp only at hM
      have fi : i_0 ≤ 4 := by have q1 : getI d_1 1 % 6 < 6 := Int.emod_lt_of_pos _ (by decide); omega
      have fz : d_27.length ≤ 2 + i_0 * 58 := fl_0.sz
      have fn : d_24.length = i_0 := fl_0.len
      refine q_asg (K := K) gr.s (ev_call2 (ev_call2 (ev_var rfl h_script) (ev_add ev_int (ev_var rfl h_18)) (by first | (first | exact absurd hb87 (by rw [hb70, Bool.true_or]; decide) | (rw [fto.1]; exact ⟨fto.2.tok, fto.2.tok⟩) | (rw [fto.1]; exact fto.2.shp) | exact shp_fits fto.2.shp | (rw [fto.1]; exact shown_pre2 fto.2) | (rw [fto.1, told_shown fto.2]; rfl) | (rw [fto.1, told_shown fto.2]; exact ⟨fto.2.tok, fto.2.tok⟩) | exact ⟨fp_1, fp_2⟩ | exact ⟨fp_2, fp_1⟩ | (rw [fto.1]; exact ⟨tok_cut fto.2.tok, fto.2.tok⟩) | (rw [fto.1]; exact ⟨fto.2.tok, fo⟩) | (rw [fto.1]; exact rng_side fto.2) | exact cut_side2 fto.1 fto.2 | exact at_in (by omega) (of_decide_eq_true (by assumption)) | (rw [fto.1]; exact len_side6 fto.2) | exact at_in (by decide) (by rw [fd]; decide) | exact sp_side _ | exact sp_side1 _ | exact ⟨by rw [fm.1]; decide, fm.2⟩ | exact fs | exact at_in (by decide) (by rw [fm.1]; decide) | exact lt_line (by omega) | (have := fto.2.len; omega) | exact ⟨by rw [fm.1]; decide, fm.2, fs⟩ | exact len_side1 fz fi | exact len_side2 fz fi (by rw [← ed_39]; exact loose_pre fm (stroke_small (by rw [fm.1]; decide))) | exact at_5 | exact len_side3 fin fn5 | exact len_side4 fin fn5 | exact len_side5 fin fn5 ed_73 | exact (bad_all fin fn5 ed_73 ed_79).1 | exact right_bad (bad_all fin fn5 ed_73 ed_79).2 | exact (good_all fin fn5 ed_174).1 | exact right_of fin fn5 ed_174 hb70 (by assumption) | exact left_of fin fn5 ed_174 (by assumption) | exact ⟨by show 0 ≤ 5; decide, fun _ h => by cases h⟩) | (first | omega | decide))) ev_int (by first | (first | exact absurd hb87 (by rw [hb70, Bool.true_or]; decide) | (rw [fto.1]; exact ⟨fto.2.tok, fto.2.tok⟩) | (rw [fto.1]; exact fto.2.shp) | exact shp_fits fto.2.shp | (rw [fto.1]; exact shown_pre2 fto.2) | (rw [fto.1, told_shown fto.2]; rfl) | (rw [fto.1, told_shown fto.2]; exact ⟨fto.2.tok, fto.2.tok⟩) | exact ⟨fp_1, fp_2⟩ | exact ⟨fp_2, fp_1⟩ | (rw [fto.1]; exact ⟨tok_cut fto.2.tok, fto.2.tok⟩) | (rw [fto.1]; exact ⟨fto.2.tok, fo⟩) | (rw [fto.1]; exact rng_side fto.2) | exact cut_side2 fto.1 fto.2 | exact at_in (by omega) (of_decide_eq_true (by assumption)) | (rw [fto.1]; exact len_side6 fto.2) | exact at_in (by decide) (by rw [fd]; decide) | exact sp_side _ | exact sp_side1 _ | exact ⟨by rw [fm.1]; decide, fm.2⟩ | exact fs | exact at_in (by decide) (by rw [fm.1]; decide) | exact lt_line (by omega) | (have := fto.2.len; omega) | exact ⟨by rw [fm.1]; decide, fm.2, fs⟩ | exact len_side1 fz fi | exact len_side2 fz fi (by rw [← ed_39]; exact loose_pre fm (stroke_small (by rw [fm.1]; decide))) | exact at_5 | exact len_side3 fin fn5 | exact len_side4 fin fn5 | exact len_side5 fin fn5 ed_73 | exact (bad_all fin fn5 ed_73 ed_79).1 | exact right_bad (bad_all fin fn5 ed_73 ed_79).2 | exact (good_all fin fn5 ed_174).1 | exact right_of fin fn5 ed_174 hb70 (by assumption) | exact left_of fin fn5 ed_174 (by assumption) | exact ⟨by show 0 ≤ 5; decide, fun _ h => by cases h⟩) | (first | omega | decide))) fun w_34 G37 H38 g36 (h_35 : rep K (m__law_draws (m__law_cell d_script ((1 : Int) + d_16)) (9 : Int)) w_34 G37) => ?_
      have h_script := up g36.g h_script
      have h_3 := up g36.g h_3
      have hN_9 := g36.f _ _ hH_9 hN_9
      have hH_9 := g36.h _ _ hH_9
      have h_26 := Reps.up g36.g h_26
      have h_29 := up g36.g h_29
      have h_18 := up g36.g h_18
      have sg0 := sg0.trans g36.g
      have gr := gr.trans g36
      generalize ed_33 : (m__law_draws (m__law_cell d_script ((1 : Int) + d_16)) (9 : Int)) = d_33 at h_35 hM
      unfold m_law_4 at hM
      have fm : d_33.length = 9 ∧ NN d_33 := by rw [← ed_33]; exact ⟨draws_len _ (by decide), draws_pos _ _⟩
      refine q_asg (K := K) gr.s (ev_call1 (ev_var rfl h_35) (by first | (first | exact absurd hb87 (by rw [hb70, Bool.true_or]; decide) | (rw [fto.1]; exact ⟨fto.2.tok, fto.2.tok⟩) | (rw [fto.1]; exact fto.2.shp) | exact shp_fits fto.2.shp | (rw [fto.1]; exact shown_pre2 fto.2) | (rw [fto.1, told_shown fto.2]; rfl) | (rw [fto.1, told_shown fto.2]; exact ⟨fto.2.tok, fto.2.tok⟩) | exact ⟨fp_1, fp_2⟩ | exact ⟨fp_2, fp_1⟩ | (rw [fto.1]; exact ⟨tok_cut fto.2.tok, fto.2.tok⟩) | (rw [fto.1]; exact ⟨fto.2.tok, fo⟩) | (rw [fto.1]; exact rng_side fto.2) | exact cut_side2 fto.1 fto.2 | exact at_in (by omega) (of_decide_eq_true (by assumption)) | (rw [fto.1]; exact len_side6 fto.2) | exact at_in (by decide) (by rw [fd]; decide) | exact sp_side _ | exact sp_side1 _ | exact ⟨by rw [fm.1]; decide, fm.2⟩ | exact fs | exact at_in (by decide) (by rw [fm.1]; decide) | exact lt_line (by omega) | (have := fto.2.len; omega) | exact ⟨by rw [fm.1]; decide, fm.2, fs⟩ | exact len_side1 fz fi | exact len_side2 fz fi (by rw [← ed_39]; exact loose_pre fm (stroke_small (by rw [fm.1]; decide))) | exact at_5 | exact len_side3 fin fn5 | exact len_side4 fin fn5 | exact len_side5 fin fn5 ed_73 | exact (bad_all fin fn5 ed_73 ed_79).1 | exact right_bad (bad_all fin fn5 ed_73 ed_79).2 | exact (good_all fin fn5 ed_174).1 | exact right_of fin fn5 ed_174 hb70 (by assumption) | exact left_of fin fn5 ed_174 (by assumption) | exact ⟨by show 0 ≤ 5; decide, fun _ h => by cases h⟩) | (first | omega | decide))) fun w_40 G43 H44 g42 (h_41 : rep K (m__law_stroke d_33) w_40 G43) => ?_
      have h_script := up g42.g h_script
      have h_3 := up g42.g h_3
      have hN_9 := g42.f _ _ hH_9 hN_9
      have hH_9 := g42.h _ _ hH_9
      have h_26 := Reps.up g42.g h_26
      have h_29 := up g42.g h_29
      have h_18 := up g42.g h_18
      have h_35 := up g42.g h_35
      have sg0 := sg0.trans g42.g
      have gr := gr.trans g42
      generalize ed_39 : (m__law_stroke d_33) = d_39 at h_41 hM
      unfold m_law_3 at hM
      have fs : SmallS d_39 := by rw [← ed_39]; exact stroke_small (by rw [fm.1]; decide)
      refine q_appF (K := K) gr hF_9 hN_9 rfl hH_9 h_26 (by first | (first | exact absurd hb87 (by rw [hb70, Bool.true_or]; decide) | (rw [fto.1]; exact ⟨fto.2.tok, fto.2.tok⟩) | (rw [fto.1]; exact fto.2.shp) | exact shp_fits fto.2.shp | (rw [fto.1]; exact shown_pre2 fto.2) | (rw [fto.1, told_shown fto.2]; rfl) | (rw [fto.1, told_shown fto.2]; exact ⟨fto.2.tok, fto.2.tok⟩) | exact ⟨fp_1, fp_2⟩ | exact ⟨fp_2, fp_1⟩ | (rw [fto.1]; exact ⟨tok_cut fto.2.tok, fto.2.tok⟩) | (rw [fto.1]; exact ⟨fto.2.tok, fo⟩) | (rw [fto.1]; exact rng_side fto.2) | exact cut_side2 fto.1 fto.2 | exact at_in (by omega) (of_decide_eq_true (by assumption)) | (rw [fto.1]; exact len_side6 fto.2) | exact at_in (by decide) (by rw [fd]; decide) | exact sp_side _ | exact sp_side1 _ | exact ⟨by rw [fm.1]; decide, fm.2⟩ | exact fs | exact at_in (by decide) (by rw [fm.1]; decide) | exact lt_line (by omega) | (have := fto.2.len; omega) | exact ⟨by rw [fm.1]; decide, fm.2, fs⟩ | exact len_side1 fz fi | exact len_side2 fz fi (by rw [← ed_39]; exact loose_pre fm (stroke_small (by rw [fm.1]; decide))) | exact at_5 | exact len_side3 fin fn5 | exact len_side4 fin fn5 | exact len_side5 fin fn5 ed_73 | exact (bad_all fin fn5 ed_73 ed_79).1 | exact right_bad (bad_all fin fn5 ed_73 ed_79).2 | exact (good_all fin fn5 ed_174).1 | exact right_of fin fn5 ed_174 hb70 (by assumption) | exact left_of fin fn5 ed_174 (by assumption) | exact ⟨by show 0 ≤ 5; decide, fun _ h => by cases h⟩) | (fail)) (ev_call1 (ev_var rfl h_41) (by first | (first | exact absurd hb87 (by rw [hb70, Bool.true_or]; decide) | (rw [fto.1]; exact ⟨fto.2.tok, fto.2.tok⟩) | (rw [fto.1]; exact fto.2.shp) | exact shp_fits fto.2.shp | (rw [fto.1]; exact shown_pre2 fto.2) | (rw [fto.1, told_shown fto.2]; rfl) | (rw [fto.1, told_shown fto.2]; exact ⟨fto.2.tok, fto.2.tok⟩) | exact ⟨fp_1, fp_2⟩ | exact ⟨fp_2, fp_1⟩ | (rw [fto.1]; exact ⟨tok_cut fto.2.tok, fto.2.tok⟩) | (rw [fto.1]; exact ⟨fto.2.tok, fo⟩) | (rw [fto.1]; exact rng_side fto.2) | exact cut_side2 fto.1 fto.2 | exact at_in (by omega) (of_decide_eq_true (by assumption)) | (rw [fto.1]; exact len_side6 fto.2) | exact at_in (by decide) (by rw [fd]; decide) | exact sp_side _ | exact sp_side1 _ | exact ⟨by rw [fm.1]; decide, fm.2⟩ | exact fs | exact at_in (by decide) (by rw [fm.1]; decide) | exact lt_line (by omega) | (have := fto.2.len; omega) | exact ⟨by rw [fm.1]; decide, fm.2, fs⟩ | exact len_side1 fz fi | exact len_side2 fz fi (by rw [← ed_39]; exact loose_pre fm (stroke_small (by rw [fm.1]; decide))) | exact at_5 | exact len_side3 fin fn5 | exact len_side4 fin fn5 | exact len_side5 fin fn5 ed_73 | exact (bad_all fin fn5 ed_73 ed_79).1 | exact right_bad (bad_all fin fn5 ed_73 ed_79).2 | exact (good_all fin fn5 ed_174).1 | exact right_of fin fn5 ed_174 hb70 (by assumption) | exact left_of fin fn5 ed_174 (by assumption) | exact ⟨by show 0 ≤ 5; decide, fun _ h => by cases h⟩) | (first | omega | decide))) fun G46 H47 H62 zs60 g45 gr2 hN2 hH2 h_51 bt61 => ?_
      have h_script := up g45.g h_script
      have h_3 := up g45.g h_3
      have hN_9 := g45.f _ _ hH_9 hN_9
      have hH_9 := g45.h _ _ hH_9
      have h_26 := Reps.up g45.g h_26
      have h_29 := up g45.g h_29
      have h_18 := up g45.g h_18
      have h_35 := up g45.g h_35
      have h_41 := up g45.g h_41
      have sg0 := sg0.trans g45.g
      have gr := gr2
      have hN_9 := hN2
      have hH_9 := hH2
      generalize ed_50 : (d_24 ++ [(m__law_shown d_39)]) = d_50 at h_51 hM
      unfold m_law_2 at hM
      refine s_asg (K := K) gr.s (ev_addS (ev_addS (ev_var rfl h_29) (ev_if (et_test (ev_gt (ev_var rfl h_18) ev_int)) (fun hb52 => (ev_repS ev_str (ev_add ev_int (ev_mod (ev_int1 (ev_ixL (ev_var rfl h_35) ev_int (atI_get (by first | (first | exact absurd hb87 (by rw [hb70, Bool.true_or]; decide) | (rw [fto.1]; exact ⟨fto.2.tok, fto.2.tok⟩) | (rw [fto.1]; exact fto.2.shp) | exact shp_fits fto.2.shp | (rw [fto.1]; exact shown_pre2 fto.2) | (rw [fto.1, told_shown fto.2]; rfl) | (rw [fto.1, told_shown fto.2]; exact ⟨fto.2.tok, fto.2.tok⟩) | exact ⟨fp_1, fp_2⟩ | exact ⟨fp_2, fp_1⟩ | (rw [fto.1]; exact ⟨tok_cut fto.2.tok, fto.2.tok⟩) | (rw [fto.1]; exact ⟨fto.2.tok, fo⟩) | (rw [fto.1]; exact rng_side fto.2) | exact cut_side2 fto.1 fto.2 | exact at_in (by omega) (of_decide_eq_true (by assumption)) | (rw [fto.1]; exact len_side6 fto.2) | exact at_in (by decide) (by rw [fd]; decide) | exact sp_side _ | exact sp_side1 _ | exact ⟨by rw [fm.1]; decide, fm.2⟩ | exact fs | exact at_in (by decide) (by rw [fm.1]; decide) | exact lt_line (by omega) | (have := fto.2.len; omega) | exact ⟨by rw [fm.1]; decide, fm.2, fs⟩ | exact len_side1 fz fi | exact len_side2 fz fi (by rw [← ed_39]; exact loose_pre fm (stroke_small (by rw [fm.1]; decide))) | exact at_5 | exact len_side3 fin fn5 | exact len_side4 fin fn5 | exact len_side5 fin fn5 ed_73 | exact (bad_all fin fn5 ed_73 ed_79).1 | exact right_bad (bad_all fin fn5 ed_73 ed_79).2 | exact (good_all fin fn5 ed_174).1 | exact right_of fin fn5 ed_174 hb70 (by assumption) | exact left_of fin fn5 ed_174 (by assumption) | exact ⟨by show 0 ≤ 5; decide, fun _ h => by cases h⟩) | (first | decide | (refine at_in ?_ ?_ <;> omega) | (refine at_neg ?_ ?_ <;> omega)))))) ev_int (by first | (first | exact absurd hb87 (by rw [hb70, Bool.true_or]; decide) | (rw [fto.1]; exact ⟨fto.2.tok, fto.2.tok⟩) | (rw [fto.1]; exact fto.2.shp) | exact shp_fits fto.2.shp | (rw [fto.1]; exact shown_pre2 fto.2) | (rw [fto.1, told_shown fto.2]; rfl) | (rw [fto.1, told_shown fto.2]; exact ⟨fto.2.tok, fto.2.tok⟩) | exact ⟨fp_1, fp_2⟩ | exact ⟨fp_2, fp_1⟩ | (rw [fto.1]; exact ⟨tok_cut fto.2.tok, fto.2.tok⟩) | (rw [fto.1]; exact ⟨fto.2.tok, fo⟩) | (rw [fto.1]; exact rng_side fto.2) | exact cut_side2 fto.1 fto.2 | exact at_in (by omega) (of_decide_eq_true (by assumption)) | (rw [fto.1]; exact len_side6 fto.2) | exact at_in (by decide) (by rw [fd]; decide) | exact sp_side _ | exact sp_side1 _ | exact ⟨by rw [fm.1]; decide, fm.2⟩ | exact fs | exact at_in (by decide) (by rw [fm.1]; decide) | exact lt_line (by omega) | (have := fto.2.len; omega) | exact ⟨by rw [fm.1]; decide, fm.2, fs⟩ | exact len_side1 fz fi | exact len_side2 fz fi (by rw [← ed_39]; exact loose_pre fm (stroke_small (by rw [fm.1]; decide))) | exact at_5 | exact len_side3 fin fn5 | exact len_side4 fin fn5 | exact len_side5 fin fn5 ed_73 | exact (bad_all fin fn5 ed_73 ed_79).1 | exact right_bad (bad_all fin fn5 ed_73 ed_79).2 | exact (good_all fin fn5 ed_174).1 | exact right_of fin fn5 ed_174 hb70 (by assumption) | exact left_of fin fn5 ed_174 (by assumption) | exact ⟨by show 0 ≤ 5; decide, fun _ h => by cases h⟩) | (first | omega | decide | (show _ ≤ sizeLine; decide) | (show _ < sizeLine; decide))))) (by first | (first | exact absurd hb87 (by rw [hb70, Bool.true_or]; decide) | (rw [fto.1]; exact ⟨fto.2.tok, fto.2.tok⟩) | (rw [fto.1]; exact fto.2.shp) | exact shp_fits fto.2.shp | (rw [fto.1]; exact shown_pre2 fto.2) | (rw [fto.1, told_shown fto.2]; rfl) | (rw [fto.1, told_shown fto.2]; exact ⟨fto.2.tok, fto.2.tok⟩) | exact ⟨fp_1, fp_2⟩ | exact ⟨fp_2, fp_1⟩ | (rw [fto.1]; exact ⟨tok_cut fto.2.tok, fto.2.tok⟩) | (rw [fto.1]; exact ⟨fto.2.tok, fo⟩) | (rw [fto.1]; exact rng_side fto.2) | exact cut_side2 fto.1 fto.2 | exact at_in (by omega) (of_decide_eq_true (by assumption)) | (rw [fto.1]; exact len_side6 fto.2) | exact at_in (by decide) (by rw [fd]; decide) | exact sp_side _ | exact sp_side1 _ | exact ⟨by rw [fm.1]; decide, fm.2⟩ | exact fs | exact at_in (by decide) (by rw [fm.1]; decide) | exact lt_line (by omega) | (have := fto.2.len; omega) | exact ⟨by rw [fm.1]; decide, fm.2, fs⟩ | exact len_side1 fz fi | exact len_side2 fz fi (by rw [← ed_39]; exact loose_pre fm (stroke_small (by rw [fm.1]; decide))) | exact at_5 | exact len_side3 fin fn5 | exact len_side4 fin fn5 | exact len_side5 fin fn5 ed_73 | exact (bad_all fin fn5 ed_73 ed_79).1 | exact right_bad (bad_all fin fn5 ed_73 ed_79).2 | exact (good_all fin fn5 ed_174).1 | exact right_of fin fn5 ed_174 hb70 (by assumption) | exact left_of fin fn5 ed_174 (by assumption) | exact ⟨by show 0 ≤ 5; decide, fun _ h => by cases h⟩) | (first | omega | decide | (show _ ≤ sizeLine; decide) | (show _ < sizeLine; decide))))) (fun hb53 => ev_str)) (by first | (first | exact absurd hb87 (by rw [hb70, Bool.true_or]; decide) | (rw [fto.1]; exact ⟨fto.2.tok, fto.2.tok⟩) | (rw [fto.1]; exact fto.2.shp) | exact shp_fits fto.2.shp | (rw [fto.1]; exact shown_pre2 fto.2) | (rw [fto.1, told_shown fto.2]; rfl) | (rw [fto.1, told_shown fto.2]; exact ⟨fto.2.tok, fto.2.tok⟩) | exact ⟨fp_1, fp_2⟩ | exact ⟨fp_2, fp_1⟩ | (rw [fto.1]; exact ⟨tok_cut fto.2.tok, fto.2.tok⟩) | (rw [fto.1]; exact ⟨fto.2.tok, fo⟩) | (rw [fto.1]; exact rng_side fto.2) | exact cut_side2 fto.1 fto.2 | exact at_in (by omega) (of_decide_eq_true (by assumption)) | (rw [fto.1]; exact len_side6 fto.2) | exact at_in (by decide) (by rw [fd]; decide) | exact sp_side _ | exact sp_side1 _ | exact ⟨by rw [fm.1]; decide, fm.2⟩ | exact fs | exact at_in (by decide) (by rw [fm.1]; decide) | exact lt_line (by omega) | (have := fto.2.len; omega) | exact ⟨by rw [fm.1]; decide, fm.2, fs⟩ | exact len_side1 fz fi | exact len_side2 fz fi (by rw [← ed_39]; exact loose_pre fm (stroke_small (by rw [fm.1]; decide))) | exact at_5 | exact len_side3 fin fn5 | exact len_side4 fin fn5 | exact len_side5 fin fn5 ed_73 | exact (bad_all fin fn5 ed_73 ed_79).1 | exact right_bad (bad_all fin fn5 ed_73 ed_79).2 | exact (good_all fin fn5 ed_174).1 | exact right_of fin fn5 ed_174 hb70 (by assumption) | exact left_of fin fn5 ed_174 (by assumption) | exact ⟨by show 0 ≤ 5; decide, fun _ h => by cases h⟩) | (first | omega | decide | (show _ ≤ sizeLine; decide) | (show _ < sizeLine; decide)))) (ev_call2 (ev_var rfl h_35) (ev_var rfl h_41) (by first | (first | exact absurd hb87 (by rw [hb70, Bool.true_or]; decide) | (rw [fto.1]; exact ⟨fto.2.tok, fto.2.tok⟩) | (rw [fto.1]; exact fto.2.shp) | exact shp_fits fto.2.shp | (rw [fto.1]; exact shown_pre2 fto.2) | (rw [fto.1, told_shown fto.2]; rfl) | (rw [fto.1, told_shown fto.2]; exact ⟨fto.2.tok, fto.2.tok⟩) | exact ⟨fp_1, fp_2⟩ | exact ⟨fp_2, fp_1⟩ | (rw [fto.1]; exact ⟨tok_cut fto.2.tok, fto.2.tok⟩) | (rw [fto.1]; exact ⟨fto.2.tok, fo⟩) | (rw [fto.1]; exact rng_side fto.2) | exact cut_side2 fto.1 fto.2 | exact at_in (by omega) (of_decide_eq_true (by assumption)) | (rw [fto.1]; exact len_side6 fto.2) | exact at_in (by decide) (by rw [fd]; decide) | exact sp_side _ | exact sp_side1 _ | exact ⟨by rw [fm.1]; decide, fm.2⟩ | exact fs | exact at_in (by decide) (by rw [fm.1]; decide) | exact lt_line (by omega) | (have := fto.2.len; omega) | exact ⟨by rw [fm.1]; decide, fm.2, fs⟩ | exact len_side1 fz fi | exact len_side2 fz fi (by rw [← ed_39]; exact loose_pre fm (stroke_small (by rw [fm.1]; decide))) | exact at_5 | exact len_side3 fin fn5 | exact len_side4 fin fn5 | exact len_side5 fin fn5 ed_73 | exact (bad_all fin fn5 ed_73 ed_79).1 | exact right_bad (bad_all fin fn5 ed_73 ed_79).2 | exact (good_all fin fn5 ed_174).1 | exact right_of fin fn5 ed_174 hb70 (by assumption) | exact left_of fin fn5 ed_174 (by assumption) | exact ⟨by show 0 ≤ 5; decide, fun _ h => by cases h⟩) | (first | omega | decide))) (by first | (first | exact absurd hb87 (by rw [hb70, Bool.true_or]; decide) | (rw [fto.1]; exact ⟨fto.2.tok, fto.2.tok⟩) | (rw [fto.1]; exact fto.2.shp) | exact shp_fits fto.2.shp | (rw [fto.1]; exact shown_pre2 fto.2) | (rw [fto.1, told_shown fto.2]; rfl) | (rw [fto.1, told_shown fto.2]; exact ⟨fto.2.tok, fto.2.tok⟩) | exact ⟨fp_1, fp_2⟩ | exact ⟨fp_2, fp_1⟩ | (rw [fto.1]; exact ⟨tok_cut fto.2.tok, fto.2.tok⟩) | (rw [fto.1]; exact ⟨fto.2.tok, fo⟩) | (rw [fto.1]; exact rng_side fto.2) | exact cut_side2 fto.1 fto.2 | exact at_in (by omega) (of_decide_eq_true (by assumption)) | (rw [fto.1]; exact len_side6 fto.2) | exact at_in (by decide) (by rw [fd]; decide) | exact sp_side _ | exact sp_side1 _ | exact ⟨by rw [fm.1]; decide, fm.2⟩ | exact fs | exact at_in (by decide) (by rw [fm.1]; decide) | exact lt_line (by omega) | (have := fto.2.len; omega) | exact ⟨by rw [fm.1]; decide, fm.2, fs⟩ | exact len_side1 fz fi | exact len_side2 fz fi (by rw [← ed_39]; exact loose_pre fm (stroke_small (by rw [fm.1]; decide))) | exact at_5 | exact len_side3 fin fn5 | exact len_side4 fin fn5 | exact len_side5 fin fn5 ed_73 | exact (bad_all fin fn5 ed_73 ed_79).1 | exact right_bad (bad_all fin fn5 ed_73 ed_79).2 | exact (good_all fin fn5 ed_174).1 | exact right_of fin fn5 ed_174 hb70 (by assumption) | exact left_of fin fn5 ed_174 (by assumption) | exact ⟨by show 0 ≤ 5; decide, fun _ h => by cases h⟩) | (first | omega | decide | (show _ ≤ sizeLine; decide) | (show _ < sizeLine; decide)))) fun w_55 G58 H59 g57 (h_56 : rep K ((d_27 ++ (cond (decide ((0 : Int) < d_16)) (mulS (" " : Str) ((1 : Int) + ((getI d_33 (6 : Int)) % (3 : Int)))) ("" : Str))) ++ (m__law_loose d_33 d_39)) w_55 G58) => ?_
      have h_script := up g57.g h_script
      have h_3 := up g57.g h_3
      have hN_9 := g57.f _ _ hH_9 hN_9
      have hH_9 := g57.h _ _ hH_9
      have h_51 := Reps.up g57.g h_51
      have h_18 := up g57.g h_18
      have h_35 := up g57.g h_35
      have h_41 := up g57.g h_41
      have sg0 := sg0.trans g57.g
      have gr := gr.trans g57
      generalize ed_54 : ((d_27 ++ (cond (decide ((0 : Int) < d_16)) (mulS (" " : Str) ((1 : Int) + ((getI d_33 (6 : Int)) % (3 : Int)))) ("" : Str))) ++ (m__law_loose d_33 d_39)) = d_54 at h_56 hM
      unfold m_law_1 at hM
      exact ⟨_, w_55, _, _, _, gr, sg0, rfl, ⟨_, (by rw [hM]; exact h_51), hH_9, hN_9⟩, (by rw [hM]; exact h_56)⟩
    · rintro σ_0 H_0 ⟨G267, w_28, o_30, o_31, o_32, gr, sg0, rfl, ⟨zs_9, h_26, hH_9, hN_9⟩, h_29⟩
      have h_script := up sg0 h_script
      have h_3 := up sg0 h_3
      rw [rgs_take0] at h_26
      rw [rgs_take0] at h_29
      generalize est_0 : (List.foldl (m_law_6 d_script) (d_7, d_10) (rgs 0 ((getI d_1 (1 : Int)) % (6 : Int)))) = st_0 at h_26 h_29 hM
      obtain ⟨d_24, d_27⟩ := st_0
      dsimp only at h_26 h_29
      have h_script := up (same_upd (o := .lst zs_9) hN_9) h_script
      have h_3 := up (same_upd (o := .lst zs_9) hN_9) h_3
      have h_29 := up (same_upd (o := .lst zs_9) hN_9) h_29
      have h_26 := fix_rep h_26 hN_9
      have gr := gr.fix hF_9 hN_9 hH_9
      unfold m_law_33 at hM
      dsimp only at hM
      obtain ⟨fn, fn5, fin⟩ := inv_end est_0 ed_7 ed_10
      refine q_asg (K := K) gr.s (ev_eq (ev_mod (ev_int1 (ev_ixL (ev_var rfl h_3) ev_int (atI_get (by first | (first | exact absurd hb87 (by rw [hb70, Bool.true_or]; decide) | (rw [fto.1]; exact ⟨fto.2.tok, fto.2.tok⟩) | (rw [fto.1]; exact fto.2.shp) | exact shp_fits fto.2.shp | (rw [fto.1]; exact shown_pre2 fto.2) | (rw [fto.1, told_shown fto.2]; rfl) | (rw [fto.1, told_shown fto.2]; exact ⟨fto.2.tok, fto.2.tok⟩) | exact ⟨fp_1, fp_2⟩ | exact ⟨fp_2, fp_1⟩ | (rw [fto.1]; exact ⟨tok_cut fto.2.tok, fto.2.tok⟩) | (rw [fto.1]; exact ⟨fto.2.tok, fo⟩) | (rw [fto.1]; exact rng_side fto.2) | exact cut_side2 fto.1 fto.2 | exact at_in (by omega) (of_decide_eq_true (by assumption)) | (rw [fto.1]; exact len_side6 fto.2) | exact at_in (by decide) (by rw [fd]; decide) | exact sp_side _ | exact sp_side1 _ | exact ⟨by rw [fm.1]; decide, fm.2⟩ | exact fs | exact at_in (by decide) (by rw [fm.1]; decide) | exact lt_line (by omega) | (have := fto.2.len; omega) | exact ⟨by rw [fm.1]; decide, fm.2, fs⟩ | exact len_side1 fz fi | exact len_side2 fz fi (by rw [← ed_39]; exact loose_pre fm (stroke_small (by rw [fm.1]; decide))) | exact at_5 | exact len_side3 fin fn5 | exact len_side4 fin fn5 | exact len_side5 fin fn5 ed_73 | exact (bad_all fin fn5 ed_73 ed_79).1 | exact right_bad (bad_all fin fn5 ed_73 ed_79).2 | exact (good_all fin fn5 ed_174).1 | exact right_of fin fn5 ed_174 hb70 (by assumption) | exact left_of fin fn5 ed_174 (by assumption) | exact ⟨by show 0 ≤ 5; decide, fun _ h => by cases h⟩) | (first | decide | (refine at_in ?_ ?_ <;> omega) | (refine at_neg ?_ ?_ <;> omega)))))) ev_int (by first | (first | exact absurd hb87 (by rw [hb70, Bool.true_or]; decide) | (rw [fto.1]; exact ⟨fto.2.tok, fto.2.tok⟩) | (rw [fto.1]; exact fto.2.shp) | exact shp_fits fto.2.shp | (rw [fto.1]; exact shown_pre2 fto.2) | (rw [fto.1, told_shown fto.2]; rfl) | (rw [fto.1, told_shown fto.2]; exact ⟨fto.2.tok, fto.2.tok⟩) | exact ⟨fp_1, fp_2⟩ | exact ⟨fp_2, fp_1⟩ | (rw [fto.1]; exact ⟨tok_cut fto.2.tok, fto.2.tok⟩) | (rw [fto.1]; exact ⟨fto.2.tok, fo⟩) | (rw [fto.1]; exact rng_side fto.2) | exact cut_side2 fto.1 fto.2 | exact at_in (by omega) (of_decide_eq_true (by assumption)) | (rw [fto.1]; exact len_side6 fto.2) | exact at_in (by decide) (by rw [fd]; decide) | exact sp_side _ | exact sp_side1 _ | exact ⟨by rw [fm.1]; decide, fm.2⟩ | exact fs | exact at_in (by decide) (by rw [fm.1]; decide) | exact lt_line (by omega) | (have := fto.2.len; omega) | exact ⟨by rw [fm.1]; decide, fm.2, fs⟩ | exact len_side1 fz fi | exact len_side2 fz fi (by rw [← ed_39]; exact loose_pre fm (stroke_small (by rw [fm.1]; decide))) | exact at_5 | exact len_side3 fin fn5 | exact len_side4 fin fn5 | exact len_side5 fin fn5 ed_73 | exact (bad_all fin fn5 ed_73 ed_79).1 | exact right_bad (bad_all fin fn5 ed_73 ed_79).2 | exact (good_all fin fn5 ed_174).1 | exact right_of fin fn5 ed_174 hb70 (by assumption) | exact left_of fin fn5 ed_174 (by assumption) | exact ⟨by show 0 ≤ 5; decide, fun _ h => by cases h⟩) | (first | omega | decide | (show _ ≤ sizeLine; decide) | (show _ < sizeLine; decide)))) ev_int) fun w_64 G67 H68 g66 (h_65 : rep K (eqB ((getI d_1 (2 : Int)) % (4 : Int)) (0 : Int)) w_64 G67) => ?_
      have h_script := up g66.g h_script
      have h_3 := up g66.g h_3
      have h_26 := up g66.g h_26
      have h_29 := up g66.g h_29
      have gr := gr.trans g66
      generalize ed_63 : (eqB ((getI d_1 (2 : Int)) % (4 : Int)) (0 : Int)) = d_63 at h_65 hM
      unfold m_law_32 at hM
      refine q_if gr.s (et_B (ev_var rfl h_65)) ?_ ?_
      · intro hb70 G71 H72 g69
        have h_script := up g69.g h_script
        have h_3 := up g69.g h_3
        have h_26 := up g69.g h_26
        have h_29 := up g69.g h_29
        have h_65 := up g69.g h_65
        have gr := gr.trans g69
        replace hM := condT hM hb70
        unfold m_law_19 at hM
        refine s_asg (K := K) gr.s (ev_addS (ev_var rfl h_29) (ev_ixL (ev_lst (ea_cons ev_str (ea_cons ev_str (ea_cons ev_str (ea_cons ev_str (ea_cons ev_str ea_nil))))) (by first | (first | exact absurd hb87 (by rw [hb70, Bool.true_or]; decide) | (rw [fto.1]; exact ⟨fto.2.tok, fto.2.tok⟩) | (rw [fto.1]; exact fto.2.shp) | exact shp_fits fto.2.shp | (rw [fto.1]; exact shown_pre2 fto.2) | (rw [fto.1, told_shown fto.2]; rfl) | (rw [fto.1, told_shown fto.2]; exact ⟨fto.2.tok, fto.2.tok⟩) | exact ⟨fp_1, fp_2⟩ | exact ⟨fp_2, fp_1⟩ | (rw [fto.1]; exact ⟨tok_cut fto.2.tok, fto.2.tok⟩) | (rw [fto.1]; exact ⟨fto.2.tok, fo⟩) | (rw [fto.1]; exact rng_side fto.2) | exact cut_side2 fto.1 fto.2 | exact at_in (by omega) (of_decide_eq_true (by assumption)) | (rw [fto.1]; exact len_side6 fto.2) | exact at_in (by decide) (by rw [fd]; decide) | exact sp_side _ | exact sp_side1 _ | exact ⟨by rw [fm.1]; decide, fm.2⟩ | exact fs | exact at_in (by decide) (by rw [fm.1]; decide) | exact lt_line (by omega) | (have := fto.2.len; omega) | exact ⟨by rw [fm.1]; decide, fm.2, fs⟩ | exact len_side1 fz fi | exact len_side2 fz fi (by rw [← ed_39]; exact loose_pre fm (stroke_small (by rw [fm.1]; decide))) | exact at_5 | exact len_side3 fin fn5 | exact len_side4 fin fn5 | exact len_side5 fin fn5 ed_73 | exact (bad_all fin fn5 ed_73 ed_79).1 | exact right_bad (bad_all fin fn5 ed_73 ed_79).2 | exact (good_all fin fn5 ed_174).1 | exact right_of fin fn5 ed_174 hb70 (by assumption) | exact left_of fin fn5 ed_174 (by assumption) | exact ⟨by show 0 ≤ 5; decide, fun _ h => by cases h⟩) | (first | (show _ ≤ sizeLine; decide) | (simp only [List.length_cons, List.length_nil, List.length_append, sizeLine_eq]; omega) | (fail)))) (ev_mod (ev_int1 (ev_ixL (ev_var rfl h_3) ev_int (atI_get (by first | (first | exact absurd hb87 (by rw [hb70, Bool.true_or]; decide) | (rw [fto.1]; exact ⟨fto.2.tok, fto.2.tok⟩) | (rw [fto.1]; exact fto.2.shp) | exact shp_fits fto.2.shp | (rw [fto.1]; exact shown_pre2 fto.2) | (rw [fto.1, told_shown fto.2]; rfl) | (rw [fto.1, told_shown fto.2]; exact ⟨fto.2.tok, fto.2.tok⟩) | exact ⟨fp_1, fp_2⟩ | exact ⟨fp_2, fp_1⟩ | (rw [fto.1]; exact ⟨tok_cut fto.2.tok, fto.2.tok⟩) | (rw [fto.1]; exact ⟨fto.2.tok, fo⟩) | (rw [fto.1]; exact rng_side fto.2) | exact cut_side2 fto.1 fto.2 | exact at_in (by omega) (of_decide_eq_true (by assumption)) | (rw [fto.1]; exact len_side6 fto.2) | exact at_in (by decide) (by rw [fd]; decide) | exact sp_side _ | exact sp_side1 _ | exact ⟨by rw [fm.1]; decide, fm.2⟩ | exact fs | exact at_in (by decide) (by rw [fm.1]; decide) | exact lt_line (by omega) | (have := fto.2.len; omega) | exact ⟨by rw [fm.1]; decide, fm.2, fs⟩ | exact len_side1 fz fi | exact len_side2 fz fi (by rw [← ed_39]; exact loose_pre fm (stroke_small (by rw [fm.1]; decide))) | exact at_5 | exact len_side3 fin fn5 | exact len_side4 fin fn5 | exact len_side5 fin fn5 ed_73 | exact (bad_all fin fn5 ed_73 ed_79).1 | exact right_bad (bad_all fin fn5 ed_73 ed_79).2 | exact (good_all fin fn5 ed_174).1 | exact right_of fin fn5 ed_174 hb70 (by assumption) | exact left_of fin fn5 ed_174 (by assumption) | exact ⟨by show 0 ≤ 5; decide, fun _ h => by cases h⟩) | (first | decide | (refine at_in ?_ ?_ <;> omega) | (refine at_neg ?_ ?_ <;> omega)))))) ev_int (by first | (first | exact absurd hb87 (by rw [hb70, Bool.true_or]; decide) | (rw [fto.1]; exact ⟨fto.2.tok, fto.2.tok⟩) | (rw [fto.1]; exact fto.2.shp) | exact shp_fits fto.2.shp | (rw [fto.1]; exact shown_pre2 fto.2) | (rw [fto.1, told_shown fto.2]; rfl) | (rw [fto.1, told_shown fto.2]; exact ⟨fto.2.tok, fto.2.tok⟩) | exact ⟨fp_1, fp_2⟩ | exact ⟨fp_2, fp_1⟩ | (rw [fto.1]; exact ⟨tok_cut fto.2.tok, fto.2.tok⟩) | (rw [fto.1]; exact ⟨fto.2.tok, fo⟩) | (rw [fto.1]; exact rng_side fto.2) | exact cut_side2 fto.1 fto.2 | exact at_in (by omega) (of_decide_eq_true (by assumption)) | (rw [fto.1]; exact len_side6 fto.2) | exact at_in (by decide) (by rw [fd]; decide) | exact sp_side _ | exact sp_side1 _ | exact ⟨by rw [fm.1]; decide, fm.2⟩ | exact fs | exact at_in (by decide) (by rw [fm.1]; decide) | exact lt_line (by omega) | (have := fto.2.len; omega) | exact ⟨by rw [fm.1]; decide, fm.2, fs⟩ | exact len_side1 fz fi | exact len_side2 fz fi (by rw [← ed_39]; exact loose_pre fm (stroke_small (by rw [fm.1]; decide))) | exact at_5 | exact len_side3 fin fn5 | exact len_side4 fin fn5 | exact len_side5 fin fn5 ed_73 | exact (bad_all fin fn5 ed_73 ed_79).1 | exact right_bad (bad_all fin fn5 ed_73 ed_79).2 | exact (good_all fin fn5 ed_174).1 | exact right_of fin fn5 ed_174 hb70 (by assumption) | exact left_of fin fn5 ed_174 (by assumption) | exact ⟨by show 0 ≤ 5; decide, fun _ h => by cases h⟩) | (first | omega | decide | (show _ ≤ sizeLine; decide) | (show _ < sizeLine; decide)))) (atI_get (by first | (first | exact absurd hb87 (by rw [hb70, Bool.true_or]; decide) | (rw [fto.1]; exact ⟨fto.2.tok, fto.2.tok⟩) | (rw [fto.1]; exact fto.2.shp) | exact shp_fits fto.2.shp | (rw [fto.1]; exact shown_pre2 fto.2) | (rw [fto.1, told_shown fto.2]; rfl) | (rw [fto.1, told_shown fto.2]; exact ⟨fto.2.tok, fto.2.tok⟩) | exact ⟨fp_1, fp_2⟩ | exact ⟨fp_2, fp_1⟩ | (rw [fto.1]; exact ⟨tok_cut fto.2.tok, fto.2.tok⟩) | (rw [fto.1]; exact ⟨fto.2.tok, fo⟩) | (rw [fto.1]; exact rng_side fto.2) | exact cut_side2 fto.1 fto.2 | exact at_in (by omega) (of_decide_eq_true (by assumption)) | (rw [fto.1]; exact len_side6 fto.2) | exact at_in (by decide) (by rw [fd]; decide) | exact sp_side _ | exact sp_side1 _ | exact ⟨by rw [fm.1]; decide, fm.2⟩ | exact fs | exact at_in (by decide) (by rw [fm.1]; decide) | exact lt_line (by omega) | (have := fto.2.len; omega) | exact ⟨by rw [fm.1]; decide, fm.2, fs⟩ | exact len_side1 fz fi | exact len_side2 fz fi (by rw [← ed_39]; exact loose_pre fm (stroke_small (by rw [fm.1]; decide))) | exact at_5 | exact len_side3 fin fn5 | exact len_side4 fin fn5 | exact len_side5 fin fn5 ed_73 | exact (bad_all fin fn5 ed_73 ed_79).1 | exact right_bad (bad_all fin fn5 ed_73 ed_79).2 | exact (good_all fin fn5 ed_174).1 | exact right_of fin fn5 ed_174 hb70 (by assumption) | exact left_of fin fn5 ed_174 (by assumption) | exact ⟨by show 0 ≤ 5; decide, fun _ h => by cases h⟩) | (first | decide | (refine at_in ?_ ?_ <;> omega) | (refine at_neg ?_ ?_ <;> omega))))) (by first | (first | exact absurd hb87 (by rw [hb70, Bool.true_or]; decide) | (rw [fto.1]; exact ⟨fto.2.tok, fto.2.tok⟩) | (rw [fto.1]; exact fto.2.shp) | exact shp_fits fto.2.shp | (rw [fto.1]; exact shown_pre2 fto.2) | (rw [fto.1, told_shown fto.2]; rfl) | (rw [fto.1, told_shown fto.2]; exact ⟨fto.2.tok, fto.2.tok⟩) | exact ⟨fp_1, fp_2⟩ | exact ⟨fp_2, fp_1⟩ | (rw [fto.1]; exact ⟨tok_cut fto.2.tok, fto.2.tok⟩) | (rw [fto.1]; exact ⟨fto.2.tok, fo⟩) | (rw [fto.1]; exact rng_side fto.2) | exact cut_side2 fto.1 fto.2 | exact at_in (by omega) (of_decide_eq_true (by assumption)) | (rw [fto.1]; exact len_side6 fto.2) | exact at_in (by decide) (by rw [fd]; decide) | exact sp_side _ | exact sp_side1 _ | exact ⟨by rw [fm.1]; decide, fm.2⟩ | exact fs | exact at_in (by decide) (by rw [fm.1]; decide) | exact lt_line (by omega) | (have := fto.2.len; omega) | exact ⟨by rw [fm.1]; decide, fm.2, fs⟩ | exact len_side1 fz fi | exact len_side2 fz fi (by rw [← ed_39]; exact loose_pre fm (stroke_small (by rw [fm.1]; decide))) | exact at_5 | exact len_side3 fin fn5 | exact len_side4 fin fn5 | exact len_side5 fin fn5 ed_73 | exact (bad_all fin fn5 ed_73 ed_79).1 | exact right_bad (bad_all fin fn5 ed_73 ed_79).2 | exact (good_all fin fn5 ed_174).1 | exact right_of fin fn5 ed_174 hb70 (by assumption) | exact left_of fin fn5 ed_174 (by assumption) | exact ⟨by show 0 ≤ 5; decide, fun _ h => by cases h⟩) | (first | omega | decide | (show _ ≤ sizeLine; decide) | (show _ < sizeLine; decide)))) fun w_74 G77 H78 g76 (h_75 : rep K (d_27 ++ (getI ((" x+y" : Str) :: ((" ctrl" : Str) :: (("  F0" : Str) :: (("+" : Str) :: ((" ++" : Str) :: ([] : List Str)))))) ((getI d_1 (3 : Int)) % (5 : Int)))) w_74 G77) => ?_
        have h_script := up g76.g h_script
        have h_3 := up g76.g h_3
        have h_26 := up g76.g h_26
        have h_65 := up g76.g h_65
        have gr := gr.trans g76
        generalize ed_73 : (d_27 ++ (getI ((" x+y" : Str) :: ((" ctrl" : Str) :: (("  F0" : Str) :: (("+" : Str) :: ((" ++" : Str) :: ([] : List Str)))))) ((getI d_1 (3 : Int)) % (5 : Int)))) = d_73 at h_75 hM
        unfold m_law_18 at hM
        refine nx_mk ?_
        refine q_asg (K := K) gr.s (ev_addS (ev_var rfl h_75) (ev_repS ev_str (ev_mod (ev_int1 (ev_ixL (ev_var rfl h_3) ev_int (atI_get (by first | (first | exact absurd hb87 (by rw [hb70, Bool.true_or]; decide) | (rw [fto.1]; exact ⟨fto.2.tok, fto.2.tok⟩) | (rw [fto.1]; exact fto.2.shp) | exact shp_fits fto.2.shp | (rw [fto.1]; exact shown_pre2 fto.2) | (rw [fto.1, told_shown fto.2]; rfl) | (rw [fto.1, told_shown fto.2]; exact ⟨fto.2.tok, fto.2.tok⟩) | exact ⟨fp_1, fp_2⟩ | exact ⟨fp_2, fp_1⟩ | (rw [fto.1]; exact ⟨tok_cut fto.2.tok, fto.2.tok⟩) | (rw [fto.1]; exact ⟨fto.2.tok, fo⟩) | (rw [fto.1]; exact rng_side fto.2) | exact cut_side2 fto.1 fto.2 | exact at_in (by omega) (of_decide_eq_true (by assumption)) | (rw [fto.1]; exact len_side6 fto.2) | exact at_in (by decide) (by rw [fd]; decide) | exact sp_side _ | exact sp_side1 _ | exact ⟨by rw [fm.1]; decide, fm.2⟩ | exact fs | exact at_in (by decide) (by rw [fm.1]; decide) | exact lt_line (by omega) | (have := fto.2.len; omega) | exact ⟨by rw [fm.1]; decide, fm.2, fs⟩ | exact len_side1 fz fi | exact len_side2 fz fi (by rw [← ed_39]; exact loose_pre fm (stroke_small (by rw [fm.1]; decide))) | exact at_5 | exact len_side3 fin fn5 | exact len_side4 fin fn5 | exact len_side5 fin fn5 ed_73 | exact (bad_all fin fn5 ed_73 ed_79).1 | exact right_bad (bad_all fin fn5 ed_73 ed_79).2 | exact (good_all fin fn5 ed_174).1 | exact right_of fin fn5 ed_174 hb70 (by assumption) | exact left_of fin fn5 ed_174 (by assumption) | exact ⟨by show 0 ≤ 5; decide, fun _ h => by cases h⟩) | (first | decide | (refine at_in ?_ ?_ <;> omega) | (refine at_neg ?_ ?_ <;> omega)))))) ev_int (by first | (first | exact absurd hb87 (by rw [hb70, Bool.true_or]; decide) | (rw [fto.1]; exact ⟨fto.2.tok, fto.2.tok⟩) | (rw [fto.1]; exact fto.2.shp) | exact shp_fits fto.2.shp | (rw [fto.1]; exact shown_pre2 fto.2) | (rw [fto.1, told_shown fto.2]; rfl) | (rw [fto.1, told_shown fto.2]; exact ⟨fto.2.tok, fto.2.tok⟩) | exact ⟨fp_1, fp_2⟩ | exact ⟨fp_2, fp_1⟩ | (rw [fto.1]; exact ⟨tok_cut fto.2.tok, fto.2.tok⟩) | (rw [fto.1]; exact ⟨fto.2.tok, fo⟩) | (rw [fto.1]; exact rng_side fto.2) | exact cut_side2 fto.1 fto.2 | exact at_in (by omega) (of_decide_eq_true (by assumption)) | (rw [fto.1]; exact len_side6 fto.2) | exact at_in (by decide) (by rw [fd]; decide) | exact sp_side _ | exact sp_side1 _ | exact ⟨by rw [fm.1]; decide, fm.2⟩ | exact fs | exact at_in (by decide) (by rw [fm.1]; decide) | exact lt_line (by omega) | (have := fto.2.len; omega) | exact ⟨by rw [fm.1]; decide, fm.2, fs⟩ | exact len_side1 fz fi | exact len_side2 fz fi (by rw [← ed_39]; exact loose_pre fm (stroke_small (by rw [fm.1]; decide))) | exact at_5 | exact len_side3 fin fn5 | exact len_side4 fin fn5 | exact len_side5 fin fn5 ed_73 | exact (bad_all fin fn5 ed_73 ed_79).1 | exact right_bad (bad_all fin fn5 ed_73 ed_79).2 | exact (good_all fin fn5 ed_174).1 | exact right_of fin fn5 ed_174 hb70 (by assumption) | exact left_of fin fn5 ed_174 (by assumption) | exact ⟨by show 0 ≤ 5; decide, fun _ h => by cases h⟩) | (first | omega | decide | (show _ ≤ sizeLine; decide) | (show _ < sizeLine; decide)))) (by first | (first | exact absurd hb87 (by rw [hb70, Bool.true_or]; decide) | (rw [fto.1]; exact ⟨fto.2.tok, fto.2.tok⟩) | (rw [fto.1]; exact fto.2.shp) | exact shp_fits fto.2.shp | (rw [fto.1]; exact shown_pre2 fto.2) | (rw [fto.1, told_shown fto.2]; rfl) | (rw [fto.1, told_shown fto.2]; exact ⟨fto.2.tok, fto.2.tok⟩) | exact ⟨fp_1, fp_2⟩ | exact ⟨fp_2, fp_1⟩ | (rw [fto.1]; exact ⟨tok_cut fto.2.tok, fto.2.tok⟩) | (rw [fto.1]; exact ⟨fto.2.tok, fo⟩) | (rw [fto.1]; exact rng_side fto.2) | exact cut_side2 fto.1 fto.2 | exact at_in (by omega) (of_decide_eq_true (by assumption)) | (rw [fto.1]; exact len_side6 fto.2) | exact at_in (by decide) (by rw [fd]; decide) | exact sp_side _ | exact sp_side1 _ | exact ⟨by rw [fm.1]; decide, fm.2⟩ | exact fs | exact at_in (by decide) (by rw [fm.1]; decide) | exact lt_line (by omega) | (have := fto.2.len; omega) | exact ⟨by rw [fm.1]; decide, fm.2, fs⟩ | exact len_side1 fz fi | exact len_side2 fz fi (by rw [← ed_39]; exact loose_pre fm (stroke_small (by rw [fm.1]; decide))) | exact at_5 | exact len_side3 fin fn5 | exact len_side4 fin fn5 | exact len_side5 fin fn5 ed_73 | exact (bad_all fin fn5 ed_73 ed_79).1 | exact right_bad (bad_all fin fn5 ed_73 ed_79).2 | exact (good_all fin fn5 ed_174).1 | exact right_of fin fn5 ed_174 hb70 (by assumption) | exact left_of fin fn5 ed_174 (by assumption) | exact ⟨by show 0 ≤ 5; decide, fun _ h => by cases h⟩) | (first | omega | decide | (show _ ≤ sizeLine; decide) | (show _ < sizeLine; decide)))) (by first | (first | exact absurd hb87 (by rw [hb70, Bool.true_or]; decide) | (rw [fto.1]; exact ⟨fto.2.tok, fto.2.tok⟩) | (rw [fto.1]; exact fto.2.shp) | exact shp_fits fto.2.shp | (rw [fto.1]; exact shown_pre2 fto.2) | (rw [fto.1, told_shown fto.2]; rfl) | (rw [fto.1, told_shown fto.2]; exact ⟨fto.2.tok, fto.2.tok⟩) | exact ⟨fp_1, fp_2⟩ | exact ⟨fp_2, fp_1⟩ | (rw [fto.1]; exact ⟨tok_cut fto.2.tok, fto.2.tok⟩) | (rw [fto.1]; exact ⟨fto.2.tok, fo⟩) | (rw [fto.1]; exact rng_side fto.2) | exact cut_side2 fto.1 fto.2 | exact at_in (by omega) (of_decide_eq_true (by assumption)) | (rw [fto.1]; exact len_side6 fto.2) | exact at_in (by decide) (by rw [fd]; decide) | exact sp_side _ | exact sp_side1 _ | exact ⟨by rw [fm.1]; decide, fm.2⟩ | exact fs | exact at_in (by decide) (by rw [fm.1]; decide) | exact lt_line (by omega) | (have := fto.2.len; omega) | exact ⟨by rw [fm.1]; decide, fm.2, fs⟩ | exact len_side1 fz fi | exact len_side2 fz fi (by rw [← ed_39]; exact loose_pre fm (stroke_small (by rw [fm.1]; decide))) | exact at_5 | exact len_side3 fin fn5 | exact len_side4 fin fn5 | exact len_side5 fin fn5 ed_73 | exact (bad_all fin fn5 ed_73 ed_79).1 | exact right_bad (bad_all fin fn5 ed_73 ed_79).2 | exact (good_all fin fn5 ed_174).1 | exact right_of fin fn5 ed_174 hb70 (by assumption) | exact left_of fin fn5 ed_174 (by assumption) | exact ⟨by show 0 ≤ 5; decide, fun _ h => by cases h⟩) | (first | omega | decide | (show _ ≤ sizeLine; decide) | (show _ < sizeLine; decide)))) fun w_80 G83 H84 g82 (h_81 : rep K (d_73 ++ (mulS (" " : Str) ((getI d_1 (4 : Int)) % (3 : Int)))) w_80 G83) => ?_
        have h_script := up g82.g h_script
        have h_3 := up g82.g h_3
        have h_26 := up g82.g h_26
        have h_65 := up g82.g h_65
        have gr := gr.trans g82
        generalize ed_79 : (d_73 ++ (mulS (" " : Str) ((getI d_1 (4 : Int)) % (3 : Int)))) = d_79 at h_81 hM
        unfold m_law_17 at hM
        refine q_if gr.s (et_or (et_B (ev_var rfl h_65)) (fun hb85 => (et_not (et_test (ev_chain ev_int (ev_lenL (ev_var rfl h_26)) rv_le (fun _ => ev_int) rv_le))))) ?_ ?_
        · intro hb87 G88 H89 g86
          have h_script := up g86.g h_script
          have h_3 := up g86.g h_3
          have h_26 := up g86.g h_26
          have h_81 := up g86.g h_81
          have h_65 := up g86.g h_65
          have gr := gr.trans g86
          replace hM := condT hM hb87
          unfold m_law_7 at hM
          refine s_ret (K := K) gr.s (ev_andV (ev_eq (ev_inr (ev_call1 (ev_var rfl h_81) (by first | (first | exact absurd hb87 (by rw [hb70, Bool.true_or]; decide) | (rw [fto.1]; exact ⟨fto.2.tok, fto.2.tok⟩) | (rw [fto.1]; exact fto.2.shp) | exact shp_fits fto.2.shp | (rw [fto.1]; exact shown_pre2 fto.2) | (rw [fto.1, told_shown fto.2]; rfl) | (rw [fto.1, told_shown fto.2]; exact ⟨fto.2.tok, fto.2.tok⟩) | exact ⟨fp_1, fp_2⟩ | exact ⟨fp_2, fp_1⟩ | (rw [fto.1]; exact ⟨tok_cut fto.2.tok, fto.2.tok⟩) | (rw [fto.1]; exact ⟨fto.2.tok, fo⟩) | (rw [fto.1]; exact rng_side fto.2) | exact cut_side2 fto.1 fto.2 | exact at_in (by omega) (of_decide_eq_true (by assumption)) | (rw [fto.1]; exact len_side6 fto.2) | exact at_in (by decide) (by rw [fd]; decide) | exact sp_side _ | exact sp_side1 _ | exact ⟨by rw [fm.1]; decide, fm.2⟩ | exact fs | exact at_in (by decide) (by rw [fm.1]; decide) | exact lt_line (by omega) | (have := fto.2.len; omega) | exact ⟨by rw [fm.1]; decide, fm.2, fs⟩ | exact len_side1 fz fi | exact len_side2 fz fi (by rw [← ed_39]; exact loose_pre fm (stroke_small (by rw [fm.1]; decide))) | exact at_5 | exact len_side3 fin fn5 | exact len_side4 fin fn5 | exact len_side5 fin fn5 ed_73 | exact (bad_all fin fn5 ed_73 ed_79).1 | exact right_bad (bad_all fin fn5 ed_73 ed_79).2 | exact (good_all fin fn5 ed_174).1 | exact right_of fin fn5 ed_174 hb70 (by assumption) | exact left_of fin fn5 ed_174 (by assumption) | exact ⟨by show 0 ≤ 5; decide, fun _ h => by cases h⟩) | (first | omega | decide))) (by first | (first | exact absurd hb87 (by rw [hb70, Bool.true_or]; decide) | (rw [fto.1]; exact ⟨fto.2.tok, fto.2.tok⟩) | (rw [fto.1]; exact fto.2.shp) | exact shp_fits fto.2.shp | (rw [fto.1]; exact shown_pre2 fto.2) | (rw [fto.1, told_shown fto.2]; rfl) | (rw [fto.1, told_shown fto.2]; exact ⟨fto.2.tok, fto.2.tok⟩) | exact ⟨fp_1, fp_2⟩ | exact ⟨fp_2, fp_1⟩ | (rw [fto.1]; exact ⟨tok_cut fto.2.tok, fto.2.tok⟩) | (rw [fto.1]; exact ⟨fto.2.tok, fo⟩) | (rw [fto.1]; exact rng_side fto.2) | exact cut_side2 fto.1 fto.2 | exact at_in (by omega) (of_decide_eq_true (by assumption)) | (rw [fto.1]; exact len_side6 fto.2) | exact at_in (by decide) (by rw [fd]; decide) | exact sp_side _ | exact sp_side1 _ | exact ⟨by rw [fm.1]; decide, fm.2⟩ | exact fs | exact at_in (by decide) (by rw [fm.1]; decide) | exact lt_line (by omega) | (have := fto.2.len; omega) | exact ⟨by rw [fm.1]; decide, fm.2, fs⟩ | exact len_side1 fz fi | exact len_side2 fz fi (by rw [← ed_39]; exact loose_pre fm (stroke_small (by rw [fm.1]; decide))) | exact at_5 | exact len_side3 fin fn5 | exact len_side4 fin fn5 | exact len_side5 fin fn5 ed_73 | exact (bad_all fin fn5 ed_73 ed_79).1 | exact right_bad (bad_all fin fn5 ed_73 ed_79).2 | exact (good_all fin fn5 ed_174).1 | exact right_of fin fn5 ed_174 hb70 (by assumption) | exact left_of fin fn5 ed_174 (by assumption) | exact ⟨by show 0 ≤ 5; decide, fun _ h => by cases h⟩) | (first | omega | decide))) ev_str) (fun hb90 => (ev_eq (ev_call1 (ev_tpl ea_nil (by show _ ≤ sizeLine; decide)) (by first | (first | exact absurd hb87 (by rw [hb70, Bool.true_or]; decide) | (rw [fto.1]; exact ⟨fto.2.tok, fto.2.tok⟩) | (rw [fto.1]; exact fto.2.shp) | exact shp_fits fto.2.shp | (rw [fto.1]; exact shown_pre2 fto.2) | (rw [fto.1, told_shown fto.2]; rfl) | (rw [fto.1, told_shown fto.2]; exact ⟨fto.2.tok, fto.2.tok⟩) | exact ⟨fp_1, fp_2⟩ | exact ⟨fp_2, fp_1⟩ | (rw [fto.1]; exact ⟨tok_cut fto.2.tok, fto.2.tok⟩) | (rw [fto.1]; exact ⟨fto.2.tok, fo⟩) | (rw [fto.1]; exact rng_side fto.2) | exact cut_side2 fto.1 fto.2 | exact at_in (by omega) (of_decide_eq_true (by assumption)) | (rw [fto.1]; exact len_side6 fto.2) | exact at_in (by decide) (by rw [fd]; decide) | exact sp_side _ | exact sp_side1 _ | exact ⟨by rw [fm.1]; decide, fm.2⟩ | exact fs | exact at_in (by decide) (by rw [fm.1]; decide) | exact lt_line (by omega) | (have := fto.2.len; omega) | exact ⟨by rw [fm.1]; decide, fm.2, fs⟩ | exact len_side1 fz fi | exact len_side2 fz fi (by rw [← ed_39]; exact loose_pre fm (stroke_small (by rw [fm.1]; decide))) | exact at_5 | exact len_side3 fin fn5 | exact len_side4 fin fn5 | exact len_side5 fin fn5 ed_73 | exact (bad_all fin fn5 ed_73 ed_79).1 | exact right_bad (bad_all fin fn5 ed_73 ed_79).2 | exact (good_all fin fn5 ed_174).1 | exact right_of fin fn5 ed_174 hb70 (by assumption) | exact left_of fin fn5 ed_174 (by assumption) | exact ⟨by show 0 ≤ 5; decide, fun _ h => by cases h⟩) | (first | omega | decide))) ev_str))) fun u Gr Hr gq hu => ?_
          exact hQ u Gr Hr (gr.trans gq) (by rw [hM]; exact hu)
        · intro hb87 G91 H92 g86
          have h_script := up g86.g h_script
          have h_3 := up g86.g h_3
          have h_26 := up g86.g h_26
          have h_81 := up g86.g h_81
          have h_65 := up g86.g h_65
          have gr := gr.trans g86
          replace hM := condF hM hb87
          refine s_next ?_
          refine nx_mk ?_
          refine q_asg (K := K) gr.s (ev_inl (ev_call1 (ev_var rfl h_81) (by first | (first | exact absurd hb87 (by rw [hb70, Bool.true_or]; decide) | (rw [fto.1]; exact ⟨fto.2.tok, fto.2.tok⟩) | (rw [fto.1]; exact fto.2.shp) | exact shp_fits fto.2.shp | (rw [fto.1]; exact shown_pre2 fto.2) | (rw [fto.1, told_shown fto.2]; rfl) | (rw [fto.1, told_shown fto.2]; exact ⟨fto.2.tok, fto.2.tok⟩) | exact ⟨fp_1, fp_2⟩ | exact ⟨fp_2, fp_1⟩ | (rw [fto.1]; exact ⟨tok_cut fto.2.tok, fto.2.tok⟩) | (rw [fto.1]; exact ⟨fto.2.tok, fo⟩) | (rw [fto.1]; exact rng_side fto.2) | exact cut_side2 fto.1 fto.2 | exact at_in (by omega) (of_decide_eq_true (by assumption)) | (rw [fto.1]; exact len_side6 fto.2) | exact at_in (by decide) (by rw [fd]; decide) | exact sp_side _ | exact sp_side1 _ | exact ⟨by rw [fm.1]; decide, fm.2⟩ | exact fs | exact at_in (by decide) (by rw [fm.1]; decide) | exact lt_line (by omega) | (have := fto.2.len; omega) | exact ⟨by rw [fm.1]; decide, fm.2, fs⟩ | exact len_side1 fz fi | exact len_side2 fz fi (by rw [← ed_39]; exact loose_pre fm (stroke_small (by rw [fm.1]; decide))) | exact at_5 | exact len_side3 fin fn5 | exact len_side4 fin fn5 | exact len_side5 fin fn5 ed_73 | exact (bad_all fin fn5 ed_73 ed_79).1 | exact right_bad (bad_all fin fn5 ed_73 ed_79).2 | exact (good_all fin fn5 ed_174).1 | exact right_of fin fn5 ed_174 hb70 (by assumption) | exact left_of fin fn5 ed_174 (by assumption) | exact ⟨by show 0 ≤ 5; decide, fun _ h => by cases h⟩) | (first | omega | decide))) (by first | (first | exact absurd hb87 (by rw [hb70, Bool.true_or]; decide) | (rw [fto.1]; exact ⟨fto.2.tok, fto.2.tok⟩) | (rw [fto.1]; exact fto.2.shp) | exact shp_fits fto.2.shp | (rw [fto.1]; exact shown_pre2 fto.2) | (rw [fto.1, told_shown fto.2]; rfl) | (rw [fto.1, told_shown fto.2]; exact ⟨fto.2.tok, fto.2.tok⟩) | exact ⟨fp_1, fp_2⟩ | exact ⟨fp_2, fp_1⟩ | (rw [fto.1]; exact ⟨tok_cut fto.2.tok, fto.2.tok⟩) | (rw [fto.1]; exact ⟨fto.2.tok, fo⟩) | (rw [fto.1]; exact rng_side fto.2) | exact cut_side2 fto.1 fto.2 | exact at_in (by omega) (of_decide_eq_true (by assumption)) | (rw [fto.1]; exact len_side6 fto.2) | exact at_in (by decide) (by rw [fd]; decide) | exact sp_side _ | exact sp_side1 _ | exact ⟨by rw [fm.1]; decide, fm.2⟩ | exact fs | exact at_in (by decide) (by rw [fm.1]; decide) | exact lt_line (by omega) | (have := fto.2.len; omega) | exact ⟨by rw [fm.1]; decide, fm.2, fs⟩ | exact len_side1 fz fi | exact len_side2 fz fi (by rw [← ed_39]; exact loose_pre fm (stroke_small (by rw [fm.1]; decide))) | exact at_5 | exact len_side3 fin fn5 | exact len_side4 fin fn5 | exact len_side5 fin fn5 ed_73 | exact (bad_all fin fn5 ed_73 ed_79).1 | exact right_bad (bad_all fin fn5 ed_73 ed_79).2 | exact (good_all fin fn5 ed_174).1 | exact right_of fin fn5 ed_174 hb70 (by assumption) | exact left_of fin fn5 ed_174 (by assumption) | exact ⟨by show 0 ≤ 5; decide, fun _ h => by cases h⟩) | (first | omega | decide))) fun w_94 G97 H98 g96 (h_95 : rep K (getL (m__law_told d_79)) w_94 G97) => ?_
          have h_script := up g96.g h_script
          have h_3 := up g96.g h_3
          have h_26 := up g96.g h_26
          have h_81 := up g96.g h_81
          have h_65 := up g96.g h_65
          have gr := gr.trans g96
          generalize ed_93 : (getL (m__law_told d_79)) = d_93 at h_95 hM
          unfold m_law_16 at hM
          have fto : d_93 = ⟨d_24⟩ ∧ Fine d_24 := by first | exact absurd hb87 (by rw [hb70, Bool.true_or]; decide) | exact told_eq fin fn5 ed_174 (by assumption) ed_93
          refine q_if gr.s (et_or (et_test (ev_neT (ev_var rfl h_95) (ev_tupleL (ev_var rfl h_26)) (by first | (first | exact absurd hb87 (by rw [hb70, Bool.true_or]; decide) | (rw [fto.1]; exact ⟨fto.2.tok, fto.2.tok⟩) | (rw [fto.1]; exact fto.2.shp) | exact shp_fits fto.2.shp | (rw [fto.1]; exact shown_pre2 fto.2) | (rw [fto.1, told_shown fto.2]; rfl) | (rw [fto.1, told_shown fto.2]; exact ⟨fto.2.tok, fto.2.tok⟩) | exact ⟨fp_1, fp_2⟩ | exact ⟨fp_2, fp_1⟩ | (rw [fto.1]; exact ⟨tok_cut fto.2.tok, fto.2.tok⟩) | (rw [fto.1]; exact ⟨fto.2.tok, fo⟩) | (rw [fto.1]; exact rng_side fto.2) | exact cut_side2 fto.1 fto.2 | exact at_in (by omega) (of_decide_eq_true (by assumption)) | (rw [fto.1]; exact len_side6 fto.2) | exact at_in (by decide) (by rw [fd]; decide) | exact sp_side _ | exact sp_side1 _ | exact ⟨by rw [fm.1]; decide, fm.2⟩ | exact fs | exact at_in (by decide) (by rw [fm.1]; decide) | exact lt_line (by omega) | (have := fto.2.len; omega) | exact ⟨by rw [fm.1]; decide, fm.2, fs⟩ | exact len_side1 fz fi | exact len_side2 fz fi (by rw [← ed_39]; exact loose_pre fm (stroke_small (by rw [fm.1]; decide))) | exact at_5 | exact len_side3 fin fn5 | exact len_side4 fin fn5 | exact len_side5 fin fn5 ed_73 | exact (bad_all fin fn5 ed_73 ed_79).1 | exact right_bad (bad_all fin fn5 ed_73 ed_79).2 | exact (good_all fin fn5 ed_174).1 | exact right_of fin fn5 ed_174 hb70 (by assumption) | exact left_of fin fn5 ed_174 (by assumption) | exact ⟨by show 0 ≤ 5; decide, fun _ h => by cases h⟩) | (first | omega | decide | (show _ ≤ sizeLine; decide) | (show _ < sizeLine; decide))))) (fun hb100 => (et_or (et_not (et_B (ev_isTup (ev_var rfl h_95)))) (fun hb99 => (et_test (ev_ne (ev_call1 (ev_var rfl h_95) (by first | (first | exact absurd hb87 (by rw [hb70, Bool.true_or]; decide) | (rw [fto.1]; exact ⟨fto.2.tok, fto.2.tok⟩) | (rw [fto.1]; exact fto.2.shp) | exact shp_fits fto.2.shp | (rw [fto.1]; exact shown_pre2 fto.2) | (rw [fto.1, told_shown fto.2]; rfl) | (rw [fto.1, told_shown fto.2]; exact ⟨fto.2.tok, fto.2.tok⟩) | exact ⟨fp_1, fp_2⟩ | exact ⟨fp_2, fp_1⟩ | (rw [fto.1]; exact ⟨tok_cut fto.2.tok, fto.2.tok⟩) | (rw [fto.1]; exact ⟨fto.2.tok, fo⟩) | (rw [fto.1]; exact rng_side fto.2) | exact cut_side2 fto.1 fto.2 | exact at_in (by omega) (of_decide_eq_true (by assumption)) | (rw [fto.1]; exact len_side6 fto.2) | exact at_in (by decide) (by rw [fd]; decide) | exact sp_side _ | exact sp_side1 _ | exact ⟨by rw [fm.1]; decide, fm.2⟩ | exact fs | exact at_in (by decide) (by rw [fm.1]; decide) | exact lt_line (by omega) | (have := fto.2.len; omega) | exact ⟨by rw [fm.1]; decide, fm.2, fs⟩ | exact len_side1 fz fi | exact len_side2 fz fi (by rw [← ed_39]; exact loose_pre fm (stroke_small (by rw [fm.1]; decide))) | exact at_5 | exact len_side3 fin fn5 | exact len_side4 fin fn5 | exact len_side5 fin fn5 ed_73 | exact (bad_all fin fn5 ed_73 ed_79).1 | exact right_bad (bad_all fin fn5 ed_73 ed_79).2 | exact (good_all fin fn5 ed_174).1 | exact right_of fin fn5 ed_174 hb70 (by assumption) | exact left_of fin fn5 ed_174 (by assumption) | exact ⟨by show 0 ≤ 5; decide, fun _ h => by cases h⟩) | (first | omega | decide))) (ev_join ev_str (ev_var rfl h_26) (by first | (first | exact absurd hb87 (by rw [hb70, Bool.true_or]; decide) | (rw [fto.1]; exact ⟨fto.2.tok, fto.2.tok⟩) | (rw [fto.1]; exact fto.2.shp) | exact shp_fits fto.2.shp | (rw [fto.1]; exact shown_pre2 fto.2) | (rw [fto.1, told_shown fto.2]; rfl) | (rw [fto.1, told_shown fto.2]; exact ⟨fto.2.tok, fto.2.tok⟩) | exact ⟨fp_1, fp_2⟩ | exact ⟨fp_2, fp_1⟩ | (rw [fto.1]; exact ⟨tok_cut fto.2.tok, fto.2.tok⟩) | (rw [fto.1]; exact ⟨fto.2.tok, fo⟩) | (rw [fto.1]; exact rng_side fto.2) | exact cut_side2 fto.1 fto.2 | exact at_in (by omega) (of_decide_eq_true (by assumption)) | (rw [fto.1]; exact len_side6 fto.2) | exact at_in (by decide) (by rw [fd]; decide) | exact sp_side _ | exact sp_side1 _ | exact ⟨by rw [fm.1]; decide, fm.2⟩ | exact fs | exact at_in (by decide) (by rw [fm.1]; decide) | exact lt_line (by omega) | (have := fto.2.len; omega) | exact ⟨by rw [fm.1]; decide, fm.2, fs⟩ | exact len_side1 fz fi | exact len_side2 fz fi (by rw [← ed_39]; exact loose_pre fm (stroke_small (by rw [fm.1]; decide))) | exact at_5 | exact len_side3 fin fn5 | exact len_side4 fin fn5 | exact len_side5 fin fn5 ed_73 | exact (bad_all fin fn5 ed_73 ed_79).1 | exact right_bad (bad_all fin fn5 ed_73 ed_79).2 | exact (good_all fin fn5 ed_174).1 | exact right_of fin fn5 ed_174 hb70 (by assumption) | exact left_of fin fn5 ed_174 (by assumption) | exact ⟨by show 0 ≤ 5; decide, fun _ h => by cases h⟩) | (first | omega | decide | (show _ ≤ sizeLine; decide) | (show _ < sizeLine; decide)))))))))) ?_ ?_
          · intro hb102 G103 H104 g101
            have h_script := up g101.g h_script
            have h_3 := up g101.g h_3
            have h_26 := up g101.g h_26
            have h_81 := up g101.g h_81
            have h_65 := up g101.g h_65
            have h_95 := up g101.g h_95
            have gr := gr.trans g101
            replace hM := condT hM hb102
            refine s_ret (K := K) gr.s ev_bl fun u Gr Hr gq hu => ?_
            exact hQ u Gr Hr (gr.trans gq) (by rw [hM]; exact hu)
          · intro hb102 G105 H106 g101
            have h_script := up g101.g h_script
            have h_3 := up g101.g h_3
            have h_26 := up g101.g h_26
            have h_81 := up g101.g h_81
            have h_65 := up g101.g h_65
            have h_95 := up g101.g h_95
            have gr := gr.trans g101
            replace hM := condF hM hb102
            unfold m_law_15 at hM
            refine s_next ?_
            refine nx_mk ?_
            refine q_if gr.s (et_test (ev_neT (ev_inl (ev_call1 (ev_call1 (ev_var rfl h_95) (by first | (first | exact absurd hb87 (by rw [hb70, Bool.true_or]; decide) | (rw [fto.1]; exact ⟨fto.2.tok, fto.2.tok⟩) | (rw [fto.1]; exact fto.2.shp) | exact shp_fits fto.2.shp | (rw [fto.1]; exact shown_pre2 fto.2) | (rw [fto.1, told_shown fto.2]; rfl) | (rw [fto.1, told_shown fto.2]; exact ⟨fto.2.tok, fto.2.tok⟩) | exact ⟨fp_1, fp_2⟩ | exact ⟨fp_2, fp_1⟩ | (rw [fto.1]; exact ⟨tok_cut fto.2.tok, fto.2.tok⟩) | (rw [fto.1]; exact ⟨fto.2.tok, fo⟩) | (rw [fto.1]; exact rng_side fto.2) | exact cut_side2 fto.1 fto.2 | exact at_in (by omega) (of_decide_eq_true (by assumption)) | (rw [fto.1]; exact len_side6 fto.2) | exact at_in (by decide) (by rw [fd]; decide) | exact sp_side _ | exact sp_side1 _ | exact ⟨by rw [fm.1]; decide, fm.2⟩ | exact fs | exact at_in (by decide) (by rw [fm.1]; decide) | exact lt_line (by omega) | (have := fto.2.len; omega) | exact ⟨by rw [fm.1]; decide, fm.2, fs⟩ | exact len_side1 fz fi | exact len_side2 fz fi (by rw [← ed_39]; exact loose_pre fm (stroke_small (by rw [fm.1]; decide))) | exact at_5 | exact len_side3 fin fn5 | exact len_side4 fin fn5 | exact len_side5 fin fn5 ed_73 | exact (bad_all fin fn5 ed_73 ed_79).1 | exact right_bad (bad_all fin fn5 ed_73 ed_79).2 | exact (good_all fin fn5 ed_174).1 | exact right_of fin fn5 ed_174 hb70 (by assumption) | exact left_of fin fn5 ed_174 (by assumption) | exact ⟨by show 0 ≤ 5; decide, fun _ h => by cases h⟩) | (first | omega | decide))) (by first | (first | exact absurd hb87 (by rw [hb70, Bool.true_or]; decide) | (rw [fto.1]; exact ⟨fto.2.tok, fto.2.tok⟩) | (rw [fto.1]; exact fto.2.shp) | exact shp_fits fto.2.shp | (rw [fto.1]; exact shown_pre2 fto.2) | (rw [fto.1, told_shown fto.2]; rfl) | (rw [fto.1, told_shown fto.2]; exact ⟨fto.2.tok, fto.2.tok⟩) | exact ⟨fp_1, fp_2⟩ | exact ⟨fp_2, fp_1⟩ | (rw [fto.1]; exact ⟨tok_cut fto.2.tok, fto.2.tok⟩) | (rw [fto.1]; exact ⟨fto.2.tok, fo⟩) | (rw [fto.1]; exact rng_side fto.2) | exact cut_side2 fto.1 fto.2 | exact at_in (by omega) (of_decide_eq_true (by assumption)) | (rw [fto.1]; exact len_side6 fto.2) | exact at_in (by decide) (by rw [fd]; decide) | exact sp_side _ | exact sp_side1 _ | exact ⟨by rw [fm.1]; decide, fm.2⟩ | exact fs | exact at_in (by decide) (by rw [fm.1]; decide) | exact lt_line (by omega) | (have := fto.2.len; omega) | exact ⟨by rw [fm.1]; decide, fm.2, fs⟩ | exact len_side1 fz fi | exact len_side2 fz fi (by rw [← ed_39]; exact loose_pre fm (stroke_small (by rw [fm.1]; decide))) | exact at_5 | exact len_side3 fin fn5 | exact len_side4 fin fn5 | exact len_side5 fin fn5 ed_73 | exact (bad_all fin fn5 ed_73 ed_79).1 | exact right_bad (bad_all fin fn5 ed_73 ed_79).2 | exact (good_all fin fn5 ed_174).1 | exact right_of fin fn5 ed_174 hb70 (by assumption) | exact left_of fin fn5 ed_174 (by assumption) | exact ⟨by show 0 ≤ 5; decide, fun _ h => by cases h⟩) | (first | omega | decide))) (by first | (first | exact absurd hb87 (by rw [hb70, Bool.true_or]; decide) | (rw [fto.1]; exact ⟨fto.2.tok, fto.2.tok⟩) | (rw [fto.1]; exact fto.2.shp) | exact shp_fits fto.2.shp | (rw [fto.1]; exact shown_pre2 fto.2) | (rw [fto.1, told_shown fto.2]; rfl) | (rw [fto.1, told_shown fto.2]; exact ⟨fto.2.tok, fto.2.tok⟩) | exact ⟨fp_1, fp_2⟩ | exact ⟨fp_2, fp_1⟩ | (rw [fto.1]; exact ⟨tok_cut fto.2.tok, fto.2.tok⟩) | (rw [fto.1]; exact ⟨fto.2.tok, fo⟩) | (rw [fto.1]; exact rng_side fto.2) | exact cut_side2 fto.1 fto.2 | exact at_in (by omega) (of_decide_eq_true (by assumption)) | (rw [fto.1]; exact len_side6 fto.2) | exact at_in (by decide) (by rw [fd]; decide) | exact sp_side _ | exact sp_side1 _ | exact ⟨by rw [fm.1]; decide, fm.2⟩ | exact fs | exact at_in (by decide) (by rw [fm.1]; decide) | exact lt_line (by omega) | (have := fto.2.len; omega) | exact ⟨by rw [fm.1]; decide, fm.2, fs⟩ | exact len_side1 fz fi | exact len_side2 fz fi (by rw [← ed_39]; exact loose_pre fm (stroke_small (by rw [fm.1]; decide))) | exact at_5 | exact len_side3 fin fn5 | exact len_side4 fin fn5 | exact len_side5 fin fn5 ed_73 | exact (bad_all fin fn5 ed_73 ed_79).1 | exact right_bad (bad_all fin fn5 ed_73 ed_79).2 | exact (good_all fin fn5 ed_174).1 | exact right_of fin fn5 ed_174 hb70 (by assumption) | exact left_of fin fn5 ed_174 (by assumption) | exact ⟨by show 0 ≤ 5; decide, fun _ h => by cases h⟩) | (first | omega | decide))) (ev_var rfl h_95) (by first | (first | exact absurd hb87 (by rw [hb70, Bool.true_or]; decide) | (rw [fto.1]; exact ⟨fto.2.tok, fto.2.tok⟩) | (rw [fto.1]; exact fto.2.shp) | exact shp_fits fto.2.shp | (rw [fto.1]; exact shown_pre2 fto.2) | (rw [fto.1, told_shown fto.2]; rfl) | (rw [fto.1, told_shown fto.2]; exact ⟨fto.2.tok, fto.2.tok⟩) | exact ⟨fp_1, fp_2⟩ | exact ⟨fp_2, fp_1⟩ | (rw [fto.1]; exact ⟨tok_cut fto.2.tok, fto.2.tok⟩) | (rw [fto.1]; exact ⟨fto.2.tok, fo⟩) | (rw [fto.1]; exact rng_side fto.2) | exact cut_side2 fto.1 fto.2 | exact at_in (by omega) (of_decide_eq_true (by assumption)) | (rw [fto.1]; exact len_side6 fto.2) | exact at_in (by decide) (by rw [fd]; decide) | exact sp_side _ | exact sp_side1 _ | exact ⟨by rw [fm.1]; decide, fm.2⟩ | exact fs | exact at_in (by decide) (by rw [fm.1]; decide) | exact lt_line (by omega) | (have := fto.2.len; omega) | exact ⟨by rw [fm.1]; decide, fm.2, fs⟩ | exact len_side1 fz fi | exact len_side2 fz fi (by rw [← ed_39]; exact loose_pre fm (stroke_small (by rw [fm.1]; decide))) | exact at_5 | exact len_side3 fin fn5 | exact len_side4 fin fn5 | exact len_side5 fin fn5 ed_73 | exact (bad_all fin fn5 ed_73 ed_79).1 | exact right_bad (bad_all fin fn5 ed_73 ed_79).2 | exact (good_all fin fn5 ed_174).1 | exact right_of fin fn5 ed_174 hb70 (by assumption) | exact left_of fin fn5 ed_174 (by assumption) | exact ⟨by show 0 ≤ 5; decide, fun _ h => by cases h⟩) | (first | omega | decide | (show _ ≤ sizeLine; decide) | (show _ < sizeLine; decide))))) ?_ ?_
            · intro hb108 G109 H110 g107
              have h_script := up g107.g h_script
              have h_3 := up g107.g h_3
              have h_26 := up g107.g h_26
              have h_81 := up g107.g h_81
              have h_65 := up g107.g h_65
              have h_95 := up g107.g h_95
              have gr := gr.trans g107
              replace hM := condT hM hb108
              refine s_ret (K := K) gr.s ev_bl fun u Gr Hr gq hu => ?_
              exact hQ u Gr Hr (gr.trans gq) (by rw [hM]; exact hu)
            · intro hb108 G111 H112 g107
              have h_script := up g107.g h_script
              have h_3 := up g107.g h_3
              have h_26 := up g107.g h_26
              have h_81 := up g107.g h_81
              have h_65 := up g107.g h_65
              have h_95 := up g107.g h_95
              have gr := gr.trans g107
              replace hM := condF hM hb108
              refine s_next ?_
              refine nx_mk ?_
              refine q_asg (K := K) gr.s (ev_add ev_int (ev_mod (ev_int1 (ev_ixL (ev_var rfl h_3) ev_int (atI_get (by first | (first | exact absurd hb87 (by rw [hb70, Bool.true_or]; decide) | (rw [fto.1]; exact ⟨fto.2.tok, fto.2.tok⟩) | (rw [fto.1]; exact fto.2.shp) | exact shp_fits fto.2.shp | (rw [fto.1]; exact shown_pre2 fto.2) | (rw [fto.1, told_shown fto.2]; rfl) | (rw [fto.1, told_shown fto.2]; exact ⟨fto.2.tok, fto.2.tok⟩) | exact ⟨fp_1, fp_2⟩ | exact ⟨fp_2, fp_1⟩ | (rw [fto.1]; exact ⟨tok_cut fto.2.tok, fto.2.tok⟩) | (rw [fto.1]; exact ⟨fto.2.tok, fo⟩) | (rw [fto.1]; exact rng_side fto.2) | exact cut_side2 fto.1 fto.2 | exact at_in (by omega) (of_decide_eq_true (by assumption)) | (rw [fto.1]; exact len_side6 fto.2) | exact at_in (by decide) (by rw [fd]; decide) | exact sp_side _ | exact sp_side1 _ | exact ⟨by rw [fm.1]; decide, fm.2⟩ | exact fs | exact at_in (by decide) (by rw [fm.1]; decide) | exact lt_line (by omega) | (have := fto.2.len; omega) | exact ⟨by rw [fm.1]; decide, fm.2, fs⟩ | exact len_side1 fz fi | exact len_side2 fz fi (by rw [← ed_39]; exact loose_pre fm (stroke_small (by rw [fm.1]; decide))) | exact at_5 | exact len_side3 fin fn5 | exact len_side4 fin fn5 | exact len_side5 fin fn5 ed_73 | exact (bad_all fin fn5 ed_73 ed_79).1 | exact right_bad (bad_all fin fn5 ed_73 ed_79).2 | exact (good_all fin fn5 ed_174).1 | exact right_of fin fn5 ed_174 hb70 (by assumption) | exact left_of fin fn5 ed_174 (by assumption) | exact ⟨by show 0 ≤ 5; decide, fun _ h => by cases h⟩) | (first | decide | (refine at_in ?_ ?_ <;> omega) | (refine at_neg ?_ ?_ <;> omega)))))) (ev_lenL (ev_var rfl h_26)) (by first | (first | exact absurd hb87 (by rw [hb70, Bool.true_or]; decide) | (rw [fto.1]; exact ⟨fto.2.tok, fto.2.tok⟩) | (rw [fto.1]; exact fto.2.shp) | exact shp_fits fto.2.shp | (rw [fto.1]; exact shown_pre2 fto.2) | (rw [fto.1, told_shown fto.2]; rfl) | (rw [fto.1, told_shown fto.2]; exact ⟨fto.2.tok, fto.2.tok⟩) | exact ⟨fp_1, fp_2⟩ | exact ⟨fp_2, fp_1⟩ | (rw [fto.1]; exact ⟨tok_cut fto.2.tok, fto.2.tok⟩) | (rw [fto.1]; exact ⟨fto.2.tok, fo⟩) | (rw [fto.1]; exact rng_side fto.2) | exact cut_side2 fto.1 fto.2 | exact at_in (by omega) (of_decide_eq_true (by assumption)) | (rw [fto.1]; exact len_side6 fto.2) | exact at_in (by decide) (by rw [fd]; decide) | exact sp_side _ | exact sp_side1 _ | exact ⟨by rw [fm.1]; decide, fm.2⟩ | exact fs | exact at_in (by decide) (by rw [fm.1]; decide) | exact lt_line (by omega) | (have := fto.2.len; omega) | exact ⟨by rw [fm.1]; decide, fm.2, fs⟩ | exact len_side1 fz fi | exact len_side2 fz fi (by rw [← ed_39]; exact loose_pre fm (stroke_small (by rw [fm.1]; decide))) | exact at_5 | exact len_side3 fin fn5 | exact len_side4 fin fn5 | exact len_side5 fin fn5 ed_73 | exact (bad_all fin fn5 ed_73 ed_79).1 | exact right_bad (bad_all fin fn5 ed_73 ed_79).2 | exact (good_all fin fn5 ed_174).1 | exact right_of fin fn5 ed_174 hb70 (by assumption) | exact left_of fin fn5 ed_174 (by assumption) | exact ⟨by show 0 ≤ 5; decide, fun _ h => by cases h⟩) | (first | omega | decide | (show _ ≤ sizeLine; decide) | (show _ < sizeLine; decide))))) fun w_114 G117 H118 g116 (h_115 : rep K ((1 : Int) + ((getI d_1 (5 : Int)) % ((d_24).length : Int))) w_114 G117) => ?_
              have h_script := up g116.g h_script
              have h_3 := up g116.g h_3
              have h_26 := up g116.g h_26
              have h_81 := up g116.g h_81
              have h_65 := up g116.g h_65
              have h_95 := up g116.g h_95
              have gr := gr.trans g116
              generalize ed_113 : ((1 : Int) + ((getI d_1 (5 : Int)) % ((d_24).length : Int))) = d_113 at h_115 hM
              unfold m_law_14 at hM
              refine q_forL (K := K) gr.s (ev_lst (ea_cons (ev_tup2 (ev_tpl (ea_cons ev_str ea_nil) (by show _ ≤ sizeLine; decide)) (ev_tpl (ea_cons ev_str ea_nil) (by show _ ≤ sizeLine; decide))) (ea_cons (ev_tup2 (ev_tpl (ea_cons ev_str ea_nil) (by show _ ≤ sizeLine; decide)) (ev_tpl (ea_cons ev_str ea_nil) (by show _ ≤ sizeLine; decide))) (ea_cons (ev_tup2 (ev_tpl (ea_cons ev_str ea_nil) (by show _ ≤ sizeLine; decide)) (ev_tpl (ea_cons ev_str ea_nil) (by show _ ≤ sizeLine; decide))) (ea_cons (ev_tup2 (ev_tpl (ea_cons ev_str (ea_cons ev_str ea_nil)) (by show _ ≤ sizeLine; decide)) (ev_tpl (ea_cons ev_str (ea_cons ev_str ea_nil)) (by show _ ≤ sizeLine; decide))) ea_nil)))) (by first | (first | exact absurd hb87 (by rw [hb70, Bool.true_or]; decide) | (rw [fto.1]; exact ⟨fto.2.tok, fto.2.tok⟩) | (rw [fto.1]; exact fto.2.shp) | exact shp_fits fto.2.shp | (rw [fto.1]; exact shown_pre2 fto.2) | (rw [fto.1, told_shown fto.2]; rfl) | (rw [fto.1, told_shown fto.2]; exact ⟨fto.2.tok, fto.2.tok⟩) | exact ⟨fp_1, fp_2⟩ | exact ⟨fp_2, fp_1⟩ | (rw [fto.1]; exact ⟨tok_cut fto.2.tok, fto.2.tok⟩) | (rw [fto.1]; exact ⟨fto.2.tok, fo⟩) | (rw [fto.1]; exact rng_side fto.2) | exact cut_side2 fto.1 fto.2 | exact at_in (by omega) (of_decide_eq_true (by assumption)) | (rw [fto.1]; exact len_side6 fto.2) | exact at_in (by decide) (by rw [fd]; decide) | exact sp_side _ | exact sp_side1 _ | exact ⟨by rw [fm.1]; decide, fm.2⟩ | exact fs | exact at_in (by decide) (by rw [fm.1]; decide) | exact lt_line (by omega) | (have := fto.2.len; omega) | exact ⟨by rw [fm.1]; decide, fm.2, fs⟩ | exact len_side1 fz fi | exact len_side2 fz fi (by rw [← ed_39]; exact loose_pre fm (stroke_small (by rw [fm.1]; decide))) | exact at_5 | exact len_side3 fin fn5 | exact len_side4 fin fn5 | exact len_side5 fin fn5 ed_73 | exact (bad_all fin fn5 ed_73 ed_79).1 | exact right_bad (bad_all fin fn5 ed_73 ed_79).2 | exact (good_all fin fn5 ed_174).1 | exact right_of fin fn5 ed_174 hb70 (by assumption) | exact left_of fin fn5 ed_174 (by assumption) | exact ⟨by show 0 ≤ 5; decide, fun _ h => by cases h⟩) | (first | (show _ ≤ sizeLine; decide) | (simp only [List.length_cons, List.length_nil, List.length_append, sizeLine_eq]; omega) | (fail)))) fun G122 H123 xs124 g125 rs126 => ?_
              have h_script := up g125.g h_script
              have h_3 := up g125.g h_3
              have h_26 := up g125.g h_26
              have h_81 := up g125.g h_81
              have h_65 := up g125.g h_65
              have h_95 := up g125.g h_95
              have h_115 := up g125.g h_115
              have gr := gr.trans g125
              refine ⟨fun i_ σ_ H_ => ∃ st_ : Unit, (runL m_law_9 () (List.take i_ (((Tpl.mk (("F1" : Str) :: ([] : List Str))), (Tpl.mk (("F12" : Str) :: ([] : List Str)))) :: (((Tpl.mk (("S" : Str) :: ([] : List Str))), (Tpl.mk (("Space" : Str) :: ([] : List Str)))) :: (((Tpl.mk (("Ctrl+P" : Str) :: ([] : List Str))), (Tpl.mk (("Ctrl+PageUp" : Str) :: ([] : List Str)))) :: (((Tpl.mk (("A" : Str) :: (("F1" : Str) :: ([] : List Str)))), (Tpl.mk (("A" : Str) :: (("F12" : Str) :: ([] : List Str))))) :: ([] : List ((Tpl Str) × (Tpl Str))))))))) = Step.go st_ ∧ ∃ (G171 : Hp) (o_127 : Option V) (o_128 : Option V), Grow Ge He G171 H_ ∧ Same G122 G171 ∧ σ_ = [some w_script, some w_2, some (V.ref a9), some w_80, o_32, some w_64, some w_94, some w_114, o_127, o_128, none, none, o_30, o_31], ⟨(), rfl, _, _, _, gr, Same.refl _, rfl⟩, ?_, ?_, ?_⟩
              · rintro i_ σ_ H_ ⟨st_, hgo_, G171, o_127, o_128, gr, sg0, rfl⟩
                exact sg0.trans gr.s
              · rintro i_0 d_119 w_120 σ_0 H_0 hx0 h_121 ⟨st_0, hgo0, G171, o_127, o_128, gr, sg0, rfl⟩
                have h_script := up sg0 h_script
                have h_3 := up sg0 h_3
                have h_26 := up sg0 h_26
                have h_81 := up sg0 h_81
                have h_65 := up sg0 h_65
                have h_95 := up sg0 h_95
                have h_115 := up sg0 h_115
                have h_121 := up sg0 h_121
                refine pair_apart h_121 gr.s fun w_130 w_133 h_131 h_134 => ?_
                have hMo0 := hM
                clear hM
                obtain ⟨⟩ := st_0
                have hM : m_law_9 () d_119 = m_law_9 () d_119 := rfl
                conv at hM => rhs; unfold m_law_9; unfold m_law_8
                have fp_1 : TOk d_119.1.l := (pairs_ok _ (List.mem_of_getElem? hx0)).1
                have fp_2 : TOk d_119.2.l := (pairs_ok _ (List.mem_of_getElem? hx0)).2
                generalize d_119.1 = d_129 at h_131 fp_1 hM
                generalize d_119.2 = d_132 at h_134 fp_2 hM
                refine s_if gr.s (et_or (et_test (ev_isNB (ev_call2 (ev_var rfl h_131) (ev_var rfl h_134) (by first | (first | exact absurd hb87 (by rw [hb70, Bool.true_or]; decide) | (rw [fto.1]; exact ⟨fto.2.tok, fto.2.tok⟩) | (rw [fto.1]; exact fto.2.shp) | exact shp_fits fto.2.shp | (rw [fto.1]; exact shown_pre2 fto.2) | (rw [fto.1, told_shown fto.2]; rfl) | (rw [fto.1, told_shown fto.2]; exact ⟨fto.2.tok, fto.2.tok⟩) | exact ⟨fp_1, fp_2⟩ | exact ⟨fp_2, fp_1⟩ | (rw [fto.1]; exact ⟨tok_cut fto.2.tok, fto.2.tok⟩) | (rw [fto.1]; exact ⟨fto.2.tok, fo⟩) | (rw [fto.1]; exact rng_side fto.2) | exact cut_side2 fto.1 fto.2 | exact at_in (by omega) (of_decide_eq_true (by assumption)) | (rw [fto.1]; exact len_side6 fto.2) | exact at_in (by decide) (by rw [fd]; decide) | exact sp_side _ | exact sp_side1 _ | exact ⟨by rw [fm.1]; decide, fm.2⟩ | exact fs | exact at_in (by decide) (by rw [fm.1]; decide) | exact lt_line (by omega) | (have := fto.2.len; omega) | exact ⟨by rw [fm.1]; decide, fm.2, fs⟩ | exact len_side1 fz fi | exact len_side2 fz fi (by rw [← ed_39]; exact loose_pre fm (stroke_small (by rw [fm.1]; decide))) | exact at_5 | exact len_side3 fin fn5 | exact len_side4 fin fn5 | exact len_side5 fin fn5 ed_73 | exact (bad_all fin fn5 ed_73 ed_79).1 | exact right_bad (bad_all fin fn5 ed_73 ed_79).2 | exact (good_all fin fn5 ed_174).1 | exact right_of fin fn5 ed_174 hb70 (by assumption) | exact left_of fin fn5 ed_174 (by assumption) | exact ⟨by show 0 ≤ 5; decide, fun _ h => by cases h⟩) | (first | omega | decide))) ev_bl)) (fun hb135 => (et_test (ev_isNB (ev_call2 (ev_var rfl h_134) (ev_var rfl h_131) (by first | (first | exact absurd hb87 (by rw [hb70, Bool.true_or]; decide) | (rw [fto.1]; exact ⟨fto.2.tok, fto.2.tok⟩) | (rw [fto.1]; exact fto.2.shp) | exact shp_fits fto.2.shp | (rw [fto.1]; exact shown_pre2 fto.2) | (rw [fto.1, told_shown fto.2]; rfl) | (rw [fto.1, told_shown fto.2]; exact ⟨fto.2.tok, fto.2.tok⟩) | exact ⟨fp_1, fp_2⟩ | exact ⟨fp_2, fp_1⟩ | (rw [fto.1]; exact ⟨tok_cut fto.2.tok, fto.2.tok⟩) | (rw [fto.1]; exact ⟨fto.2.tok, fo⟩) | (rw [fto.1]; exact rng_side fto.2) | exact cut_side2 fto.1 fto.2 | exact at_in (by omega) (of_decide_eq_true (by assumption)) | (rw [fto.1]; exact len_side6 fto.2) | exact at_in (by decide) (by rw [fd]; decide) | exact sp_side _ | exact sp_side1 _ | exact ⟨by rw [fm.1]; decide, fm.2⟩ | exact fs | exact at_in (by decide) (by rw [fm.1]; decide) | exact lt_line (by omega) | (have := fto.2.len; omega) | exact ⟨by rw [fm.1]; decide, fm.2, fs⟩ | exact len_side1 fz fi | exact len_side2 fz fi (by rw [← ed_39]; exact loose_pre fm (stroke_small (by rw [fm.1]; decide))) | exact at_5 | exact len_side3 fin fn5 | exact len_side4 fin fn5 | exact len_side5 fin fn5 ed_73 | exact (bad_all fin fn5 ed_73 ed_79).1 | exact right_bad (bad_all fin fn5 ed_73 ed_79).2 | exact (good_all fin fn5 ed_174).1 | exact right_of fin fn5 ed_174 hb70 (by assumption) | exact left_of fin fn5 ed_174 (by assumption) | exact ⟨by show 0 ≤ 5; decide, fun _ h => by cases h⟩) | (first | omega | decide))) ev_bl)))) ?_ ?_
                · intro hb137 G138 H139 g136
                  have h_script := up g136.g h_script
                  have h_3 := up g136.g h_3
                  have h_26 := up g136.g h_26
                  have h_81 := up g136.g h_81
                  have h_65 := up g136.g h_65
                  have h_95 := up g136.g h_95
                  have h_115 := up g136.g h_115
                  have h_131 := up g136.g h_131
                  have h_134 := up g136.g h_134
                  have sg0 := sg0.trans g136.g
                  have gr := gr.trans g136
                  replace hM := condT hM hb137
                  refine s_ret (K := K) gr.s ev_bl fun u Gr Hr gq hu => ?_
                  exact hQ u Gr Hr (gr.trans gq) (by rw [(exitF_ret hMo0 (runL_ret hgo0 hx0 hM))]; exact hu)
                · intro hb137 G140 H141 g136
                  have h_script := up g136.g h_script
                  have h_3 := up g136.g h_3
                  have h_26 := up g136.g h_26
                  have h_81 := up g136.g h_81
                  have h_65 := up g136.g h_65
                  have h_95 := up g136.g h_95
                  have h_115 := up g136.g h_115
                  have h_131 := up g136.g h_131
                  have h_134 := up g136.g h_134
                  have sg0 := sg0.trans g136.g
                  have gr := gr.trans g136
                  replace hM := condF hM hb137
                  refine s_next ?_
                  exact ⟨_, (runL_go hgo0 hx0 hM), _, _, _, gr, sg0, rfl⟩
              · rintro σ_0 H_0 ⟨st_0, hgo0, G171, o_127, o_128, gr, sg0, rfl⟩
                have h_script := up sg0 h_script
                have h_3 := up sg0 h_3
                have h_26 := up sg0 h_26
                have h_81 := up sg0 h_81
                have h_65 := up sg0 h_65
                have h_95 := up sg0 h_95
                have h_115 := up sg0 h_115
                rw [List.take_length] at hgo0
                rw [hgo0, exitF_go] at hM
                unfold m_law_13 at hM
                refine q_if gr.s (et_or (et_test (ev_isNB (ev_call2 (ev_slT (ev_var rfl h_95) eo_none (eo_some (ev_var rfl h_115))) (ev_var rfl h_95) (by first | (first | exact absurd hb87 (by rw [hb70, Bool.true_or]; decide) | (rw [fto.1]; exact ⟨fto.2.tok, fto.2.tok⟩) | (rw [fto.1]; exact fto.2.shp) | exact shp_fits fto.2.shp | (rw [fto.1]; exact shown_pre2 fto.2) | (rw [fto.1, told_shown fto.2]; rfl) | (rw [fto.1, told_shown fto.2]; exact ⟨fto.2.tok, fto.2.tok⟩) | exact ⟨fp_1, fp_2⟩ | exact ⟨fp_2, fp_1⟩ | (rw [fto.1]; exact ⟨tok_cut fto.2.tok, fto.2.tok⟩) | (rw [fto.1]; exact ⟨fto.2.tok, fo⟩) | (rw [fto.1]; exact rng_side fto.2) | exact cut_side2 fto.1 fto.2 | exact at_in (by omega) (of_decide_eq_true (by assumption)) | (rw [fto.1]; exact len_side6 fto.2) | exact at_in (by decide) (by rw [fd]; decide) | exact sp_side _ | exact sp_side1 _ | exact ⟨by rw [fm.1]; decide, fm.2⟩ | exact fs | exact at_in (by decide) (by rw [fm.1]; decide) | exact lt_line (by omega) | (have := fto.2.len; omega) | exact ⟨by rw [fm.1]; decide, fm.2, fs⟩ | exact len_side1 fz fi | exact len_side2 fz fi (by rw [← ed_39]; exact loose_pre fm (stroke_small (by rw [fm.1]; decide))) | exact at_5 | exact len_side3 fin fn5 | exact len_side4 fin fn5 | exact len_side5 fin fn5 ed_73 | exact (bad_all fin fn5 ed_73 ed_79).1 | exact right_bad (bad_all fin fn5 ed_73 ed_79).2 | exact (good_all fin fn5 ed_174).1 | exact right_of fin fn5 ed_174 hb70 (by assumption) | exact left_of fin fn5 ed_174 (by assumption) | exact ⟨by show 0 ≤ 5; decide, fun _ h => by cases h⟩) | (first | omega | decide))) ev_bl)) (fun hb142 => (et_test (ev_isNB (ev_call2 (ev_var rfl h_95) (ev_var rfl h_95) (by first | (first | exact absurd hb87 (by rw [hb70, Bool.true_or]; decide) | (rw [fto.1]; exact ⟨fto.2.tok, fto.2.tok⟩) | (rw [fto.1]; exact fto.2.shp) | exact shp_fits fto.2.shp | (rw [fto.1]; exact shown_pre2 fto.2) | (rw [fto.1, told_shown fto.2]; rfl) | (rw [fto.1, told_shown fto.2]; exact ⟨fto.2.tok, fto.2.tok⟩) | exact ⟨fp_1, fp_2⟩ | exact ⟨fp_2, fp_1⟩ | (rw [fto.1]; exact ⟨tok_cut fto.2.tok, fto.2.tok⟩) | (rw [fto.1]; exact ⟨fto.2.tok, fo⟩) | (rw [fto.1]; exact rng_side fto.2) | exact cut_side2 fto.1 fto.2 | exact at_in (by omega) (of_decide_eq_true (by assumption)) | (rw [fto.1]; exact len_side6 fto.2) | exact at_in (by decide) (by rw [fd]; decide) | exact sp_side _ | exact sp_side1 _ | exact ⟨by rw [fm.1]; decide, fm.2⟩ | exact fs | exact at_in (by decide) (by rw [fm.1]; decide) | exact lt_line (by omega) | (have := fto.2.len; omega) | exact ⟨by rw [fm.1]; decide, fm.2, fs⟩ | exact len_side1 fz fi | exact len_side2 fz fi (by rw [← ed_39]; exact loose_pre fm (stroke_small (by rw [fm.1]; decide))) | exact at_5 | exact len_side3 fin fn5 | exact len_side4 fin fn5 | exact len_side5 fin fn5 ed_73 | exact (bad_all fin fn5 ed_73 ed_79).1 | exact right_bad (bad_all fin fn5 ed_73 ed_79).2 | exact (good_all fin fn5 ed_174).1 | exact right_of fin fn5 ed_174 hb70 (by assumption) | exact left_of fin fn5 ed_174 (by assumption) | exact ⟨by show 0 ≤ 5; decide, fun _ h => by cases h⟩) | (first | omega | decide))) ev_bl)))) ?_ ?_
                · intro hb144 G145 H146 g143
                  have h_script := up g143.g h_script
                  have h_3 := up g143.g h_3
                  have h_26 := up g143.g h_26
                  have h_81 := up g143.g h_81
                  have h_65 := up g143.g h_65
                  have h_95 := up g143.g h_95
                  have h_115 := up g143.g h_115
                  have gr := gr.trans g143
                  replace hM := condT hM hb144
                  refine s_ret (K := K) gr.s ev_bl fun u Gr Hr gq hu => ?_
                  exact hQ u Gr Hr (gr.trans gq) (by rw [hM]; exact hu)
                · intro hb144 G147 H148 g143
                  have h_script := up g143.g h_script
                  have h_3 := up g143.g h_3
                  have h_26 := up g143.g h_26
                  have h_81 := up g143.g h_81
                  have h_65 := up g143.g h_65
                  have h_95 := up g143.g h_95
                  have h_115 := up g143.g h_115
                  have gr := gr.trans g143
                  replace hM := condF hM hb144
                  unfold m_law_12 at hM
                  refine s_next ?_
                  refine nx_mk ?_
                  refine q_asg (K := K) gr.s (ev_slT (ev_catT (ev_slT (ev_var rfl h_95) eo_none (eo_some (ev_var rfl h_115))) (ev_tpl (ea_cons ev_str ea_nil) (by show _ ≤ sizeLine; decide)) (by first | (first | exact absurd hb87 (by rw [hb70, Bool.true_or]; decide) | (rw [fto.1]; exact ⟨fto.2.tok, fto.2.tok⟩) | (rw [fto.1]; exact fto.2.shp) | exact shp_fits fto.2.shp | (rw [fto.1]; exact shown_pre2 fto.2) | (rw [fto.1, told_shown fto.2]; rfl) | (rw [fto.1, told_shown fto.2]; exact ⟨fto.2.tok, fto.2.tok⟩) | exact ⟨fp_1, fp_2⟩ | exact ⟨fp_2, fp_1⟩ | (rw [fto.1]; exact ⟨tok_cut fto.2.tok, fto.2.tok⟩) | (rw [fto.1]; exact ⟨fto.2.tok, fo⟩) | (rw [fto.1]; exact rng_side fto.2) | exact cut_side2 fto.1 fto.2 | exact at_in (by omega) (of_decide_eq_true (by assumption)) | (rw [fto.1]; exact len_side6 fto.2) | exact at_in (by decide) (by rw [fd]; decide) | exact sp_side _ | exact sp_side1 _ | exact ⟨by rw [fm.1]; decide, fm.2⟩ | exact fs | exact at_in (by decide) (by rw [fm.1]; decide) | exact lt_line (by omega) | (have := fto.2.len; omega) | exact ⟨by rw [fm.1]; decide, fm.2, fs⟩ | exact len_side1 fz fi | exact len_side2 fz fi (by rw [← ed_39]; exact loose_pre fm (stroke_small (by rw [fm.1]; decide))) | exact at_5 | exact len_side3 fin fn5 | exact len_side4 fin fn5 | exact len_side5 fin fn5 ed_73 | exact (bad_all fin fn5 ed_73 ed_79).1 | exact right_bad (bad_all fin fn5 ed_73 ed_79).2 | exact (good_all fin fn5 ed_174).1 | exact right_of fin fn5 ed_174 hb70 (by assumption) | exact left_of fin fn5 ed_174 (by assumption) | exact ⟨by show 0 ≤ 5; decide, fun _ h => by cases h⟩) | (first | omega | decide | (show _ ≤ sizeLine; decide) | (show _ < sizeLine; decide)))) eo_none (eo_some ev_int)) fun w_150 G153 H154 g152 (h_151 : rep K (Tpl.mk (cutL ((Tpl.mk (((Tpl.mk (cutL (d_93).l none (some d_113)))).l ++ ((Tpl.mk (("Tab" : Str) :: ([] : List Str)))).l))).l none (some (3 : Int)))) w_150 G153) => ?_
                  have h_script := up g152.g h_script
                  have h_3 := up g152.g h_3
                  have h_26 := up g152.g h_26
                  have h_81 := up g152.g h_81
                  have h_65 := up g152.g h_65
                  have h_95 := up g152.g h_95
                  have h_115 := up g152.g h_115
                  have gr := gr.trans g152
                  generalize ed_149 : (Tpl.mk (cutL ((Tpl.mk (((Tpl.mk (cutL (d_93).l none (some d_113)))).l ++ ((Tpl.mk (("Tab" : Str) :: ([] : List Str)))).l))).l none (some (3 : Int)))) = d_149 at h_151 hM
                  unfold m_law_11 at hM
                  have fo : TOk d_149.l := by rw [← ed_149]; first | exact absurd hb87 (by rw [hb70, Bool.true_or]; decide) | exact tok_cut (tok_app (tok_cut (by rw [fto.1]; exact fto.2.tok)) tab_ok)
                  refine q_asg (K := K) gr.s (ev_eq (ev_lenL (ev_lcR1 (fun d_155 => ((decide (d_155 < ((d_149).l.length : Int))) && (eqB (getI (d_149).l d_155) (getI (d_93).l d_155)))) (fun d_155 => d_155) (ev_lenT (ev_var rfl h_95)) (by first | (first | exact absurd hb87 (by rw [hb70, Bool.true_or]; decide) | (rw [fto.1]; exact ⟨fto.2.tok, fto.2.tok⟩) | (rw [fto.1]; exact fto.2.shp) | exact shp_fits fto.2.shp | (rw [fto.1]; exact shown_pre2 fto.2) | (rw [fto.1, told_shown fto.2]; rfl) | (rw [fto.1, told_shown fto.2]; exact ⟨fto.2.tok, fto.2.tok⟩) | exact ⟨fp_1, fp_2⟩ | exact ⟨fp_2, fp_1⟩ | (rw [fto.1]; exact ⟨tok_cut fto.2.tok, fto.2.tok⟩) | (rw [fto.1]; exact ⟨fto.2.tok, fo⟩) | (rw [fto.1]; exact rng_side fto.2) | exact cut_side2 fto.1 fto.2 | exact at_in (by omega) (of_decide_eq_true (by assumption)) | (rw [fto.1]; exact len_side6 fto.2) | exact at_in (by decide) (by rw [fd]; decide) | exact sp_side _ | exact sp_side1 _ | exact ⟨by rw [fm.1]; decide, fm.2⟩ | exact fs | exact at_in (by decide) (by rw [fm.1]; decide) | exact lt_line (by omega) | (have := fto.2.len; omega) | exact ⟨by rw [fm.1]; decide, fm.2, fs⟩ | exact len_side1 fz fi | exact len_side2 fz fi (by rw [← ed_39]; exact loose_pre fm (stroke_small (by rw [fm.1]; decide))) | exact at_5 | exact len_side3 fin fn5 | exact len_side4 fin fn5 | exact len_side5 fin fn5 ed_73 | exact (bad_all fin fn5 ed_73 ed_79).1 | exact right_bad (bad_all fin fn5 ed_73 ed_79).2 | exact (good_all fin fn5 ed_174).1 | exact right_of fin fn5 ed_174 hb70 (by assumption) | exact left_of fin fn5 ed_174 (by assumption) | exact ⟨by show 0 ≤ 5; decide, fun _ h => by cases h⟩) | (first | omega | decide | (show _ ≤ sizeLine; decide) | (show _ < sizeLine; decide))) (fun d_155 G_ H_ lo162 hi163 sg159 sh_ P k => by have h_95 := up sg159 h_95; have h_151 := up sg159 h_151; have h_157 : rep K d_155 (V.int d_155) G_ := rfl; exact k _ rfl (et_and (et_test (ev_lt (ev_var rfl h_157) (ev_lenT (ev_var rfl h_151)))) (fun hb158 => (et_test (ev_eq (ev_ixT (ev_var rfl h_151) (ev_var rfl h_157) (atI_get (by first | (first | exact absurd hb87 (by rw [hb70, Bool.true_or]; decide) | (rw [fto.1]; exact ⟨fto.2.tok, fto.2.tok⟩) | (rw [fto.1]; exact fto.2.shp) | exact shp_fits fto.2.shp | (rw [fto.1]; exact shown_pre2 fto.2) | (rw [fto.1, told_shown fto.2]; rfl) | (rw [fto.1, told_shown fto.2]; exact ⟨fto.2.tok, fto.2.tok⟩) | exact ⟨fp_1, fp_2⟩ | exact ⟨fp_2, fp_1⟩ | (rw [fto.1]; exact ⟨tok_cut fto.2.tok, fto.2.tok⟩) | (rw [fto.1]; exact ⟨fto.2.tok, fo⟩) | (rw [fto.1]; exact rng_side fto.2) | exact cut_side2 fto.1 fto.2 | exact at_in (by omega) (of_decide_eq_true (by assumption)) | (rw [fto.1]; exact len_side6 fto.2) | exact at_in (by decide) (by rw [fd]; decide) | exact sp_side _ | exact sp_side1 _ | exact ⟨by rw [fm.1]; decide, fm.2⟩ | exact fs | exact at_in (by decide) (by rw [fm.1]; decide) | exact lt_line (by omega) | (have := fto.2.len; omega) | exact ⟨by rw [fm.1]; decide, fm.2, fs⟩ | exact len_side1 fz fi | exact len_side2 fz fi (by rw [← ed_39]; exact loose_pre fm (stroke_small (by rw [fm.1]; decide))) | exact at_5 | exact len_side3 fin fn5 | exact len_side4 fin fn5 | exact len_side5 fin fn5 ed_73 | exact (bad_all fin fn5 ed_73 ed_79).1 | exact right_bad (bad_all fin fn5 ed_73 ed_79).2 | exact (good_all fin fn5 ed_174).1 | exact right_of fin fn5 ed_174 hb70 (by assumption) | exact left_of fin fn5 ed_174 (by assumption) | exact ⟨by show 0 ≤ 5; decide, fun _ h => by cases h⟩) | (first | decide | (refine at_in ?_ ?_ <;> omega) | (refine at_neg ?_ ?_ <;> omega))))) (ev_ixT (ev_var rfl h_95) (ev_var rfl h_157) (atI_get (by first | (first | exact absurd hb87 (by rw [hb70, Bool.true_or]; decide) | (rw [fto.1]; exact ⟨fto.2.tok, fto.2.tok⟩) | (rw [fto.1]; exact fto.2.shp) | exact shp_fits fto.2.shp | (rw [fto.1]; exact shown_pre2 fto.2) | (rw [fto.1, told_shown fto.2]; rfl) | (rw [fto.1, told_shown fto.2]; exact ⟨fto.2.tok, fto.2.tok⟩) | exact ⟨fp_1, fp_2⟩ | exact ⟨fp_2, fp_1⟩ | (rw [fto.1]; exact ⟨tok_cut fto.2.tok, fto.2.tok⟩) | (rw [fto.1]; exact ⟨fto.2.tok, fo⟩) | (rw [fto.1]; exact rng_side fto.2) | exact cut_side2 fto.1 fto.2 | exact at_in (by omega) (of_decide_eq_true (by assumption)) | (rw [fto.1]; exact len_side6 fto.2) | exact at_in (by decide) (by rw [fd]; decide) | exact sp_side _ | exact sp_side1 _ | exact ⟨by rw [fm.1]; decide, fm.2⟩ | exact fs | exact at_in (by decide) (by rw [fm.1]; decide) | exact lt_line (by omega) | (have := fto.2.len; omega) | exact ⟨by rw [fm.1]; decide, fm.2, fs⟩ | exact len_side1 fz fi | exact len_side2 fz fi (by rw [← ed_39]; exact loose_pre fm (stroke_small (by rw [fm.1]; decide))) | exact at_5 | exact len_side3 fin fn5 | exact len_side4 fin fn5 | exact len_side5 fin fn5 ed_73 | exact (bad_all fin fn5 ed_73 ed_79).1 | exact right_bad (bad_all fin fn5 ed_73 ed_79).2 | exact (good_all fin fn5 ed_174).1 | exact right_of fin fn5 ed_174 hb70 (by assumption) | exact left_of fin fn5 ed_174 (by assumption) | exact ⟨by show 0 ≤ 5; decide, fun _ h => by cases h⟩) | (first | decide | (refine at_in ?_ ?_ <;> omega) | (refine at_neg ?_ ?_ <;> omega))))))))) (fun hc160 => (ev_var rfl h_157))))) (ev_lenT (ev_var rfl h_95))) fun w_165 G168 H169 g167 (h_166 : rep K (eqB (((List.map (fun d_155 => d_155) (List.filter (fun d_155 => ((decide (d_155 < ((d_149).l.length : Int))) && (eqB (getI (d_149).l d_155) (getI (d_93).l d_155)))) (rgs 0 ((d_93).l.length : Int))))).length : Int) ((d_93).l.length : Int)) w_165 G168) => ?_
                  have h_script := up g167.g h_script
                  have h_3 := up g167.g h_3
                  have h_26 := up g167.g h_26
                  have h_81 := up g167.g h_81
                  have h_65 := up g167.g h_65
                  have h_95 := up g167.g h_95
                  have h_115 := up g167.g h_115
                  have h_151 := up g167.g h_151
                  have gr := gr.trans g167
                  generalize ed_164 : (eqB (((List.map (fun d_155 => d_155) (List.filter (fun d_155 => ((decide (d_155 < ((d_149).l.length : Int))) && (eqB (getI (d_149).l d_155) (getI (d_93).l d_155)))) (rgs 0 ((d_93).l.length : Int))))).length : Int) ((d_93).l.length : Int)) = d_164 at h_166 hM
                  unfold m_law_10 at hM
                  refine s_ret (K := K) gr.s (ev_andV (ev_isBool (ev_call2 (ev_var rfl h_95) (ev_var rfl h_151) (by first | (first | exact absurd hb87 (by rw [hb70, Bool.true_or]; decide) | (rw [fto.1]; exact ⟨fto.2.tok, fto.2.tok⟩) | (rw [fto.1]; exact fto.2.shp) | exact shp_fits fto.2.shp | (rw [fto.1]; exact shown_pre2 fto.2) | (rw [fto.1, told_shown fto.2]; rfl) | (rw [fto.1, told_shown fto.2]; exact ⟨fto.2.tok, fto.2.tok⟩) | exact ⟨fp_1, fp_2⟩ | exact ⟨fp_2, fp_1⟩ | (rw [fto.1]; exact ⟨tok_cut fto.2.tok, fto.2.tok⟩) | (rw [fto.1]; exact ⟨fto.2.tok, fo⟩) | (rw [fto.1]; exact rng_side fto.2) | exact cut_side2 fto.1 fto.2 | exact at_in (by omega) (of_decide_eq_true (by assumption)) | (rw [fto.1]; exact len_side6 fto.2) | exact at_in (by decide) (by rw [fd]; decide) | exact sp_side _ | exact sp_side1 _ | exact ⟨by rw [fm.1]; decide, fm.2⟩ | exact fs | exact at_in (by decide) (by rw [fm.1]; decide) | exact lt_line (by omega) | (have := fto.2.len; omega) | exact ⟨by rw [fm.1]; decide, fm.2, fs⟩ | exact len_side1 fz fi | exact len_side2 fz fi (by rw [← ed_39]; exact loose_pre fm (stroke_small (by rw [fm.1]; decide))) | exact at_5 | exact len_side3 fin fn5 | exact len_side4 fin fn5 | exact len_side5 fin fn5 ed_73 | exact (bad_all fin fn5 ed_73 ed_79).1 | exact right_bad (bad_all fin fn5 ed_73 ed_79).2 | exact (good_all fin fn5 ed_174).1 | exact right_of fin fn5 ed_174 hb70 (by assumption) | exact left_of fin fn5 ed_174 (by assumption) | exact ⟨by show 0 ≤ 5; decide, fun _ h => by cases h⟩) | (first | omega | decide)))) (fun hb170 => (ev_eq (ev_call2 (ev_var rfl h_95) (ev_var rfl h_151) (by first | (first | exact absurd hb87 (by rw [hb70, Bool.true_or]; decide) | (rw [fto.1]; exact ⟨fto.2.tok, fto.2.tok⟩) | (rw [fto.1]; exact fto.2.shp) | exact shp_fits fto.2.shp | (rw [fto.1]; exact shown_pre2 fto.2) | (rw [fto.1, told_shown fto.2]; rfl) | (rw [fto.1, told_shown fto.2]; exact ⟨fto.2.tok, fto.2.tok⟩) | exact ⟨fp_1, fp_2⟩ | exact ⟨fp_2, fp_1⟩ | (rw [fto.1]; exact ⟨tok_cut fto.2.tok, fto.2.tok⟩) | (rw [fto.1]; exact ⟨fto.2.tok, fo⟩) | (rw [fto.1]; exact rng_side fto.2) | exact cut_side2 fto.1 fto.2 | exact at_in (by omega) (of_decide_eq_true (by assumption)) | (rw [fto.1]; exact len_side6 fto.2) | exact at_in (by decide) (by rw [fd]; decide) | exact sp_side _ | exact sp_side1 _ | exact ⟨by rw [fm.1]; decide, fm.2⟩ | exact fs | exact at_in (by decide) (by rw [fm.1]; decide) | exact lt_line (by omega) | (have := fto.2.len; omega) | exact ⟨by rw [fm.1]; decide, fm.2, fs⟩ | exact len_side1 fz fi | exact len_side2 fz fi (by rw [← ed_39]; exact loose_pre fm (stroke_small (by rw [fm.1]; decide))) | exact at_5 | exact len_side3 fin fn5 | exact len_side4 fin fn5 | exact len_side5 fin fn5 ed_73 | exact (bad_all fin fn5 ed_73 ed_79).1 | exact right_bad (bad_all fin fn5 ed_73 ed_79).2 | exact (good_all fin fn5 ed_174).1 | exact right_of fin fn5 ed_174 hb70 (by assumption) | exact left_of fin fn5 ed_174 (by assumption) | exact ⟨by show 0 ≤ 5; decide, fun _ h => by cases h⟩) | (first | omega | decide))) (ev_var rfl h_166)))) fun u Gr Hr gq hu => ?_
                  exact hQ u Gr Hr (gr.trans gq) (by rw [hM]; exact hu)
      · intro hb70 G172 H173 g69
        have h_script := up g69.g h_script
        have h_3 := up g69.g h_3
        have h_26 := up g69.g h_26
        have h_29 := up g69.g h_29
        have h_65 := up g69.g h_65
        have gr := gr.trans g69
        replace hM := condF hM hb70
        unfold m_law_31 at hM
        refine s_next ?_
        refine nx_mk ?_
        refine q_asg (K := K) gr.s (ev_addS (ev_var rfl h_29) (ev_repS ev_str (ev_mod (ev_int1 (ev_ixL (ev_var rfl h_3) ev_int (atI_get (by first | (first | exact absurd hb87 (by rw [hb70, Bool.true_or]; decide) | (rw [fto.1]; exact ⟨fto.2.tok, fto.2.tok⟩) | (rw [fto.1]; exact fto.2.shp) | exact shp_fits fto.2.shp | (rw [fto.1]; exact shown_pre2 fto.2) | (rw [fto.1, told_shown fto.2]; rfl) | (rw [fto.1, told_shown fto.2]; exact ⟨fto.2.tok, fto.2.tok⟩) | exact ⟨fp_1, fp_2⟩ | exact ⟨fp_2, fp_1⟩ | (rw [fto.1]; exact ⟨tok_cut fto.2.tok, fto.2.tok⟩) | (rw [fto.1]; exact ⟨fto.2.tok, fo⟩) | (rw [fto.1]; exact rng_side fto.2) | exact cut_side2 fto.1 fto.2 | exact at_in (by omega) (of_decide_eq_true (by assumption)) | (rw [fto.1]; exact len_side6 fto.2) | exact at_in (by decide) (by rw [fd]; decide) | exact sp_side _ | exact sp_side1 _ | exact ⟨by rw [fm.1]; decide, fm.2⟩ | exact fs | exact at_in (by decide) (by rw [fm.1]; decide) | exact lt_line (by omega) | (have := fto.2.len; omega) | exact ⟨by rw [fm.1]; decide, fm.2, fs⟩ | exact len_side1 fz fi | exact len_side2 fz fi (by rw [← ed_39]; exact loose_pre fm (stroke_small (by rw [fm.1]; decide))) | exact at_5 | exact len_side3 fin fn5 | exact len_side4 fin fn5 | exact len_side5 fin fn5 ed_73 | exact (bad_all fin fn5 ed_73 ed_79).1 | exact right_bad (bad_all fin fn5 ed_73 ed_79).2 | exact (good_all fin fn5 ed_174).1 | exact right_of fin fn5 ed_174 hb70 (by assumption) | exact left_of fin fn5 ed_174 (by assumption) | exact ⟨by show 0 ≤ 5; decide, fun _ h => by cases h⟩) | (first | decide | (refine at_in ?_ ?_ <;> omega) | (refine at_neg ?_ ?_ <;> omega)))))) ev_int (by first | (first | exact absurd hb87 (by rw [hb70, Bool.true_or]; decide) | (rw [fto.1]; exact ⟨fto.2.tok, fto.2.tok⟩) | (rw [fto.1]; exact fto.2.shp) | exact shp_fits fto.2.shp | (rw [fto.1]; exact shown_pre2 fto.2) | (rw [fto.1, told_shown fto.2]; rfl) | (rw [fto.1, told_shown fto.2]; exact ⟨fto.2.tok, fto.2.tok⟩) | exact ⟨fp_1, fp_2⟩ | exact ⟨fp_2, fp_1⟩ | (rw [fto.1]; exact ⟨tok_cut fto.2.tok, fto.2.tok⟩) | (rw [fto.1]; exact ⟨fto.2.tok, fo⟩) | (rw [fto.1]; exact rng_side fto.2) | exact cut_side2 fto.1 fto.2 | exact at_in (by omega) (of_decide_eq_true (by assumption)) | (rw [fto.1]; exact len_side6 fto.2) | exact at_in (by decide) (by rw [fd]; decide) | exact sp_side _ | exact sp_side1 _ | exact ⟨by rw [fm.1]; decide, fm.2⟩ | exact fs | exact at_in (by decide) (by rw [fm.1]; decide) | exact lt_line (by omega) | (have := fto.2.len; omega) | exact ⟨by rw [fm.1]; decide, fm.2, fs⟩ | exact len_side1 fz fi | exact len_side2 fz fi (by rw [← ed_39]; exact loose_pre fm (stroke_small (by rw [fm.1]; decide))) | exact at_5 | exact len_side3 fin fn5 | exact len_side4 fin fn5 | exact len_side5 fin fn5 ed_73 | exact (bad_all fin fn5 ed_73 ed_79).1 | exact right_bad (bad_all fin fn5 ed_73 ed_79).2 | exact (good_all fin fn5 ed_174).1 | exact right_of fin fn5 ed_174 hb70 (by assumption) | exact left_of fin fn5 ed_174 (by assumption) | exact ⟨by show 0 ≤ 5; decide, fun _ h => by cases h⟩) | (first | omega | decide | (show _ ≤ sizeLine; decide) | (show _ < sizeLine; decide)))) (by first | (first | exact absurd hb87 (by rw [hb70, Bool.true_or]; decide) | (rw [fto.1]; exact ⟨fto.2.tok, fto.2.tok⟩) | (rw [fto.1]; exact fto.2.shp) | exact shp_fits fto.2.shp | (rw [fto.1]; exact shown_pre2 fto.2) | (rw [fto.1, told_shown fto.2]; rfl) | (rw [fto.1, told_shown fto.2]; exact ⟨fto.2.tok, fto.2.tok⟩) | exact ⟨fp_1, fp_2⟩ | exact ⟨fp_2, fp_1⟩ | (rw [fto.1]; exact ⟨tok_cut fto.2.tok, fto.2.tok⟩) | (rw [fto.1]; exact ⟨fto.2.tok, fo⟩) | (rw [fto.1]; exact rng_side fto.2) | exact cut_side2 fto.1 fto.2 | exact at_in (by omega) (of_decide_eq_true (by assumption)) | (rw [fto.1]; exact len_side6 fto.2) | exact at_in (by decide) (by rw [fd]; decide) | exact sp_side _ | exact sp_side1 _ | exact ⟨by rw [fm.1]; decide, fm.2⟩ | exact fs | exact at_in (by decide) (by rw [fm.1]; decide) | exact lt_line (by omega) | (have := fto.2.len; omega) | exact ⟨by rw [fm.1]; decide, fm.2, fs⟩ | exact len_side1 fz fi | exact len_side2 fz fi (by rw [← ed_39]; exact loose_pre fm (stroke_small (by rw [fm.1]; decide))) | exact at_5 | exact len_side3 fin fn5 | exact len_side4 fin fn5 | exact len_side5 fin fn5 ed_73 | exact (bad_all fin fn5 ed_73 ed_79).1 | exact right_bad (bad_all fin fn5 ed_73 ed_79).2 | exact (good_all fin fn5 ed_174).1 | exact right_of fin fn5 ed_174 hb70 (by assumption) | exact left_of fin fn5 ed_174 (by assumption) | exact ⟨by show 0 ≤ 5; decide, fun _ h => by cases h⟩) | (first | omega | decide | (show _ ≤ sizeLine; decide) | (show _ < sizeLine; decide)))) (by first | (first | exact absurd hb87 (by rw [hb70, Bool.true_or]; decide) | (rw [fto.1]; exact ⟨fto.2.tok, fto.2.tok⟩) | (rw [fto.1]; exact fto.2.shp) | exact shp_fits fto.2.shp | (rw [fto.1]; exact shown_pre2 fto.2) | (rw [fto.1, told_shown fto.2]; rfl) | (rw [fto.1, told_shown fto.2]; exact ⟨fto.2.tok, fto.2.tok⟩) | exact ⟨fp_1, fp_2⟩ | exact ⟨fp_2, fp_1⟩ | (rw [fto.1]; exact ⟨tok_cut fto.2.tok, fto.2.tok⟩) | (rw [fto.1]; exact ⟨fto.2.tok, fo⟩) | (rw [fto.1]; exact rng_side fto.2) | exact cut_side2 fto.1 fto.2 | exact at_in (by omega) (of_decide_eq_true (by assumption)) | (rw [fto.1]; exact len_side6 fto.2) | exact at_in (by decide) (by rw [fd]; decide) | exact sp_side _ | exact sp_side1 _ | exact ⟨by rw [fm.1]; decide, fm.2⟩ | exact fs | exact at_in (by decide) (by rw [fm.1]; decide) | exact lt_line (by omega) | (have := fto.2.len; omega) | exact ⟨by rw [fm.1]; decide, fm.2, fs⟩ | exact len_side1 fz fi | exact len_side2 fz fi (by rw [← ed_39]; exact loose_pre fm (stroke_small (by rw [fm.1]; decide))) | exact at_5 | exact len_side3 fin fn5 | exact len_side4 fin fn5 | exact len_side5 fin fn5 ed_73 | exact (bad_all fin fn5 ed_73 ed_79).1 | exact right_bad (bad_all fin fn5 ed_73 ed_79).2 | exact (good_all fin fn5 ed_174).1 | exact right_of fin fn5 ed_174 hb70 (by assumption) | exact left_of fin fn5 ed_174 (by assumption) | exact ⟨by show 0 ≤ 5; decide, fun _ h => by cases h⟩) | (first | omega | decide | (show _ ≤ sizeLine; decide) | (show _ < sizeLine; decide)))) fun w_175 G178 H179 g177 (h_176 : rep K (d_27 ++ (mulS (" " : Str) ((getI d_1 (4 : Int)) % (3 : Int)))) w_175 G178) => ?_
        have h_script := up g177.g h_script
        have h_3 := up g177.g h_3
        have h_26 := up g177.g h_26
        have h_65 := up g177.g h_65
        have gr := gr.trans g177
        generalize ed_174 : (d_27 ++ (mulS (" " : Str) ((getI d_1 (4 : Int)) % (3 : Int)))) = d_174 at h_176 hM
        unfold m_law_30 at hM
        refine q_if gr.s (et_or (et_B (ev_var rfl h_65)) (fun hb180 => (et_not (et_test (ev_chain ev_int (ev_lenL (ev_var rfl h_26)) rv_le (fun _ => ev_int) rv_le))))) ?_ ?_
        · intro hb182 G183 H184 g181
          have h_script := up g181.g h_script
          have h_3 := up g181.g h_3
          have h_26 := up g181.g h_26
          have h_176 := up g181.g h_176
          have h_65 := up g181.g h_65
          have gr := gr.trans g181
          replace hM := condT hM hb182
          unfold m_law_20 at hM
          refine s_ret (K := K) gr.s (ev_andV (ev_eq (ev_inr (ev_call1 (ev_var rfl h_176) (by first | (first | exact absurd hb87 (by rw [hb70, Bool.true_or]; decide) | (rw [fto.1]; exact ⟨fto.2.tok, fto.2.tok⟩) | (rw [fto.1]; exact fto.2.shp) | exact shp_fits fto.2.shp | (rw [fto.1]; exact shown_pre2 fto.2) | (rw [fto.1, told_shown fto.2]; rfl) | (rw [fto.1, told_shown fto.2]; exact ⟨fto.2.tok, fto.2.tok⟩) | exact ⟨fp_1, fp_2⟩ | exact ⟨fp_2, fp_1⟩ | (rw [fto.1]; exact ⟨tok_cut fto.2.tok, fto.2.tok⟩) | (rw [fto.1]; exact ⟨fto.2.tok, fo⟩) | (rw [fto.1]; exact rng_side fto.2) | exact cut_side2 fto.1 fto.2 | exact at_in (by omega) (of_decide_eq_true (by assumption)) | (rw [fto.1]; exact len_side6 fto.2) | exact at_in (by decide) (by rw [fd]; decide) | exact sp_side _ | exact sp_side1 _ | exact ⟨by rw [fm.1]; decide, fm.2⟩ | exact fs | exact at_in (by decide) (by rw [fm.1]; decide) | exact lt_line (by omega) | (have := fto.2.len; omega) | exact ⟨by rw [fm.1]; decide, fm.2, fs⟩ | exact len_side1 fz fi | exact len_side2 fz fi (by rw [← ed_39]; exact loose_pre fm (stroke_small (by rw [fm.1]; decide))) | exact at_5 | exact len_side3 fin fn5 | exact len_side4 fin fn5 | exact len_side5 fin fn5 ed_73 | exact (bad_all fin fn5 ed_73 ed_79).1 | exact right_bad (bad_all fin fn5 ed_73 ed_79).2 | exact (good_all fin fn5 ed_174).1 | exact right_of fin fn5 ed_174 hb70 (by assumption) | exact left_of fin fn5 ed_174 (by assumption) | exact ⟨by show 0 ≤ 5; decide, fun _ h => by cases h⟩) | (first | omega | decide))) (by first | (first | exact absurd hb87 (by rw [hb70, Bool.true_or]; decide) | (rw [fto.1]; exact ⟨fto.2.tok, fto.2.tok⟩) | (rw [fto.1]; exact fto.2.shp) | exact shp_fits fto.2.shp | (rw [fto.1]; exact shown_pre2 fto.2) | (rw [fto.1, told_shown fto.2]; rfl) | (rw [fto.1, told_shown fto.2]; exact ⟨fto.2.tok, fto.2.tok⟩) | exact ⟨fp_1, fp_2⟩ | exact ⟨fp_2, fp_1⟩ | (rw [fto.1]; exact ⟨tok_cut fto.2.tok, fto.2.tok⟩) | (rw [fto.1]; exact ⟨fto.2.tok, fo⟩) | (rw [fto.1]; exact rng_side fto.2) | exact cut_side2 fto.1 fto.2 | exact at_in (by omega) (of_decide_eq_true (by assumption)) | (rw [fto.1]; exact len_side6 fto.2) | exact at_in (by decide) (by rw [fd]; decide) | exact sp_side _ | exact sp_side1 _ | exact ⟨by rw [fm.1]; decide, fm.2⟩ | exact fs | exact at_in (by decide) (by rw [fm.1]; decide) | exact lt_line (by omega) | (have := fto.2.len; omega) | exact ⟨by rw [fm.1]; decide, fm.2, fs⟩ | exact len_side1 fz fi | exact len_side2 fz fi (by rw [← ed_39]; exact loose_pre fm (stroke_small (by rw [fm.1]; decide))) | exact at_5 | exact len_side3 fin fn5 | exact len_side4 fin fn5 | exact len_side5 fin fn5 ed_73 | exact (bad_all fin fn5 ed_73 ed_79).1 | exact right_bad (bad_all fin fn5 ed_73 ed_79).2 | exact (good_all fin fn5 ed_174).1 | exact right_of fin fn5 ed_174 hb70 (by assumption) | exact left_of fin fn5 ed_174 (by assumption) | exact ⟨by show 0 ≤ 5; decide, fun _ h => by cases h⟩) | (first | omega | decide))) ev_str) (fun hb185 => (ev_eq (ev_call1 (ev_tpl ea_nil (by show _ ≤ sizeLine; decide)) (by first | (first | exact absurd hb87 (by rw [hb70, Bool.true_or]; decide) | (rw [fto.1]; exact ⟨fto.2.tok, fto.2.tok⟩) | (rw [fto.1]; exact fto.2.shp) | exact shp_fits fto.2.shp | (rw [fto.1]; exact shown_pre2 fto.2) | (rw [fto.1, told_shown fto.2]; rfl) | (rw [fto.1, told_shown fto.2]; exact ⟨fto.2.tok, fto.2.tok⟩) | exact ⟨fp_1, fp_2⟩ | exact ⟨fp_2, fp_1⟩ | (rw [fto.1]; exact ⟨tok_cut fto.2.tok, fto.2.tok⟩) | (rw [fto.1]; exact ⟨fto.2.tok, fo⟩) | (rw [fto.1]; exact rng_side fto.2) | exact cut_side2 fto.1 fto.2 | exact at_in (by omega) (of_decide_eq_true (by assumption)) | (rw [fto.1]; exact len_side6 fto.2) | exact at_in (by decide) (by rw [fd]; decide) | exact sp_side _ | exact sp_side1 _ | exact ⟨by rw [fm.1]; decide, fm.2⟩ | exact fs | exact at_in (by decide) (by rw [fm.1]; decide) | exact lt_line (by omega) | (have := fto.2.len; omega) | exact ⟨by rw [fm.1]; decide, fm.2, fs⟩ | exact len_side1 fz fi | exact len_side2 fz fi (by rw [← ed_39]; exact loose_pre fm (stroke_small (by rw [fm.1]; decide))) | exact at_5 | exact len_side3 fin fn5 | exact len_side4 fin fn5 | exact len_side5 fin fn5 ed_73 | exact (bad_all fin fn5 ed_73 ed_79).1 | exact right_bad (bad_all fin fn5 ed_73 ed_79).2 | exact (good_all fin fn5 ed_174).1 | exact right_of fin fn5 ed_174 hb70 (by assumption) | exact left_of fin fn5 ed_174 (by assumption) | exact ⟨by show 0 ≤ 5; decide, fun _ h => by cases h⟩) | (first | omega | decide))) ev_str))) fun u Gr Hr gq hu => ?_
          exact hQ u Gr Hr (gr.trans gq) (by rw [hM]; exact hu)
        · intro hb182 G186 H187 g181
          have h_script := up g181.g h_script
          have h_3 := up g181.g h_3
          have h_26 := up g181.g h_26
          have h_176 := up g181.g h_176
          have h_65 := up g181.g h_65
          have gr := gr.trans g181
          replace hM := condF hM hb182
          refine s_next ?_
          refine nx_mk ?_
          refine q_asg (K := K) gr.s (ev_inl (ev_call1 (ev_var rfl h_176) (by first | (first | exact absurd hb87 (by rw [hb70, Bool.true_or]; decide) | (rw [fto.1]; exact ⟨fto.2.tok, fto.2.tok⟩) | (rw [fto.1]; exact fto.2.shp) | exact shp_fits fto.2.shp | (rw [fto.1]; exact shown_pre2 fto.2) | (rw [fto.1, told_shown fto.2]; rfl) | (rw [fto.1, told_shown fto.2]; exact ⟨fto.2.tok, fto.2.tok⟩) | exact ⟨fp_1, fp_2⟩ | exact ⟨fp_2, fp_1⟩ | (rw [fto.1]; exact ⟨tok_cut fto.2.tok, fto.2.tok⟩) | (rw [fto.1]; exact ⟨fto.2.tok, fo⟩) | (rw [fto.1]; exact rng_side fto.2) | exact cut_side2 fto.1 fto.2 | exact at_in (by omega) (of_decide_eq_true (by assumption)) | (rw [fto.1]; exact len_side6 fto.2) | exact at_in (by decide) (by rw [fd]; decide) | exact sp_side _ | exact sp_side1 _ | exact ⟨by rw [fm.1]; decide, fm.2⟩ | exact fs | exact at_in (by decide) (by rw [fm.1]; decide) | exact lt_line (by omega) | (have := fto.2.len; omega) | exact ⟨by rw [fm.1]; decide, fm.2, fs⟩ | exact len_side1 fz fi | exact len_side2 fz fi (by rw [← ed_39]; exact loose_pre fm (stroke_small (by rw [fm.1]; decide))) | exact at_5 | exact len_side3 fin fn5 | exact len_side4 fin fn5 | exact len_side5 fin fn5 ed_73 | exact (bad_all fin fn5 ed_73 ed_79).1 | exact right_bad (bad_all fin fn5 ed_73 ed_79).2 | exact (good_all fin fn5 ed_174).1 | exact right_of fin fn5 ed_174 hb70 (by assumption) | exact left_of fin fn5 ed_174 (by assumption) | exact ⟨by show 0 ≤ 5; decide, fun _ h => by cases h⟩) | (first | omega | decide))) (by first | (first | exact absurd hb87 (by rw [hb70, Bool.true_or]; decide) | (rw [fto.1]; exact ⟨fto.2.tok, fto.2.tok⟩) | (rw [fto.1]; exact fto.2.shp) | exact shp_fits fto.2.shp | (rw [fto.1]; exact shown_pre2 fto.2) | (rw [fto.1, told_shown fto.2]; rfl) | (rw [fto.1, told_shown fto.2]; exact ⟨fto.2.tok, fto.2.tok⟩) | exact ⟨fp_1, fp_2⟩ | exact ⟨fp_2, fp_1⟩ | (rw [fto.1]; exact ⟨tok_cut fto.2.tok, fto.2.tok⟩) | (rw [fto.1]; exact ⟨fto.2.tok, fo⟩) | (rw [fto.1]; exact rng_side fto.2) | exact cut_side2 fto.1 fto.2 | exact at_in (by omega) (of_decide_eq_true (by assumption)) | (rw [fto.1]; exact len_side6 fto.2) | exact at_in (by decide) (by rw [fd]; decide) | exact sp_side _ | exact sp_side1 _ | exact ⟨by rw [fm.1]; decide, fm.2⟩ | exact fs | exact at_in (by decide) (by rw [fm.1]; decide) | exact lt_line (by omega) | (have := fto.2.len; omega) | exact ⟨by rw [fm.1]; decide, fm.2, fs⟩ | exact len_side1 fz fi | exact len_side2 fz fi (by rw [← ed_39]; exact loose_pre fm (stroke_small (by rw [fm.1]; decide))) | exact at_5 | exact len_side3 fin fn5 | exact len_side4 fin fn5 | exact len_side5 fin fn5 ed_73 | exact (bad_all fin fn5 ed_73 ed_79).1 | exact right_bad (bad_all fin fn5 ed_73 ed_79).2 | exact (good_all fin fn5 ed_174).1 | exact right_of fin fn5 ed_174 hb70 (by assumption) | exact left_of fin fn5 ed_174 (by assumption) | exact ⟨by show 0 ≤ 5; decide, fun _ h => by cases h⟩) | (first | omega | decide))) fun w_189 G192 H193 g191 (h_190 : rep K (getL (m__law_told d_174)) w_189 G192) => ?_
          have h_script := up g191.g h_script
          have h_3 := up g191.g h_3
          have h_26 := up g191.g h_26
          have h_176 := up g191.g h_176
          have h_65 := up g191.g h_65
          have gr := gr.trans g191
          generalize ed_188 : (getL (m__law_told d_174)) = d_188 at h_190 hM
          unfold m_law_29 at hM
          have fto : d_188 = ⟨d_24⟩ ∧ Fine d_24 := by first | exact absurd hb87 (by rw [hb70, Bool.true_or]; decide) | exact told_eq fin fn5 ed_174 (by assumption) ed_188
          refine q_if gr.s (et_or (et_test (ev_neT (ev_var rfl h_190) (ev_tupleL (ev_var rfl h_26)) (by first | (first | exact absurd hb87 (by rw [hb70, Bool.true_or]; decide) | (rw [fto.1]; exact ⟨fto.2.tok, fto.2.tok⟩) | (rw [fto.1]; exact fto.2.shp) | exact shp_fits fto.2.shp | (rw [fto.1]; exact shown_pre2 fto.2) | (rw [fto.1, told_shown fto.2]; rfl) | (rw [fto.1, told_shown fto.2]; exact ⟨fto.2.tok, fto.2.tok⟩) | exact ⟨fp_1, fp_2⟩ | exact ⟨fp_2, fp_1⟩ | (rw [fto.1]; exact ⟨tok_cut fto.2.tok, fto.2.tok⟩) | (rw [fto.1]; exact ⟨fto.2.tok, fo⟩) | (rw [fto.1]; exact rng_side fto.2) | exact cut_side2 fto.1 fto.2 | exact at_in (by omega) (of_decide_eq_true (by assumption)) | (rw [fto.1]; exact len_side6 fto.2) | exact at_in (by decide) (by rw [fd]; decide) | exact sp_side _ | exact sp_side1 _ | exact ⟨by rw [fm.1]; decide, fm.2⟩ | exact fs | exact at_in (by decide) (by rw [fm.1]; decide) | exact lt_line (by omega) | (have := fto.2.len; omega) | exact ⟨by rw [fm.1]; decide, fm.2, fs⟩ | exact len_side1 fz fi | exact len_side2 fz fi (by rw [← ed_39]; exact loose_pre fm (stroke_small (by rw [fm.1]; decide))) | exact at_5 | exact len_side3 fin fn5 | exact len_side4 fin fn5 | exact len_side5 fin fn5 ed_73 | exact (bad_all fin fn5 ed_73 ed_79).1 | exact right_bad (bad_all fin fn5 ed_73 ed_79).2 | exact (good_all fin fn5 ed_174).1 | exact right_of fin fn5 ed_174 hb70 (by assumption) | exact left_of fin fn5 ed_174 (by assumption) | exact ⟨by show 0 ≤ 5; decide, fun _ h => by cases h⟩) | (first | omega | decide | (show _ ≤ sizeLine; decide) | (show _ < sizeLine; decide))))) (fun hb195 => (et_or (et_not (et_B (ev_isTup (ev_var rfl h_190)))) (fun hb194 => (et_test (ev_ne (ev_call1 (ev_var rfl h_190) (by first | (first | exact absurd hb87 (by rw [hb70, Bool.true_or]; decide) | (rw [fto.1]; exact ⟨fto.2.tok, fto.2.tok⟩) | (rw [fto.1]; exact fto.2.shp) | exact shp_fits fto.2.shp | (rw [fto.1]; exact shown_pre2 fto.2) | (rw [fto.1, told_shown fto.2]; rfl) | (rw [fto.1, told_shown fto.2]; exact ⟨fto.2.tok, fto.2.tok⟩) | exact ⟨fp_1, fp_2⟩ | exact ⟨fp_2, fp_1⟩ | (rw [fto.1]; exact ⟨tok_cut fto.2.tok, fto.2.tok⟩) | (rw [fto.1]; exact ⟨fto.2.tok, fo⟩) | (rw [fto.1]; exact rng_side fto.2) | exact cut_side2 fto.1 fto.2 | exact at_in (by omega) (of_decide_eq_true (by assumption)) | (rw [fto.1]; exact len_side6 fto.2) | exact at_in (by decide) (by rw [fd]; decide) | exact sp_side _ | exact sp_side1 _ | exact ⟨by rw [fm.1]; decide, fm.2⟩ | exact fs | exact at_in (by decide) (by rw [fm.1]; decide) | exact lt_line (by omega) | (have := fto.2.len; omega) | exact ⟨by rw [fm.1]; decide, fm.2, fs⟩ | exact len_side1 fz fi | exact len_side2 fz fi (by rw [← ed_39]; exact loose_pre fm (stroke_small (by rw [fm.1]; decide))) | exact at_5 | exact len_side3 fin fn5 | exact len_side4 fin fn5 | exact len_side5 fin fn5 ed_73 | exact (bad_all fin fn5 ed_73 ed_79).1 | exact right_bad (bad_all fin fn5 ed_73 ed_79).2 | exact (good_all fin fn5 ed_174).1 | exact right_of fin fn5 ed_174 hb70 (by assumption) | exact left_of fin fn5 ed_174 (by assumption) | exact ⟨by show 0 ≤ 5; decide, fun _ h => by cases h⟩) | (first | omega | decide))) (ev_join ev_str (ev_var rfl h_26) (by first | (first | exact absurd hb87 (by rw [hb70, Bool.true_or]; decide) | (rw [fto.1]; exact ⟨fto.2.tok, fto.2.tok⟩) | (rw [fto.1]; exact fto.2.shp) | exact shp_fits fto.2.shp | (rw [fto.1]; exact shown_pre2 fto.2) | (rw [fto.1, told_shown fto.2]; rfl) | (rw [fto.1, told_shown fto.2]; exact ⟨fto.2.tok, fto.2.tok⟩) | exact ⟨fp_1, fp_2⟩ | exact ⟨fp_2, fp_1⟩ | (rw [fto.1]; exact ⟨tok_cut fto.2.tok, fto.2.tok⟩) | (rw [fto.1]; exact ⟨fto.2.tok, fo⟩) | (rw [fto.1]; exact rng_side fto.2) | exact cut_side2 fto.1 fto.2 | exact at_in (by omega) (of_decide_eq_true (by assumption)) | (rw [fto.1]; exact len_side6 fto.2) | exact at_in (by decide) (by rw [fd]; decide) | exact sp_side _ | exact sp_side1 _ | exact ⟨by rw [fm.1]; decide, fm.2⟩ | exact fs | exact at_in (by decide) (by rw [fm.1]; decide) | exact lt_line (by omega) | (have := fto.2.len; omega) | exact ⟨by rw [fm.1]; decide, fm.2, fs⟩ | exact len_side1 fz fi | exact len_side2 fz fi (by rw [← ed_39]; exact loose_pre fm (stroke_small (by rw [fm.1]; decide))) | exact at_5 | exact len_side3 fin fn5 | exact len_side4 fin fn5 | exact len_side5 fin fn5 ed_73 | exact (bad_all fin fn5 ed_73 ed_79).1 | exact right_bad (bad_all fin fn5 ed_73 ed_79).2 | exact (good_all fin fn5 ed_174).1 | exact right_of fin fn5 ed_174 hb70 (by assumption) | exact left_of fin fn5 ed_174 (by assumption) | exact ⟨by show 0 ≤ 5; decide, fun _ h => by cases h⟩) | (first | omega | decide | (show _ ≤ sizeLine; decide) | (show _ < sizeLine; decide)))))))))) ?_ ?_
          · intro hb197 G198 H199 g196
            have h_script := up g196.g h_script
            have h_3 := up g196.g h_3
            have h_26 := up g196.g h_26
            have h_176 := up g196.g h_176
            have h_65 := up g196.g h_65
            have h_190 := up g196.g h_190
            have gr := gr.trans g196
            replace hM := condT hM hb197
            refine s_ret (K := K) gr.s ev_bl fun u Gr Hr gq hu => ?_
            exact hQ u Gr Hr (gr.trans gq) (by rw [hM]; exact hu)
          · intro hb197 G200 H201 g196
            have h_script := up g196.g h_script
            have h_3 := up g196.g h_3
            have h_26 := up g196.g h_26
            have h_176 := up g196.g h_176
            have h_65 := up g196.g h_65
            have h_190 := up g196.g h_190
            have gr := gr.trans g196
            replace hM := condF hM hb197
            unfold m_law_28 at hM
            refine s_next ?_
            refine nx_mk ?_
            refine q_if gr.s (et_test (ev_neT (ev_inl (ev_call1 (ev_call1 (ev_var rfl h_190) (by first | (first | exact absurd hb87 (by rw [hb70, Bool.true_or]; decide) | (rw [fto.1]; exact ⟨fto.2.tok, fto.2.tok⟩) | (rw [fto.1]; exact fto.2.shp) | exact shp_fits fto.2.shp | (rw [fto.1]; exact shown_pre2 fto.2) | (rw [fto.1, told_shown fto.2]; rfl) | (rw [fto.1, told_shown fto.2]; exact ⟨fto.2.tok, fto.2.tok⟩) | exact ⟨fp_1, fp_2⟩ | exact ⟨fp_2, fp_1⟩ | (rw [fto.1]; exact ⟨tok_cut fto.2.tok, fto.2.tok⟩) | (rw [fto.1]; exact ⟨fto.2.tok, fo⟩) | (rw [fto.1]; exact rng_side fto.2) | exact cut_side2 fto.1 fto.2 | exact at_in (by omega) (of_decide_eq_true (by assumption)) | (rw [fto.1]; exact len_side6 fto.2) | exact at_in (by decide) (by rw [fd]; decide) | exact sp_side _ | exact sp_side1 _ | exact ⟨by rw [fm.1]; decide, fm.2⟩ | exact fs | exact at_in (by decide) (by rw [fm.1]; decide) | exact lt_line (by omega) | (have := fto.2.len; omega) | exact ⟨by rw [fm.1]; decide, fm.2, fs⟩ | exact len_side1 fz fi | exact len_side2 fz fi (by rw [← ed_39]; exact loose_pre fm (stroke_small (by rw [fm.1]; decide))) | exact at_5 | exact len_side3 fin fn5 | exact len_side4 fin fn5 | exact len_side5 fin fn5 ed_73 | exact (bad_all fin fn5 ed_73 ed_79).1 | exact right_bad (bad_all fin fn5 ed_73 ed_79).2 | exact (good_all fin fn5 ed_174).1 | exact right_of fin fn5 ed_174 hb70 (by assumption) | exact left_of fin fn5 ed_174 (by assumption) | exact ⟨by show 0 ≤ 5; decide, fun _ h => by cases h⟩) | (first | omega | decide))) (by first | (first | exact absurd hb87 (by rw [hb70, Bool.true_or]; decide) | (rw [fto.1]; exact ⟨fto.2.tok, fto.2.tok⟩) | (rw [fto.1]; exact fto.2.shp) | exact shp_fits fto.2.shp | (rw [fto.1]; exact shown_pre2 fto.2) | (rw [fto.1, told_shown fto.2]; rfl) | (rw [fto.1, told_shown fto.2]; exact ⟨fto.2.tok, fto.2.tok⟩) | exact ⟨fp_1, fp_2⟩ | exact ⟨fp_2, fp_1⟩ | (rw [fto.1]; exact ⟨tok_cut fto.2.tok, fto.2.tok⟩) | (rw [fto.1]; exact ⟨fto.2.tok, fo⟩) | (rw [fto.1]; exact rng_side fto.2) | exact cut_side2 fto.1 fto.2 | exact at_in (by omega) (of_decide_eq_true (by assumption)) | (rw [fto.1]; exact len_side6 fto.2) | exact at_in (by decide) (by rw [fd]; decide) | exact sp_side _ | exact sp_side1 _ | exact ⟨by rw [fm.1]; decide, fm.2⟩ | exact fs | exact at_in (by decide) (by rw [fm.1]; decide) | exact lt_line (by omega) | (have := fto.2.len; omega) | exact ⟨by rw [fm.1]; decide, fm.2, fs⟩ | exact len_side1 fz fi | exact len_side2 fz fi (by rw [← ed_39]; exact loose_pre fm (stroke_small (by rw [fm.1]; decide))) | exact at_5 | exact len_side3 fin fn5 | exact len_side4 fin fn5 | exact len_side5 fin fn5 ed_73 | exact (bad_all fin fn5 ed_73 ed_79).1 | exact right_bad (bad_all fin fn5 ed_73 ed_79).2 | exact (good_all fin fn5 ed_174).1 | exact right_of fin fn5 ed_174 hb70 (by assumption) | exact left_of fin fn5 ed_174 (by assumption) | exact ⟨by show 0 ≤ 5; decide, fun _ h => by cases h⟩) | (first | omega | decide))) (by first | (first | exact absurd hb87 (by rw [hb70, Bool.true_or]; decide) | (rw [fto.1]; exact ⟨fto.2.tok, fto.2.tok⟩) | (rw [fto.1]; exact fto.2.shp) | exact shp_fits fto.2.shp | (rw [fto.1]; exact shown_pre2 fto.2) | (rw [fto.1, told_shown fto.2]; rfl) | (rw [fto.1, told_shown fto.2]; exact ⟨fto.2.tok, fto.2.tok⟩) | exact ⟨fp_1, fp_2⟩ | exact ⟨fp_2, fp_1⟩ | (rw [fto.1]; exact ⟨tok_cut fto.2.tok, fto.2.tok⟩) | (rw [fto.1]; exact ⟨fto.2.tok, fo⟩) | (rw [fto.1]; exact rng_side fto.2) | exact cut_side2 fto.1 fto.2 | exact at_in (by omega) (of_decide_eq_true (by assumption)) | (rw [fto.1]; exact len_side6 fto.2) | exact at_in (by decide) (by rw [fd]; decide) | exact sp_side _ | exact sp_side1 _ | exact ⟨by rw [fm.1]; decide, fm.2⟩ | exact fs | exact at_in (by decide) (by rw [fm.1]; decide) | exact lt_line (by omega) | (have := fto.2.len; omega) | exact ⟨by rw [fm.1]; decide, fm.2, fs⟩ | exact len_side1 fz fi | exact len_side2 fz fi (by rw [← ed_39]; exact loose_pre fm (stroke_small (by rw [fm.1]; decide))) | exact at_5 | exact len_side3 fin fn5 | exact len_side4 fin fn5 | exact len_side5 fin fn5 ed_73 | exact (bad_all fin fn5 ed_73 ed_79).1 | exact right_bad (bad_all fin fn5 ed_73 ed_79).2 | exact (good_all fin fn5 ed_174).1 | exact right_of fin fn5 ed_174 hb70 (by assumption) | exact left_of fin fn5 ed_174 (by assumption) | exact ⟨by show 0 ≤ 5; decide, fun _ h => by cases h⟩) | (first | omega | decide))) (ev_var rfl h_190) (by first | (first | exact absurd hb87 (by rw [hb70, Bool.true_or]; decide) | (rw [fto.1]; exact ⟨fto.2.tok, fto.2.tok⟩) | (rw [fto.1]; exact fto.2.shp) | exact shp_fits fto.2.shp | (rw [fto.1]; exact shown_pre2 fto.2) | (rw [fto.1, told_shown fto.2]; rfl) | (rw [fto.1, told_shown fto.2]; exact ⟨fto.2.tok, fto.2.tok⟩) | exact ⟨fp_1, fp_2⟩ | exact ⟨fp_2, fp_1⟩ | (rw [fto.1]; exact ⟨tok_cut fto.2.tok, fto.2.tok⟩) | (rw [fto.1]; exact ⟨fto.2.tok, fo⟩) | (rw [fto.1]; exact rng_side fto.2) | exact cut_side2 fto.1 fto.2 | exact at_in (by omega) (of_decide_eq_true (by assumption)) | (rw [fto.1]; exact len_side6 fto.2) | exact at_in (by decide) (by rw [fd]; decide) | exact sp_side _ | exact sp_side1 _ | exact ⟨by rw [fm.1]; decide, fm.2⟩ | exact fs | exact at_in (by decide) (by rw [fm.1]; decide) | exact lt_line (by omega) | (have := fto.2.len; omega) | exact ⟨by rw [fm.1]; decide, fm.2, fs⟩ | exact len_side1 fz fi | exact len_side2 fz fi (by rw [← ed_39]; exact loose_pre fm (stroke_small (by rw [fm.1]; decide))) | exact at_5 | exact len_side3 fin fn5 | exact len_side4 fin fn5 | exact len_side5 fin fn5 ed_73 | exact (bad_all fin fn5 ed_73 ed_79).1 | exact right_bad (bad_all fin fn5 ed_73 ed_79).2 | exact (good_all fin fn5 ed_174).1 | exact right_of fin fn5 ed_174 hb70 (by assumption) | exact left_of fin fn5 ed_174 (by assumption) | exact ⟨by show 0 ≤ 5; decide, fun _ h => by cases h⟩) | (first | omega | decide | (show _ ≤ sizeLine; decide) | (show _ < sizeLine; decide))))) ?_ ?_
            · intro hb203 G204 H205 g202
              have h_script := up g202.g h_script
              have h_3 := up g202.g h_3
              have h_26 := up g202.g h_26
              have h_176 := up g202.g h_176
              have h_65 := up g202.g h_65
              have h_190 := up g202.g h_190
              have gr := gr.trans g202
              replace hM := condT hM hb203
              refine s_ret (K := K) gr.s ev_bl fun u Gr Hr gq hu => ?_
              exact hQ u Gr Hr (gr.trans gq) (by rw [hM]; exact hu)
            · intro hb203 G206 H207 g202
              have h_script := up g202.g h_script
              have h_3 := up g202.g h_3
              have h_26 := up g202.g h_26
              have h_176 := up g202.g h_176
              have h_65 := up g202.g h_65
              have h_190 := up g202.g h_190
              have gr := gr.trans g202
              replace hM := condF hM hb203
              refine s_next ?_
              refine nx_mk ?_
              refine q_asg (K := K) gr.s (ev_add ev_int (ev_mod (ev_int1 (ev_ixL (ev_var rfl h_3) ev_int (atI_get (by first | (first | exact absurd hb87 (by rw [hb70, Bool.true_or]; decide) | (rw [fto.1]; exact ⟨fto.2.tok, fto.2.tok⟩) | (rw [fto.1]; exact fto.2.shp) | exact shp_fits fto.2.shp | (rw [fto.1]; exact shown_pre2 fto.2) | (rw [fto.1, told_shown fto.2]; rfl) | (rw [fto.1, told_shown fto.2]; exact ⟨fto.2.tok, fto.2.tok⟩) | exact ⟨fp_1, fp_2⟩ | exact ⟨fp_2, fp_1⟩ | (rw [fto.1]; exact ⟨tok_cut fto.2.tok, fto.2.tok⟩) | (rw [fto.1]; exact ⟨fto.2.tok, fo⟩) | (rw [fto.1]; exact rng_side fto.2) | exact cut_side2 fto.1 fto.2 | exact at_in (by omega) (of_decide_eq_true (by assumption)) | (rw [fto.1]; exact len_side6 fto.2) | exact at_in (by decide) (by rw [fd]; decide) | exact sp_side _ | exact sp_side1 _ | exact ⟨by rw [fm.1]; decide, fm.2⟩ | exact fs | exact at_in (by decide) (by rw [fm.1]; decide) | exact lt_line (by omega) | (have := fto.2.len; omega) | exact ⟨by rw [fm.1]; decide, fm.2, fs⟩ | exact len_side1 fz fi | exact len_side2 fz fi (by rw [← ed_39]; exact loose_pre fm (stroke_small (by rw [fm.1]; decide))) | exact at_5 | exact len_side3 fin fn5 | exact len_side4 fin fn5 | exact len_side5 fin fn5 ed_73 | exact (bad_all fin fn5 ed_73 ed_79).1 | exact right_bad (bad_all fin fn5 ed_73 ed_79).2 | exact (good_all fin fn5 ed_174).1 | exact right_of fin fn5 ed_174 hb70 (by assumption) | exact left_of fin fn5 ed_174 (by assumption) | exact ⟨by show 0 ≤ 5; decide, fun _ h => by cases h⟩) | (first | decide | (refine at_in ?_ ?_ <;> omega) | (refine at_neg ?_ ?_ <;> omega)))))) (ev_lenL (ev_var rfl h_26)) (by first | (first | exact absurd hb87 (by rw [hb70, Bool.true_or]; decide) | (rw [fto.1]; exact ⟨fto.2.tok, fto.2.tok⟩) | (rw [fto.1]; exact fto.2.shp) | exact shp_fits fto.2.shp | (rw [fto.1]; exact shown_pre2 fto.2) | (rw [fto.1, told_shown fto.2]; rfl) | (rw [fto.1, told_shown fto.2]; exact ⟨fto.2.tok, fto.2.tok⟩) | exact ⟨fp_1, fp_2⟩ | exact ⟨fp_2, fp_1⟩ | (rw [fto.1]; exact ⟨tok_cut fto.2.tok, fto.2.tok⟩) | (rw [fto.1]; exact ⟨fto.2.tok, fo⟩) | (rw [fto.1]; exact rng_side fto.2) | exact cut_side2 fto.1 fto.2 | exact at_in (by omega) (of_decide_eq_true (by assumption)) | (rw [fto.1]; exact len_side6 fto.2) | exact at_in (by decide) (by rw [fd]; decide) | exact sp_side _ | exact sp_side1 _ | exact ⟨by rw [fm.1]; decide, fm.2⟩ | exact fs | exact at_in (by decide) (by rw [fm.1]; decide) | exact lt_line (by omega) | (have := fto.2.len; omega) | exact ⟨by rw [fm.1]; decide, fm.2, fs⟩ | exact len_side1 fz fi | exact len_side2 fz fi (by rw [← ed_39]; exact loose_pre fm (stroke_small (by rw [fm.1]; decide))) | exact at_5 | exact len_side3 fin fn5 | exact len_side4 fin fn5 | exact len_side5 fin fn5 ed_73 | exact (bad_all fin fn5 ed_73 ed_79).1 | exact right_bad (bad_all fin fn5 ed_73 ed_79).2 | exact (good_all fin fn5 ed_174).1 | exact right_of fin fn5 ed_174 hb70 (by assumption) | exact left_of fin fn5 ed_174 (by assumption) | exact ⟨by show 0 ≤ 5; decide, fun _ h => by cases h⟩) | (first | omega | decide | (show _ ≤ sizeLine; decide) | (show _ < sizeLine; decide))))) fun w_209 G212 H213 g211 (h_210 : rep K ((1 : Int) + ((getI d_1 (5 : Int)) % ((d_24).length : Int))) w_209 G212) => ?_
              have h_script := up g211.g h_script
              have h_3 := up g211.g h_3
              have h_26 := up g211.g h_26
              have h_176 := up g211.g h_176
              have h_65 := up g211.g h_65
              have h_190 := up g211.g h_190
              have gr := gr.trans g211
              generalize ed_208 : ((1 : Int) + ((getI d_1 (5 : Int)) % ((d_24).length : Int))) = d_208 at h_210 hM
              unfold m_law_27 at hM
              refine q_forL (K := K) gr.s (ev_lst (ea_cons (ev_tup2 (ev_tpl (ea_cons ev_str ea_nil) (by show _ ≤ sizeLine; decide)) (ev_tpl (ea_cons ev_str ea_nil) (by show _ ≤ sizeLine; decide))) (ea_cons (ev_tup2 (ev_tpl (ea_cons ev_str ea_nil) (by show _ ≤ sizeLine; decide)) (ev_tpl (ea_cons ev_str ea_nil) (by show _ ≤ sizeLine; decide))) (ea_cons (ev_tup2 (ev_tpl (ea_cons ev_str ea_nil) (by show _ ≤ sizeLine; decide)) (ev_tpl (ea_cons ev_str ea_nil) (by show _ ≤ sizeLine; decide))) (ea_cons (ev_tup2 (ev_tpl (ea_cons ev_str (ea_cons ev_str ea_nil)) (by show _ ≤ sizeLine; decide)) (ev_tpl (ea_cons ev_str (ea_cons ev_str ea_nil)) (by show _ ≤ sizeLine; decide))) ea_nil)))) (by first | (first | exact absurd hb87 (by rw [hb70, Bool.true_or]; decide) | (rw [fto.1]; exact ⟨fto.2.tok, fto.2.tok⟩) | (rw [fto.1]; exact fto.2.shp) | exact shp_fits fto.2.shp | (rw [fto.1]; exact shown_pre2 fto.2) | (rw [fto.1, told_shown fto.2]; rfl) | (rw [fto.1, told_shown fto.2]; exact ⟨fto.2.tok, fto.2.tok⟩) | exact ⟨fp_1, fp_2⟩ | exact ⟨fp_2, fp_1⟩ | (rw [fto.1]; exact ⟨tok_cut fto.2.tok, fto.2.tok⟩) | (rw [fto.1]; exact ⟨fto.2.tok, fo⟩) | (rw [fto.1]; exact rng_side fto.2) | exact cut_side2 fto.1 fto.2 | exact at_in (by omega) (of_decide_eq_true (by assumption)) | (rw [fto.1]; exact len_side6 fto.2) | exact at_in (by decide) (by rw [fd]; decide) | exact sp_side _ | exact sp_side1 _ | exact ⟨by rw [fm.1]; decide, fm.2⟩ | exact fs | exact at_in (by decide) (by rw [fm.1]; decide) | exact lt_line (by omega) | (have := fto.2.len; omega) | exact ⟨by rw [fm.1]; decide, fm.2, fs⟩ | exact len_side1 fz fi | exact len_side2 fz fi (by rw [← ed_39]; exact loose_pre fm (stroke_small (by rw [fm.1]; decide))) | exact at_5 | exact len_side3 fin fn5 | exact len_side4 fin fn5 | exact len_side5 fin fn5 ed_73 | exact (bad_all fin fn5 ed_73 ed_79).1 | exact right_bad (bad_all fin fn5 ed_73 ed_79).2 | exact (good_all fin fn5 ed_174).1 | exact right_of fin fn5 ed_174 hb70 (by assumption) | exact left_of fin fn5 ed_174 (by assumption) | exact ⟨by show 0 ≤ 5; decide, fun _ h => by cases h⟩) | (first | (show _ ≤ sizeLine; decide) | (simp only [List.length_cons, List.length_nil, List.length_append, sizeLine_eq]; omega) | (fail)))) fun G217 H218 xs219 g220 rs221 => ?_
              have h_script := up g220.g h_script
              have h_3 := up g220.g h_3
              have h_26 := up g220.g h_26
              have h_176 := up g220.g h_176
              have h_65 := up g220.g h_65
              have h_190 := up g220.g h_190
              have h_210 := up g220.g h_210
              have gr := gr.trans g220
              refine ⟨fun i_ σ_ H_ => ∃ st_ : Unit, (runL m_law_22 () (List.take i_ (((Tpl.mk (("F1" : Str) :: ([] : List Str))), (Tpl.mk (("F12" : Str) :: ([] : List Str)))) :: (((Tpl.mk (("S" : Str) :: ([] : List Str))), (Tpl.mk (("Space" : Str) :: ([] : List Str)))) :: (((Tpl.mk (("Ctrl+P" : Str) :: ([] : List Str))), (Tpl.mk (("Ctrl+PageUp" : Str) :: ([] : List Str)))) :: (((Tpl.mk (("A" : Str) :: (("F1" : Str) :: ([] : List Str)))), (Tpl.mk (("A" : Str) :: (("F12" : Str) :: ([] : List Str))))) :: ([] : List ((Tpl Str) × (Tpl Str))))))))) = Step.go st_ ∧ ∃ (G266 : Hp) (o_222 : Option V) (o_223 : Option V), Grow Ge He G266 H_ ∧ Same G217 G266 ∧ σ_ = [some w_script, some w_2, some (V.ref a9), some w_175, o_32, some w_64, some w_189, some w_209, o_222, o_223, none, none, o_30, o_31], ⟨(), rfl, _, _, _, gr, Same.refl _, rfl⟩, ?_, ?_, ?_⟩
              · rintro i_ σ_ H_ ⟨st_, hgo_, G266, o_222, o_223, gr, sg0, rfl⟩
                exact sg0.trans gr.s
              · rintro i_0 d_214 w_215 σ_0 H_0 hx0 h_216 ⟨st_0, hgo0, G266, o_222, o_223, gr, sg0, rfl⟩
                have h_script := up sg0 h_script
                have h_3 := up sg0 h_3
                have h_26 := up sg0 h_26
                have h_176 := up sg0 h_176
                have h_65 := up sg0 h_65
                have h_190 := up sg0 h_190
                have h_210 := up sg0 h_210
                have h_216 := up sg0 h_216
                refine pair_apart h_216 gr.s fun w_225 w_228 h_226 h_229 => ?_
                have hMo0 := hM
                clear hM
                obtain ⟨⟩ := st_0
                have hM : m_law_22 () d_214 = m_law_22 () d_214 := rfl
                conv at hM => rhs; unfold m_law_22; unfold m_law_21
                have fp_1 : TOk d_214.1.l := (pairs_ok _ (List.mem_of_getElem? hx0)).1
                have fp_2 : TOk d_214.2.l := (pairs_ok _ (List.mem_of_getElem? hx0)).2
                generalize d_214.1 = d_224 at h_226 fp_1 hM
                generalize d_214.2 = d_227 at h_229 fp_2 hM
                refine s_if gr.s (et_or (et_test (ev_isNB (ev_call2 (ev_var rfl h_226) (ev_var rfl h_229) (by first | (first | exact absurd hb87 (by rw [hb70, Bool.true_or]; decide) | (rw [fto.1]; exact ⟨fto.2.tok, fto.2.tok⟩) | (rw [fto.1]; exact fto.2.shp) | exact shp_fits fto.2.shp | (rw [fto.1]; exact shown_pre2 fto.2) | (rw [fto.1, told_shown fto.2]; rfl) | (rw [fto.1, told_shown fto.2]; exact ⟨fto.2.tok, fto.2.tok⟩) | exact ⟨fp_1, fp_2⟩ | exact ⟨fp_2, fp_1⟩ | (rw [fto.1]; exact ⟨tok_cut fto.2.tok, fto.2.tok⟩) | (rw [fto.1]; exact ⟨fto.2.tok, fo⟩) | (rw [fto.1]; exact rng_side fto.2) | exact cut_side2 fto.1 fto.2 | exact at_in (by omega) (of_decide_eq_true (by assumption)) | (rw [fto.1]; exact len_side6 fto.2) | exact at_in (by decide) (by rw [fd]; decide) | exact sp_side _ | exact sp_side1 _ | exact ⟨by rw [fm.1]; decide, fm.2⟩ | exact fs | exact at_in (by decide) (by rw [fm.1]; decide) | exact lt_line (by omega) | (have := fto.2.len; omega) | exact ⟨by rw [fm.1]; decide, fm.2, fs⟩ | exact len_side1 fz fi | exact len_side2 fz fi (by rw [← ed_39]; exact loose_pre fm (stroke_small (by rw [fm.1]; decide))) | exact at_5 | exact len_side3 fin fn5 | exact len_side4 fin fn5 | exact len_side5 fin fn5 ed_73 | exact (bad_all fin fn5 ed_73 ed_79).1 | exact right_bad (bad_all fin fn5 ed_73 ed_79).2 | exact (good_all fin fn5 ed_174).1 | exact right_of fin fn5 ed_174 hb70 (by assumption) | exact left_of fin fn5 ed_174 (by assumption) | exact ⟨by show 0 ≤ 5; decide, fun _ h => by cases h⟩) | (first | omega | decide))) ev_bl)) (fun hb230 => (et_test (ev_isNB (ev_call2 (ev_var rfl h_229) (ev_var rfl h_226) (by first | (first | exact absurd hb87 (by rw [hb70, Bool.true_or]; decide) | (rw [fto.1]; exact ⟨fto.2.tok, fto.2.tok⟩) | (rw [fto.1]; exact fto.2.shp) | exact shp_fits fto.2.shp | (rw [fto.1]; exact shown_pre2 fto.2) | (rw [fto.1, told_shown fto.2]; rfl) | (rw [fto.1, told_shown fto.2]; exact ⟨fto.2.tok, fto.2.tok⟩) | exact ⟨fp_1, fp_2⟩ | exact ⟨fp_2, fp_1⟩ | (rw [fto.1]; exact ⟨tok_cut fto.2.tok, fto.2.tok⟩) | (rw [fto.1]; exact ⟨fto.2.tok, fo⟩) | (rw [fto.1]; exact rng_side fto.2) | exact cut_side2 fto.1 fto.2 | exact at_in (by omega) (of_decide_eq_true (by assumption)) | (rw [fto.1]; exact len_side6 fto.2) | exact at_in (by decide) (by rw [fd]; decide) | exact sp_side _ | exact sp_side1 _ | exact ⟨by rw [fm.1]; decide, fm.2⟩ | exact fs | exact at_in (by decide) (by rw [fm.1]; decide) | exact lt_line (by omega) | (have := fto.2.len; omega) | exact ⟨by rw [fm.1]; decide, fm.2, fs⟩ | exact len_side1 fz fi | exact len_side2 fz fi (by rw [← ed_39]; exact loose_pre fm (stroke_small (by rw [fm.1]; decide))) | exact at_5 | exact len_side3 fin fn5 | exact len_side4 fin fn5 | exact len_side5 fin fn5 ed_73 | exact (bad_all fin fn5 ed_73 ed_79).1 | exact right_bad (bad_all fin fn5 ed_73 ed_79).2 | exact (good_all fin fn5 ed_174).1 | exact right_of fin fn5 ed_174 hb70 (by assumption) | exact left_of fin fn5 ed_174 (by assumption) | exact ⟨by show 0 ≤ 5; decide, fun _ h => by cases h⟩) | (first | omega | decide))) ev_bl)))) ?_ ?_
                · intro hb232 G233 H234 g231
                  have h_script := up g231.g h_script
                  have h_3 := up g231.g h_3
                  have h_26 := up g231.g h_26
                  have h_176 := up g231.g h_176
                  have h_65 := up g231.g h_65
                  have h_190 := up g231.g h_190
                  have h_210 := up g231.g h_210
                  have h_226 := up g231.g h_226
                  have h_229 := up g231.g h_229
                  have sg0 := sg0.trans g231.g
                  have gr := gr.trans g231
                  replace hM := condT hM hb232
                  refine s_ret (K := K) gr.s ev_bl fun u Gr Hr gq hu => ?_
                  exact hQ u Gr Hr (gr.trans gq) (by rw [(exitF_ret hMo0 (runL_ret hgo0 hx0 hM))]; exact hu)
                · intro hb232 G235 H236 g231
                  have h_script := up g231.g h_script
                  have h_3 := up g231.g h_3
                  have h_26 := up g231.g h_26
                  have h_176 := up g231.g h_176
                  have h_65 := up g231.g h_65
                  have h_190 := up g231.g h_190
                  have h_210 := up g231.g h_210
                  have h_226 := up g231.g h_226
                  have h_229 := up g231.g h_229
                  have sg0 := sg0.trans g231.g
                  have gr := gr.trans g231
                  replace hM := condF hM hb232
                  refine s_next ?_
                  exact ⟨_, (runL_go hgo0 hx0 hM), _, _, _, gr, sg0, rfl⟩
              · rintro σ_0 H_0 ⟨st_0, hgo0, G266, o_222, o_223, gr, sg0, rfl⟩
                have h_script := up sg0 h_script
                have h_3 := up sg0 h_3
                have h_26 := up sg0 h_26
                have h_176 := up sg0 h_176
                have h_65 := up sg0 h_65
                have h_190 := up sg0 h_190
                have h_210 := up sg0 h_210
                rw [List.take_length] at hgo0
                rw [hgo0, exitF_go] at hM
                unfold m_law_26 at hM
                refine q_if gr.s (et_or (et_test (ev_isNB (ev_call2 (ev_slT (ev_var rfl h_190) eo_none (eo_some (ev_var rfl h_210))) (ev_var rfl h_190) (by first | (first | exact absurd hb87 (by rw [hb70, Bool.true_or]; decide) | (rw [fto.1]; exact ⟨fto.2.tok, fto.2.tok⟩) | (rw [fto.1]; exact fto.2.shp) | exact shp_fits fto.2.shp | (rw [fto.1]; exact shown_pre2 fto.2) | (rw [fto.1, told_shown fto.2]; rfl) | (rw [fto.1, told_shown fto.2]; exact ⟨fto.2.tok, fto.2.tok⟩) | exact ⟨fp_1, fp_2⟩ | exact ⟨fp_2, fp_1⟩ | (rw [fto.1]; exact ⟨tok_cut fto.2.tok, fto.2.tok⟩) | (rw [fto.1]; exact ⟨fto.2.tok, fo⟩) | (rw [fto.1]; exact rng_side fto.2) | exact cut_side2 fto.1 fto.2 | exact at_in (by omega) (of_decide_eq_true (by assumption)) | (rw [fto.1]; exact len_side6 fto.2) | exact at_in (by decide) (by rw [fd]; decide) | exact sp_side _ | exact sp_side1 _ | exact ⟨by rw [fm.1]; decide, fm.2⟩ | exact fs | exact at_in (by decide) (by rw [fm.1]; decide) | exact lt_line (by omega) | (have := fto.2.len; omega) | exact ⟨by rw [fm.1]; decide, fm.2, fs⟩ | exact len_side1 fz fi | exact len_side2 fz fi (by rw [← ed_39]; exact loose_pre fm (stroke_small (by rw [fm.1]; decide))) | exact at_5 | exact len_side3 fin fn5 | exact len_side4 fin fn5 | exact len_side5 fin fn5 ed_73 | exact (bad_all fin fn5 ed_73 ed_79).1 | exact right_bad (bad_all fin fn5 ed_73 ed_79).2 | exact (good_all fin fn5 ed_174).1 | exact right_of fin fn5 ed_174 hb70 (by assumption) | exact left_of fin fn5 ed_174 (by assumption) | exact ⟨by show 0 ≤ 5; decide, fun _ h => by cases h⟩) | (first | omega | decide))) ev_bl)) (fun hb237 => (et_test (ev_isNB (ev_call2 (ev_var rfl h_190) (ev_var rfl h_190) (by first | (first | exact absurd hb87 (by rw [hb70, Bool.true_or]; decide) | (rw [fto.1]; exact ⟨fto.2.tok, fto.2.tok⟩) | (rw [fto.1]; exact fto.2.shp) | exact shp_fits fto.2.shp | (rw [fto.1]; exact shown_pre2 fto.2) | (rw [fto.1, told_shown fto.2]; rfl) | (rw [fto.1, told_shown fto.2]; exact ⟨fto.2.tok, fto.2.tok⟩) | exact ⟨fp_1, fp_2⟩ | exact ⟨fp_2, fp_1⟩ | (rw [fto.1]; exact ⟨tok_cut fto.2.tok, fto.2.tok⟩) | (rw [fto.1]; exact ⟨fto.2.tok, fo⟩) | (rw [fto.1]; exact rng_side fto.2) | exact cut_side2 fto.1 fto.2 | exact at_in (by omega) (of_decide_eq_true (by assumption)) | (rw [fto.1]; exact len_side6 fto.2) | exact at_in (by decide) (by rw [fd]; decide) | exact sp_side _ | exact sp_side1 _ | exact ⟨by rw [fm.1]; decide, fm.2⟩ | exact fs | exact at_in (by decide) (by rw [fm.1]; decide) | exact lt_line (by omega) | (have := fto.2.len; omega) | exact ⟨by rw [fm.1]; decide, fm.2, fs⟩ | exact len_side1 fz fi | exact len_side2 fz fi (by rw [← ed_39]; exact loose_pre fm (stroke_small (by rw [fm.1]; decide))) | exact at_5 | exact len_side3 fin fn5 | exact len_side4 fin fn5 | exact len_side5 fin fn5 ed_73 | exact (bad_all fin fn5 ed_73 ed_79).1 | exact right_bad (bad_all fin fn5 ed_73 ed_79).2 | exact (good_all fin fn5 ed_174).1 | exact right_of fin fn5 ed_174 hb70 (by assumption) | exact left_of fin fn5 ed_174 (by assumption) | exact ⟨by show 0 ≤ 5; decide, fun _ h => by cases h⟩) | (first | omega | decide))) ev_bl)))) ?_ ?_
                · intro hb239 G240 H241 g238
                  have h_script := up g238.g h_script
                  have h_3 := up g238.g h_3
                  have h_26 := up g238.g h_26
                  have h_176 := up g238.g h_176
                  have h_65 := up g238.g h_65
                  have h_190 := up g238.g h_190
                  have h_210 := up g238.g h_210
                  have gr := gr.trans g238
                  replace hM := condT hM hb239
                  refine s_ret (K := K) gr.s ev_bl fun u Gr Hr gq hu => ?_
                  exact hQ u Gr Hr (gr.trans gq) (by rw [hM]; exact hu)
                · intro hb239 G242 H243 g238
                  have h_script := up g238.g h_script
                  have h_3 := up g238.g h_3
                  have h_26 := up g238.g h_26
                  have h_176 := up g238.g h_176
                  have h_65 := up g238.g h_65
                  have h_190 := up g238.g h_190
                  have h_210 := up g238.g h_210
                  have gr := gr.trans g238
                  replace hM := condF hM hb239
                  unfold m_law_25 at hM
                  refine s_next ?_
                  refine nx_mk ?_
                  refine q_asg (K := K) gr.s (ev_slT (ev_catT (ev_slT (ev_var rfl h_190) eo_none (eo_some (ev_var rfl h_210))) (ev_tpl (ea_cons ev_str ea_nil) (by show _ ≤ sizeLine; decide)) (by first | (first | exact absurd hb87 (by rw [hb70, Bool.true_or]; decide) | (rw [fto.1]; exact ⟨fto.2.tok, fto.2.tok⟩) | (rw [fto.1]; exact fto.2.shp) | exact shp_fits fto.2.shp | (rw [fto.1]; exact shown_pre2 fto.2) | (rw [fto.1, told_shown fto.2]; rfl) | (rw [fto.1, told_shown fto.2]; exact ⟨fto.2.tok, fto.2.tok⟩) | exact ⟨fp_1, fp_2⟩ | exact ⟨fp_2, fp_1⟩ | (rw [fto.1]; exact ⟨tok_cut fto.2.tok, fto.2.tok⟩) | (rw [fto.1]; exact ⟨fto.2.tok, fo⟩) | (rw [fto.1]; exact rng_side fto.2) | exact cut_side2 fto.1 fto.2 | exact at_in (by omega) (of_decide_eq_true (by assumption)) | (rw [fto.1]; exact len_side6 fto.2) | exact at_in (by decide) (by rw [fd]; decide) | exact sp_side _ | exact sp_side1 _ | exact ⟨by rw [fm.1]; decide, fm.2⟩ | exact fs | exact at_in (by decide) (by rw [fm.1]; decide) | exact lt_line (by omega) | (have := fto.2.len; omega) | exact ⟨by rw [fm.1]; decide, fm.2, fs⟩ | exact len_side1 fz fi | exact len_side2 fz fi (by rw [← ed_39]; exact loose_pre fm (stroke_small (by rw [fm.1]; decide))) | exact at_5 | exact len_side3 fin fn5 | exact len_side4 fin fn5 | exact len_side5 fin fn5 ed_73 | exact (bad_all fin fn5 ed_73 ed_79).1 | exact right_bad (bad_all fin fn5 ed_73 ed_79).2 | exact (good_all fin fn5 ed_174).1 | exact right_of fin fn5 ed_174 hb70 (by assumption) | exact left_of fin fn5 ed_174 (by assumption) | exact ⟨by show 0 ≤ 5; decide, fun _ h => by cases h⟩) | (first | omega | decide | (show _ ≤ sizeLine; decide) | (show _ < sizeLine; decide)))) eo_none (eo_some ev_int)) fun w_245 G248 H249 g247 (h_246 : rep K (Tpl.mk (cutL ((Tpl.mk (((Tpl.mk (cutL (d_188).l none (some d_208)))).l ++ ((Tpl.mk (("Tab" : Str) :: ([] : List Str)))).l))).l none (some (3 : Int)))) w_245 G248) => ?_
                  have h_script := up g247.g h_script
                  have h_3 := up g247.g h_3
                  have h_26 := up g247.g h_26
                  have h_176 := up g247.g h_176
                  have h_65 := up g247.g h_65
                  have h_190 := up g247.g h_190
                  have h_210 := up g247.g h_210
                  have gr := gr.trans g247
                  generalize ed_244 : (Tpl.mk (cutL ((Tpl.mk (((Tpl.mk (cutL (d_188).l none (some d_208)))).l ++ ((Tpl.mk (("Tab" : Str) :: ([] : List Str)))).l))).l none (some (3 : Int)))) = d_244 at h_246 hM
                  unfold m_law_24 at hM
                  have fo : TOk d_244.l := by rw [← ed_244]; first | exact absurd hb87 (by rw [hb70, Bool.true_or]; decide) | exact tok_cut (tok_app (tok_cut (by rw [fto.1]; exact fto.2.tok)) tab_ok)
                  refine q_asg (K := K) gr.s (ev_eq (ev_lenL (ev_lcR1 (fun d_250 => ((decide (d_250 < ((d_244).l.length : Int))) && (eqB (getI (d_244).l d_250) (getI (d_188).l d_250)))) (fun d_250 => d_250) (ev_lenT (ev_var rfl h_190)) (by first | (first | exact absurd hb87 (by rw [hb70, Bool.true_or]; decide) | (rw [fto.1]; exact ⟨fto.2.tok, fto.2.tok⟩) | (rw [fto.1]; exact fto.2.shp) | exact shp_fits fto.2.shp | (rw [fto.1]; exact shown_pre2 fto.2) | (rw [fto.1, told_shown fto.2]; rfl) | (rw [fto.1, told_shown fto.2]; exact ⟨fto.2.tok, fto.2.tok⟩) | exact ⟨fp_1, fp_2⟩ | exact ⟨fp_2, fp_1⟩ | (rw [fto.1]; exact ⟨tok_cut fto.2.tok, fto.2.tok⟩) | (rw [fto.1]; exact ⟨fto.2.tok, fo⟩) | (rw [fto.1]; exact rng_side fto.2) | exact cut_side2 fto.1 fto.2 | exact at_in (by omega) (of_decide_eq_true (by assumption)) | (rw [fto.1]; exact len_side6 fto.2) | exact at_in (by decide) (by rw [fd]; decide) | exact sp_side _ | exact sp_side1 _ | exact ⟨by rw [fm.1]; decide, fm.2⟩ | exact fs | exact at_in (by decide) (by rw [fm.1]; decide) | exact lt_line (by omega) | (have := fto.2.len; omega) | exact ⟨by rw [fm.1]; decide, fm.2, fs⟩ | exact len_side1 fz fi | exact len_side2 fz fi (by rw [← ed_39]; exact loose_pre fm (stroke_small (by rw [fm.1]; decide))) | exact at_5 | exact len_side3 fin fn5 | exact len_side4 fin fn5 | exact len_side5 fin fn5 ed_73 | exact (bad_all fin fn5 ed_73 ed_79).1 | exact right_bad (bad_all fin fn5 ed_73 ed_79).2 | exact (good_all fin fn5 ed_174).1 | exact right_of fin fn5 ed_174 hb70 (by assumption) | exact left_of fin fn5 ed_174 (by assumption) | exact ⟨by show 0 ≤ 5; decide, fun _ h => by cases h⟩) | (first | omega | decide | (show _ ≤ sizeLine; decide) | (show _ < sizeLine; decide))) (fun d_250 G_ H_ lo257 hi258 sg254 sh_ P k => by have h_190 := up sg254 h_190; have h_246 := up sg254 h_246; have h_252 : rep K d_250 (V.int d_250) G_ := rfl; exact k _ rfl (et_and (et_test (ev_lt (ev_var rfl h_252) (ev_lenT (ev_var rfl h_246)))) (fun hb253 => (et_test (ev_eq (ev_ixT (ev_var rfl h_246) (ev_var rfl h_252) (atI_get (by first | (first | exact absurd hb87 (by rw [hb70, Bool.true_or]; decide) | (rw [fto.1]; exact ⟨fto.2.tok, fto.2.tok⟩) | (rw [fto.1]; exact fto.2.shp) | exact shp_fits fto.2.shp | (rw [fto.1]; exact shown_pre2 fto.2) | (rw [fto.1, told_shown fto.2]; rfl) | (rw [fto.1, told_shown fto.2]; exact ⟨fto.2.tok, fto.2.tok⟩) | exact ⟨fp_1, fp_2⟩ | exact ⟨fp_2, fp_1⟩ | (rw [fto.1]; exact ⟨tok_cut fto.2.tok, fto.2.tok⟩) | (rw [fto.1]; exact ⟨fto.2.tok, fo⟩) | (rw [fto.1]; exact rng_side fto.2) | exact cut_side2 fto.1 fto.2 | exact at_in (by omega) (of_decide_eq_true (by assumption)) | (rw [fto.1]; exact len_side6 fto.2) | exact at_in (by decide) (by rw [fd]; decide) | exact sp_side _ | exact sp_side1 _ | exact ⟨by rw [fm.1]; decide, fm.2⟩ | exact fs | exact at_in (by decide) (by rw [fm.1]; decide) | exact lt_line (by omega) | (have := fto.2.len; omega) | exact ⟨by rw [fm.1]; decide, fm.2, fs⟩ | exact len_side1 fz fi | exact len_side2 fz fi (by rw [← ed_39]; exact loose_pre fm (stroke_small (by rw [fm.1]; decide))) | exact at_5 | exact len_side3 fin fn5 | exact len_side4 fin fn5 | exact len_side5 fin fn5 ed_73 | exact (bad_all fin fn5 ed_73 ed_79).1 | exact right_bad (bad_all fin fn5 ed_73 ed_79).2 | exact (good_all fin fn5 ed_174).1 | exact right_of fin fn5 ed_174 hb70 (by assumption) | exact left_of fin fn5 ed_174 (by assumption) | exact ⟨by show 0 ≤ 5; decide, fun _ h => by cases h⟩) | (first | decide | (refine at_in ?_ ?_ <;> omega) | (refine at_neg ?_ ?_ <;> omega))))) (ev_ixT (ev_var rfl h_190) (ev_var rfl h_252) (atI_get (by first | (first | exact absurd hb87 (by rw [hb70, Bool.true_or]; decide) | (rw [fto.1]; exact ⟨fto.2.tok, fto.2.tok⟩) | (rw [fto.1]; exact fto.2.shp) | exact shp_fits fto.2.shp | (rw [fto.1]; exact shown_pre2 fto.2) | (rw [fto.1, told_shown fto.2]; rfl) | (rw [fto.1, told_shown fto.2]; exact ⟨fto.2.tok, fto.2.tok⟩) | exact ⟨fp_1, fp_2⟩ | exact ⟨fp_2, fp_1⟩ | (rw [fto.1]; exact ⟨tok_cut fto.2.tok, fto.2.tok⟩) | (rw [fto.1]; exact ⟨fto.2.tok, fo⟩) | (rw [fto.1]; exact rng_side fto.2) | exact cut_side2 fto.1 fto.2 | exact at_in (by omega) (of_decide_eq_true (by assumption)) | (rw [fto.1]; exact len_side6 fto.2) | exact at_in (by decide) (by rw [fd]; decide) | exact sp_side _ | exact sp_side1 _ | exact ⟨by rw [fm.1]; decide, fm.2⟩ | exact fs | exact at_in (by decide) (by rw [fm.1]; decide) | exact lt_line (by omega) | (have := fto.2.len; omega) | exact ⟨by rw [fm.1]; decide, fm.2, fs⟩ | exact len_side1 fz fi | exact len_side2 fz fi (by rw [← ed_39]; exact loose_pre fm (stroke_small (by rw [fm.1]; decide))) | exact at_5 | exact len_side3 fin fn5 | exact len_side4 fin fn5 | exact len_side5 fin fn5 ed_73 | exact (bad_all fin fn5 ed_73 ed_79).1 | exact right_bad (bad_all fin fn5 ed_73 ed_79).2 | exact (good_all fin fn5 ed_174).1 | exact right_of fin fn5 ed_174 hb70 (by assumption) | exact left_of fin fn5 ed_174 (by assumption) | exact ⟨by show 0 ≤ 5; decide, fun _ h => by cases h⟩) | (first | decide | (refine at_in ?_ ?_ <;> omega) | (refine at_neg ?_ ?_ <;> omega))))))))) (fun hc255 => (ev_var rfl h_252))))) (ev_lenT (ev_var rfl h_190))) fun w_260 G263 H264 g262 (h_261 : rep K (eqB (((List.map (fun d_250 => d_250) (List.filter (fun d_250 => ((decide (d_250 < ((d_244).l.length : Int))) && (eqB (getI (d_244).l d_250) (getI (d_188).l d_250)))) (rgs 0 ((d_188).l.length : Int))))).length : Int) ((d_188).l.length : Int)) w_260 G263) => ?_
                  have h_script := up g262.g h_script
                  have h_3 := up g262.g h_3
                  have h_26 := up g262.g h_26
                  have h_176 := up g262.g h_176
                  have h_65 := up g262.g h_65
                  have h_190 := up g262.g h_190
                  have h_210 := up g262.g h_210
                  have h_246 := up g262.g h_246
                  have gr := gr.trans g262
                  generalize ed_259 : (eqB (((List.map (fun d_250 => d_250) (List.filter (fun d_250 => ((decide (d_250 < ((d_244).l.length : Int))) && (eqB (getI (d_244).l d_250) (getI (d_188).l d_250)))) (rgs 0 ((d_188).l.length : Int))))).length : Int) ((d_188).l.length : Int)) = d_259 at h_261 hM
                  unfold m_law_23 at hM
                  refine s_ret (K := K) gr.s (ev_andV (ev_isBool (ev_call2 (ev_var rfl h_190) (ev_var rfl h_246) (by first | (first | exact absurd hb87 (by rw [hb70, Bool.true_or]; decide) | (rw [fto.1]; exact ⟨fto.2.tok, fto.2.tok⟩) | (rw [fto.1]; exact fto.2.shp) | exact shp_fits fto.2.shp | (rw [fto.1]; exact shown_pre2 fto.2) | (rw [fto.1, told_shown fto.2]; rfl) | (rw [fto.1, told_shown fto.2]; exact ⟨fto.2.tok, fto.2.tok⟩) | exact ⟨fp_1, fp_2⟩ | exact ⟨fp_2, fp_1⟩ | (rw [fto.1]; exact ⟨tok_cut fto.2.tok, fto.2.tok⟩) | (rw [fto.1]; exact ⟨fto.2.tok, fo⟩) | (rw [fto.1]; exact rng_side fto.2) | exact cut_side2 fto.1 fto.2 | exact at_in (by omega) (of_decide_eq_true (by assumption)) | (rw [fto.1]; exact len_side6 fto.2) | exact at_in (by decide) (by rw [fd]; decide) | exact sp_side _ | exact sp_side1 _ | exact ⟨by rw [fm.1]; decide, fm.2⟩ | exact fs | exact at_in (by decide) (by rw [fm.1]; decide) | exact lt_line (by omega) | (have := fto.2.len; omega) | exact ⟨by rw [fm.1]; decide, fm.2, fs⟩ | exact len_side1 fz fi | exact len_side2 fz fi (by rw [← ed_39]; exact loose_pre fm (stroke_small (by rw [fm.1]; decide))) | exact at_5 | exact len_side3 fin fn5 | exact len_side4 fin fn5 | exact len_side5 fin fn5 ed_73 | exact (bad_all fin fn5 ed_73 ed_79).1 | exact right_bad (bad_all fin fn5 ed_73 ed_79).2 | exact (good_all fin fn5 ed_174).1 | exact right_of fin fn5 ed_174 hb70 (by assumption) | exact left_of fin fn5 ed_174 (by assumption) | exact ⟨by show 0 ≤ 5; decide, fun _ h => by cases h⟩) | (first | omega | decide)))) (fun hb265 => (ev_eq (ev_call2 (ev_var rfl h_190) (ev_var rfl h_246) (by first | (first | exact absurd hb87 (by rw [hb70, Bool.true_or]; decide) | (rw [fto.1]; exact ⟨fto.2.tok, fto.2.tok⟩) | (rw [fto.1]; exact fto.2.shp) | exact shp_fits fto.2.shp | (rw [fto.1]; exact shown_pre2 fto.2) | (rw [fto.1, told_shown fto.2]; rfl) | (rw [fto.1, told_shown fto.2]; exact ⟨fto.2.tok, fto.2.tok⟩) | exact ⟨fp_1, fp_2⟩ | exact ⟨fp_2, fp_1⟩ | (rw [fto.1]; exact ⟨tok_cut fto.2.tok, fto.2.tok⟩) | (rw [fto.1]; exact ⟨fto.2.tok, fo⟩) | (rw [fto.1]; exact rng_side fto.2) | exact cut_side2 fto.1 fto.2 | exact at_in (by omega) (of_decide_eq_true (by assumption)) | (rw [fto.1]; exact len_side6 fto.2) | exact at_in (by decide) (by rw [fd]; decide) | exact sp_side _ | exact sp_side1 _ | exact ⟨by rw [fm.1]; decide, fm.2⟩ | exact fs | exact at_in (by decide) (by rw [fm.1]; decide) | exact lt_line (by omega) | (have := fto.2.len; omega) | exact ⟨by rw [fm.1]; decide, fm.2, fs⟩ | exact len_side1 fz fi | exact len_side2 fz fi (by rw [← ed_39]; exact loose_pre fm (stroke_small (by rw [fm.1]; decide))) | exact at_5 | exact len_side3 fin fn5 | exact len_side4 fin fn5 | exact len_side5 fin fn5 ed_73 | exact (bad_all fin fn5 ed_73 ed_79).1 | exact right_bad (bad_all fin fn5 ed_73 ed_79).2 | exact (good_all fin fn5 ed_174).1 | exact right_of fin fn5 ed_174 hb70 (by assumption) | exact left_of fin fn5 ed_174 (by assumption) | exact ⟨by show 0 ≤ 5; decide, fun _ h => by cases h⟩) | (first | omega | decide))) (ev_var rfl h_261)))) fun u Gr Hr gq hu => ?_
                  exact hQ u Gr Hr (gr.trans gq) (by rw [hM]; exact hu)
end
theorem pre_take {l m : List Str} : m_is_prefix ⟨l⟩ ⟨m⟩ = eqB (m.take l.length) l := by
  show eqB (cutL m none (some (l.length : Int))) l = _
  rw [cut_to _ (by omega), Int.toNat_natCast]
theorem eqB_eq {α : Type} [DecidableEq α] {x y : α} (h : x = y) : eqB x y = true := decide_eq_true h
theorem pre_self {l : List Str} : m_is_prefix ⟨l⟩ ⟨l⟩ = true := by rw [pre_take, List.take_length, eqB_self]
theorem pre_cut {l : List Str} {n : Int} (h : 0 ≤ n) : m_is_prefix ⟨cutL l none (some n)⟩ ⟨l⟩ = true := by
  rw [pre_take, cut_to _ h, List.length_take]
  refine eqB_eq ?_
  by_cases q : n.toNat ≤ l.length
  · rw [Nat.min_eq_left q]
  · rw [Nat.min_eq_right (by omega), List.take_length, List.take_of_length_le (by omega)]
theorem count_all {p : Int → Bool} {l : List Int} : eqB (((List.map (fun x => x) (List.filter p l)).length : Nat) : Int) (l.length : Int) = decide (∀ x ∈ l, p x = true) := by
  rw [List.map_id']
  refine decide_eq_decide.mpr ⟨fun h => List.length_filter_eq_length_iff.mp (by omega), fun h => by rw [List.length_filter_eq_length_iff.mpr h]⟩
theorem due_is {l o : List Str} : m_is_prefix ⟨l⟩ ⟨o⟩ = eqB (((List.map (fun k => k) (List.filter (fun k => (decide (k < (o.length : Int))) && (eqB (getI o k) (getI l k))) (rgs 0 (l.length : Int)))).length : Nat) : Int) (l.length : Int) := by
  have e := count_all (p := fun k => (decide (k < (o.length : Int))) && (eqB (getI o k) (getI l k))) (l := rgs 0 (l.length : Int))
  have e2 : ((rgs 0 (l.length : Int)).length : Int) = (l.length : Int) := by rw [rgs_len]; omega
  rw [e2] at e
  rw [e, pre_take]
  refine decide_eq_decide.mpr ⟨fun h k hk => ?_, fun h => ?_⟩
  · have hm := mem_rgs.mp hk
    have hlen : l.length ≤ o.length := by
      have := congrArg List.length h
      rw [List.length_take] at this
      omega
    show ((decide (k < (o.length : Int))) && (eqB (getI o k) (getI l k))) = true
    rw [decide_eq_true (show k < (o.length : Int) by omega), Bool.true_and]
    refine decide_eq_true ?_
    rw [getI_nat hm.1 (by omega), getI_nat hm.1 hm.2, List.getD_eq_getElem?_getD, List.getD_eq_getElem?_getD]
    conv => rhs; rw [← h]
    rw [List.getElem?_take_of_lt (by omega)]
  · refine List.ext_getElem? fun i => ?_
    by_cases hi : i < l.length
    · have q := h (i : Int) (mem_rgs.mpr ⟨by omega, by omega⟩)
      rw [Bool.and_eq_true] at q
      have q1 : (i : Int) < (o.length : Int) := of_decide_eq_true q.1
      have q2 := eqB_of q.2
      rw [getI_nat (by omega) q1, getI_nat (by omega) (by omega), Int.toNat_natCast, List.getD_eq_getElem?_getD, List.getD_eq_getElem?_getD] at q2
      rw [List.getElem?_take_of_lt hi]
      rw [List.getElem?_eq_getElem (by omega), List.getElem?_eq_getElem hi] at q2 ⊢
      exact congrArg some q2
    · rw [List.getElem?_eq_none (by rw [List.length_take]; omega), List.getElem?_eq_none (by omega)]
theorem pairs_not : ∀ p ∈ PAIRS, m_is_prefix p.1 p.2 = false ∧ m_is_prefix p.2 p.1 = false := by decide +kernel
theorem tail_true {d1 : List Int} {l : List Str} {t : Tpl Str} (h : Fine l) (e : t = ⟨l⟩) : m_law_29 d1 l t = true := by
  subst e
  unfold m_law_29
  show cond ((!eqB l l) || ((!true) || (!eqB (Txt.join (" " : Str) l) (Txt.join (" " : Str) l)))) false (m_law_28 d1 l ⟨l⟩) = true
  rw [eqB_self, eqB_self]
  show m_law_28 d1 l ⟨l⟩ = true
  unfold m_law_28
  rw [told_shown h]
  show cond (!eqB l l) false (m_law_27 ⟨l⟩ (1 + getI d1 5 % (l.length : Int))) = true
  rw [eqB_self]
  have hl := h.len
  have h0 : 0 ≤ 1 + getI d1 5 % (l.length : Int) := by
    have := Int.emod_nonneg (getI d1 5) (show (l.length : Int) ≠ 0 by omega)
    omega
  show m_law_27 ⟨l⟩ (1 + getI d1 5 % (l.length : Int)) = true
  generalize 1 + getI d1 5 % (l.length : Int) = n at h0
  show exitF (runL m_law_22 () PAIRS) (m_law_26 ⟨l⟩ n) = true
  rw [runL_all fun p hp => ?_]
  · show cond ((!eqB (m_is_prefix ⟨cutL l none (some n)⟩ ⟨l⟩) true) || (!eqB (m_is_prefix ⟨l⟩ ⟨l⟩) true)) false (m_law_25 ⟨l⟩ n) = true
    rw [pre_cut h0, pre_self, eqB_self]
    show m_law_25 ⟨l⟩ n = true
    unfold m_law_25
    generalize cutL ((Tpl.mk (((Tpl.mk (cutL (Tpl.mk l).l none (some n)))).l ++ ((Tpl.mk (("Tab" : Str) :: ([] : List Str)))).l))).l none (some (3 : Int)) = o
    show m_law_24 ⟨l⟩ ⟨o⟩ = true
    unfold m_law_24
    unfold m_law_23
    rw [Bool.true_and]
    exact eqB_eq due_is
  · obtain ⟨q1, q2⟩ := pairs_not p hp
    show cond ((!eqB (m_is_prefix p.1 p.2) false) || (!eqB (m_is_prefix p.2 p.1) false)) (Step.ret false) (Step.go ()) = Step.go ()
    rw [q1, q2, eqB_self]
    rfl
theorem law_true (ns : List Int) (h : ns.length ≤ 63) : m_law ⟨ns⟩ = true := by
  have hl : (m__law_draws (m__law_cell ⟨ns⟩ 0) 12).length = 12 := draws_len _ (by decide)
  show m_law_36 ⟨ns⟩ (m__law_draws (m__law_cell ⟨ns⟩ 0) 12) = true
  generalize m__law_draws (m__law_cell ⟨ns⟩ 0) 12 = d at hl
  show m_law_33 d (List.foldl (m_law_6 ⟨ns⟩) ([], mulS (" " : Str) (getI d 0 % 3)) (rgs 0 (getI d 1 % 6))) = true
  obtain ⟨st, est⟩ : ∃ st, st = List.foldl (m_law_6 ⟨ns⟩) ([], mulS (" " : Str) (getI d 0 % 3)) (rgs 0 (getI d 1 % 6)) := ⟨_, rfl⟩
  rw [← est]
  obtain ⟨n, hn, fin⟩ := inv_end (d24 := st.1) (d27 := st.2) est.symm rfl rfl
  obtain ⟨l, t⟩ := st
  show m_law_32 d l t (eqB (getI d 2 % 4) 0) = true
  have hsh : ∀ x : Str, x = BAD → ((eqB x ("invalid key sequence" : Str)) && (eqB (m_shown (Tpl.mk ([] : List Str))) ("" : Str))) = true := fun x e => by
    subst e
    rw [show m_shown (Tpl.mk ([] : List Str)) = ("" : Str) by decide +kernel, eqB_self, Bool.and_true]
    exact eqB_eq rfl
  unfold m_law_32
  cases eqB (getI d 2 % 4) 0 with
  | true =>
    show m_law_7 (t ++ getI ODD2 (getI d 3 % 5) ++ mulS (" " : Str) (getI d 4 % 3)) = true
    have hb := (bad_all fin hn (d73 := t ++ getI ODD2 (getI d 3 % 5)) rfl (b := getI d 4) rfl).2
    exact hsh _ (by rw [told_bad hb]; rfl)
  | false =>
    show m_law_30 d l (t ++ mulS (" " : Str) (getI d 4 % 3)) false = true
    have hg := (good_all fin hn (b := getI d 4) rfl).2
    generalize t ++ mulS (" " : Str) (getI d 4 % 3) = x at hg
    show cond (false || !okN l) (m_law_20 x) (m_law_29 d l (getL (m__law_told x))) = true
    cases q : okN l with
    | true =>
      rw [q] at hg
      show m_law_29 d l (getL (m__law_told x)) = true
      refine tail_true ⟨q, fin.good⟩ ?_
      rw [told_of hg]
      rfl
    | false =>
      rw [q] at hg
      show m_law_20 x = true
      exact hsh _ (by rw [told_bad hg]; rfl)

theorem all_mk {l : PySem.W.OpenLaw} {w : World} {K : PySem.W.Frag} {h : Heap} {mg : Str → Option Value} {fa : Addr} (X : K.In h) (G : h.Ns mainGlobals mg) (hfa : mg "law" = some (.ref fa))
    {f0 : Addr} {od0 an0 : Option Addr} {sl0 : Array (Option Value)} {oc0 kV0 dc0 pm0 cd0 ct0 : Value}
    {f1 : Addr} {od1 an1 : Option Addr} {sl1 : Array (Option Value)} {oc1 kV1 dc1 pm1 cd1 ct1 : Value}
    {f2 : Addr} {od2 an2 : Option Addr} {sl2 : Array (Option Value)} {oc2 kV2 dc2 pm2 cd2 ct2 : Value}
    {f3 : Addr} {od3 an3 : Option Addr} {sl3 : Array (Option Value)} {oc3 kV3 dc3 pm3 cd3 ct3 : Value}
    {f4 : Addr} {od4 an4 : Option Addr} {sl4 : Array (Option Value)} {oc4 kV4 dc4 pm4 cd4 ct4 : Value}
    {f5 : Addr} {od5 an5 : Option Addr} {sl5 : Array (Option Value)} {oc5 kV5 dc5 pm5 cd5 ct5 : Value}
    {f6 : Addr} {od6 an6 : Option Addr} {sl6 : Array (Option Value)} {oc6 kV6 dc6 pm6 cd6 ct6 : Value}
    {f7 : Addr} {od7 an7 : Option Addr} {sl7 : Array (Option Value)} {oc7 kV7 dc7 pm7 cd7 ct7 : Value}
    {f8 : Addr} {od8 an8 : Option Addr} {sl8 : Array (Option Value)} {oc8 kV8 dc8 pm8 cd8 ct8 : Value}
    {f9 : Addr} {od9 an9 : Option Addr} {sl9 : Array (Option Value)} {oc9 kV9 dc9 pm9 cd9 ct9 : Value}
    {f10 : Addr} {od10 an10 : Option Addr} {sl10 : Array (Option Value)} {oc10 kV10 dc10 pm10 cd10 ct10 : Value}
    {f11 : Addr} {od11 an11 : Option Addr} {sl11 : Array (Option Value)} {oc11 kV11 dc11 pm11 cd11 ct11 : Value}
    {f12 : Addr} {od12 an12 : Option Addr} {sl12 : Array (Option Value)} {oc12 kV12 dc12 pm12 cd12 ct12 : Value}
    {f13 : Addr} {od13 an13 : Option Addr} {sl13 : Array (Option Value)} {oc13 kV13 dc13 pm13 cd13 ct13 : Value}
    {f14 : Addr} {od14 an14 : Option Addr} {sl14 : Array (Option Value)} {oc14 kV14 dc14 pm14 cd14 ct14 : Value}
    {q0 : Addr} {qd0 : Option Addr} {qi0 : Array Value} {qn0 : Nat} {qs0 : Array (Option Value)}
    {q1 : Addr} {qd1 : Option Addr} {qi1 : Array Value} {qn1 : Nat} {qs1 : Array (Option Value)}
    {ci0 : Value}
    {B0 : Addr}
    {X0 I0 N0 : Addr} {xn0 xq0 : Str} {xb0 : List Value} {xs0 : List Str} {xu0 : List Value} {xa0 : Bool} {xc0 : Option Bool} {xd0 : Option Addr} {m00 m10 m20 m30 m50 : Option Value}
    {iod0 ian0 : Option Addr} {isl0 : Array (Option Value)} {ioc0 ikV0 idc0 ipm0 icd0 ict0 : Value}
    (a0 : PySem.W.nsIn K mainGlobals "_spelled" = some (some (.ref f0)))
    (l0 : K.lookup f0 = some ⟨oc0, od0, .func (PySem.W.fnOf "_spelled" "_spelled" (defArgs s__spelled) (defBody s__spelled) (defScope s__spelled) .none kV0 dc0 pm0 an0 cd0 ct0), sl0⟩)
    (c0 : PySem.W.codeIn K cd0 "_spelled" = true)
    (k0 : PySem.W.keepIn K (.ref f0) = true)
    (a1 : PySem.W.nsIn K mainGlobals "_key_of" = some (some (.ref f1)))
    (l1 : K.lookup f1 = some ⟨oc1, od1, .func (PySem.W.fnOf "_key_of" "_key_of" (defArgs s__key_of) (defBody s__key_of) (defScope s__key_of) .none kV1 dc1 pm1 an1 cd1 ct1), sl1⟩)
    (c1 : PySem.W.codeIn K cd1 "_key_of" = true)
    (k1 : PySem.W.keepIn K (.ref f1) = true)
    (a2 : PySem.W.nsIn K mainGlobals "_canonical" = some (some (.ref f2)))
    (l2 : K.lookup f2 = some ⟨oc2, od2, .func (PySem.W.fnOf "_canonical" "_canonical" (defArgs s__canonical) (defBody s__canonical) (defScope s__canonical) .none kV2 dc2 pm2 an2 cd2 ct2), sl2⟩)
    (c2 : PySem.W.codeIn K cd2 "_canonical" = true)
    (k2 : PySem.W.keepIn K (.ref f2) = true)
    (a3 : PySem.W.nsIn K mainGlobals "key_sequence" = some (some (.ref f3)))
    (l3 : K.lookup f3 = some ⟨oc3, od3, .func (PySem.W.fnOf "key_sequence" "key_sequence" (defArgs s_key_sequence) (defBody s_key_sequence) (defScope s_key_sequence) .none kV3 dc3 pm3 an3 cd3 ct3), sl3⟩)
    (c3 : PySem.W.codeIn K cd3 "key_sequence" = true)
    (k3 : PySem.W.keepIn K (.ref f3) = true)
    (a4 : PySem.W.nsIn K mainGlobals "is_prefix" = some (some (.ref f4)))
    (l4 : K.lookup f4 = some ⟨oc4, od4, .func (PySem.W.fnOf "is_prefix" "is_prefix" (defArgs s_is_prefix) (defBody s_is_prefix) (defScope s_is_prefix) .none kV4 dc4 pm4 an4 cd4 ct4), sl4⟩)
    (c4 : PySem.W.codeIn K cd4 "is_prefix" = true)
    (k4 : PySem.W.keepIn K (.ref f4) = true)
    (a5 : PySem.W.nsIn K mainGlobals "shown" = some (some (.ref f5)))
    (l5 : K.lookup f5 = some ⟨oc5, od5, .func (PySem.W.fnOf "shown" "shown" (defArgs s_shown) (defBody s_shown) (defScope s_shown) .none kV5 dc5 pm5 an5 cd5 ct5), sl5⟩)
    (c5 : PySem.W.codeIn K cd5 "shown" = true)
    (k5 : PySem.W.keepIn K (.ref f5) = true)
    (a6 : PySem.W.nsIn K mainGlobals "_law_cell" = some (some (.ref f6)))
    (l6 : K.lookup f6 = some ⟨oc6, od6, .func (PySem.W.fnOf "_law_cell" "_law_cell" (defArgs s__law_cell) (defBody s__law_cell) (defScope s__law_cell) .none kV6 dc6 pm6 an6 cd6 ct6), sl6⟩)
    (c6 : PySem.W.codeIn K cd6 "_law_cell" = true)
    (k6 : PySem.W.keepIn K (.ref f6) = true)
    (a7 : PySem.W.nsIn K mainGlobals "_law_draws" = some (some (.ref f7)))
    (l7 : K.lookup f7 = some ⟨oc7, od7, .func (PySem.W.fnOf "_law_draws" "_law_draws" (defArgs s__law_draws) (defBody s__law_draws) (defScope s__law_draws) .none kV7 dc7 pm7 an7 cd7 ct7), sl7⟩)
    (c7 : PySem.W.codeIn K cd7 "_law_draws" = true)
    (k7 : PySem.W.keepIn K (.ref f7) = true)
    (a8 : PySem.W.nsIn K mainGlobals "_law_keys" = some (some (.ref f8)))
    (l8 : K.lookup f8 = some ⟨oc8, od8, .func (PySem.W.fnOf "_law_keys" "_law_keys" (defArgs s__law_keys) (defBody s__law_keys) (defScope s__law_keys) .none kV8 dc8 pm8 an8 cd8 ct8), sl8⟩)
    (c8 : PySem.W.codeIn K cd8 "_law_keys" = true)
    (k8 : PySem.W.keepIn K (.ref f8) = true)
    (a9 : PySem.W.nsIn K mainGlobals "_law_stroke" = some (some (.ref f9)))
    (l9 : K.lookup f9 = some ⟨oc9, od9, .func (PySem.W.fnOf "_law_stroke" "_law_stroke" (defArgs s__law_stroke) (defBody s__law_stroke) (defScope s__law_stroke) .none kV9 dc9 pm9 an9 cd9 ct9), sl9⟩)
    (c9 : PySem.W.codeIn K cd9 "_law_stroke" = true)
    (k9 : PySem.W.keepIn K (.ref f9) = true)
    (a10 : PySem.W.nsIn K mainGlobals "_law_mixed" = some (some (.ref f10)))
    (l10 : K.lookup f10 = some ⟨oc10, od10, .func (PySem.W.fnOf "_law_mixed" "_law_mixed" (defArgs s__law_mixed) (defBody s__law_mixed) (defScope s__law_mixed) .none kV10 dc10 pm10 an10 cd10 ct10), sl10⟩)
    (c10 : PySem.W.codeIn K cd10 "_law_mixed" = true)
    (k10 : PySem.W.keepIn K (.ref f10) = true)
    (a11 : PySem.W.nsIn K mainGlobals "_law_shown" = some (some (.ref f11)))
    (l11 : K.lookup f11 = some ⟨oc11, od11, .func (PySem.W.fnOf "_law_shown" "_law_shown" (defArgs s__law_shown) (defBody s__law_shown) (defScope s__law_shown) .none kV11 dc11 pm11 an11 cd11 ct11), sl11⟩)
    (c11 : PySem.W.codeIn K cd11 "_law_shown" = true)
    (k11 : PySem.W.keepIn K (.ref f11) = true)
    (a12 : PySem.W.nsIn K mainGlobals "_law_loose" = some (some (.ref f12)))
    (l12 : K.lookup f12 = some ⟨oc12, od12, .func (PySem.W.fnOf "_law_loose" "_law_loose" (defArgs s__law_loose) (defBody s__law_loose) (defScope s__law_loose) .none kV12 dc12 pm12 an12 cd12 ct12), sl12⟩)
    (c12 : PySem.W.codeIn K cd12 "_law_loose" = true)
    (k12 : PySem.W.keepIn K (.ref f12) = true)
    (a13 : PySem.W.nsIn K mainGlobals "_law_told" = some (some (.ref f13)))
    (l13 : K.lookup f13 = some ⟨oc13, od13, .func (PySem.W.fnOf "_law_told" "_law_told" (defArgs s__law_told) (defBody s__law_told) (defScope s__law_told) .none kV13 dc13 pm13 an13 cd13 ct13), sl13⟩)
    (c13 : PySem.W.codeIn K cd13 "_law_told" = true)
    (k13 : PySem.W.keepIn K (.ref f13) = true)
    (a14 : PySem.W.nsIn K mainGlobals "law" = some (some (.ref f14)))
    (l14 : K.lookup f14 = some ⟨oc14, od14, .func (PySem.W.fnOf "law" "law" (defArgs s_law) (defBody s_law) (defScope s_law) .none kV14 dc14 pm14 an14 cd14 ct14), sl14⟩)
    (c14 : PySem.W.codeIn K cd14 "law" = true)
    (k14 : PySem.W.keepIn K (.ref f14) = true)
    (qa0 : PySem.W.nsIn K mainGlobals "_MODIFIERS" = some (some (.ref q0)))
    (ql0 : K.lookup q0 = some ⟨.type "tuple", qd0, .seq qi0 qn0, qs0⟩)
    (qv0 : Vals ([V.str ("Ctrl" : Str), V.str ("Alt" : Str), V.str ("Shift" : Str), V.str ("Meta" : Str)] : List V) qi0.toList)
    (qa1 : PySem.W.nsIn K mainGlobals "_KEY_NAMES" = some (some (.ref q1)))
    (ql1 : K.lookup q1 = some ⟨.type "tuple", qd1, .seq qi1 qn1, qs1⟩)
    (qv1 : Vals ([V.str ("Tab" : Str), V.str ("Enter" : Str), V.str ("Escape" : Str), V.str ("Space" : Str), V.str ("Backspace" : Str), V.str ("Delete" : Str), V.str ("Up" : Str), V.str ("Down" : Str), V.str ("Left" : Str), V.str ("Right" : Str), V.str ("Home" : Str), V.str ("End" : Str), V.str ("PageUp" : Str), V.str ("PageDown" : Str), V.str ("Plus" : Str), V.str ("F1" : Str), V.str ("F2" : Str), V.str ("F3" : Str), V.str ("F4" : Str), V.str ("F5" : Str), V.str ("F6" : Str), V.str ("F7" : Str), V.str ("F8" : Str), V.str ("F9" : Str), V.str ("F10" : Str), V.str ("F11" : Str), V.str ("F12" : Str)] : List V) qi1.toList)
    (ca0 : PySem.W.nsIn K mainGlobals "_LONGEST_SEQUENCE" = some (some ci0))
    (cv0 : RelV (.int 3) ci0)
    (z0 : PySem.W.nsIn K mainGlobals "bool" = some none)
    (z1 : PySem.W.nsIn K mainGlobals "int" = some none)
    (z2 : PySem.W.nsIn K mainGlobals "isinstance" = some none)
    (z3 : PySem.W.nsIn K mainGlobals "len" = some none)
    (z4 : PySem.W.nsIn K mainGlobals "list" = some none)
    (z5 : PySem.W.nsIn K mainGlobals "range" = some none)
    (z6 : PySem.W.nsIn K mainGlobals "set" = some none)
    (z7 : PySem.W.nsIn K mainGlobals "str" = some none)
    (z8 : PySem.W.nsIn K mainGlobals "tuple" = some none)
    (ba0 : PySem.W.nsIn K mainGlobals "FocusError" = some (some (.ref B0)))
    (br0 : PySem.W.readsIn K B0 (.type "type") = true)
    (bg0 : PySem.W.specialIn K (.ref B0) "__getattribute__" = some (some (.builtin "type.__getattribute__")))
    (bv0 : PySem.W.findCls K (.ref B0) (.type "type") "__init__" = some (.val (.builtin "ValueError.__init__")))
    (xna0 : PySem.W.nsIn K mainGlobals "BadKeys" = some (some (.ref X0)))
    (xl0 : K.lookup X0 = some (excClassObj xn0 xq0 X0 N0 xb0 [.ref B0, .type "ValueError", .type "Exception", .type "BaseException", .type "object"] true xs0 xu0 xa0 xc0 xd0 m00 m10 m20 m30 m50 "ValueError.__new__"))
    (xsa0 : PySem.W.findIn K (.ref X0) "__setattr__" = some (some (.builtin "object.__setattr__")))
    (xga0 : PySem.W.findIn K (.ref X0) "__getattribute__" = some (some (.builtin "BaseException.__getattribute__")))
    (xgg0 : PySem.W.findIn K (.ref X0) "__getattr__" = some none)
    (xnb0 : PySem.W.findIn K (.ref X0) "what" = some none)
    (xii0 : PySem.W.findIn K (.ref X0) "__init__" = some (some (.ref I0)))
    (xkc0 : PySem.W.keepIn K (.ref X0) = true)
    (xec0 : PySem.W.subIn K (.ref X0) (.type "BaseException") = some true)
    (xtc0 : PySem.W.typeIn K (.ref X0) = some (.type "type"))
    (xhc0 : PySem.W.hasDictIn K X0 = true)
    (xsc0 : PySem.W.subIn K (.ref X0) (.ref X0) = some true)
    (it0 : PySem.W.typeIn K (.ref I0) = some (.type "function"))
    (il0 : K.lookup I0 = some ⟨ioc0, iod0, .func (PySem.W.fnOf "__init__" "BadKeys.__init__" (defArgs s_init_BadKeys) (defBody s_init_BadKeys) (defScope s_init_BadKeys) .none ikV0 idc0 ipm0 ian0 icd0 ict0), isl0⟩)
    (ic0 : PySem.W.codeIn K icd0 "BadKeys.__init__" = true)
    (ik0 : PySem.W.keepIn K (.ref I0) = true)
    : ∃ fd : FuncData, (∀ (s : Shared) (v : Value), BindsTo s fd ⟨[v], []⟩ [("script", v)]) ∧ ∀ base : Heap, K.In base → base.Ns mainGlobals mg → FnOk l.prog w K mg base CX0 7 fa fd ["script"] (p_law K) := by
  have e := hfa.symm.trans (PySem.W.mg_of X G a14)
  cases e
  have F0 := fun_mk (st := s__spelled) l0 c0 k0
  have b0 := F0.binds (ps := ["part", "names"]) fun _ _ _ _ _ _ us hl => match us, hl with | [_, _], _ => rfl
  have F1 := fun_mk (st := s__key_of) l1 c1 k1
  have b1 := F1.binds (ps := ["part"]) fun _ _ _ _ _ _ us hl => match us, hl with | [_], _ => rfl
  have F2 := fun_mk (st := s__canonical) l2 c2 k2
  have b2 := F2.binds (ps := ["text"]) fun _ _ _ _ _ _ us hl => match us, hl with | [_], _ => rfl
  have F3 := fun_mk (st := s_key_sequence) l3 c3 k3
  have b3 := F3.binds (ps := ["text"]) fun _ _ _ _ _ _ us hl => match us, hl with | [_], _ => rfl
  have F4 := fun_mk (st := s_is_prefix) l4 c4 k4
  have b4 := F4.binds (ps := ["one", "two"]) fun _ _ _ _ _ _ us hl => match us, hl with | [_, _], _ => rfl
  have F5 := fun_mk (st := s_shown) l5 c5 k5
  have b5 := F5.binds (ps := ["strokes"]) fun _ _ _ _ _ _ us hl => match us, hl with | [_], _ => rfl
  have F6 := fun_mk (st := s__law_cell) l6 c6 k6
  have b6 := F6.binds (ps := ["script", "k"]) fun _ _ _ _ _ _ us hl => match us, hl with | [_, _], _ => rfl
  have F7 := fun_mk (st := s__law_draws) l7 c7 k7
  have b7 := F7.binds (ps := ["cell", "count"]) fun _ _ _ _ _ _ us hl => match us, hl with | [_, _], _ => rfl
  have F8 := fun_mk (st := s__law_keys) l8 c8 k8
  have b8 := F8.binds (ps := []) fun _ _ _ _ _ _ us hl => match us, hl with | [], _ => rfl
  have F9 := fun_mk (st := s__law_stroke) l9 c9 k9
  have b9 := F9.binds (ps := ["draws"]) fun _ _ _ _ _ _ us hl => match us, hl with | [_], _ => rfl
  have F10 := fun_mk (st := s__law_mixed) l10 c10 k10
  have b10 := F10.binds (ps := ["text", "draw"]) fun _ _ _ _ _ _ us hl => match us, hl with | [_, _], _ => rfl
  have F11 := fun_mk (st := s__law_shown) l11 c11 k11
  have b11 := F11.binds (ps := ["stroke"]) fun _ _ _ _ _ _ us hl => match us, hl with | [_], _ => rfl
  have F12 := fun_mk (st := s__law_loose) l12 c12 k12
  have b12 := F12.binds (ps := ["draws", "stroke"]) fun _ _ _ _ _ _ us hl => match us, hl with | [_, _], _ => rfl
  have F13 := fun_mk (st := s__law_told) l13 c13 k13
  have b13 := F13.binds (ps := ["text"]) fun _ _ _ _ _ _ us hl => match us, hl with | [_], _ => rfl
  have F14 := fun_mk (st := s_law) l14 c14 k14
  have b14 := F14.binds (ps := ["script"]) fun _ _ _ _ _ _ us hl => match us, hl with | [_], _ => rfl
  have E0 := fun_mk (st := s_init_BadKeys) il0 ic0 ik0
  have eb0 := E0.binds (ps := ["self", "what"]) fun _ _ _ _ _ _ us hl => match us, hl with | [_, _], _ => rfl
  have T : Tx K mg { f__spelled := f0, d__spelled := _, f__key_of := f1, d__key_of := _, f__canonical := f2, d__canonical := _, f_key_sequence := f3, d_key_sequence := _, f_is_prefix := f4, d_is_prefix := _, f_shown := f5, d_shown := _, f__law_cell := f6, d__law_cell := _, f__law_draws := f7, d__law_draws := _, f__law_keys := f8, d__law_keys := _, f__law_stroke := f9, d__law_stroke := _, f__law_mixed := f10, d__law_mixed := _, f__law_shown := f11, d__law_shown := _, f__law_loose := f12, d__law_loose := _, f__law_told := f13, d__law_told := _, f_law := fa, d_law := _, k__MODIFIERS := q0, k__KEY_NAMES := q1, x_FocusError := B0, x_BadKeys := X0, i_BadKeys := I0, di_BadKeys := _ } := { F__spelled := F0, g__spelled := PySem.W.mg_of X G a0, b__spelled := b0, F__key_of := F1, g__key_of := PySem.W.mg_of X G a1, b__key_of := b1, F__canonical := F2, g__canonical := PySem.W.mg_of X G a2, b__canonical := b2, F_key_sequence := F3, g_key_sequence := PySem.W.mg_of X G a3, b_key_sequence := b3, F_is_prefix := F4, g_is_prefix := PySem.W.mg_of X G a4, b_is_prefix := b4, F_shown := F5, g_shown := PySem.W.mg_of X G a5, b_shown := b5, F__law_cell := F6, g__law_cell := PySem.W.mg_of X G a6, b__law_cell := b6, F__law_draws := F7, g__law_draws := PySem.W.mg_of X G a7, b__law_draws := b7, F__law_keys := F8, g__law_keys := PySem.W.mg_of X G a8, b__law_keys := b8, F__law_stroke := F9, g__law_stroke := PySem.W.mg_of X G a9, b__law_stroke := b9, F__law_mixed := F10, g__law_mixed := PySem.W.mg_of X G a10, b__law_mixed := b10, F__law_shown := F11, g__law_shown := PySem.W.mg_of X G a11, b__law_shown := b11, F__law_loose := F12, g__law_loose := PySem.W.mg_of X G a12, b__law_loose := b12, F__law_told := F13, g__law_told := PySem.W.mg_of X G a13, b__law_told := b13, F_law := F14, g_law := PySem.W.mg_of X G a14, b_law := b14, c__MODIFIERS := PySem.W.mg_of X G qa0, r__MODIFIERS := fun G => tpl_written (ks := k__MODIFIERS) ql0 qv0, c__KEY_NAMES := PySem.W.mg_of X G qa1, r__KEY_NAMES := fun G => tpl_written (ks := k__KEY_NAMES) ql1 qv1, c__LONGEST_SEQUENCE := ⟨_, PySem.W.mg_of X G ca0, cv0⟩, n_bool := PySem.W.mg_none_of X G z0, n_int := PySem.W.mg_none_of X G z1, n_isinstance := PySem.W.mg_none_of X G z2, n_len := PySem.W.mg_none_of X G z3, n_list := PySem.W.mg_none_of X G z4, n_range := PySem.W.mg_none_of X G z5, n_set := PySem.W.mg_none_of X G z6, n_str := PySem.W.mg_none_of X G z7, n_tuple := PySem.W.mg_none_of X G z8, x_BadKeys := { gC := PySem.W.mg_of X G xna0, gB := PySem.W.mg_of X G ba0, ox := { cls := ⟨_, _, _, _, _, _, _, _, _, _, _, _, _, _, _, xl0, rfl⟩, sa := xsa0, exC := xec0, tyC := xtc0, kC := xkc0 }, iC := xii0, tI := it0, rd := ⟨br0, bg0⟩, vB := bv0, nF := xnb0, xf := ⟨xga0, xgg0, xec0, xhc0⟩, te := PySem.W.exm_ref xec0 xhc0 xtc0 xsc0 }, FI_BadKeys := E0, bi_BadKeys := eb0 }
  exact ⟨_, fun s v => .of_eq rfl, fun base _ _ => ok_law T⟩
theorem walk_end {l : PySem.W.OpenLaw} {q : Program} {loose : List Str} {XP : (Str → Option Value) → Heap → Prop} {YP : World → Heap → Prop} {d : DefRec} {K : Params → PySem.W.Frag} (hn : l.most = some 63) (hdf : d.params.defaults = [])
    (hY : ∀ (w : World) (h : Heap), YP w h → (K w.params).In h)
    (F : ∀ (w : World) (mg : Str → Option Value) (fa : Addr) (h : Heap), (K w.params).In h → h.Ns mainGlobals mg → mg d.name = some (.ref fa) →
      ∃ fd : FuncData, (∀ (s : Shared) (u : Value), BindsTo s fd ⟨[u], []⟩ [("script", u)]) ∧ ∀ base : Heap, (K w.params).In base → base.Ns mainGlobals mg → FnOk l.prog w (K w.params) mg base CX0 7 fa fd ["script"] (p_law (K w.params))) :
    PySem.W.WalkO q loose XP YP l.row.toRowW d [] (fun f vs => PySem.call f vs) :=
  L2.walk_of (n := 63) (k := 7) (x := "script") (CX := fun _ => CX0) (sp := fun w => p_law (K w.params)) hn (by decide) hdf ⟨rfl, by decide, by decide⟩ hY F
    (fun w H a ns hl _ hS => ⟨⟨ns⟩, .ref a, H, rfl, Same.refl _, ⟨a, rfl, hS⟩, hl, fun u G' H' _ r => by rw [law_true ns hl] at r; exact r⟩) fun _ _ _ _ _ z => z
end RL
open PySem PySem.W PyProof.Rows in
set_option maxRecDepth 100000 in
set_option maxHeartbeats 0 in
theorem PySem.Challenge.cw_keyfocus_k02_key_sequences_holds : PySem.Challenge.rw_keyfocus_k02_key_sequences.Holds := by
  w_on; o_law; k_head; (case hw => w_witness2)
  k_fill
  refine RL.walk_end (l := PySem.Challenge.rw_keyfocus_k02_key_sequences) rfl rfl (fun w h Y => PySem.W.kIn_of Y) ?F
  case F =>
    intro w mg fa h KX G hmg
    refine' RL.all_mk KX G hmg ?a0 ?l0 ?c0 ?k0 ?a1 ?l1 ?c1 ?k1 ?a2 ?l2 ?c2 ?k2 ?a3 ?l3 ?c3 ?k3 ?a4 ?l4 ?c4 ?k4 ?a5 ?l5 ?c5 ?k5 ?a6 ?l6 ?c6 ?k6 ?a7 ?l7 ?c7 ?k7 ?a8 ?l8 ?c8 ?k8 ?a9 ?l9 ?c9 ?k9 ?a10 ?l10 ?c10 ?k10 ?a11 ?l11 ?c11 ?k11 ?a12 ?l12 ?c12 ?k12 ?a13 ?l13 ?c13 ?k13 ?a14 ?l14 ?c14 ?k14 ?qa0 ?ql0 ?qv0 ?qa1 ?ql1 ?qv1 ?ca0 ?cv0 ?z0 ?z1 ?z2 ?z3 ?z4 ?z5 ?z6 ?z7 ?z8 ?ba0 ?br0 ?bg0 ?bv0 ?xna0 ?xl0 ?xsa0 ?xga0 ?xgg0 ?xnb0 ?xii0 ?xkc0 ?xec0 ?xtc0 ?xhc0 ?xsc0 ?it0 ?il0 ?ic0 ?ik0
    (case a0 => first | k_is | rfl)
    (case l0 => first | k_is | rfl)
    (case c0 => first | k_is | rfl)
    (case k0 => first | k_is | rfl)
    (case a1 => first | k_is | rfl)
    (case l1 => first | k_is | rfl)
    (case c1 => first | k_is | rfl)
    (case k1 => first | k_is | rfl)
    (case a2 => first | k_is | rfl)
    (case l2 => first | k_is | rfl)
    (case c2 => first | k_is | rfl)
    (case k2 => first | k_is | rfl)
    (case a3 => first | k_is | rfl)
    (case l3 => first | k_is | rfl)
    (case c3 => first | k_is | rfl)
    (case k3 => first | k_is | rfl)
    (case a4 => first | k_is | rfl)
    (case l4 => first | k_is | rfl)
    (case c4 => first | k_is | rfl)
    (case k4 => first | k_is | rfl)
    (case a5 => first | k_is | rfl)
    (case l5 => first | k_is | rfl)
    (case c5 => first | k_is | rfl)
    (case k5 => first | k_is | rfl)
    (case a6 => first | k_is | rfl)
    (case l6 => first | k_is | rfl)
    (case c6 => first | k_is | rfl)
    (case k6 => first | k_is | rfl)
    (case a7 => first | k_is | rfl)
    (case l7 => first | k_is | rfl)
    (case c7 => first | k_is | rfl)
    (case k7 => first | k_is | rfl)
    (case a8 => first | k_is | rfl)
    (case l8 => first | k_is | rfl)
    (case c8 => first | k_is | rfl)
    (case k8 => first | k_is | rfl)
    (case a9 => first | k_is | rfl)
    (case l9 => first | k_is | rfl)
    (case c9 => first | k_is | rfl)
    (case k9 => first | k_is | rfl)
    (case a10 => first | k_is | rfl)
    (case l10 => first | k_is | rfl)
    (case c10 => first | k_is | rfl)
    (case k10 => first | k_is | rfl)
    (case a11 => first | k_is | rfl)
    (case l11 => first | k_is | rfl)
    (case c11 => first | k_is | rfl)
    (case k11 => first | k_is | rfl)
    (case a12 => first | k_is | rfl)
    (case l12 => first | k_is | rfl)
    (case c12 => first | k_is | rfl)
    (case k12 => first | k_is | rfl)
    (case a13 => first | k_is | rfl)
    (case l13 => first | k_is | rfl)
    (case c13 => first | k_is | rfl)
    (case k13 => first | k_is | rfl)
    (case a14 => first | k_is | rfl)
    (case l14 => first | k_is | rfl)
    (case c14 => first | k_is | rfl)
    (case k14 => first | k_is | rfl)
    (case qa0 => first | k_is | rfl)
    (case ql0 => first | k_is | rfl)
    (case qv0 => exact (by repeat (first | exact PySem.Paired.nil | refine PySem.Paired.cons ⟨_, rfl⟩ ?_)))
    (case qa1 => first | k_is | rfl)
    (case ql1 => first | k_is | rfl)
    (case qv1 => exact (by repeat (first | exact PySem.Paired.nil | refine PySem.Paired.cons ⟨_, rfl⟩ ?_)))
    (case ca0 => first | k_is | rfl)
    (case cv0 => exact ⟨_, rfl⟩)
    (case z0 => first | k_is | rfl)
    (case z1 => first | k_is | rfl)
    (case z2 => first | k_is | rfl)
    (case z3 => first | k_is | rfl)
    (case z4 => first | k_is | rfl)
    (case z5 => first | k_is | rfl)
    (case z6 => first | k_is | rfl)
    (case z7 => first | k_is | rfl)
    (case z8 => first | k_is | rfl)
    (case ba0 => first | k_is | rfl)
    (case br0 => first | k_is | rfl)
    (case bg0 => first | k_is | rfl)
    (case bv0 => first | k_is | rfl)
    (case xna0 => first | k_is | rfl)
    (case xl0 => first | k_is | rfl)
    (case xsa0 => first | k_is | rfl)
    (case xga0 => first | k_is | rfl)
    (case xgg0 => first | k_is | rfl)
    (case xnb0 => first | k_is | rfl)
    (case xii0 => first | k_is | rfl)
    (case xkc0 => first | k_is | rfl)
    (case xec0 => first | k_is | rfl)
    (case xtc0 => first | k_is | rfl)
    (case xhc0 => first | k_is | rfl)
    (case xsc0 => first | k_is | rfl)
    (case it0 => first | k_is | rfl)
    (case il0 => first | k_is | rfl)
    (case ic0 => first | k_is | rfl)
    (case ik0 => first | k_is | rfl)
#print axioms PySem.Challenge.cw_keyfocus_k02_key_sequences_holds