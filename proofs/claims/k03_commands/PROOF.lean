import PyProof.Rows.All
import Wide.All
import OpenK.AllK
import Wide.FinOn
import PyProof.EqAt
import PyProof.EqKinds
import PyProof.TupleCall
import HandS.ForMost
import HandS.ForExc
import HandS.Star
import HandS.Style
import HandS.AnyAll
import HandS.Strs
import HandS.ExcInit
import HandS.ExcIs
import HandS.ExcField
import HandS.ClsMeth
import KE.KExcIs
import HandS.Codes
import PyProof.StrOps2
import HandS.Text
import HandS.TupAny
import HandS.TupLe
import HandS.IsInst
import HandS.EndTab
import HandS.ReplaceLit
import HandS.ReplaceDef
import HandS.FStr
import HandS.ReplaceList
import PyProof.StrLawsTight
import PyProof.P3Eq
import PySem.Challenge.RW_keyfocus_k03_commands
set_option Elab.async false
set_option linter.all false
set_option maxRecDepth 100000
set_option maxHeartbeats 2000000
/-! A layer of our own over HandS: what an expression is worth in typed data, told of a part G of the heap that never changes; the heap H at hand has G and what the def at hand may still change. -/
namespace RL
open PySem PySem.Spec PyProof.Rows L2

/-! ### heaps -/
theorem same_upd {H : Hp} {p : Addr} {o : HO} (h : H p = none) : Same H (upd H p o) := fun b u e => by
  rw [upd_ne (ne_of_none e h)]
  exact e
/-- the code objects' tables that may grow: their addresses -/
class Tb where
  ps : List Addr
def noTb (o : HO) : Prop := ∀ q, o ≠ .tbl q
theorem noTb_lst {xs : List V} : noTb (.lst xs) := fun q z => by cases z
theorem noTb_tup {xs : List V} : noTb (.tup xs) := fun q z => by cases z
section
variable [Tb]
/-- G's objects stand in H, and H has the tables -/
structure Sub (G H : Hp) : Prop where
  m : ∀ a o, G a = some o → H a = some o ∧ noTb o
  t : ∀ P ∈ Tb.ps, GxR.TabG H P
theorem Sub.get {G H : Hp} (s : Sub G H) : Same G H := fun a o h => (s.m a o h).1
instance {G H : Hp} : CoeFun (Sub G H) (fun _ => ∀ a o, G a = some o → H a = some o) := ⟨fun s => s.get⟩
theorem Sub.free {G H : Hp} (s : Sub G H) {a : Addr} (h : H a = none) : G a = none := s.get.free h
theorem un {G G' H : Hp} (a : Same G G') (s : Sub G' H) : Sub G H := ⟨fun b o h => s.m b o (a b o h), s.t⟩
/-- what is no table is kept -/
structure Kept (H H' : Hp) : Prop where
  k : ∀ a o, H a = some o → noTb o → H' a = some o
  fr : ∀ a, H' a = none → H a = none
theorem Kept.refl (H : Hp) : Kept H H := ⟨fun _ _ h _ => h, fun _ h => h⟩
theorem Kept.trans {H H1 H2 : Hp} (a : Kept H H1) (b : Kept H1 H2) : Kept H H2 := ⟨fun x o h n => b.k x o (a.k x o h n) n, fun x h => a.fr x (b.fr x h)⟩
theorem Kept.free {H H' : Hp} (k : Kept H H') {a : Addr} (h : H' a = none) : H a = none := k.fr a h
theorem Kept.l {H H' : Hp} (k : Kept H H') {a : Addr} {xs : List V} (h : H a = some (.lst xs)) : H' a = some (.lst xs) := k.k a _ h noTb_lst
theorem kept_upd {H : Hp} {p : Addr} {o : HO} (h : H p = none) : Kept H (upd H p o) := ⟨fun b u e _ => same_upd h b u e, fun b e => (same_upd h).free e⟩
theorem Kept.none {H H' : Hp} (k : Kept H H') {a : Addr} {o : HO} (h : H a = some o) : ∃ u, H' a = some u := by
  cases q : H' a with
  | none => rw [k.fr a q] at h; cases h
  | some u => exact ⟨u, rfl⟩
theorem tab_mut {H : Hp} {P p : Addr} {o : HO} (t : GxR.TabG H P) (hp : ∀ q, H p ≠ some (.tbl q)) : GxR.TabG (upd H p o) P := by
  obtain ⟨qs, e, k⟩ := t
  refine ⟨qs, ?_, k⟩
  rw [upd_ne fun z => hp qs (by rw [← z]; exact e)]
  exact e
theorem no_tab {H : Hp} {p : Addr} (h : H p = none) : ∀ q, H p ≠ some (.tbl q) := fun q z => by rw [h] at z; cases z
theorem Sub.keep {G H H' : Hp} (s : Sub G H) (k : Kept H H') (t : ∀ P ∈ Tb.ps, GxR.TabG H' P) : Sub G H' := ⟨fun a o h => ⟨k.k a o (s.m a o h).1 (s.m a o h).2, (s.m a o h).2⟩, t⟩
theorem sub_upd2 {G H : Hp} {p : Addr} {o : HO} (e : Sub G H) (h : G p = none) (hp : ∀ q, H p ≠ some (.tbl q)) : Sub G (upd H p o) := ⟨fun b u q => by
  rw [upd_ne (ne_of_none q h)]
  exact e.m b u q, fun P hP => tab_mut (e.t P hP) hp⟩
theorem sub_updB {G H : Hp} {p : Addr} {o : HO} (e : Sub G H) (hp : H p = none) (ho : noTb o) : Sub (upd G p o) (upd H p o) := ⟨fun b u q => by
  by_cases hb : b = p
  · subst hb
    rw [upd_same] at q ⊢
    cases q
    exact ⟨rfl, ho⟩
  · rw [upd_ne hb] at q ⊢
    exact e.m b u q, fun P hP => tab_mut (e.t P hP) (no_tab hp)⟩
structure Grow (G H G' H' : Hp) : Prop where
  g : Same G G'
  s : Sub G' H'
  h : Kept H H'
  f : ∀ a o, H a = some o → G a = none → G' a = none
theorem Grow.refl {G H : Hp} (e : Sub G H) : Grow G H G H := ⟨Same.refl _, e, Kept.refl _, fun _ _ _ h => h⟩
theorem Grow.trans {G H G1 H1 G2 H2 : Hp} (a : Grow G H G1 H1) (b : Grow G1 H1 G2 H2) : Grow G H G2 H2 :=
  ⟨a.g.trans b.g, b.s, a.h.trans b.h, fun x o h n => by
    obtain ⟨u, e⟩ := a.h.none h
    exact b.f x u e (a.f x o h n)⟩
theorem Grow.new {G H : Hp} (e : Sub G H) {p : Addr} {o : HO} (hp : H p = none) (ho : noTb o := by intro q z; cases z) : Grow G H (upd G p o) (upd H p o) :=
  ⟨same_upd (e.free hp), sub_updB e hp ho, kept_upd hp, fun a u ha hg => by
    rw [upd_ne (ne_of_none ha hp)]
    exact hg⟩
/-- an object that the entry does not know is changed -/
theorem Grow.mut {Ge He G H : Hp} (a : Grow Ge He G H) {p : Addr} {o : HO} (h0 : He p = none) (hg : G p = none) (ht : ∀ q, H p ≠ some (.tbl q)) : Grow Ge He G (upd H p o) :=
  ⟨a.g, sub_upd2 a.s hg ht, ⟨fun b u e n => by
    rw [upd_ne (ne_of_none e h0)]
    exact a.h.k b u e n, fun b e => by
    by_cases hb : b = p
    · rw [hb]; exact h0
    · rw [upd_ne hb] at e
      exact a.h.fr b e⟩, a.f⟩
theorem lst_no {H : Hp} {p : Addr} {xs : List V} (h : H p = some (.lst xs)) : ∀ q, H p ≠ some (.tbl q) := fun q z => by rw [h] at z; cases z
/-- such an object is from now on one of those that never change -/
theorem Grow.fix {Ge He G H : Hp} (a : Grow Ge He G H) {p : Addr} {o : HO} (h0 : He p = none) (hg : G p = none) (hp : H p = some o) (ho : noTb o := by intro q z; cases z) : Grow Ge He (upd G p o) H :=
  ⟨a.g.trans (same_upd hg), ⟨fun b u q => by
    by_cases hb : b = p
    · subst hb
      rw [upd_same] at q
      cases q
      exact ⟨hp, ho⟩
    · rw [upd_ne hb] at q
      exact a.s.m b u q, a.s.t⟩, a.h, fun x u hx hn => by
    rw [upd_ne (ne_of_none hx h0)]
    exact a.f x u hx hn⟩
/-- a new object that may still change -/
theorem Grow.loose {Ge He G H : Hp} (a : Grow Ge He G H) {p : Addr} {o : HO} (hp : H p = none) : Grow Ge He G (upd H p o) :=
  ⟨a.g, sub_upd2 a.s (a.s.free hp) (no_tab hp), a.h.trans (kept_upd hp), a.f⟩
/-- a table has grown -/
theorem Grow.tab {Ge He G H H' : Hp} (a : Grow Ge He G H) {P : Addr} (h : GxR.TabG H P) (t : GxR.Tabbed P H H') : Grow Ge He G H' := by
  obtain ⟨qs, eP, _⟩ := h
  refine ⟨a.g, ⟨fun b u q => ?_, fun R hR => ?_⟩, ⟨fun b u e n => ?_, fun b e => ?_⟩, a.f⟩
  · obtain ⟨q1, q2⟩ := a.s.m b u q
    refine ⟨?_, q2⟩
    rw [t.2 b fun z => by rw [z, eP] at q1; exact q2 qs (Option.some.inj q1).symm]
    exact q1
  · by_cases hr : R = P
    · rw [hr]; exact t.1
    · obtain ⟨rs, e, k⟩ := a.s.t R hR
      exact ⟨rs, by rw [t.2 R hr]; exact e, k⟩
  · have q1 := a.h.k b u e n
    rw [t.2 b fun z => by rw [z, eP] at q1; exact n qs (Option.some.inj q1).symm]
    exact q1
  · refine a.h.fr b ?_
    rw [← t.2 b fun z => by obtain ⟨rs, e2, _⟩ := t.1; rw [z, e2] at e; cases e]
    exact e
end
def jn (G1 G2 : Hp) : Hp := fun a => match G1 a with
  | some o => some o
  | none => G2 a
theorem jn_l (G1 G2 : Hp) : Same G1 (jn G1 G2) := fun b o e => by
  show (match G1 b with | some o => some o | none => G2 b) = some o
  rw [e]
theorem jn_r {G1 G2 H : Hp} (h1 : Same G1 H) (h2 : Same G2 H) : Same G2 (jn G1 G2) := fun b o e => by
  show (match G1 b with | some o => some o | none => G2 b) = some o
  cases q : G1 b with
  | none => exact e
  | some u =>
    have a := h1 b u q
    rw [h2 b o e] at a
    exact a.symm
theorem jn_s [Tb] {G1 G2 H : Hp} (h1 : Sub G1 H) (h2 : Sub G2 H) : Sub (jn G1 G2) H := ⟨fun b o e => by
  have e' : (match G1 b with | some o => some o | none => G2 b) = some o := e
  cases q : G1 b with
  | none =>
    rw [q] at e'
    exact h2.m b o e'
  | some u =>
    rw [q] at e'
    rw [← Option.some.inj e']
    exact h1.m b u q, h1.t⟩
theorem jn_none {G1 G2 : Hp} {b : Addr} (h1 : G1 b = none) (h2 : G2 b = none) : jn G1 G2 b = none := by
  show (match G1 b with | some o => some o | none => G2 b) = none
  rw [h1]
  exact h2
theorem same_none {G G' : Hp} (e : Same G G') {b : Addr} (h : G' b = none) : G b = none := e.free h
theorem rd_mono {G G' : Hp} {a : Addr} {u : HO} (e : Same G G') (h : Rd G a u) : Rd G' a u := by
  rcases h with h | ⟨o, h⟩
  · exact Or.inl (e a _ h)
  · exact Or.inr ⟨o, e a _ h⟩
theorem sqT_mono {K : PySem.W.Frag} {G G' : Hp} {a : Addr} {xs : List V} (e : Same G G') (h : SqT K G a xs) : SqT K G' a xs := by
  rcases h with h | h
  · exact Or.inl (rd_mono e h)
  · exact Or.inr h
theorem sqL_mono {K : PySem.W.Frag} {G G' : Hp} {a : Addr} {xs : List V} (e : Same G G') (h : SqL K G a xs) : SqL K G' a xs := by
  rcases h with h | h
  · exact Or.inl (rd_mono e h)
  · exact Or.inr h

/-! ### typed data: lists, tuples, what stands still -/
def dataO (o : HO) : Prop := match o with
  | .lst _ | .tup _ | .frz _ _ => True
  | _ => False
def SameD (G G' : Hp) : Prop := ∀ a o, G a = some o → dataO o → G' a = some o
theorem same_d {G G' : Hp} (e : Same G G') : SameD G G' := fun a o h _ => e a o h
theorem SameD.trans {G G1 G2 : Hp} (a : SameD G G1) (b : SameD G1 G2) : SameD G G2 := fun x o h d => b x o (a x o h d) d
theorem rd_monoD {G G' : Hp} {a : Addr} {u : HO} (d : dataO u) (e : SameD G G') (h : Rd G a u) : Rd G' a u := by
  rcases h with h | ⟨o, h⟩
  · exact Or.inl (e a _ h d)
  · exact Or.inr ⟨o, e a _ h trivial⟩
theorem sqT_monoD {K : PySem.W.Frag} {G G' : Hp} {a : Addr} {xs : List V} (e : SameD G G') (h : SqT K G a xs) : SqT K G' a xs := by
  rcases h with h | h
  · exact Or.inl (rd_monoD trivial e h)
  · exact Or.inr h
theorem sqL_monoD {K : PySem.W.Frag} {G G' : Hp} {a : Addr} {xs : List V} (e : SameD G G') (h : SqL K G a xs) : SqL K G' a xs := by
  rcases h with h | h
  · exact Or.inl (rd_monoD trivial e h)
  · exact Or.inr h
class Rep (α : Type) where
  rep : PySem.W.Frag → α → V → Hp → Prop
  mono : ∀ {K : PySem.W.Frag} {x : α} {v : V} {G G' : Hp}, SameD G G' → rep K x v G → rep K x v G'
open Rep (rep)
theorem upd' {α : Type} [Rep α] {K : PySem.W.Frag} {x : α} {v : V} {G G' : Hp} (e : SameD G G') (h : rep K x v G) : rep K x v G' := Rep.mono e h
theorem up {α : Type} [Rep α] {K : PySem.W.Frag} {x : α} {v : V} {G G' : Hp} (e : Same G G') (h : rep K x v G) : rep K x v G' := Rep.mono (same_d e) h
instance : Rep Int := ⟨fun _ x v _ => v = .int x, fun _ h => h⟩
instance : Rep Bool := ⟨fun _ x v _ => v = .bl x, fun _ h => h⟩
instance : Rep Str := ⟨fun _ x v _ => v = .str x, fun _ h => h⟩
instance : Rep Unit := ⟨fun _ _ v _ => v = .non, fun _ h => h⟩
def repO {α : Type} [Rep α] (K : PySem.W.Frag) (o : Option α) (v : V) (G : Hp) : Prop := match o with
  | none => v = .non
  | some x => rep K x v G
instance {α : Type} [Rep α] : Rep (Option α) := ⟨repO, fun {K x v G G'} e h => by
  cases x with
  | none => exact h
  | some y => exact upd' e (show rep K y v G from h)⟩
def repS {α β : Type} [Rep α] [Rep β] (K : PySem.W.Frag) (o : Sum α β) (v : V) (G : Hp) : Prop := match o with
  | .inl x => rep K x v G
  | .inr x => rep K x v G
instance {α β : Type} [Rep α] [Rep β] : Rep (Sum α β) := ⟨repS, fun {K x v G G'} e h => by
  cases x with
  | inl y => exact upd' e (show rep K y v G from h)
  | inr y => exact upd' e (show rep K y v G from h)⟩
abbrev Reps {α : Type} [Rep α] (K : PySem.W.Frag) (l : List α) (vs : List V) (G : Hp) : Prop := Paired (fun x v => rep K x v G) l vs
theorem Reps.upd {α : Type} [Rep α] {K : PySem.W.Frag} {l : List α} {vs : List V} {G G' : Hp} (e : SameD G G') (h : Reps K l vs G) : Reps K l vs G' := Paired.mapP h fun _ _ r => RL.upd' e r
theorem Reps.up {α : Type} [Rep α] {K : PySem.W.Frag} {l : List α} {vs : List V} {G G' : Hp} (e : Same G G') (h : Reps K l vs G) : Reps K l vs G' := Paired.mapP h fun _ _ r => RL.up e r
instance {α : Type} [Rep α] : Rep (List α) := ⟨fun K l v G => ∃ a xs, v = .ref a ∧ G a = some (.lst xs) ∧ Reps K l xs G, fun e ⟨a, xs, h1, h2, h3⟩ => ⟨a, xs, h1, e _ _ h2 trivial, h3.upd e⟩⟩
/-- the script -/
structure Scr where
  l : List Int
instance : Rep Scr := ⟨fun K s v G => ∃ a, v = .ref a ∧ SqL K G a (s.l.map V.int), fun e ⟨a, h1, h2⟩ => ⟨a, h1, sqL_monoD e h2⟩⟩
/-- a tuple of things of one kind -/
structure Tpl (α : Type) where
  l : List α
instance {α : Type} [Rep α] : Rep (Tpl α) := ⟨fun K t v G => ∃ a xs, v = .ref a ∧ SqT K G a xs ∧ Reps K t.l xs G, fun e ⟨a, xs, h1, h2, h3⟩ => ⟨a, xs, h1, sqT_monoD e h2, h3.upd e⟩⟩
instance {α β : Type} [Rep α] [Rep β] : Rep (α × β) := ⟨fun K p v G => ∃ a x y, v = .ref a ∧ SqT K G a [x, y] ∧ rep K p.1 x G ∧ rep K p.2 y G, fun e ⟨a, x, y, h1, h2, h3, h4⟩ => ⟨a, x, y, h1, sqT_monoD e h2, upd' e h3, upd' e h4⟩⟩
structure T3 (α β γ : Type) where
  a : α
  b : β
  c : γ
instance {α β γ : Type} [Rep α] [Rep β] [Rep γ] : Rep (T3 α β γ) := ⟨fun K p v G => ∃ a x y z, v = .ref a ∧ SqT K G a [x, y, z] ∧ rep K p.a x G ∧ rep K p.b y G ∧ rep K p.c z G,
  fun e ⟨a, x, y, z, h1, h2, h3, h4, h5⟩ => ⟨a, x, y, z, h1, sqT_monoD e h2, upd' e h3, upd' e h4, upd' e h5⟩⟩

/-- kinds whose things are told by their value alone -/
class Flat (α : Type) [Rep α] [DecidableEq α] where
  toV : α → V
  eq : ∀ {K : PySem.W.Frag} {x : α} {v : V} {G : Hp}, rep K x v G ↔ v = toV x
  flat : ∀ x : α, flatV (toV x) = true
  eqv : ∀ x y : α, eqV (toV x) (toV y) = decide (x = y)
  sc : ∀ x y : α, scal (toV x) (toV y) = true
  inj : ∀ x y : α, decide (toV x = toV y) = decide (x = y)
theorem inj_dec {α : Type} [DecidableEq α] {x y : α} {a b : V} (h : a = b ↔ x = y) : decide (a = b) = decide (x = y) := decide_eq_decide.mpr h
instance : Flat Int := ⟨V.int, Iff.rfl, fun _ => rfl, fun x y => by show (x == y) = _; exact Bool.beq_eq_decide_eq x y, fun _ _ => rfl, fun x y => inj_dec ⟨V.int.inj, congrArg _⟩⟩
instance : Flat Bool := ⟨V.bl, Iff.rfl, fun _ => rfl, fun x y => by show (x == y) = _; exact Bool.beq_eq_decide_eq x y, fun _ _ => rfl, fun x y => inj_dec ⟨V.bl.inj, congrArg _⟩⟩
instance : Flat Str := ⟨V.str, Iff.rfl, fun _ => rfl, fun x y => by show (x == y) = _; first | exact Bool.beq_eq_decide_eq x y | exact beq_eq_decide x y, fun _ _ => rfl, fun x y => inj_dec ⟨V.str.inj, congrArg _⟩⟩
def toVO : Option Str → V
  | none => .non
  | some x => .str x
instance : Flat (Option Str) := ⟨toVO, fun {K x v G} => by cases x <;> exact Iff.rfl, fun x => by cases x <;> rfl, fun x y => by
    cases x with
    | none =>
      cases y with
      | none => rfl
      | some y => exact (decide_eq_false (fun h => by cases h)).symm
    | some x =>
      cases y with
      | none => exact (decide_eq_false (fun h => by cases h)).symm
      | some y =>
        show eqV (.str x) (.str y) = _
        rw [show eqV (.str x) (.str y) = decide (x = y) from Flat.eqv x y]
        exact decide_eq_decide.mpr ⟨fun h => by rw [h], fun h => Option.some.inj h⟩, fun x y => by cases x <;> cases y <;> rfl, fun x y => inj_dec ⟨fun h => by
    cases x with
    | none =>
      cases y with
      | none => rfl
      | some y => cases h
    | some x =>
      cases y with
      | none => cases h
      | some y => exact congrArg some (V.str.inj h), fun h => by rw [h]⟩⟩
theorem reps_flat {α : Type} [Rep α] [DecidableEq α] [Flat α] {K : PySem.W.Frag} {G : Hp} : ∀ {l : List α} {vs : List V}, Reps K l vs G → vs = l.map Flat.toV
  | _, _, .nil => rfl
  | x :: l, v :: vs, .cons r t => by
    rw [List.map_cons, ← reps_flat t, (Flat.eq (x := x)).mp r]
theorem reps_of_flat {α : Type} [Rep α] [DecidableEq α] [Flat α] {K : PySem.W.Frag} {G : Hp} : ∀ (l : List α), Reps K l (l.map Flat.toV) G
  | [] => .nil
  | x :: l => .cons (Flat.eq.mpr rfl) (reps_of_flat l)
theorem paired_len {α β : Type} {F : α → β → Prop} : ∀ {l : List α} {m : List β}, Paired F l m → l.length = m.length
  | _, _, .nil => rfl
  | _, _, .cons _ t => congrArg (· + 1) (paired_len t)
theorem paired_get {α β : Type} {F : α → β → Prop} : ∀ {l : List α} {m : List β} {i : Nat} {b : β}, Paired F l m → m[i]? = some b → ∃ a, l[i]? = some a ∧ F a b
  | _, _, i, b, .nil, h => by simp at h
  | x :: l, y :: m, 0, b, .cons r t, h => ⟨x, rfl, by simp at h; rw [← h]; exact r⟩
  | x :: l, y :: m, i + 1, b, .cons r t, h => by
    have h' : m[i]? = some b := by simpa using h
    obtain ⟨a, e, f⟩ := paired_get t h'
    exact ⟨a, by simpa using e, f⟩
theorem paired_get' {α β : Type} {F : α → β → Prop} : ∀ {l : List α} {m : List β} {i : Nat} {a : α}, Paired F l m → l[i]? = some a → ∃ b, m[i]? = some b ∧ F a b
  | _, _, i, b, .nil, h => by simp at h
  | x :: l, y :: m, 0, b, .cons r t, h => ⟨y, rfl, by simp at h; rw [← h]; exact r⟩
  | x :: l, y :: m, i + 1, b, .cons r t, h => by
    have h' : l[i]? = some b := by simpa using h
    obtain ⟨a, e, f⟩ := paired_get' t h'
    exact ⟨a, by simpa using e, f⟩
theorem paired_append {α β : Type} {F : α → β → Prop} : ∀ {l l' : List α} {m m' : List β}, Paired F l m → Paired F l' m' → Paired F (l ++ l') (m ++ m')
  | _, _, _, _, .nil, s => s
  | _, _, _, _, .cons r t, s => .cons r (paired_append t s)
theorem paired_take {α β : Type} {F : α → β → Prop} : ∀ {l : List α} {m : List β} (n : Nat), Paired F l m → Paired F (l.take n) (m.take n)
  | _, _, 0, _ => .nil
  | _, _, _ + 1, .nil => .nil
  | _, _, n + 1, .cons r t => .cons r (paired_take n t)
theorem paired_drop {α β : Type} {F : α → β → Prop} : ∀ {l : List α} {m : List β} (n : Nat), Paired F l m → Paired F (l.drop n) (m.drop n)
  | _, _, 0, r => r
  | _, _, _ + 1, .nil => .nil
  | _, _, n + 1, .cons _ t => paired_drop n t
theorem paired_rev {α β : Type} {F : α → β → Prop} : ∀ {l : List α} {m : List β}, Paired F l m → Paired F l.reverse m.reverse
  | _, _, .nil => .nil
  | x :: l, y :: m, .cons r t => by
    rw [List.reverse_cons, List.reverse_cons]
    exact paired_append (paired_rev t) (.cons r .nil)
theorem atI_pair {α β : Type} {F : α → β → Prop} {l : List α} {m : List β} {i : Int} {a : α} (p : Paired F l m) (h : atI l i = some a) : ∃ b, atI m i = some b ∧ F a b := by
  unfold atI at h ⊢
  rw [← paired_len p]
  cases e : ixN l.length i with
  | none => rw [e] at h; cases h
  | some j =>
    rw [e] at h
    exact paired_get' p h

/-- the two questions, by one word each -/
def eqB {α : Type} [DecidableEq α] (x y : α) : Bool := decide (x = y)
def memB {α : Type} [DecidableEq α] (x : α) (l : List α) : Bool := decide (x ∈ l)
variable [Tb]
/-! ### what an expression is worth -/
abbrev RP := V → Hp → Prop
def EvG (te : TE) (σ : L2.St) (G : Hp) (P : RP) : Prop := ∀ H, Sub G H → ∀ Q : VK, (∀ v G' H', Grow G H G' H' → P v G' → Q v H') → te σ H Q
def EvR {α : Type} [Rep α] (K : PySem.W.Frag) (te : TE) (σ : L2.St) (G : Hp) (x : α) : Prop := EvG te σ G (rep K x)
def EvB (tt : TT) (σ : L2.St) (G : Hp) (b : Bool) : Prop := ∀ H, Sub G H → ∀ Q : Bool → Hp → Prop, (∀ G' H', Grow G H G' H' → Q b H') → tt σ H Q
/-- arguments, items: told one by one -/
def EvA {α : Type} [Rep α] (K : PySem.W.Frag) (ta : TA) (σ : L2.St) (G : Hp) (l : List α) : Prop := ∀ H, Sub G H → ∀ Q : List V → Hp → Prop, (∀ vs G' H', Grow G H G' H' → Reps K l vs G' → Q vs H') → ta σ H Q
/-- nothing is made: the heap stands -/
theorem grow_up {G G' H G2 H2 : Hp} (a : Grow G H G2 H2) (e : Same G G') (s : Sub G' H) : Grow G' H (jn G2 G') H2 := by
  have s2 : Sub G' H2 := s.keep a.h a.s.t
  exact ⟨jn_r a.s.get s2.get, jn_s a.s s2, a.h, fun b o hb hn => jn_none (a.f b o hb (e.free hn)) hn⟩
section
variable {α β γ : Type} [Rep α] [Rep β] [Rep γ] {K : PySem.W.Frag} {σ : L2.St} {G G' : Hp} {te ta tb tc : TE} {tt tu : TT} {x : α} {y : β} {z : γ} {b c : Bool} {i : Nat} {v : V} {ts tr : TA}
theorem EvR.mono (h : EvR K te σ G x) (e : Same G G') : EvR K te σ G' x := fun H s Q q => h H (un e s) Q fun v G2 H2 gr r => q v _ H2 (grow_up gr e s) (up (jn_l G2 G') r)
theorem EvB.mono (h : EvB tt σ G b) (e : Same G G') : EvB tt σ G' b := fun H s Q q => h H (un e s) Q fun G2 H2 gr => q _ H2 (grow_up gr e s)
theorem EvA.mono {l : List α} (h : EvA K ts σ G l) (e : Same G G') : EvA K ts σ G' l := fun H s Q q => h H (un e s) Q fun v G2 H2 gr r => q v _ H2 (grow_up gr e s) (r.up (jn_l G2 G'))
theorem EvR.to {x' : α} (h : EvR K te σ G x) (e : x = x') : EvR K te σ G x' := e ▸ h
theorem EvB.to (h : EvB tt σ G b) (e : b = c) : EvB tt σ G c := e ▸ h
theorem ev_var (h : σ[i]? = some (some v)) (r : rep K x v G) : EvR K (tVar i) σ G x := fun H e Q q => ⟨v, h, q v G H (Grow.refl e) r⟩
theorem ev_c (r : rep K x v G) : EvR K (tC v) σ G x := fun H e Q q => q v G H (Grow.refl e) r
theorem ev_int {n : Int} : EvR K (tC (.int n)) σ G n := ev_c rfl
theorem ev_str {n : Str} : EvR K (tC (.str n)) σ G n := ev_c rfl
theorem ev_bl {n : Bool} : EvR K (tC (.bl n)) σ G n := ev_c rfl
theorem ev_non : EvR K (tC .non) σ G (none : Option α) := ev_c (show repO K (none : Option α) V.non G from rfl)
theorem ev_some (h : EvR K te σ G x) : EvR K te σ G (some x) := h
/-- two operands -/
theorem ev_op {r : R2} (ha : EvR K ta σ G x) (hb : EvR K tb σ G y)
    (hr : ∀ v w G1 H1, Same G G1 → Sub G1 H1 → rep K x v G1 → rep K y w G1 → ∀ Q : VK, (∀ u G2 H2, Grow G1 H1 G2 H2 → rep K z u G2 → Q u H2) → r v w H1 Q) : EvR K (tOp r ta tb) σ G z := fun H e Q q =>
  ha H e _ fun v G1 H1 g1 r1 => hb.mono g1.g H1 g1.s _ fun w G2 H2 g2 r2 => hr v w G2 H2 (g1.g.trans g2.g) g2.s (up g2.g r1) r2 Q fun u G3 H3 g3 r3 => q u G3 H3 ((g1.trans g2).trans g3) r3
theorem ev_I0 {g : Int → Int → Int} {m n : Int} (ha : EvR K ta σ G m) (hb : EvR K tb σ G n) : EvR K (tOp (rI0 fun i j => .int (g i j)) ta tb) σ G (g m n) :=
  ev_op ha hb fun v w G1 H1 _ s hv hw Q q => ⟨m, n, hv, hw, q _ G1 H1 (Grow.refl s) rfl⟩
theorem ev_B0 {g : Int → Int → Bool} {m n : Int} (ha : EvR K ta σ G m) (hb : EvR K tb σ G n) : EvR K (tOp (rI0 fun i j => .bl (g i j)) ta tb) σ G (g m n) :=
  ev_op ha hb fun v w G1 H1 _ s hv hw Q q => ⟨m, n, hv, hw, q _ G1 H1 (Grow.refl s) rfl⟩
theorem ev_I {C : Int → Int → Prop} {g : Int → Int → Int} {m n : Int} (ha : EvR K ta σ G m) (hb : EvR K tb σ G n) (hc : C m n) : EvR K (tOp (rI C fun i j => .int (g i j)) ta tb) σ G (g m n) :=
  ev_op ha hb fun v w G1 H1 _ s hv hw Q q => ⟨m, n, hv, hw, hc, q _ G1 H1 (Grow.refl s) rfl⟩
theorem ev_add {m n : Int} (ha : EvR K ta σ G m) (hb : EvR K tb σ G n) : EvR K (tOp (rI0 fun i j => .int (i + j)) ta tb) σ G (m + n) := ev_I0 (g := fun i j => i + j) ha hb
theorem ev_sub {m n : Int} (ha : EvR K ta σ G m) (hb : EvR K tb σ G n) : EvR K (tOp (rI0 fun i j => .int (i - j)) ta tb) σ G (m - n) := ev_I0 (g := fun i j => i - j) ha hb
theorem ev_mul {m n : Int} (ha : EvR K ta σ G m) (hb : EvR K tb σ G n) (hc : CMul m n) : EvR K (tOp (rI CMul fun i j => .int (i * j)) ta tb) σ G (m * n) := ev_I (g := fun i j => i * j) ha hb hc
theorem ev_mod {m n : Int} (ha : EvR K ta σ G m) (hb : EvR K tb σ G n) (hc : 0 < n) : EvR K (tOp (rI (fun _ j => 0 < j) fun i j => .int (i % j)) ta tb) σ G (m % n) := ev_I (g := fun i j => i % j) (C := fun _ j => 0 < j) ha hb hc
theorem ev_fdiv {m n : Int} (ha : EvR K ta σ G m) (hb : EvR K tb σ G n) (hc : CDiv m n) : EvR K (tOp (rI CDiv fun i j => .int (i / j)) ta tb) σ G (m / n) := ev_I (g := fun i j => i / j) ha hb hc
theorem ev_pow {m n : Int} (ha : EvR K ta σ G m) (hb : EvR K tb σ G n) (hc : CPow m n) : EvR K (tOp (rI CPow fun i j => .int (i ^ j.toNat)) ta tb) σ G (m ^ n.toNat) := ev_I (g := fun i j => i ^ j.toNat) ha hb hc
theorem ev_lt {m n : Int} (ha : EvR K ta σ G m) (hb : EvR K tb σ G n) : EvR K (tOp (rI0 fun i j => .bl (decide (i < j))) ta tb) σ G (decide (m < n)) := ev_B0 (g := fun i j => decide (i < j)) ha hb
theorem ev_le {m n : Int} (ha : EvR K ta σ G m) (hb : EvR K tb σ G n) : EvR K (tOp (rI0 fun i j => .bl (decide (i ≤ j))) ta tb) σ G (decide (m ≤ n)) := ev_B0 (g := fun i j => decide (i ≤ j)) ha hb
theorem ev_gt {m n : Int} (ha : EvR K ta σ G m) (hb : EvR K tb σ G n) : EvR K (tOp (rI0 fun i j => .bl (decide (j < i))) ta tb) σ G (decide (n < m)) := ev_B0 (g := fun i j => decide (j < i)) ha hb
theorem ev_ge {m n : Int} (ha : EvR K ta σ G m) (hb : EvR K tb σ G n) : EvR K (tOp (rI0 fun i j => .bl (decide (j ≤ i))) ta tb) σ G (decide (n ≤ m)) := ev_B0 (g := fun i j => decide (j ≤ i)) ha hb
theorem ev_neg {m : Int} (ha : EvR K ta σ G m) : EvR K (tUn (rU fun i => .int (-i)) ta) σ G (-m) := fun H e Q q => ha H e _ fun v G1 H1 g1 r1 => ⟨m, r1, q _ G1 H1 g1 rfl⟩
/-- == != of things told by their value -/
theorem ev_eq {δ : Type} [Rep δ] [DecidableEq δ] [Flat δ] {m n : δ} (ha : EvR K ta σ G m) (hb : EvR K tb σ G n) : EvR K (tOp rEq ta tb) σ G (eqB m n) :=
  ev_op ha hb fun v w G1 H1 _ s hv hw Q q => by
    rw [Flat.eq.mp hv, Flat.eq.mp hw]
    refine ⟨Flat.sc m n, q _ G1 H1 (Grow.refl s) ?_⟩
    rw [Flat.inj m n]
    rfl
theorem ev_ne {δ : Type} [Rep δ] [DecidableEq δ] [Flat δ] {m n : δ} (ha : EvR K ta σ G m) (hb : EvR K tb σ G n) : EvR K (tOp rNe ta tb) σ G (!eqB m n) :=
  ev_op ha hb fun v w G1 H1 _ s hv hw Q q => by
    rw [Flat.eq.mp hv, Flat.eq.mp hw]
    refine ⟨Flat.sc m n, q _ G1 H1 (Grow.refl s) ?_⟩
    rw [Flat.inj m n]
    rfl
theorem ev_isN {o : Option α} (hn : ∀ v G, (∃ x : α, rep K x v G) → v ≠ .non) (ha : EvR K ta σ G o) : EvR K (tOp (fun x y H Q => y = .non ∧ Q (.bl (decide (x = .non))) H) ta (tC .non)) σ G o.isNone := fun H e Q q =>
  ha H e _ fun v G1 H1 g1 r1 => ⟨rfl, q _ G1 H1 g1 (by
    cases o with
    | none =>
      have e : v = V.non := r1
      rw [e]
      rfl
    | some x => exact congrArg V.bl (decide_eq_false (hn v G1 ⟨x, r1⟩)))⟩
theorem ev_notN {o : Option α} (hn : ∀ v G, (∃ x : α, rep K x v G) → v ≠ .non) (ha : EvR K ta σ G o) : EvR K (tOp (fun x y H Q => y = .non ∧ Q (.bl (!decide (x = .non))) H) ta (tC .non)) σ G o.isSome := fun H e Q q =>
  ha H e _ fun v G1 H1 g1 r1 => ⟨rfl, q _ G1 H1 g1 (by
    cases o with
    | none =>
      have e : v = V.non := r1
      rw [e]
      rfl
    | some x => exact congrArg V.bl (by rw [decide_eq_false (hn v G1 ⟨x, r1⟩)]; rfl))⟩
omit [Tb] in
theorem nn_str {K : PySem.W.Frag} : ∀ (v : V) (G : Hp), (∃ x : Str, rep K x v G) → v ≠ .non := fun v G ⟨x, h⟩ => by rw [show v = V.str x from h]; intro z; cases z
omit [Tb] in
theorem nn_int {K : PySem.W.Frag} : ∀ (v : V) (G : Hp), (∃ x : Int, rep K x v G) → v ≠ .non := fun v G ⟨x, h⟩ => by rw [show v = V.int x from h]; intro z; cases z
omit [Tb] in
theorem nn_pair {K : PySem.W.Frag} : ∀ (v : V) (G : Hp), (∃ x : α × β, rep K x v G) → v ≠ .non := fun v G ⟨x, a, y, w, h, _⟩ => by rw [h]; intro z; cases z
/-- texts -/
theorem ev_addS {m n : Str} (ha : EvR K ta σ G m) (hb : EvR K tb σ G n) (hl : m.length + n.length ≤ sizeLine) :
    EvR K (tOp (fun x y H Q => ∃ i j, x = .str i ∧ y = .str j ∧ i.length + j.length ≤ sizeLine ∧ Q (.str (i ++ j)) H) ta tb) σ G (m ++ n) :=
  ev_op ha hb fun v w G1 H1 _ s hv hw Q q => ⟨m, n, hv, hw, hl, q _ G1 H1 (Grow.refl s) rfl⟩
theorem ev_leS {m n : Str} (ha : EvR K ta σ G m) (hb : EvR K tb σ G n) :
    EvR K (tOp (fun x y H Q => ∃ i j, x = .str i ∧ y = .str j ∧ Q (.bl (!decide (j.cps.toList < i.cps.toList))) H) ta tb) σ G (!decide (n.cps.toList < m.cps.toList)) :=
  ev_op ha hb fun v w G1 H1 _ s hv hw Q q => ⟨m, n, hv, hw, q _ G1 H1 (Grow.refl s) rfl⟩
/-- a <= b <= c -/
theorem ev_chain {r r' : R2} {u : Bool} (ha : EvR K ta σ G x) (hb : EvR K tb σ G y) (hr : ∀ v w G1 H1, Same G G1 → Sub G1 H1 → rep K x v G1 → rep K y w G1 → ∀ Q : VK, (∀ G2 H2, Grow G1 H1 G2 H2 → Q (.bl b) H2) → r v w H1 Q)
    (hc : b = true → EvR K tc σ G z) (hr2 : ∀ v w G1 H1, Same G G1 → Sub G1 H1 → rep K y v G1 → rep K z w G1 → ∀ Q : VK, (∀ G2 H2, Grow G1 H1 G2 H2 → Q (.bl u) H2) → r' v w H1 Q) : EvR K (tChain r r' ta tb tc) σ G (b && u) := fun H e Q q =>
  ha H e _ fun v G1 H1 g1 r1 => hb.mono g1.g H1 g1.s _ fun w G2 H2 g2 r2 => hr v w G2 H2 (g1.g.trans g2.g) g2.s (up g2.g r1) r2 _ fun G3 H3 g3 => ⟨b, rfl, by
    cases b with
    | true =>
      refine iteT ?_
      have g := (g1.trans g2).trans g3
      refine (hc rfl).mono g.g H3 g.s _ fun w' G4 H4 g4 r4 => ?_
      exact hr2 w w' G4 H4 (g.g.trans g4.g) g4.s (up (g3.g.trans g4.g) r2) r4 Q fun G5 H5 g5 => q _ G5 H5 ((g.trans g4).trans g5) rfl
    | false =>
      refine iteF ?_
      exact q _ G3 H3 ((g1.trans g2).trans g3) rfl⟩
/-- tests -/
theorem et_test (h : EvR K te σ G b) : EvB (tTest te) σ G b := fun H e Q q => h H e _ fun v G1 H1 g1 r1 => ⟨b, r1, q G1 H1 g1⟩
theorem et_B (h : EvR K te σ G b) : EvB (tB te) σ G b := fun H e Q q => h H e _ fun v G1 H1 g1 r1 => ⟨b, r1, q G1 H1 g1⟩
theorem et_and (h1 : EvB tt σ G b) (h2 : b = true → EvB tu σ G c) : EvB (tAnd tt tu) σ G (b && c) := fun H e Q q => h1 H e _ fun G1 H1 g1 => by
  cases b with
  | true => exact iteT ((h2 rfl).mono g1.g H1 g1.s Q fun G2 H2 g2 => q G2 H2 (g1.trans g2))
  | false => exact iteF (q G1 H1 g1)
theorem et_or (h1 : EvB tt σ G b) (h2 : b = false → EvB tu σ G c) : EvB (tOr tt tu) σ G (b || c) := fun H e Q q => h1 H e _ fun G1 H1 g1 => by
  cases b with
  | true => exact iteT (q G1 H1 g1)
  | false => exact iteF ((h2 rfl).mono g1.g H1 g1.s Q fun G2 H2 g2 => q G2 H2 (g1.trans g2))
theorem et_not (h : EvB tt σ G b) : EvB (tNot tt) σ G (!b) := fun H e Q q => h H e _ q
theorem ev_andV (h1 : EvR K ta σ G b) (h2 : b = true → EvR K tb σ G c) : EvR K (tAndV ta tb) σ G (b && c) := fun H e Q q => h1 H e _ fun v G1 H1 g1 r1 => ⟨b, r1, by
  cases b with
  | true => exact iteT ((h2 rfl).mono g1.g H1 g1.s Q fun v G2 H2 g2 r2 => q v G2 H2 (g1.trans g2) r2)
  | false => exact iteF (q _ G1 H1 g1 rfl)⟩
theorem ev_orV (h1 : EvR K ta σ G b) (h2 : b = false → EvR K tb σ G c) : EvR K (tOrV ta tb) σ G (b || c) := fun H e Q q => h1 H e _ fun v G1 H1 g1 r1 => ⟨b, r1, by
  cases b with
  | true => exact iteT (q _ G1 H1 g1 rfl)
  | false => exact iteF ((h2 rfl).mono g1.g H1 g1.s Q fun v G2 H2 g2 r2 => q v G2 H2 (g1.trans g2) r2)⟩
theorem ev_notV (h1 : EvR K ta σ G b) : EvR K (tNotV ta) σ G (!b) := fun H e Q q => h1 H e _ fun v G1 H1 g1 r1 => ⟨b, r1, q _ G1 H1 g1 rfl⟩
theorem ev_if (h : EvB tt σ G b) {x' : α} (h1 : b = true → EvR K ta σ G x) (h2 : b = false → EvR K tb σ G x') : EvR K (tIf tt ta tb) σ G (cond b x x') := fun H e Q q => h H e _ fun G1 H1 g1 => by
  cases b with
  | true => exact iteT ((h1 rfl).mono g1.g H1 g1.s Q fun v G2 H2 g2 r2 => q v G2 H2 (g1.trans g2) r2)
  | false => exact iteF ((h2 rfl).mono g1.g H1 g1.s Q fun v G2 H2 g2 r2 => q v G2 H2 (g1.trans g2) r2)
/-- arguments -/
theorem ea_nil : EvA K tNil σ G ([] : List α) := fun H e Q q => q [] G H (Grow.refl e) .nil
theorem ea_cons {l : List α} (h : EvR K te σ G x) (hr : EvA K tr σ G l) : EvA K (tCons te tr) σ G (x :: l) := fun H e Q q =>
  h H e _ fun v G1 H1 g1 r1 => hr.mono g1.g H1 g1.s _ fun vs G2 H2 g2 r2 => q (v :: vs) G2 H2 (g1.trans g2) (.cons (up g2.g r1) r2)
theorem ea_star {l m : List α} (h : EvR K te σ G l) (hr : EvA K tr σ G m) : EvA K (StX.tStar K te tr) σ G (l ++ m) := fun H e Q q =>
  h H e _ fun v G1 H1 g1 ⟨a, xs, ev, ha, r1⟩ => ⟨a, xs, ev, .inr (SqL.of (g1.s _ _ ha)), hr.mono g1.g H1 g1.s _ fun vs G2 H2 g2 r2 => q (xs ++ vs) G2 H2 (g1.trans g2) (paired_append (r1.up g2.g) r2)⟩
theorem ev_lst {l : List α} (h : EvA K ts σ G l) (hl : l.length ≤ sizeLine) : EvR K (tLst ts) σ G l := fun H e Q q =>
  h H e _ fun vs G1 H1 g1 r1 => ⟨by rw [← paired_len r1]; exact hl, fun p hp => q _ _ _ (g1.trans (Grow.new g1.s hp)) ⟨p, vs, rfl, upd_same, r1.up (same_upd (g1.s.free hp))⟩⟩
theorem ev_tpl {l : List α} (h : EvA K ts σ G l) (hl : l.length ≤ sizeLine) : EvR K (tTup ts) σ G (Tpl.mk l) := fun H e Q q =>
  h H e _ fun vs G1 H1 g1 r1 => ⟨by rw [← paired_len r1]; exact hl, fun p hp => q _ _ _ (g1.trans (Grow.new g1.s hp)) ⟨p, vs, rfl, SqT.of upd_same, r1.up (same_upd (g1.s.free hp))⟩⟩
theorem ev_tup2 (ha : EvR K ta σ G x) (hb : EvR K tb σ G y) : EvR K (tTup (tCons ta (tCons tb tNil))) σ G (x, y) := fun H e Q q =>
  ha H e _ fun v G1 H1 g1 r1 => hb.mono g1.g H1 g1.s _ fun w G2 H2 g2 r2 => ⟨by show 2 ≤ sizeLine; decide, fun p hp => q _ _ _ ((g1.trans g2).trans (Grow.new g2.s hp))
    ⟨p, v, w, rfl, SqT.of upd_same, up (g2.g.trans (same_upd (g2.s.free hp))) r1, up (same_upd (g2.s.free hp)) r2⟩⟩
/-- items, slices -/
theorem ev_ixL {l : List α} {n : Int} (ha : EvR K ta σ G l) (hb : EvR K tb σ G n) (h : atI l n = some x) : EvR K (tOp (rIxL K) ta tb) σ G x :=
  ev_op ha hb fun v w G1 H1 _ s ⟨a, xs, ev, hA, r⟩ hw Q q => by
    obtain ⟨u, h1, h2⟩ := atI_pair r h
    exact ⟨a, xs, n, u, ev, hw, SqL.of (s _ _ hA), h1, q u G1 H1 (Grow.refl s) h2⟩
theorem ev_ixT {l : Tpl α} {n : Int} (ha : EvR K ta σ G l) (hb : EvR K tb σ G n) (h : atI l.l n = some x) : EvR K (tOp (rIxT K) ta tb) σ G x :=
  ev_op ha hb fun v w G1 H1 _ s ⟨a, xs, ev, hA, r⟩ hw Q q => by
    obtain ⟨u, h1, h2⟩ := atI_pair r h
    exact ⟨a, xs, n, u, ev, hw, sqT_mono s.get hA, h1, q u G1 H1 (Grow.refl s) h2⟩
theorem ev_ix20 {p : α × β} (ha : EvR K ta σ G p) : EvR K (tOp (rIxT K) ta (tC (.int 0))) σ G p.1 :=
  ev_op (y := (0 : Int)) ha ev_int fun v w G1 H1 _ s ⟨a, x, y, ev, hA, r1, r2⟩ hw Q q => ⟨a, [x, y], 0, x, ev, hw, sqT_mono s.get hA, rfl, q x G1 H1 (Grow.refl s) r1⟩
theorem ev_ix21 {p : α × β} (ha : EvR K ta σ G p) : EvR K (tOp (rIxT K) ta (tC (.int 1))) σ G p.2 :=
  ev_op (y := (1 : Int)) ha ev_int fun v w G1 H1 _ s ⟨a, x, y, ev, hA, r1, r2⟩ hw Q q => ⟨a, [x, y], 1, y, ev, hw, sqT_mono s.get hA, rfl, q y G1 H1 (Grow.refl s) r2⟩
theorem ev_ixS {z : Str} {n : Int} {c : Nat} (ha : EvR K ta σ G z) (hb : EvR K tb σ G n) (hl : z.length ≤ sizeLine) (h : atI z.cps.toList n = some c) : EvR K (tOp rIxS ta tb) σ G (Str.mk #[c]) :=
  ev_op ha hb fun v w G1 H1 _ s hv hw Q q => ⟨z, n, c, hv, hw, hl, h, q _ G1 H1 (Grow.refl s) rfl⟩
theorem ev_ixScr {z : Scr} {n m : Int} (ha : EvR K ta σ G z) (hb : EvR K tb σ G n) (h : atI z.l n = some m) : EvR K (tOp (rIxL K) ta tb) σ G m :=
  ev_op ha hb fun v w G1 H1 _ s ⟨a, ev, hA⟩ hw Q q => by
    have h2 : atI (z.l.map V.int) n = some (V.int m) := by
      unfold atI at h ⊢
      rw [List.length_map]
      cases e : ixN z.l.length n with
      | none => rw [e] at h; cases h
      | some j =>
        rw [e] at h
        show (z.l.map V.int)[j]? = some (V.int m)
        rw [List.getElem?_map, show z.l[j]? = some m from h]
        rfl
    exact ⟨a, _, n, _, ev, hw, sqL_mono s.get hA, h2, q _ G1 H1 (Grow.refl s) rfl⟩
def cutL {δ : Type} (xs : List δ) (lo hi : Option Int) : List δ := (xs.drop (HT.sIx xs.length 0 lo)).take (HT.sIx xs.length xs.length hi - HT.sIx xs.length 0 lo)
omit [Tb] in
theorem cut_pair {δ ε : Type} {F : δ → ε → Prop} {l : List δ} {m : List ε} (lo hi : Option Int) (p : Paired F l m) : Paired F (cutL l lo hi) (cutL m lo hi) := by
  unfold cutL
  rw [← paired_len p]
  exact paired_take _ (paired_drop _ p)
def EvO (K : PySem.W.Frag) (to : TO) (σ : L2.St) (G : Hp) (o : Option Int) : Prop := ∀ H, Sub G H → ∀ Q : Option Int → Hp → Prop, (∀ G' H', Grow G H G' H' → Q o H') → to σ H Q
theorem eo_none : EvO K tNoPart σ G none := fun H e Q q => q G H (Grow.refl e)
theorem eo_some {n : Int} (h : EvR K te σ G n) : EvO K (tPart te) σ G (some n) := fun H e Q q => h H e _ fun v G1 H1 g1 r1 => ⟨n, r1, q G1 H1 g1⟩
theorem EvO.mono {to : TO} {o : Option Int} (h : EvO K to σ G o) (e : Same G G') : EvO K to σ G' o := fun H s Q q => h H (un e s) Q fun G2 H2 gr => q _ H2 (grow_up gr e s)
theorem ev_slL {l : List α} {tl th : TO} {lo hi : Option Int} (ha : EvR K ta σ G l) (hl : EvO K tl σ G lo) (hh : EvO K th σ G hi) : EvR K (tSl (rSlL K) ta tl th) σ G (cutL l lo hi) := fun H e Q q =>
  ha H e _ fun v G1 H1 g1 r1 => hl.mono g1.g H1 g1.s _ fun G2 H2 g2 => hh.mono (g1.g.trans g2.g) H2 g2.s _ fun G3 H3 g3 => by
    obtain ⟨a, xs, ev, hA, r⟩ := up (g2.g.trans g3.g) r1
    exact ⟨a, xs, ev, SqL.of (g3.s _ _ hA), fun p hp => q _ _ _ (((g1.trans g2).trans g3).trans (Grow.new g3.s hp)) ⟨p, cutL xs lo hi, rfl, upd_same, Reps.up (same_upd (g3.s.free hp)) (cut_pair lo hi r)⟩⟩
theorem ev_slS {l : Str} {tl th : TO} {lo hi : Option Int} (ha : EvR K ta σ G l) (hl : EvO K tl σ G lo) (hh : EvO K th σ G hi) (hz : l.length ≤ sizeLine) : EvR K (tSl rSlS ta tl th) σ G (cutS l lo hi) := fun H e Q q =>
  ha H e _ fun v G1 H1 g1 r1 => hl.mono g1.g H1 g1.s _ fun G2 H2 g2 => hh.mono (g1.g.trans g2.g) H2 g2.s _ fun G3 H3 g3 => ⟨l, r1, hz, q _ G3 H3 ((g1.trans g2).trans g3) rfl⟩
theorem ev_revL {l : List α} (ha : EvR K ta σ G l) : EvR K (L2.tRevL K ta) σ G l.reverse := fun H e Q q =>
  ha H e _ fun v G1 H1 g1 ⟨a, xs, ev, hA, r⟩ => ⟨a, xs, ev, SqL.of (g1.s _ _ hA), fun p hp => q _ _ _ (g1.trans (Grow.new g1.s hp)) ⟨p, xs.reverse, rfl, upd_same, Reps.up (same_upd (g1.s.free hp)) (paired_rev r)⟩⟩
theorem ev_cat {l m : List α} (ha : EvR K ta σ G l) (hb : EvR K tb σ G m) (hl : l.length + m.length ≤ sizeLine) : EvR K (tOp rCat ta tb) σ G (l ++ m) :=
  ev_op ha hb fun v w G1 H1 _ s ⟨a, xs, ev, hA, r⟩ ⟨b, ys, ew, hB, r'⟩ Q q => ⟨a, b, xs, ys, ev, ew, s _ _ hA, s _ _ hB, by rw [← paired_len r, ← paired_len r']; exact hl, fun p hp =>
    q _ _ _ (Grow.new s hp) ⟨p, xs ++ ys, rfl, upd_same, paired_append (r.up (same_upd (s.free hp))) (r'.up (same_upd (s.free hp)))⟩⟩
omit [Tb] in
/-- in -/
theorem inV_flat {δ : Type} [Rep δ] [DecidableEq δ] [Flat δ] {x : δ} : ∀ {l : List δ}, inV (Flat.toV x) (l.map Flat.toV) = decide (x ∈ l)
  | [] => by simp [inV]
  | y :: l => by
    have ih := inV_flat (x := x) (l := l)
    unfold inV at ih ⊢
    rw [List.map_cons, List.any_cons, ih, Flat.eqv y x]
    by_cases h : y = x
    · subst h
      simp
    · have h' : x ≠ y := fun e => h e.symm
      simp [h, h']
omit [Tb] in
theorem flat_all {δ : Type} [Rep δ] [DecidableEq δ] [Flat δ] {l : List δ} : (l.map Flat.toV).all flatV = true := by
  rw [List.all_map, List.all_eq_true]
  intro y _
  exact Flat.flat y
theorem ev_inL {δ : Type} [Rep δ] [DecidableEq δ] [Flat δ] {x : δ} {l : List δ} (ha : EvR K ta σ G x) (hb : EvR K tb σ G l) : EvR K (tOp (rIn K false) ta tb) σ G (memB x l) :=
  ev_op ha hb fun v w G1 H1 _ s hv ⟨b, ys, ew, hB, r⟩ Q q => by
    have e1 := Flat.eq.mp hv
    have e2 := reps_flat r
    subst e1
    subst e2
    refine ⟨b, _, ew, .inl (SqL.of (s _ _ hB)), Flat.flat x, flat_all, ?_⟩
    rw [if_neg Bool.false_ne_true, inV_flat]
    exact q _ G1 H1 (Grow.refl s) rfl
theorem ev_inT {δ : Type} [Rep δ] [DecidableEq δ] [Flat δ] {x : δ} {l : Tpl δ} (ha : EvR K ta σ G x) (hb : EvR K tb σ G l) : EvR K (tOp (rIn K false) ta tb) σ G (memB x l.l) :=
  ev_op ha hb fun v w G1 H1 _ s hv ⟨b, ys, ew, hB, r⟩ Q q => by
    have e1 := Flat.eq.mp hv
    have e2 := reps_flat r
    subst e1
    subst e2
    refine ⟨b, _, ew, .inr (sqT_mono s.get hB), Flat.flat x, flat_all, ?_⟩
    rw [if_neg Bool.false_ne_true, inV_flat]
    exact q _ G1 H1 (Grow.refl s) rfl
/-- len -/
theorem ev_len1 {r : List V → Hp → VK → Prop} {n : Nat} (ha : EvR K ta σ G x) (hr : ∀ v G1 H1, Sub G1 H1 → rep K x v G1 → ∀ Q : VK, Q (.int n) H1 → r [v] H1 Q) : EvR K (tCB r (tCons ta tNil)) σ G (n : Int) := fun H e Q q =>
  ha H e _ fun v G1 H1 g1 r1 => hr v G1 H1 g1.s r1 Q (q _ G1 H1 g1 rfl)
abbrev rLen (K : PySem.W.Frag) : List V → Hp → VK → Prop := fun xs H Q => ∃ x n, xs = [x] ∧ LenV K x H n ∧ Q (.int n) H
theorem ev_lenL {l : List α} (ha : EvR K ta σ G l) : EvR K (tCB (rLen K) (tCons ta tNil)) σ G (l.length : Int) :=
  ev_len1 ha fun v G1 H1 s ⟨a, xs, ev, hA, r⟩ Q q => ⟨v, l.length, rfl, by rw [ev]; exact .inl ⟨xs, SqL.of (s _ _ hA), paired_len r⟩, q⟩
theorem ev_lenT {l : Tpl α} (ha : EvR K ta σ G l) : EvR K (tCB (rLen K) (tCons ta tNil)) σ G (l.l.length : Int) :=
  ev_len1 ha fun v G1 H1 s ⟨a, xs, ev, hA, r⟩ Q q => ⟨v, l.l.length, rfl, by rw [ev]; exact .inr ⟨xs, sqT_mono s.get hA, paired_len r⟩, q⟩
theorem ev_lenScr {l : Scr} (ha : EvR K ta σ G l) : EvR K (tCB (rLen K) (tCons ta tNil)) σ G (l.l.length : Int) :=
  ev_len1 ha fun v G1 H1 s ⟨a, ev, hA⟩ Q q => ⟨v, l.l.length, rfl, by rw [ev]; exact .inl ⟨_, sqL_mono s.get hA, by rw [List.length_map]⟩, q⟩
theorem ev_lenS {l : Str} (ha : EvR K ta σ G l) (hl : l.length ≤ sizeLine) : EvR K (tCB (rLen K) (tCons ta tNil)) σ G (l.length : Int) :=
  ev_len1 ha fun v G1 H1 s hv Q q => ⟨v, l.length, rfl, by rw [show v = V.str l from hv]; exact ⟨hl, rfl⟩, q⟩
/-- int(n), str(n) -/
theorem ev_int1 {n : Int} (ha : EvR K ta σ G n) : EvR K (tCB (fun xs H Q => (∃ i, xs = [.int i] ∧ Q (.int i) H) ∨ ∃ k, xs = [.bl k] ∧ Q (.int (if k then 1 else 0)) H) (tCons ta tNil)) σ G n := fun H e Q q =>
  ha H e _ fun v G1 H1 g1 r1 => .inl ⟨n, by rw [show v = V.int n from r1], q _ G1 H1 g1 rfl⟩
theorem ev_strI {n : Int} (ha : EvR K ta σ G n) (hn : n.natAbs.log2 < 1920) : EvR K (tCB (fun xs H Q => ∃ i, xs = [.int i] ∧ i.natAbs.log2 < 1920 ∧ Q (.str (toString i)) H) (tCons ta tNil)) σ G (PySem.Str.ofString (toString n)) := fun H e Q q =>
  ha H e _ fun v G1 H1 g1 r1 => ⟨n, by rw [show v = V.int n from r1], hn, q _ G1 H1 g1 rfl⟩
theorem ev_listL {l : List α} (ha : EvR K ta σ G l) : EvR K (tCB (fun xs H Q => ∃ p ys, xs = [.ref p] ∧ (SqL K H p ys ∨ SqT K H p ys) ∧ ∀ l, H l = none → Q (.ref l) (upd H l (.lst ys))) (tCons ta tNil)) σ G l := fun H e Q q =>
  ha H e _ fun v G1 H1 g1 ⟨a, xs, ev, hA, r⟩ => ⟨a, xs, by rw [ev], .inl (SqL.of (g1.s _ _ hA)), fun p hp => q _ _ _ (g1.trans (Grow.new g1.s hp)) ⟨p, xs, rfl, upd_same, r.up (same_upd (g1.s.free hp))⟩⟩
/-- methods of texts -/
theorem ev_m0 {f : Str → Str} {C : Str → Prop} {s : Str} (ha : EvR K ta σ G s) (hc : C s) : EvR K (tM0 (fun x xs H Q => ∃ a, x = .str a ∧ xs = [] ∧ C a ∧ Q (.str (f a)) H) ta) σ G (f s) := fun H e Q q =>
  ha H e _ fun v G1 H1 g1 r1 => ⟨⟨s, r1⟩, s, r1, rfl, hc, q _ G1 H1 g1 rfl⟩
theorem ev_lower {s : Str} (ha : EvR K ta σ G s) (hc : s.length ≤ 5592405) : EvR K (tM0 (fun x xs H Q => ∃ a, x = .str a ∧ xs = [] ∧ a.length ≤ 5592405 ∧ Q (.str (Txt.lower a)) H) ta) σ G (Txt.lower s) := ev_m0 (f := Txt.lower) (C := fun a => a.length ≤ 5592405) ha hc
theorem ev_upper {s : Str} (ha : EvR K ta σ G s) (hc : s.length ≤ 5592405) : EvR K (tM0 (fun x xs H Q => ∃ a, x = .str a ∧ xs = [] ∧ a.length ≤ 5592405 ∧ Q (.str (Txt.upper a)) H) ta) σ G (Txt.upper s) := ev_m0 (f := Txt.upper) (C := fun a => a.length ≤ 5592405) ha hc
theorem ev_split {s t : Str} (ha : EvR K ta σ G s) (hb : EvR K tb σ G t) (h1 : (t.length == 0) = false) (h2 : s.length + 2 ≤ sizeLine) :
    EvR K (tM1 (fun x xs H Q => ∃ a b, x = .str a ∧ xs = [.str b] ∧ (b.length == 0) = false ∧ a.length + 2 ≤ sizeLine ∧ rNewStrs (Txt.split a b) H Q) ta tb) σ G (Txt.split s t) := fun H e Q q =>
  ha H e _ fun v G1 H1 g1 r1 => ⟨⟨s, r1⟩, hb.mono g1.g H1 g1.s _ fun w G2 H2 g2 r2 => ⟨s, t, r1, by rw [show w = V.str t from r2], h1, h2, fun p hp =>
    q _ _ _ ((g1.trans g2).trans (Grow.new g2.s hp)) ⟨p, _, rfl, upd_same, reps_of_flat (Txt.split s t)⟩⟩⟩
theorem ev_join {s : Str} {l : List Str} (ha : EvR K ta σ G s) (hb : EvR K tb σ G l) (h : (l.map (·.length)).sum + l.length * s.length ≤ 16777216) :
    EvR K (tM1 (fun x xs H Q => ∃ a p, ∃ ys : List Str, x = .str a ∧ xs = [.ref p] ∧ (SqL K H p (ys.map V.str) ∨ SqT K H p (ys.map V.str)) ∧ (ys.map (·.length)).sum + ys.length * a.length ≤ 16777216 ∧ Q (.str (Txt.join a ys)) H) ta tb) σ G (Txt.join s l) := fun H e Q q =>
  ha H e _ fun v G1 H1 g1 r1 => ⟨⟨s, r1⟩, hb.mono g1.g H1 g1.s _ fun w G2 H2 g2 ⟨a, xs, ev, hA, r2⟩ => ⟨s, a, l, r1, by rw [ev], .inl (by
    have e := reps_flat r2
    subst e
    exact SqL.of (g2.s _ _ hA)), h, q _ G2 H2 (g1.trans g2) rfl⟩⟩
end

/-! ### what a def keeps -/
section
variable {α β γ δ ρ : Type} [Rep α] [Rep β] [Rep γ] [Rep δ] [Rep ρ]
def sp1 (K : PySem.W.Frag) (pre : α → Prop) (f : α → ρ) : Sp := fun vs H Q _ => ∃ x v G, vs = [v] ∧ Sub G H ∧ rep K x v G ∧ pre x ∧ ∀ u G' H', Grow G H G' H' → rep K (f x) u G' → Q u H'
def sp2 (K : PySem.W.Frag) (pre : α → β → Prop) (f : α → β → ρ) : Sp := fun vs H Q _ => ∃ x y v w G, vs = [v, w] ∧ Sub G H ∧ rep K x v G ∧ rep K y w G ∧ pre x y ∧ ∀ u G' H', Grow G H G' H' → rep K (f x y) u G' → Q u H'
def sp3 (K : PySem.W.Frag) (pre : α → β → γ → Prop) (f : α → β → γ → ρ) : Sp := fun vs H Q _ => ∃ x y z v w u G, vs = [v, w, u] ∧ Sub G H ∧ rep K x v G ∧ rep K y w G ∧ rep K z u G ∧ pre x y z ∧ ∀ r G' H', Grow G H G' H' → rep K (f x y z) r G' → Q r H'
def sp0 (K : PySem.W.Frag) (f : ρ) : Sp := fun vs H Q _ => vs = [] ∧ ∃ G, Sub G H ∧ ∀ u G' H', Grow G H G' H' → rep K f u G' → Q u H'
variable {K : PySem.W.Frag} {σ : L2.St} {G : Hp} {ta tb tc : TE} {E : XK}
theorem ev_call1 {x : α} {pre : α → Prop} {f : α → ρ} (ha : EvR K ta σ G x) (hp : pre x) : EvR K (tCall (sp1 K pre f) [] E (tCons ta tNil)) σ G (f x) := fun H e Q q =>
  ha H e _ fun v G1 H1 g1 r1 => ⟨x, v, G1, rfl, g1.s, r1, hp, fun u G2 H2 g2 r2 => q u G2 H2 (g1.trans g2) r2⟩
theorem ev_call2 {x : α} {y : β} {pre : α → β → Prop} {f : α → β → ρ} (ha : EvR K ta σ G x) (hb : EvR K tb σ G y) (hp : pre x y) : EvR K (tCall (sp2 K pre f) [] E (tCons ta (tCons tb tNil))) σ G (f x y) := fun H e Q q =>
  ha H e _ fun v G1 H1 g1 r1 => hb.mono g1.g H1 g1.s _ fun w G2 H2 g2 r2 => ⟨x, y, v, w, G2, rfl, g2.s, up g2.g r1, r2, hp, fun u G3 H3 g3 r3 => q u G3 H3 ((g1.trans g2).trans g3) r3⟩
theorem ev_call3 {x : α} {y : β} {z : γ} {pre : α → β → γ → Prop} {f : α → β → γ → ρ} (ha : EvR K ta σ G x) (hb : EvR K tb σ G y) (hc : EvR K tc σ G z) (hp : pre x y z) :
    EvR K (tCall (sp3 K pre f) [] E (tCons ta (tCons tb (tCons tc tNil)))) σ G (f x y z) := fun H e Q q =>
  ha H e _ fun v G1 H1 g1 r1 => hb.mono g1.g H1 g1.s _ fun w G2 H2 g2 r2 => hc.mono (g1.g.trans g2.g) H2 g2.s _ fun u G3 H3 g3 r3 =>
    ⟨x, y, z, v, w, u, G3, rfl, g3.s, up (g2.g.trans g3.g) r1, up g3.g r2, r3, hp, fun u G4 H4 g4 r4 => q u G4 H4 (((g1.trans g2).trans g3).trans g4) r4⟩
theorem ev_call0 {f : ρ} : EvR K (tCall (sp0 K f) [] E tNil) σ G f := fun H e Q q => ⟨rfl, G, e, fun u G' H' g r => q u G' H' g r⟩
end

/-! ### statements -/
section
variable {α β : Type} [Rep α] [Rep β] {K : PySem.W.Frag} {σ : L2.St} {G H : Hp} {te ta tl : TE} {tt : TT} {t u tb : TS} {D : Ends} {x : α} {b : Bool} {i j : Nat} {a : Addr}
theorem s_seq (h : t { D with nx := u D } σ H) : tSeq t u D σ H := h
theorem s_next (h : D.nx σ H) : tNext D σ H := h
theorem s_asg (e : Sub G H) (h : EvR K te σ G x) (k : ∀ v G' H', Grow G H G' H' → rep K x v G' → D.nx (σ.set i (some v)) H') : tAsg te (gName i) D σ H := h H e _ k
theorem s_drop (e : Sub G H) (h : EvR K te σ G x) (k : ∀ G' H', Grow G H G' H' → D.nx σ H') : tDrop te D σ H := h H e _ fun _ G' H' g _ => k G' H' g
theorem s_ret (e : Sub G H) (h : EvR K te σ G x) (k : ∀ v G' H', Grow G H G' H' → rep K x v G' → D.rt v H') : tRet te D σ H := h H e _ k
theorem s_if (e : Sub G H) (h : EvB tt σ G b) (k1 : b = true → ∀ G' H', Grow G H G' H' → t D σ H') (k2 : b = false → ∀ G' H', Grow G H G' H' → u D σ H') : tIfS tt t u D σ H := h H e _ fun G' H' g => by
  cases b with
  | true => exact iteT (k1 rfl G' H' g)
  | false => exact iteF (k2 rfl G' H' g)
/-- a new list that is still to be filled -/
theorem s_new (k : ∀ p, H p = none → D.nx (σ.set i (some (.ref p))) (upd H p (.lst []))) : tAsg (tLst tNil) (gName i) D σ H := ⟨Nat.zero_le _, fun p hp => k p hp⟩
theorem s_app {xs : List V} (e : Sub G H) (hi : σ[i]? = some (some (.ref a))) (ha : H a = some (.lst xs)) (hz : xs.length < sizeLine) (h : EvR K te σ G x)
    (k : ∀ v G' H', Grow G H G' H' → rep K x v G' → D.nx σ (upd H' a (.lst (xs ++ [v])))) : tDrop (tBM K "list" rAppend (tVar i) (tCons te tNil)) D σ H :=
  ⟨.ref a, hi, .inl ⟨rfl, xs, SqL.of ha⟩, h H e _ fun v G' H' g r => ⟨a, xs, v, rfl, rfl, g.h.l ha, hz, k v G' H' g r⟩⟩
/-- the same, told of the def's entry -/
theorem s_newF {Ge He : Hp} (gr : Grow Ge He G H) (k : ∀ p H2, He p = none → G p = none → H p = none → H2 p = some (.lst []) → Grow Ge He G H2 → Kept H H2 → D.nx (σ.set i (some (.ref p))) H2) : tAsg (tLst tNil) (gName i) D σ H :=
  s_new fun p hp => k p _ (gr.h.free hp) (gr.s.free hp) hp upd_same (gr.loose hp) (kept_upd hp)
theorem s_appF {Ge He : Hp} {xs : List V} {l : List α} (gr : Grow Ge He G H) (hF : He a = none) (hN : G a = none) (hi : σ[i]? = some (some (.ref a))) (ha : H a = some (.lst xs)) (hl : Reps K l xs G) (hz : l.length < sizeLine) (h : EvR K te σ G x)
    (k : ∀ G' H' H2 zs, Grow G H G' H' → Grow Ge He G' H2 → G' a = none → H2 a = some (.lst zs) → Reps K (l ++ [x]) zs G' → (∀ b, b ≠ a → H2 b = H' b) → D.nx σ H2) : tDrop (tBM K "list" rAppend (tVar i) (tCons te tNil)) D σ H :=
  s_app gr.s hi ha (by rw [← paired_len hl]; exact hz) h fun v G' H' g r => k G' H' _ _ g ((gr.trans g).mut hF (g.f _ _ ha hN) (lst_no (g.h.l ha))) (g.f _ _ ha hN) upd_same (paired_append (hl.up g.g) (.cons r .nil)) fun b hb => upd_ne hb
omit [Tb] in
theorem fix_rep {zs : List V} {l : List α} (r : Reps K l zs G) (n : G a = none) : rep K l (V.ref a) (upd G a (.lst zs)) := ⟨a, zs, rfl, upd_same, Reps.up (same_upd n) r⟩
/-- loops -/
theorem s_forL {l : List α} {g : TG} (e : Sub G H) (h : EvR K tl σ G l) (k : ∀ G1 H1 xs, Grow G H G1 H1 → Reps K l xs G1 → ∃ Pv : Nat → L2.St → Hp → Prop, Pv 0 σ H1 ∧ (∀ i σ' H', Pv i σ' H' → Sub G1 H') ∧
    (∀ i x v σ' H', l[i]? = some x → rep K x v G1 → Pv i σ' H' → g v σ' H' fun σ2 H2 => tb { D with nx := Pv (i + 1), ct := Pv (i + 1), bk := D.nx } σ2 H2) ∧ ∀ σ' H', Pv l.length σ' H' → D.nx σ' H') : tFor (iList K tl) g tb D σ H :=
  h H e _ fun v G1 H1 g1 ⟨a, xs, ev, hA, r⟩ => by
    obtain ⟨Pv, p0, ps, pt, pe⟩ := k G1 H1 xs g1 r
    refine ⟨a, ev, ⟨xs, SqL.of (g1.s _ _ hA)⟩, for_list (K := K) (a := a) (xs := xs) Pv p0 (fun i σ' H' _ p => SqL.of (ps i σ' H' p _ _ hA)) (fun i v σ' H' hi p => ?_) fun σ' H' p => pe σ' H' (by rw [paired_len r]; exact p)⟩
    obtain ⟨x, hx, rx⟩ := paired_get r hi
    exact pt i x v σ' H' hx rx p
theorem s_forT {l : Tpl α} {g : TG} (e : Sub G H) (h : EvR K tl σ G l) (k : ∀ G1 H1 xs, Grow G H G1 H1 → Reps K l.l xs G1 → ∃ Pv : Nat → L2.St → Hp → Prop, Pv 0 σ H1 ∧ (∀ i σ' H', Pv i σ' H' → Sub G1 H') ∧
    (∀ i x v σ' H', l.l[i]? = some x → rep K x v G1 → Pv i σ' H' → g v σ' H' fun σ2 H2 => tb { D with nx := Pv (i + 1), ct := Pv (i + 1), bk := D.nx } σ2 H2) ∧ ∀ σ' H', Pv l.l.length σ' H' → D.nx σ' H') : tFor (iTup K tl) g tb D σ H :=
  h H e _ fun v G1 H1 g1 ⟨a, xs, ev, hA, r⟩ => by
    obtain ⟨Pv, p0, ps, pt, pe⟩ := k G1 H1 xs g1 r
    refine ⟨a, ev, ⟨xs, sqT_mono g1.s.get hA⟩, for_tup (K := K) (a := a) (xs := xs) Pv p0 (fun i σ' H' _ p => sqT_mono (ps i σ' H' p).get hA) (fun i v σ' H' hi p => ?_) fun σ' H' p => pe σ' H' (by rw [paired_len r]; exact p)⟩
    obtain ⟨x, hx, rx⟩ := paired_get r hi
    exact pt i x v σ' H' hx rx p
theorem s_forR1 {n : Int} (e : Sub G H) (h : EvR K te σ G n) (hn : -(2 ^ 62) ≤ n ∧ n < 2 ^ 62) (k : ∀ G1 H1, Grow G H G1 H1 → ∃ Pv : Nat → L2.St → Hp → Prop, Pv 0 σ H1 ∧
    (∀ (i : Nat) σ' H', (i : Int) < n → Pv i σ' H' → tb { D with nx := Pv (i + 1), ct := Pv (i + 1), bk := D.nx } (σ'.set j (some (.int (i : Int)))) H') ∧ ∀ σ' H', Pv n.toNat σ' H' → D.nx σ' H') : tFor (iRng1 (tCons te tNil)) (gName j) tb D σ H :=
  h H e _ fun v G1 H1 g1 r => by
    obtain ⟨Pv, p0, pt, pe⟩ := k G1 H1 g1
    refine ⟨n, by rw [show v = V.int n from r], hn.1, hn.2, for_range (lo := 0) (n := n.toNat) Pv p0 (fun i σ' H' hi p => ?_) pe⟩
    show tb _ (σ'.set j (some (.int (0 + (i : Int))))) H'
    rw [Int.zero_add]
    exact pt i σ' H' (by omega) p
theorem s_forR2 {m n : Int} (e : Sub G H) (h : EvR K ta σ G m) (h2 : EvR K te σ G n) (hn : -(2 ^ 62) ≤ m ∧ m < 2 ^ 62 ∧ -(2 ^ 62) ≤ n ∧ n < 2 ^ 62) (k : ∀ G1 H1, Grow G H G1 H1 → ∃ Pv : Nat → L2.St → Hp → Prop, Pv 0 σ H1 ∧
    (∀ (i : Nat) σ' H', m + (i : Int) < n → Pv i σ' H' → tb { D with nx := Pv (i + 1), ct := Pv (i + 1), bk := D.nx } (σ'.set j (some (.int (m + (i : Int))))) H') ∧ ∀ σ' H', Pv (n - m).toNat σ' H' → D.nx σ' H') : tFor (iRng2 (tCons ta (tCons te tNil))) (gName j) tb D σ H :=
  h H e _ fun v G1 H1 g1 r => (h2.mono g1.g) H1 g1.s _ fun v2 G2 H2 g2 r2 => by
    obtain ⟨Pv, p0, pt, pe⟩ := k G2 H2 (g1.trans g2)
    refine ⟨m, n, by rw [show v = V.int m from r, show v2 = V.int n from r2], hn, for_range (lo := m) (n := (n - m).toNat) Pv p0 (fun i σ' H' hi p => pt i σ' H' (by omega) p) pe⟩
end

/-! ### comprehensions -/
section
variable {α β : Type} [Rep α] [Rep β] {K : PySem.W.Frag} {σ : L2.St} {G H : Hp} {te tl ta : TE} {tt : TT} {j : Nat} {vs : List Nat}
/-- the list at Dl while it is filled -/
def Lc (K : PySem.W.Frag) (G1 H1 : Hp) (Dl : Addr) (ys : List β) (H' : Hp) : Prop := ∃ G' zs, Grow G1 H1 G' H' ∧ G' Dl = none ∧ H' Dl = some (.lst zs) ∧ Reps K ys zs G'
theorem lc_start {G1 H1 : Hp} {Dl : Addr} (s : Sub G1 H1) (h : H1 Dl = none) : Lc (β := β) K G1 H1 Dl [] (upd H1 Dl (.lst [])) := ⟨G1, [], (Grow.refl s).loose h, s.free h, upd_same, .nil⟩
theorem lc_end {G1 H1 H' : Hp} {Dl : Addr} {ys : List β} (h : H1 Dl = none) (p : Lc K G1 H1 Dl ys H') : ∃ G', Grow G1 H1 G' H' ∧ rep K ys (V.ref Dl) G' := by
  obtain ⟨G', zs, g, n, e, r⟩ := p
  exact ⟨upd G' Dl (.lst zs), g.fix h n e, Dl, zs, rfl, upd_same, r.up (same_upd n)⟩
theorem lc_turn {G1 H1 H' : Hp} {Dl : Addr} {ys : List β} {σ2 : L2.St} {b : Bool} {y : β} (h : H1 Dl = none) (p : Lc K G1 H1 Dl ys H') (hl : ys.length < sizeLine) (ht : EvB tt σ2 G1 b) (he : b = true → EvR K te σ2 G1 y) {N : Hp → Prop}
    (hN : ∀ H2, Lc K G1 H1 Dl (cond b (ys ++ [y]) ys) H2 → N H2) :
    tt σ2 H' fun b H3 => if b = true then te σ2 H3 fun y H4 => ∃ acc, H4 Dl = some (.lst acc) ∧ acc.length < sizeLine ∧ N (upd H4 Dl (.lst (acc ++ [y]))) else N H3 := by
  obtain ⟨G', zs, g, n, e, r⟩ := p
  refine ht.mono g.g H' g.s _ fun G3 H3 g3 => ?_
  have g13 := g.trans g3
  have n3 : G3 Dl = none := g3.f _ _ e n
  cases b with
  | true =>
    refine iteT ?_
    refine (he rfl).mono g13.g H3 g13.s _ fun v G4 H4 g4 r4 => ?_
    have e4 := g4.h.l (g3.h.l e)
    have n4 : G4 Dl = none := g4.f _ _ (g3.h.l e) n3
    exact ⟨zs, e4, by rw [← paired_len r]; exact hl, hN _ ⟨G4, zs ++ [v], (g13.trans g4).mut h n4 (lst_no e4), n4, upd_same, paired_append (r.up (g3.g.trans g4.g)) (.cons r4 .nil)⟩⟩
  | false =>
    refine iteF (hN _ ⟨G3, zs, g13, n3, g3.h.l e, r.up g3.g⟩)
omit [Tb] in
theorem take_snoc {α : Type} {l : List α} {i : Nat} {x : α} (h : l[i]? = some x) : l.take (i + 1) = l.take i ++ [x] := by
  rw [List.take_add_one, h]
  rfl
omit [Tb] in
theorem filt_snoc {α β : Type} (f : α → Bool) (g : α → β) (l : List α) (x : α) : ((l ++ [x]).filter f).map g = cond (f x) ((l.filter f).map g ++ [g x]) ((l.filter f).map g) := by
  rw [List.filter_append, List.map_append]
  cases h : f x with
  | true => simp [h]
  | false => simp [h]
theorem ev_lcL {l : List α} {g : TG} (f : α → Bool) (h : α → β) (hl : EvR K tl σ G l) (hz : l.length < sizeLine)
    (ht : ∀ x v G' H', Same G G' → Sub G' H' → x ∈ l → rep K x v G' → ∀ (P : L2.St → Hp → Prop), (∀ σ2, wipe σ2 vs = wipe σ vs → EvB tt σ2 G' (f x) → (f x = true → EvR K te σ2 G' (h x)) → P σ2 H') → g v (wipe σ vs) H' P) :
    EvR K (tLc (iList K tl) g tt te vs) σ G ((l.filter f).map h) := fun H e Q q =>
  hl H e _ fun v G1 H1 g1 ⟨a, xs, ev, hA, r⟩ => ⟨a, ev, ⟨xs, SqL.of (g1.s _ _ hA)⟩, fun Dl hD =>
    lc_list (K := K) (a := a) (xs := xs) (fun i H' => Lc K G1 H1 Dl (((l.take i).filter f).map h) H') (lc_start g1.s hD) (fun i H' _ ⟨G', zs, g, _, _, _⟩ => SqL.of (g.s _ _ (g.g _ _ hA))) (fun i v H' hi p => by
      obtain ⟨x, hx, rx⟩ := paired_get r hi
      obtain ⟨G', zs, g', n', e', r'⟩ := id p
      refine ht x v G1 H' g1.g (un g'.g g'.s) (List.mem_of_getElem? hx) rx _ fun σ2 hw hb he => ⟨hw, ?_⟩
      refine lc_turn hD p ?_ hb he fun H2 p2 => ?_
      · rw [List.length_map]
        exact Nat.lt_of_le_of_lt (Nat.le_trans (List.length_filter_le _ _) (by rw [List.length_take]; exact Nat.min_le_right _ _)) hz
      · rw [take_snoc hx, filt_snoc]
        exact p2) fun H' p => by
      obtain ⟨G', g', r'⟩ := lc_end hD p
      refine q _ G' H' (g1.trans g') ?_
      rw [show l = l.take xs.length by rw [← paired_len r, List.take_length]]
      exact r'⟩
theorem ev_lcT {l : Tpl α} {g : TG} (f : α → Bool) (h : α → β) (hl : EvR K tl σ G l) (hz : l.l.length < sizeLine)
    (ht : ∀ x v G' H', Same G G' → Sub G' H' → x ∈ l.l → rep K x v G' → ∀ (P : L2.St → Hp → Prop), (∀ σ2, wipe σ2 vs = wipe σ vs → EvB tt σ2 G' (f x) → (f x = true → EvR K te σ2 G' (h x)) → P σ2 H') → g v (wipe σ vs) H' P) :
    EvR K (tLc (iTup K tl) g tt te vs) σ G ((l.l.filter f).map h) := fun H e Q q =>
  hl H e _ fun v G1 H1 g1 ⟨a, xs, ev, hA, r⟩ => ⟨a, ev, ⟨xs, sqT_mono g1.s.get hA⟩, fun Dl hD =>
    lc_tup (K := K) (a := a) (xs := xs) (fun i H' => Lc K G1 H1 Dl (((l.l.take i).filter f).map h) H') (lc_start g1.s hD) (fun i H' _ ⟨G', zs, g, _, _, _⟩ => sqT_mono (un g.g g.s).get hA) (fun i v H' hi p => by
      obtain ⟨x, hx, rx⟩ := paired_get r hi
      obtain ⟨G', zs, g', n', e', r'⟩ := id p
      refine ht x v G1 H' g1.g (un g'.g g'.s) (List.mem_of_getElem? hx) rx _ fun σ2 hw hb he => ⟨hw, ?_⟩
      refine lc_turn hD p ?_ hb he fun H2 p2 => ?_
      · rw [List.length_map]
        exact Nat.lt_of_le_of_lt (Nat.le_trans (List.length_filter_le _ _) (by rw [List.length_take]; exact Nat.min_le_right _ _)) hz
      · rw [take_snoc hx, filt_snoc]
        exact p2) fun H' p => by
      obtain ⟨G', g', r'⟩ := lc_end hD p
      refine q _ G' H' (g1.trans g') ?_
      rw [show l.l = l.l.take xs.length by rw [← paired_len r, List.take_length]]
      exact r'⟩
/-- the ints of range(n), of range(m, n) -/
def rgs (m n : Int) : List Int := (List.range (n - m).toNat).map fun (i : Nat) => m + (i : Int)
omit [Tb] in
theorem rgs_snoc (m : Int) (i : Nat) : ((List.range (i + 1)).map fun (i : Nat) => m + (i : Int)) = ((List.range i).map fun (i : Nat) => m + (i : Int)) ++ [m + (i : Int)] := by
  rw [List.range_succ, List.map_append]
  rfl
omit [Tb] in
theorem mem_rgs {m n x : Int} : x ∈ rgs m n ↔ m ≤ x ∧ x < n := by
  unfold rgs
  rw [List.mem_map]
  constructor
  · rintro ⟨i, hi, rfl⟩
    have := List.mem_range.mp hi
    omega
  · intro h
    exact ⟨(x - m).toNat, List.mem_range.mpr (by omega), by omega⟩
theorem lc_rgs {G1 H1 : Hp} {σ : L2.St} {g : TG} {Dl : Addr} {m n : Int} (f : Int → Bool) (h : Int → β) (hs : Sub G1 H1) (hD : H1 Dl = none) (hz : (n - m).toNat < sizeLine) {Qd : Hp → Prop}
    (ht : ∀ x H', m ≤ x → x < n → Sub G1 H' → ∀ (P : L2.St → Hp → Prop), (∀ σ2, wipe σ2 vs = wipe σ vs → EvB tt σ2 G1 (f x) → (f x = true → EvR K te σ2 G1 (h x)) → P σ2 H') → g (.int x) (wipe σ vs) H' P)
    (hd : ∀ G' H', Grow G1 H1 G' H' → rep K (((rgs m n).filter f).map h) (V.ref Dl) G' → Qd H') :
    ∃ W : Nat → Nat → Hp → Prop, (∃ m, W 0 m (upd H1 Dl (.lst []))) ∧ ∀ i k H, W i k H →
      ((Itr m (n - m).toNat).stop i H ∧ Qd H) ∨ ((Itr m (n - m).toNat).go i H ∧ ∃ Nx : Hp → Prop, (∀ H', Nx H' → ∃ m', m' < k ∧ W (i + 1) m' H') ∧ ∀ x H', (Itr m (n - m).toNat).yld i H x H' → g x (wipe σ vs) H' fun σ2 H2 => wipe σ2 vs = wipe σ vs ∧ tt σ2 H2 fun b H3 =>
        if b = true then te σ2 H3 fun y H4 => ∃ acc, H4 Dl = some (.lst acc) ∧ acc.length < sizeLine ∧ Nx (upd H4 Dl (.lst (acc ++ [y]))) else Nx H3) :=
  lc_range (lo := m) (n := (n - m).toNat) (fun i H' => Lc K G1 H1 Dl ((((List.range i).map fun (i : Nat) => m + (i : Int)).filter f).map h) H') (lc_start hs hD) (fun i H' hi p => by
      obtain ⟨G', zs, g', n', e', r'⟩ := id p
      refine ht (m + (i : Int)) H' (by omega) (by omega) (un g'.g g'.s) _ fun σ2 hw hb he => ⟨hw, ?_⟩
      refine lc_turn hD p ?_ hb he fun H2 p2 => ?_
      · rw [List.length_map]
        exact Nat.lt_of_le_of_lt (Nat.le_trans (List.length_filter_le _ _) (by rw [List.length_map, List.length_range]; omega)) hz
      · rw [rgs_snoc, filt_snoc]
        exact p2) fun H' p => by
      obtain ⟨G', g', r'⟩ := lc_end hD p
      exact hd G' H' g' r'
theorem ev_lcR1 {n : Int} {g : TG} (f : Int → Bool) (h : Int → β) (hl : EvR K te σ G n) (hn : n < 16777216 ∧ -16777216 < n) {tf : TE}
    (ht : ∀ x G' H', 0 ≤ x → x < n → Same G G' → Sub G' H' → ∀ (P : L2.St → Hp → Prop), (∀ σ2, wipe σ2 vs = wipe σ vs → EvB tt σ2 G' (f x) → (f x = true → EvR K tf σ2 G' (h x)) → P σ2 H') → g (.int x) (wipe σ vs) H' P) :
    EvR K (tLc (iRng1 (tCons te tNil)) g tt tf vs) σ G (((rgs 0 n).filter f).map h) := fun H e Q q =>
  hl H e _ fun v G1 H1 g1 r => ⟨n, by rw [show v = V.int n from r], by omega, by omega, fun Dl hD => by
    have hh := lc_rgs (K := K) (tt := tt) (te := tf) (vs := vs) (σ := σ) (g := g) (m := 0) (n := n) f h g1.s hD (by rw [sizeLine_eq]; omega) (Qd := fun H' => Q (.ref Dl) H') (fun x H' h1 h2 s P k => ht x G1 H' h1 h2 g1.g s P k) (fun G' H' g' r' => q _ G' H' (g1.trans g') r')
    rw [Int.sub_zero] at hh
    exact hh⟩
theorem ev_lcR2 {m n : Int} {g : TG} (f : Int → Bool) (h : Int → β) (hl : EvR K ta σ G m) (hh : EvR K te σ G n) (hn : -16777216 < m ∧ m < 16777216 ∧ n < 16777216 ∧ -16777216 < n ∧ n - m < 16777216) {tf : TE}
    (ht : ∀ x G' H', m ≤ x → x < n → Same G G' → Sub G' H' → ∀ (P : L2.St → Hp → Prop), (∀ σ2, wipe σ2 vs = wipe σ vs → EvB tt σ2 G' (f x) → (f x = true → EvR K tf σ2 G' (h x)) → P σ2 H') → g (.int x) (wipe σ vs) H' P) :
    EvR K (tLc (iRng2 (tCons ta (tCons te tNil))) g tt tf vs) σ G (((rgs m n).filter f).map h) := fun H e Q q =>
  hl H e _ fun v G1 H1 g1 r => hh.mono g1.g H1 g1.s _ fun v2 G2 H2 g2 r2 => ⟨m, n, by rw [show v = V.int m from r, show v2 = V.int n from r2], by omega, fun Dl hD =>
    lc_rgs (K := K) (tt := tt) (te := tf) (vs := vs) (σ := σ) (g := g) (m := m) (n := n) f h g2.s hD (by rw [sizeLine_eq]; omega) (Qd := fun H' => Q (.ref Dl) H') (fun x H' h1 h2 s P k => ht x G2 H' h1 h2 (g1.g.trans g2.g) s P k) (fun G' H' g' r' => q _ G' H' ((g1.trans g2).trans g') r')⟩
theorem eb_yes : EvB tYes σ G true := fun H e Q q => q G H (Grow.refl e)
end
end RL

set_option Elab.async false
set_option linter.all false
set_option maxRecDepth 100000
set_option maxHeartbeats 4000000
namespace RL
open PySem PySem.Spec PyProof.Rows L2
open Rep (rep)
/-! ### set(l), l a list of texts, of any length below the scan's bound; its size -/
/-- each text once -/
def once : List Str → List Str
  | [] => []
  | x :: l => if x ∈ l then once l else x :: once l
theorem once_mem {y : Str} : ∀ {l : List Str}, y ∈ once l ↔ y ∈ l
  | [] => Iff.rfl
  | x :: l => by
    unfold once
    by_cases h : x ∈ l
    · rw [if_pos h, once_mem (l := l), List.mem_cons]
      exact ⟨.inr, fun e => e.elim (fun q => q ▸ h) id⟩
    · rw [if_neg h, List.mem_cons, List.mem_cons, once_mem (l := l)]
theorem once_le : ∀ l : List Str, (once l).length ≤ l.length
  | [] => Nat.le_refl _
  | x :: l => by
    unfold once
    have := once_le l
    by_cases h : x ∈ l
    · rw [if_pos h, List.length_cons]; omega
    · rw [if_neg h, List.length_cons, List.length_cons]; omega
theorem once_lt : ∀ {l : List Str}, (once l).length < l.length ↔ ¬ l.Nodup
  | [] => by simp [once]
  | x :: l => by
    unfold once
    have h0 := once_le l
    rw [List.nodup_cons]
    by_cases h : x ∈ l
    · rw [if_pos h, List.length_cons]
      exact ⟨fun _ q => q.1 h, fun _ => by omega⟩
    · rw [if_neg h, List.length_cons, List.length_cons]
      have ih := once_lt (l := l)
      constructor
      · intro q r
        exact ih.mp (by omega) r.2
      · intro q
        have : ¬ l.Nodup := fun r => q ⟨h, r⟩
        have := ih.mpr this
        omega
/-- read from the left: the count behind i items -/
def onceN (l : List Str) (i : Nat) : Nat := (once (l.take i).reverse).length
theorem onceN_zero (l : List Str) : onceN l 0 = 0 := by simp [onceN, once]
theorem onceN_succ {l : List Str} {i : Nat} {x : Str} (h : l[i]? = some x) : onceN l (i + 1) = if decide (x ∈ l.take i) = true then onceN l i else onceN l i + 1 := by
  unfold onceN
  rw [take_snoc h, List.reverse_append, List.reverse_cons, List.reverse_nil, List.nil_append, List.singleton_append]
  by_cases q : x ∈ l.take i
  · rw [if_pos (decide_eq_true q)]
    show (if x ∈ (l.take i).reverse then _ else _ : List Str).length = _
    rw [if_pos (List.mem_reverse.mpr q)]
  · rw [if_neg (by simpa using q)]
    show (if x ∈ (l.take i).reverse then _ else _ : List Str).length = _
    rw [if_neg (fun z => q (List.mem_reverse.mp z))]
    rfl
theorem onceN_le (l : List Str) (i : Nat) : onceN l i ≤ i := by
  have h := once_le (l.take i).reverse
  rw [List.length_reverse, List.length_take] at h
  unfold onceN
  omega
theorem onceN_all {l : List Str} : onceN l l.length < l.length ↔ ¬ l.Nodup := by
  unfold onceN
  rw [List.take_length]
  have h := once_lt (l := l.reverse)
  rw [List.length_reverse] at h
  have e : l.reverse.Nodup ↔ l.Nodup := by
    unfold List.Nodup
    rw [List.pairwise_reverse]
    exact ⟨fun q => q.imp fun z => Ne.symm z, fun q => q.imp fun z => Ne.symm z⟩
  rw [e] at h
  exact h
section
variable {prog : Program} {w : World} {A : Around} {R : Result → Shared → Prop} {it : Addr} {seen made : List Addr} {G : Array GenState → Array GenState → Prop} {n : Nat} {P : Nat → Value → Prop} {St : Nat → Shared → Prop}
theorem set_at {h h' : Heap} {a : Addr} {S : Str → Bool} {c : Nat} (q : h.SetOf (PySem.strKind prog w) a S c) (k : ∀ o, h.get? a = some o → h'.get? a = some o) : h'.SetOf (PySem.strKind prog w) a S c := by
  obtain ⟨o, es, ep, t, ho, r⟩ := q
  exact ⟨o, es, ep, t, k o ho, r⟩
/-- the loop that puts the texts in, from the i-th on -/
theorem set_fill (W : WalksS prog w A.in1 it seen made G n P St) (b : Addr) (hb : b ∉ seen) (l : List Str) (hn : l.length = n) (room : n + 1 < scanBound) (val : ∀ i v, P i v → ∃ x t, l[i]? = some x ∧ v = .str x t) (m : Nat) : ∀ (i : Nat) (s : Shared), n - i = m → i ≤ n → St i s →
      s.heap.SetOf (PySem.strKind prog w) b (fun y => decide (y ∈ l.take i)) (onceN l i) →
      (∀ s', Moved (b :: made) G s s' → s'.heap.SetOf (PySem.strKind prog w) b (fun y => decide (y ∈ l.take n)) (onceN l n) → R (.ok (.ret .none)) s') →
      codeAny (model prog w) A (.builtin "set.update.loop" ⟨[.ref b, .ref it], []⟩) R s := by
  have b_made : b ∉ made := fun z => hb (W.sub _ z)
  have more : ∀ c ∈ made, c ∈ b :: made := fun _ z => .tail _ z
  induction m with
  | zero =>
    intro i s em hi st hset fin
    obtain rfl : i = n := by omega
    refine codeAny_builtin F.entry_set_update_loop ?_; rw [Around.under_plainId F.plain_set_update_loop _]
    show wpAny _ A.in1 (pyNext (.ref it) >>= _) _ _ s; refine wpAny_bind (W.done s _ _ st fun s1 mv => ?_)
    show wpAny _ A.in1 (ret Value.none) _ _ s1; exact wpAny_pure (fin s1 (mv.mono more) (set_at hset fun o e => mv.heap b o b_made e))
  | succ m ih =>
    intro i s em hi st hset fin
    have lt : i < n := by omega
    refine codeAny_builtin F.entry_set_update_loop ?_; rw [Around.under_plainId F.plain_set_update_loop _]
    show wpAny _ A.in1 (pyNext (.ref it) >>= _) _ _ s; refine wpAny_bind (W.item i s _ _ lt st fun v s1 pv st1 mv => ?_)
    obtain ⟨x, t, hx, rfl⟩ := val i v pv
    have hset1 := set_at hset fun o e => mv.heap b o b_made e
    show wpAny _ A.in1 (holding [Value.str x t] (setAdd b (.str x t)) >>= _) _ _ s1
    refine wpAny_bind (wpAny_holding ?_); unfold setAdd; refine wpAny_holding (wpAny_bind ((PySem.strKind prog w).pyHash (k := x) (strKind_is _ _ _ _) ?_))
    have le := onceN_le l i
    refine wpAny_setAddHashed_of (knd := PySem.strKind prog w) (s := { s1 with toks := s1.toks + 1 }) (strKind_is _ _ _ _) rfl hset1 (by omega) fun h2 only hset2 => ?_
    have hset3 : h2.SetOf (PySem.strKind prog w) b (fun y => decide (y ∈ l.take (i + 1))) (onceN l (i + 1)) := by
      rw [onceN_succ hx]
      refine PyProof.Rows.SetOf_congr hset2 (fun y => ?_) rfl
      rw [take_snoc hx]
      by_cases e : y = x
      · simp [e]
      · simp [e]
    refine wpAny_pure ⟨plainId_quiet F.plain_set_update_loop _, ih (i + 1) _ (by omega) lt (W.frame _ s1 _ _ st1 (Nat.le_succ _) fun c hc o e => (only.2 c (fun z : c = b => hb (z ▸ hc))).trans e) hset3 fun s3 mv3 hset4 => ?_⟩
    exact fin s3 (Moved.trans W.gtrans ((mv.mono more).then_heap (Nat.le_succ _) fun c o hc e => (only.2 c (fun z : c = b => hc (z ▸ List.mem_cons_self))).trans e) mv3) hset4
end
section
variable {prog : Program} {w : World} {A : Around} {E : Value → Shared → Prop} {s : Shared}
set_option maxHeartbeats 3200000 in
theorem call_set_texts {l : Addr} {items : Array Value} {xs : List Str} {Q : Value → Shared → Prop} (calm : A.handled = none) (hl : s.heap.IsList l items) (hi : StrsAre items.toList xs) (room : xs.length + 1 < scanBound)
    (fin : ∀ (h' : Heap) (tk : Nat), h'.SetOf (PySem.strKind prog w) s.heap.objs.size (fun y => decide (y ∈ xs)) (onceN xs xs.length) → (∀ b o, b < s.heap.objs.size → s.heap.get? b = some o → h'.get? b = some o) →
      Q (.ref s.heap.objs.size) { s with heap := h', toks := tk }) : wpAny (model prog w) A (call (.type "set") [.ref l]) Q E s := by
  have size : xs.length = items.size := by rw [← PyProof.Rows.StrsAre.len_eq hi, Array.length_toList]
  obtain ⟨c, tl, hmro⟩ := PySem.F.called_set.mro; have hmade := PySem.F.called_set.made; have hsub := PySem.F.called_set.sub
  refine wpAny_call (codeAny_of_tree ?_); show wpAny _ _ (callAny (.type "set") _) _ _ _
  refine wpAny_pure ⟨Code.quiet_builtin _ (by decide +kernel), codeAny_builtin PySem.F.entry_type_call ?_⟩; rw [Around.under_plain (weight_type_call_type "set" [.ref l] []) rfl]
  have k1 := PySem.F.called_set.notType; have k2 := PySem.F.called_set.canCreate; have k3 := PySem.F.typeCall_set_1 (.ref l)
  repeat (any_goals (first | assumption | wp_step))
  obtain ⟨o0, e0⟩ : ∃ o0 : Bool → Obj, o0 = fun led => { cls := .type "set", dict := none, data := .set #[] 0 (.fresh 0 0 led) } := ⟨_, rfl⟩
  refine codeAny_mono (code_set_new_1 (.ref l) (E := E) (Q₁ := fun v s1 => ∃ led : Bool, v = .ref s.heap.objs.size ∧ s1 = { s with heap := s.heap.push { cls := .type "set", dict := none, data := .set #[] 0 (.fresh 0 0 led) } }) fun led => ⟨led, rfl, rfl⟩) fun r s1 hr => ?_
  cases r with
  | error e => exact hr
  | ok fl =>
    cases fl with
    | ret v =>
      obtain ⟨led, rfl, rfl⟩ := hr
      have hnew : (s.heap.push { cls := .type "set", dict := none, data := .set #[] 0 (.fresh 0 0 led) }).get? s.heap.objs.size = some { cls := .type "set", dict := none, data := .set #[] 0 (.fresh 0 0 led) } := Heap.get?_push_size _ rfl
      have hty : Shared.TypeIs { s with heap := s.heap.push { cls := .type "set", dict := none, data := .set #[] 0 (.fresh 0 0 led) } } (.ref s.heap.objs.size) "set" := ⟨_, hnew, rfl⟩
      have k4 := PySem.F.called_set.init.lookup; have k5 := PySem.F.called_set.init.bind (.ref s.heap.objs.size)
      repeat (any_goals (first | assumption | wp_step))
      refine codeAny_mono (codeAny_call_builtin (R := wants (fun r s2 => r = .none ∧ ∃ h' tk, s2 = { s with heap := h', toks := tk } ∧ h'.SetOf (PySem.strKind prog w) s.heap.objs.size (fun y => decide (y ∈ xs)) (onceN xs xs.length) ∧
          (∀ b o, b < s.heap.objs.size → s.heap.get? b = some o → h'.get? b = some o)) E) PySem.F.called_set.init.plain PySem.F.entry_set_init (check_set_init_1 hty ?_)) fun r2 s2 hr2 => ?_
      · obtain ⟨⟨oc, od, oda, osl⟩, ho, hc, nl, hd⟩ := hl
        simp only at hc hd; subst hc hd
        have ho2 : (s.heap.push { cls := .type "set", dict := none, data := .set #[] 0 (.fresh 0 0 led) }).get? l = some { cls := .type "list", dict := od, data := .seq items nl, slots := osl } := Heap.get?_push_of_some _ ho
        have k6 := PySem.F.sub_list_set; have k7 := PySem.F.sub_list_frozenset; have k8 : (Value.type "list" == Value.type "dict") = false := by decide
        have hl2 : (s.heap.push { cls := .type "set", dict := none, data := .set #[] 0 (.fresh 0 0 led) }).IsList l items := ⟨_, ho2, rfl, nl, rfl⟩
        unfold Builtin.«set.__init__» noKeywords Builtin.Frozenset.updateFrom; generalize hpi : pyIter = PI; wp_walk; subst hpi
        refine wpAny_pyIter_list hl2 (wpAny_bind (wpAny_runValue ?_))
        have hlt : l < s.heap.objs.size := Heap.lt_size ho
        have h3 : A.in1.in1.in1.handled = none := by simp [calm]
        have n1 : l ≠ (s.heap.push { cls := .type "set", dict := none, data := .set #[] 0 (.fresh 0 0 led) }).objs.size := by rw [Heap.size_push]; exact Nat.ne_of_lt (Nat.lt_succ_of_lt hlt)
        have n2 : s.heap.objs.size ∉ [(s.heap.push { cls := .type "set", dict := none, data := .set #[] 0 (.fresh 0 0 led) }).objs.size, l] := by
          rw [Heap.size_push]; simp only [List.mem_cons, List.not_mem_nil, or_false, not_or]; exact ⟨Nat.ne_of_lt (Nat.lt_succ_self _), Nat.ne_of_gt hlt⟩
        refine set_fill ((Walks.list h3 _ l n1 items).toS) s.heap.objs.size n2 xs size (by omega) (fun i v hv => ?_) (items.size - 0) 0 _ (by omega) (Nat.zero_le _) ⟨⟨_, Heap.get?_push_size _ rfl, rfl, rfl⟩, (hl2.push _)⟩ ?z0 ?zR
        · have hv2 : items[i]? = some v := hv
          have hlt2 : i < items.size := by
            rw [Array.getElem?_eq_some_iff] at hv2
            exact hv2.1
          obtain ⟨t, et⟩ := SS.strs_at hi i v (by rw [Array.getElem?_toList]; exact hv2)
          refine ⟨xs.getD i Str.empty, t, ?_, et⟩
          rw [List.getD_eq_getElem?_getD, List.getElem?_eq_getElem (by omega : i < xs.length)]
          rfl
        case z0 =>
          have hg : ((s.heap.push { cls := .type "set", dict := none, data := .set #[] 0 (.fresh 0 0 led) }).push { cls := .type "list_iterator", data := .fields #[.ref l, .int 0 0] }).get? s.heap.objs.size = some { cls := .type "set", dict := none, data := .set #[] 0 (.fresh 0 0 led) } := Heap.get?_push_of_some _ hnew
          exact PyProof.Rows.SetOf_congr ((PyProof.Rows.setObjOf_fresh (knd := PySem.strKind prog w) led).setOf hg (by unfold scanBound; omega)) (fun y => by simp) (onceN_zero xs).symm
        case zR =>
          intro s3 mv hset
          rw [← size, List.take_length] at hset
          obtain ⟨h3', g3, d3, t3, os3⟩ := s3
          obtain rfl : g3 = s.gens := mv.gens
          obtain rfl : d3 = s.drawn := mv.drawn
          obtain rfl : os3 = s.os := mv.os
          show wpAny _ _ _ _ _ _; refine wpAny_pure ?_; show wpAny _ _ (ret Value.none) _ _ _
          refine wpAny_pure ⟨rfl, h3', t3, rfl, hset, fun b o hb e => mv.heap b o ?_ (Heap.get?_push_of_some _ (Heap.get?_push_of_some _ e))⟩
          rw [Heap.size_push]; simp only [List.mem_cons, List.not_mem_nil, or_false, not_or]; exact ⟨Nat.ne_of_lt hb, Nat.ne_of_lt (Nat.lt_succ_of_lt hb)⟩
      · cases r2 with
        | error e => exact hr2
        | ok fl2 =>
          cases fl2 with
          | ret r =>
            obtain ⟨rfl, h', tk, rfl, hset, hk⟩ := hr2
            repeat (any_goals (first | assumption | wp_step))
            exact fin _ _ hset hk
          | _ => exact hr2.elim
    | _ => exact hr.elim
end
/-- len(set(xs)), xs a list of texts -/
def tLenSetS (K : PySem.W.Frag) (ta : TE) : TE := fun σ H Q => ta σ H fun x H1 => ∃ l, ∃ xs : List Str, x = .ref l ∧ SqL K H1 l (xs.map V.str) ∧ xs.length + 1 < scanBound ∧ Q (.int (onceN xs xs.length : Nat)) H1
theorem pe_lenSetS {X : Cx} {a : Expr} {ta : TE} {p p2 q pos : Pos} (hc : X.calm = true) (hg : Gl X "len") (hm : X.mg "len" = none) (hg2 : Gl X "set") (hm2 : X.mg "set" = none) (ha : PE X a ta)
    (na : starEach [a] X.env = (false, eval a X.env) :: starEach [] X.env := by rfl) : PE X (.Call (.Name "len" p) [.Call (.Name "set" p2) [a] [] q] [] pos) (tLenSetS X.K ta) := by
  refine ⟨fun pins s σ H Q I h => Call_ (ld_blt I hg hm boot_len (PyProof.Rows.callWith_builtin1 (PyProof.Rows.args_cons (Call_ (ld_blt I hg2 hm2 boot_set ?_)) rfl) rfl rfl))⟩
  refine PyProof.Rows.callWith_type1 (PyProof.Rows.args_cons (thn (ha.run pins s σ H _ I h) fun v s1 ⟨x, H1, I1, r1, l, xs, ex, hq, room, q1⟩ => PyProof.Rows.args_nil ?_) na) na rfl
  subst ex
  cases r1
  obtain ⟨its, r, pl, hz⟩ := I1.list hq
  refine call_set_texts (I1.ok.hd hc) pl.isList (by simpa using strsAre_of r) room fun h' tk hset hk => PyProof.Rows.args_nil ?_
  obtain ⟨o, es, ep, t, ho, hex, hd, _, _, _, hf, hn⟩ := hset
  have I2 : Inv X pins σ H1 { s1 with heap := h', toks := tk } := I1.kept fun b o e => hk b o (Heap.lt_size e) e
  have le := onceN_le xs xs.length
  refine call_len_set ho hex hd hf (by rw [hn]; unfold scanBound at room; omega) ⟨.int (onceN xs xs.length : Nat), H1, I2.tok _, ⟨_, by rw [hn]⟩, q1⟩
theorem ev_lenSetS [Tb] {K : PySem.W.Frag} {σ : L2.St} {G : Hp} {ta : TE} {l : List Str} (ha : EvR K ta σ G l) (hl : l.length + 1 < scanBound) : EvR K (tLenSetS K ta) σ G (onceN l l.length : Int) := fun H e Q q =>
  ha H e _ fun v G1 H1 g1 ⟨a, xs, ev, hA, r⟩ => ⟨a, l, ev, by
    have e2 := reps_flat r
    subst e2
    exact SqL.of (g1.s _ _ hA), hl, q _ G1 H1 g1 rfl⟩
end RL

set_option Elab.async false
set_option linter.all false
set_option maxRecDepth 100000
set_option maxHeartbeats 4000000
namespace RL
open PySem PySem.Spec PyProof.Rows L2
open Rep (rep)
/-! ### own errors: class B(ValueError): pass; class C(B) with an __init__ that calls B.__init__ and stores one field -/
section
variable {X : Cx} {e : Expr} {es : List Expr} {ta : TA} {p p1 p2 pos : Pos}
/-- B.__init__(self, ..), B an own class over ValueError that has none itself -/
theorem pe_baseInit {x : Str} {B : Addr} {mc : Value} {pl : Sem Bool} (hg : Gl X x) (hm : X.mg x = some (.ref B)) (rd : ClX.CRead X.K B mc) (vB : PySem.W.findCls X.K (.ref B) mc "__init__" = some (.val (.builtin "ValueError.__init__"))) (ha : PA X (e :: es) ta)
    (hc : eval (.Call (.Attribute (.Name x p1) "__init__" p2) (e :: es) [] pos) X.env = (do
      let ov ← eval (.Name x p1) X.env
      standAt p2.atName
      let (f, first) ← holding [ov] (getMethod ov "__init__" pl)
      callWith pos f first (backTo pos (starEach (e :: es) X.env)) (backToKw pos (keywordEach [] X.env))) := by rfl)
    (he : starEach (e :: es) X.env = (false, eval e X.env) :: starEach es X.env := by rfl) (hpl : (backTo pos (starEach es X.env)).any (·.1) = false := by rfl) (hdb : (x == ("__debug__" : Str)) = false := by decide) :
    PE X (.Call (.Attribute (.Name x p1) "__init__" p2) (e :: es) [] pos) (tVeI X.K ta) := by
  refine ⟨fun pins s σ H Q I h => PySem.W.methodCall_KW (ld_glob I hg hm ?_ hdb) hc⟩
  refine PySem.W.method_cls I.kIn rd.ga (PySem.W.cls_value I.kIn rd.rd vB rfl ?_)
  show wpAny _ _ (callWith pos (Value.builtin "ValueError.__init__") [] (backTo pos (starEach (e :: es) X.env)) []) _ _ _
  refine PyProof.Rows.callWith_method1 (thn (ha.run pos pins _ σ H _ (I.tok _) h) fun us s1 ⟨vs, H1, I1, r1, a, C, ws, ev, hl, T, ea, q⟩ => ?_) he hpl
  subst ev
  cases r1 with
  | @cons _ u0 _ ur ra rw' =>
    obtain rfl : u0 = Value.ref a := ra
    have room : ur.length ≤ sizeLine := by rw [← Paired.length rw', sizeLine_eq]; omega
    exact oinit_ok T I1 ea room fun s2 J => ⟨.non, H1, J, rfl, q⟩
end
/-- what the written part says of such a class: at C, named n; its base at B, named b; its __init__ at fI; its field f -/
structure ErrTxt (K : PySem.W.Frag) (mg : Str → Option Value) (n b f : Str) (C B fI : Addr) : Prop where
  gC : mg n = some (.ref C)
  gB : mg b = some (.ref B)
  ox : OexC K C
  iC : PySem.W.findIn K (.ref C) "__init__" = some (some (.ref fI))
  tI : PySem.W.typeIn K (.ref fI) = some (.type "function")
  rd : ClX.CRead K B (.type "type")
  vB : PySem.W.findCls K (.ref B) (.type "type") "__init__" = some (.val (.builtin "ValueError.__init__"))
  nF : PySem.W.findIn K (.ref C) f = some none
  xf : XfC K C
  te : PySem.W.exmOne K (.ref C) (.ref C) = some true
/-- what __init__(self, x) keeps: the field alone is stored -/
def spErr (C : Addr) (f : Str) (ok : V → Prop) : Sp := fun vs H Q _ => ∃ a v, vs = [.ref a, v] ∧ ok v ∧ H a = some (exo a C none) ∧ ∀ d, H d = none → d ≠ a → Q .non (upd (upd H d (exd d [(f, v)])) a (exo a C (some d)))
/-- an error of the class at C with the field f = v leaves -/
def ErrAt [Tb] (C : Addr) (f : Str) (v : V) (H : Hp) (E : XK) : Prop := ∀ d H', Kept H H' → (∀ P ∈ Tb.ps, GxR.TabG H' P) → H d = none → H' d = some (.xd [(f, v)]) → E (.ref C) (some d) H'
theorem err_made [Tb] {C : Addr} {f : Str} {ok : V → Prop} {v : V} {te : TE} {σ : L2.St} {G H : Hp} {E : XK} {α : Type} [Rep α] {K : PySem.W.Frag} {x : α} (e : Sub G H) (h : EvR K te σ G x) (hv : ∀ w G, rep K x w G → w = v) (hok : ok v) (k : ErrAt C f v H E) :
    tMkO C (spErr C f ok) [] (tCons te tNil) σ H (fun cls d H' => E cls d H') := h H e _ fun w G1 H1 g1 r1 => by
  obtain rfl := hv w G1 r1
  refine ⟨by show 1 ≤ 1000; decide, fun a ha => ⟨a, w, rfl, hok, upd_same, fun d hd hne => ⟨rfl, d, [(f, w)], upd_same, ?_, ?_, ?_⟩⟩⟩
  · rw [upd_ne hne, upd_same]
  · rw [upd_ne hne] at hd
    exact hd
  · rw [upd_ne hne] at hd
    refine k d _ ⟨fun b o q nt => ?_, fun b q => ?_⟩ (fun P hP => ?_) (g1.h.free hd) upd_same
    · have q1 := g1.h.k b o q nt
      have nb : b ≠ d := ne_of_none q1 hd
      have na : b ≠ a := ne_of_none q1 ha
      rw [upd_ne nb, del_ne na, upd_ne na, upd_ne nb, upd_ne na]
      exact q1
    · by_cases nb : b = d
      · rw [nb]
        exact g1.h.free hd
      · by_cases na : b = a
        · rw [na]
          exact g1.h.free ha
        · rw [upd_ne nb, del_ne na, upd_ne na, upd_ne nb, upd_ne na] at q
          exact g1.h.free q
    · obtain ⟨qs, e1, e2⟩ := g1.s.t P hP
      have nb : P ≠ d := ne_of_none e1 hd
      have na : P ≠ a := ne_of_none e1 ha
      refine ⟨qs, ?_, e2⟩
      rw [upd_ne nb, del_ne na, upd_ne na, upd_ne nb, upd_ne na]
      exact e1
/-- isinstance(e, c), e the caught exception that stands at a, of the class cls, with the dict d -/
def rIsX (K : PySem.W.Frag) (a : Addr) (cls : Value) (d : Option Addr) : List V → Hp → VK → Prop := fun xs H Q => ∃ (D dd : Addr) (c : V) (cv : Value) (b : Bool) (fs : List (Str × V)), xs = [.ref a, c] ∧ cls = .ref D ∧ d = some dd ∧ ExcC K D ∧ (∀ u, RelV c u → u = cv) ∧
  PySem.W.kitOne K (.ref D) cv = some b ∧ H dd = some (.xd fs) ∧ Q (.bl b) H
theorem call_isX {X : Cx} {a : Addr} {cls : Value} {d : Option Addr} {oe : Obj} {pn : List (Addr × Obj)} (hz : Zc cls d oe) (hf : ∃ vs, oe.data = .fields vs) : CallR (X.suite a ((a, oe) :: pn)) (.builtin "isinstance") (rIsX X.K a cls d) := by
  intro pins s σ H xs us Q I r h
  obtain ⟨D, dd, c, cv, b, fs, rfl, rfl, rfl, C, hcv, e, hd, q⟩ := h
  cases r with
  | cons rx rr =>
    cases rr with
    | cons rt rr =>
      cases rr
      cases rx
      obtain rfl := hcv _ rt
      obtain ⟨hget, _⟩ := I.pin (a, oe) (List.mem_append.mpr (.inl List.mem_cons_self))
      obtain ⟨vs, hv⟩ := hf
      obtain ⟨mA, hns, _⟩ : ∃ mA, s.heap.Ns1 dd mA ∧ ∀ f, RelO (fs.lookup f) (mA f) := I.hok dd _ hd
      obtain ⟨od, ho, hl⟩ := lookIn_ns hns
      have J : PySem.W.InstAt s.heap a oe D (some od) := ⟨hget, hz.1, by unfold PySem.W.notCls; rw [hv] <;> rfl, by rw [hz.2]; exact ho⟩
      have hcl : (PySem.W.clsIn X.K D).isSome = true := by
        obtain ⟨cd, hc, _⟩ := PySem.W.any_some C.hd
        rw [hc]
        rfl
      exact PySem.W.kia_one (PySem.W.kitx_exc hcl C.hg C.hk C.hs C.ha C.hn C.ht C.hm) I.kIn J e (fun z => nomatch z) fun tk => ⟨.bl b, H, I.kept (t' := tk) fun _ _ z => z, rfl, q⟩
end RL

set_option Elab.async false
set_option linter.all false
set_option maxRecDepth 100000
set_option maxHeartbeats 4000000
namespace RL
open PySem PySem.Spec PyProof.Rows L2
open Rep (rep)
/-! ### items -/
def getI {α : Type} [Inhabited α] (l : List α) (n : Int) : α := (atI l n).getD default
def getS (z : Str) (n : Int) : Str := ⟨#[getI z.cps.toList n]⟩
theorem atI_get {α : Type} [Inhabited α] {l : List α} {n : Int} (h : (atI l n).isSome = true) : atI l n = some (getI l n) := by
  unfold getI
  cases e : atI l n with
  | none => rw [e] at h; cases h
  | some x => rfl
theorem at_in {α : Type} {l : List α} {n : Int} (h0 : 0 ≤ n) (h1 : n < l.length) : (atI l n).isSome = true := by
  have e : ixN l.length n = some n.toNat := by unfold ixN; rw [if_pos h0, if_pos h1]
  unfold atI
  rw [e]
  show (l[n.toNat]?).isSome = true
  rw [List.getElem?_eq_getElem (by omega : n.toNat < l.length)]
  rfl
theorem at_neg {α : Type} {l : List α} {n : Int} (h0 : n < 0) (h1 : -(l.length : Int) ≤ n) : (atI l n).isSome = true := by
  have e : ixN l.length n = some (n + l.length).toNat := by unfold ixN; rw [if_neg (by omega), if_pos h1]
  unfold atI
  rw [e]
  show (l[(n + l.length).toNat]?).isSome = true
  rw [List.getElem?_eq_getElem (by omega)]
  rfl
theorem getI_nat {α : Type} [Inhabited α] {l : List α} {n : Int} (h0 : 0 ≤ n) (h1 : n < l.length) : getI l n = l.getD n.toNat default := by
  have e : ixN l.length n = some n.toNat := by unfold ixN; rw [if_pos h0, if_pos h1]
  unfold getI atI
  rw [e]
  show (l[n.toNat]?).getD default = _
  rw [List.getD_eq_getElem?_getD]
theorem getI_mem {α : Type} [Inhabited α] {l : List α} {n : Int} (h : (atI l n).isSome = true) : getI l n ∈ l := by
  have e := atI_get h
  unfold atI at e
  cases q : ixN l.length n with
  | none => rw [q] at e; cases e
  | some j =>
    rw [q] at e
    exact List.mem_of_getElem? e

/-! ### loops that may be left -/
inductive Step (σ ρ : Type) where
  | go (s : σ)
  | ret (r : ρ)
  | brk (s : σ)
def runL {σ ρ α : Type} (f : σ → α → Step σ ρ) (s : σ) : List α → Step σ ρ
  | [] => .go s
  | x :: l => match f s x with
    | .go s' => runL f s' l
    | .ret r => .ret r
    | .brk s' => .brk s'
theorem runL_append {σ ρ α : Type} (f : σ → α → Step σ ρ) : ∀ (l m : List α) (s s' : σ), runL f s l = .go s' → runL f s (l ++ m) = runL f s' m
  | [], m, s, s', h => by
    have e : Step.go s = Step.go s' := h
    cases e
    rfl
  | x :: l, m, s, s', h => by
    show (match f s x with | .go s' => runL f s' (l ++ m) | .ret r => .ret r | .brk s' => .brk s') = _
    have h' : (match f s x with | .go s' => runL f s' l | .ret r => .ret r | .brk s' => .brk s') = Step.go s' := h
    cases e : f s x with
    | go a =>
      rw [e] at h'
      exact runL_append f l m a s' h'
    | ret r => rw [e] at h'; cases h'
    | brk a => rw [e] at h'; cases h'
theorem runL_go {σ ρ α : Type} {f : σ → α → Step σ ρ} {l : List α} {s st s' : σ} {i : Nat} {x : α} (h : runL f s (l.take i) = .go st) (hx : l[i]? = some x) (e : f st x = .go s') : runL f s (l.take (i + 1)) = .go s' := by
  rw [take_snoc hx, runL_append f _ _ _ _ h]
  show (match f st x with | .go s' => runL f s' [] | .ret r => .ret r | .brk s' => .brk s') = _
  rw [e]
  rfl
theorem split_at {α : Type} {l : List α} {i : Nat} {x : α} (hx : l[i]? = some x) : l = l.take i ++ x :: l.drop (i + 1) := by
  obtain ⟨h, e⟩ := List.getElem?_eq_some_iff.mp hx
  rw [← e, ← List.drop_eq_getElem_cons h, List.take_append_drop]
theorem runL_ret {σ ρ α : Type} {f : σ → α → Step σ ρ} {l : List α} {s st : σ} {i : Nat} {x : α} {r : ρ} (h : runL f s (l.take i) = .go st) (hx : l[i]? = some x) (e : f st x = .ret r) : runL f s l = .ret r := by
  rw [split_at hx, runL_append f _ _ _ _ h]
  show (match f st x with | .go s' => runL f s' _ | .ret r => .ret r | .brk s' => .brk s') = _
  rw [e]
def exitF {σ ρ : Type} (a : Step σ ρ) (k : σ → ρ) : ρ := match a with
  | .go s => k s
  | .ret r => r
  | .brk s => k s
def exitS {σ σ' ρ : Type} (a : Step σ ρ) (k : σ → Step σ' ρ) : Step σ' ρ := match a with
  | .go s => k s
  | .ret r => .ret r
  | .brk s => k s
theorem exitF_go {σ ρ : Type} {s : σ} {k : σ → ρ} : exitF (.go s) k = k s := rfl
theorem exitS_go {σ σ' ρ : Type} {s : σ} {k : σ → Step σ' ρ} : exitS (.go s) k = k s := rfl
theorem exitF_ret {σ ρ : Type} {m r : ρ} {a : Step σ ρ} {k : σ → ρ} (h : m = exitF a k) (e : a = .ret r) : m = r := by rw [h, e]; rfl
theorem exitS_ret {σ σ' ρ : Type} {m : Step σ' ρ} {r : ρ} {a : Step σ ρ} {k : σ → Step σ' ρ} (h : m = exitS a k) (e : a = .ret r) : m = .ret r := by rw [h, e]; rfl
theorem rgs_at {m n : Int} {i : Nat} (h : m + (i : Int) < n) : ∃ d, m + (i : Int) = d ∧ (rgs m n)[i]? = some d ∧ m ≤ d ∧ d < n := by
  refine ⟨m + (i : Int), rfl, ?_, by omega, h⟩
  unfold rgs
  rw [List.getElem?_map, List.getElem?_range (by omega)]
  rfl
theorem rgs_at0 {n : Int} {i : Nat} (h : (i : Int) < n) : ∃ d, (i : Int) = d ∧ (rgs 0 n)[i]? = some d ∧ 0 ≤ d ∧ d < n := by
  obtain ⟨d, e1, e2, e3, e4⟩ := rgs_at (m := 0) (n := n) (i := i) (by omega)
  exact ⟨d, by omega, e2, e3, e4⟩
theorem rgs_len (m n : Int) : (rgs m n).length = (n - m).toNat := by unfold rgs; rw [List.length_map, List.length_range]
theorem rgs_take (m n : Int) : List.take (n - m).toNat (rgs m n) = rgs m n := by rw [← rgs_len m n, List.take_length]
theorem rgs_take0 (n : Int) : List.take n.toNat (rgs 0 n) = rgs 0 n := by
  have h := rgs_take 0 n
  rw [Int.sub_zero] at h
  exact h

/-! ### chains, comprehensions without if -/
/-- a list of texts or None that has no None -/
def texts (l : List (Option Str)) : List Str := l.filterMap id
theorem texts_map {l : List (Option Str)} (h : none ∉ l) : (texts l).map some = l := by
  unfold texts
  induction l with
  | nil => rfl
  | cons o l ih =>
    cases o with
    | none => exact absurd List.mem_cons_self h
    | some x =>
      show (x :: List.filterMap id l).map some = some x :: l
      rw [List.map_cons, ih fun q => h (.tail _ q)]
section
variable [Tb] {α β γ : Type} [Rep α] [Rep β] [Rep γ] {K : PySem.W.Frag} {σ : L2.St} {G : Hp} {te ta tb tl : TE} {x : α} {y : β} {vs : List Nat}
theorem rv_le {G : Hp} {m n : Int} : ∀ v w G1 H1, Same G G1 → Sub G1 H1 → rep K m v G1 → rep K n w G1 → ∀ Q : VK, (∀ G2 H2, Grow G1 H1 G2 H2 → Q (.bl (decide (m ≤ n))) H2) → (rI0 fun i j => .bl (decide (i ≤ j))) v w H1 Q :=
  fun v w G1 H1 _ s hv hw Q q => ⟨m, n, hv, hw, q G1 H1 (Grow.refl s)⟩
theorem rv_lt {G : Hp} {m n : Int} : ∀ v w G1 H1, Same G G1 → Sub G1 H1 → rep K m v G1 → rep K n w G1 → ∀ Q : VK, (∀ G2 H2, Grow G1 H1 G2 H2 → Q (.bl (decide (m < n))) H2) → (rI0 fun i j => .bl (decide (i < j))) v w H1 Q :=
  fun v w G1 H1 _ s hv hw Q q => ⟨m, n, hv, hw, q G1 H1 (Grow.refl s)⟩
theorem rv_leS {G : Hp} {m n : Str} : ∀ v w G1 H1, Same G G1 → Sub G1 H1 → rep K m v G1 → rep K n w G1 → ∀ Q : VK, (∀ G2 H2, Grow G1 H1 G2 H2 → Q (.bl (!decide (n.cps.toList < m.cps.toList))) H2) →
    (fun x y H Q => ∃ i j, x = V.str i ∧ y = V.str j ∧ Q (V.bl (!decide (j.cps.toList < i.cps.toList))) H : R2) v w H1 Q :=
  fun v w G1 H1 _ s hv hw Q q => ⟨m, n, hv, hw, q G1 H1 (Grow.refl s)⟩
theorem filt_true {α : Type} (l : List α) : l.filter (fun _ => true) = l := by
  induction l with
  | nil => rfl
  | cons a l ih => rw [List.filter_cons_of_pos rfl, ih]
theorem ev_lcLm {l : List α} {g : TG} (h : α → β) (hl : EvR K tl σ G l) (hz : l.length < sizeLine)
    (ht : ∀ x v G' H', Same G G' → Sub G' H' → x ∈ l → rep K x v G' → ∀ (P : L2.St → Hp → Prop), (∀ σ2, wipe σ2 vs = wipe σ vs → EvB tYes σ2 G' true → (true = true → EvR K te σ2 G' (h x)) → P σ2 H') → g v (wipe σ vs) H' P) :
    EvR K (tLc (iList K tl) g tYes te vs) σ G (l.map h) := (ev_lcL (fun _ => true) h hl hz ht).to (by rw [filt_true])
theorem ev_lcTm {l : Tpl α} {g : TG} (h : α → β) (hl : EvR K tl σ G l) (hz : l.l.length < sizeLine)
    (ht : ∀ x v G' H', Same G G' → Sub G' H' → x ∈ l.l → rep K x v G' → ∀ (P : L2.St → Hp → Prop), (∀ σ2, wipe σ2 vs = wipe σ vs → EvB tYes σ2 G' true → (true = true → EvR K te σ2 G' (h x)) → P σ2 H') → g v (wipe σ vs) H' P) :
    EvR K (tLc (iTup K tl) g tYes te vs) σ G (l.l.map h) := (ev_lcT (fun _ => true) h hl hz ht).to (by rw [filt_true])
theorem ev_lcR1m {n : Int} {g : TG} (h : Int → β) (hl : EvR K te σ G n) (hn : n < 16777216 ∧ -16777216 < n) {tf : TE}
    (ht : ∀ x G' H', 0 ≤ x → x < n → Same G G' → Sub G' H' → ∀ (P : L2.St → Hp → Prop), (∀ σ2, wipe σ2 vs = wipe σ vs → EvB tYes σ2 G' true → (true = true → EvR K tf σ2 G' (h x)) → P σ2 H') → g (.int x) (wipe σ vs) H' P) :
    EvR K (tLc (iRng1 (tCons te tNil)) g tYes tf vs) σ G ((rgs 0 n).map h) := (ev_lcR1 (fun _ => true) h hl hn ht).to (by rw [filt_true])
theorem ev_lcR2m {m n : Int} {g : TG} (h : Int → β) (hl : EvR K ta σ G m) (hh : EvR K te σ G n) (hn : -16777216 < m ∧ m < 16777216 ∧ n < 16777216 ∧ -16777216 < n ∧ n - m < 16777216) {tf : TE}
    (ht : ∀ x G' H', m ≤ x → x < n → Same G G' → Sub G' H' → ∀ (P : L2.St → Hp → Prop), (∀ σ2, wipe σ2 vs = wipe σ vs → EvB tYes σ2 G' true → (true = true → EvR K tf σ2 G' (h x)) → P σ2 H') → g (.int x) (wipe σ vs) H' P) :
    EvR K (tLc (iRng2 (tCons ta (tCons te tNil))) g tYes tf vs) σ G ((rgs m n).map h) := (ev_lcR2 (fun _ => true) h hl hh hn ht).to (by rw [filt_true])
theorem ev_texts {l : List (Option Str)} (h : EvR K te σ G l) (hn : none ∉ l) : EvR K te σ G (texts l) := fun H e Q q => h H e Q fun v G1 H1 g1 ⟨a, xs, ev, hA, r⟩ => q v G1 H1 g1 ⟨a, xs, ev, hA, by
  have e1 := reps_flat r
  have e2 : xs = (texts l).map V.str := by
    rw [e1]
    conv => lhs; rw [← texts_map hn]
    rw [List.map_map]
    rfl
  rw [e2]
  exact reps_of_flat (texts l)⟩
end
/-! ### list.count of texts -/
theorem countP_eqU {x : V} : ∀ {xs : List V} {us : List Value}, Vals xs us → xs.all flatV = true → us.countP (eqU x) = xs.countP fun y => eqV y x
  | _, _, .nil, _ => rfl
  | y :: xs, u :: us, .cons r t, f => by
    rw [List.all_cons, Bool.and_eq_true] at f
    rw [List.countP_cons, List.countP_cons, eqU_of r f.1, countP_eqU t f.2]
def rCntV (K : PySem.W.Frag) : V → List V → Hp → VK → Prop := fun x args H Q => ∃ (p : Addr) (xs : List V) (y : V), x = .ref p ∧ args = [y] ∧ SqL K H p xs ∧ flatV y = true ∧ xs.all flatV = true ∧ Q (.int (xs.countP (fun z => eqV z y) : Nat)) H
theorem mt_countS {X : Cx} : MtR X "list.count" (rCntV X.K) := fun pins s σ H x args v us Q I rx rv ⟨p, xs, y, ex, ea, hs, fy, fx, q⟩ => by
  subst ex ea
  obtain rfl : v = Value.ref p := rx
  obtain ⟨u, rfl, ru⟩ := rv.one
  obtain ⟨its, ri, ⟨⟨cls, dd, data, sl⟩, n, ho, hc, hdn, hd⟩, hlen⟩ := I.list hs
  simp only at hc hd
  subst hc hd
  refine call_meets PySem.F.slot_list_count ⟨_, ho, rfl⟩ PySem.F.entry_list_count (PySem.F.args_list_count_2 _ _) (SeqAt.list_countAt p its.toArray n dd sl u (eqU y)) ⟨ho, fun z hz => mem_eqAt ru fy ri fx z (by simpa using hz), ?_⟩
  have e : its.toArray.toList.countP (eqU y) = xs.countP fun z => eqV z y := by
    rw [List.toList_toArray]
    exact countP_eqU ri fx
  rw [e]
  exact ⟨.int (xs.countP (fun z => eqV z y) : Nat), H, I.tok _, ⟨s.toks, rfl⟩, q⟩
theorem ev_countS [Tb] {K : PySem.W.Frag} {σ : L2.St} {G : Hp} {ta tb : TE} {l : List Str} {x : Str} (ha : EvR K ta σ G l) (hb : EvR K tb σ G x) : EvR K (tBM K "list" (rCntV K) ta (tCons tb tNil)) σ G ((List.count x l : Nat) : Int) := fun H e Q q =>
  ha H e _ fun v G1 H1 g1 r1 => by
    obtain ⟨a, xs, ev, hA, r⟩ := id r1
    refine ⟨by rw [ev]; exact .inl ⟨rfl, xs, SqL.of (g1.s _ _ hA)⟩, hb.mono g1.g H1 g1.s _ fun w G2 H2 g2 r2 => ?_⟩
    have ex := reps_flat r
    subst ex
    refine ⟨a, _, w, ev, rfl, SqL.of (g2.h.l (g1.s _ _ hA)), by rw [show w = V.str x from r2]; rfl, flat_all, ?_⟩
    have e2 : (l.map Flat.toV).countP (fun z => eqV z w) = List.count x l := by
      rw [List.countP_map, show w = Flat.toV x from r2, List.count]
      refine List.countP_congr fun z _ => ?_
      rw [Function.comp, Flat.eqv z x]
      simp
    rw [e2]
    exact q _ G2 H2 (g1.trans g2) rfl
/-! ### text * n -/
def mulS (x : Str) (n : Int) : Str := ⟨(List.replicate n.toNat x.cps.toList).flatten.toArray⟩
theorem fold_cps : ∀ (n : Nat) (a b : Array Nat), ((List.replicate n a).foldl (· ++ ·) b).toList = b.toList ++ (List.replicate n a.toList).flatten
  | 0, a, b => by simp
  | n + 1, a, b => by
    rw [List.replicate_succ, List.foldl_cons, fold_cps n a (b ++ a), List.replicate_succ, List.flatten_cons, Array.toList_append, List.append_assoc]
/-! ### what a def keeps that may raise an error of the class at C with the text field f -/
section
variable [Tb] {α β ρ : Type} [Rep α] [Rep β] [Rep ρ]
def spx1 (K : PySem.W.Frag) (C : Addr) (f : Str) (pre : α → Prop) (m : α → Except Str ρ) : Sp := fun vs H Q E => ∃ x v G, vs = [v] ∧ Sub G H ∧ rep K x v G ∧ pre x ∧
  (∀ y, m x = .ok y → ∀ u G' H', Grow G H G' H' → rep K y u G' → Q u H') ∧ ∀ s, m x = .error s → ErrAt C f (.str s) H E
end
theorem tpl_written {K : PySem.W.Frag} {q : Addr} {qd : Option Addr} {qi : Array Value} {qn : Nat} {qs : Array (Option Value)} {ks : List Str} (l : K.lookup q = some ⟨.type "tuple", qd, .seq qi qn, qs⟩) (v : Vals (ks.map V.str) qi.toList) (hz : ks.length ≤ 1000 := by decide) {G : Hp} : rep K (Tpl.mk ks) (V.ref q) G := by
  refine ⟨q, ks.map V.str, rfl, .inr ⟨_, qi, qn, l, rfl, rfl, ?_, v⟩, reps_of_flat ks⟩
  have e : (ks.map V.str).length = qi.toList.length := Vals.length v
  have e2 : qi.toList.length = qi.size := Array.length_toList
  rw [List.length_map] at e
  rw [← e2, ← e, sizeLine_eq]
  omega
end RL
namespace RL
open PySem PySem.Spec PyProof.Rows L2
open Rep (rep)
/-! ### the rules that name the written part, with it told: they hold within a comprehension as well -/
section
variable {X : Cx} {K : PySem.W.Frag}
theorem op_inK (h : X.K = K := by rfl) : OpR X (compareOp .In) (rIn K false) := by subst h; exact op_in_seq
theorem op_notInK (h : X.K = K := by rfl) : OpR X (compareOp .NotIn) (rIn K true) := by subst h; exact op_notIn_seq
theorem ix_listK (h : X.K = K := by rfl) : IxR X (rIxL K) := by subst h; exact ix_list
theorem ix_tupK (h : X.K = K := by rfl) : IxR X (rIxT K) := by subst h; exact ix_tup
theorem sl_listK (h : X.K = K := by rfl) : SlR X (rSlL K) := by subst h; exact sl_list
theorem call_lenK (h : X.K = K := by rfl) : CallR X (.builtin "len") (rLen K) := by subst h; exact call_len
theorem call_listK (h : X.K = K := by rfl) : CallR X (.type "list") (fun xs H Q => ∃ p ys, xs = [.ref p] ∧ (SqL K H p ys ∨ SqT K H p ys) ∧ ∀ l, H l = none → Q (.ref l) (upd H l (.lst ys))) := by subst h; exact call_list_of
theorem mt_countK (h : X.K = K := by rfl) : MtR X "list.count" (rCntV K) := by subst h; exact mt_countS
variable {a e o : Expr} {ta te to : TE} {tg : Expr} {k : Nat} {p1 p2 p3 pos p q apos cpos : Pos} {es : List Expr} {t : TA}
theorem pe_revK (he : PE X e te) (h : X.K = K := by rfl) : PE X (.Subscript e (.Slice none none (some (.UnaryOp .USub (.Constant (.int 1) k p1) p2)) p3) pos) (tRevL K te) := by subst h; exact pe_revL he
theorem pi_listK (he : PE X e te) (h : X.K = K := by rfl) : PI X tg e (iList K te) := by subst h; exact pi_list he
theorem pi_tupK (he : PE X e te) (h : X.K = K := by rfl) : PI X tg e (iTup K te) := by subst h; exact pi_tup he
theorem pe_lenSetK (hc : X.calm = true) (hg : Gl X "len") (hm : X.mg "len" = none) (hg2 : Gl X "set") (hm2 : X.mg "set" = none) (ha : PE X a ta)
    (na : starEach [a] X.env = (false, eval a X.env) :: starEach [] X.env := by rfl) (h : X.K = K := by rfl) : PE X (.Call (.Name "len" p) [.Call (.Name "set" p2) [a] [] q] [] pos) (tLenSetS K ta) := by subst h; exact pe_lenSetS hc hg hm hg2 hm2 ha na
theorem pa_starK (he : PE X e te) (hr : PA X es t) (hs : starEach (.Starred e p :: es) X.env = (true, eval e X.env) :: starEach es X.env := by rfl) (h : X.K = K := by rfl) : PA X (.Starred e p :: es) (StX.tStar K te t) := by subst h; exact StX.pa_star he hr hs
end
end RL
namespace RL
open PySem PySem.Spec PyProof.Rows L2
section
variable {X : Cx} {K : PySem.W.Frag} {e o : Expr} {te to : TE} {apos cpos pos : Pos}
theorem pe_joinK (ho : PE X o to) (he : PE X e te) (hs : starEach [e] X.env = [(false, eval e X.env)] := by rfl) (hbase : attributeBase o "join" X.env (eval o X.env) = eval o X.env := by rfl) (hline : (apos.endLine == pos.line) = true := by rfl) (h : X.K = K := by rfl) :
    PE X (.Call (.Attribute o "join" apos) [e] [] pos) (tM1 (fun x xs H Q => ∃ a p, ∃ ys : List Str, x = .str a ∧ xs = [.ref p] ∧ (SqL K H p (ys.map V.str) ∨ SqT K H p (ys.map V.str)) ∧
      (ys.map (·.length)).sum + ys.length * a.length ≤ 16777216 ∧ Q (.str (Txt.join a ys)) H) to te) := by subst h; exact pe_join ho he hs hbase hline
theorem pe_bmK {es : List Expr} {t : TA} {name : Str} {T id : String} {r : V → List V → Hp → VK → Prop} (pa : PlainAttrs T) (slot : Slot T name id) (hty : typeOf (.builtin id) = pure (.type "method_descriptor")) (hm : MtR X id r) (ho : PE X o to) (ha : PA X (e :: es) t)
    (hbase : attributeBase o name X.env (eval o X.env) = eval o X.env := by rfl)
    (hfew : ((backTo cpos (starEach (e :: es) X.env)).all (fun x => !x.1) && (backToKw cpos (keywordEach [] X.env)).all (fun x => x.1.isSome)
      && decide ((e :: es).length + ([] : List Keyword).length + (if ([] : List Keyword).isEmpty then 0 else 1) < 30)) = true := by rfl)
    (hline : (apos.endLine == cpos.line) = true := by rfl) (hs : starEach (e :: es) X.env = (false, eval e X.env) :: starEach es X.env := by rfl) (hplain : (backTo cpos (starEach es X.env)).any (·.1) = false := by rfl) (h : X.K = K := by rfl) :
    PE X (.Call (.Attribute o name apos) (e :: es) [] cpos) (tBM K T r to t) := by subst h; exact pe_bm pa slot hty hm ho ha hbase hfew hline hs hplain
end
end RL
namespace RL
open PySem PySem.Spec PyProof.Rows L2
open Rep (rep)
/-! ### the statements, something behind -/
section
variable [Tb] {α : Type} [Rep α] {K : PySem.W.Frag} {σ : L2.St} {G H : Hp} {te tl ta : TE} {tt : TT} {t u tb tz : TS} {D : Ends} {x : α} {b : Bool} {i j : Nat} {a : Addr}
theorem nx_mk {nx : L2.St → Hp → Prop} {rt : VK} {bk ct : L2.St → Hp → Prop} (h : nx σ H) : Ends.nx ⟨nx, rt, bk, ct⟩ σ H := h
theorem reps_nil {Ge He : Hp} (g : Grow Ge He G H) : Reps K ([] : List α) [] G := .nil
theorem q_asg (e : Sub G H) (h : EvR K te σ G x) (k : ∀ v G' H', Grow G H G' H' → rep K x v G' → tz D (σ.set i (some v)) H') : tSeq (tAsg te (gName i)) tz D σ H := s_asg (D := { D with nx := tz D }) e h k
theorem q_drop (e : Sub G H) (h : EvR K te σ G x) (k : ∀ G' H', Grow G H G' H' → tz D σ H') : tSeq (tDrop te) tz D σ H := s_drop (D := { D with nx := tz D }) e h k
theorem q_if (e : Sub G H) (h : EvB tt σ G b) (k1 : b = true → ∀ G' H', Grow G H G' H' → t { D with nx := tz D } σ H') (k2 : b = false → ∀ G' H', Grow G H G' H' → u { D with nx := tz D } σ H') : tSeq (tIfS tt t u) tz D σ H := s_if (D := { D with nx := tz D }) e h k1 k2
theorem q_new (k : ∀ p, H p = none → tz D (σ.set i (some (.ref p))) (upd H p (.lst []))) : tSeq (tAsg (tLst tNil) (gName i)) tz D σ H := s_new (D := { D with nx := tz D }) k
theorem q_app {xs : List V} (e : Sub G H) (hi : σ[i]? = some (some (.ref a))) (ha : H a = some (.lst xs)) (hz : xs.length < sizeLine) (h : EvR K te σ G x)
    (k : ∀ v G' H', Grow G H G' H' → rep K x v G' → tz D σ (upd H' a (.lst (xs ++ [v])))) : tSeq (tDrop (tBM K "list" rAppend (tVar i) (tCons te tNil))) tz D σ H := s_app (D := { D with nx := tz D }) e hi ha hz h k
theorem q_newF {Ge He : Hp} (gr : Grow Ge He G H) (k : ∀ p H2, He p = none → G p = none → H p = none → H2 p = some (.lst []) → Grow Ge He G H2 → Kept H H2 → tz D (σ.set i (some (.ref p))) H2) : tSeq (tAsg (tLst tNil) (gName i)) tz D σ H := s_newF (D := { D with nx := tz D }) gr k
theorem q_appF {Ge He : Hp} {xs : List V} {l : List α} (gr : Grow Ge He G H) (hF : He a = none) (hN : G a = none) (hi : σ[i]? = some (some (.ref a))) (ha : H a = some (.lst xs)) (hl : Reps K l xs G) (hz : l.length < sizeLine) (h : EvR K te σ G x)
    (k : ∀ G' H' H2 zs, Grow G H G' H' → Grow Ge He G' H2 → G' a = none → H2 a = some (.lst zs) → Reps K (l ++ [x]) zs G' → (∀ b, b ≠ a → H2 b = H' b) → tz D σ H2) : tSeq (tDrop (tBM K "list" rAppend (tVar i) (tCons te tNil))) tz D σ H := s_appF (D := { D with nx := tz D }) gr hF hN hi ha hl hz h k
theorem q_forL {l : List α} {g : TG} (e : Sub G H) (h : EvR K tl σ G l) (k : ∀ G1 H1 xs, Grow G H G1 H1 → Reps K l xs G1 → ∃ Pv : Nat → L2.St → Hp → Prop, Pv 0 σ H1 ∧ (∀ i σ' H', Pv i σ' H' → Sub G1 H') ∧
    (∀ i x v σ' H', l[i]? = some x → rep K x v G1 → Pv i σ' H' → g v σ' H' fun σ2 H2 => tb { D with nx := Pv (i + 1), ct := Pv (i + 1), bk := tz D } σ2 H2) ∧ ∀ σ' H', Pv l.length σ' H' → tz D σ' H') : tSeq (tFor (iList K tl) g tb) tz D σ H :=
  s_forL (D := { D with nx := tz D }) e h k
theorem q_forT {l : Tpl α} {g : TG} (e : Sub G H) (h : EvR K tl σ G l) (k : ∀ G1 H1 xs, Grow G H G1 H1 → Reps K l.l xs G1 → ∃ Pv : Nat → L2.St → Hp → Prop, Pv 0 σ H1 ∧ (∀ i σ' H', Pv i σ' H' → Sub G1 H') ∧
    (∀ i x v σ' H', l.l[i]? = some x → rep K x v G1 → Pv i σ' H' → g v σ' H' fun σ2 H2 => tb { D with nx := Pv (i + 1), ct := Pv (i + 1), bk := tz D } σ2 H2) ∧ ∀ σ' H', Pv l.l.length σ' H' → tz D σ' H') : tSeq (tFor (iTup K tl) g tb) tz D σ H :=
  s_forT (D := { D with nx := tz D }) e h k
theorem q_forR1 {n : Int} (e : Sub G H) (h : EvR K te σ G n) (hn : -(2 ^ 62) ≤ n ∧ n < 2 ^ 62) (k : ∀ G1 H1, Grow G H G1 H1 → ∃ Pv : Nat → L2.St → Hp → Prop, Pv 0 σ H1 ∧
    (∀ (i : Nat) σ' H', (i : Int) < n → Pv i σ' H' → tb { D with nx := Pv (i + 1), ct := Pv (i + 1), bk := tz D } (σ'.set j (some (.int (i : Int)))) H') ∧ ∀ σ' H', Pv n.toNat σ' H' → tz D σ' H') : tSeq (tFor (iRng1 (tCons te tNil)) (gName j) tb) tz D σ H :=
  s_forR1 (D := { D with nx := tz D }) e h hn k
theorem q_forR2 {m n : Int} (e : Sub G H) (h : EvR K ta σ G m) (h2 : EvR K te σ G n) (hn : -(2 ^ 62) ≤ m ∧ m < 2 ^ 62 ∧ -(2 ^ 62) ≤ n ∧ n < 2 ^ 62) (k : ∀ G1 H1, Grow G H G1 H1 → ∃ Pv : Nat → L2.St → Hp → Prop, Pv 0 σ H1 ∧
    (∀ (i : Nat) σ' H', m + (i : Int) < n → Pv i σ' H' → tb { D with nx := Pv (i + 1), ct := Pv (i + 1), bk := tz D } (σ'.set j (some (.int (m + (i : Int))))) H') ∧ ∀ σ' H', Pv (n - m).toNat σ' H' → tz D σ' H') : tSeq (tFor (iRng2 (tCons ta (tCons te tNil))) (gName j) tb) tz D σ H :=
  s_forR2 (D := { D with nx := tz D }) e h h2 hn k
end
theorem un_some {α : Type} [Rep α] {K : PySem.W.Frag} {x : α} {v : V} {G : Hp} (h : rep K (some x) v G) : rep K x v G := h
theorem condT {α : Type} {c : Bool} {a b m : α} (h : m = cond c a b) (e : c = true) : m = a := by rw [h, e]; rfl
theorem condF {α : Type} {c : Bool} {a b m : α} (h : m = cond c a b) (e : c = false) : m = b := by rw [h, e]; rfl
end RL

set_option Elab.async false
set_option linter.all false
set_option maxRecDepth 100000
set_option maxHeartbeats 1000000
/-! texts, lists: plain mathematics for the laws -/
namespace RL
open PySem PySem.Spec PyProof.Rows L2 TL
theorem len_tl (x : Str) : x.length = (tl x).length := by simp [Str.length, tl]
theorem len_app (x y : Str) : (x ++ y).length = x.length + y.length := by rw [len_tl, len_tl, len_tl, tl_append, List.length_append]
theorem join_len (y : Str) : ∀ l : List Str, (Txt.join y l).length = (l.map (·.length)).sum + (l.length - 1) * y.length
  | [] => by rw [join_eq]; simp [Str.join, Str.empty, Str.length]
  | [x] => by rw [join_eq]; show x.length = x.length + 0 + 0 * y.length; omega
  | x :: z :: r => by
    have ih := join_len y (z :: r)
    rw [join_eq] at ih ⊢
    show (x ++ y ++ Str.join y (z :: r)).length = _
    rw [len_app, len_app, ih]
    simp only [List.map_cons, List.sum_cons, List.length_cons, Nat.add_sub_cancel]
    have : (r.length + 1) * y.length = r.length * y.length + y.length := by rw [Nat.add_mul, Nat.one_mul]
    omega
theorem split_ne {x y : Str} (hy : 1 ≤ y.length) : Txt.split x y ≠ [] := fun h => by
  have e := StrLaws.join_split x y
  rw [h] at e
  have e2 : x = Str.empty := e.symm
  subst e2
  unfold Txt.split at h
  have : (decide (Str.empty.length < y.length) || decide (Builtin.Str.strKind Str.empty < Builtin.Str.strKind y)) = true := by
    have : decide (Str.empty.length < y.length) = true := decide_eq_true (by show 0 < y.length; omega)
    rw [this]; rfl
  rw [if_pos this] at h
  cases h
theorem sum_mem {l : List Str} {p : Str} (h : p ∈ l) : p.length ≤ (l.map (·.length)).sum := by
  induction l with
  | nil => cases h
  | cons a l ih =>
    rw [List.map_cons, List.sum_cons]
    rcases List.mem_cons.mp h with e | e
    · subst e; omega
    · have := ih e; omega
theorem split_sum {x y : Str} : ((Txt.split x y).map (·.length)).sum + ((Txt.split x y).length - 1) * y.length = x.length := by
  rw [← join_len y (Txt.split x y), join_eq, StrLaws.join_split]
theorem split_part {x y p : Str} (h : p ∈ Txt.split x y) : p.length ≤ x.length := by
  have h1 := sum_mem h
  have h2 := split_sum (x := x) (y := y)
  omega
theorem split_count {x y : Str} (hy : 1 ≤ y.length) : (Txt.split x y).length ≤ x.length + 1 := by
  have h2 := split_sum (x := x) (y := y)
  have h3 : (Txt.split x y).length - 1 ≤ ((Txt.split x y).length - 1) * y.length := Nat.le_mul_of_pos_right _ hy
  omega
theorem sum_le {l : List Str} {n : Nat} (h : ∀ p ∈ l, p.length ≤ n) : (l.map (·.length)).sum ≤ l.length * n := by
  induction l with
  | nil => simp
  | cons a l ih =>
    rw [List.map_cons, List.sum_cons, List.length_cons, Nat.add_mul, Nat.one_mul]
    have := h a List.mem_cons_self
    have := ih fun p hp => h p (.tail _ hp)
    omega
theorem sum_sub {l m : List Str} (h : l.Sublist m) : (l.map (·.length)).sum ≤ (m.map (·.length)).sum := by
  induction h with
  | slnil => exact Nat.le_refl _
  | cons a _ ih => rw [List.map_cons, List.sum_cons]; omega
  | cons_cons a _ ih => rw [List.map_cons, List.map_cons, List.sum_cons, List.sum_cons]; omega
/-! ### last, all but the last -/
theorem at_last {α : Type} {l : List α} (h : l ≠ []) : (atI l (-1)).isSome = true := at_neg (by omega) (by have := List.length_pos_iff.mpr h; omega)
theorem get_last {α : Type} [Inhabited α] {l : List α} (h : l ≠ []) : getI l (-1) = l.getLast h := by
  have e := atI_get (at_last h)
  have hp := List.length_pos_iff.mpr h
  have e2 : ixN l.length (-1) = some (l.length - 1) := by
    unfold ixN
    rw [if_neg (by omega), if_pos (by omega)]
    congr 1
    omega
  unfold atI at e
  rw [e2] at e
  have e3 : l[l.length - 1]? = some (getI l (-1)) := e
  rw [← List.getLast?_eq_getElem?, List.getLast?_eq_some_getLast h] at e3
  exact (Option.some.inj e3).symm
theorem cut_init {α : Type} (l : List α) : cutL l none (some (-1)) = l.dropLast := by
  unfold cutL
  rw [HT.sIx_none]
  have e : HT.sIx l.length l.length (some (-1)) = l.length - 1 := by
    show (if (-1 : Int) < 0 then (-1 + (l.length : Int)).toNat else min (-1 : Int).toNat l.length) = _
    rw [if_pos (by omega)]
    omega
  rw [e, List.drop_zero, Nat.sub_zero, List.dropLast_eq_take]
theorem cut_from {α : Type} (l : List α) {n : Int} (h : 0 ≤ n) : cutL l (some n) none = l.drop n.toNat := by
  unfold cutL
  rw [HT.sIx_none]
  have e : HT.sIx l.length 0 (some n) = min n.toNat l.length := by
    show (if n < 0 then _ else min n.toNat l.length) = _
    rw [if_neg (by omega)]
  rw [e, List.take_of_length_le (by rw [List.length_drop]; omega)]
  by_cases q : n.toNat ≤ l.length
  · rw [Nat.min_eq_left q]
  · rw [Nat.min_eq_right (by omega), List.drop_length, List.drop_eq_nil_of_le (by omega)]
theorem cut_to {α : Type} (l : List α) {n : Int} (h : 0 ≤ n) : cutL l none (some n) = l.take n.toNat := by
  unfold cutL
  rw [HT.sIx_none]
  have e : HT.sIx l.length l.length (some n) = min n.toNat l.length := by
    show (if n < 0 then _ else min n.toNat l.length) = _
    rw [if_neg (by omega)]
  rw [e, List.drop_zero, Nat.sub_zero]
  by_cases q : n.toNat ≤ l.length
  · rw [Nat.min_eq_left q]
  · rw [Nat.min_eq_right (by omega), List.take_length, List.take_of_length_le (by omega)]
theorem cut_le {α : Type} (l : List α) (a b : Option Int) : (cutL l a b).length ≤ l.length := by
  unfold cutL
  rw [List.length_take, List.length_drop]
  omega
theorem cut_sub {α : Type} (l : List α) (a b : Option Int) : (cutL l a b).Sublist l := (List.take_sublist _ _).trans (List.drop_sublist _ _)
theorem cut_mem {α : Type} {l : List α} {a b : Option Int} {x : α} (h : x ∈ cutL l a b) : x ∈ l := List.mem_of_mem_drop (List.mem_of_mem_take h)
/-! ### a list in which one thing answers a question -/
theorem filter_find {α β : Type} [DecidableEq β] (f : α → β) (y : β) : ∀ {l : List α}, (l.map f).Nodup → l.filter (fun a => decide (f a = y)) = (l.find? fun a => decide (f a = y)).toList
  | [], _ => rfl
  | a :: l, h => by
    rw [List.map_cons, List.nodup_cons] at h
    by_cases e : f a = y
    · rw [List.filter_cons_of_pos (by simpa using e), List.find?_cons_of_pos (by simpa using e)]
      have : l.filter (fun a => decide (f a = y)) = [] := by
        rw [List.filter_eq_nil_iff]
        intro b hb q
        have q' : f b = y := by simpa using q
        exact h.1 (e ▸ q' ▸ List.mem_map_of_mem hb)
      rw [this]
      rfl
    · rw [List.filter_cons_of_neg (by simpa using e), List.find?_cons_of_neg (by simpa using e), filter_find f y h.2]
/-! ### ASCII texts -/
def Asc (x : Str) : Prop := ∀ c ∈ tl x, c < 128
theorem lower_tl {x : Str} (h : Asc x) : tl (Txt.lower x) = (tl x).map lo1 := by
  rw [lower_ascii h]
  simp [tl]
theorem upper_tl {x : Str} (h : Asc x) : tl (Txt.upper x) = (tl x).map up1 := by
  rw [upper_ascii h]
  simp [tl]
theorem tl_inj {x y : Str} (h : tl x = tl y) : x = y := by
  rw [← mk_tl x, ← mk_tl y, h]
end RL
namespace RL
open PySem PySem.Spec PyProof.Rows L2 TL
/-! ### sizes that are small -/
def PreT (t : Str) : Prop := t.length ≤ 1000
def NN (l : List Int) : Prop := ∀ x ∈ l, 0 ≤ x
theorem pre_low {t : Str} (h : PreT t) : t.length ≤ 5592405 := Nat.le_trans h (by decide)
theorem pre_line {t : Str} (h : PreT t) : t.length ≤ sizeLine := Nat.le_trans h (by decide)
theorem pre_line2 {t : Str} (h : PreT t) : t.length + 2 ≤ sizeLine := Nat.le_trans (Nat.add_le_add_right h 2) (by decide)
theorem lt_line {n : Nat} (h : n ≤ 100000) : n < sizeLine := Nat.lt_of_le_of_lt h (by decide)
theorem le_line {n : Nat} (h : n ≤ 100000) : n ≤ sizeLine := Nat.le_trans h (by decide)
theorem le_low {n : Nat} (h : n ≤ 100000) : n ≤ 5592405 := Nat.le_trans h (by decide)
theorem pos_of {n : Nat} (h : decide ((0 : Int) < (n : Int)) = true) : (0 : Int) < (n : Int) := of_decide_eq_true h
theorem of_memB {α : Type} [DecidableEq α] {x : α} {l : List α} (h : memB x l = false) : x ∉ l := of_decide_eq_false h
theorem memB_of {α : Type} [DecidableEq α] {x : α} {l : List α} (h : memB x l = true) : x ∈ l := of_decide_eq_true h
theorem memB_in {α : Type} [DecidableEq α] {x : α} {l : List α} (h : x ∈ l) : memB x l = true := decide_eq_true h
theorem memB_no {α : Type} [DecidableEq α] {x : α} {l : List α} (h : x ∉ l) : memB x l = false := decide_eq_false h
theorem memB_iff {α β : Type} [DecidableEq α] [DecidableEq β] {x : α} {l : List α} {y : β} {m : List β} (h : x ∈ l ↔ y ∈ m) : memB x l = memB y m := decide_eq_decide.mpr h
theorem eqB_of {α : Type} [DecidableEq α] {x y : α} (h : eqB x y = true) : x = y := of_decide_eq_true h
theorem ne_eqB {α : Type} [DecidableEq α] {x y : α} (h : eqB x y = false) : x ≠ y := of_decide_eq_false h
theorem eqB_self {α : Type} [DecidableEq α] (x : α) : eqB x x = true := decide_eq_true rfl
theorem texts_le (l : List (Option Str)) : (texts l).length ≤ l.length := List.length_filterMap_le _ _
/-- a short list of short texts, joined by one sign -/
theorem join_fits {l : List Str} {m n : Nat} (hn : l.length ≤ n) (hl : ∀ p ∈ l, p.length ≤ m) {s : Str} (hs : s.length ≤ 1) (hb : n * (m + 1) ≤ 16777216) : (l.map (·.length)).sum + l.length * s.length ≤ 16777216 := by
  have h1 := sum_le hl
  have h2 : l.length * m ≤ n * m := Nat.mul_le_mul_right m hn
  have h3 : l.length * s.length ≤ n * 1 := Nat.mul_le_mul hn hs
  have h4 : n * (m + 1) = n * m + n := by rw [Nat.mul_add, Nat.mul_one]
  omega
theorem join_short {l : List Str} {m n : Nat} (hn : l.length ≤ n) (hl : ∀ p ∈ l, p.length ≤ m) {s : Str} (hs : s.length ≤ 1) : (Txt.join s l).length ≤ n * m + n := by
  rw [join_len]
  have h1 := sum_le hl
  have h2 : l.length * m ≤ n * m := Nat.mul_le_mul_right m hn
  have h3 : (l.length - 1) * s.length ≤ n * 1 := Nat.mul_le_mul (by omega) hs
  omega
theorem runL_all {σ ρ α : Type} {f : σ → α → Step σ ρ} {s : σ} : ∀ {l : List α}, (∀ x ∈ l, f s x = .go s) → runL f s l = .go s
  | [], _ => rfl
  | x :: l, h => by
    show (match f s x with | .go s' => runL f s' l | .ret r => .ret r | .brk s' => .brk s') = _
    rw [h x List.mem_cons_self]
    exact runL_all fun y hy => h y (.tail _ hy)
theorem runL_find {α : Type} (p : α → Bool) : ∀ l : List α, runL (fun (_ : Unit) x => cond (p x) (Step.ret (some x)) (Step.go ())) () l = (match l.find? p with | some x => Step.ret (some x) | none => Step.go ())
  | [] => rfl
  | x :: l => by
    have ih := runL_find p l
    cases h : p x with
    | true => rw [List.find?_cons_of_pos h]; simp only [runL, h]; rfl
    | false =>
      rw [List.find?_cons_of_neg (by rw [h]; decide), ← ih]
      simp only [runL, h]
      rfl
/-! ### a law's draws -/
theorem log_small {n : Int} (h0 : 0 ≤ n) (h : n ≤ 100000) : n.natAbs.log2 < 1920 := by
  have h1 : n.natAbs ≤ 100000 := by omega
  have h2 : n.natAbs.log2 ≤ n.natAbs := Nat.log2_le_self _
  by_cases z : n.natAbs = 0
  · rw [z]; decide
  · have := (Nat.log2_lt z (k := 17)).mpr (by omega)
    omega
end RL
namespace RL
open PySem PySem.Spec PyProof.Rows L2 TL
theorem at_mod {α : Type} {l : List α} {n : Int} (h : 0 < (l.length : Int)) : (atI l (n % (l.length : Int))).isSome = true := at_in (Int.emod_nonneg _ (by omega)) (Int.emod_lt_of_pos _ h)
theorem at_modS {z : Str} {n : Int} (h : 0 < (z.length : Int)) : (atI z.cps.toList (n % (z.length : Int))).isSome = true := by
  have e : z.cps.toList.length = z.length := (len_tl z).symm
  rw [← e] at h ⊢
  exact at_mod h
theorem at_S {z : Str} {n : Int} (h0 : 0 ≤ n) (h : n < (z.length : Int)) : (atI z.cps.toList n).isSome = true := at_in h0 (by
  have e : z.cps.toList.length = z.length := (len_tl z).symm
  rw [e]; exact h)
theorem at_3 {α : Type} {a b c : α} {n : Int} : (atI [a, b, c] (n % 3)).isSome = true := at_in (Int.emod_nonneg _ (by decide)) (Int.emod_lt_of_pos n (by decide))
theorem getI_3 {α : Type} [Inhabited α] {a b c : α} {n : Int} (P : α → Prop) (ha : P a) (hb : P b) (hc : P c) : P (getI [a, b, c] (n % 3)) := by
  have h := getI_mem (at_3 (a := a) (b := b) (c := c) (n := n))
  rcases List.mem_cons.mp h with e | h
  · rw [e]; exact ha
  · rcases List.mem_cons.mp h with e | h
    · rw [e]; exact hb
    · rw [List.mem_singleton.mp h]; exact hc
theorem asc_one {c : Nat} (h : c < 128) : Asc ⟨#[c]⟩ := fun d hd => by
  have e : d = c := List.mem_singleton.mp hd
  rw [e]; exact h
theorem lower_one {c : Nat} (h : c < 128) : Txt.lower ⟨#[c]⟩ = ⟨#[lo1 c]⟩ := tl_inj (lower_tl (asc_one h))
theorem upper_one {c : Nat} (h : c < 128) : Txt.upper ⟨#[c]⟩ = ⟨#[up1 c]⟩ := tl_inj (upper_tl (asc_one h))
theorem rot_perm {α : Type} (l : List α) {a : Int} (h : 0 ≤ a) : (cutL l (some a) none ++ cutL l none (some a)).Perm l := by
  rw [cut_from l h, cut_to l h]
  refine (List.perm_append_comm).trans ?_
  rw [List.take_append_drop]
/-- what a list of a comprehension's items keeps -/
theorem mem_map_all {α β : Type} {f : α → β} {l : List α} {P : β → Prop} (h : ∀ x ∈ l, P (f x)) : ∀ y ∈ l.map f, P y := fun y hy => by
  obtain ⟨x, hx, e⟩ := List.mem_map.mp hy
  rw [← e]; exact h x hx
end RL

set_option Elab.async false
set_option linter.all false
set_option maxRecDepth 100000
set_option maxHeartbeats 4000000
namespace RL
open PySem PySem.Spec PyProof.Rows L2
open Rep (rep)
/-! ### tuples: parts, sums, ==, tuple(..) of a list; texts times a number; isinstance; is True -/
section
variable {X : Cx} {K : PySem.W.Frag}
theorem sl_tupK (h : X.K = K := by rfl) : SlR X (rSlA K) := by subst h; exact sl_tupA
theorem op_catTK (h : X.K = K := by rfl) : OpR X (binaryOp .Add) (rCatA K) := by subst h; exact op_catA
theorem op_eqK (hu : X.A.units + 64 < cLine) (h : X.K = K := by rfl) : OpR X (compareOp .Eq) (rEqD K) := by subst h; exact op_eqD hu
theorem op_neK (hu : X.A.units + 64 < cLine) (h : X.K = K := by rfl) : OpR X (compareOp .NotEq) (rNeD K) := by subst h; exact op_neD hu
theorem call_tupleK (h : X.K = K := by rfl) : CallR X (.type "tuple") (fun xs H Q => ∃ p ys, xs = [.ref p] ∧ ((SqL K H p ys ∧ ∀ l, H l = none → Q (.ref l) (upd H l (.tup ys))) ∨ (SqT K H p ys ∧ Q (.ref p) H))) := by subst h; exact call_tuple_of
theorem call_isiK (h : X.K = K := by rfl) : CallR X (.builtin "isinstance") (rIsi K) := by subst h; exact call_isi
def rMulS : R2 := fun x y H Q => ∃ i n, x = .str i ∧ y = .int n ∧ 0 ≤ n ∧ n < 16777216 ∧ i.length * n.toNat ≤ sizeLine ∧ Q (.str (mulS i n)) H
theorem mulS_one {x : Str} : mulS x 1 = x := by
  obtain ⟨⟨l⟩⟩ := x
  show Str.mk (List.replicate 1 l).flatten.toArray = _
  rw [List.replicate_succ, List.replicate_zero, List.flatten_cons, List.flatten_nil, List.append_nil]
theorem mulS_nil {x : Str} {n : Int} (h : (x.length == 0) = true) : mulS x n = x := by
  obtain ⟨⟨l⟩⟩ := x
  have e : l.length = 0 := by
    have : (Str.mk ⟨l⟩).length = l.length := rfl
    rw [this] at h
    exact beq_iff_eq.mp h
  have e2 : l = [] := List.eq_nil_of_length_eq_zero e
  subst e2
  show Str.mk (List.replicate n.toNat []).flatten.toArray = _
  have : (List.replicate n.toNat ([] : List Nat)).flatten = [] := by
    induction n.toNat with
    | zero => rfl
    | succ k ih => rw [List.replicate_succ, List.flatten_cons, ih]; rfl
  rw [this]
theorem mulS_zero {x : Str} {n : Int} (h : n < 1) : mulS x n = Str.empty := by
  show Str.mk (List.replicate n.toNat x.cps.toList).flatten.toArray = _
  rw [show n.toNat = 0 by omega]
  rfl
theorem mulS_fold {x : Str} {n : Int} : mulS x n = ⟨(List.replicate n.toNat x.cps).foldl (· ++ ·) #[]⟩ := by
  have h := fold_cps n.toNat x.cps #[]
  show Str.mk (List.replicate n.toNat x.cps.toList).flatten.toArray = _
  rw [← Array.toArray_toList (xs := (List.replicate n.toNat x.cps).foldl (· ++ ·) #[]), h]
  rfl
theorem mulS_len (x : Str) (n : Int) : (mulS x n).length = x.length * n.toNat := by
  obtain ⟨⟨l⟩⟩ := x
  show (List.replicate n.toNat l).flatten.toArray.size = l.length * n.toNat
  rw [List.size_toArray]
  induction n.toNat with
  | zero => rfl
  | succ k ih => rw [List.replicate_succ, List.flatten_cons, List.length_append, ih, Nat.mul_succ]; omega
theorem op_repS : OpR X (binaryOp .Mult) rMulS := by
  intro pins s σ H x y v u Q I rx ry h
  obtain ⟨i, n, rfl, rfl, hn, hn2, hz, q⟩ := h
  obtain ⟨t, rfl⟩ := rx
  obtain ⟨t', rfl⟩ := ry
  have f1 : ¬ n < -(2 ^ 63 : Int) := by omega
  have f2 : ¬ n ≥ 2 ^ 63 := by omega
  refine P.mul_str (by rw [decide_eq_false f1, decide_eq_false f2]; rfl) (fun h1 _ => ?_) (fun _ _ => decide_eq_false (by omega)) ?_
  · have hp : 0 < n := by omega
    have h2 : (i.length : Int) * n ≤ (sizeLine : Int) := by
      have e : ((i.length * n.toNat : Nat) : Int) = (i.length : Int) * n := by
        rw [Int.natCast_mul, Int.toNat_of_nonneg hn]
      rw [← e]
      exact Int.ofNat_le.mpr hz
    intro z
    have h3 : ((2 ^ 63 - 1 : Int) / n + 1) * n > 2 ^ 63 - 1 := by
      have := Int.lt_ediv_add_one_mul_self (2 ^ 63 - 1 : Int) hp
      exact this
    have h4 : ((2 ^ 63 - 1 : Int) / n + 1) * n ≤ (i.length : Int) * n := Int.mul_le_mul_of_nonneg_right (by omega) hn
    rw [sizeLine_eq] at h2
    omega
  · by_cases h1 : n < 1
    · rw [if_pos h1]
      rw [mulS_zero h1] at q
      exact ⟨by decide, ⟨.str Str.empty, H, I.tok _, ⟨_, rfl⟩, q⟩⟩
    · rw [if_neg h1]
      by_cases h2 : (n == 1 || i.length == 0) = true
      · rw [if_pos h2]
        have e : mulS i n = i := by
          rcases Bool.or_eq_true_iff.mp h2 with a | a
          · rw [show n = 1 from beq_iff_eq.mp a]; exact mulS_one
          · exact mulS_nil a
        rw [e] at q
        exact ⟨.str i, H, I, ⟨_, rfl⟩, q⟩
      · rw [if_neg h2]
        rw [mulS_fold] at q
        exact ⟨by rw [← mulS_fold]; exact Nat.le_trans (Nat.le_of_eq (mulS_len i n)) hz, ⟨.str _, H, I.tok _, ⟨_, rfl⟩, q⟩⟩
end
section
variable [Tb] {α β γ : Type} [Rep α] [Rep β] [Rep γ] {K : PySem.W.Frag} {σ : L2.St} {G G' : Hp} {te ta tb tc : TE} {tt tu : TT} {x : α} {y : β} {z : γ} {b c : Bool} {i : Nat} {v : V} {ts tr : TA}
theorem ev_repS {s : Str} {n : Int} (ha : EvR K ta σ G s) (hb : EvR K tb σ G n) (h : 0 ≤ n ∧ n < 16777216 ∧ s.length * n.toNat ≤ sizeLine) : EvR K (tOp rMulS ta tb) σ G (mulS s n) :=
  ev_op ha hb fun v w G1 H1 _ s hv hw Q q => ⟨_, n, hv, hw, h.1, h.2.1, h.2.2, q _ G1 H1 (Grow.refl s) rfl⟩
theorem ev_slT {l : Tpl α} {tl th : TO} {lo hi : Option Int} (ha : EvR K ta σ G l) (hl : EvO K tl σ G lo) (hh : EvO K th σ G hi) : EvR K (tSl (rSlA K) ta tl th) σ G (Tpl.mk (cutL l.l lo hi)) := fun H e Q q =>
  ha H e _ fun v G1 H1 g1 r1 => hl.mono g1.g H1 g1.s _ fun G2 H2 g2 => hh.mono (g1.g.trans g2.g) H2 g2.s _ fun G3 H3 g3 => by
    obtain ⟨a, xs, ev, hA, r⟩ := up (g2.g.trans g3.g) r1
    refine ⟨a, xs, ev, sqT_mono g3.s.get hA, fun hw => ?_, fun hw p hp => ?_⟩
    · have e1 : cutL l.l lo hi = l.l := by
        unfold cutL
        rw [paired_len r, hw.1, hw.2, Nat.sub_zero, List.drop_zero, ← paired_len r, List.take_length]
      exact q _ _ _ ((g1.trans g2).trans g3) ⟨a, xs, rfl, hA, by show Reps K (cutL l.l lo hi) xs G3; rw [e1]; exact r⟩
    · exact q _ _ _ (((g1.trans g2).trans g3).trans (Grow.new g3.s hp)) ⟨p, cutL xs lo hi, rfl, SqT.of upd_same, Reps.up (same_upd (g3.s.free hp)) (cut_pair lo hi r)⟩
theorem ev_catT {l m : Tpl α} (ha : EvR K ta σ G l) (hb : EvR K tb σ G m) (hl : l.l.length + m.l.length ≤ sizeLine) : EvR K (tOp (rCatA K) ta tb) σ G (Tpl.mk (l.l ++ m.l)) :=
  ev_op ha hb fun v w G1 H1 _ s ⟨a, xs, ev, hA, r⟩ ⟨b, ys, ew, hB, r'⟩ Q q => by
    refine ⟨a, b, xs, ys, ev, ew, sqT_mono s.get hA, sqT_mono s.get hB, by rw [← paired_len r, ← paired_len r']; exact hl, fun hx => ?_, fun _ hy => ?_, fun _ _ p hp => ?_⟩
    · subst hx
      have e : l.l = [] := List.eq_nil_of_length_eq_zero (paired_len r)
      exact q _ G1 H1 (Grow.refl s) ⟨b, ys, rfl, hB, by show Reps K (l.l ++ m.l) ys G1; rw [e]; exact r'⟩
    · subst hy
      have e : m.l = [] := List.eq_nil_of_length_eq_zero (paired_len r')
      exact q _ G1 H1 (Grow.refl s) ⟨a, xs, rfl, hA, by show Reps K (l.l ++ m.l) xs G1; rw [e, List.append_nil]; exact r⟩
    · exact q _ _ _ (Grow.new s hp) ⟨p, xs ++ ys, rfl, SqT.of upd_same, paired_append (r.up (same_upd (s.free hp))) (r'.up (same_upd (s.free hp)))⟩
theorem ev_tupleL {l : List α} (ha : EvR K ta σ G l) : EvR K (tCB (fun xs H Q => ∃ p ys, xs = [.ref p] ∧ ((SqL K H p ys ∧ ∀ l, H l = none → Q (.ref l) (upd H l (.tup ys))) ∨ (SqT K H p ys ∧ Q (.ref p) H))) (tCons ta tNil)) σ G (Tpl.mk l) := fun H e Q q =>
  ha H e _ fun v G1 H1 g1 ⟨a, xs, ev, hA, r⟩ => ⟨a, xs, by rw [ev], .inl ⟨SqL.of (g1.s _ _ hA), fun p hp => q _ _ _ (g1.trans (Grow.new g1.s hp)) ⟨p, xs, rfl, SqT.of upd_same, r.up (same_upd (g1.s.free hp))⟩⟩⟩
/-- texts that may be laid -/
def TOk (l : List Str) : Prop := ∀ p ∈ l, PyData.strOk p = true
theorem dp_texts {H : Hp} : ∀ (l : List Str), DpAll K H (l.map Flat.toV) (l.map PyData.str)
  | [] => .nil
  | x :: l => .cons (.str x) (dp_texts l)
theorem lay_texts : ∀ (l : List Str), TOk l → PyData.canLayAll0 (l.map PyData.str) = true
  | [], _ => rfl
  | x :: l, h => by
    show (PyData.canLay0 (.str x) && PyData.canLayAll0 (l.map PyData.str)) = true
    rw [lay_texts l fun p hp => h p (.tail _ hp), Bool.and_true]
    exact h x List.mem_cons_self
theorem depth_texts : ∀ (l : List Str), PyData.depthAll (l.map PyData.str) = 0
  | [] => rfl
  | x :: l => by
    show max (PyData.depth (.str x)) (PyData.depthAll (l.map PyData.str)) = 0
    rw [depth_texts l]
    rfl
theorem shaped_texts {l : List Str} (h : TOk l) : SeqAt.shaped (.tuple (l.map PyData.str)) = true := by
  unfold SeqAt.shaped
  rw [show PyData.canLay0 (.tuple (l.map PyData.str)) = PyData.canLayAll0 (l.map PyData.str) from rfl, lay_texts l h,
    show PyData.depth (.tuple (l.map PyData.str)) = PyData.depthAll (l.map PyData.str) + 1 from rfl, depth_texts l]
  rfl
theorem eqv_texts : ∀ (l m : List Str), PyData.eqvAll (l.map PyData.str) (m.map PyData.str) = decide (l = m)
  | [], [] => rfl
  | [], _ :: _ => rfl
  | _ :: _, [] => rfl
  | x :: l, y :: m => by
    show (PyData.eqv (.str x) (.str y) && PyData.eqvAll (l.map PyData.str) (m.map PyData.str)) = _
    rw [eqv_texts l m, show PyData.eqv (.str x) (.str y) = decide (x = y) from Flat.eqv x y, ← Bool.decide_and]
    exact decide_eq_decide.mpr ⟨fun h => by rw [h.1, h.2], fun h => by cases h; exact ⟨rfl, rfl⟩⟩
theorem dp_tpl {H : Hp} {t : Tpl Str} {v : V} (s : Sub G H) (h : rep K t v G) : Dp K H v (.tuple (t.l.map PyData.str)) := by
  obtain ⟨a, xs, ev, hA, r⟩ := h
  have e := reps_flat r
  subst e
  rw [ev]
  exact .tup (sqT_mono s.get hA) (dp_texts t.l)
theorem ev_eqT {l m : Tpl Str} (ha : EvR K ta σ G l) (hb : EvR K tb σ G m) (hl : TOk l.l ∧ TOk m.l) : EvR K (tOp (rEqD K) ta tb) σ G (eqB l.l m.l) :=
  ev_op ha hb fun v w G1 H1 _ s hv hw Q q => ⟨_, _, dp_tpl s hv, dp_tpl s hw, shaped_texts hl.1, shaped_texts hl.2, by
    rw [show PyData.eqv (.tuple (l.l.map PyData.str)) (.tuple (m.l.map PyData.str)) = PyData.eqvAll (l.l.map PyData.str) (m.l.map PyData.str) from rfl, eqv_texts]
    exact q _ G1 H1 (Grow.refl s) rfl⟩
theorem ev_neT {l m : Tpl Str} (ha : EvR K ta σ G l) (hb : EvR K tb σ G m) (hl : TOk l.l ∧ TOk m.l) : EvR K (tOp (rNeD K) ta tb) σ G (!eqB l.l m.l) :=
  ev_op ha hb fun v w G1 H1 _ s hv hw Q q => ⟨_, _, dp_tpl s hv, dp_tpl s hw, shaped_texts hl.1, shaped_texts hl.2, by
    rw [show PyData.eqv (.tuple (l.l.map PyData.str)) (.tuple (m.l.map PyData.str)) = PyData.eqvAll (l.l.map PyData.str) (m.l.map PyData.str) from rfl, eqv_texts]
    exact q _ G1 H1 (Grow.refl s) rfl⟩
/-- x is True, x is not False -/
abbrev rIsB : R2 := fun x y H Q => ∃ a b, x = .bl a ∧ y = .bl b ∧ Q (.bl (decide (a = b))) H
abbrev rIsNB : R2 := fun x y H Q => ∃ a b, x = .bl a ∧ y = .bl b ∧ Q (.bl (!decide (a = b))) H
theorem ev_isB (ha : EvR K ta σ G b) (hb : EvR K tb σ G c) : EvR K (tOp rIsB ta tb) σ G (eqB b c) :=
  ev_op ha hb fun v w G1 H1 _ s hv hw Q q => ⟨b, c, hv, hw, q _ G1 H1 (Grow.refl s) rfl⟩
theorem ev_isNB (ha : EvR K ta σ G b) (hb : EvR K tb σ G c) : EvR K (tOp rIsNB ta tb) σ G (!eqB b c) :=
  ev_op ha hb fun v w G1 H1 _ s hv hw Q q => ⟨b, c, hv, hw, q _ G1 H1 (Grow.refl s) rfl⟩
theorem tyX_tup {H : Hp} {a : Addr} {xs : List V} (h : SqT K H a xs) : TyX K H (.ref a) (.type "tuple") := by
  rcases h with h | ⟨o, _, _, h, hc, _⟩
  · rcases h with h | ⟨o, h⟩
    · exact .base (.tup h)
    · exact .fTuple h
  · exact .kTuple h hc
theorem ev_isTup {l : Tpl α} (ha : EvR K ta σ G l) : EvR K (tCB (rIsi K) (tCons ta (tCons (tC (.ty "tuple")) tNil))) σ G true := fun H e Q q =>
  ha H e _ fun v G1 H1 g1 ⟨a, xs, ev, hA, r⟩ => ⟨v, .ty "tuple", .type "tuple", .type "tuple", true, rfl, .ty _, by rw [ev]; exact tyX_tup (sqT_mono g1.s.get hA), kit_ty (by decide +kernel), q _ G1 H1 g1 rfl⟩
theorem ev_isBool (ha : EvR K ta σ G b) : EvR K (tCB (rIsi K) (tCons ta (tCons (tC (.ty "bool")) tNil))) σ G true := fun H e Q q =>
  ha H e _ fun v G1 H1 g1 r => ⟨v, .ty "bool", .type "bool", .type "bool", true, rfl, .ty _, by rw [show v = V.bl b from r]; exact .base (.bl b), kit_ty (by decide +kernel), q _ G1 H1 g1 rfl⟩
theorem ev_joinT {s : Str} {l : Tpl Str} (ha : EvR K ta σ G s) (hb : EvR K tb σ G l) (h : (l.l.map (·.length)).sum + l.l.length * s.length ≤ 16777216) :
    EvR K (tM1 (fun x xs H Q => ∃ a p, ∃ ys : List Str, x = .str a ∧ xs = [.ref p] ∧ (SqL K H p (ys.map V.str) ∨ SqT K H p (ys.map V.str)) ∧ (ys.map (·.length)).sum + ys.length * a.length ≤ 16777216 ∧ Q (.str (Txt.join a ys)) H) ta tb) σ G (Txt.join s l.l) := fun H e Q q =>
  ha H e _ fun v G1 H1 g1 r1 => ⟨⟨s, r1⟩, hb.mono g1.g H1 g1.s _ fun w G2 H2 g2 ⟨a, xs, ev, hA, r2⟩ => ⟨s, a, l.l, r1, by rw [ev], .inr (by
    have e := reps_flat r2
    subst e
    exact sqT_mono g2.s.get hA), h, q _ G2 H2 (g1.trans g2) rfl⟩⟩
/-! ### one of two kinds -/
def getL [Inhabited α] (s : Sum α β) : α := match s with
  | .inl x => x
  | .inr _ => default
def getR [Inhabited β] (s : Sum α β) : β := match s with
  | .inl _ => default
  | .inr x => x
theorem ev_inl [Inhabited α] {s : Sum α β} (h : EvR K te σ G s) (hs : s.isLeft = true) : EvR K te σ G (getL s) := by
  cases s with
  | inl x => exact h
  | inr x => cases hs
theorem ev_inr [Inhabited β] {s : Sum α β} (h : EvR K te σ G s) (hs : s.isRight = true) : EvR K te σ G (getR s) := by
  cases s with
  | inl x => cases hs
  | inr x => exact h
instance : Inhabited (Tpl α) := ⟨⟨[]⟩⟩
/-- for a, b in pairs: the pair taken apart -/
theorem pair_apart {p : α × β} {σ' : L2.St} {H : Hp} {Q : L2.St → Hp → Prop} {i j : Nat} {v : V} (r : rep K p v G) (s : Sub G H) (k : ∀ u w, rep K p.1 u G → rep K p.2 w G → Q ((σ'.set i (some u)).set j (some w)) H) :
    gTup K 2 (gCons (gName i) (gCons (gName j) gNil)) v σ' H Q := by
  obtain ⟨a, u, w, ev, hA, r1, r2⟩ := r
  exact ⟨a, [u, w], ev, sqT_mono s.get hA, rfl, u, [w], rfl, w, [], rfl, rfl, k u w r1 r2⟩
end
/-! ### words with spaces between -/
section
open TL
variable {t w l : Str} {L : List Str} {n : Int}
theorem s_assoc (a b c : Str) : a ++ b ++ c = a ++ (b ++ c) := tl_inj (by rw [tl_append, tl_append, tl_append, tl_append, List.append_assoc])
theorem s_nil (a : Str) : a ++ ("" : Str) = a := tl_inj (by rw [tl_append, show tl ("" : Str) = [] by decide +kernel, List.append_nil])
theorem s_nil0 (a : Str) : ("" : Str) ++ a = a := tl_inj (by rw [tl_append, show tl ("" : Str) = [] by decide +kernel, List.nil_append])
theorem s_empty : (Str.empty : Str) = ("" : Str) := by decide +kernel
theorem join_cons2 (y x z : Str) (r : List Str) : Txt.join y (x :: z :: r) = x ++ y ++ Txt.join y (z :: r) := by rw [join_eq, join_eq]; rfl
theorem join_one (y x : Str) : Txt.join y [x] = x := by rw [join_eq]; rfl
theorem join_snoc (y : Str) : ∀ (l : List Str) (a m : Str), Txt.join y (l ++ [a] ++ [m]) = Txt.join y (l ++ [a]) ++ y ++ m
  | [], a, m => by
    show Txt.join y [a, m] = Txt.join y [a] ++ y ++ m
    rw [join_cons2, join_one, join_one]
  | [x], a, m => by
    show Txt.join y [x, a, m] = Txt.join y [x, a] ++ y ++ m
    rw [join_cons2, join_cons2, join_cons2, join_one, join_one]
    simp only [s_assoc]
  | x :: z :: r, a, m => by
    show Txt.join y (x :: z :: (r ++ [a] ++ [m])) = Txt.join y (x :: z :: (r ++ [a])) ++ y ++ m
    rw [join_cons2, join_cons2, show z :: (r ++ [a] ++ [m]) = (z :: r) ++ [a] ++ [m] from rfl, join_snoc y (z :: r) a m, show z :: (r ++ [a]) = (z :: r) ++ [a] from rfl]
    simp only [s_assoc]
theorem join_last (y : Str) (w : Str) : ∀ (l : List Str) (a : Str), Txt.join y (l ++ [a]) ++ w = Txt.join y (l ++ [a ++ w])
  | [], a => by
    show Txt.join y [a] ++ w = Txt.join y [a ++ w]
    rw [join_one, join_one]
  | [x], a => by
    show Txt.join y [x, a] ++ w = Txt.join y [x, a ++ w]
    rw [join_cons2, join_cons2, join_one, join_one, s_assoc]
  | x :: z :: r, a => by
    show Txt.join y (x :: z :: (r ++ [a])) ++ w = Txt.join y (x :: z :: (r ++ [a ++ w]))
    rw [join_cons2, join_cons2, s_assoc, show z :: (r ++ [a]) = (z :: r) ++ [a] from rfl, join_last y w (z :: r) a]
    rfl
theorem tl_sp : tl (" " : Str) = [32] := by decide +kernel
/-- the text's parts between single spaces: L, the last one l -/
structure Pt (t : Str) (L : List Str) (l : Str) : Prop where
  eq : t = Txt.join (" " : Str) (L ++ [l])
  no : ∀ p ∈ L ++ [l], 32 ∉ tl p
theorem Pt.split (h : Pt t L l) : Txt.split t (" " : Str) = L ++ [l] := by
  rw [h.eq]
  exact split_join tl_sp (by decide +kernel) (by simp) h.no
theorem pt_nil : Pt ("" : Str) [] ("" : Str) := ⟨by decide +kernel, fun p hp => by rw [List.mem_singleton.mp hp]; decide +kernel⟩
theorem Pt.sp (h : Pt t L l) : Pt (t ++ (" " : Str)) (L ++ [l]) ("" : Str) := ⟨by rw [join_snoc, s_nil, h.eq], fun p hp => by
  rcases List.mem_append.mp hp with q | q
  · exact h.no p q
  · rw [List.mem_singleton.mp q]; decide +kernel⟩
theorem Pt.word (h : Pt t L l) (hw : 32 ∉ tl w) : Pt (t ++ w) L (l ++ w) := ⟨by rw [h.eq, join_last], fun p hp => by
  rcases List.mem_append.mp hp with q | q
  · exact h.no p (List.mem_append_left _ q)
  · rw [List.mem_singleton.mp q, tl_append]
    intro z
    rcases List.mem_append.mp z with z | z
    · exact h.no l (List.mem_append_right _ List.mem_cons_self) z
    · exact hw z⟩
/-- the parts that are not empty -/
def wds (l : List Str) : List Str := l.filter fun p => !eqB p ("" : Str)
theorem wds_snoc (l : List Str) (x : Str) (h : x ≠ ("" : Str)) : wds (l ++ [x]) = wds l ++ [x] := by
  unfold wds
  rw [List.filter_append, List.filter_cons_of_pos (by rw [show eqB x ("" : Str) = false from decide_eq_false h]; rfl)]
  rfl
theorem wds_nil (l : List Str) : wds (l ++ [("" : Str)]) = wds l := by
  unfold wds
  rw [List.filter_append, List.filter_cons_of_neg (by rw [eqB_self]; decide)]
  rw [List.filter_nil, List.append_nil]
theorem mulS_succ (x : Str) (k : Nat) : mulS x ((k + 1 : Nat) : Int) = mulS x (k : Int) ++ x := by
  refine tl_inj ?_
  rw [tl_append]
  show (List.replicate ((k + 1 : Nat) : Int).toNat x.cps.toList).flatten = (List.replicate ((k : Nat) : Int).toNat x.cps.toList).flatten ++ x.cps.toList
  rw [Int.toNat_natCast, Int.toNat_natCast, List.replicate_succ', List.flatten_append]
  simp
theorem Pt.sps : ∀ (k : Nat), Pt t L l → ∃ L' l', Pt (t ++ mulS (" " : Str) (k : Int)) L' l' ∧ wds (L' ++ [l']) = wds (L ++ [l]) ∧ ((1 ≤ k ∨ l = ("" : Str)) → l' = ("" : Str)) ∧ ∀ p ∈ L ++ [l], p ∈ L' ++ [l']
  | 0, h => ⟨L, l, by rw [mulS_zero (by decide), s_empty, s_nil]; exact h, rfl, fun q => q.elim (fun z => absurd z (by decide)) id, fun _ q => q⟩
  | k + 1, h => by
    obtain ⟨L', l', h1, h2, _, h4⟩ := Pt.sps k h
    refine ⟨L' ++ [l'], ("" : Str), ?_, by rw [wds_nil, h2], fun _ => rfl, fun p hp => List.mem_append_left _ (h4 p hp)⟩
    rw [mulS_succ, ← s_assoc]
    exact h1.sp
theorem Pt.spI (h0 : 0 ≤ n) (h : Pt t L l) : ∃ L' l', Pt (t ++ mulS (" " : Str) n) L' l' ∧ wds (L' ++ [l']) = wds (L ++ [l]) ∧ ((1 ≤ n ∨ l = ("" : Str)) → l' = ("" : Str)) ∧ ∀ p ∈ L ++ [l], p ∈ L' ++ [l'] := by
  obtain ⟨L', l', h1, h2, h3, h4⟩ := Pt.sps n.toNat h
  rw [Int.toNat_of_nonneg h0] at h1
  exact ⟨L', l', h1, h2, fun q => h3 (q.imp (fun z => by omega) id), h4⟩
end
end RL

set_option Elab.async false
set_option linter.all false
set_option maxRecDepth 100000
set_option maxHeartbeats 4000000
namespace RL
open PySem PySem.Spec PyProof.Rows L2 GxR
open Rep (rep)
/-! ### all(test for c in text): the test may name the module's names too -/
/-- the test of one sign, wherever the module's names stand as mg says and the built-in ones as they are -/
def EltM (pg : Program) (wd : World) (mg : Str → Option Value) (sc : Scope) (c : Str) (tst : Expr) (pb : Nat → Bool) : Prop :=
  ∀ (en : Env) (B : Around) (Z : Value → Shared → Prop) (k : Nat) (tk : Tok) (sh : Shared) (lm : Str → Option Value),
    en.scope = sc → en.globals = mainGlobals → sh.heap.Ns mainGlobals mg → sh.heap.Ns en.locals lm → lm c = some (.str ⟨#[k]⟩ tk) →
      wpAny (model pg wd) B (eval tst en) (fun u s3 => u = .bool (pb k) ∧ Keeps sh s3) Z sh
section
variable {X : Cx} {pins : List (Addr × Obj)} {σ : L2.St} {H : Hp} {s : Shared}
theorem gen_text {cd T : Addr} {tst src : Expr} {c : Str} {p1 p2 : Pos} {sc : Scope} {pb : Nat → Bool} {te : TE} {lv : Nat} {Z : Value → Shared → Prop} {R : Str → Hp → Prop}
    (room : Room lv X.A) (tb : TabB X.base X.mg cd T) (hcd : X.env.code = .ref cd) (gs : GenS X.env sc c) (hsrc : PE X src te)
    (htst : EltM X.prog X.w X.mg sc c tst pb) (hfold : ∀ u, genFold src X.env u = pure u) (I : Inv X pins σ H s)
    (start : te σ H fun v H1 => ∃ z : Str, v = .str z ∧ TabG H1 T ∧ R z H1)
    (fin : ∀ z H1 g s5, R z H1 → Ready X pins σ H1 T z pb g s5 → Z (.ref g) s5) :
    wpAny (model X.prog X.w) X.A (eval (.GeneratorExp tst [⟨.Name c p1, src, [], 0⟩] sc p2) X.env) Z X.xe s := by
  have hdepth : X.A.depth + 5 < recursionLimit := by
    have := room.dp
    omega
  refine wpAny_GeneratorExp_walksQ room.hd gs.co (closure_ok gs.free) gs.cell gs.dot gs.loc gs.kind (by have := room.dp; omega)
    (thn (hsrc.run pins s σ H _ I start) fun vx sa ⟨v, HA, IA, rv, ⟨z, ez, ⟨ps, eT, trs⟩, hR⟩⟩ => ?_) hfold
  subst ez
  obtain ⟨tz, rfl⟩ := _root_.id rv
  refine wpAny_pyIter_str fun nw St W st0 => ?_
  -- the table, ahead of the iterator and behind it
  have tA : sa.heap.get? T = some { cls := .none, data := .fields ps } := IA.hok T _ eT
  have tB : (sa.heap.push nw).get? T = some { cls := .none, data := .fields ps } := Heap.get?_push_of_some _ tA
  have ltT : T < sa.heap.objs.size := Heap.lt_size tA
  have cdB : PySem.W.CodeHd (sa.heap.push nw) cd T := tb.code.keeps fun b u q => Heap.get?_push_of_some _ (IA.bk b u q)
  have limB : (sa.heap.push nw).NoLimit := IA.nolimit.push nw
  have sizeB : (sa.heap.push nw).objs.size = sa.heap.objs.size + 1 := Heap.size_push ..
  obtain ⟨nsS, ltS⟩ : cStatics ≠ T ∧ cStatics < sa.heap.objs.size := by
    obtain ⟨m0, n0, _⟩ := IA.nolimit
    refine ⟨fun q => ?_, n0.lt⟩
    obtain ⟨o0, es0, ep0, g0, d0, _⟩ := n0
    rw [q, tA] at g0
    cases g0
    cases d0
  -- from the state in which the code object is there
  have onward : ∀ (cv : Value) (hp : Heap) (k : Nat) (qs : Array Value), Heap.ExtBut T (sa.heap.push nw) hp →
      (sa.heap.push nw).objs.size ≤ hp.objs.size → hp.get? T = some { cls := .none, data := .fields qs } → (∃ more, qs = ps ++ more) → TriplesOk qs.toList →
      wpAny (model X.prog X.w) X.A (builtinsFor X.env.globals X.env.builtins)
        (fun bi s4 => ∃ Ia fp wr n₀ Pf St₀ pz F, Value.ref sa.heap.objs.size = .ref Ia ∧ (∀ A' : Around, A'.handled = none → Walks X.prog X.w A' Ia fp wr n₀ Pf St₀) ∧
          St₀ 0 s4.heap ∧ (∀ b ∈ fp, b < s4.heap.objs.size) ∧ s4.heap.NoLimit ∧ cStatics ∉ wr ∧
          (∀ ref : Heap, (∀ b o, s4.heap.get? b = some o → ref.get? b = some o) →
            QuietGen X.prog X.w (genEnv sc (cloFrom X.env.cells sc.names []) s4.heap.objs.size cv bi X.env) c [] tst (List.range s4.heap.objs.size) wr Pf pz F ref) ∧
          (∀ ga h5 tk gn, gn.bare = true → s4.heap.objs.size < ga → h5.objs.size = ga + 1 → (∀ b o, s4.heap.get? b = some o → h5.get? b = some o) →
            WalksS X.prog X.w X.A.in4 ga (ga :: s4.heap.objs.size :: List.range s4.heap.objs.size) (s4.heap.objs.size :: wr) (GenOnlyQ s4.gens.size) (passing pz n₀ 0).length
              (fun j y => ∃ i, (passing pz n₀ 0)[j]? = some i ∧ F i y)
              (GenAt X.prog X.w X.A.in4 ga s4.gens.size s4.heap.objs.size (List.range s4.heap.objs.size) wr pz n₀ F) →
            GenAt X.prog X.w X.A.in4 ga s4.gens.size s4.heap.objs.size (List.range s4.heap.objs.size) wr pz n₀ F 0 { s4 with gens := s4.gens.push gn, toks := tk, heap := h5 } →
            Z (.ref ga) { s4 with gens := s4.gens.push gn, toks := tk, heap := h5 }))
        X.xe { sa with heap := hp, toks := k } := by
    intro cv hp k qs ext grown tC ⟨more, em⟩ trC
    have keepC : ∀ b u, b ≠ T → sa.heap.get? b = some u → hp.get? b = some u := fun b u nb q => ext b u nb (Heap.get?_push_of_some _ q)
    obtain ⟨bm, ob, b1, b2, b3, b4, b5, b6, b7, b8⟩ := tb.bm
    have globC : hp.Ns mainGlobals X.mg := ((IA.mod.glob.keeps IA.bk).push nw).extBut ext tb.gP
    refine wpAny_builtinsFor (m := X.mg) (by rw [IA.ok.glob]; exact globC) b1 b2 (keepC _ _ b4 (IA.bk _ _ b5)) b6 b7 b8 ?_
    refine ⟨sa.heap.objs.size, [sa.heap.objs.size], [sa.heap.objs.size], z.cps.size, SignAt z, St, fun _ => true,
      fun i y => ∃ k', z.cps[i]? = some k' ∧ y = .bool (pb k'), rfl, W, ?_, fun b hb => ?_, limB.extBut ext nsS, fun q => ?_, ?_, ?_⟩
    · refine (W X.A room.hd).frame _ _ _ st0 fun b hb u q => ext b u (fun q2 => ?_) q
      rw [List.mem_singleton] at hb
      rw [hb] at q2
      exact Nat.ne_of_lt ltT q2.symm
    · rw [List.mem_singleton] at hb
      rw [hb]
      show sa.heap.objs.size < hp.objs.size
      omega
    · rw [List.mem_singleton] at q
      exact Nat.ne_of_lt ltS q
    · intro ref href
      refine ⟨fun B E2 i v s2 m2 _ _ _ _ _ => ?_, fun B E2 i v s2 m2 _ hsign _ hns hmc hkeep => ?_⟩
      · rw [List.forIn_nil]
        exact wpAny_pure ⟨rfl, keeps_refl _⟩
      · obtain ⟨k', tk', hk', rfl⟩ := hsign
        have glob2 : s2.heap.Ns mainGlobals X.mg := by
          obtain ⟨o1, es1, ep1, g1, rest⟩ := globC
          refine ⟨o1, es1, ep1, hkeep mainGlobals ?_ ?_ o1 (href _ _ g1), rest⟩
          · exact List.mem_range.mpr (Heap.lt_size g1)
          · intro q
            rw [List.mem_singleton] at q
            have g2 := IA.mod.glob.keeps IA.bk
            obtain ⟨o3, _, _, g3, _⟩ := g2
            have := Heap.lt_size g3
            rw [q] at this
            exact Nat.lt_irrefl _ this
        exact wpAny_mono (htst _ B E2 k' tk' s2 m2 rfl IA.ok.glob glob2 hns hmc) (fun y s3 r => ⟨⟨k', hk', r.1⟩, r.2⟩) fun _ _ q => q
    · intro ga h5 tk5 gn bareN ltG sz5 keep5 walk5 at5
      simp only [GxR.passing_true, List.length_range] at walk5
      refine fin z HA ga _ hR ⟨_, _, _, _, _, walk5.in4_1, at5, ?_, fun s' mv => ?_⟩
      · intro j y sj Qj Ej hy hQj
        obtain ⟨i, hij, k', hk', rfl⟩ := hy
        obtain ⟨hj, ej⟩ := List.getElem?_eq_some_iff.mp hij
        rw [List.getElem_range] at ej
        subst ej
        have hkl : z.cps.toList[j]? = some k' := by
          rw [Array.getElem?_toList]
          exact hk'
        have hQ2 : Qj (trF pb z.cps.toList j) sj := hQj
        rw [trF_some hkl] at hQ2
        exact wpAny_truthy_bool hQ2
      · have apart : ∀ b u, sa.heap.get? b = some u → b ∉ hp.objs.size :: [sa.heap.objs.size] := fun b u q hb => by
          have lt := Heap.lt_size q
          have : sa.heap.objs.size < hp.objs.size := by omega
          rcases List.mem_cons.mp hb with e | e
          · rw [e] at lt
            exact Nat.lt_asymm this lt
          · rw [List.mem_singleton.mp e] at lt
            exact Nat.lt_irrefl _ lt
        have J := inv_tab (more := more) (h' := s'.heap) (g' := s'.gens) (d' := s'.drawn) (t' := s'.toks) IA eT
          (fun b u nb q => mv.heap b u (apart b u q) (keep5 b u (keepC b u nb q)))
          (by rw [← em]; exact mv.heap T _ (apart T _ tA) (keep5 T _ tC)) (AllBare.movedS (IA.bare.push bareN) mv)
        rw [sh_eta sa s' mv.os] at J
        exact ⟨upd HA T (.tbl (ps ++ more)), ⟨⟨ps ++ more, upd_same, by rw [← em]; exact trC⟩, fun b nb => upd_ne nb⟩, J⟩
  refine ⟨limB, ?_⟩
  cases hf : codeAmong p2 ps.toList with
  | none =>
    refine wpAny_genexprCodeX hcd (cdB.code tB trs) (cdB.tab tB) hf fun cv hp tk ext ge lt co _ tab _ => ?_
    obtain ⟨_, _, _, _, _, _, _, _, _, _, _, _, _, _, _, _, _, _, _, trC, _⟩ := co
    exact onward _ hp tk _ ext (Nat.le_trans ge (Nat.le_of_lt lt)) tab.2 ⟨_, rfl⟩ trC
  | some cv =>
    refine wpAny_genexprCode_hit hcd (cdB.code tB trs) hf ?_
    exact onward cv (sa.heap.push nw) sa.toks ps (Heap.ExtBut.refl _ _) (Nat.le_refl _) tB ⟨#[], by simp⟩ trs
end
end RL
namespace RL
open PySem PySem.Spec PyProof.Rows L2 GxR
open Rep (rep)
section
variable {X : Cx} {pins : List (Addr × Obj)} {σ : L2.St} {H : Hp} {s : Shared}
theorem pe_allM {cd T : Addr} {tst src : Expr} {c : Str} {p1 p2 p3 pos : Pos} {sc : Scope} {pb : Nat → Bool} {te : TE} {lv : Nat}
    (room : Room lv X.A) (hg : Gl X "all") (hm : X.mg "all" = none) (hb : bootBuiltins "all" = some (.builtin "all")) (tb : TabB X.base X.mg cd T) (hcd : X.env.code = .ref cd) (gs : GenS X.env sc c) (hsrc : PE X src te)
    (htst : EltM X.prog X.w X.mg sc c tst pb) (hfold : ∀ u, genFold src X.env u = pure u)
    (hst : starEach [.GeneratorExp tst [⟨.Name c p1, src, [], 0⟩] sc p2] X.env = (false, eval (.GeneratorExp tst [⟨.Name c p1, src, [], 0⟩] sc p2) X.env) :: starEach [] X.env := by rfl) :
    PE X (.Call (.Name "all" p3) [.GeneratorExp tst [⟨.Name c p1, src, [], 0⟩] sc p2] [] pos) (tAllS T pb te) := by
  constructor
  intro pins s σ H Q I start
  refine wpAny_Call_Name_kw (ld_blt I hg hm hb (PyProof.Rows.callWith_builtin1 ?_ hst (by rfl)))
  rw [hst]
  show wpAny _ _ (spliced (_ :: backTo pos (starEach [] X.env))) _ _ s
  refine Calls.spliced_cons (gen_text (R := fun z H1 => ∀ H2, Tabbed T H1 H2 → Q (.bl (z.cps.toList.all pb)) H2) room tb hcd gs hsrc htst hfold I start fun z H1 g s5 hR ready => ?_)
  obtain ⟨fp, wr, G, F, St, W, at0, truth, back⟩ := ready
  refine Calls.spliced_nil (call_all_walkS (W.self 0 _ _ _ at0 ⟨g, fp, wr, G, _, F, St, _, rfl, W, at0, truth, fun s' mv => ?_⟩))
  obtain ⟨H2, t2, J⟩ := back s' mv
  exact ⟨.bl _, H2, J, rfl, by rw [all_signs z pb]; exact hR H2 t2⟩
end
section
variable [Tb] {K : PySem.W.Frag} {σ : L2.St} {G : Hp} {te : TE}
theorem ev_isStr {z : Str} (ha : EvR K te σ G z) : EvR K (tCB (rIsi K) (tCons te (tCons (tC (.ty "str")) tNil))) σ G true := fun H e Q q =>
  ha H e _ fun v G1 H1 g1 r => ⟨v, .ty "str", .type "str", .type "str", true, rfl, .ty _, by rw [show v = V.str z from r]; exact .base (.str z), kit_ty (by decide +kernel), q _ G1 H1 g1 rfl⟩
theorem genS_of {env : Env} {sc : Scope} {x : Str} (h1 : sc.kind = .function) (h2 : sc.isCoroutine = false) (h3 : ∀ y ∈ sc.names, y.2 ≠ .cell) (h4 : sc.names.lookup (".0" : Str) = some NameKind.local) (h5 : sc.names.lookup x = some .local) (h6 : ∀ y ∈ sc.names, y.2 ≠ .free) : GenS env sc x :=
  ⟨h1, h2, h3, h4, h5, fun y hy h => absurd h (h6 y hy)⟩
theorem ev_all {T : Addr} {pb : Nat → Bool} {z : Str} (hT : T ∈ Tb.ps) (h : EvR K te σ G z) : EvR K (tAllS T pb te) σ G (z.cps.toList.all pb) := fun H e Q q =>
  h H e _ fun v G1 H1 g1 r1 => ⟨z, r1, g1.s.t T hT, fun H2 t2 => q _ G1 H2 (g1.tab (g1.s.t T hT) t2) rfl⟩
end
/-! tests of a sign -/
section
variable {pg : Program} {wd : World} {mg : Str → Option Value} {sc : Scope} {c : Str}
theorem kp (s : Shared) (k : Nat) : Keeps s { s with toks := k } := keeps_tok s k
/-- c in NAME, a text that the module names -/
theorem elt_inG {x t : Str} {p1 p2 p3 : Pos} (hk : sc.kind = .function) (hl : sc.names.lookup c = some .local) (hx : sc.names.lookup x = some .globalImplicit) (hm : ∃ u, mg x = some u ∧ RelV (.str t) u)
    (hd : (c == ("__debug__" : Str)) = false := by decide) (hd2 : (x == ("__debug__" : Str)) = false := by decide) :
    EltM pg wd mg sc c (.Compare (.Name c p1) [.In] [.Name x p2] p3) (fun k => !(Builtin.Str.occurrences t ⟨#[k]⟩ 0 t.length 1).isEmpty) := by
  intro en B Z k tk sh lm e1 e2 hg hn hc
  obtain ⟨u, hu, tu, eu⟩ := hm
  subst eu
  subst e1
  refine wpAny_Compare1 (wpAny_Name (wpAny_loadName_local hk hl hn hc ?_) hd) (by rfl)
  refine Calls.Name_function_global hk hx (Calls.loadGlobal_global (by rw [e2]; exact hg) hu ?_) hd2
  exact PySem.P.in_str ⟨rfl, keeps_refl _⟩
/-- 'a' <= c <= 'z' -/
theorem elt_range {a b : Str} {j j2 : Nat} {p1 p2 p3 p4 : Pos} (hk : sc.kind = .function) (hl : sc.names.lookup c = some .local) (hd : (c == ("__debug__" : Str)) = false := by decide) :
    EltM pg wd mg sc c (.Compare (.Constant (.str a) j p1) [.LtE, .LtE] [.Name c p2, .Constant (.str b) j2 p3] p4) (fun k => !decide ([k] < a.cps.toList) && !decide (b.cps.toList < [k])) := by
  intro en B Z k tk sh lm e1 e2 hg hn hc
  subst e1
  refine Compare_chain (Calls.Constant_str ?_)
  refine chain_link (wpAny_Name (wpAny_loadName_local hk hl (show _ from hn) hc ?_) hd)
  refine PySem.P.le_str (wpAny_truthy_bool ?_)
  cases q : (!decide ([k] < a.cps.toList)) with
  | false =>
    refine ite_ff ⟨?_, kp _ _⟩
    show Value.bool false = Value.bool (!decide ([k] < a.cps.toList) && !decide (b.cps.toList < [k]))
    rw [q, Bool.false_and]
  | true =>
    refine ite_tt (chain_last (Calls.Constant_str (PySem.P.le_str ⟨?_, ?_⟩)))
    · show Value.bool (!decide (b.cps.toList < [k])) = Value.bool (!decide ([k] < a.cps.toList) && !decide (b.cps.toList < [k]))
      rw [q, Bool.true_and]
    · exact kp _ _
end
end RL
namespace RL
open PySem PySem.Spec PyProof.Rows L2 GxR
open Rep (rep)
/-! ### a def whose code object is known; the end of a row with such tables -/
theorem okC {P : Program} {w : World} {K : PySem.W.Frag} {mg : Str → Option Value} {base : Heap} {x qual : Str} {st : Stmt} {f c : Addr} {fd : FuncData} {N ps : List Str} {k : Nat} {sp : Sp} (F : Fun K x qual st f fd) (hc : fd.code = .ref c) (S : FnScope N ps (defScope st))
    (len : ∀ vs H Q E, sp vs H Q E → vs.length = ps.length)
    (body : ∀ (A : Around) (outer : List Env) (s : Shared) (H : Hp) (vs : List V) (Q : VK) (E : XK), Room k (A.deeper (envOfC qual (defScope st) s.heap.objs.size f (.ref c))) → sp vs H Q E →
      ∃ t, PSs (cxOf CX0 P w K mg base N qual (defScope st) f (.ref c) A outer s H E).nox (defBody st) t ∧ t { nx := fun _ H' => Q .non H', rt := Q } (start N vs) H) :
    FnOk P w K mg base CX0 (k + 1) f fd ps sp := by
  obtain ⟨oc, od, kV, doc, pm, an, cdv, ct, osl, e, lk, hcd⟩ := F.ex
  subst e
  have e2 : cdv = .ref c := hc
  subst e2
  refine fn_of lk hcd S len fun A outer s H vs Q E hr hs => ?_
  obtain ⟨t, h, q⟩ := body A outer s H vs Q E hr hs
  exact ⟨t, h.nox, q⟩
/-- H without the tables -/
def strip (H : Hp) : Hp := fun a => match H a with
  | some (.tbl _) => none
  | o => o
theorem strip_some {H : Hp} {a : Addr} {o : HO} (h : H a = some o) (n : noTb o) : strip H a = some o := by
  unfold strip
  rw [h]
  cases o with
  | tbl q => exact absurd rfl (n q)
  | _ => rfl
theorem strip_get {H : Hp} {a : Addr} {o : HO} (h : strip H a = some o) : H a = some o ∧ noTb o := by
  unfold strip at h
  cases q : H a with
  | none => rw [q] at h; cases h
  | some u =>
    rw [q] at h
    cases u with
    | tbl z => cases h
    | _ =>
      cases h
      exact ⟨rfl, fun z e => by cases e⟩
theorem law_start [Tb] {K : PySem.W.Frag} {H : Hp} {a : Addr} {ns : List Int} (hT : ∀ P ∈ Tb.ps, H P = some (.tbl #[])) (hS : SqL K H a (ns.map V.int)) : Sub (strip H) H ∧ rep K (Scr.mk ns) (V.ref a) (strip H) := by
  refine ⟨⟨fun b o h => strip_get h, fun P hP => ⟨#[], hT P hP, by trivial⟩⟩, a, rfl, ?_⟩
  rcases hS with (h | ⟨o, h⟩) | h
  · exact .inl (.inl (strip_some h fun q z => by cases z))
  · exact .inl (.inr ⟨o, strip_some h fun q z => by cases z⟩)
  · exact .inr h
theorem walk_tabs {l : PySem.W.OpenLaw} {q : Program} {loose : List Str} {XP : (Str → Option Value) → Heap → Prop} {YP : World → Heap → Prop} {d : DefRec} {K : Params → PySem.W.Frag} {lv nm : Nat}
    (hn : l.most = some nm) (hn2 : nm ≤ sizeLine) (hdf : d.params.defaults = []) (hr : Room lv callerA) (hY : ∀ (w : World) (h : Heap), YP w h → (K w.params).In h)
    (F : ∀ (w : World) (mg : Str → Option Value) (fa : Addr) (h : Heap), (K w.params).In h → h.Ns mainGlobals mg → mg d.name = some (.ref fa) →
      ∃ (fd : FuncData) (cs : List (Addr × Addr)) (sp : Sp), (∀ p ∈ cs, ∃ x e, (recsOf q).find? (fun r => r.name == x) = some e ∧ PySem.W.tabIn (K w.params) x = some p) ∧ (∀ p ∈ cs, (K w.params).lookup p.2 = none) ∧
        (∀ (s : Shared) (u : Value), BindsTo s fd ⟨[u], []⟩ [("script", u)]) ∧
        (∀ (H : Hp) (a : Addr) (ns : List Int), ns.length ≤ nm → (∀ p ∈ cs, H p.2 = some (.tbl #[])) → SqL (K w.params) H a (ns.map V.int) → sp [.ref a] H (fun v _ => v = .bl true) fun _ _ _ => False) ∧
        ∀ base : Heap, (K w.params).In base → base.Ns mainGlobals mg → (∀ p ∈ cs, TabB base mg p.1 p.2) → FnOk l.prog w (K w.params) mg base CX0 lv fa fd ["script"] sp) :
    PySem.W.WalkO q loose XP YP l.row.toRowW d [] (fun f vs => PySem.call f vs) := by
  refine Att.attach_callB hn hdf fun w s0 s1 mg mb fa o pm cd doc a vs ns G Y ho hd hcd hmg hobj hints hlen hbits hg => ?_
  have KX := hY w _ Y
  obtain ⟨fd, cs, sp, hx, nT, hb, hsp, hF⟩ := F w mg fa _ KX G.T.g hmg
  have tabs : ∀ p ∈ cs, PySem.W.CodeHd s1.heap p.1 p.2 ∧ s1.heap.get? p.2 = some { cls := .none, data := .fields #[] } := fun p hp => by
    obtain ⟨x, e, h1, h2⟩ := hx p hp
    exact PySem.W.tab_of G.T KX h1 h2
  exact LamX.law_callTs KX G.T.g G.T.b G.T.builtins G.T.nolimit hg (fun p hp => (tabs p hp).2) nT (fun p hp => (tabs p hp).1) G.T.bmain hobj hints (Nat.le_trans hlen hn2) hr (CX := CX0) (fun base b1 b2 b3 => hF base b1 b2 fun p hp => ⟨(b3 p hp).code, (b3 p hp).bm, (b3 p hp).gP⟩) hb
    (fun H hH hS => hsp H a ns hlen hH hS) fun H e s' z => z
end RL

set_option Elab.async false
set_option linter.all false
set_option maxRecDepth 100000
set_option maxHeartbeats 4000000
namespace RL
open PySem PySem.Spec PyProof.Rows L2 CwR
open Rep (rep)
/-! ### replace, f-strings, partition; data that may be None or a pair -/
section
variable [Tb] {K : PySem.W.Frag} {σ : L2.St} {G : Hp} {te ta tb : TE} {x y z : Str}
theorem ev_replC (h : EvR K te σ G x) (hz : x.length + (x.length + 1) * z.length ≤ 16777216) : EvR K (tReplC te y z) σ G (Txt.replace x y z) := fun H e Q q =>
  h H e _ fun v G1 H1 g1 r1 => ⟨x, r1, hz, q _ G1 H1 g1 rfl⟩
/-- the parts of an f-string: told one by one -/
def EvJ (ts : List TE) (acc : Str) (σ : L2.St) (G : Hp) (out : Str) : Prop := ∀ H, Sub G H → ∀ Q : Str → Hp → Prop, (∀ G2 H2, Grow G H G2 H2 → Q out H2) → tJs ts acc σ H Q
theorem ej_nil {acc : Str} : EvJ [] acc σ G acc := fun H e Q q => q G H (Grow.refl e)
theorem EvJ.mono {ts : List TE} {acc out : Str} {G2 : Hp} (h : EvJ ts acc σ G out) (e : Same G G2) : EvJ ts acc σ G2 out := fun H s Q q => h H (un e s) Q fun G3 H3 g => q _ H3 (grow_up g e s)
theorem ej_cons {ts : List TE} {acc out : Str} (h : EvR K te σ G x) (hz : (acc ++ x).length ≤ sizeLine) (r : EvJ ts (acc ++ x) σ G out) : EvJ (te :: ts) acc σ G out := fun H e Q q =>
  h H e _ fun v G1 H1 g1 r1 => ⟨x, r1, hz, (r.mono g1.g) H1 g1.s Q fun G2 H2 g2 => q G2 H2 (g1.trans g2)⟩
theorem ev_fmt (h : EvR K te σ G x) (hz : x.length ≤ sizeLine) : EvR K (tFmt te) σ G x := fun H e Q q => h H e _ fun v G1 H1 g1 r1 => .inl ⟨x, r1, hz, q _ G1 H1 g1 rfl⟩
theorem ev_joined {ts : List TE} {out : Str} (h : EvJ ts Str.empty σ G out) : EvR K (fun σ H Q => tJs ts Str.empty σ H fun out H1 => Q (.str out) H1) σ G out := fun H e Q q => h H e _ fun G1 H1 g1 => q _ G1 H1 g1 rfl
theorem ev_partition (ha : EvR K ta σ G x) (hb : EvR K tb σ G y) (h1 : (y.length == 0) = false) (h2 : x.length ≤ sizeLine) :
    EvR K (tM1 (fun x xs H Q => ∃ a b, x = .str a ∧ xs = [.str b] ∧ (b.length == 0) = false ∧ a.length ≤ sizeLine ∧
      ∀ p, H p = none → Q (.ref p) (upd H p (.tup [.str (Txt.partition a b).1, .str (Txt.partition a b).2.1, .str (Txt.partition a b).2.2]))) ta tb) σ G (T3.mk (Txt.partition x y).1 (Txt.partition x y).2.1 (Txt.partition x y).2.2) := fun H e Q q =>
  ha H e _ fun v G1 H1 g1 r1 => ⟨⟨x, r1⟩, hb.mono g1.g H1 g1.s _ fun w G2 H2 g2 r2 => ⟨x, y, r1, by rw [show w = V.str y from r2], h1, h2, fun p hp =>
    q _ _ _ ((g1.trans g2).trans (Grow.new g2.s hp)) ⟨p, _, _, _, rfl, SqT.of upd_same, rfl, rfl, rfl⟩⟩⟩
end
/-- name = value, a token out -/
theorem pst_asg {X : Cx} {i : Nat} {x : Str} {e : Expr} {te : TE} {p q : Pos} (nd : X.N.Nodup) (at_ : X.N[i]? = some x) (loc : Loc X.env.scope x) (val : PET X e te) (sw : swapsWith e (some (.Name x q)) p.line X.env = pure false := by rfl) (hf : X.fn x = true ∨ X.env.scope.names.lookup x = some .local := by first | exact .inl rfl | exact .inr rfl | assumption) :
    PST X (.Assign [.Name x q] e p) (tAsg te (gName i)) := fun pins s σ H D one I h =>
  wpAny_Assign_Name (thn (val pins s σ H _ one I h) fun _ s1 ⟨_, H1, I1, r1, q1⟩ => store_ok I1 nd at_ loc r1 (fun s2 I2 => ⟨_, H1, I2, q1⟩) hf) sw
/-- a def that begins with a token out -/
theorem okT {P : Program} {w : World} {K : PySem.W.Frag} {mg : Str → Option Value} {base : Heap} {x qual : Str} {st : Stmt} {f : Addr} {fd : FuncData} {N ps : List Str} {k : Nat} {sp : Sp} (F : Fun K x qual st f fd) (S : FnScope N ps (defScope st))
    (hnc : ∀ y ∈ (defScope st).names, y.2 ≠ .cell) (hps : 1 ≤ ps.length) (len : ∀ vs H Q E, sp vs H Q E → vs.length = ps.length)
    (body : ∀ (cdv : Value) (A : Around) (outer : List Env) (s : Shared) (H : Hp) (vs : List V) (Q : VK) (E : XK), Room k (A.deeper (envOfC qual (defScope st) s.heap.objs.size f cdv)) → sp vs H Q E →
      ∃ t, PSsT (cxOf CX0 P w K mg base N qual (defScope st) f cdv A outer s H E) (defBody st) t ∧ t { nx := fun _ H' => Q .non H', rt := Q } (start N vs) H) :
    FnOk P w K mg base CX0 (k + 1) f fd ps sp := by
  obtain ⟨oc, od, kV, doc, pm, an, cdv, ct, osl, e, lk, hcd⟩ := F.ex
  subst e
  exact fn_ofT lk hcd S hnc hps len fun A outer s H vs Q E hr hs => body cdv A outer s H vs Q E hr hs
section
variable [Tb] {α β γ : Type} [Rep α] [Rep β] [Rep γ] {K : PySem.W.Frag} {σ : L2.St} {G H : Hp} {te : TE} {D : Ends} {tz : TS} {i j k : Nat}
/-- a, b, c = a tuple of three -/
theorem s_asg3 {x : T3 α β γ} (e : Sub G H) (h : EvR K te σ G x) (n : ∀ u v w G2 H2, Grow G H G2 H2 → rep K x.a u G2 → rep K x.b v G2 → rep K x.c w G2 → D.nx (((σ.set i (some u)).set j (some v)).set k (some w)) H2) :
    tAsg te (gTup K 3 (gCons (gName i) (gCons (gName j) (gCons (gName k) gNil)))) D σ H :=
  h H e _ fun t G1 H1 g1 ⟨a, u, v, w, et, hA, r1, r2, r3⟩ => ⟨a, [u, v, w], et, sqT_mono g1.s.get hA, rfl, u, [v, w], rfl, v, [w], rfl, w, [], rfl, rfl, n u v w G1 H1 g1 r1 r2 r3⟩
theorem q_asg3 {x : T3 α β γ} (e : Sub G H) (h : EvR K te σ G x) (n : ∀ u v w G2 H2, Grow G H G2 H2 → rep K x.a u G2 → rep K x.b v G2 → rep K x.c w G2 → tz D (((σ.set i (some u)).set j (some v)).set k (some w)) H2) :
    tSeq (tAsg te (gTup K 3 (gCons (gName i) (gCons (gName j) (gCons (gName k) gNil))))) tz D σ H := s_asg3 (D := { D with nx := tz D }) e h n
end
/-! data as the library's own kind of it: None, texts, pairs -/
class Dat (α : Type) [Rep α] where
  d : α → PyData
  dp : ∀ {K : PySem.W.Frag} {H : Hp} {x : α} {v : V} {G : Hp}, Same G H → rep K x v G → Dp K H v (d x)
instance : Dat Str := ⟨PyData.str, fun {K H x v G} s h => by rw [show v = V.str x from h]; exact .str x⟩
instance : Dat Int := ⟨PyData.int, fun {K H x v G} s h => by rw [show v = V.int x from h]; exact .int x⟩
instance : Dat Bool := ⟨PyData.bool, fun {K H x v G} s h => by rw [show v = V.bl x from h]; exact .bl x⟩
def datO {α : Type} [Rep α] [Dat α] (o : Option α) : PyData := match o with
  | none => .none
  | some x => Dat.d x
instance {α : Type} [Rep α] [Dat α] : Dat (Option α) := ⟨datO, fun {K H x v G} s h => by
  cases x with
  | none => rw [show v = V.non from h]; exact .non
  | some y => exact Dat.dp s (show rep K y v G from h)⟩
instance {α β : Type} [Rep α] [Rep β] [Dat α] [Dat β] : Dat (α × β) := ⟨fun p => .tuple [Dat.d p.1, Dat.d p.2], fun {K H x v G} s h => by
  obtain ⟨a, u, w, ev, hA, r1, r2⟩ := h
  rw [ev]
  exact .tup (sqT_mono s hA) (.cons (Dat.dp s r1) (.cons (Dat.dp s r2) .nil))⟩
section
variable [Tb] {α β : Type} [Rep α] [Rep β] [Dat α] [Dat β] {K : PySem.W.Frag} {σ : L2.St} {G : Hp} {ta tb : TE} {x : α} {y : β}
theorem ev_eqD (ha : EvR K ta σ G x) (hb : EvR K tb σ G y) (h : SeqAt.shaped (Dat.d x) = true ∧ SeqAt.shaped (Dat.d y) = true) : EvR K (tOp (rEqD K) ta tb) σ G (PyData.eqv (Dat.d x) (Dat.d y)) :=
  ev_op ha hb fun v w G1 H1 _ s hv hw Q q => ⟨_, _, Dat.dp s.get hv, Dat.dp s.get hw, h.1, h.2, q _ G1 H1 (Grow.refl s) rfl⟩
theorem ev_neD (ha : EvR K ta σ G x) (hb : EvR K tb σ G y) (h : SeqAt.shaped (Dat.d x) = true ∧ SeqAt.shaped (Dat.d y) = true) : EvR K (tOp (rNeD K) ta tb) σ G (!PyData.eqv (Dat.d x) (Dat.d y)) :=
  ev_op ha hb fun v w G1 H1 _ s hv hw Q q => ⟨_, _, Dat.dp s.get hv, Dat.dp s.get hw, h.1, h.2, q _ G1 H1 (Grow.refl s) rfl⟩
end
end RL

set_option Elab.async false
set_option linter.all false
set_option maxRecDepth 100000
set_option maxHeartbeats 1000000
/-! quoting by two replacements, and back -/
namespace RL
open PySem PySem.Spec PyProof.Rows L2 TL
theorem tl_rep {x y z : Str} (hy : 1 ≤ y.length) : tl (Txt.replace x y z) = StrLaws.replL (tl y) (tl z) (tl x) := StrLaws.replace_list hy
def esc (q : Nat) (z : List Nat) (l : List Nat) : List Nat := l.flatMap fun c => if c = q then z else [c]
theorem esc_cons (q : Nat) (z : List Nat) (c : Nat) (r : List Nat) : esc q z (c :: r) = (if c = q then z else [c]) ++ esc q z r := by
  unfold esc
  rw [List.flatMap_cons]
theorem rep_esc (q : Nat) (z : List Nat) : ∀ l : List Nat, StrLaws.replL [q] z l = esc q z l
  | [] => StrLaws.replL_nil
  | c :: r => by
    rw [esc_cons]
    by_cases h : c = q
    · rw [if_pos h, StrLaws.replL_hit (by simp) (by subst h; rfl)]
      show z ++ StrLaws.replL [q] z r = _
      rw [rep_esc q z r]
    · rw [if_neg h, StrLaws.replL_miss (by
        intro e
        have e2 : [c] = [q] := e
        exact h (List.cons.inj e2).1), rep_esc q z r]
      rfl
abbrev E1 (l : List Nat) := esc 92 [92, 92] l
abbrev E2 (l : List Nat) := esc 34 [92, 34] l
theorem e2_app (a b : List Nat) : E2 (a ++ b) = E2 a ++ E2 b := by unfold E2 esc; rw [List.flatMap_append]
theorem e2_head : ∀ l : List Nat, (E2 l).head? ≠ some 34
  | [] => by intro h; cases h
  | c :: r => by
    rw [show E2 (c :: r) = (if c = 34 then [92, 34] else [c]) ++ E2 r from esc_cons ..]
    by_cases h : c = 34
    · rw [if_pos h]; intro e; cases e
    · rw [if_neg h]
      intro e
      exact h (Option.some.inj e)
theorem miss34 {r : List Nat} (h : r.head? ≠ some 34) : ¬ (92 :: r).take ([92, 34] : List Nat).length = [92, 34] := by
  cases r with
  | nil => intro e; cases e
  | cons c r =>
    intro e
    have e2 : [92, c] = [92, 34] := e
    have e3 : c = 34 := (List.cons.inj (List.cons.inj e2).2).1
    exact h (by rw [e3]; rfl)
theorem missC {a b c : Nat} {r : List Nat} (h : c ≠ a) : ¬ (c :: r).take ([a, b] : List Nat).length = [a, b] := by
  intro e
  cases r with
  | nil => cases e
  | cons d r =>
    have e2 : [c, d] = [a, b] := e
    exact h (List.cons.inj e2).1
theorem un1 : ∀ l : List Nat, StrLaws.replL [92, 34] [34] (E2 (E1 l)) = E1 l
  | [] => StrLaws.replL_nil
  | c :: r => by
    rw [show E1 (c :: r) = (if c = 92 then [92, 92] else [c]) ++ E1 r from esc_cons .., e2_app]
    by_cases h : c = 92
    · rw [if_pos h]
      show StrLaws.replL [92, 34] [34] (92 :: 92 :: E2 (E1 r)) = 92 :: 92 :: E1 r
      rw [StrLaws.replL_miss (miss34 (by intro e; cases e)), StrLaws.replL_miss (miss34 (e2_head _)), un1 r]
    · rw [if_neg h]
      by_cases h2 : c = 34
      · subst h2
        show StrLaws.replL [92, 34] [34] (92 :: 34 :: E2 (E1 r)) = 34 :: E1 r
        rw [StrLaws.replL_hit (by simp) rfl]
        show 34 :: StrLaws.replL [92, 34] [34] (E2 (E1 r)) = _
        rw [un1 r]
      · have e : E2 [c] = [c] := by
          rw [show E2 [c] = (if c = 34 then [92, 34] else [c]) ++ E2 [] from esc_cons .., if_neg h2]
          rfl
        rw [e]
        show StrLaws.replL [92, 34] [34] (c :: E2 (E1 r)) = c :: E1 r
        rw [StrLaws.replL_miss (missC h), un1 r]
theorem un2 : ∀ l : List Nat, StrLaws.replL [92, 92] [92] (E1 l) = l
  | [] => StrLaws.replL_nil
  | c :: r => by
    rw [show E1 (c :: r) = (if c = 92 then [92, 92] else [c]) ++ E1 r from esc_cons ..]
    by_cases h : c = 92
    · rw [if_pos h]
      subst h
      show StrLaws.replL [92, 92] [92] (92 :: 92 :: E1 r) = 92 :: r
      rw [StrLaws.replL_hit (by simp) rfl]
      show 92 :: StrLaws.replL [92, 92] [92] (E1 r) = _
      rw [un2 r]
    · rw [if_neg h]
      show StrLaws.replL [92, 92] [92] (c :: E1 r) = c :: r
      rw [StrLaws.replL_miss (missC h), un2 r]
theorem tl_bs : tl ("\\" : Str) = [92] := by decide +kernel
theorem tl_bs2 : tl ("\\\\" : Str) = [92, 92] := by decide +kernel
theorem tl_q : tl ("\"" : Str) = [34] := by decide +kernel
theorem tl_bq : tl ("\\\"" : Str) = [92, 34] := by decide +kernel
theorem esc_is (x : Str) : tl (Txt.replace (Txt.replace x ("\\" : Str) ("\\\\" : Str)) ("\"" : Str) ("\\\"" : Str)) = E2 (E1 (tl x)) := by
  rw [tl_rep (by decide), tl_rep (by decide), tl_bs, tl_bs2, tl_q, tl_bq, rep_esc, rep_esc]
theorem unesc_is (x : Str) (l : List Nat) (h : tl x = E2 (E1 l)) : tl (Txt.replace (Txt.replace x ("\\\"" : Str) ("\"" : Str)) ("\\\\" : Str) ("\\" : Str)) = l := by
  rw [tl_rep (by decide), tl_rep (by decide), tl_bs, tl_bs2, tl_q, tl_bq, h, un1, un2]
theorem cut_mid {α : Type} (a b : α) (m : List α) : cutL (a :: (m ++ [b])) (some 1) (some (-1)) = m := by
  unfold cutL
  have hl : (a :: (m ++ [b])).length = m.length + 2 := by simp
  rw [hl]
  have e1 : HT.sIx (m.length + 2) 0 (some 1) = 1 := by
    unfold HT.sIx
    simp
    try omega
  have e2 : HT.sIx (m.length + 2) (m.length + 2) (some (-1)) = m.length + 1 := by
    unfold HT.sIx
    simp
    try omega
  rw [e1, e2]
  show ((m ++ [b]).take (m.length + 1 - 1)) = m
  rw [Nat.add_sub_cancel, List.take_left]
end RL

set_option Elab.async false
set_option linter.all false
set_option maxRecDepth 100000
set_option maxHeartbeats 4000000
namespace RL
open PySem PySem.Spec PyProof.Rows L2 CwR
open Rep (rep)
/-! ### what may be no text -/
theorem un_someD {α : Type} [Rep α] [Inhabited α] {K : PySem.W.Frag} {G : Hp} {z : Option α} {v : V} (r : rep K z v G) (h : z.isSome = true) : rep K (Option.getD z default) v G := by
  cases z with
  | none => cases h
  | some x => exact r
theorem ev_isStrO [Tb] {K : PySem.W.Frag} {σ : L2.St} {G : Hp} {te : TE} {z : Option Str} (ha : EvR K te σ G z) : EvR K (tCB (rIsi K) (tCons te (tCons (tC (.ty "str")) tNil))) σ G z.isSome := fun H e Q q =>
  ha H e _ fun v G1 H1 g1 r => by
    cases z with
    | some x => exact ⟨v, .ty "str", .type "str", .type "str", true, rfl, .ty _, by rw [show v = V.str x from r]; exact .base (.str x), kit_ty (by decide +kernel), q _ G1 H1 g1 rfl⟩
    | none => exact ⟨v, .ty "str", .type "NoneType", .type "str", false, rfl, .ty _, by rw [show v = V.non from r]; exact .base .non, kit_ty (by decide +kernel), q _ G1 H1 g1 rfl⟩
theorem not_fA {b : Bool} (h : (!b) = false) : b = true := by cases b <;> simp_all
def optAny (o : Option Str) : Sum Str (Sum Int (Sum Unit (Sum Bool (Tpl Str)))) := match o with
  | none => .inr (.inr (.inl ()))
  | some s => .inl s
theorem ev_optAny [Tb] {K : PySem.W.Frag} {σ : L2.St} {G : Hp} {te : TE} {z : Option Str} (ha : EvR K te σ G z) : EvR K te σ G (optAny z) := fun H e Q q =>
  ha H e _ fun v G1 H1 g1 r => by
    cases z with
    | some x => exact q _ G1 H1 g1 r
    | none => exact q _ G1 H1 g1 r
end RL

set_option Elab.async false
set_option linter.all false
set_option maxRecDepth 100000
set_option maxHeartbeats 4000000
namespace RL
open PySem PySem.Spec PyProof.Rows L2
open Rep (rep)
open CwR


def PreB (t : Str) : Prop := t.length ≤ 100000
def PreO (t : Option Str) : Prop := ∀ s, t = some s → PreB s
theorem preO_len {t : Option Str} (h : PreO t) : (Option.getD t default).length ≤ 16000000 := by
  cases t with
  | none => exact Nat.zero_le _
  | some s => exact Nat.le_trans (h s rfl) (by decide)
theorem preB {t : Str} (h : PreT t) : PreB t := Nat.le_trans h (by decide)
theorem repl_len (x y z : Str) : (Txt.replace x y z).length ≤ x.length + (x.length + 1) * z.length := TK.replace_len x y z
theorem rl2 {x y z : Str} {n : Nat} (h : x.length ≤ n) (hz : z.length ≤ 2) : (Txt.replace x y z).length ≤ n + (n + 1) * 2 :=
  Nat.le_trans (repl_len x y z) (Nat.add_le_add h (Nat.mul_le_mul (Nat.succ_le_succ h) hz))
theorem rs2 {x z : Str} {n : Nat} (h : x.length ≤ n) (hz : z.length ≤ 2) (hn : n + (n + 1) * 2 ≤ 16777216) : x.length + (x.length + 1) * z.length ≤ 16777216 :=
  Nat.le_trans (Nat.add_le_add h (Nat.mul_le_mul (Nat.succ_le_succ h) hz)) hn
theorem b_line {x : Str} {n : Nat} (h : x.length ≤ n) (hn : n ≤ 16000000 := by decide) : x.length ≤ sizeLine := Nat.le_trans h (Nat.le_trans hn (by decide))
theorem app_line {x y : Str} {n : Nat} (h : x.length + y.length ≤ n) (hn : n ≤ 16000000 := by decide) : (x ++ y).length ≤ sizeLine := by rw [len_app]; exact Nat.le_trans h (Nat.le_trans hn (by decide))

theorem q_line1 {x : Str} (h : x.length ≤ 900008) : (Str.empty ++ ("\"" : Str) ++ x).length ≤ sizeLine := by
  rw [len_app, len_app, show Str.empty.length = 0 by decide, show ("\"" : Str).length = 1 by decide]
  exact Nat.le_trans (Nat.add_le_add_left h _) (by decide)
theorem q_line2 {x : Str} (h : x.length ≤ 900008) : (Str.empty ++ ("\"" : Str) ++ x ++ ("\"" : Str)).length ≤ sizeLine := by
  rw [len_app, len_app, len_app, show Str.empty.length = 0 by decide, show ("\"" : Str).length = 1 by decide]
  exact Nat.le_trans (Nat.add_le_add_right (Nat.add_le_add_left h _) _) (by decide)
theorem q_line3 {x : Str} (h : x.length ≤ 900008) : ("\"" : Str).length + x.length ≤ sizeLine := by
  rw [show ("\"" : Str).length = 1 by decide]
  exact Nat.le_trans (Nat.add_le_add_left h _) (by decide)
theorem q_line4 {x : Str} (h : x.length ≤ 900008) : (("\"" : Str) ++ x).length + ("\"" : Str).length ≤ sizeLine := by
  rw [len_app, show ("\"" : Str).length = 1 by decide]
  exact Nat.le_trans (Nat.add_le_add_right (Nat.add_le_add_left h _) _) (by decide)

def topS (i : Nat) : Stmt := PySem.Challenge.pw_keyfocus_k03_commands.main.body.getD i (.Pass ⟨0, 0, 0, 0⟩)
structure Adr where
  f_is_name : Addr
  d_is_name : FuncData
  f_is_label : Addr
  d_is_label : FuncData
  f_quoted : Addr
  d_quoted : FuncData
  f_text_in : Addr
  d_text_in : FuncData
  f_unquoted : Addr
  d_unquoted : FuncData
  f__command_alone : Addr
  d__command_alone : FuncData
  f__announcement : Addr
  d__announcement : FuncData
  f_command_of : Addr
  d_command_of : FuncData
  f__law_cell : Addr
  d__law_cell : FuncData
  f__law_draws : Addr
  d__law_draws : FuncData
  f__law_text : Addr
  d__law_text : FuncData
  f__law_quoted : Addr
  d__law_quoted : FuncData
  f_law : Addr
  d_law : FuncData
  c_is_name : Addr
  t_is_name : Addr
  c_is_label : Addr
  t_is_label : Addr
  k_MOVEMENTS : Addr
  k__OTHER_WORDS_ALONE : Addr
  k__WORDS_WITH_NAME : Addr
def k_MOVEMENTS : List Str := [("focusNext" : Str), ("focusPrevious" : Str), ("nextItem" : Str), ("previousItem" : Str), ("firstItem" : Str), ("lastItem" : Str)]
def k__OTHER_WORDS_ALONE : List Str := [("closeTopLayer" : Str), ("activate" : Str)]
def k__WORDS_WITH_NAME : List Str := [("focus" : Str), ("openLayer" : Str), ("run" : Str)]
/-! ### is_name -/
abbrev s_is_name : Stmt := topS 4
abbrev n_is_name : List Str := ["thing"]
theorem sc_is_name : FnScope n_is_name ["thing"] (defScope s_is_name) := ⟨rfl, rfl, rfl, by decide +kernel, rfl, by decide +kernel, by decide +kernel⟩
/-! ### is_label -/
abbrev s_is_label : Stmt := topS 5
abbrev n_is_label : List Str := ["thing"]
theorem sc_is_label : FnScope n_is_label ["thing"] (defScope s_is_label) := ⟨rfl, rfl, rfl, by decide +kernel, rfl, by decide +kernel, by decide +kernel⟩
/-! ### quoted -/
abbrev s_quoted : Stmt := topS 6
abbrev n_quoted : List Str := ["label", "escaped"]
theorem sc_quoted : FnScope n_quoted ["label"] (defScope s_quoted) := ⟨rfl, rfl, rfl, by decide +kernel, rfl, by decide +kernel, by decide +kernel⟩
/-! ### text_in -/
abbrev s_text_in : Stmt := topS 7
abbrev n_text_in : List Str := ["quotation", "text"]
theorem sc_text_in : FnScope n_text_in ["quotation"] (defScope s_text_in) := ⟨rfl, rfl, rfl, by decide +kernel, rfl, by decide +kernel, by decide +kernel⟩
/-! ### unquoted -/
abbrev s_unquoted : Stmt := topS 8
abbrev n_unquoted : List Str := ["text", "label"]
theorem sc_unquoted : FnScope n_unquoted ["text"] (defScope s_unquoted) := ⟨rfl, rfl, rfl, by decide +kernel, rfl, by decide +kernel, by decide +kernel⟩
/-! ### _command_alone -/
abbrev s__command_alone : Stmt := topS 13
abbrev n__command_alone : List Str := ["word"]
theorem sc__command_alone : FnScope n__command_alone ["word"] (defScope s__command_alone) := ⟨rfl, rfl, rfl, by decide +kernel, rfl, by decide +kernel, by decide +kernel⟩
/-! ### _announcement -/
abbrev s__announcement : Stmt := topS 14
abbrev n__announcement : List Str := ["rest", "label"]
theorem sc__announcement : FnScope n__announcement ["rest"] (defScope s__announcement) := ⟨rfl, rfl, rfl, by decide +kernel, rfl, by decide +kernel, by decide +kernel⟩
/-! ### command_of -/
abbrev s_command_of : Stmt := topS 15
abbrev n_command_of : List Str := ["text", "word", "space", "rest"]
theorem sc_command_of : FnScope n_command_of ["text"] (defScope s_command_of) := ⟨rfl, rfl, rfl, by decide +kernel, rfl, by decide +kernel, by decide +kernel⟩
/-! ### _law_cell -/
abbrev s__law_cell : Stmt := topS 17
abbrev n__law_cell : List Str := ["script", "k"]
theorem sc__law_cell : FnScope n__law_cell ["script", "k"] (defScope s__law_cell) := ⟨rfl, rfl, rfl, by decide +kernel, rfl, by decide +kernel, by decide +kernel⟩
/-! ### _law_draws -/
abbrev s__law_draws : Stmt := topS 18
abbrev n__law_draws : List Str := ["cell", "count", "found", "is_wide", "k", "mixed"]
theorem sc__law_draws : FnScope n__law_draws ["cell", "count"] (defScope s__law_draws) := ⟨rfl, rfl, rfl, by decide +kernel, rfl, by decide +kernel, by decide +kernel⟩
/-! ### _law_text -/
abbrev s__law_text : Stmt := topS 19
abbrev n__law_text : List Str := ["cell", "most", "signs", "draws", "size", "k"]
theorem sc__law_text : FnScope n__law_text ["cell", "most"] (defScope s__law_text) := ⟨rfl, rfl, rfl, by decide +kernel, rfl, by decide +kernel, by decide +kernel⟩
/-! ### _law_quoted -/
abbrev s__law_quoted : Stmt := topS 20
abbrev n__law_quoted : List Str := ["label"]
theorem sc__law_quoted : FnScope n__law_quoted ["label"] (defScope s__law_quoted) := ⟨rfl, rfl, rfl, by decide +kernel, rfl, by decide +kernel, by decide +kernel⟩
/-! ### law -/
abbrev s_law : Stmt := topS 21
abbrev n_law : List Str := ["script", "six", "k", "draws", "word", "names", "name", "label", "text", "due", "odd"]
theorem sc_law : FnScope n_law ["script"] (defScope s_law) := ⟨rfl, rfl, rfl, by decide +kernel, rfl, by decide +kernel, by decide +kernel⟩
/-- what the top has written -/
structure Tx [Tb] (K : PySem.W.Frag) (mg : Str → Option Value) (base : Heap) (A : Adr) : Prop where
  F_is_name : Fun K "is_name" "is_name" s_is_name A.f_is_name A.d_is_name
  g_is_name : mg "is_name" = some (.ref A.f_is_name)
  b_is_name : Binds K A.d_is_name ["thing"] []
  F_is_label : Fun K "is_label" "is_label" s_is_label A.f_is_label A.d_is_label
  g_is_label : mg "is_label" = some (.ref A.f_is_label)
  b_is_label : Binds K A.d_is_label ["thing"] []
  F_quoted : Fun K "quoted" "quoted" s_quoted A.f_quoted A.d_quoted
  g_quoted : mg "quoted" = some (.ref A.f_quoted)
  b_quoted : Binds K A.d_quoted ["label"] []
  F_text_in : Fun K "text_in" "text_in" s_text_in A.f_text_in A.d_text_in
  g_text_in : mg "text_in" = some (.ref A.f_text_in)
  b_text_in : Binds K A.d_text_in ["quotation"] []
  F_unquoted : Fun K "unquoted" "unquoted" s_unquoted A.f_unquoted A.d_unquoted
  g_unquoted : mg "unquoted" = some (.ref A.f_unquoted)
  b_unquoted : Binds K A.d_unquoted ["text"] []
  F__command_alone : Fun K "_command_alone" "_command_alone" s__command_alone A.f__command_alone A.d__command_alone
  g__command_alone : mg "_command_alone" = some (.ref A.f__command_alone)
  b__command_alone : Binds K A.d__command_alone ["word"] []
  F__announcement : Fun K "_announcement" "_announcement" s__announcement A.f__announcement A.d__announcement
  g__announcement : mg "_announcement" = some (.ref A.f__announcement)
  b__announcement : Binds K A.d__announcement ["rest"] []
  F_command_of : Fun K "command_of" "command_of" s_command_of A.f_command_of A.d_command_of
  g_command_of : mg "command_of" = some (.ref A.f_command_of)
  b_command_of : Binds K A.d_command_of ["text"] []
  F__law_cell : Fun K "_law_cell" "_law_cell" s__law_cell A.f__law_cell A.d__law_cell
  g__law_cell : mg "_law_cell" = some (.ref A.f__law_cell)
  b__law_cell : Binds K A.d__law_cell ["script", "k"] []
  F__law_draws : Fun K "_law_draws" "_law_draws" s__law_draws A.f__law_draws A.d__law_draws
  g__law_draws : mg "_law_draws" = some (.ref A.f__law_draws)
  b__law_draws : Binds K A.d__law_draws ["cell", "count"] []
  F__law_text : Fun K "_law_text" "_law_text" s__law_text A.f__law_text A.d__law_text
  g__law_text : mg "_law_text" = some (.ref A.f__law_text)
  b__law_text : Binds K A.d__law_text ["cell", "most"] []
  F__law_quoted : Fun K "_law_quoted" "_law_quoted" s__law_quoted A.f__law_quoted A.d__law_quoted
  g__law_quoted : mg "_law_quoted" = some (.ref A.f__law_quoted)
  b__law_quoted : Binds K A.d__law_quoted ["label"] []
  F_law : Fun K "law" "law" s_law A.f_law A.d_law
  g_law : mg "law" = some (.ref A.f_law)
  b_law : Binds K A.d_law ["script"] []
  C_is_name : A.d_is_name.code = .ref A.c_is_name
  TB_is_name : GxR.TabB base mg A.c_is_name A.t_is_name
  TM_is_name : A.t_is_name ∈ Tb.ps
  C_is_label : A.d_is_label.code = .ref A.c_is_label
  TB_is_label : GxR.TabB base mg A.c_is_label A.t_is_label
  TM_is_label : A.t_is_label ∈ Tb.ps
  c_MOVEMENTS : mg "MOVEMENTS" = some (.ref A.k_MOVEMENTS)
  r_MOVEMENTS : ∀ G, rep K (Tpl.mk k_MOVEMENTS) (V.ref A.k_MOVEMENTS) G
  c__OTHER_WORDS_ALONE : mg "_OTHER_WORDS_ALONE" = some (.ref A.k__OTHER_WORDS_ALONE)
  r__OTHER_WORDS_ALONE : ∀ G, rep K (Tpl.mk k__OTHER_WORDS_ALONE) (V.ref A.k__OTHER_WORDS_ALONE) G
  c__WORDS_WITH_NAME : mg "_WORDS_WITH_NAME" = some (.ref A.k__WORDS_WITH_NAME)
  r__WORDS_WITH_NAME : ∀ G, rep K (Tpl.mk k__WORDS_WITH_NAME) (V.ref A.k__WORDS_WITH_NAME) G
  c__NAME_CHARACTERS : ∃ u, mg "_NAME_CHARACTERS" = some u ∧ RelV (.str ("abcdefghijklmnopqrstuvwxyz0123456789._-" : Str)) u
  c__LONGEST_NAME : ∃ u, mg "_LONGEST_NAME" = some u ∧ RelV (.int 8) u
  c__LONGEST_LABEL : ∃ u, mg "_LONGEST_LABEL" = some u ∧ RelV (.int 40) u
  n_all : mg "all" = none
  n_int : mg "int" = none
  n_isinstance : mg "isinstance" = none
  n_len : mg "len" = none
  n_range : mg "range" = none
  n_str : mg "str" = none
section
variable {P : Program} {w : World} {K : PySem.W.Frag} {mg : Str → Option Value} {base : Heap} {A : Adr} [Tb]
/-! #### is_name -/
def m_is_name_1 (d_thing : Str) : Bool := ((d_thing).cps.toList.all (fun k => !(Builtin.Str.occurrences ("abcdefghijklmnopqrstuvwxyz0123456789._-" : Str) ⟨#[k]⟩ 0 (("abcdefghijklmnopqrstuvwxyz0123456789._-" : Str)).length 1).isEmpty))
def m_is_name (d_thing : Str) : Bool := (cond ((!true) || (!(decide ((1 : Int) ≤ ((d_thing).length : Int)) && decide (((d_thing).length : Int) ≤ (8 : Int))))) false (m_is_name_1 d_thing))
abbrev p_is_name (K : PySem.W.Frag) : Sp := sp1 K (fun t => PreT t) m_is_name
theorem ok_is_name (T : Tx K mg base A) : FnOk P w K mg base CX0 1 A.f_is_name A.d_is_name ["thing"] (p_is_name K) := by
  refine okC T.F_is_name T.C_is_name sc_is_name (fun vs He Q E h => ?_) (fun A0 outer s He vs Q E hr h => ⟨_, (pss_cons (ps_if (PW.pt (pw_or (pt_not (pt_val (pe_callB (call_isiK (K := K)) rfl T.n_isinstance boot_isinstance (pa_cons (pv 0) (pa_cons (pe_bltn (v := .ty "str") rfl T.n_str (by decide +kernel) rfl) pa_nil))))) (pw_or1 (pt_not (pt_chain op_le op_le pe_int (pe_callB (call_lenK (K := K)) rfl T.n_len boot_len (pa_cons (pv 0) pa_nil)) (C8.pe_gc rfl T.c__LONGEST_NAME)))))) (pss_one (ps_ret pe_bl)) pss_nil) (pss_one (ps_ret (pe_allM hr rfl T.n_all (by decide +kernel) T.TB_is_name rfl (genS_of rfl rfl (by decide +kernel) rfl rfl (by decide +kernel)) (pv 0) (elt_inG rfl rfl rfl T.c__NAME_CHARACTERS) fun _ => rfl)))), ?_⟩)
  · obtain ⟨d_thing, w_thing, G, rfl, eG, h_thing, hpre, hQ⟩ := h
    rfl
  · obtain ⟨d_thing, w_thing, G, rfl, eG, h_thing, hpre, hQ⟩ := h
    have gr : Grow G He G He := Grow.refl eG
    obtain ⟨Ge, eGe⟩ : ∃ z, z = G := ⟨G, rfl⟩
    have gr : Grow Ge He G He := by rw [eGe]; exact gr
    rw [← eGe] at hQ
    clear eGe
    have hM : m_is_name d_thing = (cond ((!true) || (!(decide ((1 : Int) ≤ ((d_thing).length : Int)) && decide (((d_thing).length : Int) ≤ (8 : Int))))) false (m_is_name_1 d_thing)) := rfl
    refine q_if gr.s (et_or (et_not (et_B (ev_isStr (ev_var rfl h_thing)))) (fun hb1 => (et_not (et_test (ev_chain ev_int (ev_lenS (ev_var rfl h_thing) (by first | (exact pre_line hpre) | (first | omega | decide | (show _ ≤ sizeLine; decide) | (show _ < sizeLine; decide)))) rv_le (fun _ => ev_int) rv_le))))) ?_ ?_
    · intro hb4 G5 H6 g3
      have h_thing := up g3.g h_thing
      have gr := gr.trans g3
      replace hM := condT hM hb4
      refine s_ret (K := K) gr.s ev_bl fun u Gr Hr gq hu => ?_
      exact hQ u Gr Hr (gr.trans gq) (by rw [hM]; exact hu)
    · intro hb4 G7 H8 g3
      have h_thing := up g3.g h_thing
      have gr := gr.trans g3
      replace hM := condF hM hb4
      unfold m_is_name_1 at hM
      refine s_next ?_
      refine nx_mk ?_
      refine s_ret (K := K) gr.s (ev_all T.TM_is_name (ev_var rfl h_thing)) fun u Gr Hr gq hu => ?_
      exact hQ u Gr Hr (gr.trans gq) (by rw [hM]; exact hu)
/-! #### is_label -/
def m_is_label_1 (d_9 : Str) : Bool := ((d_9).cps.toList.all (fun k => !decide ([k] < ((" " : Str)).cps.toList) && !decide ((("~" : Str)).cps.toList < [k])))
def m_is_label (d_thing : (Option Str)) : Bool := (cond ((!(d_thing).isSome) || (decide ((40 : Int) < (((Option.getD d_thing default)).length : Int)))) false (m_is_label_1 (Option.getD d_thing default)))
abbrev p_is_label (K : PySem.W.Frag) : Sp := sp1 K (fun t => PreO t) m_is_label
theorem ok_is_label (T : Tx K mg base A) : FnOk P w K mg base CX0 1 A.f_is_label A.d_is_label ["thing"] (p_is_label K) := by
  refine okC T.F_is_label T.C_is_label sc_is_label (fun vs He Q E h => ?_) (fun A0 outer s He vs Q E hr h => ⟨_, (pss_cons (ps_if (PW.pt (pw_or (pt_not (pt_val (pe_callB (call_isiK (K := K)) rfl T.n_isinstance boot_isinstance (pa_cons (pv 0) (pa_cons (pe_bltn (v := .ty "str") rfl T.n_str (by decide +kernel) rfl) pa_nil))))) (pw_or1 (pt_cmpR op_gt (pe_callB (call_lenK (K := K)) rfl T.n_len boot_len (pa_cons (pv 0) pa_nil)) (C8.pe_gc rfl T.c__LONGEST_LABEL) (nomark _))))) (pss_one (ps_ret pe_bl)) pss_nil) (pss_one (ps_ret (pe_allM hr rfl T.n_all (by decide +kernel) T.TB_is_label rfl (genS_of rfl rfl (by decide +kernel) rfl rfl (by decide +kernel)) (pv 0) (elt_range rfl rfl) fun _ => rfl)))), ?_⟩)
  · obtain ⟨d_thing, w_thing, G, rfl, eG, h_thing, hpre, hQ⟩ := h
    rfl
  · obtain ⟨d_thing, w_thing, G, rfl, eG, h_thing, hpre, hQ⟩ := h
    have gr : Grow G He G He := Grow.refl eG
    obtain ⟨Ge, eGe⟩ : ∃ z, z = G := ⟨G, rfl⟩
    have gr : Grow Ge He G He := by rw [eGe]; exact gr
    rw [← eGe] at hQ
    clear eGe
    have hM : m_is_label d_thing = (cond ((!(d_thing).isSome) || (decide ((40 : Int) < (((Option.getD d_thing default)).length : Int)))) false (m_is_label_1 (Option.getD d_thing default))) := rfl
    refine q_if gr.s (et_or (et_not (et_B (ev_isStrO (ev_var rfl h_thing)))) (fun hb1 => (et_test (ev_gt (ev_lenS (ev_var rfl (un_someD h_thing (not_fA hb1))) (by first | (exact b_line (preO_len hpre)) | (first | omega | decide | (show _ ≤ sizeLine; decide) | (show _ < sizeLine; decide)))) ev_int)))) ?_ ?_
    · intro hb4 G5 H6 g3
      have h_thing := up g3.g h_thing
      have gr := gr.trans g3
      replace hM := condT hM hb4
      refine s_ret (K := K) gr.s ev_bl fun u Gr Hr gq hu => ?_
      exact hQ u Gr Hr (gr.trans gq) (by rw [hM]; exact hu)
    · intro hb4 G7 H8 g3
      have h_thing := up g3.g h_thing
      have gr := gr.trans g3
      replace hM := condF hM hb4
      rcases d_thing with _ | d_9
      · exact absurd hb4 (by simp)
      have h_thing := un_some h_thing
      rw [Option.getD_some] at hM
      unfold m_is_label_1 at hM
      refine s_next ?_
      refine nx_mk ?_
      refine s_ret (K := K) gr.s (ev_all T.TM_is_label (ev_var rfl h_thing)) fun u Gr Hr gq hu => ?_
      exact hQ u Gr Hr (gr.trans gq) (by rw [hM]; exact hu)
/-! #### quoted -/
def m_quoted_1 (d_1 : Str) : Str := (((Str.empty ++ ("\"" : Str)) ++ d_1) ++ ("\"" : Str))
def m_quoted (d_label : Str) : Str := (m_quoted_1 (Txt.replace (Txt.replace d_label ("\\" : Str) ("\\\\" : Str)) ("\"" : Str) ("\\\"" : Str)))
abbrev p_quoted (K : PySem.W.Frag) : Sp := sp1 K (fun t => PreB t) m_quoted
theorem ok_quoted (T : Tx K mg base A) : FnOk P w K mg base CX0 1 A.f_quoted A.d_quoted ["label"] (p_quoted K) := by
  refine okT T.F_quoted sc_quoted (by decide +kernel) (by decide) (fun vs He Q E h => ?_) (fun cdv A0 outer s He vs Q E hr h => ⟨_, (psst_cons (pst_asg (i := 1) sc_quoted.nd rfl (Or.inl rfl) (pet_replT (pet_replC (pv 0)))) (PSsT.of (pss_one (ps_ret (pe_joined (PJ.cons pe_str (PJ.cons (pe_fmt (pv 1)) (PJ.cons pe_str PJ.nil)))))))), ?_⟩)
  · obtain ⟨d_label, w_label, G, rfl, eG, h_label, hpre, hQ⟩ := h
    rfl
  · obtain ⟨d_label, w_label, G, rfl, eG, h_label, hpre, hQ⟩ := h
    have gr : Grow G He G He := Grow.refl eG
    obtain ⟨Ge, eGe⟩ : ∃ z, z = G := ⟨G, rfl⟩
    have gr : Grow Ge He G He := by rw [eGe]; exact gr
    rw [← eGe] at hQ
    clear eGe
    have hM : m_quoted d_label = (m_quoted_1 (Txt.replace (Txt.replace d_label ("\\" : Str) ("\\\\" : Str)) ("\"" : Str) ("\\\"" : Str))) := rfl
    refine q_asg (K := K) gr.s (ev_replC (ev_replC (ev_var rfl h_label) (by first | (first | exact rs2 hpre (by decide) (by decide) | exact rs2 (rl2 hpre (by decide)) (by decide) (by decide) | exact b_line fe | exact q_line1 fe | exact q_line2 fe) | (first | omega | decide | (show _ ≤ sizeLine; decide) | (show _ < sizeLine; decide)))) (by first | (first | exact rs2 hpre (by decide) (by decide) | exact rs2 (rl2 hpre (by decide)) (by decide) (by decide) | exact b_line fe | exact q_line1 fe | exact q_line2 fe) | (first | omega | decide | (show _ ≤ sizeLine; decide) | (show _ < sizeLine; decide)))) fun w_2 G5 H6 g4 (h_3 : rep K (Txt.replace (Txt.replace d_label ("\\" : Str) ("\\\\" : Str)) ("\"" : Str) ("\\\"" : Str)) w_2 G5) => ?_
    have h_label := up g4.g h_label
    have gr := gr.trans g4
    generalize ed_1 : (Txt.replace (Txt.replace d_label ("\\" : Str) ("\\\\" : Str)) ("\"" : Str) ("\\\"" : Str)) = d_1 at h_3 hM
    unfold m_quoted_1 at hM
    have fe : d_1.length ≤ 900008 := by rw [← ed_1]; exact rl2 (rl2 hpre (by decide)) (by decide)
    refine s_ret (K := K) gr.s (ev_joined (ej_cons (K := K) ev_str (by first | (first | exact rs2 hpre (by decide) (by decide) | exact rs2 (rl2 hpre (by decide)) (by decide) (by decide) | exact b_line fe | exact q_line1 fe | exact q_line2 fe) | (first | omega | decide | (show _ ≤ sizeLine; decide) | (show _ < sizeLine; decide))) (ej_cons (K := K) (ev_fmt (ev_var rfl h_3) (by first | (first | exact rs2 hpre (by decide) (by decide) | exact rs2 (rl2 hpre (by decide)) (by decide) (by decide) | exact b_line fe | exact q_line1 fe | exact q_line2 fe) | (first | omega | decide | (show _ ≤ sizeLine; decide) | (show _ < sizeLine; decide)))) (by first | (first | exact rs2 hpre (by decide) (by decide) | exact rs2 (rl2 hpre (by decide)) (by decide) (by decide) | exact b_line fe | exact q_line1 fe | exact q_line2 fe) | (first | omega | decide | (show _ ≤ sizeLine; decide) | (show _ < sizeLine; decide))) (ej_cons (K := K) ev_str (by first | (first | exact rs2 hpre (by decide) (by decide) | exact rs2 (rl2 hpre (by decide)) (by decide) (by decide) | exact b_line fe | exact q_line1 fe | exact q_line2 fe) | (first | omega | decide | (show _ ≤ sizeLine; decide) | (show _ < sizeLine; decide))) ej_nil)))) fun u Gr Hr gq hu => ?_
    exact hQ u Gr Hr (gr.trans gq) (by rw [hM]; exact hu)
/-! #### text_in -/
def m_text_in_1 (d_quotation : Str) (d_1 : Str) : (Option Str) := (cond (!eqB (m_quoted d_1) d_quotation) (none : (Option Str)) (some d_1))
def m_text_in (d_quotation : Str) : (Option Str) := (m_text_in_1 d_quotation (Txt.replace (Txt.replace (cutS d_quotation (some (1 : Int)) (some (-(1 : Int)))) ("\\\"" : Str) ("\"" : Str)) ("\\\\" : Str) ("\\" : Str)))
abbrev p_text_in (K : PySem.W.Frag) : Sp := sp1 K (fun t => PreT t) m_text_in
theorem ok_text_in (T : Tx K mg base A) : FnOk P w K mg base CX0 2 A.f_text_in A.d_text_in ["quotation"] (p_text_in K) := by
  refine okT T.F_text_in sc_text_in (by decide +kernel) (by decide) (fun vs He Q E h => ?_) (fun cdv A0 outer s He vs Q E hr h => ⟨_, (psst_cons (pst_asg (i := 1) sc_text_in.nd rfl (Or.inl rfl) (pet_replT (pet_replC (pe_slice sl_str (pv 0) (po_some pe_int) (po_some (pe_un un_neg pe_int)))))) (PSsT.of (pss_cons (ps_if (pt_cmpR op_ne (pe_call (ok_quoted T) (hr.mono (by decide)) rfl T.g_quoted T.F_quoted.kp T.b_quoted .nil pass0 (pa_cons (pv 1) pa_nil)) (pv 0) (nomark _)) (pss_one (ps_ret pe_non)) pss_nil) (pss_one (ps_ret (pv 1)))))), ?_⟩)
  · obtain ⟨d_quotation, w_quotation, G, rfl, eG, h_quotation, hpre, hQ⟩ := h
    rfl
  · obtain ⟨d_quotation, w_quotation, G, rfl, eG, h_quotation, hpre, hQ⟩ := h
    have gr : Grow G He G He := Grow.refl eG
    obtain ⟨Ge, eGe⟩ : ∃ z, z = G := ⟨G, rfl⟩
    have gr : Grow Ge He G He := by rw [eGe]; exact gr
    rw [← eGe] at hQ
    clear eGe
    have hM : m_text_in d_quotation = (m_text_in_1 d_quotation (Txt.replace (Txt.replace (cutS d_quotation (some (1 : Int)) (some (-(1 : Int)))) ("\\\"" : Str) ("\"" : Str)) ("\\\\" : Str) ("\\" : Str))) := rfl
    refine q_asg (K := K) gr.s (ev_replC (ev_replC (ev_slS (ev_var rfl h_quotation) (eo_some ev_int) (eo_some (ev_neg ev_int)) (by first | (first | exact pre_line hpre | exact rs2 (Nat.le_trans (cutS_length _ _ _) hpre) (by decide) (by decide) | exact rs2 (rl2 (Nat.le_trans (cutS_length _ _ _) hpre) (by decide)) (by decide) (by decide) | exact fe) | (first | omega | decide | (show _ ≤ sizeLine; decide) | (show _ < sizeLine; decide)))) (by first | (first | exact pre_line hpre | exact rs2 (Nat.le_trans (cutS_length _ _ _) hpre) (by decide) (by decide) | exact rs2 (rl2 (Nat.le_trans (cutS_length _ _ _) hpre) (by decide)) (by decide) (by decide) | exact fe) | (first | omega | decide | (show _ ≤ sizeLine; decide) | (show _ < sizeLine; decide)))) (by first | (first | exact pre_line hpre | exact rs2 (Nat.le_trans (cutS_length _ _ _) hpre) (by decide) (by decide) | exact rs2 (rl2 (Nat.le_trans (cutS_length _ _ _) hpre) (by decide)) (by decide) (by decide) | exact fe) | (first | omega | decide | (show _ ≤ sizeLine; decide) | (show _ < sizeLine; decide)))) fun w_2 G5 H6 g4 (h_3 : rep K (Txt.replace (Txt.replace (cutS d_quotation (some (1 : Int)) (some (-(1 : Int)))) ("\\\"" : Str) ("\"" : Str)) ("\\\\" : Str) ("\\" : Str)) w_2 G5) => ?_
    have h_quotation := up g4.g h_quotation
    have gr := gr.trans g4
    generalize ed_1 : (Txt.replace (Txt.replace (cutS d_quotation (some (1 : Int)) (some (-(1 : Int)))) ("\\\"" : Str) ("\"" : Str)) ("\\\\" : Str) ("\\" : Str)) = d_1 at h_3 hM
    unfold m_text_in_1 at hM
    have fe : PreB d_1 := by rw [← ed_1]; exact Nat.le_trans (rl2 (rl2 (Nat.le_trans (cutS_length _ _ _) hpre) (by decide)) (by decide)) (by decide)
    refine q_if gr.s (et_test (ev_ne (ev_call1 (ev_var rfl h_3) (by first | (first | exact pre_line hpre | exact rs2 (Nat.le_trans (cutS_length _ _ _) hpre) (by decide) (by decide) | exact rs2 (rl2 (Nat.le_trans (cutS_length _ _ _) hpre) (by decide)) (by decide) (by decide) | exact fe) | (first | omega | decide))) (ev_var rfl h_quotation))) ?_ ?_
    · intro hb8 G9 H10 g7
      have h_quotation := up g7.g h_quotation
      have h_3 := up g7.g h_3
      have gr := gr.trans g7
      replace hM := condT hM hb8
      refine s_ret (K := K) gr.s (ev_non (α := Str)) fun u Gr Hr gq hu => ?_
      exact hQ u Gr Hr (gr.trans gq) (by rw [hM]; exact hu)
    · intro hb8 G11 H12 g7
      have h_quotation := up g7.g h_quotation
      have h_3 := up g7.g h_3
      have gr := gr.trans g7
      replace hM := condF hM hb8
      refine s_next ?_
      refine nx_mk ?_
      refine s_ret (K := K) gr.s (ev_some (ev_var rfl h_3)) fun u Gr Hr gq hu => ?_
      exact hQ u Gr Hr (gr.trans gq) (by rw [hM]; exact hu)
theorem ti_pre {t : Str} (h : PreT t) : PreO (m_text_in t) := fun s e => by
  have h2 : (Txt.replace (Txt.replace (cutS t (some (1 : Int)) (some (-(1 : Int)))) ("\\\"" : Str) ("\"" : Str)) ("\\\\" : Str) ("\\" : Str)).length ≤ 100000 := Nat.le_trans (rl2 (rl2 (Nat.le_trans (cutS_length _ _ _) h) (by decide)) (by decide)) (by decide)
  unfold m_text_in at e
  generalize Txt.replace _ _ _ = z at e h2
  unfold m_text_in_1 at e
  cases q : (!eqB (m_quoted z) t) with
  | true => rw [q] at e; cases e
  | false =>
    rw [q] at e
    cases e
    exact h2

/-! #### unquoted -/
def m_unquoted_1 (d_1 : (Option Str)) : (Option Str) := (cond (!(m_is_label d_1)) (none : (Option Str)) d_1)
def m_unquoted (d_text : Str) : (Option Str) := (m_unquoted_1 (m_text_in d_text))
abbrev p_unquoted (K : PySem.W.Frag) : Sp := sp1 K (fun t => PreT t) m_unquoted
theorem ok_unquoted (T : Tx K mg base A) : FnOk P w K mg base CX0 3 A.f_unquoted A.d_unquoted ["text"] (p_unquoted K) := by
  refine T.F_unquoted.ok sc_unquoted (fun vs He Q E h => ?_) (fun cdv A0 outer s He vs Q E hr h => ⟨_, (pss_cons (ps_set (i := 1) sc_unquoted.nd rfl (Or.inl rfl) (pe_call (ok_text_in T) (hr.mono (by decide)) rfl T.g_text_in T.F_text_in.kp T.b_text_in .nil pass0 (pa_cons (pv 0) pa_nil))) (pss_cons (ps_if (pt_not (pt_val (pe_call (ok_is_label T) (hr.mono (by decide)) rfl T.g_is_label T.F_is_label.kp T.b_is_label .nil pass0 (pa_cons (pv 1) pa_nil)))) (pss_one (ps_ret pe_non)) pss_nil) (pss_one (ps_ret (pv 1))))), ?_⟩)
  · obtain ⟨d_text, w_text, G, rfl, eG, h_text, hpre, hQ⟩ := h
    rfl
  · obtain ⟨d_text, w_text, G, rfl, eG, h_text, hpre, hQ⟩ := h
    have gr : Grow G He G He := Grow.refl eG
    obtain ⟨Ge, eGe⟩ : ∃ z, z = G := ⟨G, rfl⟩
    have gr : Grow Ge He G He := by rw [eGe]; exact gr
    rw [← eGe] at hQ
    clear eGe
    have hM : m_unquoted d_text = (m_unquoted_1 (m_text_in d_text)) := rfl
    refine q_asg (K := K) gr.s (ev_call1 (ev_var rfl h_text) (by first | (first | exact hpre | exact fo) | (first | omega | decide))) fun w_2 G5 H6 g4 (h_3 : rep K (m_text_in d_text) w_2 G5) => ?_
    have h_text := up g4.g h_text
    have gr := gr.trans g4
    generalize ed_1 : (m_text_in d_text) = d_1 at h_3 hM
    unfold m_unquoted_1 at hM
    have fo : PreO d_1 := by rw [← ed_1]; exact ti_pre hpre
    refine q_if gr.s (et_not (et_B (ev_call1 (ev_var rfl h_3) (by first | (first | exact hpre | exact fo) | (first | omega | decide))))) ?_ ?_
    · intro hb8 G9 H10 g7
      have h_text := up g7.g h_text
      have h_3 := up g7.g h_3
      have gr := gr.trans g7
      replace hM := condT hM hb8
      refine s_ret (K := K) gr.s (ev_non (α := Str)) fun u Gr Hr gq hu => ?_
      exact hQ u Gr Hr (gr.trans gq) (by rw [hM]; exact hu)
    · intro hb8 G11 H12 g7
      have h_text := up g7.g h_text
      have h_3 := up g7.g h_3
      have gr := gr.trans g7
      replace hM := condF hM hb8
      refine s_next ?_
      refine nx_mk ?_
      refine s_ret (K := K) gr.s (ev_var rfl h_3) fun u Gr Hr gq hu => ?_
      exact hQ u Gr Hr (gr.trans gq) (by rw [hM]; exact hu)
/-! #### _command_alone -/
def m__command_alone (d_word : Str) : (Option (Str × Str)) := (cond ((memB d_word ((Tpl.mk k_MOVEMENTS)).l) || (memB d_word ((Tpl.mk k__OTHER_WORDS_ALONE)).l)) (some (d_word, ("" : Str))) (none : (Option (Str × Str))))
abbrev p__command_alone (K : PySem.W.Frag) : Sp := sp1 K (fun t => PreT t) m__command_alone
theorem ok__command_alone (T : Tx K mg base A) : FnOk P w K mg base CX0 1 A.f__command_alone A.d__command_alone ["word"] (p__command_alone K) := by
  refine T.F__command_alone.ok sc__command_alone (fun vs He Q E h => ?_) (fun cdv A0 outer s He vs Q E hr h => ⟨_, (pss_cons (ps_if (PW.pt (pw_or (pt_cmpR (op_inK (K := K)) (pv 0) (C8.pe_gc (v := .ref A.k_MOVEMENTS) rfl ⟨_, T.c_MOVEMENTS, rfl⟩) (by rfl)) (pw_or1 (pt_cmpR (op_inK (K := K)) (pv 0) (C8.pe_gc (v := .ref A.k__OTHER_WORDS_ALONE) rfl ⟨_, T.c__OTHER_WORDS_ALONE, rfl⟩) (by rfl))))) (pss_one (ps_ret (pe_tup (pa_cons (pv 0) (pa_cons pe_str pa_nil))))) pss_nil) (pss_one (ps_ret pe_non))), ?_⟩)
  · obtain ⟨d_word, w_word, G, rfl, eG, h_word, hpre, hQ⟩ := h
    rfl
  · obtain ⟨d_word, w_word, G, rfl, eG, h_word, hpre, hQ⟩ := h
    have gr : Grow G He G He := Grow.refl eG
    obtain ⟨Ge, eGe⟩ : ∃ z, z = G := ⟨G, rfl⟩
    have gr : Grow Ge He G He := by rw [eGe]; exact gr
    rw [← eGe] at hQ
    clear eGe
    have hM : m__command_alone d_word = (cond ((memB d_word ((Tpl.mk k_MOVEMENTS)).l) || (memB d_word ((Tpl.mk k__OTHER_WORDS_ALONE)).l)) (some (d_word, ("" : Str))) (none : (Option (Str × Str)))) := rfl
    refine q_if gr.s (et_or (et_test (ev_inT (ev_var rfl h_word) (ev_c (T.r_MOVEMENTS _)))) (fun hb1 => (et_test (ev_inT (ev_var rfl h_word) (ev_c (T.r__OTHER_WORDS_ALONE _)))))) ?_ ?_
    · intro hb4 G5 H6 g3
      have h_word := up g3.g h_word
      have gr := gr.trans g3
      replace hM := condT hM hb4
      refine s_ret (K := K) gr.s (ev_some (ev_tup2 (ev_var rfl h_word) ev_str)) fun u Gr Hr gq hu => ?_
      exact hQ u Gr Hr (gr.trans gq) (by rw [hM]; exact hu)
    · intro hb4 G7 H8 g3
      have h_word := up g3.g h_word
      have gr := gr.trans g3
      replace hM := condF hM hb4
      refine s_next ?_
      refine nx_mk ?_
      refine s_ret (K := K) gr.s (ev_non (α := (Str × Str))) fun u Gr Hr gq hu => ?_
      exact hQ u Gr Hr (gr.trans gq) (by rw [hM]; exact hu)
/-! #### _announcement -/
def m__announcement_1 (d_13 : Str) : (Option (Str × Str)) := (some (("announce" : Str), d_13))
def m__announcement_2 (d_1 : (Option Str)) : (Option (Str × Str)) := (cond (d_1).isNone (none : (Option (Str × Str))) (m__announcement_1 (Option.getD d_1 default)))
def m__announcement (d_rest : Str) : (Option (Str × Str)) := (m__announcement_2 (m_unquoted d_rest))
abbrev p__announcement (K : PySem.W.Frag) : Sp := sp1 K (fun t => PreT t) m__announcement
theorem ok__announcement (T : Tx K mg base A) : FnOk P w K mg base CX0 4 A.f__announcement A.d__announcement ["rest"] (p__announcement K) := by
  refine T.F__announcement.ok sc__announcement (fun vs He Q E h => ?_) (fun cdv A0 outer s He vs Q E hr h => ⟨_, (pss_cons (ps_set (i := 1) sc__announcement.nd rfl (Or.inl rfl) (pe_call (ok_unquoted T) (hr.mono (by decide)) rfl T.g_unquoted T.F_unquoted.kp T.b_unquoted .nil pass0 (pa_cons (pv 0) pa_nil))) (pss_cons (ps_if (pt_cmpR op_isN (pv 1) pe_non (nomark _)) (pss_one (ps_ret pe_non)) pss_nil) (pss_one (ps_ret (pe_tup (pa_cons pe_str (pa_cons (pv 1) pa_nil))))))), ?_⟩)
  · obtain ⟨d_rest, w_rest, G, rfl, eG, h_rest, hpre, hQ⟩ := h
    rfl
  · obtain ⟨d_rest, w_rest, G, rfl, eG, h_rest, hpre, hQ⟩ := h
    have gr : Grow G He G He := Grow.refl eG
    obtain ⟨Ge, eGe⟩ : ∃ z, z = G := ⟨G, rfl⟩
    have gr : Grow Ge He G He := by rw [eGe]; exact gr
    rw [← eGe] at hQ
    clear eGe
    have hM : m__announcement d_rest = (m__announcement_2 (m_unquoted d_rest)) := rfl
    refine q_asg (K := K) gr.s (ev_call1 (ev_var rfl h_rest) (by first | omega | decide)) fun w_2 G5 H6 g4 (h_3 : rep K (m_unquoted d_rest) w_2 G5) => ?_
    have h_rest := up g4.g h_rest
    have gr := gr.trans g4
    generalize ed_1 : (m_unquoted d_rest) = d_1 at h_3 hM
    unfold m__announcement_2 at hM
    refine q_if gr.s (et_test (ev_isN nn_str (ev_var rfl h_3))) ?_ ?_
    · intro hb8 G9 H10 g7
      have h_rest := up g7.g h_rest
      have h_3 := up g7.g h_3
      have gr := gr.trans g7
      replace hM := condT hM hb8
      refine s_ret (K := K) gr.s (ev_non (α := (Str × Str))) fun u Gr Hr gq hu => ?_
      exact hQ u Gr Hr (gr.trans gq) (by rw [hM]; exact hu)
    · intro hb8 G11 H12 g7
      have h_rest := up g7.g h_rest
      have h_3 := up g7.g h_3
      have gr := gr.trans g7
      replace hM := condF hM hb8
      rcases d_1 with _ | d_13
      · exact absurd hb8 (by simp)
      have h_3 := un_some h_3
      rw [Option.getD_some] at hM
      unfold m__announcement_1 at hM
      refine s_next ?_
      refine nx_mk ?_
      refine s_ret (K := K) gr.s (ev_some (ev_tup2 ev_str (ev_var rfl h_3))) fun u Gr Hr gq hu => ?_
      exact hQ u Gr Hr (gr.trans gq) (by rw [hM]; exact hu)
/-! #### command_of -/
theorem part_len (t : Str) : (Txt.partition t (" " : Str)).1.length ≤ t.length ∧ (Txt.partition t (" " : Str)).2.2.length ≤ t.length := by
  have st : TL.tl (" " : Str) = [32] := by decide +kernel
  by_cases h : 32 ∈ TL.tl t
  · obtain ⟨a, b, e, ha⟩ := List.eq_append_cons_of_mem h
    have et : t = (⟨a.toArray⟩ : Str) ++ (" " : Str) ++ ⟨b.toArray⟩ := tl_inj (by
      rw [TL.tl_append, TL.tl_append, st, e]
      show a ++ 32 :: b = a ++ [32] ++ b
      rw [List.append_assoc]
      rfl)
    have hp := TL.partition_app st (a := ⟨a.toArray⟩) (b := ⟨b.toArray⟩) ha
    rw [← et] at hp
    rw [hp]
    conv => lhs; rhs; rw [et]
    conv => rhs; rhs; rw [et]
    rw [len_app, len_app]
    constructor
    · show (Str.mk a.toArray).length ≤ _
      omega
    · show (Str.mk b.toArray).length ≤ _
      omega
  · rw [TL.partition_none st h]
    exact ⟨Nat.le_refl _, Nat.zero_le _⟩

def m_command_of_1 (d_4 : Str) (d_10 : Str) : (Option (Str × Str)) := (cond (eqB d_4 ("announce" : Str)) (m__announcement d_10) (none : (Option (Str × Str))))
def m_command_of_2 (d_4 : Str) (d_10 : Str) : (Option (Str × Str)) := (cond ((memB d_4 ((Tpl.mk k__WORDS_WITH_NAME)).l) && (m_is_name d_10)) (some (d_4, d_10)) (m_command_of_1 d_4 d_10))
def m_command_of_3 (d_4 : Str) (d_7 : Str) (d_10 : Str) : (Option (Str × Str)) := (cond (eqB d_7 ("" : Str)) (m__command_alone d_4) (m_command_of_2 d_4 d_10))
def m_command_of (d_text : Str) : (Option (Str × Str)) := (m_command_of_3 (T3.mk (Txt.partition d_text (" " : Str)).1 (Txt.partition d_text (" " : Str)).2.1 (Txt.partition d_text (" " : Str)).2.2).a (T3.mk (Txt.partition d_text (" " : Str)).1 (Txt.partition d_text (" " : Str)).2.1 (Txt.partition d_text (" " : Str)).2.2).b (T3.mk (Txt.partition d_text (" " : Str)).1 (Txt.partition d_text (" " : Str)).2.1 (Txt.partition d_text (" " : Str)).2.2).c)
abbrev p_command_of (K : PySem.W.Frag) : Sp := sp1 K (fun t => PreT t) m_command_of
theorem ok_command_of (T : Tx K mg base A) : FnOk P w K mg base CX0 5 A.f_command_of A.d_command_of ["text"] (p_command_of K) := by
  refine T.F_command_of.ok sc_command_of (fun vs He Q E h => ?_) (fun cdv A0 outer s He vs Q E hr h => ⟨_, (pss_cons (ps_asg (pe_partition (pv 0) pe_str) (pg_tup rfl (pgs_cons (pg_name (i := 1) sc_command_of.nd rfl (Or.inl rfl)) (pgs_cons (pg_name (i := 2) sc_command_of.nd rfl (Or.inl rfl)) (pgs_cons (pg_name (i := 3) sc_command_of.nd rfl (Or.inl rfl)) pgs_nil))))) (pss_cons (ps_if (pt_cmpR op_eq (pv 2) pe_str (nomark _)) (pss_one (ps_ret (pe_call (ok__command_alone T) (hr.mono (by decide)) rfl T.g__command_alone T.F__command_alone.kp T.b__command_alone .nil pass0 (pa_cons (pv 1) pa_nil)))) pss_nil) (pss_cons (ps_if (PW.pt (pw_and (pt_cmpR (op_inK (K := K)) (pv 1) (C8.pe_gc (v := .ref A.k__WORDS_WITH_NAME) rfl ⟨_, T.c__WORDS_WITH_NAME, rfl⟩) (by rfl)) (pw_and1 (pt_val (pe_call (ok_is_name T) (hr.mono (by decide)) rfl T.g_is_name T.F_is_name.kp T.b_is_name .nil pass0 (pa_cons (pv 3) pa_nil)))))) (pss_one (ps_ret (pe_tup (pa_cons (pv 1) (pa_cons (pv 3) pa_nil))))) pss_nil) (pss_cons (ps_if (pt_cmpR op_eq (pv 1) pe_str (nomark _)) (pss_one (ps_ret (pe_call (ok__announcement T) (hr.mono (by decide)) rfl T.g__announcement T.F__announcement.kp T.b__announcement .nil pass0 (pa_cons (pv 3) pa_nil)))) pss_nil) (pss_one (ps_ret pe_non)))))), ?_⟩)
  · obtain ⟨d_text, w_text, G, rfl, eG, h_text, hpre, hQ⟩ := h
    rfl
  · obtain ⟨d_text, w_text, G, rfl, eG, h_text, hpre, hQ⟩ := h
    have gr : Grow G He G He := Grow.refl eG
    obtain ⟨Ge, eGe⟩ : ∃ z, z = G := ⟨G, rfl⟩
    have gr : Grow Ge He G He := by rw [eGe]; exact gr
    rw [← eGe] at hQ
    clear eGe
    have hM : m_command_of d_text = (m_command_of_3 (T3.mk (Txt.partition d_text (" " : Str)).1 (Txt.partition d_text (" " : Str)).2.1 (Txt.partition d_text (" " : Str)).2.2).a (T3.mk (Txt.partition d_text (" " : Str)).1 (Txt.partition d_text (" " : Str)).2.1 (Txt.partition d_text (" " : Str)).2.2).b (T3.mk (Txt.partition d_text (" " : Str)).1 (Txt.partition d_text (" " : Str)).2.1 (Txt.partition d_text (" " : Str)).2.2).c) := rfl
    refine q_asg3 (K := K) gr.s (ev_partition (ev_var rfl h_text) ev_str (by decide) (by first | (first | exact pre_line hpre | exact fw | exact fr) | (first | omega | decide | (show _ ≤ sizeLine; decide) | (show _ < sizeLine; decide)))) fun w_5 w_8 w_11 G2 H3 g1 h_6 h_9 h_12 => ?_
    have h_text := up g1.g h_text
    have gr := gr.trans g1
    generalize ed_4 : (T3.mk (Txt.partition d_text (" " : Str)).1 (Txt.partition d_text (" " : Str)).2.1 (Txt.partition d_text (" " : Str)).2.2).a = d_4 at h_6 hM
    generalize ed_7 : (T3.mk (Txt.partition d_text (" " : Str)).1 (Txt.partition d_text (" " : Str)).2.1 (Txt.partition d_text (" " : Str)).2.2).b = d_7 at h_9 hM
    generalize ed_10 : (T3.mk (Txt.partition d_text (" " : Str)).1 (Txt.partition d_text (" " : Str)).2.1 (Txt.partition d_text (" " : Str)).2.2).c = d_10 at h_12 hM
    unfold m_command_of_3 at hM
    have fw : PreT d_4 := by rw [← ed_4]; exact Nat.le_trans (part_len _).1 hpre
    have fr : PreT d_10 := by rw [← ed_10]; exact Nat.le_trans (part_len _).2 hpre
    refine q_if gr.s (et_test (ev_eq (ev_var rfl h_9) ev_str)) ?_ ?_
    · intro hb14 G15 H16 g13
      have h_text := up g13.g h_text
      have h_6 := up g13.g h_6
      have h_9 := up g13.g h_9
      have h_12 := up g13.g h_12
      have gr := gr.trans g13
      replace hM := condT hM hb14
      refine s_ret (K := K) gr.s (ev_call1 (ev_var rfl h_6) (by first | (first | exact pre_line hpre | exact fw | exact fr) | (first | omega | decide))) fun u Gr Hr gq hu => ?_
      exact hQ u Gr Hr (gr.trans gq) (by rw [hM]; exact hu)
    · intro hb14 G17 H18 g13
      have h_text := up g13.g h_text
      have h_6 := up g13.g h_6
      have h_9 := up g13.g h_9
      have h_12 := up g13.g h_12
      have gr := gr.trans g13
      replace hM := condF hM hb14
      unfold m_command_of_2 at hM
      refine s_next ?_
      refine nx_mk ?_
      refine q_if gr.s (et_and (et_test (ev_inT (ev_var rfl h_6) (ev_c (T.r__WORDS_WITH_NAME _)))) (fun hb19 => (et_B (ev_call1 (ev_var rfl h_12) (by first | (first | exact pre_line hpre | exact fw | exact fr) | (first | omega | decide)))))) ?_ ?_
      · intro hb22 G23 H24 g21
        have h_text := up g21.g h_text
        have h_6 := up g21.g h_6
        have h_9 := up g21.g h_9
        have h_12 := up g21.g h_12
        have gr := gr.trans g21
        replace hM := condT hM hb22
        refine s_ret (K := K) gr.s (ev_some (ev_tup2 (ev_var rfl h_6) (ev_var rfl h_12))) fun u Gr Hr gq hu => ?_
        exact hQ u Gr Hr (gr.trans gq) (by rw [hM]; exact hu)
      · intro hb22 G25 H26 g21
        have h_text := up g21.g h_text
        have h_6 := up g21.g h_6
        have h_9 := up g21.g h_9
        have h_12 := up g21.g h_12
        have gr := gr.trans g21
        replace hM := condF hM hb22
        unfold m_command_of_1 at hM
        refine s_next ?_
        refine nx_mk ?_
        refine q_if gr.s (et_test (ev_eq (ev_var rfl h_6) ev_str)) ?_ ?_
        · intro hb28 G29 H30 g27
          have h_text := up g27.g h_text
          have h_6 := up g27.g h_6
          have h_9 := up g27.g h_9
          have h_12 := up g27.g h_12
          have gr := gr.trans g27
          replace hM := condT hM hb28
          refine s_ret (K := K) gr.s (ev_call1 (ev_var rfl h_12) (by first | (first | exact pre_line hpre | exact fw | exact fr) | (first | omega | decide))) fun u Gr Hr gq hu => ?_
          exact hQ u Gr Hr (gr.trans gq) (by rw [hM]; exact hu)
        · intro hb28 G31 H32 g27
          have h_text := up g27.g h_text
          have h_6 := up g27.g h_6
          have h_9 := up g27.g h_9
          have h_12 := up g27.g h_12
          have gr := gr.trans g27
          replace hM := condF hM hb28
          refine s_next ?_
          refine nx_mk ?_
          refine s_ret (K := K) gr.s (ev_non (α := (Str × Str))) fun u Gr Hr gq hu => ?_
          exact hQ u Gr Hr (gr.trans gq) (by rw [hM]; exact hu)
/-! #### _law_cell -/
def m__law_cell (d_script : Scr) (d_k : Int) : Int := (cond (decide (d_k < ((d_script).l.length : Int))) (getI (d_script).l d_k) (0 : Int))
abbrev p__law_cell (K : PySem.W.Frag) : Sp := sp2 K (fun _ k => 0 ≤ k) m__law_cell
theorem ok__law_cell (T : Tx K mg base A) : FnOk P w K mg base CX0 1 A.f__law_cell A.d__law_cell ["script", "k"] (p__law_cell K) := by
  refine T.F__law_cell.ok sc__law_cell (fun vs He Q E h => ?_) (fun cdv A0 outer s He vs Q E hr h => ⟨_, (pss_cons (ps_if (pt_cmpR op_lt (pv 1) (pe_callB (call_lenK (K := K)) rfl T.n_len boot_len (pa_cons (pv 0) pa_nil)) (nomark _)) (pss_one (ps_ret (pe_ix (ix_listK (K := K)) (pv 0) (pv 1) fun _ _ => rfl))) pss_nil) (pss_one (ps_ret pe_int))), ?_⟩)
  · obtain ⟨d_script, d_k, w_script, w_k, G, rfl, eG, h_script, h_k, hpre, hQ⟩ := h
    rfl
  · obtain ⟨d_script, d_k, w_script, w_k, G, rfl, eG, h_script, h_k, hpre, hQ⟩ := h
    have gr : Grow G He G He := Grow.refl eG
    obtain ⟨Ge, eGe⟩ : ∃ z, z = G := ⟨G, rfl⟩
    have gr : Grow Ge He G He := by rw [eGe]; exact gr
    rw [← eGe] at hQ
    clear eGe
    have hM : m__law_cell d_script d_k = (cond (decide (d_k < ((d_script).l.length : Int))) (getI (d_script).l d_k) (0 : Int)) := rfl
    refine q_if gr.s (et_test (ev_lt (ev_var rfl h_k) (ev_lenScr (ev_var rfl h_script)))) ?_ ?_
    · intro hb2 G3 H4 g1
      have h_script := up g1.g h_script
      have h_k := up g1.g h_k
      have gr := gr.trans g1
      replace hM := condT hM hb2
      refine s_ret (K := K) gr.s (ev_ixScr (ev_var rfl h_script) (ev_var rfl h_k) (atI_get (by first | (exact at_in hpre (by exact of_decide_eq_true (by assumption))) | (first | decide | (refine at_in ?_ ?_ <;> omega) | (refine at_neg ?_ ?_ <;> omega))))) fun u Gr Hr gq hu => ?_
      exact hQ u Gr Hr (gr.trans gq) (by rw [hM]; exact hu)
    · intro hb2 G5 H6 g1
      have h_script := up g1.g h_script
      have h_k := up g1.g h_k
      have gr := gr.trans g1
      replace hM := condF hM hb2
      refine s_next ?_
      refine nx_mk ?_
      refine s_ret (K := K) gr.s ev_int fun u Gr Hr gq hu => ?_
      exact hQ u Gr Hr (gr.trans gq) (by rw [hM]; exact hu)
/-! #### _law_draws -/
def m__law_draws_1 (d_37 : Int) (d_35 : (List Int)) : ((List Int) × Int) := (d_35, d_37)
def m__law_draws_2 (d_21 : Int) (d_35 : (List Int)) : ((List Int) × Int) := (m__law_draws_1 (d_21 / (1009 : Int)) d_35)
def m__law_draws_3 (d_21 : Int) (d_59 : (List Int)) : ((List Int) × Int) := (d_59, d_21)
def m__law_draws_4 (d_21 : Int) (d_18 : (List Int)) (d_10 : Int) (d_48 : Int) : ((List Int) × Int) := (m__law_draws_3 d_21 (d_18 ++ [((((d_48 * d_48) + (d_21 * (31 : Int))) + d_10) % (1000003 : Int))]))
def m__law_draws_5 (d_21 : Int) (d_18 : (List Int)) (d_10 : Int) : ((List Int) × Int) := (m__law_draws_4 d_21 d_18 d_10 (((d_21 * (48271 : Int)) + (d_10 * (69621 : Int))) % (2147483647 : Int)))
def m__law_draws_6 (d_4 : Bool) (d_21 : Int) (d_18 : (List Int)) (d_10 : Int) : ((List Int) × Int) := (cond d_4 (m__law_draws_2 d_21 (d_18 ++ [(d_21 % (1009 : Int))])) (m__law_draws_5 d_21 d_18 d_10))
def m__law_draws_7 (d_4 : Bool) (s : (List Int) × Int) (d_10 : Int) : ((List Int) × Int) := m__law_draws_6 d_4 (s).2 (s).1 (d_10)
def m__law_draws_8  (s : (List Int) × Int) : (List Int) := (s).1
def m__law_draws_9 (d_cell : Int) (d_count : Int) (d_1 : (List Int)) (d_4 : Bool) : (List Int) := (m__law_draws_8 (List.foldl (m__law_draws_7 d_4) (d_1, d_cell) (rgs 0 d_count)))
def m__law_draws_10 (d_cell : Int) (d_count : Int) (d_1 : (List Int)) : (List Int) := (m__law_draws_9 d_cell d_count d_1 (decide (((10 : Int) ^ ((18 : Int)).toNat) ≤ d_cell)))
def m__law_draws (d_cell : Int) (d_count : Int) : (List Int) := (m__law_draws_10 d_cell d_count ([] : List Int))
abbrev p__law_draws (K : PySem.W.Frag) : Sp := sp2 K (fun _ n => 0 ≤ n ∧ n ≤ 1000) m__law_draws
theorem draws_step (b : Bool) (s : List Int × Int) (k : Int) : ∃ x, 0 ≤ x ∧ (m__law_draws_7 b s k).1 = s.1 ++ [x] := by
  cases b with
  | true => exact ⟨s.2 % 1009, Int.emod_nonneg _ (by decide), rfl⟩
  | false => exact ⟨_, Int.emod_nonneg _ (by decide), rfl⟩
theorem draws_fold (b : Bool) : ∀ (l : List Int) (s : List Int × Int), (List.foldl (m__law_draws_7 b) s l).1.length = s.1.length + l.length
  | [], s => rfl
  | k :: l, s => by
    obtain ⟨x, _, e⟩ := draws_step b s k
    rw [List.foldl_cons, draws_fold b l, e, List.length_append, List.length_cons, List.length_cons, List.length_nil]
    omega
theorem draws_nn (b : Bool) : ∀ (l : List Int) (s : List Int × Int), NN s.1 → NN (List.foldl (m__law_draws_7 b) s l).1
  | [], s, h => h
  | k :: l, s, h => by
    obtain ⟨x, hx, e⟩ := draws_step b s k
    rw [List.foldl_cons]
    refine draws_nn b l _ ?_
    rw [e]
    intro y hy
    rcases List.mem_append.mp hy with q | q
    · exact h y q
    · rw [List.mem_singleton.mp q]; exact hx
theorem draws_len (cell : Int) {n : Int} (h : 0 ≤ n) : (m__law_draws cell n).length = n.toNat := by
  show (List.foldl (m__law_draws_7 _) (([] : List Int), cell) (rgs 0 n)).1.length = _
  rw [draws_fold, rgs_len, List.length_nil]
  omega
theorem draws_pos (cell n : Int) : NN (m__law_draws cell n) := draws_nn _ _ _ (fun _ h => by cases h)

theorem ok__law_draws (T : Tx K mg base A) : FnOk P w K mg base CX0 1 A.f__law_draws A.d__law_draws ["cell", "count"] (p__law_draws K) := by
  refine T.F__law_draws.ok sc__law_draws (fun vs He Q E h => ?_) (fun cdv A0 outer s He vs Q E hr h => ⟨_, (pss_cons (ps_set (i := 2) sc__law_draws.nd rfl (Or.inl rfl) (pe_lst pa_nil)) (pss_cons (ps_set (i := 3) sc__law_draws.nd rfl (Or.inl rfl) (pe_cmpR op_ge (pv 0) (pe_op op_pow pe_int pe_int) (nomark _))) (pss_cons (ps_for PassesOwn.never rfl (pi_range1 rfl T.n_range (pa_cons (pv 1) pa_nil)) (pg_name (i := 4) sc__law_draws.nd rfl (Or.inl rfl)) (pss_one (ps_if (pt_val (pv 3)) (pss_cons (ps_expr (pe_bmK (K := K) PySem.F.plainAttrs_list PySem.F.slot_list_append PySem.F.type_list_append mt_append (pv 2) (pa_cons (pe_op op_mod (pe_callTy call_int1 rfl T.n_int boot_int (pa_cons (pv 0) pa_nil)) pe_int) pa_nil))) (pss_one (ps_set (i := 0) sc__law_draws.nd rfl (Or.inl rfl) (pe_op op_fdiv (pv 0) pe_int)))) (pss_cons (ps_set (i := 5) sc__law_draws.nd rfl (Or.inl rfl) (pe_op op_mod (pe_callTy call_int1 rfl T.n_int boot_int (pa_cons (pe_op op_add (pe_op op_mul (pv 0) pe_int) (pe_op op_mul (pv 4) pe_int)) pa_nil)) pe_int)) (pss_one (ps_expr (pe_bmK (K := K) PySem.F.plainAttrs_list PySem.F.slot_list_append PySem.F.type_list_append mt_append (pv 2) (pa_cons (pe_op op_mod (pe_callTy call_int1 rfl T.n_int boot_int (pa_cons (pe_op op_add (pe_op op_add (pe_op op_mul (pv 5) (pv 5)) (pe_op op_mul (pv 0) pe_int)) (pv 4)) pa_nil)) pe_int) pa_nil)))))))) (pss_one (ps_ret (pv 2)))))), ?_⟩)
  · obtain ⟨d_cell, d_count, w_cell, w_count, G, rfl, eG, h_cell, h_count, hpre, hQ⟩ := h
    rfl
  · obtain ⟨d_cell, d_count, w_cell, w_count, G, rfl, eG, h_cell, h_count, hpre, hQ⟩ := h
    have gr : Grow G He G He := Grow.refl eG
    obtain ⟨Ge, eGe⟩ : ∃ z, z = G := ⟨G, rfl⟩
    have gr : Grow Ge He G He := by rw [eGe]; exact gr
    rw [← eGe] at hQ
    clear eGe
    have hM : m__law_draws d_cell d_count = (m__law_draws_10 d_cell d_count ([] : List Int)) := rfl
    refine q_newF gr fun a3 H65 hF_3 hN_3 np3 hH_3 gr sm3 => ?_
    have h_2 := reps_nil (K := K) (α := Int) gr
    generalize ed_1 : ([] : List Int) = d_1 at h_2 hM
    unfold m__law_draws_10 at hM
    refine q_asg (K := K) gr.s (ev_ge (ev_var rfl h_cell) (ev_pow ev_int ev_int ⟨by decide, by decide, by decide⟩)) fun w_5 G8 H9 g7 (h_6 : rep K (decide (((10 : Int) ^ ((18 : Int)).toNat) ≤ d_cell)) w_5 G8) => ?_
    have h_cell := up g7.g h_cell
    have h_count := up g7.g h_count
    have hN_3 := g7.f _ _ hH_3 hN_3
    have hH_3 := g7.h.l hH_3
    have h_2 := Reps.up g7.g h_2
    have gr := gr.trans g7
    generalize ed_4 : (decide (((10 : Int) ^ ((18 : Int)).toNat) ≤ d_cell)) = d_4 at h_6 hM
    unfold m__law_draws_9 at hM
    refine q_forR1 (K := K) gr.s (ev_var rfl h_count) (by first | (first | exact lt_line (by omega) | exact ⟨by omega, by omega⟩) | (first | (constructor <;> omega) | (decide))) fun G13 H14 g16 => ?_
    have h_cell := up g16.g h_cell
    have h_count := up g16.g h_count
    have hN_3 := g16.f _ _ hH_3 hN_3
    have hH_3 := g16.h.l hH_3
    have h_2 := Reps.up g16.g h_2
    have h_6 := up g16.g h_6
    have gr := gr.trans g16
    refine ⟨fun i_ σ_ H_ => ∃ (G64 : Hp) (w_22 : V) (o_24 : Option V) (o_25 : Option V), Grow Ge He G64 H_ ∧ Same G13 G64 ∧ σ_ = [some w_22, some w_count, some (V.ref a3), some w_5, o_25, o_24] ∧ (∃ zs, Reps K (((List.foldl (m__law_draws_7 d_4) (d_1, d_cell) (List.take i_ (rgs 0 d_count)))).1 : (List Int)) zs G64 ∧ H_ a3 = some (.lst zs) ∧ G64 a3 = none) ∧ rep K (((List.foldl (m__law_draws_7 d_4) (d_1, d_cell) (List.take i_ (rgs 0 d_count)))).2 : Int) w_22 G64, ⟨_, w_cell, _, _, gr, Same.refl _, rfl, ⟨_, h_2, hH_3, hN_3⟩, h_cell⟩, ?_, ?_⟩
    · rintro i_0 σ_0 H_0 hlt_0 ⟨G64, w_22, o_24, o_25, gr, sg0, rfl, ⟨zs_3, h_20, hH_3, hN_3⟩, h_23⟩
      obtain ⟨d_10, hx0_0, hx0, lo_0, hi_0⟩ := rgs_at0 hlt_0
      rw [hx0_0]
      have h_12 : rep K d_10 (V.int d_10) G64 := rfl
      generalize ew_11 : V.int d_10 = w_11 at h_12
      have h_count := up sg0 h_count
      have h_6 := up sg0 h_6
      have hMo0 := hM
      clear hM
      have hM : (List.foldl (m__law_draws_7 d_4) (d_1, d_cell) (List.take (i_0 + 1) (rgs 0 d_count))) = (m__law_draws_7 d_4) (List.foldl (m__law_draws_7 d_4) (d_1, d_cell) (List.take i_0 (rgs 0 d_count))) d_10 := by rw [take_snoc hx0, List.foldl_append]; rfl
      have fl_0 := draws_fold d_4 (List.take i_0 (rgs 0 d_count)) (d_1, d_cell)
      rw [List.length_take, rgs_len] at fl_0
      have fz : d_1.length = 0 := by rw [← ed_1]; rfl
      generalize (List.foldl (m__law_draws_7 d_4) (d_1, d_cell) (List.take i_0 (rgs 0 d_count))) = st_0 at h_20 h_23 fl_0 hM
      obtain ⟨d_18, d_21⟩ := st_0
      dsimp only at h_20 h_23 fl_0
      conv at hM => rhs; unfold m__law_draws_7; unfold m__law_draws_6
      dsimp only at hM
      refine s_if gr.s (et_B (ev_var rfl h_6)) ?_ ?_
      · intro hb27 G28 H29 g26
        have h_23 := up g26.g h_23
        have h_count := up g26.g h_count
        have hN_3 := g26.f _ _ hH_3 hN_3
        have hH_3 := g26.h.l hH_3
        have h_20 := Reps.up g26.g h_20
        have h_6 := up g26.g h_6
        have h_12 := up g26.g h_12
        have sg0 := sg0.trans g26.g
        have gr := gr.trans g26
        replace hM := condT hM hb27
        refine q_appF (K := K) gr hF_3 hN_3 rfl hH_3 h_20 (by first | (first | exact lt_line (by omega) | exact ⟨by omega, by omega⟩) | (fail)) (ev_mod (ev_int1 (ev_var rfl h_23)) ev_int (by first | (first | exact lt_line (by omega) | exact ⟨by omega, by omega⟩) | (first | omega | decide | (show _ ≤ sizeLine; decide) | (show _ < sizeLine; decide)))) fun G31 H32 H45 zs43 g30 gr2 hN2 hH2 h_36 bt44 => ?_
        have h_23 := up g30.g h_23
        have h_count := up g30.g h_count
        have hN_3 := g30.f _ _ hH_3 hN_3
        have hH_3 := g30.h.l hH_3
        have h_20 := Reps.up g30.g h_20
        have h_6 := up g30.g h_6
        have h_12 := up g30.g h_12
        have sg0 := sg0.trans g30.g
        have gr := gr2
        have hN_3 := hN2
        have hH_3 := hH2
        generalize ed_35 : (d_18 ++ [(d_21 % (1009 : Int))]) = d_35 at h_36 hM
        unfold m__law_draws_2 at hM
        refine s_asg (K := K) gr.s (ev_fdiv (ev_var rfl h_23) ev_int ⟨(by first | (first | exact lt_line (by omega) | exact ⟨by omega, by omega⟩) | (first | omega | decide | (show _ ≤ sizeLine; decide) | (show _ < sizeLine; decide))), (by first | (first | exact lt_line (by omega) | exact ⟨by omega, by omega⟩) | (first | omega | decide | (show _ ≤ sizeLine; decide) | (show _ < sizeLine; decide)))⟩) fun w_38 G41 H42 g40 (h_39 : rep K (d_21 / (1009 : Int)) w_38 G41) => ?_
        have h_count := up g40.g h_count
        have hN_3 := g40.f _ _ hH_3 hN_3
        have hH_3 := g40.h.l hH_3
        have h_36 := Reps.up g40.g h_36
        have h_6 := up g40.g h_6
        have h_12 := up g40.g h_12
        have sg0 := sg0.trans g40.g
        have gr := gr.trans g40
        generalize ed_37 : (d_21 / (1009 : Int)) = d_37 at h_39 hM
        unfold m__law_draws_1 at hM
        exact ⟨_, w_38, _, _, gr, sg0, rfl, ⟨_, (by rw [hM]; exact h_36), hH_3, hN_3⟩, (by rw [hM]; exact h_39)⟩
      · intro hb27 G46 H47 g26
        have h_23 := up g26.g h_23
        have h_count := up g26.g h_count
        have hN_3 := g26.f _ _ hH_3 hN_3
        have hH_3 := g26.h.l hH_3
        have h_20 := Reps.up g26.g h_20
        have h_6 := up g26.g h_6
        have h_12 := up g26.g h_12
        have sg0 := sg0.trans g26.g
        have gr := gr.trans g26
        replace hM := condF hM hb27
        unfold m__law_draws_5 at hM
        refine q_asg (K := K) gr.s (ev_mod (ev_int1 (ev_add (ev_mul (ev_var rfl h_23) ev_int (by first | (first | exact lt_line (by omega) | exact ⟨by omega, by omega⟩) | (first | exact Or.inl ⟨by omega, by omega⟩ | exact Or.inr ⟨by omega, by omega⟩ | (exact Or.inr (by constructor <;> decide))))) (ev_mul (ev_var rfl h_12) ev_int (by first | (first | exact lt_line (by omega) | exact ⟨by omega, by omega⟩) | (first | exact Or.inl ⟨by omega, by omega⟩ | exact Or.inr ⟨by omega, by omega⟩ | (exact Or.inr (by constructor <;> decide))))))) ev_int (by first | (first | exact lt_line (by omega) | exact ⟨by omega, by omega⟩) | (first | omega | decide | (show _ ≤ sizeLine; decide) | (show _ < sizeLine; decide)))) fun w_49 G52 H53 g51 (h_50 : rep K (((d_21 * (48271 : Int)) + (d_10 * (69621 : Int))) % (2147483647 : Int)) w_49 G52) => ?_
        have h_23 := up g51.g h_23
        have h_count := up g51.g h_count
        have hN_3 := g51.f _ _ hH_3 hN_3
        have hH_3 := g51.h.l hH_3
        have h_20 := Reps.up g51.g h_20
        have h_6 := up g51.g h_6
        have h_12 := up g51.g h_12
        have sg0 := sg0.trans g51.g
        have gr := gr.trans g51
        generalize ed_48 : (((d_21 * (48271 : Int)) + (d_10 * (69621 : Int))) % (2147483647 : Int)) = d_48 at h_50 hM
        unfold m__law_draws_4 at hM
        refine s_appF (K := K) gr hF_3 hN_3 rfl hH_3 h_20 (by first | (first | exact lt_line (by omega) | exact ⟨by omega, by omega⟩) | (fail)) (ev_mod (ev_int1 (ev_add (ev_add (ev_mul (ev_var rfl h_50) (ev_var rfl h_50) (by first | (first | exact lt_line (by omega) | exact ⟨by omega, by omega⟩) | (first | exact Or.inl ⟨by omega, by omega⟩ | exact Or.inr ⟨by omega, by omega⟩ | (exact Or.inr (by constructor <;> decide))))) (ev_mul (ev_var rfl h_23) ev_int (by first | (first | exact lt_line (by omega) | exact ⟨by omega, by omega⟩) | (first | exact Or.inl ⟨by omega, by omega⟩ | exact Or.inr ⟨by omega, by omega⟩ | (exact Or.inr (by constructor <;> decide)))))) (ev_var rfl h_12))) ev_int (by first | (first | exact lt_line (by omega) | exact ⟨by omega, by omega⟩) | (first | omega | decide | (show _ ≤ sizeLine; decide) | (show _ < sizeLine; decide)))) fun G55 H56 H63 zs61 g54 gr2 hN2 hH2 h_60 bt62 => ?_
        have h_23 := up g54.g h_23
        have h_count := up g54.g h_count
        have hN_3 := g54.f _ _ hH_3 hN_3
        have hH_3 := g54.h.l hH_3
        have h_20 := Reps.up g54.g h_20
        have h_6 := up g54.g h_6
        have h_12 := up g54.g h_12
        have h_50 := up g54.g h_50
        have sg0 := sg0.trans g54.g
        have gr := gr2
        have hN_3 := hN2
        have hH_3 := hH2
        generalize ed_59 : (d_18 ++ [((((d_48 * d_48) + (d_21 * (31 : Int))) + d_10) % (1000003 : Int))]) = d_59 at h_60 hM
        unfold m__law_draws_3 at hM
        exact ⟨_, w_22, _, _, gr, sg0, rfl, ⟨_, (by rw [hM]; exact h_60), hH_3, hN_3⟩, (by rw [hM]; exact h_23)⟩
    · rintro σ_0 H_0 ⟨G64, w_22, o_24, o_25, gr, sg0, rfl, ⟨zs_3, h_20, hH_3, hN_3⟩, h_23⟩
      have h_count := up sg0 h_count
      have h_6 := up sg0 h_6
      rw [rgs_take0] at h_20
      rw [rgs_take0] at h_23
      generalize est_0 : (List.foldl (m__law_draws_7 d_4) (d_1, d_cell) (rgs 0 d_count)) = st_0 at h_20 h_23 hM
      obtain ⟨d_18, d_21⟩ := st_0
      dsimp only at h_20 h_23
      unfold m__law_draws_8 at hM
      try dsimp only at hM
      refine s_ret (K := K) (gr.fix hF_3 hN_3 hH_3).s (ev_var rfl (fix_rep h_20 hN_3)) fun u Gr Hr gq hu => ?_
      exact hQ u Gr Hr ((gr.fix hF_3 hN_3 hH_3).trans gq) (by rw [hM]; exact hu)
/-! #### _law_text -/
theorem text_fits {z : Str} {l : List Int} {f : Int → Int} (h : l.length ≤ 40) : ((List.map (fun k => getS z (f k)) l).map (·.length)).sum + (List.map (fun k => getS z (f k)) l).length * ("" : Str).length ≤ 16777216 := by
  rw [show ("" : Str).length = 0 by decide, Nat.mul_zero, Nat.add_zero]
  refine Nat.le_trans (sum_le (n := 1) (mem_map_all fun k _ => Nat.le_refl 1)) ?_
  rw [List.length_map, Nat.mul_one]
  exact Nat.le_trans h (by decide)

def m__law_text_1 (d_1 : Str) (d_7 : (List Int)) (d_23 : Int) : Str := (Txt.join ("" : Str) (List.map (fun d_29 => (getS d_1 ((getI d_7 d_29) % ((d_1).length : Int)))) (rgs 0 d_23)))
def m__law_text_2 (d_1 : Str) (d_7 : (List Int)) (d_13 : Int) : Str := (Txt.join ("" : Str) (List.map (fun d_39 => (getS d_1 ((getI d_7 d_39) % ((d_1).length : Int)))) (rgs 0 d_13)))
def m__law_text_3 (d_most : Int) (d_1 : Str) (d_7 : (List Int)) (d_13 : Int) : Str := (cond (decide ((0 : Int) < ((getI d_7 (d_most + (1 : Int))) % (3 : Int)))) (m__law_text_1 d_1 d_7 (d_13 % (6 : Int))) (m__law_text_2 d_1 d_7 d_13))
def m__law_text_4 (d_most : Int) (d_1 : Str) (d_7 : (List Int)) : Str := (m__law_text_3 d_most d_1 d_7 ((getI d_7 d_most) % (d_most + (1 : Int))))
def m__law_text_5 (d_cell : Int) (d_most : Int) (d_1 : Str) : Str := (m__law_text_4 d_most d_1 (m__law_draws d_cell (d_most + (2 : Int))))
def m__law_text (d_cell : Int) (d_most : Int) : Str := (m__law_text_5 d_cell d_most (" !\"#&'()*+,-./09:;<=>?@AZ[\\]^_`az{|}~" : Str))
abbrev p__law_text (K : PySem.W.Frag) : Sp := sp2 K (fun _ n => n = 40) m__law_text
theorem ok__law_text (T : Tx K mg base A) : FnOk P w K mg base CX0 2 A.f__law_text A.d__law_text ["cell", "most"] (p__law_text K) := by
  refine T.F__law_text.ok sc__law_text (fun vs He Q E h => ?_) (fun cdv A0 outer s He vs Q E hr h => ⟨_, (pss_cons (ps_set (i := 2) sc__law_text.nd rfl (Or.inr rfl) pe_str) (pss_cons (ps_set (i := 3) sc__law_text.nd rfl (Or.inr rfl) (pe_call (ok__law_draws T) (hr.mono (by decide)) rfl T.g__law_draws T.F__law_draws.kp T.b__law_draws .nil pass0 (pa_cons (pv 0) (pa_cons (pe_op op_add (pv 1) pe_int) pa_nil)))) (pss_cons (ps_set (i := 4) sc__law_text.nd rfl (Or.inl rfl) (pe_op op_mod (pe_callTy call_int1 rfl T.n_int boot_int (pa_cons (pe_ix (ix_listK (K := K)) (pv 3) (pv 1) fun _ _ => rfl) pa_nil)) (pe_op op_add (pv 1) pe_int))) (pss_cons (ps_if (pt_cmpR op_gt (pe_op op_mod (pe_callTy call_int1 rfl T.n_int boot_int (pa_cons (pe_ix (ix_listK (K := K)) (pv 3) (pe_op op_add (pv 1) pe_int) fun _ _ => rfl) pa_nil)) pe_int) pe_int (nomark _)) (pss_one (ps_set (i := 4) sc__law_text.nd rfl (Or.inl rfl) (pe_op op_mod (pv 4) pe_int))) pss_nil) (pss_one (ps_ret (pe_joinK (K := K) pe_str (pe_lc (own := [("k", 5)]) (g := gName 5) (tt := tYes) rfl sc__law_text.nd (pi_range1 rfl T.n_range (pa_cons (pv 4) pa_nil)) (blkOk_by (N := n__law_text) (sc := defScope s__law_text) (by decide +kernel)) (fun _ _ _ _ _ => pg_name (i := 5) sc__law_text.nd rfl (Or.inl rfl)) (fun _ _ _ _ _ => pts_nil) (fun _ _ _ _ _ => (pe_ix ix_str (pv 2) (pe_op op_mod (pe_callTy call_int1 rfl T.n_int boot_int (pa_cons (pe_ix (ix_listK (K := K)) (pv 3) (pv 5) fun _ _ => rfl) pa_nil)) (pe_callB (call_lenK (K := K)) rfl T.n_len boot_len (pa_cons (pv 2) pa_nil))) fun _ _ => rfl)))))))))), ?_⟩)
  · obtain ⟨d_cell, d_most, w_cell, w_most, G, rfl, eG, h_cell, h_most, hpre, hQ⟩ := h
    rfl
  · obtain ⟨d_cell, d_most, w_cell, w_most, G, rfl, eG, h_cell, h_most, hpre, hQ⟩ := h
    have gr : Grow G He G He := Grow.refl eG
    obtain ⟨Ge, eGe⟩ : ∃ z, z = G := ⟨G, rfl⟩
    have gr : Grow Ge He G He := by rw [eGe]; exact gr
    rw [← eGe] at hQ
    clear eGe
    have hM : m__law_text d_cell d_most = (m__law_text_5 d_cell d_most (" !\"#&'()*+,-./09:;<=>?@AZ[\\]^_`az{|}~" : Str)) := rfl
    have hm : d_most = 40 := hpre
    refine q_asg (K := K) gr.s ev_str fun w_2 G5 H6 g4 (h_3 : rep K (" !\"#&'()*+,-./09:;<=>?@AZ[\\]^_`az{|}~" : Str) w_2 G5) => ?_
    have h_cell := up g4.g h_cell
    have h_most := up g4.g h_most
    have gr := gr.trans g4
    obtain ⟨d_1, ed_1⟩ : ∃ z, (" !\"#&'()*+,-./09:;<=>?@AZ[\\]^_`az{|}~" : Str) = z := ⟨_, rfl⟩
    rw [ed_1] at h_3 hM
    unfold m__law_text_5 at hM
    refine q_asg (K := K) gr.s (ev_call2 (ev_var rfl h_cell) (ev_add (ev_var rfl h_most) ev_int) (by first | (first | exact at_in (by omega) (by rw [fd]; omega) | (rw [← ed_1]; decide) | exact at_modS (by rw [← ed_1]; decide) | exact le_line (by rw [← ed_1]; decide) | (constructor <;> omega) | exact text_fits (by rw [rgs_len]; omega)) | (first | omega | decide))) fun w_8 G11 H12 g10 (h_9 : rep K (m__law_draws d_cell (d_most + (2 : Int))) w_8 G11) => ?_
    have h_cell := up g10.g h_cell
    have h_most := up g10.g h_most
    have h_3 := up g10.g h_3
    have gr := gr.trans g10
    generalize ed_7 : (m__law_draws d_cell (d_most + (2 : Int))) = d_7 at h_9 hM
    unfold m__law_text_4 at hM
    have fd : d_7.length = 42 := by rw [← ed_7, hm]; exact draws_len _ (by decide)
    refine q_asg (K := K) gr.s (ev_mod (ev_int1 (ev_ixL (ev_var rfl h_9) (ev_var rfl h_most) (atI_get (by first | (first | exact at_in (by omega) (by rw [fd]; omega) | (rw [← ed_1]; decide) | exact at_modS (by rw [← ed_1]; decide) | exact le_line (by rw [← ed_1]; decide) | (constructor <;> omega) | exact text_fits (by rw [rgs_len]; omega)) | (first | decide | (refine at_in ?_ ?_ <;> omega) | (refine at_neg ?_ ?_ <;> omega)))))) (ev_add (ev_var rfl h_most) ev_int) (by first | (first | exact at_in (by omega) (by rw [fd]; omega) | (rw [← ed_1]; decide) | exact at_modS (by rw [← ed_1]; decide) | exact le_line (by rw [← ed_1]; decide) | (constructor <;> omega) | exact text_fits (by rw [rgs_len]; omega)) | (first | omega | decide | (show _ ≤ sizeLine; decide) | (show _ < sizeLine; decide)))) fun w_14 G17 H18 g16 (h_15 : rep K ((getI d_7 d_most) % (d_most + (1 : Int))) w_14 G17) => ?_
    have h_cell := up g16.g h_cell
    have h_most := up g16.g h_most
    have h_3 := up g16.g h_3
    have h_9 := up g16.g h_9
    have gr := gr.trans g16
    generalize ed_13 : ((getI d_7 d_most) % (d_most + (1 : Int))) = d_13 at h_15 hM
    unfold m__law_text_3 at hM
    have fz : 0 ≤ d_13 ∧ d_13 ≤ 40 := by first | (rw [← ed_13, hm]; exact ⟨Int.emod_nonneg _ (by decide), Int.le_of_lt_add_one (Int.emod_lt_of_pos _ (by decide))⟩) | (rw [← ed_13]; omega)
    refine q_if gr.s (et_test (ev_gt (ev_mod (ev_int1 (ev_ixL (ev_var rfl h_9) (ev_add (ev_var rfl h_most) ev_int) (atI_get (by first | (first | exact at_in (by omega) (by rw [fd]; omega) | (rw [← ed_1]; decide) | exact at_modS (by rw [← ed_1]; decide) | exact le_line (by rw [← ed_1]; decide) | (constructor <;> omega) | exact text_fits (by rw [rgs_len]; omega)) | (first | decide | (refine at_in ?_ ?_ <;> omega) | (refine at_neg ?_ ?_ <;> omega)))))) ev_int (by first | (first | exact at_in (by omega) (by rw [fd]; omega) | (rw [← ed_1]; decide) | exact at_modS (by rw [← ed_1]; decide) | exact le_line (by rw [← ed_1]; decide) | (constructor <;> omega) | exact text_fits (by rw [rgs_len]; omega)) | (first | omega | decide | (show _ ≤ sizeLine; decide) | (show _ < sizeLine; decide)))) ev_int)) ?_ ?_
    · intro hb20 G21 H22 g19
      have h_cell := up g19.g h_cell
      have h_most := up g19.g h_most
      have h_3 := up g19.g h_3
      have h_9 := up g19.g h_9
      have h_15 := up g19.g h_15
      have gr := gr.trans g19
      replace hM := condT hM hb20
      refine s_asg (K := K) gr.s (ev_mod (ev_var rfl h_15) ev_int (by first | (first | exact at_in (by omega) (by rw [fd]; omega) | (rw [← ed_1]; decide) | exact at_modS (by rw [← ed_1]; decide) | exact le_line (by rw [← ed_1]; decide) | (constructor <;> omega) | exact text_fits (by rw [rgs_len]; omega)) | (first | omega | decide | (show _ ≤ sizeLine; decide) | (show _ < sizeLine; decide)))) fun w_24 G27 H28 g26 (h_25 : rep K (d_13 % (6 : Int)) w_24 G27) => ?_
      have h_cell := up g26.g h_cell
      have h_most := up g26.g h_most
      have h_3 := up g26.g h_3
      have h_9 := up g26.g h_9
      have gr := gr.trans g26
      generalize ed_23 : (d_13 % (6 : Int)) = d_23 at h_25 hM
      unfold m__law_text_1 at hM
      have fz : 0 ≤ d_23 ∧ d_23 ≤ 40 := by first | (rw [← ed_23, hm]; exact ⟨Int.emod_nonneg _ (by decide), Int.le_of_lt_add_one (Int.emod_lt_of_pos _ (by decide))⟩) | (rw [← ed_23]; omega)
      refine nx_mk ?_
      refine s_ret (K := K) gr.s (ev_join ev_str (ev_lcR1m (fun d_29 => (getS d_1 ((getI d_7 d_29) % ((d_1).length : Int)))) (ev_var rfl h_25) (by first | (first | exact at_in (by omega) (by rw [fd]; omega) | (rw [← ed_1]; decide) | exact at_modS (by rw [← ed_1]; decide) | exact le_line (by rw [← ed_1]; decide) | (constructor <;> omega) | exact text_fits (by rw [rgs_len]; omega)) | (first | omega | decide | (show _ ≤ sizeLine; decide) | (show _ < sizeLine; decide))) (fun d_29 G_ H_ lo35 hi36 sg32 sh_ P k => by have h_3 := up sg32 h_3; have h_9 := up sg32 h_9; have h_31 : rep K d_29 (V.int d_29) G_ := rfl; exact k _ rfl eb_yes (fun hc33 => (ev_ixS (ev_var rfl h_3) (ev_mod (ev_int1 (ev_ixL (ev_var rfl h_9) (ev_var rfl h_31) (atI_get (by first | (first | exact at_in (by omega) (by rw [fd]; omega) | (rw [← ed_1]; decide) | exact at_modS (by rw [← ed_1]; decide) | exact le_line (by rw [← ed_1]; decide) | (constructor <;> omega) | exact text_fits (by rw [rgs_len]; omega)) | (first | decide | (refine at_in ?_ ?_ <;> omega) | (refine at_neg ?_ ?_ <;> omega)))))) (ev_lenS (ev_var rfl h_3) (by first | (first | exact at_in (by omega) (by rw [fd]; omega) | (rw [← ed_1]; decide) | exact at_modS (by rw [← ed_1]; decide) | exact le_line (by rw [← ed_1]; decide) | (constructor <;> omega) | exact text_fits (by rw [rgs_len]; omega)) | (first | omega | decide | (show _ ≤ sizeLine; decide) | (show _ < sizeLine; decide)))) (by first | (first | exact at_in (by omega) (by rw [fd]; omega) | (rw [← ed_1]; decide) | exact at_modS (by rw [← ed_1]; decide) | exact le_line (by rw [← ed_1]; decide) | (constructor <;> omega) | exact text_fits (by rw [rgs_len]; omega)) | (first | omega | decide | (show _ ≤ sizeLine; decide) | (show _ < sizeLine; decide)))) (by first | (first | exact at_in (by omega) (by rw [fd]; omega) | (rw [← ed_1]; decide) | exact at_modS (by rw [← ed_1]; decide) | exact le_line (by rw [← ed_1]; decide) | (constructor <;> omega) | exact text_fits (by rw [rgs_len]; omega)) | (first | omega | decide | (show _ ≤ sizeLine; decide) | (show _ < sizeLine; decide))) (atI_get (by first | (first | exact at_in (by omega) (by rw [fd]; omega) | (rw [← ed_1]; decide) | exact at_modS (by rw [← ed_1]; decide) | exact le_line (by rw [← ed_1]; decide) | (constructor <;> omega) | exact text_fits (by rw [rgs_len]; omega)) | (first | decide | (refine at_in ?_ ?_ <;> omega) | (refine at_neg ?_ ?_ <;> omega)))))))) (by first | (first | exact at_in (by omega) (by rw [fd]; omega) | (rw [← ed_1]; decide) | exact at_modS (by rw [← ed_1]; decide) | exact le_line (by rw [← ed_1]; decide) | (constructor <;> omega) | exact text_fits (by rw [rgs_len]; omega)) | (first | omega | decide | (show _ ≤ sizeLine; decide) | (show _ < sizeLine; decide)))) fun u Gr Hr gq hu => ?_
      exact hQ u Gr Hr (gr.trans gq) (by rw [hM]; exact hu)
    · intro hb20 G37 H38 g19
      have h_cell := up g19.g h_cell
      have h_most := up g19.g h_most
      have h_3 := up g19.g h_3
      have h_9 := up g19.g h_9
      have h_15 := up g19.g h_15
      have gr := gr.trans g19
      replace hM := condF hM hb20
      unfold m__law_text_2 at hM
      refine s_next ?_
      refine nx_mk ?_
      refine s_ret (K := K) gr.s (ev_join ev_str (ev_lcR1m (fun d_39 => (getS d_1 ((getI d_7 d_39) % ((d_1).length : Int)))) (ev_var rfl h_15) (by first | (first | exact at_in (by omega) (by rw [fd]; omega) | (rw [← ed_1]; decide) | exact at_modS (by rw [← ed_1]; decide) | exact le_line (by rw [← ed_1]; decide) | (constructor <;> omega) | exact text_fits (by rw [rgs_len]; omega)) | (first | omega | decide | (show _ ≤ sizeLine; decide) | (show _ < sizeLine; decide))) (fun d_39 G_ H_ lo45 hi46 sg42 sh_ P k => by have h_3 := up sg42 h_3; have h_9 := up sg42 h_9; have h_41 : rep K d_39 (V.int d_39) G_ := rfl; exact k _ rfl eb_yes (fun hc43 => (ev_ixS (ev_var rfl h_3) (ev_mod (ev_int1 (ev_ixL (ev_var rfl h_9) (ev_var rfl h_41) (atI_get (by first | (first | exact at_in (by omega) (by rw [fd]; omega) | (rw [← ed_1]; decide) | exact at_modS (by rw [← ed_1]; decide) | exact le_line (by rw [← ed_1]; decide) | (constructor <;> omega) | exact text_fits (by rw [rgs_len]; omega)) | (first | decide | (refine at_in ?_ ?_ <;> omega) | (refine at_neg ?_ ?_ <;> omega)))))) (ev_lenS (ev_var rfl h_3) (by first | (first | exact at_in (by omega) (by rw [fd]; omega) | (rw [← ed_1]; decide) | exact at_modS (by rw [← ed_1]; decide) | exact le_line (by rw [← ed_1]; decide) | (constructor <;> omega) | exact text_fits (by rw [rgs_len]; omega)) | (first | omega | decide | (show _ ≤ sizeLine; decide) | (show _ < sizeLine; decide)))) (by first | (first | exact at_in (by omega) (by rw [fd]; omega) | (rw [← ed_1]; decide) | exact at_modS (by rw [← ed_1]; decide) | exact le_line (by rw [← ed_1]; decide) | (constructor <;> omega) | exact text_fits (by rw [rgs_len]; omega)) | (first | omega | decide | (show _ ≤ sizeLine; decide) | (show _ < sizeLine; decide)))) (by first | (first | exact at_in (by omega) (by rw [fd]; omega) | (rw [← ed_1]; decide) | exact at_modS (by rw [← ed_1]; decide) | exact le_line (by rw [← ed_1]; decide) | (constructor <;> omega) | exact text_fits (by rw [rgs_len]; omega)) | (first | omega | decide | (show _ ≤ sizeLine; decide) | (show _ < sizeLine; decide))) (atI_get (by first | (first | exact at_in (by omega) (by rw [fd]; omega) | (rw [← ed_1]; decide) | exact at_modS (by rw [← ed_1]; decide) | exact le_line (by rw [← ed_1]; decide) | (constructor <;> omega) | exact text_fits (by rw [rgs_len]; omega)) | (first | decide | (refine at_in ?_ ?_ <;> omega) | (refine at_neg ?_ ?_ <;> omega)))))))) (by first | (first | exact at_in (by omega) (by rw [fd]; omega) | (rw [← ed_1]; decide) | exact at_modS (by rw [← ed_1]; decide) | exact le_line (by rw [← ed_1]; decide) | (constructor <;> omega) | exact text_fits (by rw [rgs_len]; omega)) | (first | omega | decide | (show _ ≤ sizeLine; decide) | (show _ < sizeLine; decide)))) fun u Gr Hr gq hu => ?_
      exact hQ u Gr Hr (gr.trans gq) (by rw [hM]; exact hu)
/-! #### _law_quoted -/
def m__law_quoted (d_label : Str) : Str := ((("\"" : Str) ++ (Txt.replace (Txt.replace d_label ("\\" : Str) ("\\\\" : Str)) ("\"" : Str) ("\\\"" : Str))) ++ ("\"" : Str))
abbrev p__law_quoted (K : PySem.W.Frag) : Sp := sp1 K (fun t => PreB t) m__law_quoted
theorem ok__law_quoted (T : Tx K mg base A) : FnOk P w K mg base CX0 1 A.f__law_quoted A.d__law_quoted ["label"] (p__law_quoted K) := by
  refine okT T.F__law_quoted sc__law_quoted (by decide +kernel) (by decide) (fun vs He Q E h => ?_) (fun cdv A0 outer s He vs Q E hr h => ⟨_, (psst_one (pst_ret (pet_op op_add_str (pet_op op_add_str (PET.of pe_str) (pet_replT (pet_replC (pv 0)))) (PET.of pe_str)))), ?_⟩)
  · obtain ⟨d_label, w_label, G, rfl, eG, h_label, hpre, hQ⟩ := h
    rfl
  · obtain ⟨d_label, w_label, G, rfl, eG, h_label, hpre, hQ⟩ := h
    have gr : Grow G He G He := Grow.refl eG
    obtain ⟨Ge, eGe⟩ : ∃ z, z = G := ⟨G, rfl⟩
    have gr : Grow Ge He G He := by rw [eGe]; exact gr
    rw [← eGe] at hQ
    clear eGe
    have hM : m__law_quoted d_label = ((("\"" : Str) ++ (Txt.replace (Txt.replace d_label ("\\" : Str) ("\\\\" : Str)) ("\"" : Str) ("\\\"" : Str))) ++ ("\"" : Str)) := rfl
    refine s_ret (K := K) gr.s (ev_addS (ev_addS ev_str (ev_replC (ev_replC (ev_var rfl h_label) (by first | (first | exact rs2 hpre (by decide) (by decide) | exact rs2 (rl2 hpre (by decide)) (by decide) (by decide) | exact q_line3 (rl2 (rl2 hpre (by decide)) (by decide)) | exact q_line4 (rl2 (rl2 hpre (by decide)) (by decide))) | (first | omega | decide | (show _ ≤ sizeLine; decide) | (show _ < sizeLine; decide)))) (by first | (first | exact rs2 hpre (by decide) (by decide) | exact rs2 (rl2 hpre (by decide)) (by decide) (by decide) | exact q_line3 (rl2 (rl2 hpre (by decide)) (by decide)) | exact q_line4 (rl2 (rl2 hpre (by decide)) (by decide))) | (first | omega | decide | (show _ ≤ sizeLine; decide) | (show _ < sizeLine; decide)))) (by first | (first | exact rs2 hpre (by decide) (by decide) | exact rs2 (rl2 hpre (by decide)) (by decide) (by decide) | exact q_line3 (rl2 (rl2 hpre (by decide)) (by decide)) | exact q_line4 (rl2 (rl2 hpre (by decide)) (by decide))) | (first | omega | decide | (show _ ≤ sizeLine; decide) | (show _ < sizeLine; decide)))) ev_str (by first | (first | exact rs2 hpre (by decide) (by decide) | exact rs2 (rl2 hpre (by decide)) (by decide) (by decide) | exact q_line3 (rl2 (rl2 hpre (by decide)) (by decide)) | exact q_line4 (rl2 (rl2 hpre (by decide)) (by decide))) | (first | omega | decide | (show _ ≤ sizeLine; decide) | (show _ < sizeLine; decide)))) fun u Gr Hr gq hu => ?_
    exact hQ u Gr Hr (gr.trans gq) (by rw [hM]; exact hu)
/-! #### law -/
def WALONE : List Str := ["focusNext", "focusPrevious", "nextItem", "previousItem", "firstItem", "lastItem", "closeTopLayer", "activate"]
def WNAME : List Str := ["focus", "openLayer", "run"]
def WORDS : List Str := ["focusNext", "focusPrevious", "nextItem", "previousItem", "firstItem", "lastItem", "closeTopLayer", "activate", "focus", "openLayer", "run", "announce"]
def NAMES : List Str := ["a", "ok", "abcdefgh", "9._-", "", "abcdefghi", "A", "a b", " a", "a "]
def odd9 (w t : Str) : List Str := [t ++ (" " : Str), (" " : Str) ++ t, Txt.upper t, w ++ ("  x" : Str), ("announce x" : Str), ("announce" : Str), ("focus" : Str), ("" : Str), ("run" : Str)]
def odd3 : List Str := [("focusNext a" : Str), ("announce \"a" : Str), ("announce \"\"\"" : Str)]
def dueN (w n : Str) : Option (Str × Str) := cond (memB n (cutL NAMES none (some (4 : Int)))) (some (w, n)) none
def okW (w t : Str) (due : Option (Str × Str)) : Bool := PyData.eqv (Dat.d (m_command_of t)) (Dat.d due) && (SeqAt.shaped (Dat.d (m_command_of t)) && SeqAt.shaped (Dat.d due)) && (odd9 w t ++ odd3).all fun o => (m_command_of o).isNone
theorem fin_alone : ∀ w ∈ WALONE, okW w w (some (w, ("" : Str))) = true := by decide +kernel
theorem fin_name : ∀ w ∈ WNAME, ∀ n ∈ NAMES, okW w (w ++ (" " : Str) ++ n) (dueN w n) = true := by decide +kernel
theorem mem_esc {q c : Nat} {z l : List Nat} (h : c ∈ esc q z l) : c ∈ z ∨ c ∈ l := by
  unfold esc at h
  obtain ⟨d, hd, hc⟩ := List.mem_flatMap.mp h
  by_cases e : d = q
  · rw [if_pos e] at hc
    exact .inl hc
  · rw [if_neg e] at hc
    rw [List.mem_singleton.mp hc]
    exact .inr hd
structure LabT (l : Str) : Prop where
  n : l.length ≤ 40
  p : ∀ c ∈ TL.tl l, 32 ≤ c ∧ c ≤ 126
theorem LabT.asc {l : Str} (h : LabT l) : Asc l := fun c hc => by have := h.p c hc; omega
theorem asc_ok {x : Str} (h : Asc x) : PyData.strOk x = true := by
  obtain ⟨⟨l⟩⟩ := x
  show (Array.mk l).all (fun c => decide (c < 0x110000)) = true
  rw [← Array.all_toList]
  exact List.all_eq_true.mpr fun c hc => decide_eq_true (Nat.lt_trans (h c hc) (by decide))
theorem lq_tl (l : Str) : TL.tl (m__law_quoted l) = 34 :: (E2 (E1 (TL.tl l)) ++ [34]) := by
  show TL.tl (("\"" : Str) ++ Txt.replace (Txt.replace l ("\\" : Str) ("\\\\" : Str)) ("\"" : Str) ("\\\"" : Str) ++ ("\"" : Str)) = _
  rw [TL.tl_append, TL.tl_append, esc_is, tl_q]
  rfl
theorem q_is (l : Str) : m_quoted l = m__law_quoted l := tl_inj (by
  show TL.tl (Str.empty ++ ("\"" : Str) ++ Txt.replace (Txt.replace l ("\\" : Str) ("\\\\" : Str)) ("\"" : Str) ("\\\"" : Str) ++ ("\"" : Str)) = _
  rw [TL.tl_append, TL.tl_append, TL.tl_append, esc_is, tl_q, lq_tl]
  rfl)
theorem lq_len {l : Str} (h : l.length ≤ 40) : (m__law_quoted l).length ≤ 370 := by
  show (("\"" : Str) ++ Txt.replace (Txt.replace l ("\\" : Str) ("\\\\" : Str)) ("\"" : Str) ("\\\"" : Str) ++ ("\"" : Str)).length ≤ 370
  have h1 := rl2 (x := Txt.replace l ("\\" : Str) ("\\\\" : Str)) (y := ("\"" : Str)) (z := ("\\\"" : Str)) (rl2 (y := ("\\" : Str)) (z := ("\\\\" : Str)) h (by decide)) (by decide)
  rw [len_app, len_app, show ("\"" : Str).length = 1 by decide]
  omega
theorem label_ok {l : Str} (h : LabT l) : m_is_label (some l) = true := by
  show cond (false || decide ((40 : Int) < (l.length : Int))) false (m_is_label_1 l) = true
  rw [show decide ((40 : Int) < (l.length : Int)) = false from decide_eq_false (by have := h.n; omega)]
  show (l.cps.toList.all fun k => !decide ([k] < ((" " : Str)).cps.toList) && !decide ((("~" : Str)).cps.toList < [k])) = true
  refine List.all_eq_true.mpr fun c hc => ?_
  have hp := h.p c hc
  rw [show (" " : Str).cps.toList = [32] by decide +kernel, show ("~" : Str).cps.toList = [126] by decide +kernel]
  have f1 : ¬ ([c] : List Nat) < [32] := fun q => by
    rcases List.cons_lt_cons_iff.mp q with z | z
    · omega
    · exact absurd z.2 (by decide)
  have f2 : ¬ ([126] : List Nat) < [c] := fun q => by
    rcases List.cons_lt_cons_iff.mp q with z | z
    · omega
    · exact absurd z.2 (by decide)
  rw [decide_eq_false f1, decide_eq_false f2]
  rfl
theorem unq_is {l : Str} (h : LabT l) : m_unquoted (m__law_quoted l) = some l := by
  have e : Txt.replace (Txt.replace (cutS (m__law_quoted l) (some (1 : Int)) (some (-(1 : Int)))) ("\\\"" : Str) ("\"" : Str)) ("\\\\" : Str) ("\\" : Str) = l := by
    refine tl_inj (unesc_is _ _ ?_)
    show (cutL (TL.tl (m__law_quoted l)) (some 1) (some (-1))) = _
    rw [lq_tl, cut_mid]
  show m_unquoted_1 (m_text_in_1 (m__law_quoted l) _) = some l
  rw [e]
  unfold m_text_in_1
  rw [q_is, eqB_self]
  show m_unquoted_1 (some l) = some l
  unfold m_unquoted_1
  rw [label_ok h]
  rfl
theorem unq_no {x : Str} {c : Nat} (h : (TL.tl x).getLast? = some c) (hc : c ≠ 34) : m_unquoted x = none := by
  unfold m_unquoted m_text_in
  generalize Txt.replace _ _ _ = z
  unfold m_text_in_1
  have : eqB (m_quoted z) x = false := decide_eq_false fun e => by
    rw [← e, q_is, lq_tl, ← List.cons_append, List.getLast?_append] at h
    exact hc (Option.some.inj h).symm
  rw [this]
  rfl
theorem no_sp : 32 ∉ TL.tl ("announce" : Str) := by decide +kernel
theorem sp_tl : TL.tl (" " : Str) = [32] := by decide +kernel
theorem cmd_app {a b : Str} (h : 32 ∉ TL.tl a) : m_command_of (a ++ (" " : Str) ++ b) = m_command_of_2 a b := by
  unfold m_command_of
  rw [TL.partition_app sp_tl h]
  show cond (eqB (" " : Str) ("" : Str)) _ _ = _
  rw [show eqB (" " : Str) ("" : Str) = false by decide +kernel]
  rfl
theorem ann_cmd (b : Str) : m_command_of (("announce" : Str) ++ (" " : Str) ++ b) = m__announcement b := by
  rw [cmd_app no_sp]
  unfold m_command_of_2
  rw [show memB ("announce" : Str) (Tpl.mk k__WORDS_WITH_NAME).l = false by decide +kernel]
  show m_command_of_1 ("announce" : Str) b = _
  unfold m_command_of_1
  rw [eqB_self]
  rfl
theorem other_cmd {a : Str} (b : Str) (h : 32 ∉ TL.tl a) (h1 : memB a (Tpl.mk k__WORDS_WITH_NAME).l = false) (h2 : eqB a ("announce" : Str) = false) : m_command_of (a ++ (" " : Str) ++ b) = none := by
  rw [cmd_app h]
  unfold m_command_of_2
  rw [h1]
  show m_command_of_1 a b = none
  unfold m_command_of_1
  rw [h2]
  rfl
theorem shaped_pair {a b : Str} (ha : PyData.strOk a = true) (hb : PyData.strOk b = true) : SeqAt.shaped (Dat.d (some (a, b))) = true := by
  show (PyData.canLay0 (.tuple [.str a, .str b]) && decide (PyData.depth (.tuple [.str a, .str b]) ≤ 64)) = true
  have e1 : PyData.canLay0 (.tuple [.str a, .str b]) = (PyData.strOk a && (PyData.strOk b && true)) := rfl
  have e2 : PyData.depth (.tuple [.str a, .str b]) = 1 := rfl
  rw [e1, e2, ha, hb]
  rfl
theorem fin_ann {l : Str} (h : LabT l) : okW ("announce" : Str) (("announce" : Str) ++ (" " : Str) ++ m__law_quoted l) (some (("announce" : Str), l)) = true := by
  have e : m_command_of (("announce" : Str) ++ (" " : Str) ++ m__law_quoted l) = some (("announce" : Str), l) := by
    rw [ann_cmd]
    unfold m__announcement
    rw [unq_is h]
    rfl
  have sh : SeqAt.shaped (Dat.d (some (("announce" : Str), l))) = true := shaped_pair (by decide +kernel) (asc_ok h.asc)
  unfold okW
  rw [e, sh]
  have hd : PyData.eqv (Dat.d (some (("announce" : Str), l))) (Dat.d (some (("announce" : Str), l))) = true := SeqAt.eqv_refl _ (Bool.and_eq_true_iff.mp sh).1
  rw [hd]
  show (odd9 ("announce" : Str) (("announce" : Str) ++ (" " : Str) ++ m__law_quoted l) ++ odd3).all (fun o => (m_command_of o).isNone) = true
  refine List.all_eq_true.mpr fun o ho => ?_
  have fixed : ∀ o ∈ [("announce" : Str) ++ ("  x" : Str), ("announce x" : Str), ("announce" : Str), ("focus" : Str), ("" : Str), ("run" : Str), ("focusNext a" : Str), ("announce \"a" : Str), ("announce \"\"\"" : Str)], (m_command_of o).isNone = true := by decide +kernel
  rcases List.mem_cons.mp ho with z | ho
  · subst z
    rw [s_assoc, s_assoc, ← s_assoc ("announce" : Str), ann_cmd]
    unfold m__announcement
    rw [unq_no (c := 32) (by rw [TL.tl_append, sp_tl, List.getLast?_append]; rfl) (by decide)]
    rfl
  rcases List.mem_cons.mp ho with z | ho
  · subst z
    have e0 : (" " : Str) ++ (("announce" : Str) ++ (" " : Str) ++ m__law_quoted l) = ("" : Str) ++ (" " : Str) ++ (("announce" : Str) ++ (" " : Str) ++ m__law_quoted l) := by rw [s_nil0]
    rw [e0, other_cmd _ (by decide +kernel) (by decide +kernel) (by decide +kernel)]
    rfl
  rcases List.mem_cons.mp ho with z | ho
  · subst z
    have ha : Asc (("announce" : Str) ++ (" " : Str) ++ m__law_quoted l) := fun c hc => by
      rw [TL.tl_append, TL.tl_append, lq_tl] at hc
      rcases List.mem_append.mp hc with q | q
      · rcases List.mem_append.mp q with q | q
        · exact (show ∀ c ∈ TL.tl ("announce" : Str), c < 128 by decide +kernel) c q
        · exact (show ∀ c ∈ TL.tl (" " : Str), c < 128 by decide +kernel) c q
      · rcases List.mem_cons.mp q with q | q
        · omega
        · rcases List.mem_append.mp q with q | q
          · rcases mem_esc q with q | q
            · exact (show ∀ c ∈ ([92, 34] : List Nat), c < 128 by decide) c q
            · rcases mem_esc q with q | q
              · exact (show ∀ c ∈ ([92, 92] : List Nat), c < 128 by decide) c q
              · exact h.asc c q
          · have := List.mem_singleton.mp q
            omega
    have e0 : Txt.upper (("announce" : Str) ++ (" " : Str) ++ m__law_quoted l) = ("ANNOUNCE" : Str) ++ (" " : Str) ++ ⟨((TL.tl (m__law_quoted l)).map up1).toArray⟩ := tl_inj (by
      rw [upper_tl ha, TL.tl_append, TL.tl_append, TL.tl_append, TL.tl_append, List.map_append, List.map_append]
      rw [show (TL.tl ("announce" : Str)).map up1 = TL.tl ("ANNOUNCE" : Str) by decide +kernel, show (TL.tl (" " : Str)).map up1 = TL.tl (" " : Str) by decide +kernel])
    rw [e0, other_cmd _ (by decide +kernel) (by decide +kernel) (by decide +kernel)]
    rfl
  exact fixed o ho

theorem join_mem {c : Nat} {y : Str} : ∀ {l : List Str}, c ∈ TL.tl (Txt.join y l) → c ∈ TL.tl y ∨ ∃ p ∈ l, c ∈ TL.tl p
  | [], h => by
    rw [TL.join_eq] at h
    have e : TL.tl (Str.join y []) = [] := rfl
    rw [e] at h
    cases h
  | [x], h => by
    rw [join_one] at h
    exact .inr ⟨x, List.mem_cons_self, h⟩
  | x :: z :: r, h => by
    rw [join_cons2, TL.tl_append, TL.tl_append] at h
    rcases List.mem_append.mp h with q | q
    · rcases List.mem_append.mp q with q | q
      · exact .inr ⟨x, List.mem_cons_self, q⟩
      · exact .inl q
    · rcases join_mem q with q | ⟨p, hp, q⟩
      · exact .inl q
      · exact .inr ⟨p, .tail _ hp, q⟩
def SG : Str := " !\"#&'()*+,-./09:;<=>?@AZ[\\]^_`az{|}~"
theorem sg_ok : ∀ c ∈ SG.cps.toList, 32 ≤ c ∧ c ≤ 126 := by decide +kernel
theorem lab_list {d : List Int} {l : List Int} (h : l.length ≤ 40) : LabT (Txt.join ("" : Str) (List.map (fun k => getS SG (getI d k % (SG.length : Int))) l)) := by
  refine ⟨?_, fun c hc => ?_⟩
  · rw [join_len, show ("" : Str).length = 0 by decide, Nat.mul_zero, Nat.add_zero]
    refine Nat.le_trans (sum_le (n := 1) (mem_map_all fun k _ => Nat.le_refl 1)) ?_
    rw [List.length_map, Nat.mul_one] <;> exact h
  · rcases join_mem hc with q | ⟨p, hp, q⟩
    · rw [show TL.tl ("" : Str) = [] by decide +kernel] at q
      cases q
    · obtain ⟨k, _, e⟩ := List.mem_map.mp hp
      rw [← e] at q
      have e2 : c = _ := List.mem_singleton.mp q
      rw [e2]
      exact sg_ok _ (getI_mem (at_modS (by decide)))
theorem lab_text (c : Int) : LabT (m__law_text c 40) := by
  show LabT (m__law_text_3 40 SG (m__law_draws c 42) (getI (m__law_draws c 42) 40 % 41))
  generalize m__law_draws c 42 = d
  have h0 : 0 ≤ getI d 40 % 41 := Int.emod_nonneg _ (by decide)
  have h1 : getI d 40 % 41 < 41 := Int.emod_lt_of_pos _ (by decide)
  generalize getI d 40 % 41 = n at h0 h1
  unfold m__law_text_3
  cases decide ((0 : Int) < getI d (40 + 1) % 3) with
  | true => exact lab_list (l := rgs 0 (n % 6)) (by rw [rgs_len]; omega)
  | false => exact lab_list (l := rgs 0 n) (by rw [rgs_len]; omega)
theorem mov_ok : TOk ["focusNext", "focusPrevious", "nextItem", "previousItem", "firstItem", "lastItem"] := by unfold TOk; decide +kernel
theorem words_len : ∀ w ∈ WORDS, w.length ≤ 13 := by decide +kernel
theorem names_len : ∀ w ∈ NAMES, w.length ≤ 9 := by decide +kernel
theorem t_name {w n : Str} (hw : w ∈ WORDS) (hn : n ∈ NAMES) : (w ++ (" " : Str) ++ n).length ≤ 400 := by
  have := words_len w hw
  have := names_len n hn
  rw [len_app, len_app, show (" " : Str).length = 1 by decide]
  omega
theorem t_ann {w l : Str} (hw : w ∈ WORDS) (hl : LabT l) : (w ++ (" " : Str) ++ m__law_quoted l).length ≤ 400 := by
  have := words_len w hw
  have := lq_len hl.n
  rw [len_app, len_app, show (" " : Str).length = 1 by decide]
  omega

theorem odd9_len {w t : Str} (hw : w ∈ WORDS) (ht : t.length ≤ 400) (ha : Asc t) : ∀ x ∈ odd9 w t, PreT x := by
  intro x hx
  have hw2 := words_len w hw
  have s1 : (" " : Str).length = 1 := by decide
  rcases List.mem_cons.mp hx with z | hx
  · rw [z]; unfold PreT; rw [len_app, s1]; omega
  rcases List.mem_cons.mp hx with z | hx
  · rw [z]; unfold PreT; rw [len_app, s1]; omega
  rcases List.mem_cons.mp hx with z | hx
  · rw [z]
    unfold PreT
    rw [len_tl, upper_tl ha, List.length_map, ← len_tl]
    omega
  rcases List.mem_cons.mp hx with z | hx
  · rw [z]; unfold PreT; rw [len_app, show ("  x" : Str).length = 3 by decide]; omega
  exact (show ∀ x ∈ [("announce x" : Str), ("announce" : Str), ("focus" : Str), ("" : Str), ("run" : Str)], x.length ≤ 1000 by decide +kernel) x hx
theorem odd3_len : ∀ x ∈ odd3, PreT x := by unfold PreT; decide +kernel
theorem odd12_len {l : List Str} (h : ∀ x ∈ l, PreT x) : ∀ x ∈ l ++ odd3, PreT x := fun x hx => (List.mem_append.mp hx).elim (h x) (odd3_len x)
theorem asc_word : ∀ w ∈ WORDS, Asc w := by unfold Asc; decide +kernel
theorem asc_name : ∀ w ∈ NAMES, Asc w := by unfold Asc; decide +kernel
theorem asc_app {a b : Str} (h : Asc a) (k : Asc b) : Asc (a ++ b) := fun c hc => by
  rw [TL.tl_append] at hc
  exact (List.mem_append.mp hc).elim (h c) (k c)
theorem asc_sp : Asc (" " : Str) := by unfold Asc; decide +kernel
theorem asc_lq {l : Str} (h : LabT l) : Asc (m__law_quoted l) := fun c hc => by
  rw [lq_tl] at hc
  rcases List.mem_cons.mp hc with q | q
  · omega
  · rcases List.mem_append.mp q with q | q
    · rcases mem_esc q with q | q
      · exact (show ∀ c ∈ ([92, 34] : List Nat), c < 128 by decide) c q
      · rcases mem_esc q with q | q
        · exact (show ∀ c ∈ ([92, 92] : List Nat), c < 128 by decide) c q
        · exact h.asc c q
    · have := List.mem_singleton.mp q
      omega
structure TextT (t : Str) : Prop where
  n : t.length ≤ 400
  a : Asc t
theorem TextT.pre {t : Str} (h : TextT t) : PreT t := Nat.le_trans h.n (by decide)
theorem tt_word {w : Str} (hw : w ∈ WORDS) : TextT w := ⟨Nat.le_trans (words_len w hw) (by decide), asc_word w hw⟩
theorem tt_name {w n : Str} (hw : w ∈ WORDS) (hn : n ∈ NAMES) : TextT (w ++ (" " : Str) ++ n) := ⟨t_name hw hn, asc_app (asc_app (asc_word w hw) asc_sp) (asc_name n hn)⟩
theorem tt_ann {w l : Str} (hw : w ∈ WORDS) (hl : LabT l) : TextT (w ++ (" " : Str) ++ m__law_quoted l) := ⟨t_ann hw hl, asc_app (asc_app (asc_word w hw) asc_sp) (asc_lq hl)⟩
theorem words_at {d1 : List Str} {n : Int} {w : Str} (e1 : ([("focusNext" : Str), "focusPrevious", "nextItem", "previousItem", "firstItem", "lastItem"] : List Str) = d1) (e : getI (d1 ++ ([("closeTopLayer" : Str), "activate", "focus", "openLayer", "run", "announce"] : List Str)) (n % 12) = w) : w ∈ WORDS := by
  subst e1
  rw [← e]
  show getI WORDS (n % 12) ∈ WORDS
  exact getI_mem (at_in (Int.emod_nonneg _ (by decide)) (Int.emod_lt_of_pos _ (by decide)))
theorem names_at {l : List Str} {n : Int} {w : Str} (e1 : NAMES = l) (e : getI l (n % 10) = w) : w ∈ NAMES := by
  subst e1
  rw [← e]
  exact getI_mem (at_in (Int.emod_nonneg _ (by decide)) (Int.emod_lt_of_pos _ (by decide)))
theorem ok_shape {w t : Str} {d : Option (Str × Str)} (h : okW w t d = true) : SeqAt.shaped (Dat.d (m_command_of t)) = true ∧ SeqAt.shaped (Dat.d d) = true := by
  unfold okW at h
  rw [Bool.and_eq_true, Bool.and_eq_true, Bool.and_eq_true] at h
  exact h.1.2
theorem alone_of {w : Str} (hw : w ∈ WORDS) (h1 : memB w (Tpl.mk (("focus" : Str) :: (("openLayer" : Str) :: (("run" : Str) :: ([] : List Str))))).l = false) (h2 : eqB w ("announce" : Str) = false) : w ∈ WALONE := by
  revert h1 h2
  revert hw
  revert w
  decide +kernel
theorem w_sp {w : Str} (h : w ∈ WORDS) : w.length + (" " : Str).length ≤ sizeLine := by
  have := words_len w h
  rw [show (" " : Str).length = 1 by decide]
  exact le_line (by omega)
theorem w_x {w : Str} (h : w ∈ WORDS) : w.length + ("  x" : Str).length ≤ sizeLine := by
  have := words_len w h
  rw [show ("  x" : Str).length = 3 by decide]
  exact le_line (by omega)
theorem w_spn {w n : Str} (h : w ∈ WORDS) (hn : n ∈ NAMES) : (w ++ (" " : Str)).length + n.length ≤ sizeLine := by
  have := t_name h hn
  rw [len_app] at this
  exact le_line (by omega)
theorem w_spq {w l : Str} (h : w ∈ WORDS) (hl : LabT l) : (w ++ (" " : Str)).length + (m__law_quoted l).length ≤ sizeLine := by
  have := t_ann h hl
  rw [len_app] at this
  exact le_line (by omega)
theorem t_sp {t : Str} (h : TextT t) : t.length + (" " : Str).length ≤ sizeLine := by
  have := h.n
  rw [show (" " : Str).length = 1 by decide]
  exact le_line (by omega)
theorem sp_t {t : Str} (h : TextT t) : (" " : Str).length + t.length ≤ sizeLine := by
  have := h.n
  rw [show (" " : Str).length = 1 by decide]
  exact le_line (by omega)
theorem t_low {t : Str} (h : TextT t) : t.length ≤ 5592405 := le_low (by have := h.n; omega)
theorem ok_name {w n t : Str} {l : List Str} {d : Option (Str × Str)} (hn : n ∈ NAMES) (el : NAMES = l) (hw : memB w (Tpl.mk (("focus" : Str) :: (("openLayer" : Str) :: (("run" : Str) :: ([] : List Str))))).l = true) (et : w ++ (" " : Str) ++ n = t) (ed : cond (memB n (cutL l none (some (4 : Int)))) (some (w, n)) none = d) : okW w t d = true := by
  subst el et ed
  exact fin_name w (memB_of hw) n hn
theorem ok_ann {w t l : Str} {d : Option (Str × Str)} (hl : LabT l) (hw : eqB w ("announce" : Str) = true) (et : w ++ (" " : Str) ++ m__law_quoted l = t) (ed : some (w, l) = d) : okW w t d = true := by
  subst et ed
  rw [eqB_of hw]
  exact fin_ann hl
theorem ok_alone {w : Str} {d : Option (Str × Str)} (hw : w ∈ WORDS) (h1 : memB w (Tpl.mk (("focus" : Str) :: (("openLayer" : Str) :: (("run" : Str) :: ([] : List Str))))).l = false) (h2 : eqB w ("announce" : Str) = false) (ed : some (w, ("" : Str)) = d) : okW w w d = true := by
  subst ed
  exact fin_alone w (alone_of hw h1 h2)
theorem name_of {w : Str} (h1 : memB w (Tpl.mk (("focus" : Str) :: (("openLayer" : Str) :: (("run" : Str) :: ([] : List Str))))).l = true) : w ∈ WNAME := memB_of h1

def m_law_1 (d_30 : (List Int)) (d_102 : (List Str)) : (Step (Unit) Bool) := (cond ((m_command_of (getI d_102 ((getI d_30 (2 : Int)) % (12 : Int))))).isSome (Step.ret false) (Step.go ()))
def m_law_2 (d_30 : (List Int)) (d_96 : (List Str)) : (Step (Unit) Bool) := (m_law_1 d_30 (d_96 ++ (("focusNext a" : Str) :: (("announce \"a" : Str) :: (("announce \"\"\"" : Str) :: ([] : List Str))))))
def m_law_3 (d_30 : (List Int)) (d_36 : Str) (d_76 : Str) : (Step (Unit) Bool) := (m_law_2 d_30 ((d_76 ++ (" " : Str)) :: (((" " : Str) ++ d_76) :: ((Txt.upper d_76) :: ((d_36 ++ ("  x" : Str)) :: (("announce x" : Str) :: (("announce" : Str) :: (("focus" : Str) :: (("" : Str) :: (("run" : Str) :: ([] : List Str)))))))))))
def m_law_4 (d_30 : (List Int)) (d_36 : Str) (d_76 : Str) (d_84 : (Option (Str × Str))) : (Step (Unit) Bool) := (cond (!PyData.eqv (Dat.d (m_command_of d_76)) (Dat.d d_84)) (Step.ret false) (m_law_3 d_30 d_36 d_76))
def m_law_5 (d_30 : (List Int)) (d_36 : Str) (d_42 : (List Str)) (d_48 : Str) (d_76 : Str) : (Step (Unit) Bool) := (m_law_4 d_30 d_36 d_76 (cond (memB d_48 (cutL d_42 none (some (4 : Int)))) (some (d_36, d_48)) (none : (Option (Str × Str)))))
def m_law_6 (d_30 : (List Int)) (d_144 : (List Str)) : (Step (Unit) Bool) := (cond ((m_command_of (getI d_144 ((getI d_30 (2 : Int)) % (12 : Int))))).isSome (Step.ret false) (Step.go ()))
def m_law_7 (d_30 : (List Int)) (d_138 : (List Str)) : (Step (Unit) Bool) := (m_law_6 d_30 (d_138 ++ (("focusNext a" : Str) :: (("announce \"a" : Str) :: (("announce \"\"\"" : Str) :: ([] : List Str))))))
def m_law_8 (d_30 : (List Int)) (d_36 : Str) (d_120 : Str) : (Step (Unit) Bool) := (m_law_7 d_30 ((d_120 ++ (" " : Str)) :: (((" " : Str) ++ d_120) :: ((Txt.upper d_120) :: ((d_36 ++ ("  x" : Str)) :: (("announce x" : Str) :: (("announce" : Str) :: (("focus" : Str) :: (("" : Str) :: (("run" : Str) :: ([] : List Str)))))))))))
def m_law_9 (d_30 : (List Int)) (d_36 : Str) (d_120 : Str) (d_126 : (Option (Str × Str))) : (Step (Unit) Bool) := (cond (!PyData.eqv (Dat.d (m_command_of d_120)) (Dat.d d_126)) (Step.ret false) (m_law_8 d_30 d_36 d_120))
def m_law_10 (d_30 : (List Int)) (d_36 : Str) (d_54 : Str) (d_120 : Str) : (Step (Unit) Bool) := (m_law_9 d_30 d_36 d_120 (some (d_36, d_54)))
def m_law_11 (d_30 : (List Int)) (d_170 : (List Str)) : (Step (Unit) Bool) := (cond ((m_command_of (getI d_170 ((getI d_30 (2 : Int)) % (12 : Int))))).isSome (Step.ret false) (Step.go ()))
def m_law_12 (d_30 : (List Int)) (d_164 : (List Str)) : (Step (Unit) Bool) := (m_law_11 d_30 (d_164 ++ (("focusNext a" : Str) :: (("announce \"a" : Str) :: (("announce \"\"\"" : Str) :: ([] : List Str))))))
def m_law_13 (d_30 : (List Int)) (d_36 : Str) : (Step (Unit) Bool) := (m_law_12 d_30 ((d_36 ++ (" " : Str)) :: (((" " : Str) ++ d_36) :: ((Txt.upper d_36) :: ((d_36 ++ ("  x" : Str)) :: (("announce x" : Str) :: (("announce" : Str) :: (("focus" : Str) :: (("" : Str) :: (("run" : Str) :: ([] : List Str)))))))))))
def m_law_14 (d_30 : (List Int)) (d_36 : Str) (d_66 : (Option (Str × Str))) : (Step (Unit) Bool) := (cond (!PyData.eqv (Dat.d (m_command_of d_36)) (Dat.d d_66)) (Step.ret false) (m_law_13 d_30 d_36))
def m_law_15 (d_30 : (List Int)) (d_36 : Str) (d_54 : Str) (d_66 : (Option (Str × Str))) : (Step (Unit) Bool) := (cond (eqB d_36 ("announce" : Str)) (m_law_10 d_30 d_36 d_54 ((d_36 ++ (" " : Str)) ++ (m__law_quoted d_54))) (m_law_14 d_30 d_36 d_66))
def m_law_16 (d_30 : (List Int)) (d_36 : Str) (d_42 : (List Str)) (d_48 : Str) (d_54 : Str) (d_66 : (Option (Str × Str))) : (Step (Unit) Bool) := (cond (memB d_36 ((Tpl.mk (("focus" : Str) :: (("openLayer" : Str) :: (("run" : Str) :: ([] : List Str)))))).l) (m_law_5 d_30 d_36 d_42 d_48 ((d_36 ++ (" " : Str)) ++ d_48)) (m_law_15 d_30 d_36 d_54 d_66))
def m_law_17 (d_30 : (List Int)) (d_36 : Str) (d_42 : (List Str)) (d_48 : Str) (d_54 : Str) : (Step (Unit) Bool) := (m_law_16 d_30 d_36 d_42 d_48 d_54 (some (d_36, ("" : Str))))
def m_law_18 (d_script : Scr) (d_13 : Int) (d_30 : (List Int)) (d_36 : Str) (d_42 : (List Str)) (d_48 : Str) : (Step (Unit) Bool) := (m_law_17 d_30 d_36 d_42 d_48 (m__law_text (m__law_cell d_script ((10 : Int) + d_13)) (40 : Int)))
def m_law_19 (d_script : Scr) (d_13 : Int) (d_30 : (List Int)) (d_36 : Str) (d_42 : (List Str)) : (Step (Unit) Bool) := (m_law_18 d_script d_13 d_30 d_36 d_42 (getI d_42 ((getI d_30 (1 : Int)) % (10 : Int))))
def m_law_20 (d_script : Scr) (d_13 : Int) (d_30 : (List Int)) (d_36 : Str) : (Step (Unit) Bool) := (m_law_19 d_script d_13 d_30 d_36 (("a" : Str) :: (("ok" : Str) :: (("abcdefgh" : Str) :: (("9._-" : Str) :: (("" : Str) :: (("abcdefghi" : Str) :: (("A" : Str) :: (("a b" : Str) :: ((" a" : Str) :: (("a " : Str) :: ([] : List Str))))))))))))
def m_law_21 (d_script : Scr) (d_1 : (Tpl Str)) (d_13 : Int) (d_30 : (List Int)) : (Step (Unit) Bool) := (m_law_20 d_script d_13 d_30 (getI ((Tpl.mk ((d_1).l ++ ((Tpl.mk (("closeTopLayer" : Str) :: (("activate" : Str) :: (("focus" : Str) :: (("openLayer" : Str) :: (("run" : Str) :: (("announce" : Str) :: ([] : List Str))))))))).l))).l ((getI d_30 (0 : Int)) % (12 : Int))))
def m_law_22 (d_script : Scr) (d_1 : (Tpl Str)) (d_13 : Int) : (Step (Unit) Bool) := (m_law_21 d_script d_1 d_13 (m__law_draws (m__law_cell d_script d_13) (6 : Int)))
def m_law_23 (d_script : Scr) (d_1 : (Tpl Str)) (s : Unit) (d_13 : Int) : (Step (Unit) Bool) := m_law_22 d_script d_1 (d_13)
def m_law_24  (s : Unit) : Bool := true
def m_law_25 (d_script : Scr) (d_1 : (Tpl Str)) : Bool := (cond (!eqB ((Tpl.mk k_MOVEMENTS)).l (d_1).l) false (exitF (runL (m_law_23 d_script d_1) () (rgs 0 (5 : Int))) m_law_24))
def m_law (d_script : Scr) : Bool := (m_law_25 d_script (Tpl.mk (("focusNext" : Str) :: (("focusPrevious" : Str) :: (("nextItem" : Str) :: (("previousItem" : Str) :: (("firstItem" : Str) :: (("lastItem" : Str) :: ([] : List Str)))))))))
abbrev p_law (K : PySem.W.Frag) : Sp := sp1 K (fun s => s.l.length ≤ 63) m_law
theorem ok_law (T : Tx K mg base A) : FnOk P w K mg base CX0 6 A.f_law A.d_law ["script"] (p_law K) := by
  refine T.F_law.ok sc_law (fun vs He Q E h => ?_) (fun cdv A0 outer s He vs Q E hr h => ⟨_, (pss_cons (ps_set (i := 1) sc_law.nd rfl (Or.inl rfl) (pe_tup (pa_cons pe_str (pa_cons pe_str (pa_cons pe_str (pa_cons pe_str (pa_cons pe_str (pa_cons pe_str pa_nil)))))))) (pss_cons (ps_if (pt_cmpR (op_neK (K := K) hr.units) (C8.pe_gc (v := .ref A.k_MOVEMENTS) rfl ⟨_, T.c_MOVEMENTS, rfl⟩) (pv 1) (nomark _)) (pss_one (ps_ret pe_bl)) pss_nil) (pss_cons (ps_for PassesOwn.never rfl (pi_range1 rfl T.n_range (pa_cons pe_int pa_nil)) (pg_name (i := 2) sc_law.nd rfl (Or.inl rfl)) (pss_cons (ps_set (i := 3) sc_law.nd rfl (Or.inl rfl) (pe_call (ok__law_draws T) (hr.mono (by decide)) rfl T.g__law_draws T.F__law_draws.kp T.b__law_draws .nil pass0 (pa_cons (pe_call (ok__law_cell T) (hr.mono (by decide)) rfl T.g__law_cell T.F__law_cell.kp T.b__law_cell .nil pass0 (pa_cons (pv 0) (pa_cons (pv 2) pa_nil))) (pa_cons pe_int pa_nil)))) (pss_cons (ps_set (i := 4) sc_law.nd rfl (Or.inl rfl) (pe_ix (ix_tupK (K := K)) (pe_op (op_catTK (K := K)) (pv 1) (pe_tup (pa_cons pe_str (pa_cons pe_str (pa_cons pe_str (pa_cons pe_str (pa_cons pe_str (pa_cons pe_str pa_nil)))))))) (pe_op op_mod (pe_callTy call_int1 rfl T.n_int boot_int (pa_cons (pe_ix (ix_listK (K := K)) (pv 3) pe_int fun _ _ => rfl) pa_nil)) pe_int) fun _ _ => rfl)) (pss_cons (ps_set (i := 5) sc_law.nd rfl (Or.inl rfl) (pe_lst (pa_cons pe_str (pa_cons pe_str (pa_cons pe_str (pa_cons pe_str (pa_cons pe_str (pa_cons pe_str (pa_cons pe_str (pa_cons pe_str (pa_cons pe_str (pa_cons pe_str pa_nil)))))))))))) (pss_cons (ps_set (i := 6) sc_law.nd rfl (Or.inl rfl) (pe_ix (ix_listK (K := K)) (pv 5) (pe_op op_mod (pe_callTy call_int1 rfl T.n_int boot_int (pa_cons (pe_ix (ix_listK (K := K)) (pv 3) pe_int fun _ _ => rfl) pa_nil)) pe_int) fun _ _ => rfl)) (pss_cons (ps_set (i := 7) sc_law.nd rfl (Or.inl rfl) (pe_call (ok__law_text T) (hr.mono (by decide)) rfl T.g__law_text T.F__law_text.kp T.b__law_text .nil pass0 (pa_cons (pe_call (ok__law_cell T) (hr.mono (by decide)) rfl T.g__law_cell T.F__law_cell.kp T.b__law_cell .nil pass0 (pa_cons (pv 0) (pa_cons (pe_op op_add pe_int (pv 2)) pa_nil))) (pa_cons pe_int pa_nil)))) (pss_cons (ps_set (i := 8) sc_law.nd rfl (Or.inl rfl) (pv 4)) (pss_cons (ps_set (i := 9) sc_law.nd rfl (Or.inl rfl) (pe_tup (pa_cons (pv 4) (pa_cons pe_str pa_nil)))) (pss_cons (ps_if (pt_cmpR (op_inK (K := K)) (pv 4) (pe_tup (pa_cons pe_str (pa_cons pe_str (pa_cons pe_str pa_nil)))) (by rfl)) (pss_cons (ps_set (i := 8) sc_law.nd rfl (Or.inl rfl) (pe_op op_add_str (pe_op op_add_str (pv 4) pe_str) (pv 6))) (pss_one (ps_set (i := 9) sc_law.nd rfl (Or.inl rfl) (pe_ifExp (pt_cmpR (op_inK (K := K)) (pv 6) (pe_slice (sl_listK (K := K)) (pv 5) po_none (po_some pe_int)) (by rfl)) (pe_tup (pa_cons (pv 4) (pa_cons (pv 6) pa_nil))) pe_non)))) (pss_one (ps_if (pt_cmpR op_eq (pv 4) pe_str (nomark _)) (pss_cons (ps_set (i := 8) sc_law.nd rfl (Or.inl rfl) (pe_op op_add_str (pe_op op_add_str (pv 4) pe_str) (pe_call (ok__law_quoted T) (hr.mono (by decide)) rfl T.g__law_quoted T.F__law_quoted.kp T.b__law_quoted .nil pass0 (pa_cons (pv 7) pa_nil)))) (pss_one (ps_set (i := 9) sc_law.nd rfl (Or.inl rfl) (pe_tup (pa_cons (pv 4) (pa_cons (pv 7) pa_nil)))))) pss_nil))) (pss_cons (ps_if (pt_cmpR (op_neK (K := K) hr.units) (pe_call (ok_command_of T) (hr.mono (by decide)) rfl T.g_command_of T.F_command_of.kp T.b_command_of .nil pass0 (pa_cons (pv 8) pa_nil)) (pv 9) (nomark _)) (pss_one (ps_ret pe_bl)) pss_nil) (pss_cons (ps_set (i := 10) sc_law.nd rfl (Or.inl rfl) (pe_lst (pa_cons (pe_op op_add_str (pv 8) pe_str) (pa_cons (pe_op op_add_str pe_str (pv 8)) (pa_cons (pe_upper (pv 8)) (pa_cons (pe_op op_add_str (pv 4) pe_str) (pa_cons pe_str (pa_cons pe_str (pa_cons pe_str (pa_cons pe_str (pa_cons pe_str pa_nil))))))))))) (pss_cons (ps_set (i := 10) sc_law.nd rfl (Or.inl rfl) (pe_op op_cat (pv 10) (pe_lst (pa_cons pe_str (pa_cons pe_str (pa_cons pe_str pa_nil)))))) (pss_one (ps_if (pt_cmpR op_notN (pe_call (ok_command_of T) (hr.mono (by decide)) rfl T.g_command_of T.F_command_of.kp T.b_command_of .nil pass0 (pa_cons (pe_ix (ix_listK (K := K)) (pv 10) (pe_op op_mod (pe_callTy call_int1 rfl T.n_int boot_int (pa_cons (pe_ix (ix_listK (K := K)) (pv 3) pe_int fun _ _ => rfl) pa_nil)) pe_int) fun _ _ => rfl) pa_nil)) pe_non (nomark _)) (pss_one (ps_ret pe_bl)) pss_nil)))))))))))))) (pss_one (ps_ret pe_bl))))), ?_⟩)
  · obtain ⟨d_script, w_script, G, rfl, eG, h_script, hpre, hQ⟩ := h
    rfl
  · obtain ⟨d_script, w_script, G, rfl, eG, h_script, hpre, hQ⟩ := h
    have gr : Grow G He G He := Grow.refl eG
    obtain ⟨Ge, eGe⟩ : ∃ z, z = G := ⟨G, rfl⟩
    have gr : Grow Ge He G He := by rw [eGe]; exact gr
    rw [← eGe] at hQ
    clear eGe
    have hM : m_law d_script = (m_law_25 d_script (Tpl.mk (("focusNext" : Str) :: (("focusPrevious" : Str) :: (("nextItem" : Str) :: (("previousItem" : Str) :: (("firstItem" : Str) :: (("lastItem" : Str) :: ([] : List Str))))))))) := rfl
    refine q_asg (K := K) gr.s (ev_tpl (ea_cons ev_str (ea_cons ev_str (ea_cons ev_str (ea_cons ev_str (ea_cons ev_str (ea_cons ev_str ea_nil)))))) (by show _ ≤ sizeLine; decide)) fun w_2 G5 H6 g4 (h_3 : rep K (Tpl.mk (("focusNext" : Str) :: (("focusPrevious" : Str) :: (("nextItem" : Str) :: (("previousItem" : Str) :: (("firstItem" : Str) :: (("lastItem" : Str) :: ([] : List Str)))))))) w_2 G5) => ?_
    have h_script := up g4.g h_script
    have gr := gr.trans g4
    generalize ed_1 : (Tpl.mk (("focusNext" : Str) :: (("focusPrevious" : Str) :: (("nextItem" : Str) :: (("previousItem" : Str) :: (("firstItem" : Str) :: (("lastItem" : Str) :: ([] : List Str)))))))) = d_1 at h_3 hM
    unfold m_law_25 at hM
    refine q_if gr.s (et_test (ev_neT (ev_c (T.r_MOVEMENTS _)) (ev_var rfl h_3) (by first | (first | (rw [← ed_1]; exact ⟨mov_ok, mov_ok⟩) | (rw [← ed_1]; decide) | exact at_in (by decide) (by rw [fd]; decide) | (rw [← ed_1]; exact at_in (Int.emod_nonneg _ (by decide)) (Int.emod_lt_of_pos _ (by decide))) | (rw [← ed_42]; exact at_in (Int.emod_nonneg _ (by decide)) (Int.emod_lt_of_pos _ (by decide))) | exact ft.pre | exact (tt_word fw).pre | exact ⟨by omega, by omega⟩ | exact preB (Nat.le_trans fl.n (by decide)) | exact w_sp fw | exact w_spn fw fn | exact w_spq fw fl | exact t_sp ft | exact t_sp (tt_word fw) | exact sp_t ft | exact sp_t (tt_word fw) | exact t_low ft | exact t_low (tt_word fw) | exact w_x fw | exact ok_shape (ok_name fn ed_42 (by assumption) (by assumption) (by assumption)) | exact ok_shape (ok_ann fl (by assumption) (by assumption) (by assumption)) | exact ok_shape (ok_alone fw (by assumption) (by assumption) (by assumption)) | (rw [fo.1]; decide) | exact at_in (Int.emod_nonneg _ (by decide)) (by rw [fo.1]; exact Int.emod_lt_of_pos _ (by decide)) | exact fo.2 _ (getI_mem (at_in (Int.emod_nonneg _ (by decide)) (by rw [fo.1]; exact Int.emod_lt_of_pos _ (by decide))))) | (first | omega | decide | (show _ ≤ sizeLine; decide) | (show _ < sizeLine; decide))))) ?_ ?_
    · intro hb8 G9 H10 g7
      have h_script := up g7.g h_script
      have h_3 := up g7.g h_3
      have gr := gr.trans g7
      replace hM := condT hM hb8
      refine s_ret (K := K) gr.s ev_bl fun u Gr Hr gq hu => ?_
      exact hQ u Gr Hr (gr.trans gq) (by rw [hM]; exact hu)
    · intro hb8 G11 H12 g7
      have h_script := up g7.g h_script
      have h_3 := up g7.g h_3
      have gr := gr.trans g7
      replace hM := condF hM hb8
      refine s_next ?_
      refine nx_mk ?_
      refine q_forR1 (K := K) gr.s ev_int (by first | (first | (rw [← ed_1]; exact ⟨mov_ok, mov_ok⟩) | (rw [← ed_1]; decide) | exact at_in (by decide) (by rw [fd]; decide) | (rw [← ed_1]; exact at_in (Int.emod_nonneg _ (by decide)) (Int.emod_lt_of_pos _ (by decide))) | (rw [← ed_42]; exact at_in (Int.emod_nonneg _ (by decide)) (Int.emod_lt_of_pos _ (by decide))) | exact ft.pre | exact (tt_word fw).pre | exact ⟨by omega, by omega⟩ | exact preB (Nat.le_trans fl.n (by decide)) | exact w_sp fw | exact w_spn fw fn | exact w_spq fw fl | exact t_sp ft | exact t_sp (tt_word fw) | exact sp_t ft | exact sp_t (tt_word fw) | exact t_low ft | exact t_low (tt_word fw) | exact w_x fw | exact ok_shape (ok_name fn ed_42 (by assumption) (by assumption) (by assumption)) | exact ok_shape (ok_ann fl (by assumption) (by assumption) (by assumption)) | exact ok_shape (ok_alone fw (by assumption) (by assumption) (by assumption)) | (rw [fo.1]; decide) | exact at_in (Int.emod_nonneg _ (by decide)) (by rw [fo.1]; exact Int.emod_lt_of_pos _ (by decide)) | exact fo.2 _ (getI_mem (at_in (Int.emod_nonneg _ (by decide)) (by rw [fo.1]; exact Int.emod_lt_of_pos _ (by decide))))) | (first | (constructor <;> omega) | (decide))) fun G16 H17 g19 => ?_
      have h_script := up g19.g h_script
      have h_3 := up g19.g h_3
      have gr := gr.trans g19
      refine ⟨fun i_ σ_ H_ => ∃ st_ : Unit, (runL (m_law_23 d_script d_1) () (List.take i_ (rgs 0 (5 : Int)))) = Step.go st_ ∧ ∃ (G182 : Hp) (o_21 : Option V) (o_22 : Option V) (o_23 : Option V) (o_24 : Option V) (o_25 : Option V) (o_26 : Option V) (o_27 : Option V) (o_28 : Option V) (o_29 : Option V), Grow Ge He G182 H_ ∧ Same G16 G182 ∧ σ_ = [some w_script, some w_2, o_29, o_21, o_22, o_23, o_24, o_25, o_26, o_27, o_28], ⟨(), rfl, _, _, _, _, _, _, _, _, _, _, gr, Same.refl _, rfl⟩, ?_, ?_⟩
      · rintro i_0 σ_0 H_0 hlt_0 ⟨st_0, hgo0, G182, o_21, o_22, o_23, o_24, o_25, o_26, o_27, o_28, o_29, gr, sg0, rfl⟩
        obtain ⟨d_13, hx0_0, hx0, lo_0, hi_0⟩ := rgs_at0 hlt_0
        rw [hx0_0]
        have h_15 : rep K d_13 (V.int d_13) G182 := rfl
        generalize ew_14 : V.int d_13 = w_14 at h_15
        have h_script := up sg0 h_script
        have h_3 := up sg0 h_3
        have hMo0 := hM
        clear hM
        obtain ⟨⟩ := st_0
        have hM : (m_law_23 d_script d_1) () d_13 = (m_law_23 d_script d_1) () d_13 := rfl
        conv at hM => rhs; unfold m_law_23; unfold m_law_22
        refine q_asg (K := K) gr.s (ev_call2 (ev_call2 (ev_var rfl h_script) (ev_var rfl h_15) (by first | (first | (rw [← ed_1]; exact ⟨mov_ok, mov_ok⟩) | (rw [← ed_1]; decide) | exact at_in (by decide) (by rw [fd]; decide) | (rw [← ed_1]; exact at_in (Int.emod_nonneg _ (by decide)) (Int.emod_lt_of_pos _ (by decide))) | (rw [← ed_42]; exact at_in (Int.emod_nonneg _ (by decide)) (Int.emod_lt_of_pos _ (by decide))) | exact ft.pre | exact (tt_word fw).pre | exact ⟨by omega, by omega⟩ | exact preB (Nat.le_trans fl.n (by decide)) | exact w_sp fw | exact w_spn fw fn | exact w_spq fw fl | exact t_sp ft | exact t_sp (tt_word fw) | exact sp_t ft | exact sp_t (tt_word fw) | exact t_low ft | exact t_low (tt_word fw) | exact w_x fw | exact ok_shape (ok_name fn ed_42 (by assumption) (by assumption) (by assumption)) | exact ok_shape (ok_ann fl (by assumption) (by assumption) (by assumption)) | exact ok_shape (ok_alone fw (by assumption) (by assumption) (by assumption)) | (rw [fo.1]; decide) | exact at_in (Int.emod_nonneg _ (by decide)) (by rw [fo.1]; exact Int.emod_lt_of_pos _ (by decide)) | exact fo.2 _ (getI_mem (at_in (Int.emod_nonneg _ (by decide)) (by rw [fo.1]; exact Int.emod_lt_of_pos _ (by decide))))) | (first | omega | decide))) ev_int (by first | (first | (rw [← ed_1]; exact ⟨mov_ok, mov_ok⟩) | (rw [← ed_1]; decide) | exact at_in (by decide) (by rw [fd]; decide) | (rw [← ed_1]; exact at_in (Int.emod_nonneg _ (by decide)) (Int.emod_lt_of_pos _ (by decide))) | (rw [← ed_42]; exact at_in (Int.emod_nonneg _ (by decide)) (Int.emod_lt_of_pos _ (by decide))) | exact ft.pre | exact (tt_word fw).pre | exact ⟨by omega, by omega⟩ | exact preB (Nat.le_trans fl.n (by decide)) | exact w_sp fw | exact w_spn fw fn | exact w_spq fw fl | exact t_sp ft | exact t_sp (tt_word fw) | exact sp_t ft | exact sp_t (tt_word fw) | exact t_low ft | exact t_low (tt_word fw) | exact w_x fw | exact ok_shape (ok_name fn ed_42 (by assumption) (by assumption) (by assumption)) | exact ok_shape (ok_ann fl (by assumption) (by assumption) (by assumption)) | exact ok_shape (ok_alone fw (by assumption) (by assumption) (by assumption)) | (rw [fo.1]; decide) | exact at_in (Int.emod_nonneg _ (by decide)) (by rw [fo.1]; exact Int.emod_lt_of_pos _ (by decide)) | exact fo.2 _ (getI_mem (at_in (Int.emod_nonneg _ (by decide)) (by rw [fo.1]; exact Int.emod_lt_of_pos _ (by decide))))) | (first | omega | decide))) fun w_31 G34 H35 g33 (h_32 : rep K (m__law_draws (m__law_cell d_script d_13) (6 : Int)) w_31 G34) => ?_
        have h_script := up g33.g h_script
        have h_3 := up g33.g h_3
        have h_15 := up g33.g h_15
        have sg0 := sg0.trans g33.g
        have gr := gr.trans g33
        generalize ed_30 : (m__law_draws (m__law_cell d_script d_13) (6 : Int)) = d_30 at h_32 hM
        unfold m_law_21 at hM
        have fd : d_30.length = 6 := by rw [← ed_30]; exact draws_len _ (by decide)
        refine q_asg (K := K) gr.s (ev_ixT (ev_catT (ev_var rfl h_3) (ev_tpl (ea_cons ev_str (ea_cons ev_str (ea_cons ev_str (ea_cons ev_str (ea_cons ev_str (ea_cons ev_str ea_nil)))))) (by show _ ≤ sizeLine; decide)) (by first | (first | (rw [← ed_1]; exact ⟨mov_ok, mov_ok⟩) | (rw [← ed_1]; decide) | exact at_in (by decide) (by rw [fd]; decide) | (rw [← ed_1]; exact at_in (Int.emod_nonneg _ (by decide)) (Int.emod_lt_of_pos _ (by decide))) | (rw [← ed_42]; exact at_in (Int.emod_nonneg _ (by decide)) (Int.emod_lt_of_pos _ (by decide))) | exact ft.pre | exact (tt_word fw).pre | exact ⟨by omega, by omega⟩ | exact preB (Nat.le_trans fl.n (by decide)) | exact w_sp fw | exact w_spn fw fn | exact w_spq fw fl | exact t_sp ft | exact t_sp (tt_word fw) | exact sp_t ft | exact sp_t (tt_word fw) | exact t_low ft | exact t_low (tt_word fw) | exact w_x fw | exact ok_shape (ok_name fn ed_42 (by assumption) (by assumption) (by assumption)) | exact ok_shape (ok_ann fl (by assumption) (by assumption) (by assumption)) | exact ok_shape (ok_alone fw (by assumption) (by assumption) (by assumption)) | (rw [fo.1]; decide) | exact at_in (Int.emod_nonneg _ (by decide)) (by rw [fo.1]; exact Int.emod_lt_of_pos _ (by decide)) | exact fo.2 _ (getI_mem (at_in (Int.emod_nonneg _ (by decide)) (by rw [fo.1]; exact Int.emod_lt_of_pos _ (by decide))))) | (first | omega | decide | (show _ ≤ sizeLine; decide) | (show _ < sizeLine; decide)))) (ev_mod (ev_int1 (ev_ixL (ev_var rfl h_32) ev_int (atI_get (by first | (first | (rw [← ed_1]; exact ⟨mov_ok, mov_ok⟩) | (rw [← ed_1]; decide) | exact at_in (by decide) (by rw [fd]; decide) | (rw [← ed_1]; exact at_in (Int.emod_nonneg _ (by decide)) (Int.emod_lt_of_pos _ (by decide))) | (rw [← ed_42]; exact at_in (Int.emod_nonneg _ (by decide)) (Int.emod_lt_of_pos _ (by decide))) | exact ft.pre | exact (tt_word fw).pre | exact ⟨by omega, by omega⟩ | exact preB (Nat.le_trans fl.n (by decide)) | exact w_sp fw | exact w_spn fw fn | exact w_spq fw fl | exact t_sp ft | exact t_sp (tt_word fw) | exact sp_t ft | exact sp_t (tt_word fw) | exact t_low ft | exact t_low (tt_word fw) | exact w_x fw | exact ok_shape (ok_name fn ed_42 (by assumption) (by assumption) (by assumption)) | exact ok_shape (ok_ann fl (by assumption) (by assumption) (by assumption)) | exact ok_shape (ok_alone fw (by assumption) (by assumption) (by assumption)) | (rw [fo.1]; decide) | exact at_in (Int.emod_nonneg _ (by decide)) (by rw [fo.1]; exact Int.emod_lt_of_pos _ (by decide)) | exact fo.2 _ (getI_mem (at_in (Int.emod_nonneg _ (by decide)) (by rw [fo.1]; exact Int.emod_lt_of_pos _ (by decide))))) | (first | decide | (refine at_in ?_ ?_ <;> omega) | (refine at_neg ?_ ?_ <;> omega)))))) ev_int (by first | (first | (rw [← ed_1]; exact ⟨mov_ok, mov_ok⟩) | (rw [← ed_1]; decide) | exact at_in (by decide) (by rw [fd]; decide) | (rw [← ed_1]; exact at_in (Int.emod_nonneg _ (by decide)) (Int.emod_lt_of_pos _ (by decide))) | (rw [← ed_42]; exact at_in (Int.emod_nonneg _ (by decide)) (Int.emod_lt_of_pos _ (by decide))) | exact ft.pre | exact (tt_word fw).pre | exact ⟨by omega, by omega⟩ | exact preB (Nat.le_trans fl.n (by decide)) | exact w_sp fw | exact w_spn fw fn | exact w_spq fw fl | exact t_sp ft | exact t_sp (tt_word fw) | exact sp_t ft | exact sp_t (tt_word fw) | exact t_low ft | exact t_low (tt_word fw) | exact w_x fw | exact ok_shape (ok_name fn ed_42 (by assumption) (by assumption) (by assumption)) | exact ok_shape (ok_ann fl (by assumption) (by assumption) (by assumption)) | exact ok_shape (ok_alone fw (by assumption) (by assumption) (by assumption)) | (rw [fo.1]; decide) | exact at_in (Int.emod_nonneg _ (by decide)) (by rw [fo.1]; exact Int.emod_lt_of_pos _ (by decide)) | exact fo.2 _ (getI_mem (at_in (Int.emod_nonneg _ (by decide)) (by rw [fo.1]; exact Int.emod_lt_of_pos _ (by decide))))) | (first | omega | decide | (show _ ≤ sizeLine; decide) | (show _ < sizeLine; decide)))) (atI_get (by first | (first | (rw [← ed_1]; exact ⟨mov_ok, mov_ok⟩) | (rw [← ed_1]; decide) | exact at_in (by decide) (by rw [fd]; decide) | (rw [← ed_1]; exact at_in (Int.emod_nonneg _ (by decide)) (Int.emod_lt_of_pos _ (by decide))) | (rw [← ed_42]; exact at_in (Int.emod_nonneg _ (by decide)) (Int.emod_lt_of_pos _ (by decide))) | exact ft.pre | exact (tt_word fw).pre | exact ⟨by omega, by omega⟩ | exact preB (Nat.le_trans fl.n (by decide)) | exact w_sp fw | exact w_spn fw fn | exact w_spq fw fl | exact t_sp ft | exact t_sp (tt_word fw) | exact sp_t ft | exact sp_t (tt_word fw) | exact t_low ft | exact t_low (tt_word fw) | exact w_x fw | exact ok_shape (ok_name fn ed_42 (by assumption) (by assumption) (by assumption)) | exact ok_shape (ok_ann fl (by assumption) (by assumption) (by assumption)) | exact ok_shape (ok_alone fw (by assumption) (by assumption) (by assumption)) | (rw [fo.1]; decide) | exact at_in (Int.emod_nonneg _ (by decide)) (by rw [fo.1]; exact Int.emod_lt_of_pos _ (by decide)) | exact fo.2 _ (getI_mem (at_in (Int.emod_nonneg _ (by decide)) (by rw [fo.1]; exact Int.emod_lt_of_pos _ (by decide))))) | (first | decide | (refine at_in ?_ ?_ <;> omega) | (refine at_neg ?_ ?_ <;> omega))))) fun w_37 G40 H41 g39 (h_38 : rep K (getI ((Tpl.mk ((d_1).l ++ ((Tpl.mk (("closeTopLayer" : Str) :: (("activate" : Str) :: (("focus" : Str) :: (("openLayer" : Str) :: (("run" : Str) :: (("announce" : Str) :: ([] : List Str))))))))).l))).l ((getI d_30 (0 : Int)) % (12 : Int))) w_37 G40) => ?_
        have h_script := up g39.g h_script
        have h_3 := up g39.g h_3
        have h_15 := up g39.g h_15
        have h_32 := up g39.g h_32
        have sg0 := sg0.trans g39.g
        have gr := gr.trans g39
        generalize ed_36 : (getI ((Tpl.mk ((d_1).l ++ ((Tpl.mk (("closeTopLayer" : Str) :: (("activate" : Str) :: (("focus" : Str) :: (("openLayer" : Str) :: (("run" : Str) :: (("announce" : Str) :: ([] : List Str))))))))).l))).l ((getI d_30 (0 : Int)) % (12 : Int))) = d_36 at h_38 hM
        unfold m_law_20 at hM
        have fw : d_36 ∈ WORDS := words_at (congrArg Tpl.l ed_1) ed_36
        refine q_asg (K := K) gr.s (ev_lst (ea_cons ev_str (ea_cons ev_str (ea_cons ev_str (ea_cons ev_str (ea_cons ev_str (ea_cons ev_str (ea_cons ev_str (ea_cons ev_str (ea_cons ev_str (ea_cons ev_str ea_nil)))))))))) (by first | (first | (rw [← ed_1]; exact ⟨mov_ok, mov_ok⟩) | (rw [← ed_1]; decide) | exact at_in (by decide) (by rw [fd]; decide) | (rw [← ed_1]; exact at_in (Int.emod_nonneg _ (by decide)) (Int.emod_lt_of_pos _ (by decide))) | (rw [← ed_42]; exact at_in (Int.emod_nonneg _ (by decide)) (Int.emod_lt_of_pos _ (by decide))) | exact ft.pre | exact (tt_word fw).pre | exact ⟨by omega, by omega⟩ | exact preB (Nat.le_trans fl.n (by decide)) | exact w_sp fw | exact w_spn fw fn | exact w_spq fw fl | exact t_sp ft | exact t_sp (tt_word fw) | exact sp_t ft | exact sp_t (tt_word fw) | exact t_low ft | exact t_low (tt_word fw) | exact w_x fw | exact ok_shape (ok_name fn ed_42 (by assumption) (by assumption) (by assumption)) | exact ok_shape (ok_ann fl (by assumption) (by assumption) (by assumption)) | exact ok_shape (ok_alone fw (by assumption) (by assumption) (by assumption)) | (rw [fo.1]; decide) | exact at_in (Int.emod_nonneg _ (by decide)) (by rw [fo.1]; exact Int.emod_lt_of_pos _ (by decide)) | exact fo.2 _ (getI_mem (at_in (Int.emod_nonneg _ (by decide)) (by rw [fo.1]; exact Int.emod_lt_of_pos _ (by decide))))) | (first | (show _ ≤ sizeLine; decide) | (simp only [List.length_cons, List.length_nil, List.length_append, sizeLine_eq]; omega) | (fail)))) fun w_43 G46 H47 g45 (h_44 : rep K (("a" : Str) :: (("ok" : Str) :: (("abcdefgh" : Str) :: (("9._-" : Str) :: (("" : Str) :: (("abcdefghi" : Str) :: (("A" : Str) :: (("a b" : Str) :: ((" a" : Str) :: (("a " : Str) :: ([] : List Str))))))))))) w_43 G46) => ?_
        have h_script := up g45.g h_script
        have h_3 := up g45.g h_3
        have h_15 := up g45.g h_15
        have h_32 := up g45.g h_32
        have h_38 := up g45.g h_38
        have sg0 := sg0.trans g45.g
        have gr := gr.trans g45
        generalize ed_42 : (("a" : Str) :: (("ok" : Str) :: (("abcdefgh" : Str) :: (("9._-" : Str) :: (("" : Str) :: (("abcdefghi" : Str) :: (("A" : Str) :: (("a b" : Str) :: ((" a" : Str) :: (("a " : Str) :: ([] : List Str))))))))))) = d_42 at h_44 hM
        unfold m_law_19 at hM
        refine q_asg (K := K) gr.s (ev_ixL (ev_var rfl h_44) (ev_mod (ev_int1 (ev_ixL (ev_var rfl h_32) ev_int (atI_get (by first | (first | (rw [← ed_1]; exact ⟨mov_ok, mov_ok⟩) | (rw [← ed_1]; decide) | exact at_in (by decide) (by rw [fd]; decide) | (rw [← ed_1]; exact at_in (Int.emod_nonneg _ (by decide)) (Int.emod_lt_of_pos _ (by decide))) | (rw [← ed_42]; exact at_in (Int.emod_nonneg _ (by decide)) (Int.emod_lt_of_pos _ (by decide))) | exact ft.pre | exact (tt_word fw).pre | exact ⟨by omega, by omega⟩ | exact preB (Nat.le_trans fl.n (by decide)) | exact w_sp fw | exact w_spn fw fn | exact w_spq fw fl | exact t_sp ft | exact t_sp (tt_word fw) | exact sp_t ft | exact sp_t (tt_word fw) | exact t_low ft | exact t_low (tt_word fw) | exact w_x fw | exact ok_shape (ok_name fn ed_42 (by assumption) (by assumption) (by assumption)) | exact ok_shape (ok_ann fl (by assumption) (by assumption) (by assumption)) | exact ok_shape (ok_alone fw (by assumption) (by assumption) (by assumption)) | (rw [fo.1]; decide) | exact at_in (Int.emod_nonneg _ (by decide)) (by rw [fo.1]; exact Int.emod_lt_of_pos _ (by decide)) | exact fo.2 _ (getI_mem (at_in (Int.emod_nonneg _ (by decide)) (by rw [fo.1]; exact Int.emod_lt_of_pos _ (by decide))))) | (first | decide | (refine at_in ?_ ?_ <;> omega) | (refine at_neg ?_ ?_ <;> omega)))))) ev_int (by first | (first | (rw [← ed_1]; exact ⟨mov_ok, mov_ok⟩) | (rw [← ed_1]; decide) | exact at_in (by decide) (by rw [fd]; decide) | (rw [← ed_1]; exact at_in (Int.emod_nonneg _ (by decide)) (Int.emod_lt_of_pos _ (by decide))) | (rw [← ed_42]; exact at_in (Int.emod_nonneg _ (by decide)) (Int.emod_lt_of_pos _ (by decide))) | exact ft.pre | exact (tt_word fw).pre | exact ⟨by omega, by omega⟩ | exact preB (Nat.le_trans fl.n (by decide)) | exact w_sp fw | exact w_spn fw fn | exact w_spq fw fl | exact t_sp ft | exact t_sp (tt_word fw) | exact sp_t ft | exact sp_t (tt_word fw) | exact t_low ft | exact t_low (tt_word fw) | exact w_x fw | exact ok_shape (ok_name fn ed_42 (by assumption) (by assumption) (by assumption)) | exact ok_shape (ok_ann fl (by assumption) (by assumption) (by assumption)) | exact ok_shape (ok_alone fw (by assumption) (by assumption) (by assumption)) | (rw [fo.1]; decide) | exact at_in (Int.emod_nonneg _ (by decide)) (by rw [fo.1]; exact Int.emod_lt_of_pos _ (by decide)) | exact fo.2 _ (getI_mem (at_in (Int.emod_nonneg _ (by decide)) (by rw [fo.1]; exact Int.emod_lt_of_pos _ (by decide))))) | (first | omega | decide | (show _ ≤ sizeLine; decide) | (show _ < sizeLine; decide)))) (atI_get (by first | (first | (rw [← ed_1]; exact ⟨mov_ok, mov_ok⟩) | (rw [← ed_1]; decide) | exact at_in (by decide) (by rw [fd]; decide) | (rw [← ed_1]; exact at_in (Int.emod_nonneg _ (by decide)) (Int.emod_lt_of_pos _ (by decide))) | (rw [← ed_42]; exact at_in (Int.emod_nonneg _ (by decide)) (Int.emod_lt_of_pos _ (by decide))) | exact ft.pre | exact (tt_word fw).pre | exact ⟨by omega, by omega⟩ | exact preB (Nat.le_trans fl.n (by decide)) | exact w_sp fw | exact w_spn fw fn | exact w_spq fw fl | exact t_sp ft | exact t_sp (tt_word fw) | exact sp_t ft | exact sp_t (tt_word fw) | exact t_low ft | exact t_low (tt_word fw) | exact w_x fw | exact ok_shape (ok_name fn ed_42 (by assumption) (by assumption) (by assumption)) | exact ok_shape (ok_ann fl (by assumption) (by assumption) (by assumption)) | exact ok_shape (ok_alone fw (by assumption) (by assumption) (by assumption)) | (rw [fo.1]; decide) | exact at_in (Int.emod_nonneg _ (by decide)) (by rw [fo.1]; exact Int.emod_lt_of_pos _ (by decide)) | exact fo.2 _ (getI_mem (at_in (Int.emod_nonneg _ (by decide)) (by rw [fo.1]; exact Int.emod_lt_of_pos _ (by decide))))) | (first | decide | (refine at_in ?_ ?_ <;> omega) | (refine at_neg ?_ ?_ <;> omega))))) fun w_49 G52 H53 g51 (h_50 : rep K (getI d_42 ((getI d_30 (1 : Int)) % (10 : Int))) w_49 G52) => ?_
        have h_script := up g51.g h_script
        have h_3 := up g51.g h_3
        have h_15 := up g51.g h_15
        have h_32 := up g51.g h_32
        have h_38 := up g51.g h_38
        have h_44 := up g51.g h_44
        have sg0 := sg0.trans g51.g
        have gr := gr.trans g51
        generalize ed_48 : (getI d_42 ((getI d_30 (1 : Int)) % (10 : Int))) = d_48 at h_50 hM
        unfold m_law_18 at hM
        have fn : d_48 ∈ NAMES := names_at ed_42 ed_48
        refine q_asg (K := K) gr.s (ev_call2 (ev_call2 (ev_var rfl h_script) (ev_add ev_int (ev_var rfl h_15)) (by first | (first | (rw [← ed_1]; exact ⟨mov_ok, mov_ok⟩) | (rw [← ed_1]; decide) | exact at_in (by decide) (by rw [fd]; decide) | (rw [← ed_1]; exact at_in (Int.emod_nonneg _ (by decide)) (Int.emod_lt_of_pos _ (by decide))) | (rw [← ed_42]; exact at_in (Int.emod_nonneg _ (by decide)) (Int.emod_lt_of_pos _ (by decide))) | exact ft.pre | exact (tt_word fw).pre | exact ⟨by omega, by omega⟩ | exact preB (Nat.le_trans fl.n (by decide)) | exact w_sp fw | exact w_spn fw fn | exact w_spq fw fl | exact t_sp ft | exact t_sp (tt_word fw) | exact sp_t ft | exact sp_t (tt_word fw) | exact t_low ft | exact t_low (tt_word fw) | exact w_x fw | exact ok_shape (ok_name fn ed_42 (by assumption) (by assumption) (by assumption)) | exact ok_shape (ok_ann fl (by assumption) (by assumption) (by assumption)) | exact ok_shape (ok_alone fw (by assumption) (by assumption) (by assumption)) | (rw [fo.1]; decide) | exact at_in (Int.emod_nonneg _ (by decide)) (by rw [fo.1]; exact Int.emod_lt_of_pos _ (by decide)) | exact fo.2 _ (getI_mem (at_in (Int.emod_nonneg _ (by decide)) (by rw [fo.1]; exact Int.emod_lt_of_pos _ (by decide))))) | (first | omega | decide))) ev_int (by first | (first | (rw [← ed_1]; exact ⟨mov_ok, mov_ok⟩) | (rw [← ed_1]; decide) | exact at_in (by decide) (by rw [fd]; decide) | (rw [← ed_1]; exact at_in (Int.emod_nonneg _ (by decide)) (Int.emod_lt_of_pos _ (by decide))) | (rw [← ed_42]; exact at_in (Int.emod_nonneg _ (by decide)) (Int.emod_lt_of_pos _ (by decide))) | exact ft.pre | exact (tt_word fw).pre | exact ⟨by omega, by omega⟩ | exact preB (Nat.le_trans fl.n (by decide)) | exact w_sp fw | exact w_spn fw fn | exact w_spq fw fl | exact t_sp ft | exact t_sp (tt_word fw) | exact sp_t ft | exact sp_t (tt_word fw) | exact t_low ft | exact t_low (tt_word fw) | exact w_x fw | exact ok_shape (ok_name fn ed_42 (by assumption) (by assumption) (by assumption)) | exact ok_shape (ok_ann fl (by assumption) (by assumption) (by assumption)) | exact ok_shape (ok_alone fw (by assumption) (by assumption) (by assumption)) | (rw [fo.1]; decide) | exact at_in (Int.emod_nonneg _ (by decide)) (by rw [fo.1]; exact Int.emod_lt_of_pos _ (by decide)) | exact fo.2 _ (getI_mem (at_in (Int.emod_nonneg _ (by decide)) (by rw [fo.1]; exact Int.emod_lt_of_pos _ (by decide))))) | (first | omega | decide))) fun w_55 G58 H59 g57 (h_56 : rep K (m__law_text (m__law_cell d_script ((10 : Int) + d_13)) (40 : Int)) w_55 G58) => ?_
        have h_script := up g57.g h_script
        have h_3 := up g57.g h_3
        have h_15 := up g57.g h_15
        have h_32 := up g57.g h_32
        have h_38 := up g57.g h_38
        have h_44 := up g57.g h_44
        have h_50 := up g57.g h_50
        have sg0 := sg0.trans g57.g
        have gr := gr.trans g57
        generalize ed_54 : (m__law_text (m__law_cell d_script ((10 : Int) + d_13)) (40 : Int)) = d_54 at h_56 hM
        unfold m_law_17 at hM
        have fl : LabT d_54 := by rw [← ed_54]; exact lab_text _
        refine q_asg (K := K) gr.s (ev_var rfl h_38) fun w_61 G64 H65 g63 (h_62 : rep K d_36 w_61 G64) => ?_
        have h_script := up g63.g h_script
        have h_3 := up g63.g h_3
        have h_15 := up g63.g h_15
        have h_32 := up g63.g h_32
        have h_38 := up g63.g h_38
        have h_44 := up g63.g h_44
        have h_50 := up g63.g h_50
        have h_56 := up g63.g h_56
        have sg0 := sg0.trans g63.g
        have gr := gr.trans g63
        refine q_asg (K := K) gr.s (ev_some (ev_tup2 (ev_var rfl h_38) ev_str)) fun w_67 G70 H71 g69 (h_68 : rep K (some (d_36, ("" : Str))) w_67 G70) => ?_
        have h_script := up g69.g h_script
        have h_3 := up g69.g h_3
        have h_15 := up g69.g h_15
        have h_32 := up g69.g h_32
        have h_38 := up g69.g h_38
        have h_44 := up g69.g h_44
        have h_50 := up g69.g h_50
        have h_56 := up g69.g h_56
        have h_62 := up g69.g h_62
        have sg0 := sg0.trans g69.g
        have gr := gr.trans g69
        generalize ed_66 : (some (d_36, ("" : Str))) = d_66 at h_68 hM
        unfold m_law_16 at hM
        refine q_if gr.s (et_test (ev_inT (ev_var rfl h_38) (ev_tpl (ea_cons ev_str (ea_cons ev_str (ea_cons ev_str ea_nil))) (by show _ ≤ sizeLine; decide)))) ?_ ?_
        · intro hb73 G74 H75 g72
          have h_script := up g72.g h_script
          have h_3 := up g72.g h_3
          have h_15 := up g72.g h_15
          have h_32 := up g72.g h_32
          have h_38 := up g72.g h_38
          have h_44 := up g72.g h_44
          have h_50 := up g72.g h_50
          have h_56 := up g72.g h_56
          have h_62 := up g72.g h_62
          have h_68 := up g72.g h_68
          have sg0 := sg0.trans g72.g
          have gr := gr.trans g72
          replace hM := condT hM hb73
          refine q_asg (K := K) gr.s (ev_addS (ev_addS (ev_var rfl h_38) ev_str (by first | (first | (rw [← ed_1]; exact ⟨mov_ok, mov_ok⟩) | (rw [← ed_1]; decide) | exact at_in (by decide) (by rw [fd]; decide) | (rw [← ed_1]; exact at_in (Int.emod_nonneg _ (by decide)) (Int.emod_lt_of_pos _ (by decide))) | (rw [← ed_42]; exact at_in (Int.emod_nonneg _ (by decide)) (Int.emod_lt_of_pos _ (by decide))) | exact ft.pre | exact (tt_word fw).pre | exact ⟨by omega, by omega⟩ | exact preB (Nat.le_trans fl.n (by decide)) | exact w_sp fw | exact w_spn fw fn | exact w_spq fw fl | exact t_sp ft | exact t_sp (tt_word fw) | exact sp_t ft | exact sp_t (tt_word fw) | exact t_low ft | exact t_low (tt_word fw) | exact w_x fw | exact ok_shape (ok_name fn ed_42 (by assumption) (by assumption) (by assumption)) | exact ok_shape (ok_ann fl (by assumption) (by assumption) (by assumption)) | exact ok_shape (ok_alone fw (by assumption) (by assumption) (by assumption)) | (rw [fo.1]; decide) | exact at_in (Int.emod_nonneg _ (by decide)) (by rw [fo.1]; exact Int.emod_lt_of_pos _ (by decide)) | exact fo.2 _ (getI_mem (at_in (Int.emod_nonneg _ (by decide)) (by rw [fo.1]; exact Int.emod_lt_of_pos _ (by decide))))) | (first | omega | decide | (show _ ≤ sizeLine; decide) | (show _ < sizeLine; decide)))) (ev_var rfl h_50) (by first | (first | (rw [← ed_1]; exact ⟨mov_ok, mov_ok⟩) | (rw [← ed_1]; decide) | exact at_in (by decide) (by rw [fd]; decide) | (rw [← ed_1]; exact at_in (Int.emod_nonneg _ (by decide)) (Int.emod_lt_of_pos _ (by decide))) | (rw [← ed_42]; exact at_in (Int.emod_nonneg _ (by decide)) (Int.emod_lt_of_pos _ (by decide))) | exact ft.pre | exact (tt_word fw).pre | exact ⟨by omega, by omega⟩ | exact preB (Nat.le_trans fl.n (by decide)) | exact w_sp fw | exact w_spn fw fn | exact w_spq fw fl | exact t_sp ft | exact t_sp (tt_word fw) | exact sp_t ft | exact sp_t (tt_word fw) | exact t_low ft | exact t_low (tt_word fw) | exact w_x fw | exact ok_shape (ok_name fn ed_42 (by assumption) (by assumption) (by assumption)) | exact ok_shape (ok_ann fl (by assumption) (by assumption) (by assumption)) | exact ok_shape (ok_alone fw (by assumption) (by assumption) (by assumption)) | (rw [fo.1]; decide) | exact at_in (Int.emod_nonneg _ (by decide)) (by rw [fo.1]; exact Int.emod_lt_of_pos _ (by decide)) | exact fo.2 _ (getI_mem (at_in (Int.emod_nonneg _ (by decide)) (by rw [fo.1]; exact Int.emod_lt_of_pos _ (by decide))))) | (first | omega | decide | (show _ ≤ sizeLine; decide) | (show _ < sizeLine; decide)))) fun w_77 G80 H81 g79 (h_78 : rep K ((d_36 ++ (" " : Str)) ++ d_48) w_77 G80) => ?_
          have h_script := up g79.g h_script
          have h_3 := up g79.g h_3
          have h_15 := up g79.g h_15
          have h_32 := up g79.g h_32
          have h_38 := up g79.g h_38
          have h_44 := up g79.g h_44
          have h_50 := up g79.g h_50
          have h_56 := up g79.g h_56
          have h_68 := up g79.g h_68
          have sg0 := sg0.trans g79.g
          have gr := gr.trans g79
          generalize ed_76 : ((d_36 ++ (" " : Str)) ++ d_48) = d_76 at h_78 hM
          unfold m_law_5 at hM
          have ft : TextT d_76 := by rw [← ed_76]; first | exact tt_name fw fn | exact tt_ann fw fl
          refine s_asg (K := K) gr.s (ev_if (et_test (ev_inL (ev_var rfl h_50) (ev_slL (ev_var rfl h_44) eo_none (eo_some ev_int)))) (fun hb82 => (ev_some (ev_tup2 (ev_var rfl h_38) (ev_var rfl h_50)))) (fun hb83 => (ev_non (α := (Str × Str))))) fun w_85 G88 H89 g87 (h_86 : rep K (cond (memB d_48 (cutL d_42 none (some (4 : Int)))) (some (d_36, d_48)) (none : (Option (Str × Str)))) w_85 G88) => ?_
          have h_script := up g87.g h_script
          have h_3 := up g87.g h_3
          have h_15 := up g87.g h_15
          have h_32 := up g87.g h_32
          have h_38 := up g87.g h_38
          have h_44 := up g87.g h_44
          have h_50 := up g87.g h_50
          have h_56 := up g87.g h_56
          have h_78 := up g87.g h_78
          have sg0 := sg0.trans g87.g
          have gr := gr.trans g87
          generalize ed_84 : (cond (memB d_48 (cutL d_42 none (some (4 : Int)))) (some (d_36, d_48)) (none : (Option (Str × Str)))) = d_84 at h_86 hM
          unfold m_law_4 at hM
          refine nx_mk ?_
          refine q_if gr.s (et_test (ev_neD (ev_call1 (ev_var rfl h_78) (by first | (first | (rw [← ed_1]; exact ⟨mov_ok, mov_ok⟩) | (rw [← ed_1]; decide) | exact at_in (by decide) (by rw [fd]; decide) | (rw [← ed_1]; exact at_in (Int.emod_nonneg _ (by decide)) (Int.emod_lt_of_pos _ (by decide))) | (rw [← ed_42]; exact at_in (Int.emod_nonneg _ (by decide)) (Int.emod_lt_of_pos _ (by decide))) | exact ft.pre | exact (tt_word fw).pre | exact ⟨by omega, by omega⟩ | exact preB (Nat.le_trans fl.n (by decide)) | exact w_sp fw | exact w_spn fw fn | exact w_spq fw fl | exact t_sp ft | exact t_sp (tt_word fw) | exact sp_t ft | exact sp_t (tt_word fw) | exact t_low ft | exact t_low (tt_word fw) | exact w_x fw | exact ok_shape (ok_name fn ed_42 (by assumption) (by assumption) (by assumption)) | exact ok_shape (ok_ann fl (by assumption) (by assumption) (by assumption)) | exact ok_shape (ok_alone fw (by assumption) (by assumption) (by assumption)) | (rw [fo.1]; decide) | exact at_in (Int.emod_nonneg _ (by decide)) (by rw [fo.1]; exact Int.emod_lt_of_pos _ (by decide)) | exact fo.2 _ (getI_mem (at_in (Int.emod_nonneg _ (by decide)) (by rw [fo.1]; exact Int.emod_lt_of_pos _ (by decide))))) | (first | omega | decide))) (ev_var rfl h_86) (by first | (first | (rw [← ed_1]; exact ⟨mov_ok, mov_ok⟩) | (rw [← ed_1]; decide) | exact at_in (by decide) (by rw [fd]; decide) | (rw [← ed_1]; exact at_in (Int.emod_nonneg _ (by decide)) (Int.emod_lt_of_pos _ (by decide))) | (rw [← ed_42]; exact at_in (Int.emod_nonneg _ (by decide)) (Int.emod_lt_of_pos _ (by decide))) | exact ft.pre | exact (tt_word fw).pre | exact ⟨by omega, by omega⟩ | exact preB (Nat.le_trans fl.n (by decide)) | exact w_sp fw | exact w_spn fw fn | exact w_spq fw fl | exact t_sp ft | exact t_sp (tt_word fw) | exact sp_t ft | exact sp_t (tt_word fw) | exact t_low ft | exact t_low (tt_word fw) | exact w_x fw | exact ok_shape (ok_name fn ed_42 (by assumption) (by assumption) (by assumption)) | exact ok_shape (ok_ann fl (by assumption) (by assumption) (by assumption)) | exact ok_shape (ok_alone fw (by assumption) (by assumption) (by assumption)) | (rw [fo.1]; decide) | exact at_in (Int.emod_nonneg _ (by decide)) (by rw [fo.1]; exact Int.emod_lt_of_pos _ (by decide)) | exact fo.2 _ (getI_mem (at_in (Int.emod_nonneg _ (by decide)) (by rw [fo.1]; exact Int.emod_lt_of_pos _ (by decide))))) | (first | omega | decide | (show _ ≤ sizeLine; decide) | (show _ < sizeLine; decide))))) ?_ ?_
          · intro hb91 G92 H93 g90
            have h_script := up g90.g h_script
            have h_3 := up g90.g h_3
            have h_15 := up g90.g h_15
            have h_32 := up g90.g h_32
            have h_38 := up g90.g h_38
            have h_44 := up g90.g h_44
            have h_50 := up g90.g h_50
            have h_56 := up g90.g h_56
            have h_78 := up g90.g h_78
            have h_86 := up g90.g h_86
            have sg0 := sg0.trans g90.g
            have gr := gr.trans g90
            replace hM := condT hM hb91
            refine s_ret (K := K) gr.s ev_bl fun u Gr Hr gq hu => ?_
            exact hQ u Gr Hr (gr.trans gq) (by rw [(exitF_ret hMo0 (runL_ret hgo0 hx0 hM))]; exact hu)
          · intro hb91 G94 H95 g90
            have h_script := up g90.g h_script
            have h_3 := up g90.g h_3
            have h_15 := up g90.g h_15
            have h_32 := up g90.g h_32
            have h_38 := up g90.g h_38
            have h_44 := up g90.g h_44
            have h_50 := up g90.g h_50
            have h_56 := up g90.g h_56
            have h_78 := up g90.g h_78
            have h_86 := up g90.g h_86
            have sg0 := sg0.trans g90.g
            have gr := gr.trans g90
            replace hM := condF hM hb91
            unfold m_law_3 at hM
            refine s_next ?_
            refine nx_mk ?_
            refine q_asg (K := K) gr.s (ev_lst (ea_cons (ev_addS (ev_var rfl h_78) ev_str (by first | (first | (rw [← ed_1]; exact ⟨mov_ok, mov_ok⟩) | (rw [← ed_1]; decide) | exact at_in (by decide) (by rw [fd]; decide) | (rw [← ed_1]; exact at_in (Int.emod_nonneg _ (by decide)) (Int.emod_lt_of_pos _ (by decide))) | (rw [← ed_42]; exact at_in (Int.emod_nonneg _ (by decide)) (Int.emod_lt_of_pos _ (by decide))) | exact ft.pre | exact (tt_word fw).pre | exact ⟨by omega, by omega⟩ | exact preB (Nat.le_trans fl.n (by decide)) | exact w_sp fw | exact w_spn fw fn | exact w_spq fw fl | exact t_sp ft | exact t_sp (tt_word fw) | exact sp_t ft | exact sp_t (tt_word fw) | exact t_low ft | exact t_low (tt_word fw) | exact w_x fw | exact ok_shape (ok_name fn ed_42 (by assumption) (by assumption) (by assumption)) | exact ok_shape (ok_ann fl (by assumption) (by assumption) (by assumption)) | exact ok_shape (ok_alone fw (by assumption) (by assumption) (by assumption)) | (rw [fo.1]; decide) | exact at_in (Int.emod_nonneg _ (by decide)) (by rw [fo.1]; exact Int.emod_lt_of_pos _ (by decide)) | exact fo.2 _ (getI_mem (at_in (Int.emod_nonneg _ (by decide)) (by rw [fo.1]; exact Int.emod_lt_of_pos _ (by decide))))) | (first | omega | decide | (show _ ≤ sizeLine; decide) | (show _ < sizeLine; decide)))) (ea_cons (ev_addS ev_str (ev_var rfl h_78) (by first | (first | (rw [← ed_1]; exact ⟨mov_ok, mov_ok⟩) | (rw [← ed_1]; decide) | exact at_in (by decide) (by rw [fd]; decide) | (rw [← ed_1]; exact at_in (Int.emod_nonneg _ (by decide)) (Int.emod_lt_of_pos _ (by decide))) | (rw [← ed_42]; exact at_in (Int.emod_nonneg _ (by decide)) (Int.emod_lt_of_pos _ (by decide))) | exact ft.pre | exact (tt_word fw).pre | exact ⟨by omega, by omega⟩ | exact preB (Nat.le_trans fl.n (by decide)) | exact w_sp fw | exact w_spn fw fn | exact w_spq fw fl | exact t_sp ft | exact t_sp (tt_word fw) | exact sp_t ft | exact sp_t (tt_word fw) | exact t_low ft | exact t_low (tt_word fw) | exact w_x fw | exact ok_shape (ok_name fn ed_42 (by assumption) (by assumption) (by assumption)) | exact ok_shape (ok_ann fl (by assumption) (by assumption) (by assumption)) | exact ok_shape (ok_alone fw (by assumption) (by assumption) (by assumption)) | (rw [fo.1]; decide) | exact at_in (Int.emod_nonneg _ (by decide)) (by rw [fo.1]; exact Int.emod_lt_of_pos _ (by decide)) | exact fo.2 _ (getI_mem (at_in (Int.emod_nonneg _ (by decide)) (by rw [fo.1]; exact Int.emod_lt_of_pos _ (by decide))))) | (first | omega | decide | (show _ ≤ sizeLine; decide) | (show _ < sizeLine; decide)))) (ea_cons (ev_upper (ev_var rfl h_78) (by first | (first | (rw [← ed_1]; exact ⟨mov_ok, mov_ok⟩) | (rw [← ed_1]; decide) | exact at_in (by decide) (by rw [fd]; decide) | (rw [← ed_1]; exact at_in (Int.emod_nonneg _ (by decide)) (Int.emod_lt_of_pos _ (by decide))) | (rw [← ed_42]; exact at_in (Int.emod_nonneg _ (by decide)) (Int.emod_lt_of_pos _ (by decide))) | exact ft.pre | exact (tt_word fw).pre | exact ⟨by omega, by omega⟩ | exact preB (Nat.le_trans fl.n (by decide)) | exact w_sp fw | exact w_spn fw fn | exact w_spq fw fl | exact t_sp ft | exact t_sp (tt_word fw) | exact sp_t ft | exact sp_t (tt_word fw) | exact t_low ft | exact t_low (tt_word fw) | exact w_x fw | exact ok_shape (ok_name fn ed_42 (by assumption) (by assumption) (by assumption)) | exact ok_shape (ok_ann fl (by assumption) (by assumption) (by assumption)) | exact ok_shape (ok_alone fw (by assumption) (by assumption) (by assumption)) | (rw [fo.1]; decide) | exact at_in (Int.emod_nonneg _ (by decide)) (by rw [fo.1]; exact Int.emod_lt_of_pos _ (by decide)) | exact fo.2 _ (getI_mem (at_in (Int.emod_nonneg _ (by decide)) (by rw [fo.1]; exact Int.emod_lt_of_pos _ (by decide))))) | (first | omega | decide | (show _ ≤ sizeLine; decide) | (show _ < sizeLine; decide)))) (ea_cons (ev_addS (ev_var rfl h_38) ev_str (by first | (first | (rw [← ed_1]; exact ⟨mov_ok, mov_ok⟩) | (rw [← ed_1]; decide) | exact at_in (by decide) (by rw [fd]; decide) | (rw [← ed_1]; exact at_in (Int.emod_nonneg _ (by decide)) (Int.emod_lt_of_pos _ (by decide))) | (rw [← ed_42]; exact at_in (Int.emod_nonneg _ (by decide)) (Int.emod_lt_of_pos _ (by decide))) | exact ft.pre | exact (tt_word fw).pre | exact ⟨by omega, by omega⟩ | exact preB (Nat.le_trans fl.n (by decide)) | exact w_sp fw | exact w_spn fw fn | exact w_spq fw fl | exact t_sp ft | exact t_sp (tt_word fw) | exact sp_t ft | exact sp_t (tt_word fw) | exact t_low ft | exact t_low (tt_word fw) | exact w_x fw | exact ok_shape (ok_name fn ed_42 (by assumption) (by assumption) (by assumption)) | exact ok_shape (ok_ann fl (by assumption) (by assumption) (by assumption)) | exact ok_shape (ok_alone fw (by assumption) (by assumption) (by assumption)) | (rw [fo.1]; decide) | exact at_in (Int.emod_nonneg _ (by decide)) (by rw [fo.1]; exact Int.emod_lt_of_pos _ (by decide)) | exact fo.2 _ (getI_mem (at_in (Int.emod_nonneg _ (by decide)) (by rw [fo.1]; exact Int.emod_lt_of_pos _ (by decide))))) | (first | omega | decide | (show _ ≤ sizeLine; decide) | (show _ < sizeLine; decide)))) (ea_cons ev_str (ea_cons ev_str (ea_cons ev_str (ea_cons ev_str (ea_cons ev_str ea_nil))))))))) (by first | (first | (rw [← ed_1]; exact ⟨mov_ok, mov_ok⟩) | (rw [← ed_1]; decide) | exact at_in (by decide) (by rw [fd]; decide) | (rw [← ed_1]; exact at_in (Int.emod_nonneg _ (by decide)) (Int.emod_lt_of_pos _ (by decide))) | (rw [← ed_42]; exact at_in (Int.emod_nonneg _ (by decide)) (Int.emod_lt_of_pos _ (by decide))) | exact ft.pre | exact (tt_word fw).pre | exact ⟨by omega, by omega⟩ | exact preB (Nat.le_trans fl.n (by decide)) | exact w_sp fw | exact w_spn fw fn | exact w_spq fw fl | exact t_sp ft | exact t_sp (tt_word fw) | exact sp_t ft | exact sp_t (tt_word fw) | exact t_low ft | exact t_low (tt_word fw) | exact w_x fw | exact ok_shape (ok_name fn ed_42 (by assumption) (by assumption) (by assumption)) | exact ok_shape (ok_ann fl (by assumption) (by assumption) (by assumption)) | exact ok_shape (ok_alone fw (by assumption) (by assumption) (by assumption)) | (rw [fo.1]; decide) | exact at_in (Int.emod_nonneg _ (by decide)) (by rw [fo.1]; exact Int.emod_lt_of_pos _ (by decide)) | exact fo.2 _ (getI_mem (at_in (Int.emod_nonneg _ (by decide)) (by rw [fo.1]; exact Int.emod_lt_of_pos _ (by decide))))) | (first | (show _ ≤ sizeLine; decide) | (simp only [List.length_cons, List.length_nil, List.length_append, sizeLine_eq]; omega) | (fail)))) fun w_97 G100 H101 g99 (h_98 : rep K ((d_76 ++ (" " : Str)) :: (((" " : Str) ++ d_76) :: ((Txt.upper d_76) :: ((d_36 ++ ("  x" : Str)) :: (("announce x" : Str) :: (("announce" : Str) :: (("focus" : Str) :: (("" : Str) :: (("run" : Str) :: ([] : List Str)))))))))) w_97 G100) => ?_
            have h_script := up g99.g h_script
            have h_3 := up g99.g h_3
            have h_15 := up g99.g h_15
            have h_32 := up g99.g h_32
            have h_38 := up g99.g h_38
            have h_44 := up g99.g h_44
            have h_50 := up g99.g h_50
            have h_56 := up g99.g h_56
            have h_78 := up g99.g h_78
            have h_86 := up g99.g h_86
            have sg0 := sg0.trans g99.g
            have gr := gr.trans g99
            generalize ed_96 : ((d_76 ++ (" " : Str)) :: (((" " : Str) ++ d_76) :: ((Txt.upper d_76) :: ((d_36 ++ ("  x" : Str)) :: (("announce x" : Str) :: (("announce" : Str) :: (("focus" : Str) :: (("" : Str) :: (("run" : Str) :: ([] : List Str)))))))))) = d_96 at h_98 hM
            unfold m_law_2 at hM
            first | (have fo : d_96.length = 9 ∧ ∀ x ∈ d_96, PreT x := by (rw [← ed_96]; (first | exact ⟨rfl, odd9_len fw ft.n ft.a⟩ | exact ⟨rfl, odd9_len fw (tt_word fw).n (tt_word fw).a⟩))) | (have fo : d_96.length = 12 ∧ ∀ x ∈ d_96, PreT x := by (rw [← ed_96]; exact ⟨by rw [List.length_append, fo.1]; rfl, odd12_len fo.2⟩))
            refine q_asg (K := K) gr.s (ev_cat (ev_var rfl h_98) (ev_lst (ea_cons ev_str (ea_cons ev_str (ea_cons ev_str ea_nil))) (by first | (first | (rw [← ed_1]; exact ⟨mov_ok, mov_ok⟩) | (rw [← ed_1]; decide) | exact at_in (by decide) (by rw [fd]; decide) | (rw [← ed_1]; exact at_in (Int.emod_nonneg _ (by decide)) (Int.emod_lt_of_pos _ (by decide))) | (rw [← ed_42]; exact at_in (Int.emod_nonneg _ (by decide)) (Int.emod_lt_of_pos _ (by decide))) | exact ft.pre | exact (tt_word fw).pre | exact ⟨by omega, by omega⟩ | exact preB (Nat.le_trans fl.n (by decide)) | exact w_sp fw | exact w_spn fw fn | exact w_spq fw fl | exact t_sp ft | exact t_sp (tt_word fw) | exact sp_t ft | exact sp_t (tt_word fw) | exact t_low ft | exact t_low (tt_word fw) | exact w_x fw | exact ok_shape (ok_name fn ed_42 (by assumption) (by assumption) (by assumption)) | exact ok_shape (ok_ann fl (by assumption) (by assumption) (by assumption)) | exact ok_shape (ok_alone fw (by assumption) (by assumption) (by assumption)) | (rw [fo.1]; decide) | exact at_in (Int.emod_nonneg _ (by decide)) (by rw [fo.1]; exact Int.emod_lt_of_pos _ (by decide)) | exact fo.2 _ (getI_mem (at_in (Int.emod_nonneg _ (by decide)) (by rw [fo.1]; exact Int.emod_lt_of_pos _ (by decide))))) | (first | (show _ ≤ sizeLine; decide) | (simp only [List.length_cons, List.length_nil, List.length_append, sizeLine_eq]; omega) | (fail)))) (by first | (first | (rw [← ed_1]; exact ⟨mov_ok, mov_ok⟩) | (rw [← ed_1]; decide) | exact at_in (by decide) (by rw [fd]; decide) | (rw [← ed_1]; exact at_in (Int.emod_nonneg _ (by decide)) (Int.emod_lt_of_pos _ (by decide))) | (rw [← ed_42]; exact at_in (Int.emod_nonneg _ (by decide)) (Int.emod_lt_of_pos _ (by decide))) | exact ft.pre | exact (tt_word fw).pre | exact ⟨by omega, by omega⟩ | exact preB (Nat.le_trans fl.n (by decide)) | exact w_sp fw | exact w_spn fw fn | exact w_spq fw fl | exact t_sp ft | exact t_sp (tt_word fw) | exact sp_t ft | exact sp_t (tt_word fw) | exact t_low ft | exact t_low (tt_word fw) | exact w_x fw | exact ok_shape (ok_name fn ed_42 (by assumption) (by assumption) (by assumption)) | exact ok_shape (ok_ann fl (by assumption) (by assumption) (by assumption)) | exact ok_shape (ok_alone fw (by assumption) (by assumption) (by assumption)) | (rw [fo.1]; decide) | exact at_in (Int.emod_nonneg _ (by decide)) (by rw [fo.1]; exact Int.emod_lt_of_pos _ (by decide)) | exact fo.2 _ (getI_mem (at_in (Int.emod_nonneg _ (by decide)) (by rw [fo.1]; exact Int.emod_lt_of_pos _ (by decide))))) | (first | omega | decide | (show _ ≤ sizeLine; decide) | (show _ < sizeLine; decide)))) fun w_103 G106 H107 g105 (h_104 : rep K (d_96 ++ (("focusNext a" : Str) :: (("announce \"a" : Str) :: (("announce \"\"\"" : Str) :: ([] : List Str))))) w_103 G106) => ?_
            have h_script := up g105.g h_script
            have h_3 := up g105.g h_3
            have h_15 := up g105.g h_15
            have h_32 := up g105.g h_32
            have h_38 := up g105.g h_38
            have h_44 := up g105.g h_44
            have h_50 := up g105.g h_50
            have h_56 := up g105.g h_56
            have h_78 := up g105.g h_78
            have h_86 := up g105.g h_86
            have sg0 := sg0.trans g105.g
            have gr := gr.trans g105
            generalize ed_102 : (d_96 ++ (("focusNext a" : Str) :: (("announce \"a" : Str) :: (("announce \"\"\"" : Str) :: ([] : List Str))))) = d_102 at h_104 hM
            unfold m_law_1 at hM
            first | (have fo : d_102.length = 9 ∧ ∀ x ∈ d_102, PreT x := by (rw [← ed_102]; (first | exact ⟨rfl, odd9_len fw ft.n ft.a⟩ | exact ⟨rfl, odd9_len fw (tt_word fw).n (tt_word fw).a⟩))) | (have fo : d_102.length = 12 ∧ ∀ x ∈ d_102, PreT x := by (rw [← ed_102]; exact ⟨by rw [List.length_append, fo.1]; rfl, odd12_len fo.2⟩))
            refine s_if gr.s (et_test (ev_notN nn_pair (ev_call1 (ev_ixL (ev_var rfl h_104) (ev_mod (ev_int1 (ev_ixL (ev_var rfl h_32) ev_int (atI_get (by first | (first | (rw [← ed_1]; exact ⟨mov_ok, mov_ok⟩) | (rw [← ed_1]; decide) | exact at_in (by decide) (by rw [fd]; decide) | (rw [← ed_1]; exact at_in (Int.emod_nonneg _ (by decide)) (Int.emod_lt_of_pos _ (by decide))) | (rw [← ed_42]; exact at_in (Int.emod_nonneg _ (by decide)) (Int.emod_lt_of_pos _ (by decide))) | exact ft.pre | exact (tt_word fw).pre | exact ⟨by omega, by omega⟩ | exact preB (Nat.le_trans fl.n (by decide)) | exact w_sp fw | exact w_spn fw fn | exact w_spq fw fl | exact t_sp ft | exact t_sp (tt_word fw) | exact sp_t ft | exact sp_t (tt_word fw) | exact t_low ft | exact t_low (tt_word fw) | exact w_x fw | exact ok_shape (ok_name fn ed_42 (by assumption) (by assumption) (by assumption)) | exact ok_shape (ok_ann fl (by assumption) (by assumption) (by assumption)) | exact ok_shape (ok_alone fw (by assumption) (by assumption) (by assumption)) | (rw [fo.1]; decide) | exact at_in (Int.emod_nonneg _ (by decide)) (by rw [fo.1]; exact Int.emod_lt_of_pos _ (by decide)) | exact fo.2 _ (getI_mem (at_in (Int.emod_nonneg _ (by decide)) (by rw [fo.1]; exact Int.emod_lt_of_pos _ (by decide))))) | (first | decide | (refine at_in ?_ ?_ <;> omega) | (refine at_neg ?_ ?_ <;> omega)))))) ev_int (by first | (first | (rw [← ed_1]; exact ⟨mov_ok, mov_ok⟩) | (rw [← ed_1]; decide) | exact at_in (by decide) (by rw [fd]; decide) | (rw [← ed_1]; exact at_in (Int.emod_nonneg _ (by decide)) (Int.emod_lt_of_pos _ (by decide))) | (rw [← ed_42]; exact at_in (Int.emod_nonneg _ (by decide)) (Int.emod_lt_of_pos _ (by decide))) | exact ft.pre | exact (tt_word fw).pre | exact ⟨by omega, by omega⟩ | exact preB (Nat.le_trans fl.n (by decide)) | exact w_sp fw | exact w_spn fw fn | exact w_spq fw fl | exact t_sp ft | exact t_sp (tt_word fw) | exact sp_t ft | exact sp_t (tt_word fw) | exact t_low ft | exact t_low (tt_word fw) | exact w_x fw | exact ok_shape (ok_name fn ed_42 (by assumption) (by assumption) (by assumption)) | exact ok_shape (ok_ann fl (by assumption) (by assumption) (by assumption)) | exact ok_shape (ok_alone fw (by assumption) (by assumption) (by assumption)) | (rw [fo.1]; decide) | exact at_in (Int.emod_nonneg _ (by decide)) (by rw [fo.1]; exact Int.emod_lt_of_pos _ (by decide)) | exact fo.2 _ (getI_mem (at_in (Int.emod_nonneg _ (by decide)) (by rw [fo.1]; exact Int.emod_lt_of_pos _ (by decide))))) | (first | omega | decide | (show _ ≤ sizeLine; decide) | (show _ < sizeLine; decide)))) (atI_get (by first | (first | (rw [← ed_1]; exact ⟨mov_ok, mov_ok⟩) | (rw [← ed_1]; decide) | exact at_in (by decide) (by rw [fd]; decide) | (rw [← ed_1]; exact at_in (Int.emod_nonneg _ (by decide)) (Int.emod_lt_of_pos _ (by decide))) | (rw [← ed_42]; exact at_in (Int.emod_nonneg _ (by decide)) (Int.emod_lt_of_pos _ (by decide))) | exact ft.pre | exact (tt_word fw).pre | exact ⟨by omega, by omega⟩ | exact preB (Nat.le_trans fl.n (by decide)) | exact w_sp fw | exact w_spn fw fn | exact w_spq fw fl | exact t_sp ft | exact t_sp (tt_word fw) | exact sp_t ft | exact sp_t (tt_word fw) | exact t_low ft | exact t_low (tt_word fw) | exact w_x fw | exact ok_shape (ok_name fn ed_42 (by assumption) (by assumption) (by assumption)) | exact ok_shape (ok_ann fl (by assumption) (by assumption) (by assumption)) | exact ok_shape (ok_alone fw (by assumption) (by assumption) (by assumption)) | (rw [fo.1]; decide) | exact at_in (Int.emod_nonneg _ (by decide)) (by rw [fo.1]; exact Int.emod_lt_of_pos _ (by decide)) | exact fo.2 _ (getI_mem (at_in (Int.emod_nonneg _ (by decide)) (by rw [fo.1]; exact Int.emod_lt_of_pos _ (by decide))))) | (first | decide | (refine at_in ?_ ?_ <;> omega) | (refine at_neg ?_ ?_ <;> omega))))) (by first | (first | (rw [← ed_1]; exact ⟨mov_ok, mov_ok⟩) | (rw [← ed_1]; decide) | exact at_in (by decide) (by rw [fd]; decide) | (rw [← ed_1]; exact at_in (Int.emod_nonneg _ (by decide)) (Int.emod_lt_of_pos _ (by decide))) | (rw [← ed_42]; exact at_in (Int.emod_nonneg _ (by decide)) (Int.emod_lt_of_pos _ (by decide))) | exact ft.pre | exact (tt_word fw).pre | exact ⟨by omega, by omega⟩ | exact preB (Nat.le_trans fl.n (by decide)) | exact w_sp fw | exact w_spn fw fn | exact w_spq fw fl | exact t_sp ft | exact t_sp (tt_word fw) | exact sp_t ft | exact sp_t (tt_word fw) | exact t_low ft | exact t_low (tt_word fw) | exact w_x fw | exact ok_shape (ok_name fn ed_42 (by assumption) (by assumption) (by assumption)) | exact ok_shape (ok_ann fl (by assumption) (by assumption) (by assumption)) | exact ok_shape (ok_alone fw (by assumption) (by assumption) (by assumption)) | (rw [fo.1]; decide) | exact at_in (Int.emod_nonneg _ (by decide)) (by rw [fo.1]; exact Int.emod_lt_of_pos _ (by decide)) | exact fo.2 _ (getI_mem (at_in (Int.emod_nonneg _ (by decide)) (by rw [fo.1]; exact Int.emod_lt_of_pos _ (by decide))))) | (first | omega | decide))))) ?_ ?_
            · intro hb109 G110 H111 g108
              have h_script := up g108.g h_script
              have h_3 := up g108.g h_3
              have h_15 := up g108.g h_15
              have h_32 := up g108.g h_32
              have h_38 := up g108.g h_38
              have h_44 := up g108.g h_44
              have h_50 := up g108.g h_50
              have h_56 := up g108.g h_56
              have h_78 := up g108.g h_78
              have h_86 := up g108.g h_86
              have h_104 := up g108.g h_104
              have sg0 := sg0.trans g108.g
              have gr := gr.trans g108
              replace hM := condT hM hb109
              refine s_ret (K := K) gr.s ev_bl fun u Gr Hr gq hu => ?_
              exact hQ u Gr Hr (gr.trans gq) (by rw [(exitF_ret hMo0 (runL_ret hgo0 hx0 hM))]; exact hu)
            · intro hb109 G112 H113 g108
              have h_script := up g108.g h_script
              have h_3 := up g108.g h_3
              have h_15 := up g108.g h_15
              have h_32 := up g108.g h_32
              have h_38 := up g108.g h_38
              have h_44 := up g108.g h_44
              have h_50 := up g108.g h_50
              have h_56 := up g108.g h_56
              have h_78 := up g108.g h_78
              have h_86 := up g108.g h_86
              have h_104 := up g108.g h_104
              have sg0 := sg0.trans g108.g
              have gr := gr.trans g108
              replace hM := condF hM hb109
              refine s_next ?_
              exact ⟨_, (runL_go hgo0 hx0 hM), _, _, _, _, _, _, _, _, _, _, gr, sg0, rfl⟩
        · intro hb73 G114 H115 g72
          have h_script := up g72.g h_script
          have h_3 := up g72.g h_3
          have h_15 := up g72.g h_15
          have h_32 := up g72.g h_32
          have h_38 := up g72.g h_38
          have h_44 := up g72.g h_44
          have h_50 := up g72.g h_50
          have h_56 := up g72.g h_56
          have h_62 := up g72.g h_62
          have h_68 := up g72.g h_68
          have sg0 := sg0.trans g72.g
          have gr := gr.trans g72
          replace hM := condF hM hb73
          unfold m_law_15 at hM
          refine s_if gr.s (et_test (ev_eq (ev_var rfl h_38) ev_str)) ?_ ?_
          · intro hb117 G118 H119 g116
            have h_script := up g116.g h_script
            have h_3 := up g116.g h_3
            have h_15 := up g116.g h_15
            have h_32 := up g116.g h_32
            have h_38 := up g116.g h_38
            have h_44 := up g116.g h_44
            have h_50 := up g116.g h_50
            have h_56 := up g116.g h_56
            have h_62 := up g116.g h_62
            have h_68 := up g116.g h_68
            have sg0 := sg0.trans g116.g
            have gr := gr.trans g116
            replace hM := condT hM hb117
            refine q_asg (K := K) gr.s (ev_addS (ev_addS (ev_var rfl h_38) ev_str (by first | (first | (rw [← ed_1]; exact ⟨mov_ok, mov_ok⟩) | (rw [← ed_1]; decide) | exact at_in (by decide) (by rw [fd]; decide) | (rw [← ed_1]; exact at_in (Int.emod_nonneg _ (by decide)) (Int.emod_lt_of_pos _ (by decide))) | (rw [← ed_42]; exact at_in (Int.emod_nonneg _ (by decide)) (Int.emod_lt_of_pos _ (by decide))) | exact ft.pre | exact (tt_word fw).pre | exact ⟨by omega, by omega⟩ | exact preB (Nat.le_trans fl.n (by decide)) | exact w_sp fw | exact w_spn fw fn | exact w_spq fw fl | exact t_sp ft | exact t_sp (tt_word fw) | exact sp_t ft | exact sp_t (tt_word fw) | exact t_low ft | exact t_low (tt_word fw) | exact w_x fw | exact ok_shape (ok_name fn ed_42 (by assumption) (by assumption) (by assumption)) | exact ok_shape (ok_ann fl (by assumption) (by assumption) (by assumption)) | exact ok_shape (ok_alone fw (by assumption) (by assumption) (by assumption)) | (rw [fo.1]; decide) | exact at_in (Int.emod_nonneg _ (by decide)) (by rw [fo.1]; exact Int.emod_lt_of_pos _ (by decide)) | exact fo.2 _ (getI_mem (at_in (Int.emod_nonneg _ (by decide)) (by rw [fo.1]; exact Int.emod_lt_of_pos _ (by decide))))) | (first | omega | decide | (show _ ≤ sizeLine; decide) | (show _ < sizeLine; decide)))) (ev_call1 (ev_var rfl h_56) (by first | (first | (rw [← ed_1]; exact ⟨mov_ok, mov_ok⟩) | (rw [← ed_1]; decide) | exact at_in (by decide) (by rw [fd]; decide) | (rw [← ed_1]; exact at_in (Int.emod_nonneg _ (by decide)) (Int.emod_lt_of_pos _ (by decide))) | (rw [← ed_42]; exact at_in (Int.emod_nonneg _ (by decide)) (Int.emod_lt_of_pos _ (by decide))) | exact ft.pre | exact (tt_word fw).pre | exact ⟨by omega, by omega⟩ | exact preB (Nat.le_trans fl.n (by decide)) | exact w_sp fw | exact w_spn fw fn | exact w_spq fw fl | exact t_sp ft | exact t_sp (tt_word fw) | exact sp_t ft | exact sp_t (tt_word fw) | exact t_low ft | exact t_low (tt_word fw) | exact w_x fw | exact ok_shape (ok_name fn ed_42 (by assumption) (by assumption) (by assumption)) | exact ok_shape (ok_ann fl (by assumption) (by assumption) (by assumption)) | exact ok_shape (ok_alone fw (by assumption) (by assumption) (by assumption)) | (rw [fo.1]; decide) | exact at_in (Int.emod_nonneg _ (by decide)) (by rw [fo.1]; exact Int.emod_lt_of_pos _ (by decide)) | exact fo.2 _ (getI_mem (at_in (Int.emod_nonneg _ (by decide)) (by rw [fo.1]; exact Int.emod_lt_of_pos _ (by decide))))) | (first | omega | decide))) (by first | (first | (rw [← ed_1]; exact ⟨mov_ok, mov_ok⟩) | (rw [← ed_1]; decide) | exact at_in (by decide) (by rw [fd]; decide) | (rw [← ed_1]; exact at_in (Int.emod_nonneg _ (by decide)) (Int.emod_lt_of_pos _ (by decide))) | (rw [← ed_42]; exact at_in (Int.emod_nonneg _ (by decide)) (Int.emod_lt_of_pos _ (by decide))) | exact ft.pre | exact (tt_word fw).pre | exact ⟨by omega, by omega⟩ | exact preB (Nat.le_trans fl.n (by decide)) | exact w_sp fw | exact w_spn fw fn | exact w_spq fw fl | exact t_sp ft | exact t_sp (tt_word fw) | exact sp_t ft | exact sp_t (tt_word fw) | exact t_low ft | exact t_low (tt_word fw) | exact w_x fw | exact ok_shape (ok_name fn ed_42 (by assumption) (by assumption) (by assumption)) | exact ok_shape (ok_ann fl (by assumption) (by assumption) (by assumption)) | exact ok_shape (ok_alone fw (by assumption) (by assumption) (by assumption)) | (rw [fo.1]; decide) | exact at_in (Int.emod_nonneg _ (by decide)) (by rw [fo.1]; exact Int.emod_lt_of_pos _ (by decide)) | exact fo.2 _ (getI_mem (at_in (Int.emod_nonneg _ (by decide)) (by rw [fo.1]; exact Int.emod_lt_of_pos _ (by decide))))) | (first | omega | decide | (show _ ≤ sizeLine; decide) | (show _ < sizeLine; decide)))) fun w_121 G124 H125 g123 (h_122 : rep K ((d_36 ++ (" " : Str)) ++ (m__law_quoted d_54)) w_121 G124) => ?_
            have h_script := up g123.g h_script
            have h_3 := up g123.g h_3
            have h_15 := up g123.g h_15
            have h_32 := up g123.g h_32
            have h_38 := up g123.g h_38
            have h_44 := up g123.g h_44
            have h_50 := up g123.g h_50
            have h_56 := up g123.g h_56
            have h_68 := up g123.g h_68
            have sg0 := sg0.trans g123.g
            have gr := gr.trans g123
            generalize ed_120 : ((d_36 ++ (" " : Str)) ++ (m__law_quoted d_54)) = d_120 at h_122 hM
            unfold m_law_10 at hM
            have ft : TextT d_120 := by rw [← ed_120]; first | exact tt_name fw fn | exact tt_ann fw fl
            refine s_asg (K := K) gr.s (ev_some (ev_tup2 (ev_var rfl h_38) (ev_var rfl h_56))) fun w_127 G130 H131 g129 (h_128 : rep K (some (d_36, d_54)) w_127 G130) => ?_
            have h_script := up g129.g h_script
            have h_3 := up g129.g h_3
            have h_15 := up g129.g h_15
            have h_32 := up g129.g h_32
            have h_38 := up g129.g h_38
            have h_44 := up g129.g h_44
            have h_50 := up g129.g h_50
            have h_56 := up g129.g h_56
            have h_122 := up g129.g h_122
            have sg0 := sg0.trans g129.g
            have gr := gr.trans g129
            generalize ed_126 : (some (d_36, d_54)) = d_126 at h_128 hM
            unfold m_law_9 at hM
            refine nx_mk ?_
            refine q_if gr.s (et_test (ev_neD (ev_call1 (ev_var rfl h_122) (by first | (first | (rw [← ed_1]; exact ⟨mov_ok, mov_ok⟩) | (rw [← ed_1]; decide) | exact at_in (by decide) (by rw [fd]; decide) | (rw [← ed_1]; exact at_in (Int.emod_nonneg _ (by decide)) (Int.emod_lt_of_pos _ (by decide))) | (rw [← ed_42]; exact at_in (Int.emod_nonneg _ (by decide)) (Int.emod_lt_of_pos _ (by decide))) | exact ft.pre | exact (tt_word fw).pre | exact ⟨by omega, by omega⟩ | exact preB (Nat.le_trans fl.n (by decide)) | exact w_sp fw | exact w_spn fw fn | exact w_spq fw fl | exact t_sp ft | exact t_sp (tt_word fw) | exact sp_t ft | exact sp_t (tt_word fw) | exact t_low ft | exact t_low (tt_word fw) | exact w_x fw | exact ok_shape (ok_name fn ed_42 (by assumption) (by assumption) (by assumption)) | exact ok_shape (ok_ann fl (by assumption) (by assumption) (by assumption)) | exact ok_shape (ok_alone fw (by assumption) (by assumption) (by assumption)) | (rw [fo.1]; decide) | exact at_in (Int.emod_nonneg _ (by decide)) (by rw [fo.1]; exact Int.emod_lt_of_pos _ (by decide)) | exact fo.2 _ (getI_mem (at_in (Int.emod_nonneg _ (by decide)) (by rw [fo.1]; exact Int.emod_lt_of_pos _ (by decide))))) | (first | omega | decide))) (ev_var rfl h_128) (by first | (first | (rw [← ed_1]; exact ⟨mov_ok, mov_ok⟩) | (rw [← ed_1]; decide) | exact at_in (by decide) (by rw [fd]; decide) | (rw [← ed_1]; exact at_in (Int.emod_nonneg _ (by decide)) (Int.emod_lt_of_pos _ (by decide))) | (rw [← ed_42]; exact at_in (Int.emod_nonneg _ (by decide)) (Int.emod_lt_of_pos _ (by decide))) | exact ft.pre | exact (tt_word fw).pre | exact ⟨by omega, by omega⟩ | exact preB (Nat.le_trans fl.n (by decide)) | exact w_sp fw | exact w_spn fw fn | exact w_spq fw fl | exact t_sp ft | exact t_sp (tt_word fw) | exact sp_t ft | exact sp_t (tt_word fw) | exact t_low ft | exact t_low (tt_word fw) | exact w_x fw | exact ok_shape (ok_name fn ed_42 (by assumption) (by assumption) (by assumption)) | exact ok_shape (ok_ann fl (by assumption) (by assumption) (by assumption)) | exact ok_shape (ok_alone fw (by assumption) (by assumption) (by assumption)) | (rw [fo.1]; decide) | exact at_in (Int.emod_nonneg _ (by decide)) (by rw [fo.1]; exact Int.emod_lt_of_pos _ (by decide)) | exact fo.2 _ (getI_mem (at_in (Int.emod_nonneg _ (by decide)) (by rw [fo.1]; exact Int.emod_lt_of_pos _ (by decide))))) | (first | omega | decide | (show _ ≤ sizeLine; decide) | (show _ < sizeLine; decide))))) ?_ ?_
            · intro hb133 G134 H135 g132
              have h_script := up g132.g h_script
              have h_3 := up g132.g h_3
              have h_15 := up g132.g h_15
              have h_32 := up g132.g h_32
              have h_38 := up g132.g h_38
              have h_44 := up g132.g h_44
              have h_50 := up g132.g h_50
              have h_56 := up g132.g h_56
              have h_122 := up g132.g h_122
              have h_128 := up g132.g h_128
              have sg0 := sg0.trans g132.g
              have gr := gr.trans g132
              replace hM := condT hM hb133
              refine s_ret (K := K) gr.s ev_bl fun u Gr Hr gq hu => ?_
              exact hQ u Gr Hr (gr.trans gq) (by rw [(exitF_ret hMo0 (runL_ret hgo0 hx0 hM))]; exact hu)
            · intro hb133 G136 H137 g132
              have h_script := up g132.g h_script
              have h_3 := up g132.g h_3
              have h_15 := up g132.g h_15
              have h_32 := up g132.g h_32
              have h_38 := up g132.g h_38
              have h_44 := up g132.g h_44
              have h_50 := up g132.g h_50
              have h_56 := up g132.g h_56
              have h_122 := up g132.g h_122
              have h_128 := up g132.g h_128
              have sg0 := sg0.trans g132.g
              have gr := gr.trans g132
              replace hM := condF hM hb133
              unfold m_law_8 at hM
              refine s_next ?_
              refine nx_mk ?_
              refine q_asg (K := K) gr.s (ev_lst (ea_cons (ev_addS (ev_var rfl h_122) ev_str (by first | (first | (rw [← ed_1]; exact ⟨mov_ok, mov_ok⟩) | (rw [← ed_1]; decide) | exact at_in (by decide) (by rw [fd]; decide) | (rw [← ed_1]; exact at_in (Int.emod_nonneg _ (by decide)) (Int.emod_lt_of_pos _ (by decide))) | (rw [← ed_42]; exact at_in (Int.emod_nonneg _ (by decide)) (Int.emod_lt_of_pos _ (by decide))) | exact ft.pre | exact (tt_word fw).pre | exact ⟨by omega, by omega⟩ | exact preB (Nat.le_trans fl.n (by decide)) | exact w_sp fw | exact w_spn fw fn | exact w_spq fw fl | exact t_sp ft | exact t_sp (tt_word fw) | exact sp_t ft | exact sp_t (tt_word fw) | exact t_low ft | exact t_low (tt_word fw) | exact w_x fw | exact ok_shape (ok_name fn ed_42 (by assumption) (by assumption) (by assumption)) | exact ok_shape (ok_ann fl (by assumption) (by assumption) (by assumption)) | exact ok_shape (ok_alone fw (by assumption) (by assumption) (by assumption)) | (rw [fo.1]; decide) | exact at_in (Int.emod_nonneg _ (by decide)) (by rw [fo.1]; exact Int.emod_lt_of_pos _ (by decide)) | exact fo.2 _ (getI_mem (at_in (Int.emod_nonneg _ (by decide)) (by rw [fo.1]; exact Int.emod_lt_of_pos _ (by decide))))) | (first | omega | decide | (show _ ≤ sizeLine; decide) | (show _ < sizeLine; decide)))) (ea_cons (ev_addS ev_str (ev_var rfl h_122) (by first | (first | (rw [← ed_1]; exact ⟨mov_ok, mov_ok⟩) | (rw [← ed_1]; decide) | exact at_in (by decide) (by rw [fd]; decide) | (rw [← ed_1]; exact at_in (Int.emod_nonneg _ (by decide)) (Int.emod_lt_of_pos _ (by decide))) | (rw [← ed_42]; exact at_in (Int.emod_nonneg _ (by decide)) (Int.emod_lt_of_pos _ (by decide))) | exact ft.pre | exact (tt_word fw).pre | exact ⟨by omega, by omega⟩ | exact preB (Nat.le_trans fl.n (by decide)) | exact w_sp fw | exact w_spn fw fn | exact w_spq fw fl | exact t_sp ft | exact t_sp (tt_word fw) | exact sp_t ft | exact sp_t (tt_word fw) | exact t_low ft | exact t_low (tt_word fw) | exact w_x fw | exact ok_shape (ok_name fn ed_42 (by assumption) (by assumption) (by assumption)) | exact ok_shape (ok_ann fl (by assumption) (by assumption) (by assumption)) | exact ok_shape (ok_alone fw (by assumption) (by assumption) (by assumption)) | (rw [fo.1]; decide) | exact at_in (Int.emod_nonneg _ (by decide)) (by rw [fo.1]; exact Int.emod_lt_of_pos _ (by decide)) | exact fo.2 _ (getI_mem (at_in (Int.emod_nonneg _ (by decide)) (by rw [fo.1]; exact Int.emod_lt_of_pos _ (by decide))))) | (first | omega | decide | (show _ ≤ sizeLine; decide) | (show _ < sizeLine; decide)))) (ea_cons (ev_upper (ev_var rfl h_122) (by first | (first | (rw [← ed_1]; exact ⟨mov_ok, mov_ok⟩) | (rw [← ed_1]; decide) | exact at_in (by decide) (by rw [fd]; decide) | (rw [← ed_1]; exact at_in (Int.emod_nonneg _ (by decide)) (Int.emod_lt_of_pos _ (by decide))) | (rw [← ed_42]; exact at_in (Int.emod_nonneg _ (by decide)) (Int.emod_lt_of_pos _ (by decide))) | exact ft.pre | exact (tt_word fw).pre | exact ⟨by omega, by omega⟩ | exact preB (Nat.le_trans fl.n (by decide)) | exact w_sp fw | exact w_spn fw fn | exact w_spq fw fl | exact t_sp ft | exact t_sp (tt_word fw) | exact sp_t ft | exact sp_t (tt_word fw) | exact t_low ft | exact t_low (tt_word fw) | exact w_x fw | exact ok_shape (ok_name fn ed_42 (by assumption) (by assumption) (by assumption)) | exact ok_shape (ok_ann fl (by assumption) (by assumption) (by assumption)) | exact ok_shape (ok_alone fw (by assumption) (by assumption) (by assumption)) | (rw [fo.1]; decide) | exact at_in (Int.emod_nonneg _ (by decide)) (by rw [fo.1]; exact Int.emod_lt_of_pos _ (by decide)) | exact fo.2 _ (getI_mem (at_in (Int.emod_nonneg _ (by decide)) (by rw [fo.1]; exact Int.emod_lt_of_pos _ (by decide))))) | (first | omega | decide | (show _ ≤ sizeLine; decide) | (show _ < sizeLine; decide)))) (ea_cons (ev_addS (ev_var rfl h_38) ev_str (by first | (first | (rw [← ed_1]; exact ⟨mov_ok, mov_ok⟩) | (rw [← ed_1]; decide) | exact at_in (by decide) (by rw [fd]; decide) | (rw [← ed_1]; exact at_in (Int.emod_nonneg _ (by decide)) (Int.emod_lt_of_pos _ (by decide))) | (rw [← ed_42]; exact at_in (Int.emod_nonneg _ (by decide)) (Int.emod_lt_of_pos _ (by decide))) | exact ft.pre | exact (tt_word fw).pre | exact ⟨by omega, by omega⟩ | exact preB (Nat.le_trans fl.n (by decide)) | exact w_sp fw | exact w_spn fw fn | exact w_spq fw fl | exact t_sp ft | exact t_sp (tt_word fw) | exact sp_t ft | exact sp_t (tt_word fw) | exact t_low ft | exact t_low (tt_word fw) | exact w_x fw | exact ok_shape (ok_name fn ed_42 (by assumption) (by assumption) (by assumption)) | exact ok_shape (ok_ann fl (by assumption) (by assumption) (by assumption)) | exact ok_shape (ok_alone fw (by assumption) (by assumption) (by assumption)) | (rw [fo.1]; decide) | exact at_in (Int.emod_nonneg _ (by decide)) (by rw [fo.1]; exact Int.emod_lt_of_pos _ (by decide)) | exact fo.2 _ (getI_mem (at_in (Int.emod_nonneg _ (by decide)) (by rw [fo.1]; exact Int.emod_lt_of_pos _ (by decide))))) | (first | omega | decide | (show _ ≤ sizeLine; decide) | (show _ < sizeLine; decide)))) (ea_cons ev_str (ea_cons ev_str (ea_cons ev_str (ea_cons ev_str (ea_cons ev_str ea_nil))))))))) (by first | (first | (rw [← ed_1]; exact ⟨mov_ok, mov_ok⟩) | (rw [← ed_1]; decide) | exact at_in (by decide) (by rw [fd]; decide) | (rw [← ed_1]; exact at_in (Int.emod_nonneg _ (by decide)) (Int.emod_lt_of_pos _ (by decide))) | (rw [← ed_42]; exact at_in (Int.emod_nonneg _ (by decide)) (Int.emod_lt_of_pos _ (by decide))) | exact ft.pre | exact (tt_word fw).pre | exact ⟨by omega, by omega⟩ | exact preB (Nat.le_trans fl.n (by decide)) | exact w_sp fw | exact w_spn fw fn | exact w_spq fw fl | exact t_sp ft | exact t_sp (tt_word fw) | exact sp_t ft | exact sp_t (tt_word fw) | exact t_low ft | exact t_low (tt_word fw) | exact w_x fw | exact ok_shape (ok_name fn ed_42 (by assumption) (by assumption) (by assumption)) | exact ok_shape (ok_ann fl (by assumption) (by assumption) (by assumption)) | exact ok_shape (ok_alone fw (by assumption) (by assumption) (by assumption)) | (rw [fo.1]; decide) | exact at_in (Int.emod_nonneg _ (by decide)) (by rw [fo.1]; exact Int.emod_lt_of_pos _ (by decide)) | exact fo.2 _ (getI_mem (at_in (Int.emod_nonneg _ (by decide)) (by rw [fo.1]; exact Int.emod_lt_of_pos _ (by decide))))) | (first | (show _ ≤ sizeLine; decide) | (simp only [List.length_cons, List.length_nil, List.length_append, sizeLine_eq]; omega) | (fail)))) fun w_139 G142 H143 g141 (h_140 : rep K ((d_120 ++ (" " : Str)) :: (((" " : Str) ++ d_120) :: ((Txt.upper d_120) :: ((d_36 ++ ("  x" : Str)) :: (("announce x" : Str) :: (("announce" : Str) :: (("focus" : Str) :: (("" : Str) :: (("run" : Str) :: ([] : List Str)))))))))) w_139 G142) => ?_
              have h_script := up g141.g h_script
              have h_3 := up g141.g h_3
              have h_15 := up g141.g h_15
              have h_32 := up g141.g h_32
              have h_38 := up g141.g h_38
              have h_44 := up g141.g h_44
              have h_50 := up g141.g h_50
              have h_56 := up g141.g h_56
              have h_122 := up g141.g h_122
              have h_128 := up g141.g h_128
              have sg0 := sg0.trans g141.g
              have gr := gr.trans g141
              generalize ed_138 : ((d_120 ++ (" " : Str)) :: (((" " : Str) ++ d_120) :: ((Txt.upper d_120) :: ((d_36 ++ ("  x" : Str)) :: (("announce x" : Str) :: (("announce" : Str) :: (("focus" : Str) :: (("" : Str) :: (("run" : Str) :: ([] : List Str)))))))))) = d_138 at h_140 hM
              unfold m_law_7 at hM
              first | (have fo : d_138.length = 9 ∧ ∀ x ∈ d_138, PreT x := by (rw [← ed_138]; (first | exact ⟨rfl, odd9_len fw ft.n ft.a⟩ | exact ⟨rfl, odd9_len fw (tt_word fw).n (tt_word fw).a⟩))) | (have fo : d_138.length = 12 ∧ ∀ x ∈ d_138, PreT x := by (rw [← ed_138]; exact ⟨by rw [List.length_append, fo.1]; rfl, odd12_len fo.2⟩))
              refine q_asg (K := K) gr.s (ev_cat (ev_var rfl h_140) (ev_lst (ea_cons ev_str (ea_cons ev_str (ea_cons ev_str ea_nil))) (by first | (first | (rw [← ed_1]; exact ⟨mov_ok, mov_ok⟩) | (rw [← ed_1]; decide) | exact at_in (by decide) (by rw [fd]; decide) | (rw [← ed_1]; exact at_in (Int.emod_nonneg _ (by decide)) (Int.emod_lt_of_pos _ (by decide))) | (rw [← ed_42]; exact at_in (Int.emod_nonneg _ (by decide)) (Int.emod_lt_of_pos _ (by decide))) | exact ft.pre | exact (tt_word fw).pre | exact ⟨by omega, by omega⟩ | exact preB (Nat.le_trans fl.n (by decide)) | exact w_sp fw | exact w_spn fw fn | exact w_spq fw fl | exact t_sp ft | exact t_sp (tt_word fw) | exact sp_t ft | exact sp_t (tt_word fw) | exact t_low ft | exact t_low (tt_word fw) | exact w_x fw | exact ok_shape (ok_name fn ed_42 (by assumption) (by assumption) (by assumption)) | exact ok_shape (ok_ann fl (by assumption) (by assumption) (by assumption)) | exact ok_shape (ok_alone fw (by assumption) (by assumption) (by assumption)) | (rw [fo.1]; decide) | exact at_in (Int.emod_nonneg _ (by decide)) (by rw [fo.1]; exact Int.emod_lt_of_pos _ (by decide)) | exact fo.2 _ (getI_mem (at_in (Int.emod_nonneg _ (by decide)) (by rw [fo.1]; exact Int.emod_lt_of_pos _ (by decide))))) | (first | (show _ ≤ sizeLine; decide) | (simp only [List.length_cons, List.length_nil, List.length_append, sizeLine_eq]; omega) | (fail)))) (by first | (first | (rw [← ed_1]; exact ⟨mov_ok, mov_ok⟩) | (rw [← ed_1]; decide) | exact at_in (by decide) (by rw [fd]; decide) | (rw [← ed_1]; exact at_in (Int.emod_nonneg _ (by decide)) (Int.emod_lt_of_pos _ (by decide))) | (rw [← ed_42]; exact at_in (Int.emod_nonneg _ (by decide)) (Int.emod_lt_of_pos _ (by decide))) | exact ft.pre | exact (tt_word fw).pre | exact ⟨by omega, by omega⟩ | exact preB (Nat.le_trans fl.n (by decide)) | exact w_sp fw | exact w_spn fw fn | exact w_spq fw fl | exact t_sp ft | exact t_sp (tt_word fw) | exact sp_t ft | exact sp_t (tt_word fw) | exact t_low ft | exact t_low (tt_word fw) | exact w_x fw | exact ok_shape (ok_name fn ed_42 (by assumption) (by assumption) (by assumption)) | exact ok_shape (ok_ann fl (by assumption) (by assumption) (by assumption)) | exact ok_shape (ok_alone fw (by assumption) (by assumption) (by assumption)) | (rw [fo.1]; decide) | exact at_in (Int.emod_nonneg _ (by decide)) (by rw [fo.1]; exact Int.emod_lt_of_pos _ (by decide)) | exact fo.2 _ (getI_mem (at_in (Int.emod_nonneg _ (by decide)) (by rw [fo.1]; exact Int.emod_lt_of_pos _ (by decide))))) | (first | omega | decide | (show _ ≤ sizeLine; decide) | (show _ < sizeLine; decide)))) fun w_145 G148 H149 g147 (h_146 : rep K (d_138 ++ (("focusNext a" : Str) :: (("announce \"a" : Str) :: (("announce \"\"\"" : Str) :: ([] : List Str))))) w_145 G148) => ?_
              have h_script := up g147.g h_script
              have h_3 := up g147.g h_3
              have h_15 := up g147.g h_15
              have h_32 := up g147.g h_32
              have h_38 := up g147.g h_38
              have h_44 := up g147.g h_44
              have h_50 := up g147.g h_50
              have h_56 := up g147.g h_56
              have h_122 := up g147.g h_122
              have h_128 := up g147.g h_128
              have sg0 := sg0.trans g147.g
              have gr := gr.trans g147
              generalize ed_144 : (d_138 ++ (("focusNext a" : Str) :: (("announce \"a" : Str) :: (("announce \"\"\"" : Str) :: ([] : List Str))))) = d_144 at h_146 hM
              unfold m_law_6 at hM
              first | (have fo : d_144.length = 9 ∧ ∀ x ∈ d_144, PreT x := by (rw [← ed_144]; (first | exact ⟨rfl, odd9_len fw ft.n ft.a⟩ | exact ⟨rfl, odd9_len fw (tt_word fw).n (tt_word fw).a⟩))) | (have fo : d_144.length = 12 ∧ ∀ x ∈ d_144, PreT x := by (rw [← ed_144]; exact ⟨by rw [List.length_append, fo.1]; rfl, odd12_len fo.2⟩))
              refine s_if gr.s (et_test (ev_notN nn_pair (ev_call1 (ev_ixL (ev_var rfl h_146) (ev_mod (ev_int1 (ev_ixL (ev_var rfl h_32) ev_int (atI_get (by first | (first | (rw [← ed_1]; exact ⟨mov_ok, mov_ok⟩) | (rw [← ed_1]; decide) | exact at_in (by decide) (by rw [fd]; decide) | (rw [← ed_1]; exact at_in (Int.emod_nonneg _ (by decide)) (Int.emod_lt_of_pos _ (by decide))) | (rw [← ed_42]; exact at_in (Int.emod_nonneg _ (by decide)) (Int.emod_lt_of_pos _ (by decide))) | exact ft.pre | exact (tt_word fw).pre | exact ⟨by omega, by omega⟩ | exact preB (Nat.le_trans fl.n (by decide)) | exact w_sp fw | exact w_spn fw fn | exact w_spq fw fl | exact t_sp ft | exact t_sp (tt_word fw) | exact sp_t ft | exact sp_t (tt_word fw) | exact t_low ft | exact t_low (tt_word fw) | exact w_x fw | exact ok_shape (ok_name fn ed_42 (by assumption) (by assumption) (by assumption)) | exact ok_shape (ok_ann fl (by assumption) (by assumption) (by assumption)) | exact ok_shape (ok_alone fw (by assumption) (by assumption) (by assumption)) | (rw [fo.1]; decide) | exact at_in (Int.emod_nonneg _ (by decide)) (by rw [fo.1]; exact Int.emod_lt_of_pos _ (by decide)) | exact fo.2 _ (getI_mem (at_in (Int.emod_nonneg _ (by decide)) (by rw [fo.1]; exact Int.emod_lt_of_pos _ (by decide))))) | (first | decide | (refine at_in ?_ ?_ <;> omega) | (refine at_neg ?_ ?_ <;> omega)))))) ev_int (by first | (first | (rw [← ed_1]; exact ⟨mov_ok, mov_ok⟩) | (rw [← ed_1]; decide) | exact at_in (by decide) (by rw [fd]; decide) | (rw [← ed_1]; exact at_in (Int.emod_nonneg _ (by decide)) (Int.emod_lt_of_pos _ (by decide))) | (rw [← ed_42]; exact at_in (Int.emod_nonneg _ (by decide)) (Int.emod_lt_of_pos _ (by decide))) | exact ft.pre | exact (tt_word fw).pre | exact ⟨by omega, by omega⟩ | exact preB (Nat.le_trans fl.n (by decide)) | exact w_sp fw | exact w_spn fw fn | exact w_spq fw fl | exact t_sp ft | exact t_sp (tt_word fw) | exact sp_t ft | exact sp_t (tt_word fw) | exact t_low ft | exact t_low (tt_word fw) | exact w_x fw | exact ok_shape (ok_name fn ed_42 (by assumption) (by assumption) (by assumption)) | exact ok_shape (ok_ann fl (by assumption) (by assumption) (by assumption)) | exact ok_shape (ok_alone fw (by assumption) (by assumption) (by assumption)) | (rw [fo.1]; decide) | exact at_in (Int.emod_nonneg _ (by decide)) (by rw [fo.1]; exact Int.emod_lt_of_pos _ (by decide)) | exact fo.2 _ (getI_mem (at_in (Int.emod_nonneg _ (by decide)) (by rw [fo.1]; exact Int.emod_lt_of_pos _ (by decide))))) | (first | omega | decide | (show _ ≤ sizeLine; decide) | (show _ < sizeLine; decide)))) (atI_get (by first | (first | (rw [← ed_1]; exact ⟨mov_ok, mov_ok⟩) | (rw [← ed_1]; decide) | exact at_in (by decide) (by rw [fd]; decide) | (rw [← ed_1]; exact at_in (Int.emod_nonneg _ (by decide)) (Int.emod_lt_of_pos _ (by decide))) | (rw [← ed_42]; exact at_in (Int.emod_nonneg _ (by decide)) (Int.emod_lt_of_pos _ (by decide))) | exact ft.pre | exact (tt_word fw).pre | exact ⟨by omega, by omega⟩ | exact preB (Nat.le_trans fl.n (by decide)) | exact w_sp fw | exact w_spn fw fn | exact w_spq fw fl | exact t_sp ft | exact t_sp (tt_word fw) | exact sp_t ft | exact sp_t (tt_word fw) | exact t_low ft | exact t_low (tt_word fw) | exact w_x fw | exact ok_shape (ok_name fn ed_42 (by assumption) (by assumption) (by assumption)) | exact ok_shape (ok_ann fl (by assumption) (by assumption) (by assumption)) | exact ok_shape (ok_alone fw (by assumption) (by assumption) (by assumption)) | (rw [fo.1]; decide) | exact at_in (Int.emod_nonneg _ (by decide)) (by rw [fo.1]; exact Int.emod_lt_of_pos _ (by decide)) | exact fo.2 _ (getI_mem (at_in (Int.emod_nonneg _ (by decide)) (by rw [fo.1]; exact Int.emod_lt_of_pos _ (by decide))))) | (first | decide | (refine at_in ?_ ?_ <;> omega) | (refine at_neg ?_ ?_ <;> omega))))) (by first | (first | (rw [← ed_1]; exact ⟨mov_ok, mov_ok⟩) | (rw [← ed_1]; decide) | exact at_in (by decide) (by rw [fd]; decide) | (rw [← ed_1]; exact at_in (Int.emod_nonneg _ (by decide)) (Int.emod_lt_of_pos _ (by decide))) | (rw [← ed_42]; exact at_in (Int.emod_nonneg _ (by decide)) (Int.emod_lt_of_pos _ (by decide))) | exact ft.pre | exact (tt_word fw).pre | exact ⟨by omega, by omega⟩ | exact preB (Nat.le_trans fl.n (by decide)) | exact w_sp fw | exact w_spn fw fn | exact w_spq fw fl | exact t_sp ft | exact t_sp (tt_word fw) | exact sp_t ft | exact sp_t (tt_word fw) | exact t_low ft | exact t_low (tt_word fw) | exact w_x fw | exact ok_shape (ok_name fn ed_42 (by assumption) (by assumption) (by assumption)) | exact ok_shape (ok_ann fl (by assumption) (by assumption) (by assumption)) | exact ok_shape (ok_alone fw (by assumption) (by assumption) (by assumption)) | (rw [fo.1]; decide) | exact at_in (Int.emod_nonneg _ (by decide)) (by rw [fo.1]; exact Int.emod_lt_of_pos _ (by decide)) | exact fo.2 _ (getI_mem (at_in (Int.emod_nonneg _ (by decide)) (by rw [fo.1]; exact Int.emod_lt_of_pos _ (by decide))))) | (first | omega | decide))))) ?_ ?_
              · intro hb151 G152 H153 g150
                have h_script := up g150.g h_script
                have h_3 := up g150.g h_3
                have h_15 := up g150.g h_15
                have h_32 := up g150.g h_32
                have h_38 := up g150.g h_38
                have h_44 := up g150.g h_44
                have h_50 := up g150.g h_50
                have h_56 := up g150.g h_56
                have h_122 := up g150.g h_122
                have h_128 := up g150.g h_128
                have h_146 := up g150.g h_146
                have sg0 := sg0.trans g150.g
                have gr := gr.trans g150
                replace hM := condT hM hb151
                refine s_ret (K := K) gr.s ev_bl fun u Gr Hr gq hu => ?_
                exact hQ u Gr Hr (gr.trans gq) (by rw [(exitF_ret hMo0 (runL_ret hgo0 hx0 hM))]; exact hu)
              · intro hb151 G154 H155 g150
                have h_script := up g150.g h_script
                have h_3 := up g150.g h_3
                have h_15 := up g150.g h_15
                have h_32 := up g150.g h_32
                have h_38 := up g150.g h_38
                have h_44 := up g150.g h_44
                have h_50 := up g150.g h_50
                have h_56 := up g150.g h_56
                have h_122 := up g150.g h_122
                have h_128 := up g150.g h_128
                have h_146 := up g150.g h_146
                have sg0 := sg0.trans g150.g
                have gr := gr.trans g150
                replace hM := condF hM hb151
                refine s_next ?_
                exact ⟨_, (runL_go hgo0 hx0 hM), _, _, _, _, _, _, _, _, _, _, gr, sg0, rfl⟩
          · intro hb117 G156 H157 g116
            have h_script := up g116.g h_script
            have h_3 := up g116.g h_3
            have h_15 := up g116.g h_15
            have h_32 := up g116.g h_32
            have h_38 := up g116.g h_38
            have h_44 := up g116.g h_44
            have h_50 := up g116.g h_50
            have h_56 := up g116.g h_56
            have h_62 := up g116.g h_62
            have h_68 := up g116.g h_68
            have sg0 := sg0.trans g116.g
            have gr := gr.trans g116
            replace hM := condF hM hb117
            unfold m_law_14 at hM
            refine s_next ?_
            refine nx_mk ?_
            refine q_if gr.s (et_test (ev_neD (ev_call1 (ev_var rfl h_62) (by first | (first | (rw [← ed_1]; exact ⟨mov_ok, mov_ok⟩) | (rw [← ed_1]; decide) | exact at_in (by decide) (by rw [fd]; decide) | (rw [← ed_1]; exact at_in (Int.emod_nonneg _ (by decide)) (Int.emod_lt_of_pos _ (by decide))) | (rw [← ed_42]; exact at_in (Int.emod_nonneg _ (by decide)) (Int.emod_lt_of_pos _ (by decide))) | exact ft.pre | exact (tt_word fw).pre | exact ⟨by omega, by omega⟩ | exact preB (Nat.le_trans fl.n (by decide)) | exact w_sp fw | exact w_spn fw fn | exact w_spq fw fl | exact t_sp ft | exact t_sp (tt_word fw) | exact sp_t ft | exact sp_t (tt_word fw) | exact t_low ft | exact t_low (tt_word fw) | exact w_x fw | exact ok_shape (ok_name fn ed_42 (by assumption) (by assumption) (by assumption)) | exact ok_shape (ok_ann fl (by assumption) (by assumption) (by assumption)) | exact ok_shape (ok_alone fw (by assumption) (by assumption) (by assumption)) | (rw [fo.1]; decide) | exact at_in (Int.emod_nonneg _ (by decide)) (by rw [fo.1]; exact Int.emod_lt_of_pos _ (by decide)) | exact fo.2 _ (getI_mem (at_in (Int.emod_nonneg _ (by decide)) (by rw [fo.1]; exact Int.emod_lt_of_pos _ (by decide))))) | (first | omega | decide))) (ev_var rfl h_68) (by first | (first | (rw [← ed_1]; exact ⟨mov_ok, mov_ok⟩) | (rw [← ed_1]; decide) | exact at_in (by decide) (by rw [fd]; decide) | (rw [← ed_1]; exact at_in (Int.emod_nonneg _ (by decide)) (Int.emod_lt_of_pos _ (by decide))) | (rw [← ed_42]; exact at_in (Int.emod_nonneg _ (by decide)) (Int.emod_lt_of_pos _ (by decide))) | exact ft.pre | exact (tt_word fw).pre | exact ⟨by omega, by omega⟩ | exact preB (Nat.le_trans fl.n (by decide)) | exact w_sp fw | exact w_spn fw fn | exact w_spq fw fl | exact t_sp ft | exact t_sp (tt_word fw) | exact sp_t ft | exact sp_t (tt_word fw) | exact t_low ft | exact t_low (tt_word fw) | exact w_x fw | exact ok_shape (ok_name fn ed_42 (by assumption) (by assumption) (by assumption)) | exact ok_shape (ok_ann fl (by assumption) (by assumption) (by assumption)) | exact ok_shape (ok_alone fw (by assumption) (by assumption) (by assumption)) | (rw [fo.1]; decide) | exact at_in (Int.emod_nonneg _ (by decide)) (by rw [fo.1]; exact Int.emod_lt_of_pos _ (by decide)) | exact fo.2 _ (getI_mem (at_in (Int.emod_nonneg _ (by decide)) (by rw [fo.1]; exact Int.emod_lt_of_pos _ (by decide))))) | (first | omega | decide | (show _ ≤ sizeLine; decide) | (show _ < sizeLine; decide))))) ?_ ?_
            · intro hb159 G160 H161 g158
              have h_script := up g158.g h_script
              have h_3 := up g158.g h_3
              have h_15 := up g158.g h_15
              have h_32 := up g158.g h_32
              have h_38 := up g158.g h_38
              have h_44 := up g158.g h_44
              have h_50 := up g158.g h_50
              have h_56 := up g158.g h_56
              have h_62 := up g158.g h_62
              have h_68 := up g158.g h_68
              have sg0 := sg0.trans g158.g
              have gr := gr.trans g158
              replace hM := condT hM hb159
              refine s_ret (K := K) gr.s ev_bl fun u Gr Hr gq hu => ?_
              exact hQ u Gr Hr (gr.trans gq) (by rw [(exitF_ret hMo0 (runL_ret hgo0 hx0 hM))]; exact hu)
            · intro hb159 G162 H163 g158
              have h_script := up g158.g h_script
              have h_3 := up g158.g h_3
              have h_15 := up g158.g h_15
              have h_32 := up g158.g h_32
              have h_38 := up g158.g h_38
              have h_44 := up g158.g h_44
              have h_50 := up g158.g h_50
              have h_56 := up g158.g h_56
              have h_62 := up g158.g h_62
              have h_68 := up g158.g h_68
              have sg0 := sg0.trans g158.g
              have gr := gr.trans g158
              replace hM := condF hM hb159
              unfold m_law_13 at hM
              refine s_next ?_
              refine nx_mk ?_
              refine q_asg (K := K) gr.s (ev_lst (ea_cons (ev_addS (ev_var rfl h_62) ev_str (by first | (first | (rw [← ed_1]; exact ⟨mov_ok, mov_ok⟩) | (rw [← ed_1]; decide) | exact at_in (by decide) (by rw [fd]; decide) | (rw [← ed_1]; exact at_in (Int.emod_nonneg _ (by decide)) (Int.emod_lt_of_pos _ (by decide))) | (rw [← ed_42]; exact at_in (Int.emod_nonneg _ (by decide)) (Int.emod_lt_of_pos _ (by decide))) | exact ft.pre | exact (tt_word fw).pre | exact ⟨by omega, by omega⟩ | exact preB (Nat.le_trans fl.n (by decide)) | exact w_sp fw | exact w_spn fw fn | exact w_spq fw fl | exact t_sp ft | exact t_sp (tt_word fw) | exact sp_t ft | exact sp_t (tt_word fw) | exact t_low ft | exact t_low (tt_word fw) | exact w_x fw | exact ok_shape (ok_name fn ed_42 (by assumption) (by assumption) (by assumption)) | exact ok_shape (ok_ann fl (by assumption) (by assumption) (by assumption)) | exact ok_shape (ok_alone fw (by assumption) (by assumption) (by assumption)) | (rw [fo.1]; decide) | exact at_in (Int.emod_nonneg _ (by decide)) (by rw [fo.1]; exact Int.emod_lt_of_pos _ (by decide)) | exact fo.2 _ (getI_mem (at_in (Int.emod_nonneg _ (by decide)) (by rw [fo.1]; exact Int.emod_lt_of_pos _ (by decide))))) | (first | omega | decide | (show _ ≤ sizeLine; decide) | (show _ < sizeLine; decide)))) (ea_cons (ev_addS ev_str (ev_var rfl h_62) (by first | (first | (rw [← ed_1]; exact ⟨mov_ok, mov_ok⟩) | (rw [← ed_1]; decide) | exact at_in (by decide) (by rw [fd]; decide) | (rw [← ed_1]; exact at_in (Int.emod_nonneg _ (by decide)) (Int.emod_lt_of_pos _ (by decide))) | (rw [← ed_42]; exact at_in (Int.emod_nonneg _ (by decide)) (Int.emod_lt_of_pos _ (by decide))) | exact ft.pre | exact (tt_word fw).pre | exact ⟨by omega, by omega⟩ | exact preB (Nat.le_trans fl.n (by decide)) | exact w_sp fw | exact w_spn fw fn | exact w_spq fw fl | exact t_sp ft | exact t_sp (tt_word fw) | exact sp_t ft | exact sp_t (tt_word fw) | exact t_low ft | exact t_low (tt_word fw) | exact w_x fw | exact ok_shape (ok_name fn ed_42 (by assumption) (by assumption) (by assumption)) | exact ok_shape (ok_ann fl (by assumption) (by assumption) (by assumption)) | exact ok_shape (ok_alone fw (by assumption) (by assumption) (by assumption)) | (rw [fo.1]; decide) | exact at_in (Int.emod_nonneg _ (by decide)) (by rw [fo.1]; exact Int.emod_lt_of_pos _ (by decide)) | exact fo.2 _ (getI_mem (at_in (Int.emod_nonneg _ (by decide)) (by rw [fo.1]; exact Int.emod_lt_of_pos _ (by decide))))) | (first | omega | decide | (show _ ≤ sizeLine; decide) | (show _ < sizeLine; decide)))) (ea_cons (ev_upper (ev_var rfl h_62) (by first | (first | (rw [← ed_1]; exact ⟨mov_ok, mov_ok⟩) | (rw [← ed_1]; decide) | exact at_in (by decide) (by rw [fd]; decide) | (rw [← ed_1]; exact at_in (Int.emod_nonneg _ (by decide)) (Int.emod_lt_of_pos _ (by decide))) | (rw [← ed_42]; exact at_in (Int.emod_nonneg _ (by decide)) (Int.emod_lt_of_pos _ (by decide))) | exact ft.pre | exact (tt_word fw).pre | exact ⟨by omega, by omega⟩ | exact preB (Nat.le_trans fl.n (by decide)) | exact w_sp fw | exact w_spn fw fn | exact w_spq fw fl | exact t_sp ft | exact t_sp (tt_word fw) | exact sp_t ft | exact sp_t (tt_word fw) | exact t_low ft | exact t_low (tt_word fw) | exact w_x fw | exact ok_shape (ok_name fn ed_42 (by assumption) (by assumption) (by assumption)) | exact ok_shape (ok_ann fl (by assumption) (by assumption) (by assumption)) | exact ok_shape (ok_alone fw (by assumption) (by assumption) (by assumption)) | (rw [fo.1]; decide) | exact at_in (Int.emod_nonneg _ (by decide)) (by rw [fo.1]; exact Int.emod_lt_of_pos _ (by decide)) | exact fo.2 _ (getI_mem (at_in (Int.emod_nonneg _ (by decide)) (by rw [fo.1]; exact Int.emod_lt_of_pos _ (by decide))))) | (first | omega | decide | (show _ ≤ sizeLine; decide) | (show _ < sizeLine; decide)))) (ea_cons (ev_addS (ev_var rfl h_38) ev_str (by first | (first | (rw [← ed_1]; exact ⟨mov_ok, mov_ok⟩) | (rw [← ed_1]; decide) | exact at_in (by decide) (by rw [fd]; decide) | (rw [← ed_1]; exact at_in (Int.emod_nonneg _ (by decide)) (Int.emod_lt_of_pos _ (by decide))) | (rw [← ed_42]; exact at_in (Int.emod_nonneg _ (by decide)) (Int.emod_lt_of_pos _ (by decide))) | exact ft.pre | exact (tt_word fw).pre | exact ⟨by omega, by omega⟩ | exact preB (Nat.le_trans fl.n (by decide)) | exact w_sp fw | exact w_spn fw fn | exact w_spq fw fl | exact t_sp ft | exact t_sp (tt_word fw) | exact sp_t ft | exact sp_t (tt_word fw) | exact t_low ft | exact t_low (tt_word fw) | exact w_x fw | exact ok_shape (ok_name fn ed_42 (by assumption) (by assumption) (by assumption)) | exact ok_shape (ok_ann fl (by assumption) (by assumption) (by assumption)) | exact ok_shape (ok_alone fw (by assumption) (by assumption) (by assumption)) | (rw [fo.1]; decide) | exact at_in (Int.emod_nonneg _ (by decide)) (by rw [fo.1]; exact Int.emod_lt_of_pos _ (by decide)) | exact fo.2 _ (getI_mem (at_in (Int.emod_nonneg _ (by decide)) (by rw [fo.1]; exact Int.emod_lt_of_pos _ (by decide))))) | (first | omega | decide | (show _ ≤ sizeLine; decide) | (show _ < sizeLine; decide)))) (ea_cons ev_str (ea_cons ev_str (ea_cons ev_str (ea_cons ev_str (ea_cons ev_str ea_nil))))))))) (by first | (first | (rw [← ed_1]; exact ⟨mov_ok, mov_ok⟩) | (rw [← ed_1]; decide) | exact at_in (by decide) (by rw [fd]; decide) | (rw [← ed_1]; exact at_in (Int.emod_nonneg _ (by decide)) (Int.emod_lt_of_pos _ (by decide))) | (rw [← ed_42]; exact at_in (Int.emod_nonneg _ (by decide)) (Int.emod_lt_of_pos _ (by decide))) | exact ft.pre | exact (tt_word fw).pre | exact ⟨by omega, by omega⟩ | exact preB (Nat.le_trans fl.n (by decide)) | exact w_sp fw | exact w_spn fw fn | exact w_spq fw fl | exact t_sp ft | exact t_sp (tt_word fw) | exact sp_t ft | exact sp_t (tt_word fw) | exact t_low ft | exact t_low (tt_word fw) | exact w_x fw | exact ok_shape (ok_name fn ed_42 (by assumption) (by assumption) (by assumption)) | exact ok_shape (ok_ann fl (by assumption) (by assumption) (by assumption)) | exact ok_shape (ok_alone fw (by assumption) (by assumption) (by assumption)) | (rw [fo.1]; decide) | exact at_in (Int.emod_nonneg _ (by decide)) (by rw [fo.1]; exact Int.emod_lt_of_pos _ (by decide)) | exact fo.2 _ (getI_mem (at_in (Int.emod_nonneg _ (by decide)) (by rw [fo.1]; exact Int.emod_lt_of_pos _ (by decide))))) | (first | (show _ ≤ sizeLine; decide) | (simp only [List.length_cons, List.length_nil, List.length_append, sizeLine_eq]; omega) | (fail)))) fun w_165 G168 H169 g167 (h_166 : rep K ((d_36 ++ (" " : Str)) :: (((" " : Str) ++ d_36) :: ((Txt.upper d_36) :: ((d_36 ++ ("  x" : Str)) :: (("announce x" : Str) :: (("announce" : Str) :: (("focus" : Str) :: (("" : Str) :: (("run" : Str) :: ([] : List Str)))))))))) w_165 G168) => ?_
              have h_script := up g167.g h_script
              have h_3 := up g167.g h_3
              have h_15 := up g167.g h_15
              have h_32 := up g167.g h_32
              have h_38 := up g167.g h_38
              have h_44 := up g167.g h_44
              have h_50 := up g167.g h_50
              have h_56 := up g167.g h_56
              have h_62 := up g167.g h_62
              have h_68 := up g167.g h_68
              have sg0 := sg0.trans g167.g
              have gr := gr.trans g167
              generalize ed_164 : ((d_36 ++ (" " : Str)) :: (((" " : Str) ++ d_36) :: ((Txt.upper d_36) :: ((d_36 ++ ("  x" : Str)) :: (("announce x" : Str) :: (("announce" : Str) :: (("focus" : Str) :: (("" : Str) :: (("run" : Str) :: ([] : List Str)))))))))) = d_164 at h_166 hM
              unfold m_law_12 at hM
              first | (have fo : d_164.length = 9 ∧ ∀ x ∈ d_164, PreT x := by (rw [← ed_164]; (first | exact ⟨rfl, odd9_len fw ft.n ft.a⟩ | exact ⟨rfl, odd9_len fw (tt_word fw).n (tt_word fw).a⟩))) | (have fo : d_164.length = 12 ∧ ∀ x ∈ d_164, PreT x := by (rw [← ed_164]; exact ⟨by rw [List.length_append, fo.1]; rfl, odd12_len fo.2⟩))
              refine q_asg (K := K) gr.s (ev_cat (ev_var rfl h_166) (ev_lst (ea_cons ev_str (ea_cons ev_str (ea_cons ev_str ea_nil))) (by first | (first | (rw [← ed_1]; exact ⟨mov_ok, mov_ok⟩) | (rw [← ed_1]; decide) | exact at_in (by decide) (by rw [fd]; decide) | (rw [← ed_1]; exact at_in (Int.emod_nonneg _ (by decide)) (Int.emod_lt_of_pos _ (by decide))) | (rw [← ed_42]; exact at_in (Int.emod_nonneg _ (by decide)) (Int.emod_lt_of_pos _ (by decide))) | exact ft.pre | exact (tt_word fw).pre | exact ⟨by omega, by omega⟩ | exact preB (Nat.le_trans fl.n (by decide)) | exact w_sp fw | exact w_spn fw fn | exact w_spq fw fl | exact t_sp ft | exact t_sp (tt_word fw) | exact sp_t ft | exact sp_t (tt_word fw) | exact t_low ft | exact t_low (tt_word fw) | exact w_x fw | exact ok_shape (ok_name fn ed_42 (by assumption) (by assumption) (by assumption)) | exact ok_shape (ok_ann fl (by assumption) (by assumption) (by assumption)) | exact ok_shape (ok_alone fw (by assumption) (by assumption) (by assumption)) | (rw [fo.1]; decide) | exact at_in (Int.emod_nonneg _ (by decide)) (by rw [fo.1]; exact Int.emod_lt_of_pos _ (by decide)) | exact fo.2 _ (getI_mem (at_in (Int.emod_nonneg _ (by decide)) (by rw [fo.1]; exact Int.emod_lt_of_pos _ (by decide))))) | (first | (show _ ≤ sizeLine; decide) | (simp only [List.length_cons, List.length_nil, List.length_append, sizeLine_eq]; omega) | (fail)))) (by first | (first | (rw [← ed_1]; exact ⟨mov_ok, mov_ok⟩) | (rw [← ed_1]; decide) | exact at_in (by decide) (by rw [fd]; decide) | (rw [← ed_1]; exact at_in (Int.emod_nonneg _ (by decide)) (Int.emod_lt_of_pos _ (by decide))) | (rw [← ed_42]; exact at_in (Int.emod_nonneg _ (by decide)) (Int.emod_lt_of_pos _ (by decide))) | exact ft.pre | exact (tt_word fw).pre | exact ⟨by omega, by omega⟩ | exact preB (Nat.le_trans fl.n (by decide)) | exact w_sp fw | exact w_spn fw fn | exact w_spq fw fl | exact t_sp ft | exact t_sp (tt_word fw) | exact sp_t ft | exact sp_t (tt_word fw) | exact t_low ft | exact t_low (tt_word fw) | exact w_x fw | exact ok_shape (ok_name fn ed_42 (by assumption) (by assumption) (by assumption)) | exact ok_shape (ok_ann fl (by assumption) (by assumption) (by assumption)) | exact ok_shape (ok_alone fw (by assumption) (by assumption) (by assumption)) | (rw [fo.1]; decide) | exact at_in (Int.emod_nonneg _ (by decide)) (by rw [fo.1]; exact Int.emod_lt_of_pos _ (by decide)) | exact fo.2 _ (getI_mem (at_in (Int.emod_nonneg _ (by decide)) (by rw [fo.1]; exact Int.emod_lt_of_pos _ (by decide))))) | (first | omega | decide | (show _ ≤ sizeLine; decide) | (show _ < sizeLine; decide)))) fun w_171 G174 H175 g173 (h_172 : rep K (d_164 ++ (("focusNext a" : Str) :: (("announce \"a" : Str) :: (("announce \"\"\"" : Str) :: ([] : List Str))))) w_171 G174) => ?_
              have h_script := up g173.g h_script
              have h_3 := up g173.g h_3
              have h_15 := up g173.g h_15
              have h_32 := up g173.g h_32
              have h_38 := up g173.g h_38
              have h_44 := up g173.g h_44
              have h_50 := up g173.g h_50
              have h_56 := up g173.g h_56
              have h_62 := up g173.g h_62
              have h_68 := up g173.g h_68
              have sg0 := sg0.trans g173.g
              have gr := gr.trans g173
              generalize ed_170 : (d_164 ++ (("focusNext a" : Str) :: (("announce \"a" : Str) :: (("announce \"\"\"" : Str) :: ([] : List Str))))) = d_170 at h_172 hM
              unfold m_law_11 at hM
              first | (have fo : d_170.length = 9 ∧ ∀ x ∈ d_170, PreT x := by (rw [← ed_170]; (first | exact ⟨rfl, odd9_len fw ft.n ft.a⟩ | exact ⟨rfl, odd9_len fw (tt_word fw).n (tt_word fw).a⟩))) | (have fo : d_170.length = 12 ∧ ∀ x ∈ d_170, PreT x := by (rw [← ed_170]; exact ⟨by rw [List.length_append, fo.1]; rfl, odd12_len fo.2⟩))
              refine s_if gr.s (et_test (ev_notN nn_pair (ev_call1 (ev_ixL (ev_var rfl h_172) (ev_mod (ev_int1 (ev_ixL (ev_var rfl h_32) ev_int (atI_get (by first | (first | (rw [← ed_1]; exact ⟨mov_ok, mov_ok⟩) | (rw [← ed_1]; decide) | exact at_in (by decide) (by rw [fd]; decide) | (rw [← ed_1]; exact at_in (Int.emod_nonneg _ (by decide)) (Int.emod_lt_of_pos _ (by decide))) | (rw [← ed_42]; exact at_in (Int.emod_nonneg _ (by decide)) (Int.emod_lt_of_pos _ (by decide))) | exact ft.pre | exact (tt_word fw).pre | exact ⟨by omega, by omega⟩ | exact preB (Nat.le_trans fl.n (by decide)) | exact w_sp fw | exact w_spn fw fn | exact w_spq fw fl | exact t_sp ft | exact t_sp (tt_word fw) | exact sp_t ft | exact sp_t (tt_word fw) | exact t_low ft | exact t_low (tt_word fw) | exact w_x fw | exact ok_shape (ok_name fn ed_42 (by assumption) (by assumption) (by assumption)) | exact ok_shape (ok_ann fl (by assumption) (by assumption) (by assumption)) | exact ok_shape (ok_alone fw (by assumption) (by assumption) (by assumption)) | (rw [fo.1]; decide) | exact at_in (Int.emod_nonneg _ (by decide)) (by rw [fo.1]; exact Int.emod_lt_of_pos _ (by decide)) | exact fo.2 _ (getI_mem (at_in (Int.emod_nonneg _ (by decide)) (by rw [fo.1]; exact Int.emod_lt_of_pos _ (by decide))))) | (first | decide | (refine at_in ?_ ?_ <;> omega) | (refine at_neg ?_ ?_ <;> omega)))))) ev_int (by first | (first | (rw [← ed_1]; exact ⟨mov_ok, mov_ok⟩) | (rw [← ed_1]; decide) | exact at_in (by decide) (by rw [fd]; decide) | (rw [← ed_1]; exact at_in (Int.emod_nonneg _ (by decide)) (Int.emod_lt_of_pos _ (by decide))) | (rw [← ed_42]; exact at_in (Int.emod_nonneg _ (by decide)) (Int.emod_lt_of_pos _ (by decide))) | exact ft.pre | exact (tt_word fw).pre | exact ⟨by omega, by omega⟩ | exact preB (Nat.le_trans fl.n (by decide)) | exact w_sp fw | exact w_spn fw fn | exact w_spq fw fl | exact t_sp ft | exact t_sp (tt_word fw) | exact sp_t ft | exact sp_t (tt_word fw) | exact t_low ft | exact t_low (tt_word fw) | exact w_x fw | exact ok_shape (ok_name fn ed_42 (by assumption) (by assumption) (by assumption)) | exact ok_shape (ok_ann fl (by assumption) (by assumption) (by assumption)) | exact ok_shape (ok_alone fw (by assumption) (by assumption) (by assumption)) | (rw [fo.1]; decide) | exact at_in (Int.emod_nonneg _ (by decide)) (by rw [fo.1]; exact Int.emod_lt_of_pos _ (by decide)) | exact fo.2 _ (getI_mem (at_in (Int.emod_nonneg _ (by decide)) (by rw [fo.1]; exact Int.emod_lt_of_pos _ (by decide))))) | (first | omega | decide | (show _ ≤ sizeLine; decide) | (show _ < sizeLine; decide)))) (atI_get (by first | (first | (rw [← ed_1]; exact ⟨mov_ok, mov_ok⟩) | (rw [← ed_1]; decide) | exact at_in (by decide) (by rw [fd]; decide) | (rw [← ed_1]; exact at_in (Int.emod_nonneg _ (by decide)) (Int.emod_lt_of_pos _ (by decide))) | (rw [← ed_42]; exact at_in (Int.emod_nonneg _ (by decide)) (Int.emod_lt_of_pos _ (by decide))) | exact ft.pre | exact (tt_word fw).pre | exact ⟨by omega, by omega⟩ | exact preB (Nat.le_trans fl.n (by decide)) | exact w_sp fw | exact w_spn fw fn | exact w_spq fw fl | exact t_sp ft | exact t_sp (tt_word fw) | exact sp_t ft | exact sp_t (tt_word fw) | exact t_low ft | exact t_low (tt_word fw) | exact w_x fw | exact ok_shape (ok_name fn ed_42 (by assumption) (by assumption) (by assumption)) | exact ok_shape (ok_ann fl (by assumption) (by assumption) (by assumption)) | exact ok_shape (ok_alone fw (by assumption) (by assumption) (by assumption)) | (rw [fo.1]; decide) | exact at_in (Int.emod_nonneg _ (by decide)) (by rw [fo.1]; exact Int.emod_lt_of_pos _ (by decide)) | exact fo.2 _ (getI_mem (at_in (Int.emod_nonneg _ (by decide)) (by rw [fo.1]; exact Int.emod_lt_of_pos _ (by decide))))) | (first | decide | (refine at_in ?_ ?_ <;> omega) | (refine at_neg ?_ ?_ <;> omega))))) (by first | (first | (rw [← ed_1]; exact ⟨mov_ok, mov_ok⟩) | (rw [← ed_1]; decide) | exact at_in (by decide) (by rw [fd]; decide) | (rw [← ed_1]; exact at_in (Int.emod_nonneg _ (by decide)) (Int.emod_lt_of_pos _ (by decide))) | (rw [← ed_42]; exact at_in (Int.emod_nonneg _ (by decide)) (Int.emod_lt_of_pos _ (by decide))) | exact ft.pre | exact (tt_word fw).pre | exact ⟨by omega, by omega⟩ | exact preB (Nat.le_trans fl.n (by decide)) | exact w_sp fw | exact w_spn fw fn | exact w_spq fw fl | exact t_sp ft | exact t_sp (tt_word fw) | exact sp_t ft | exact sp_t (tt_word fw) | exact t_low ft | exact t_low (tt_word fw) | exact w_x fw | exact ok_shape (ok_name fn ed_42 (by assumption) (by assumption) (by assumption)) | exact ok_shape (ok_ann fl (by assumption) (by assumption) (by assumption)) | exact ok_shape (ok_alone fw (by assumption) (by assumption) (by assumption)) | (rw [fo.1]; decide) | exact at_in (Int.emod_nonneg _ (by decide)) (by rw [fo.1]; exact Int.emod_lt_of_pos _ (by decide)) | exact fo.2 _ (getI_mem (at_in (Int.emod_nonneg _ (by decide)) (by rw [fo.1]; exact Int.emod_lt_of_pos _ (by decide))))) | (first | omega | decide))))) ?_ ?_
              · intro hb177 G178 H179 g176
                have h_script := up g176.g h_script
                have h_3 := up g176.g h_3
                have h_15 := up g176.g h_15
                have h_32 := up g176.g h_32
                have h_38 := up g176.g h_38
                have h_44 := up g176.g h_44
                have h_50 := up g176.g h_50
                have h_56 := up g176.g h_56
                have h_62 := up g176.g h_62
                have h_68 := up g176.g h_68
                have h_172 := up g176.g h_172
                have sg0 := sg0.trans g176.g
                have gr := gr.trans g176
                replace hM := condT hM hb177
                refine s_ret (K := K) gr.s ev_bl fun u Gr Hr gq hu => ?_
                exact hQ u Gr Hr (gr.trans gq) (by rw [(exitF_ret hMo0 (runL_ret hgo0 hx0 hM))]; exact hu)
              · intro hb177 G180 H181 g176
                have h_script := up g176.g h_script
                have h_3 := up g176.g h_3
                have h_15 := up g176.g h_15
                have h_32 := up g176.g h_32
                have h_38 := up g176.g h_38
                have h_44 := up g176.g h_44
                have h_50 := up g176.g h_50
                have h_56 := up g176.g h_56
                have h_62 := up g176.g h_62
                have h_68 := up g176.g h_68
                have h_172 := up g176.g h_172
                have sg0 := sg0.trans g176.g
                have gr := gr.trans g176
                replace hM := condF hM hb177
                refine s_next ?_
                exact ⟨_, (runL_go hgo0 hx0 hM), _, _, _, _, _, _, _, _, _, _, gr, sg0, rfl⟩
      · rintro σ_0 H_0 ⟨st_0, hgo0, G182, o_21, o_22, o_23, o_24, o_25, o_26, o_27, o_28, o_29, gr, sg0, rfl⟩
        have h_script := up sg0 h_script
        have h_3 := up sg0 h_3
        rw [rgs_take0] at hgo0
        rw [hgo0, exitF_go] at hM
        unfold m_law_24 at hM
        refine s_ret (K := K) gr.s ev_bl fun u Gr Hr gq hu => ?_
        exact hQ u Gr Hr (gr.trans gq) (by rw [hM]; exact hu)
end
section
variable [Tb]

theorem odd_go {d : List Int} {w t : Str} {due : Option (Str × Str)} (h : okW w t due = true) : m_law_4 d w t due = Step.go () := by
  unfold okW at h
  rw [Bool.and_eq_true, Bool.and_eq_true] at h
  unfold m_law_4
  rw [h.1.1]
  show m_law_1 d (odd9 w t ++ odd3) = Step.go ()
  unfold m_law_1
  have hm : getI (odd9 w t ++ odd3) (getI d 2 % 12) ∈ odd9 w t ++ odd3 := getI_mem (at_in (Int.emod_nonneg _ (by decide)) (Int.emod_lt_of_pos _ (by decide)))
  have hi := List.all_eq_true.mp h.2 _ hm
  generalize m_command_of _ = o at hi
  cases o with
  | none => rfl
  | some x => cases hi
theorem law_true (ns : List Int) (h : ns.length ≤ 63) : m_law ⟨ns⟩ = true := by
  show cond (!eqB k_MOVEMENTS k_MOVEMENTS) false (exitF (runL (m_law_23 ⟨ns⟩ ⟨k_MOVEMENTS⟩) () (rgs 0 (5 : Int))) m_law_24) = true
  rw [eqB_self, runL_all fun k _ => ?_]
  · rfl
  · show m_law_21 ⟨ns⟩ ⟨k_MOVEMENTS⟩ k (m__law_draws (m__law_cell ⟨ns⟩ k) 6) = Step.go ()
    generalize m__law_draws (m__law_cell ⟨ns⟩ k) 6 = d
    have hw : getI WORDS (getI d 0 % 12) ∈ WORDS := getI_mem (at_in (Int.emod_nonneg _ (by decide)) (Int.emod_lt_of_pos _ (by decide)))
    have hn : getI NAMES (getI d 1 % 10) ∈ NAMES := getI_mem (at_in (Int.emod_nonneg _ (by decide)) (Int.emod_lt_of_pos _ (by decide)))
    have hl := lab_text (m__law_cell ⟨ns⟩ (10 + k))
    show m_law_17 d (getI WORDS (getI d 0 % 12)) NAMES (getI NAMES (getI d 1 % 10)) (m__law_text (m__law_cell ⟨ns⟩ (10 + k)) 40) = Step.go ()
    generalize getI WORDS (getI d 0 % 12) = w at hw
    generalize getI NAMES (getI d 1 % 10) = n at hn
    generalize m__law_text (m__law_cell ⟨ns⟩ (10 + k)) 40 = l at hl
    unfold m_law_17
    unfold m_law_16
    cases q : memB w (Tpl.mk (("focus" : Str) :: (("openLayer" : Str) :: (("run" : Str) :: ([] : List Str))))).l with
    | true => exact odd_go (ok_name hn rfl q rfl rfl)
    | false =>
      show m_law_15 d w l (some (w, ("" : Str))) = Step.go ()
      unfold m_law_15
      cases q2 : eqB w ("announce" : Str) with
      | true => exact odd_go (ok_ann hl q2 rfl rfl)
      | false => exact odd_go (ok_alone hw q q2 rfl)

end
theorem all_mk {l : PySem.W.OpenLaw} {w : World} {K : PySem.W.Frag} {h : Heap} {mg : Str → Option Value} {fa : Addr} (X : K.In h) (G : h.Ns mainGlobals mg) (hfa : mg "law" = some (.ref fa))
    {f0 : Addr} {od0 an0 : Option Addr} {sl0 : Array (Option Value)} {oc0 kV0 dc0 pm0 cd0 ct0 : Value}
    {f1 : Addr} {od1 an1 : Option Addr} {sl1 : Array (Option Value)} {oc1 kV1 dc1 pm1 cd1 ct1 : Value}
    {f2 : Addr} {od2 an2 : Option Addr} {sl2 : Array (Option Value)} {oc2 kV2 dc2 pm2 cd2 ct2 : Value}
    {f3 : Addr} {od3 an3 : Option Addr} {sl3 : Array (Option Value)} {oc3 kV3 dc3 pm3 cd3 ct3 : Value}
    {f4 : Addr} {od4 an4 : Option Addr} {sl4 : Array (Option Value)} {oc4 kV4 dc4 pm4 cd4 ct4 : Value}
    {f5 : Addr} {od5 an5 : Option Addr} {sl5 : Array (Option Value)} {oc5 kV5 dc5 pm5 cd5 ct5 : Value}
    {f6 : Addr} {od6 an6 : Option Addr} {sl6 : Array (Option Value)} {oc6 kV6 dc6 pm6 cd6 ct6 : Value}
    {f7 : Addr} {od7 an7 : Option Addr} {sl7 : Array (Option Value)} {oc7 kV7 dc7 pm7 cd7 ct7 : Value}
    {f8 : Addr} {od8 an8 : Option Addr} {sl8 : Array (Option Value)} {oc8 kV8 dc8 pm8 cd8 ct8 : Value}
    {f9 : Addr} {od9 an9 : Option Addr} {sl9 : Array (Option Value)} {oc9 kV9 dc9 pm9 cd9 ct9 : Value}
    {f10 : Addr} {od10 an10 : Option Addr} {sl10 : Array (Option Value)} {oc10 kV10 dc10 pm10 cd10 ct10 : Value}
    {f11 : Addr} {od11 an11 : Option Addr} {sl11 : Array (Option Value)} {oc11 kV11 dc11 pm11 cd11 ct11 : Value}
    {f12 : Addr} {od12 an12 : Option Addr} {sl12 : Array (Option Value)} {oc12 kV12 dc12 pm12 cd12 ct12 : Value}
    {q0 : Addr} {qd0 : Option Addr} {qi0 : Array Value} {qn0 : Nat} {qs0 : Array (Option Value)}
    {q1 : Addr} {qd1 : Option Addr} {qi1 : Array Value} {qn1 : Nat} {qs1 : Array (Option Value)}
    {q2 : Addr} {qd2 : Option Addr} {qi2 : Array Value} {qn2 : Nat} {qs2 : Array (Option Value)}
    {ci0 : Value}
    {ci1 : Value}
    {ci2 : Value}
    (a0 : PySem.W.nsIn K mainGlobals "is_name" = some (some (.ref f0)))
    (l0 : K.lookup f0 = some ⟨oc0, od0, .func (PySem.W.fnOf "is_name" "is_name" (defArgs s_is_name) (defBody s_is_name) (defScope s_is_name) .none kV0 dc0 pm0 an0 cd0 ct0), sl0⟩)
    (c0 : PySem.W.codeIn K cd0 "is_name" = true)
    (k0 : PySem.W.keepIn K (.ref f0) = true)
    (a1 : PySem.W.nsIn K mainGlobals "is_label" = some (some (.ref f1)))
    (l1 : K.lookup f1 = some ⟨oc1, od1, .func (PySem.W.fnOf "is_label" "is_label" (defArgs s_is_label) (defBody s_is_label) (defScope s_is_label) .none kV1 dc1 pm1 an1 cd1 ct1), sl1⟩)
    (c1 : PySem.W.codeIn K cd1 "is_label" = true)
    (k1 : PySem.W.keepIn K (.ref f1) = true)
    (a2 : PySem.W.nsIn K mainGlobals "quoted" = some (some (.ref f2)))
    (l2 : K.lookup f2 = some ⟨oc2, od2, .func (PySem.W.fnOf "quoted" "quoted" (defArgs s_quoted) (defBody s_quoted) (defScope s_quoted) .none kV2 dc2 pm2 an2 cd2 ct2), sl2⟩)
    (c2 : PySem.W.codeIn K cd2 "quoted" = true)
    (k2 : PySem.W.keepIn K (.ref f2) = true)
    (a3 : PySem.W.nsIn K mainGlobals "text_in" = some (some (.ref f3)))
    (l3 : K.lookup f3 = some ⟨oc3, od3, .func (PySem.W.fnOf "text_in" "text_in" (defArgs s_text_in) (defBody s_text_in) (defScope s_text_in) .none kV3 dc3 pm3 an3 cd3 ct3), sl3⟩)
    (c3 : PySem.W.codeIn K cd3 "text_in" = true)
    (k3 : PySem.W.keepIn K (.ref f3) = true)
    (a4 : PySem.W.nsIn K mainGlobals "unquoted" = some (some (.ref f4)))
    (l4 : K.lookup f4 = some ⟨oc4, od4, .func (PySem.W.fnOf "unquoted" "unquoted" (defArgs s_unquoted) (defBody s_unquoted) (defScope s_unquoted) .none kV4 dc4 pm4 an4 cd4 ct4), sl4⟩)
    (c4 : PySem.W.codeIn K cd4 "unquoted" = true)
    (k4 : PySem.W.keepIn K (.ref f4) = true)
    (a5 : PySem.W.nsIn K mainGlobals "_command_alone" = some (some (.ref f5)))
    (l5 : K.lookup f5 = some ⟨oc5, od5, .func (PySem.W.fnOf "_command_alone" "_command_alone" (defArgs s__command_alone) (defBody s__command_alone) (defScope s__command_alone) .none kV5 dc5 pm5 an5 cd5 ct5), sl5⟩)
    (c5 : PySem.W.codeIn K cd5 "_command_alone" = true)
    (k5 : PySem.W.keepIn K (.ref f5) = true)
    (a6 : PySem.W.nsIn K mainGlobals "_announcement" = some (some (.ref f6)))
    (l6 : K.lookup f6 = some ⟨oc6, od6, .func (PySem.W.fnOf "_announcement" "_announcement" (defArgs s__announcement) (defBody s__announcement) (defScope s__announcement) .none kV6 dc6 pm6 an6 cd6 ct6), sl6⟩)
    (c6 : PySem.W.codeIn K cd6 "_announcement" = true)
    (k6 : PySem.W.keepIn K (.ref f6) = true)
    (a7 : PySem.W.nsIn K mainGlobals "command_of" = some (some (.ref f7)))
    (l7 : K.lookup f7 = some ⟨oc7, od7, .func (PySem.W.fnOf "command_of" "command_of" (defArgs s_command_of) (defBody s_command_of) (defScope s_command_of) .none kV7 dc7 pm7 an7 cd7 ct7), sl7⟩)
    (c7 : PySem.W.codeIn K cd7 "command_of" = true)
    (k7 : PySem.W.keepIn K (.ref f7) = true)
    (a8 : PySem.W.nsIn K mainGlobals "_law_cell" = some (some (.ref f8)))
    (l8 : K.lookup f8 = some ⟨oc8, od8, .func (PySem.W.fnOf "_law_cell" "_law_cell" (defArgs s__law_cell) (defBody s__law_cell) (defScope s__law_cell) .none kV8 dc8 pm8 an8 cd8 ct8), sl8⟩)
    (c8 : PySem.W.codeIn K cd8 "_law_cell" = true)
    (k8 : PySem.W.keepIn K (.ref f8) = true)
    (a9 : PySem.W.nsIn K mainGlobals "_law_draws" = some (some (.ref f9)))
    (l9 : K.lookup f9 = some ⟨oc9, od9, .func (PySem.W.fnOf "_law_draws" "_law_draws" (defArgs s__law_draws) (defBody s__law_draws) (defScope s__law_draws) .none kV9 dc9 pm9 an9 cd9 ct9), sl9⟩)
    (c9 : PySem.W.codeIn K cd9 "_law_draws" = true)
    (k9 : PySem.W.keepIn K (.ref f9) = true)
    (a10 : PySem.W.nsIn K mainGlobals "_law_text" = some (some (.ref f10)))
    (l10 : K.lookup f10 = some ⟨oc10, od10, .func (PySem.W.fnOf "_law_text" "_law_text" (defArgs s__law_text) (defBody s__law_text) (defScope s__law_text) .none kV10 dc10 pm10 an10 cd10 ct10), sl10⟩)
    (c10 : PySem.W.codeIn K cd10 "_law_text" = true)
    (k10 : PySem.W.keepIn K (.ref f10) = true)
    (a11 : PySem.W.nsIn K mainGlobals "_law_quoted" = some (some (.ref f11)))
    (l11 : K.lookup f11 = some ⟨oc11, od11, .func (PySem.W.fnOf "_law_quoted" "_law_quoted" (defArgs s__law_quoted) (defBody s__law_quoted) (defScope s__law_quoted) .none kV11 dc11 pm11 an11 cd11 ct11), sl11⟩)
    (c11 : PySem.W.codeIn K cd11 "_law_quoted" = true)
    (k11 : PySem.W.keepIn K (.ref f11) = true)
    (a12 : PySem.W.nsIn K mainGlobals "law" = some (some (.ref f12)))
    (l12 : K.lookup f12 = some ⟨oc12, od12, .func (PySem.W.fnOf "law" "law" (defArgs s_law) (defBody s_law) (defScope s_law) .none kV12 dc12 pm12 an12 cd12 ct12), sl12⟩)
    (c12 : PySem.W.codeIn K cd12 "law" = true)
    (k12 : PySem.W.keepIn K (.ref f12) = true)
    (qa0 : PySem.W.nsIn K mainGlobals "MOVEMENTS" = some (some (.ref q0)))
    (ql0 : K.lookup q0 = some ⟨.type "tuple", qd0, .seq qi0 qn0, qs0⟩)
    (qv0 : Vals ([V.str ("focusNext" : Str), V.str ("focusPrevious" : Str), V.str ("nextItem" : Str), V.str ("previousItem" : Str), V.str ("firstItem" : Str), V.str ("lastItem" : Str)] : List V) qi0.toList)
    (qa1 : PySem.W.nsIn K mainGlobals "_OTHER_WORDS_ALONE" = some (some (.ref q1)))
    (ql1 : K.lookup q1 = some ⟨.type "tuple", qd1, .seq qi1 qn1, qs1⟩)
    (qv1 : Vals ([V.str ("closeTopLayer" : Str), V.str ("activate" : Str)] : List V) qi1.toList)
    (qa2 : PySem.W.nsIn K mainGlobals "_WORDS_WITH_NAME" = some (some (.ref q2)))
    (ql2 : K.lookup q2 = some ⟨.type "tuple", qd2, .seq qi2 qn2, qs2⟩)
    (qv2 : Vals ([V.str ("focus" : Str), V.str ("openLayer" : Str), V.str ("run" : Str)] : List V) qi2.toList)
    (ca0 : PySem.W.nsIn K mainGlobals "_NAME_CHARACTERS" = some (some ci0))
    (cv0 : RelV (.str ("abcdefghijklmnopqrstuvwxyz0123456789._-" : Str)) ci0)
    (ca1 : PySem.W.nsIn K mainGlobals "_LONGEST_NAME" = some (some ci1))
    (cv1 : RelV (.int 8) ci1)
    (ca2 : PySem.W.nsIn K mainGlobals "_LONGEST_LABEL" = some (some ci2))
    (cv2 : RelV (.int 40) ci2)
    (z0 : PySem.W.nsIn K mainGlobals "all" = some none)
    (z1 : PySem.W.nsIn K mainGlobals "int" = some none)
    (z2 : PySem.W.nsIn K mainGlobals "isinstance" = some none)
    (z3 : PySem.W.nsIn K mainGlobals "len" = some none)
    (z4 : PySem.W.nsIn K mainGlobals "range" = some none)
    (z5 : PySem.W.nsIn K mainGlobals "str" = some none)
    {tc0 tt0 : Addr} {q : Program}
    (tr0 : ∃ e, (recsOf q).find? (fun r => r.name == ("is_name" : Str)) = some e)
    (ti0 : PySem.W.tabIn K "is_name" = some (tc0, tt0))
    (tn0 : K.lookup tt0 = none)
    (tk0 : cd0 = .ref tc0)
    {tc1 tt1 : Addr}
    (tr1 : ∃ e, (recsOf q).find? (fun r => r.name == ("is_label" : Str)) = some e)
    (ti1 : PySem.W.tabIn K "is_label" = some (tc1, tt1))
    (tn1 : K.lookup tt1 = none)
    (tk1 : cd1 = .ref tc1)
    : ∃ (fd : FuncData) (cs : List (Addr × Addr)) (sp : Sp), (∀ p ∈ cs, ∃ x e, (recsOf q).find? (fun r => r.name == x) = some e ∧ PySem.W.tabIn K x = some p) ∧ (∀ p ∈ cs, K.lookup p.2 = none) ∧ (∀ (s : Shared) (u : Value), BindsTo s fd ⟨[u], []⟩ [("script", u)]) ∧
      (∀ (H : Hp) (a : Addr) (ns : List Int), ns.length ≤ 63 → (∀ p ∈ cs, H p.2 = some (.tbl #[])) → SqL K H a (ns.map V.int) → sp [.ref a] H (fun v _ => v = .bl true) fun _ _ _ => False) ∧
      ∀ base : Heap, K.In base → base.Ns mainGlobals mg → (∀ p ∈ cs, GxR.TabB base mg p.1 p.2) → FnOk l.prog w K mg base CX0 6 fa fd ["script"] sp := by
  letI tbI : Tb := ⟨[tt0, tt1]⟩
  have e := hfa.symm.trans (PySem.W.mg_of X G a12)
  cases e
  have F0 := fun_mk (st := s_is_name) l0 c0 k0
  have b0 := F0.binds (ps := ["thing"]) fun _ _ _ _ _ _ us hl => match us, hl with | [_], _ => rfl
  have F1 := fun_mk (st := s_is_label) l1 c1 k1
  have b1 := F1.binds (ps := ["thing"]) fun _ _ _ _ _ _ us hl => match us, hl with | [_], _ => rfl
  have F2 := fun_mk (st := s_quoted) l2 c2 k2
  have b2 := F2.binds (ps := ["label"]) fun _ _ _ _ _ _ us hl => match us, hl with | [_], _ => rfl
  have F3 := fun_mk (st := s_text_in) l3 c3 k3
  have b3 := F3.binds (ps := ["quotation"]) fun _ _ _ _ _ _ us hl => match us, hl with | [_], _ => rfl
  have F4 := fun_mk (st := s_unquoted) l4 c4 k4
  have b4 := F4.binds (ps := ["text"]) fun _ _ _ _ _ _ us hl => match us, hl with | [_], _ => rfl
  have F5 := fun_mk (st := s__command_alone) l5 c5 k5
  have b5 := F5.binds (ps := ["word"]) fun _ _ _ _ _ _ us hl => match us, hl with | [_], _ => rfl
  have F6 := fun_mk (st := s__announcement) l6 c6 k6
  have b6 := F6.binds (ps := ["rest"]) fun _ _ _ _ _ _ us hl => match us, hl with | [_], _ => rfl
  have F7 := fun_mk (st := s_command_of) l7 c7 k7
  have b7 := F7.binds (ps := ["text"]) fun _ _ _ _ _ _ us hl => match us, hl with | [_], _ => rfl
  have F8 := fun_mk (st := s__law_cell) l8 c8 k8
  have b8 := F8.binds (ps := ["script", "k"]) fun _ _ _ _ _ _ us hl => match us, hl with | [_, _], _ => rfl
  have F9 := fun_mk (st := s__law_draws) l9 c9 k9
  have b9 := F9.binds (ps := ["cell", "count"]) fun _ _ _ _ _ _ us hl => match us, hl with | [_, _], _ => rfl
  have F10 := fun_mk (st := s__law_text) l10 c10 k10
  have b10 := F10.binds (ps := ["cell", "most"]) fun _ _ _ _ _ _ us hl => match us, hl with | [_, _], _ => rfl
  have F11 := fun_mk (st := s__law_quoted) l11 c11 k11
  have b11 := F11.binds (ps := ["label"]) fun _ _ _ _ _ _ us hl => match us, hl with | [_], _ => rfl
  have F12 := fun_mk (st := s_law) l12 c12 k12
  have b12 := F12.binds (ps := ["script"]) fun _ _ _ _ _ _ us hl => match us, hl with | [_], _ => rfl
  refine ⟨?fd, [(tc0, tt0), (tc1, tt1)], p_law K, (List.forall_mem_cons.mpr ⟨⟨_, tr0.choose, tr0.choose_spec, ti0⟩, (List.forall_mem_cons.mpr ⟨⟨_, tr1.choose, tr1.choose_spec, ti1⟩, (fun _ h => by cases h)⟩)⟩), (List.forall_mem_cons.mpr ⟨tn0, (List.forall_mem_cons.mpr ⟨tn1, (fun _ h => by cases h)⟩)⟩), ?hb, fun H a ns hl hT hS => ?hsp, fun base _ _ TB => ?hF⟩
  case hF =>
    have T : Tx K mg base { f_is_name := f0, d_is_name := _, f_is_label := f1, d_is_label := _, f_quoted := f2, d_quoted := _, f_text_in := f3, d_text_in := _, f_unquoted := f4, d_unquoted := _, f__command_alone := f5, d__command_alone := _, f__announcement := f6, d__announcement := _, f_command_of := f7, d_command_of := _, f__law_cell := f8, d__law_cell := _, f__law_draws := f9, d__law_draws := _, f__law_text := f10, d__law_text := _, f__law_quoted := f11, d__law_quoted := _, f_law := fa, d_law := _, k_MOVEMENTS := q0, k__OTHER_WORDS_ALONE := q1, k__WORDS_WITH_NAME := q2, c_is_name := tc0, t_is_name := tt0, c_is_label := tc1, t_is_label := tt1 } := { F_is_name := F0, b_is_name := b0, g_is_name := PySem.W.mg_of X G a0, F_is_label := F1, b_is_label := b1, g_is_label := PySem.W.mg_of X G a1, F_quoted := F2, b_quoted := b2, g_quoted := PySem.W.mg_of X G a2, F_text_in := F3, b_text_in := b3, g_text_in := PySem.W.mg_of X G a3, F_unquoted := F4, b_unquoted := b4, g_unquoted := PySem.W.mg_of X G a4, F__command_alone := F5, b__command_alone := b5, g__command_alone := PySem.W.mg_of X G a5, F__announcement := F6, b__announcement := b6, g__announcement := PySem.W.mg_of X G a6, F_command_of := F7, b_command_of := b7, g_command_of := PySem.W.mg_of X G a7, F__law_cell := F8, b__law_cell := b8, g__law_cell := PySem.W.mg_of X G a8, F__law_draws := F9, b__law_draws := b9, g__law_draws := PySem.W.mg_of X G a9, F__law_text := F10, b__law_text := b10, g__law_text := PySem.W.mg_of X G a10, F__law_quoted := F11, b__law_quoted := b11, g__law_quoted := PySem.W.mg_of X G a11, F_law := F12, b_law := b12, g_law := PySem.W.mg_of X G a12, c_MOVEMENTS := PySem.W.mg_of X G qa0, r_MOVEMENTS := fun G => tpl_written (ks := k_MOVEMENTS) ql0 qv0, c__OTHER_WORDS_ALONE := PySem.W.mg_of X G qa1, r__OTHER_WORDS_ALONE := fun G => tpl_written (ks := k__OTHER_WORDS_ALONE) ql1 qv1, c__WORDS_WITH_NAME := PySem.W.mg_of X G qa2, r__WORDS_WITH_NAME := fun G => tpl_written (ks := k__WORDS_WITH_NAME) ql2 qv2, c__NAME_CHARACTERS := ⟨_, PySem.W.mg_of X G ca0, cv0⟩, c__LONGEST_NAME := ⟨_, PySem.W.mg_of X G ca1, cv1⟩, c__LONGEST_LABEL := ⟨_, PySem.W.mg_of X G ca2, cv2⟩, n_all := PySem.W.mg_none_of X G z0, n_int := PySem.W.mg_none_of X G z1, n_isinstance := PySem.W.mg_none_of X G z2, n_len := PySem.W.mg_none_of X G z3, n_range := PySem.W.mg_none_of X G z4, n_str := PySem.W.mg_none_of X G z5, C_is_name := tk0, TB_is_name := TB _ List.mem_cons_self, TM_is_name := List.mem_cons_self, C_is_label := tk1, TB_is_label := TB _ (.tail _ List.mem_cons_self), TM_is_label := (.tail _ List.mem_cons_self) }
    exact ok_law T
  case hb => exact fun s v => .of_eq rfl
  case hsp =>
    obtain ⟨g1, g2⟩ := law_start (H := H) (List.forall_mem_cons.mpr ⟨hT _ List.mem_cons_self, (List.forall_mem_cons.mpr ⟨hT _ (.tail _ List.mem_cons_self), (fun _ h => by cases h)⟩)⟩) hS
    exact ⟨⟨ns⟩, .ref a, strip H, rfl, g1, g2, hl, fun u G2 H2 _ r => by rw [law_true ns hl] at r; exact r⟩

end RL
open PySem PySem.W PyProof.Rows in
set_option maxRecDepth 100000 in
set_option maxHeartbeats 0 in
theorem PySem.Challenge.cw_keyfocus_k03_commands_holds : PySem.Challenge.rw_keyfocus_k03_commands.Holds := by
  w_on; o_law; k_head; (case hw => w_witness2)
  k_fill
  refine RL.walk_tabs (l := PySem.Challenge.rw_keyfocus_k03_commands) (lv := 6) (nm := 63) rfl (by decide) rfl ⟨rfl, by decide, by decide⟩ (fun w h Y => PySem.W.kIn_of Y) ?F
  case F =>
    intro w mg fa h KX G hmg
    refine' RL.all_mk KX G hmg ?a0 ?l0 ?c0 ?k0 ?a1 ?l1 ?c1 ?k1 ?a2 ?l2 ?c2 ?k2 ?a3 ?l3 ?c3 ?k3 ?a4 ?l4 ?c4 ?k4 ?a5 ?l5 ?c5 ?k5 ?a6 ?l6 ?c6 ?k6 ?a7 ?l7 ?c7 ?k7 ?a8 ?l8 ?c8 ?k8 ?a9 ?l9 ?c9 ?k9 ?a10 ?l10 ?c10 ?k10 ?a11 ?l11 ?c11 ?k11 ?a12 ?l12 ?c12 ?k12 ?qa0 ?ql0 ?qv0 ?qa1 ?ql1 ?qv1 ?qa2 ?ql2 ?qv2 ?ca0 ?cv0 ?ca1 ?cv1 ?ca2 ?cv2 ?z0 ?z1 ?z2 ?z3 ?z4 ?z5 ?tr0 ?ti0 ?tn0 ?tk0 ?tr1 ?ti1 ?tn1 ?tk1
    (case a0 => first | k_is | rfl)
    (case l0 => first | k_is | rfl)
    (case c0 => first | k_is | rfl)
    (case k0 => first | k_is | rfl)
    (case a1 => first | k_is | rfl)
    (case l1 => first | k_is | rfl)
    (case c1 => first | k_is | rfl)
    (case k1 => first | k_is | rfl)
    (case a2 => first | k_is | rfl)
    (case l2 => first | k_is | rfl)
    (case c2 => first | k_is | rfl)
    (case k2 => first | k_is | rfl)
    (case a3 => first | k_is | rfl)
    (case l3 => first | k_is | rfl)
    (case c3 => first | k_is | rfl)
    (case k3 => first | k_is | rfl)
    (case a4 => first | k_is | rfl)
    (case l4 => first | k_is | rfl)
    (case c4 => first | k_is | rfl)
    (case k4 => first | k_is | rfl)
    (case a5 => first | k_is | rfl)
    (case l5 => first | k_is | rfl)
    (case c5 => first | k_is | rfl)
    (case k5 => first | k_is | rfl)
    (case a6 => first | k_is | rfl)
    (case l6 => first | k_is | rfl)
    (case c6 => first | k_is | rfl)
    (case k6 => first | k_is | rfl)
    (case a7 => first | k_is | rfl)
    (case l7 => first | k_is | rfl)
    (case c7 => first | k_is | rfl)
    (case k7 => first | k_is | rfl)
    (case a8 => first | k_is | rfl)
    (case l8 => first | k_is | rfl)
    (case c8 => first | k_is | rfl)
    (case k8 => first | k_is | rfl)
    (case a9 => first | k_is | rfl)
    (case l9 => first | k_is | rfl)
    (case c9 => first | k_is | rfl)
    (case k9 => first | k_is | rfl)
    (case a10 => first | k_is | rfl)
    (case l10 => first | k_is | rfl)
    (case c10 => first | k_is | rfl)
    (case k10 => first | k_is | rfl)
    (case a11 => first | k_is | rfl)
    (case l11 => first | k_is | rfl)
    (case c11 => first | k_is | rfl)
    (case k11 => first | k_is | rfl)
    (case a12 => first | k_is | rfl)
    (case l12 => first | k_is | rfl)
    (case c12 => first | k_is | rfl)
    (case k12 => first | k_is | rfl)
    (case qa0 => first | k_is | rfl)
    (case ql0 => first | k_is | rfl)
    (case qv0 => exact (by repeat (first | exact PySem.Paired.nil | refine PySem.Paired.cons ⟨_, rfl⟩ ?_)))
    (case qa1 => first | k_is | rfl)
    (case ql1 => first | k_is | rfl)
    (case qv1 => exact (by repeat (first | exact PySem.Paired.nil | refine PySem.Paired.cons ⟨_, rfl⟩ ?_)))
    (case qa2 => first | k_is | rfl)
    (case ql2 => first | k_is | rfl)
    (case qv2 => exact (by repeat (first | exact PySem.Paired.nil | refine PySem.Paired.cons ⟨_, rfl⟩ ?_)))
    (case ca0 => first | k_is | rfl)
    (case cv0 => exact ⟨_, rfl⟩)
    (case ca1 => first | k_is | rfl)
    (case cv1 => exact ⟨_, rfl⟩)
    (case ca2 => first | k_is | rfl)
    (case cv2 => exact ⟨_, rfl⟩)
    (case z0 => first | k_is | rfl)
    (case z1 => first | k_is | rfl)
    (case z2 => first | k_is | rfl)
    (case z3 => first | k_is | rfl)
    (case z4 => first | k_is | rfl)
    (case z5 => first | k_is | rfl)
    (case tr0 => exact ⟨_, rfl⟩)
    (case ti0 => first | k_is | rfl)
    (case tn0 => first | k_is | rfl)
    (case tk0 => first | k_is | rfl)
    (case tr1 => exact ⟨_, rfl⟩)
    (case ti1 => first | k_is | rfl)
    (case tn1 => first | k_is | rfl)
    (case tk1 => first | k_is | rfl)
#print axioms PySem.Challenge.cw_keyfocus_k03_commands_holds