import PyProof.Rows.All
import Wide.All
import OpenK.AllK
import Wide.FinOn
import PyProof.EqAt
import PyProof.EqKinds
import PyProof.TupleCall
import HandS.ForMost
import HandS.ForExc
import HandS.Star
import HandS.Style
import HandS.AnyAll
import HandS.Strs
import HandS.ExcInit
import HandS.ExcIs
import HandS.ExcField
import HandS.ClsMeth
import KE.KExcIs
import HandS.Codes
import PyProof.StrOps2
import HandS.Text
import HandS.TupAny
import HandS.TupLe
import HandS.IsInst
import HandS.EndTab
import HandS.ReplaceLit
import HandS.ReplaceDef
import HandS.FStr
import HandS.ReplaceList
import HandS.Walk
import HandS.Deep
import HandS.StrMore
import HandS.StrSplit
import HandS.RaiseMore
import HandS.More
import HandS.Zip
import PyProof.ZipIter
import HandS.Zip0
import PyProof.EnumMake
import HandS.Conv
import PyProof.Rows.StrCut
import PyProof.Rows.StrNews2
import PyProof.StrLawsOcc
import HandS.TryMany
import PyProof.StrLawsTight
import PyProof.P3Eq
import KE.KIntText
import KE.IntTextLaws
import PyProof.Rows.StrFit
import PySem.Challenge.RW_keyfocus_k10_scripts
set_option Elab.async false
set_option linter.all false
set_option maxRecDepth 100000
set_option maxHeartbeats 2000000
/-! A layer of our own over HandS: what an expression is worth in typed data, told of a part G of the heap that never changes; the heap H at hand has G and what the def at hand may still change. -/
namespace RL
open PySem PySem.Spec PyProof.Rows L2

/-! ### heaps -/
theorem same_upd {H : Hp} {p : Addr} {o : HO} (h : H p = none) : Same H (upd H p o) := fun b u e => by
  rw [upd_ne (ne_of_none e h)]
  exact e
/-- the code objects' tables that may grow: their addresses -/
class Tb where
  ps : List Addr
def noTb (o : HO) : Prop := ∀ q, o ≠ .tbl q
theorem noTb_lst {xs : List V} : noTb (.lst xs) := fun q z => by cases z
theorem noTb_tup {xs : List V} : noTb (.tup xs) := fun q z => by cases z
section
variable [Tb]
/-- G's objects stand in H, and H has the tables -/
structure Sub (G H : Hp) : Prop where
  m : ∀ a o, G a = some o → H a = some o ∧ noTb o
  t : ∀ P ∈ Tb.ps, GxR.TabG H P
theorem Sub.get {G H : Hp} (s : Sub G H) : Same G H := fun a o h => (s.m a o h).1
instance {G H : Hp} : CoeFun (Sub G H) (fun _ => ∀ a o, G a = some o → H a = some o) := ⟨fun s => s.get⟩
theorem Sub.free {G H : Hp} (s : Sub G H) {a : Addr} (h : H a = none) : G a = none := s.get.free h
theorem un {G G' H : Hp} (a : Same G G') (s : Sub G' H) : Sub G H := ⟨fun b o h => s.m b o (a b o h), s.t⟩
/-- what is no table is kept -/
structure Kept (H H' : Hp) : Prop where
  k : ∀ a o, H a = some o → noTb o → H' a = some o
  fr : ∀ a, H' a = none → H a = none
theorem Kept.refl (H : Hp) : Kept H H := ⟨fun _ _ h _ => h, fun _ h => h⟩
theorem Kept.trans {H H1 H2 : Hp} (a : Kept H H1) (b : Kept H1 H2) : Kept H H2 := ⟨fun x o h n => b.k x o (a.k x o h n) n, fun x h => a.fr x (b.fr x h)⟩
theorem Kept.free {H H' : Hp} (k : Kept H H') {a : Addr} (h : H' a = none) : H a = none := k.fr a h
theorem Kept.l {H H' : Hp} (k : Kept H H') {a : Addr} {xs : List V} (h : H a = some (.lst xs)) : H' a = some (.lst xs) := k.k a _ h noTb_lst
theorem kept_upd {H : Hp} {p : Addr} {o : HO} (h : H p = none) : Kept H (upd H p o) := ⟨fun b u e _ => same_upd h b u e, fun b e => (same_upd h).free e⟩
theorem Kept.none {H H' : Hp} (k : Kept H H') {a : Addr} {o : HO} (h : H a = some o) : ∃ u, H' a = some u := by
  cases q : H' a with
  | none => rw [k.fr a q] at h; cases h
  | some u => exact ⟨u, rfl⟩
theorem tab_mut {H : Hp} {P p : Addr} {o : HO} (t : GxR.TabG H P) (hp : ∀ q, H p ≠ some (.tbl q)) : GxR.TabG (upd H p o) P := by
  obtain ⟨qs, e, k⟩ := t
  refine ⟨qs, ?_, k⟩
  rw [upd_ne fun z => hp qs (by rw [← z]; exact e)]
  exact e
theorem no_tab {H : Hp} {p : Addr} (h : H p = none) : ∀ q, H p ≠ some (.tbl q) := fun q z => by rw [h] at z; cases z
theorem Sub.keep {G H H' : Hp} (s : Sub G H) (k : Kept H H') (t : ∀ P ∈ Tb.ps, GxR.TabG H' P) : Sub G H' := ⟨fun a o h => ⟨k.k a o (s.m a o h).1 (s.m a o h).2, (s.m a o h).2⟩, t⟩
theorem sub_upd2 {G H : Hp} {p : Addr} {o : HO} (e : Sub G H) (h : G p = none) (hp : ∀ q, H p ≠ some (.tbl q)) : Sub G (upd H p o) := ⟨fun b u q => by
  rw [upd_ne (ne_of_none q h)]
  exact e.m b u q, fun P hP => tab_mut (e.t P hP) hp⟩
theorem sub_updB {G H : Hp} {p : Addr} {o : HO} (e : Sub G H) (hp : H p = none) (ho : noTb o) : Sub (upd G p o) (upd H p o) := ⟨fun b u q => by
  by_cases hb : b = p
  · subst hb
    rw [upd_same] at q ⊢
    cases q
    exact ⟨rfl, ho⟩
  · rw [upd_ne hb] at q ⊢
    exact e.m b u q, fun P hP => tab_mut (e.t P hP) (no_tab hp)⟩
structure Grow (G H G' H' : Hp) : Prop where
  g : Same G G'
  s : Sub G' H'
  h : Kept H H'
  f : ∀ a o, H a = some o → G a = none → G' a = none
theorem Grow.refl {G H : Hp} (e : Sub G H) : Grow G H G H := ⟨Same.refl _, e, Kept.refl _, fun _ _ _ h => h⟩
theorem Grow.trans {G H G1 H1 G2 H2 : Hp} (a : Grow G H G1 H1) (b : Grow G1 H1 G2 H2) : Grow G H G2 H2 :=
  ⟨a.g.trans b.g, b.s, a.h.trans b.h, fun x o h n => by
    obtain ⟨u, e⟩ := a.h.none h
    exact b.f x u e (a.f x o h n)⟩
theorem Grow.new {G H : Hp} (e : Sub G H) {p : Addr} {o : HO} (hp : H p = none) (ho : noTb o := by intro q z; cases z) : Grow G H (upd G p o) (upd H p o) :=
  ⟨same_upd (e.free hp), sub_updB e hp ho, kept_upd hp, fun a u ha hg => by
    rw [upd_ne (ne_of_none ha hp)]
    exact hg⟩
/-- an object that the entry does not know is changed -/
theorem Grow.mut {Ge He G H : Hp} (a : Grow Ge He G H) {p : Addr} {o : HO} (h0 : He p = none) (hg : G p = none) (ht : ∀ q, H p ≠ some (.tbl q)) : Grow Ge He G (upd H p o) :=
  ⟨a.g, sub_upd2 a.s hg ht, ⟨fun b u e n => by
    rw [upd_ne (ne_of_none e h0)]
    exact a.h.k b u e n, fun b e => by
    by_cases hb : b = p
    · rw [hb]; exact h0
    · rw [upd_ne hb] at e
      exact a.h.fr b e⟩, a.f⟩
theorem lst_no {H : Hp} {p : Addr} {xs : List V} (h : H p = some (.lst xs)) : ∀ q, H p ≠ some (.tbl q) := fun q z => by rw [h] at z; cases z
/-- such an object is from now on one of those that never change -/
theorem Grow.fix {Ge He G H : Hp} (a : Grow Ge He G H) {p : Addr} {o : HO} (h0 : He p = none) (hg : G p = none) (hp : H p = some o) (ho : noTb o := by intro q z; cases z) : Grow Ge He (upd G p o) H :=
  ⟨a.g.trans (same_upd hg), ⟨fun b u q => by
    by_cases hb : b = p
    · subst hb
      rw [upd_same] at q
      cases q
      exact ⟨hp, ho⟩
    · rw [upd_ne hb] at q
      exact a.s.m b u q, a.s.t⟩, a.h, fun x u hx hn => by
    rw [upd_ne (ne_of_none hx h0)]
    exact a.f x u hx hn⟩
/-- a new object that may still change -/
theorem Grow.loose {Ge He G H : Hp} (a : Grow Ge He G H) {p : Addr} {o : HO} (hp : H p = none) : Grow Ge He G (upd H p o) :=
  ⟨a.g, sub_upd2 a.s (a.s.free hp) (no_tab hp), a.h.trans (kept_upd hp), a.f⟩
/-- a table has grown -/
theorem Grow.tab {Ge He G H H' : Hp} (a : Grow Ge He G H) {P : Addr} (h : GxR.TabG H P) (t : GxR.Tabbed P H H') : Grow Ge He G H' := by
  obtain ⟨qs, eP, _⟩ := h
  refine ⟨a.g, ⟨fun b u q => ?_, fun R hR => ?_⟩, ⟨fun b u e n => ?_, fun b e => ?_⟩, a.f⟩
  · obtain ⟨q1, q2⟩ := a.s.m b u q
    refine ⟨?_, q2⟩
    rw [t.2 b fun z => by rw [z, eP] at q1; exact q2 qs (Option.some.inj q1).symm]
    exact q1
  · by_cases hr : R = P
    · rw [hr]; exact t.1
    · obtain ⟨rs, e, k⟩ := a.s.t R hR
      exact ⟨rs, by rw [t.2 R hr]; exact e, k⟩
  · have q1 := a.h.k b u e n
    rw [t.2 b fun z => by rw [z, eP] at q1; exact n qs (Option.some.inj q1).symm]
    exact q1
  · refine a.h.fr b ?_
    rw [← t.2 b fun z => by obtain ⟨rs, e2, _⟩ := t.1; rw [z, e2] at e; cases e]
    exact e
end
def jn (G1 G2 : Hp) : Hp := fun a => match G1 a with
  | some o => some o
  | none => G2 a
theorem jn_l (G1 G2 : Hp) : Same G1 (jn G1 G2) := fun b o e => by
  show (match G1 b with | some o => some o | none => G2 b) = some o
  rw [e]
theorem jn_r {G1 G2 H : Hp} (h1 : Same G1 H) (h2 : Same G2 H) : Same G2 (jn G1 G2) := fun b o e => by
  show (match G1 b with | some o => some o | none => G2 b) = some o
  cases q : G1 b with
  | none => exact e
  | some u =>
    have a := h1 b u q
    rw [h2 b o e] at a
    exact a.symm
theorem jn_s [Tb] {G1 G2 H : Hp} (h1 : Sub G1 H) (h2 : Sub G2 H) : Sub (jn G1 G2) H := ⟨fun b o e => by
  have e' : (match G1 b with | some o => some o | none => G2 b) = some o := e
  cases q : G1 b with
  | none =>
    rw [q] at e'
    exact h2.m b o e'
  | some u =>
    rw [q] at e'
    rw [← Option.some.inj e']
    exact h1.m b u q, h1.t⟩
theorem jn_none {G1 G2 : Hp} {b : Addr} (h1 : G1 b = none) (h2 : G2 b = none) : jn G1 G2 b = none := by
  show (match G1 b with | some o => some o | none => G2 b) = none
  rw [h1]
  exact h2
theorem same_none {G G' : Hp} (e : Same G G') {b : Addr} (h : G' b = none) : G b = none := e.free h
theorem rd_mono {G G' : Hp} {a : Addr} {u : HO} (e : Same G G') (h : Rd G a u) : Rd G' a u := by
  rcases h with h | ⟨o, h⟩
  · exact Or.inl (e a _ h)
  · exact Or.inr ⟨o, e a _ h⟩
theorem sqT_mono {K : PySem.W.Frag} {G G' : Hp} {a : Addr} {xs : List V} (e : Same G G') (h : SqT K G a xs) : SqT K G' a xs := by
  rcases h with h | h
  · exact Or.inl (rd_mono e h)
  · exact Or.inr h
theorem sqL_mono {K : PySem.W.Frag} {G G' : Hp} {a : Addr} {xs : List V} (e : Same G G') (h : SqL K G a xs) : SqL K G' a xs := by
  rcases h with h | h
  · exact Or.inl (rd_mono e h)
  · exact Or.inr h

/-! ### typed data: lists, tuples, what stands still -/
def dataO (o : HO) : Prop := match o with
  | .lst _ | .tup _ | .frz _ _ | .dK _ => True
  | _ => False
def SameD (G G' : Hp) : Prop := ∀ a o, G a = some o → dataO o → G' a = some o
theorem same_d {G G' : Hp} (e : Same G G') : SameD G G' := fun a o h _ => e a o h
theorem SameD.trans {G G1 G2 : Hp} (a : SameD G G1) (b : SameD G1 G2) : SameD G G2 := fun x o h d => b x o (a x o h d) d
theorem rd_monoD {G G' : Hp} {a : Addr} {u : HO} (d : dataO u) (e : SameD G G') (h : Rd G a u) : Rd G' a u := by
  rcases h with h | ⟨o, h⟩
  · exact Or.inl (e a _ h d)
  · exact Or.inr ⟨o, e a _ h trivial⟩
theorem sqT_monoD {K : PySem.W.Frag} {G G' : Hp} {a : Addr} {xs : List V} (e : SameD G G') (h : SqT K G a xs) : SqT K G' a xs := by
  rcases h with h | h
  · exact Or.inl (rd_monoD trivial e h)
  · exact Or.inr h
theorem sqL_monoD {K : PySem.W.Frag} {G G' : Hp} {a : Addr} {xs : List V} (e : SameD G G') (h : SqL K G a xs) : SqL K G' a xs := by
  rcases h with h | h
  · exact Or.inl (rd_monoD trivial e h)
  · exact Or.inr h
class Rep (α : Type) where
  rep : PySem.W.Frag → α → V → Hp → Prop
  mono : ∀ {K : PySem.W.Frag} {x : α} {v : V} {G G' : Hp}, SameD G G' → rep K x v G → rep K x v G'
open Rep (rep)
theorem upd' {α : Type} [Rep α] {K : PySem.W.Frag} {x : α} {v : V} {G G' : Hp} (e : SameD G G') (h : rep K x v G) : rep K x v G' := Rep.mono e h
theorem up {α : Type} [Rep α] {K : PySem.W.Frag} {x : α} {v : V} {G G' : Hp} (e : Same G G') (h : rep K x v G) : rep K x v G' := Rep.mono (same_d e) h
instance : Rep Int := ⟨fun _ x v _ => v = .int x, fun _ h => h⟩
instance : Rep Bool := ⟨fun _ x v _ => v = .bl x, fun _ h => h⟩
instance : Rep Str := ⟨fun _ x v _ => v = .str x, fun _ h => h⟩
instance : Rep Unit := ⟨fun _ _ v _ => v = .non, fun _ h => h⟩
def repO {α : Type} [Rep α] (K : PySem.W.Frag) (o : Option α) (v : V) (G : Hp) : Prop := match o with
  | none => v = .non
  | some x => rep K x v G
instance {α : Type} [Rep α] : Rep (Option α) := ⟨repO, fun {K x v G G'} e h => by
  cases x with
  | none => exact h
  | some y => exact upd' e (show rep K y v G from h)⟩
def repS {α β : Type} [Rep α] [Rep β] (K : PySem.W.Frag) (o : Sum α β) (v : V) (G : Hp) : Prop := match o with
  | .inl x => rep K x v G
  | .inr x => rep K x v G
instance {α β : Type} [Rep α] [Rep β] : Rep (Sum α β) := ⟨repS, fun {K x v G G'} e h => by
  cases x with
  | inl y => exact upd' e (show rep K y v G from h)
  | inr y => exact upd' e (show rep K y v G from h)⟩
abbrev Reps {α : Type} [Rep α] (K : PySem.W.Frag) (l : List α) (vs : List V) (G : Hp) : Prop := Paired (fun x v => rep K x v G) l vs
theorem Reps.upd {α : Type} [Rep α] {K : PySem.W.Frag} {l : List α} {vs : List V} {G G' : Hp} (e : SameD G G') (h : Reps K l vs G) : Reps K l vs G' := Paired.mapP h fun _ _ r => RL.upd' e r
theorem Reps.up {α : Type} [Rep α] {K : PySem.W.Frag} {l : List α} {vs : List V} {G G' : Hp} (e : Same G G') (h : Reps K l vs G) : Reps K l vs G' := Paired.mapP h fun _ _ r => RL.up e r
instance {α : Type} [Rep α] : Rep (List α) := ⟨fun K l v G => ∃ a xs, v = .ref a ∧ G a = some (.lst xs) ∧ Reps K l xs G, fun e ⟨a, xs, h1, h2, h3⟩ => ⟨a, xs, h1, e _ _ h2 trivial, h3.upd e⟩⟩
/-- the script -/
structure Scr where
  l : List Int
instance : Rep Scr := ⟨fun K s v G => ∃ a, v = .ref a ∧ SqL K G a (s.l.map V.int), fun e ⟨a, h1, h2⟩ => ⟨a, h1, sqL_monoD e h2⟩⟩
/-- a tuple of things of one kind -/
structure Tpl (α : Type) where
  l : List α
instance {α : Type} [Rep α] : Rep (Tpl α) := ⟨fun K t v G => ∃ a xs, v = .ref a ∧ SqT K G a xs ∧ Reps K t.l xs G, fun e ⟨a, xs, h1, h2, h3⟩ => ⟨a, xs, h1, sqT_monoD e h2, h3.upd e⟩⟩
instance {α β : Type} [Rep α] [Rep β] : Rep (α × β) := ⟨fun K p v G => ∃ a x y, v = .ref a ∧ SqT K G a [x, y] ∧ rep K p.1 x G ∧ rep K p.2 y G, fun e ⟨a, x, y, h1, h2, h3, h4⟩ => ⟨a, x, y, h1, sqT_monoD e h2, upd' e h3, upd' e h4⟩⟩
structure T3 (α β γ : Type) where
  a : α
  b : β
  c : γ
instance {α β γ : Type} [Rep α] [Rep β] [Rep γ] : Rep (T3 α β γ) := ⟨fun K p v G => ∃ a x y z, v = .ref a ∧ SqT K G a [x, y, z] ∧ rep K p.a x G ∧ rep K p.b y G ∧ rep K p.c z G,
  fun e ⟨a, x, y, z, h1, h2, h3, h4, h5⟩ => ⟨a, x, y, z, h1, sqT_monoD e h2, upd' e h3, upd' e h4, upd' e h5⟩⟩

/-- kinds whose things are told by their value alone -/
class Flat (α : Type) [Rep α] [DecidableEq α] where
  toV : α → V
  eq : ∀ {K : PySem.W.Frag} {x : α} {v : V} {G : Hp}, rep K x v G ↔ v = toV x
  flat : ∀ x : α, flatV (toV x) = true
  eqv : ∀ x y : α, eqV (toV x) (toV y) = decide (x = y)
  sc : ∀ x y : α, scal (toV x) (toV y) = true
  inj : ∀ x y : α, decide (toV x = toV y) = decide (x = y)
theorem inj_dec {α : Type} [DecidableEq α] {x y : α} {a b : V} (h : a = b ↔ x = y) : decide (a = b) = decide (x = y) := decide_eq_decide.mpr h
instance : Flat Int := ⟨V.int, Iff.rfl, fun _ => rfl, fun x y => by show (x == y) = _; exact Bool.beq_eq_decide_eq x y, fun _ _ => rfl, fun x y => inj_dec ⟨V.int.inj, congrArg _⟩⟩
instance : Flat Bool := ⟨V.bl, Iff.rfl, fun _ => rfl, fun x y => by show (x == y) = _; exact Bool.beq_eq_decide_eq x y, fun _ _ => rfl, fun x y => inj_dec ⟨V.bl.inj, congrArg _⟩⟩
instance : Flat Str := ⟨V.str, Iff.rfl, fun _ => rfl, fun x y => by show (x == y) = _; first | exact Bool.beq_eq_decide_eq x y | exact beq_eq_decide x y, fun _ _ => rfl, fun x y => inj_dec ⟨V.str.inj, congrArg _⟩⟩
def toVO : Option Str → V
  | none => .non
  | some x => .str x
instance : Flat (Option Str) := ⟨toVO, fun {K x v G} => by cases x <;> exact Iff.rfl, fun x => by cases x <;> rfl, fun x y => by
    cases x with
    | none =>
      cases y with
      | none => rfl
      | some y => exact (decide_eq_false (fun h => by cases h)).symm
    | some x =>
      cases y with
      | none => exact (decide_eq_false (fun h => by cases h)).symm
      | some y =>
        show eqV (.str x) (.str y) = _
        rw [show eqV (.str x) (.str y) = decide (x = y) from Flat.eqv x y]
        exact decide_eq_decide.mpr ⟨fun h => by rw [h], fun h => Option.some.inj h⟩, fun x y => by cases x <;> cases y <;> rfl, fun x y => inj_dec ⟨fun h => by
    cases x with
    | none =>
      cases y with
      | none => rfl
      | some y => cases h
    | some x =>
      cases y with
      | none => cases h
      | some y => exact congrArg some (V.str.inj h), fun h => by rw [h]⟩⟩
theorem reps_flat {α : Type} [Rep α] [DecidableEq α] [Flat α] {K : PySem.W.Frag} {G : Hp} : ∀ {l : List α} {vs : List V}, Reps K l vs G → vs = l.map Flat.toV
  | _, _, .nil => rfl
  | x :: l, v :: vs, .cons r t => by
    rw [List.map_cons, ← reps_flat t, (Flat.eq (x := x)).mp r]
theorem reps_of_flat {α : Type} [Rep α] [DecidableEq α] [Flat α] {K : PySem.W.Frag} {G : Hp} : ∀ (l : List α), Reps K l (l.map Flat.toV) G
  | [] => .nil
  | x :: l => .cons (Flat.eq.mpr rfl) (reps_of_flat l)
theorem paired_len {α β : Type} {F : α → β → Prop} : ∀ {l : List α} {m : List β}, Paired F l m → l.length = m.length
  | _, _, .nil => rfl
  | _, _, .cons _ t => congrArg (· + 1) (paired_len t)
theorem paired_get {α β : Type} {F : α → β → Prop} : ∀ {l : List α} {m : List β} {i : Nat} {b : β}, Paired F l m → m[i]? = some b → ∃ a, l[i]? = some a ∧ F a b
  | _, _, i, b, .nil, h => by simp at h
  | x :: l, y :: m, 0, b, .cons r t, h => ⟨x, rfl, by simp at h; rw [← h]; exact r⟩
  | x :: l, y :: m, i + 1, b, .cons r t, h => by
    have h' : m[i]? = some b := by simpa using h
    obtain ⟨a, e, f⟩ := paired_get t h'
    exact ⟨a, by simpa using e, f⟩
theorem paired_get' {α β : Type} {F : α → β → Prop} : ∀ {l : List α} {m : List β} {i : Nat} {a : α}, Paired F l m → l[i]? = some a → ∃ b, m[i]? = some b ∧ F a b
  | _, _, i, b, .nil, h => by simp at h
  | x :: l, y :: m, 0, b, .cons r t, h => ⟨y, rfl, by simp at h; rw [← h]; exact r⟩
  | x :: l, y :: m, i + 1, b, .cons r t, h => by
    have h' : l[i]? = some b := by simpa using h
    obtain ⟨a, e, f⟩ := paired_get' t h'
    exact ⟨a, by simpa using e, f⟩
theorem paired_append {α β : Type} {F : α → β → Prop} : ∀ {l l' : List α} {m m' : List β}, Paired F l m → Paired F l' m' → Paired F (l ++ l') (m ++ m')
  | _, _, _, _, .nil, s => s
  | _, _, _, _, .cons r t, s => .cons r (paired_append t s)
theorem paired_take {α β : Type} {F : α → β → Prop} : ∀ {l : List α} {m : List β} (n : Nat), Paired F l m → Paired F (l.take n) (m.take n)
  | _, _, 0, _ => .nil
  | _, _, _ + 1, .nil => .nil
  | _, _, n + 1, .cons r t => .cons r (paired_take n t)
theorem paired_drop {α β : Type} {F : α → β → Prop} : ∀ {l : List α} {m : List β} (n : Nat), Paired F l m → Paired F (l.drop n) (m.drop n)
  | _, _, 0, r => r
  | _, _, _ + 1, .nil => .nil
  | _, _, n + 1, .cons _ t => paired_drop n t
theorem paired_rev {α β : Type} {F : α → β → Prop} : ∀ {l : List α} {m : List β}, Paired F l m → Paired F l.reverse m.reverse
  | _, _, .nil => .nil
  | x :: l, y :: m, .cons r t => by
    rw [List.reverse_cons, List.reverse_cons]
    exact paired_append (paired_rev t) (.cons r .nil)
theorem atI_pair {α β : Type} {F : α → β → Prop} {l : List α} {m : List β} {i : Int} {a : α} (p : Paired F l m) (h : atI l i = some a) : ∃ b, atI m i = some b ∧ F a b := by
  unfold atI at h ⊢
  rw [← paired_len p]
  cases e : ixN l.length i with
  | none => rw [e] at h; cases h
  | some j =>
    rw [e] at h
    exact paired_get' p h

/-- the two questions, by one word each -/
def eqB {α : Type} [DecidableEq α] (x y : α) : Bool := decide (x = y)
def memB {α : Type} [DecidableEq α] (x : α) (l : List α) : Bool := decide (x ∈ l)
variable [Tb]
/-! ### what an expression is worth -/
abbrev RP := V → Hp → Prop
def EvG (te : TE) (σ : L2.St) (G : Hp) (P : RP) : Prop := ∀ H, Sub G H → ∀ Q : VK, (∀ v G' H', Grow G H G' H' → P v G' → Q v H') → te σ H Q
def EvR {α : Type} [Rep α] (K : PySem.W.Frag) (te : TE) (σ : L2.St) (G : Hp) (x : α) : Prop := EvG te σ G (rep K x)
def EvB (tt : TT) (σ : L2.St) (G : Hp) (b : Bool) : Prop := ∀ H, Sub G H → ∀ Q : Bool → Hp → Prop, (∀ G' H', Grow G H G' H' → Q b H') → tt σ H Q
/-- arguments, items: told one by one -/
def EvA {α : Type} [Rep α] (K : PySem.W.Frag) (ta : TA) (σ : L2.St) (G : Hp) (l : List α) : Prop := ∀ H, Sub G H → ∀ Q : List V → Hp → Prop, (∀ vs G' H', Grow G H G' H' → Reps K l vs G' → Q vs H') → ta σ H Q
/-- nothing is made: the heap stands -/
theorem grow_up {G G' H G2 H2 : Hp} (a : Grow G H G2 H2) (e : Same G G') (s : Sub G' H) : Grow G' H (jn G2 G') H2 := by
  have s2 : Sub G' H2 := s.keep a.h a.s.t
  exact ⟨jn_r a.s.get s2.get, jn_s a.s s2, a.h, fun b o hb hn => jn_none (a.f b o hb (e.free hn)) hn⟩
section
variable {α β γ : Type} [Rep α] [Rep β] [Rep γ] {K : PySem.W.Frag} {σ : L2.St} {G G' : Hp} {te ta tb tc : TE} {tt tu : TT} {x : α} {y : β} {z : γ} {b c : Bool} {i : Nat} {v : V} {ts tr : TA}
theorem EvR.mono (h : EvR K te σ G x) (e : Same G G') : EvR K te σ G' x := fun H s Q q => h H (un e s) Q fun v G2 H2 gr r => q v _ H2 (grow_up gr e s) (up (jn_l G2 G') r)
theorem EvB.mono (h : EvB tt σ G b) (e : Same G G') : EvB tt σ G' b := fun H s Q q => h H (un e s) Q fun G2 H2 gr => q _ H2 (grow_up gr e s)
theorem EvA.mono {l : List α} (h : EvA K ts σ G l) (e : Same G G') : EvA K ts σ G' l := fun H s Q q => h H (un e s) Q fun v G2 H2 gr r => q v _ H2 (grow_up gr e s) (r.up (jn_l G2 G'))
theorem EvR.to {x' : α} (h : EvR K te σ G x) (e : x = x') : EvR K te σ G x' := e ▸ h
theorem EvB.to (h : EvB tt σ G b) (e : b = c) : EvB tt σ G c := e ▸ h
theorem ev_var (h : σ[i]? = some (some v)) (r : rep K x v G) : EvR K (tVar i) σ G x := fun H e Q q => ⟨v, h, q v G H (Grow.refl e) r⟩
theorem ev_c (r : rep K x v G) : EvR K (tC v) σ G x := fun H e Q q => q v G H (Grow.refl e) r
theorem ev_int {n : Int} : EvR K (tC (.int n)) σ G n := ev_c rfl
theorem ev_str {n : Str} : EvR K (tC (.str n)) σ G n := ev_c rfl
theorem ev_bl {n : Bool} : EvR K (tC (.bl n)) σ G n := ev_c rfl
theorem ev_non : EvR K (tC .non) σ G (none : Option α) := ev_c (show repO K (none : Option α) V.non G from rfl)
theorem ev_some (h : EvR K te σ G x) : EvR K te σ G (some x) := h
/-- two operands -/
theorem ev_op {r : R2} (ha : EvR K ta σ G x) (hb : EvR K tb σ G y)
    (hr : ∀ v w G1 H1, Same G G1 → Sub G1 H1 → rep K x v G1 → rep K y w G1 → ∀ Q : VK, (∀ u G2 H2, Grow G1 H1 G2 H2 → rep K z u G2 → Q u H2) → r v w H1 Q) : EvR K (tOp r ta tb) σ G z := fun H e Q q =>
  ha H e _ fun v G1 H1 g1 r1 => hb.mono g1.g H1 g1.s _ fun w G2 H2 g2 r2 => hr v w G2 H2 (g1.g.trans g2.g) g2.s (up g2.g r1) r2 Q fun u G3 H3 g3 r3 => q u G3 H3 ((g1.trans g2).trans g3) r3
theorem ev_I0 {g : Int → Int → Int} {m n : Int} (ha : EvR K ta σ G m) (hb : EvR K tb σ G n) : EvR K (tOp (rI0 fun i j => .int (g i j)) ta tb) σ G (g m n) :=
  ev_op ha hb fun v w G1 H1 _ s hv hw Q q => ⟨m, n, hv, hw, q _ G1 H1 (Grow.refl s) rfl⟩
theorem ev_B0 {g : Int → Int → Bool} {m n : Int} (ha : EvR K ta σ G m) (hb : EvR K tb σ G n) : EvR K (tOp (rI0 fun i j => .bl (g i j)) ta tb) σ G (g m n) :=
  ev_op ha hb fun v w G1 H1 _ s hv hw Q q => ⟨m, n, hv, hw, q _ G1 H1 (Grow.refl s) rfl⟩
theorem ev_I {C : Int → Int → Prop} {g : Int → Int → Int} {m n : Int} (ha : EvR K ta σ G m) (hb : EvR K tb σ G n) (hc : C m n) : EvR K (tOp (rI C fun i j => .int (g i j)) ta tb) σ G (g m n) :=
  ev_op ha hb fun v w G1 H1 _ s hv hw Q q => ⟨m, n, hv, hw, hc, q _ G1 H1 (Grow.refl s) rfl⟩
theorem ev_add {m n : Int} (ha : EvR K ta σ G m) (hb : EvR K tb σ G n) : EvR K (tOp (rI0 fun i j => .int (i + j)) ta tb) σ G (m + n) := ev_I0 (g := fun i j => i + j) ha hb
theorem ev_sub {m n : Int} (ha : EvR K ta σ G m) (hb : EvR K tb σ G n) : EvR K (tOp (rI0 fun i j => .int (i - j)) ta tb) σ G (m - n) := ev_I0 (g := fun i j => i - j) ha hb
theorem ev_mul {m n : Int} (ha : EvR K ta σ G m) (hb : EvR K tb σ G n) (hc : CMul m n) : EvR K (tOp (rI CMul fun i j => .int (i * j)) ta tb) σ G (m * n) := ev_I (g := fun i j => i * j) ha hb hc
theorem ev_mod {m n : Int} (ha : EvR K ta σ G m) (hb : EvR K tb σ G n) (hc : 0 < n) : EvR K (tOp (rI (fun _ j => 0 < j) fun i j => .int (i % j)) ta tb) σ G (m % n) := ev_I (g := fun i j => i % j) (C := fun _ j => 0 < j) ha hb hc
theorem ev_fdiv {m n : Int} (ha : EvR K ta σ G m) (hb : EvR K tb σ G n) (hc : CDiv m n) : EvR K (tOp (rI CDiv fun i j => .int (i / j)) ta tb) σ G (m / n) := ev_I (g := fun i j => i / j) ha hb hc
theorem ev_pow {m n : Int} (ha : EvR K ta σ G m) (hb : EvR K tb σ G n) (hc : CPow m n) : EvR K (tOp (rI CPow fun i j => .int (i ^ j.toNat)) ta tb) σ G (m ^ n.toNat) := ev_I (g := fun i j => i ^ j.toNat) ha hb hc
theorem ev_lt {m n : Int} (ha : EvR K ta σ G m) (hb : EvR K tb σ G n) : EvR K (tOp (rI0 fun i j => .bl (decide (i < j))) ta tb) σ G (decide (m < n)) := ev_B0 (g := fun i j => decide (i < j)) ha hb
theorem ev_le {m n : Int} (ha : EvR K ta σ G m) (hb : EvR K tb σ G n) : EvR K (tOp (rI0 fun i j => .bl (decide (i ≤ j))) ta tb) σ G (decide (m ≤ n)) := ev_B0 (g := fun i j => decide (i ≤ j)) ha hb
theorem ev_gt {m n : Int} (ha : EvR K ta σ G m) (hb : EvR K tb σ G n) : EvR K (tOp (rI0 fun i j => .bl (decide (j < i))) ta tb) σ G (decide (n < m)) := ev_B0 (g := fun i j => decide (j < i)) ha hb
theorem ev_ge {m n : Int} (ha : EvR K ta σ G m) (hb : EvR K tb σ G n) : EvR K (tOp (rI0 fun i j => .bl (decide (j ≤ i))) ta tb) σ G (decide (n ≤ m)) := ev_B0 (g := fun i j => decide (j ≤ i)) ha hb
theorem ev_neg {m : Int} (ha : EvR K ta σ G m) : EvR K (tUn (rU fun i => .int (-i)) ta) σ G (-m) := fun H e Q q => ha H e _ fun v G1 H1 g1 r1 => ⟨m, r1, q _ G1 H1 g1 rfl⟩
/-- == != of things told by their value -/
theorem ev_eq {δ : Type} [Rep δ] [DecidableEq δ] [Flat δ] {m n : δ} (ha : EvR K ta σ G m) (hb : EvR K tb σ G n) : EvR K (tOp rEq ta tb) σ G (eqB m n) :=
  ev_op ha hb fun v w G1 H1 _ s hv hw Q q => by
    rw [Flat.eq.mp hv, Flat.eq.mp hw]
    refine ⟨Flat.sc m n, q _ G1 H1 (Grow.refl s) ?_⟩
    rw [Flat.inj m n]
    rfl
theorem ev_ne {δ : Type} [Rep δ] [DecidableEq δ] [Flat δ] {m n : δ} (ha : EvR K ta σ G m) (hb : EvR K tb σ G n) : EvR K (tOp rNe ta tb) σ G (!eqB m n) :=
  ev_op ha hb fun v w G1 H1 _ s hv hw Q q => by
    rw [Flat.eq.mp hv, Flat.eq.mp hw]
    refine ⟨Flat.sc m n, q _ G1 H1 (Grow.refl s) ?_⟩
    rw [Flat.inj m n]
    rfl
theorem ev_isN {o : Option α} (hn : ∀ v G, (∃ x : α, rep K x v G) → v ≠ .non) (ha : EvR K ta σ G o) : EvR K (tOp (fun x y H Q => y = .non ∧ Q (.bl (decide (x = .non))) H) ta (tC .non)) σ G o.isNone := fun H e Q q =>
  ha H e _ fun v G1 H1 g1 r1 => ⟨rfl, q _ G1 H1 g1 (by
    cases o with
    | none =>
      have e : v = V.non := r1
      rw [e]
      rfl
    | some x => exact congrArg V.bl (decide_eq_false (hn v G1 ⟨x, r1⟩)))⟩
theorem ev_notN {o : Option α} (hn : ∀ v G, (∃ x : α, rep K x v G) → v ≠ .non) (ha : EvR K ta σ G o) : EvR K (tOp (fun x y H Q => y = .non ∧ Q (.bl (!decide (x = .non))) H) ta (tC .non)) σ G o.isSome := fun H e Q q =>
  ha H e _ fun v G1 H1 g1 r1 => ⟨rfl, q _ G1 H1 g1 (by
    cases o with
    | none =>
      have e : v = V.non := r1
      rw [e]
      rfl
    | some x => exact congrArg V.bl (by rw [decide_eq_false (hn v G1 ⟨x, r1⟩)]; rfl))⟩
omit [Tb] in
theorem nn_str {K : PySem.W.Frag} : ∀ (v : V) (G : Hp), (∃ x : Str, rep K x v G) → v ≠ .non := fun v G ⟨x, h⟩ => by rw [show v = V.str x from h]; intro z; cases z
omit [Tb] in
theorem nn_int {K : PySem.W.Frag} : ∀ (v : V) (G : Hp), (∃ x : Int, rep K x v G) → v ≠ .non := fun v G ⟨x, h⟩ => by rw [show v = V.int x from h]; intro z; cases z
omit [Tb] in
theorem nn_pair {K : PySem.W.Frag} : ∀ (v : V) (G : Hp), (∃ x : α × β, rep K x v G) → v ≠ .non := fun v G ⟨x, a, y, w, h, _⟩ => by rw [h]; intro z; cases z
/-- texts -/
theorem ev_addS {m n : Str} (ha : EvR K ta σ G m) (hb : EvR K tb σ G n) (hl : m.length + n.length ≤ sizeLine) :
    EvR K (tOp (fun x y H Q => ∃ i j, x = .str i ∧ y = .str j ∧ i.length + j.length ≤ sizeLine ∧ Q (.str (i ++ j)) H) ta tb) σ G (m ++ n) :=
  ev_op ha hb fun v w G1 H1 _ s hv hw Q q => ⟨m, n, hv, hw, hl, q _ G1 H1 (Grow.refl s) rfl⟩
theorem ev_leS {m n : Str} (ha : EvR K ta σ G m) (hb : EvR K tb σ G n) :
    EvR K (tOp (fun x y H Q => ∃ i j, x = .str i ∧ y = .str j ∧ Q (.bl (!decide (j.cps.toList < i.cps.toList))) H) ta tb) σ G (!decide (n.cps.toList < m.cps.toList)) :=
  ev_op ha hb fun v w G1 H1 _ s hv hw Q q => ⟨m, n, hv, hw, q _ G1 H1 (Grow.refl s) rfl⟩
/-- a <= b <= c -/
theorem ev_chain {r r' : R2} {u : Bool} (ha : EvR K ta σ G x) (hb : EvR K tb σ G y) (hr : ∀ v w G1 H1, Same G G1 → Sub G1 H1 → rep K x v G1 → rep K y w G1 → ∀ Q : VK, (∀ G2 H2, Grow G1 H1 G2 H2 → Q (.bl b) H2) → r v w H1 Q)
    (hc : b = true → EvR K tc σ G z) (hr2 : ∀ v w G1 H1, Same G G1 → Sub G1 H1 → rep K y v G1 → rep K z w G1 → ∀ Q : VK, (∀ G2 H2, Grow G1 H1 G2 H2 → Q (.bl u) H2) → r' v w H1 Q) : EvR K (tChain r r' ta tb tc) σ G (b && u) := fun H e Q q =>
  ha H e _ fun v G1 H1 g1 r1 => hb.mono g1.g H1 g1.s _ fun w G2 H2 g2 r2 => hr v w G2 H2 (g1.g.trans g2.g) g2.s (up g2.g r1) r2 _ fun G3 H3 g3 => ⟨b, rfl, by
    cases b with
    | true =>
      refine iteT ?_
      have g := (g1.trans g2).trans g3
      refine (hc rfl).mono g.g H3 g.s _ fun w' G4 H4 g4 r4 => ?_
      exact hr2 w w' G4 H4 (g.g.trans g4.g) g4.s (up (g3.g.trans g4.g) r2) r4 Q fun G5 H5 g5 => q _ G5 H5 ((g.trans g4).trans g5) rfl
    | false =>
      refine iteF ?_
      exact q _ G3 H3 ((g1.trans g2).trans g3) rfl⟩
/-- tests -/
theorem et_test (h : EvR K te σ G b) : EvB (tTest te) σ G b := fun H e Q q => h H e _ fun v G1 H1 g1 r1 => ⟨b, r1, q G1 H1 g1⟩
theorem et_B (h : EvR K te σ G b) : EvB (tB te) σ G b := fun H e Q q => h H e _ fun v G1 H1 g1 r1 => ⟨b, r1, q G1 H1 g1⟩
theorem et_and (h1 : EvB tt σ G b) (h2 : b = true → EvB tu σ G c) : EvB (tAnd tt tu) σ G (b && c) := fun H e Q q => h1 H e _ fun G1 H1 g1 => by
  cases b with
  | true => exact iteT ((h2 rfl).mono g1.g H1 g1.s Q fun G2 H2 g2 => q G2 H2 (g1.trans g2))
  | false => exact iteF (q G1 H1 g1)
theorem et_or (h1 : EvB tt σ G b) (h2 : b = false → EvB tu σ G c) : EvB (tOr tt tu) σ G (b || c) := fun H e Q q => h1 H e _ fun G1 H1 g1 => by
  cases b with
  | true => exact iteT (q G1 H1 g1)
  | false => exact iteF ((h2 rfl).mono g1.g H1 g1.s Q fun G2 H2 g2 => q G2 H2 (g1.trans g2))
theorem et_not (h : EvB tt σ G b) : EvB (tNot tt) σ G (!b) := fun H e Q q => h H e _ q
theorem ev_andV (h1 : EvR K ta σ G b) (h2 : b = true → EvR K tb σ G c) : EvR K (tAndV ta tb) σ G (b && c) := fun H e Q q => h1 H e _ fun v G1 H1 g1 r1 => ⟨b, r1, by
  cases b with
  | true => exact iteT ((h2 rfl).mono g1.g H1 g1.s Q fun v G2 H2 g2 r2 => q v G2 H2 (g1.trans g2) r2)
  | false => exact iteF (q _ G1 H1 g1 rfl)⟩
theorem ev_orV (h1 : EvR K ta σ G b) (h2 : b = false → EvR K tb σ G c) : EvR K (tOrV ta tb) σ G (b || c) := fun H e Q q => h1 H e _ fun v G1 H1 g1 r1 => ⟨b, r1, by
  cases b with
  | true => exact iteT (q _ G1 H1 g1 rfl)
  | false => exact iteF ((h2 rfl).mono g1.g H1 g1.s Q fun v G2 H2 g2 r2 => q v G2 H2 (g1.trans g2) r2)⟩
theorem ev_notV (h1 : EvR K ta σ G b) : EvR K (tNotV ta) σ G (!b) := fun H e Q q => h1 H e _ fun v G1 H1 g1 r1 => ⟨b, r1, q _ G1 H1 g1 rfl⟩
theorem ev_if (h : EvB tt σ G b) {x' : α} (h1 : b = true → EvR K ta σ G x) (h2 : b = false → EvR K tb σ G x') : EvR K (tIf tt ta tb) σ G (cond b x x') := fun H e Q q => h H e _ fun G1 H1 g1 => by
  cases b with
  | true => exact iteT ((h1 rfl).mono g1.g H1 g1.s Q fun v G2 H2 g2 r2 => q v G2 H2 (g1.trans g2) r2)
  | false => exact iteF ((h2 rfl).mono g1.g H1 g1.s Q fun v G2 H2 g2 r2 => q v G2 H2 (g1.trans g2) r2)
/-- arguments -/
theorem ea_nil : EvA K tNil σ G ([] : List α) := fun H e Q q => q [] G H (Grow.refl e) .nil
theorem ea_cons {l : List α} (h : EvR K te σ G x) (hr : EvA K tr σ G l) : EvA K (tCons te tr) σ G (x :: l) := fun H e Q q =>
  h H e _ fun v G1 H1 g1 r1 => hr.mono g1.g H1 g1.s _ fun vs G2 H2 g2 r2 => q (v :: vs) G2 H2 (g1.trans g2) (.cons (up g2.g r1) r2)
theorem ea_star {l m : List α} (h : EvR K te σ G l) (hr : EvA K tr σ G m) : EvA K (StX.tStar K te tr) σ G (l ++ m) := fun H e Q q =>
  h H e _ fun v G1 H1 g1 ⟨a, xs, ev, ha, r1⟩ => ⟨a, xs, ev, .inr (SqL.of (g1.s _ _ ha)), hr.mono g1.g H1 g1.s _ fun vs G2 H2 g2 r2 => q (xs ++ vs) G2 H2 (g1.trans g2) (paired_append (r1.up g2.g) r2)⟩
theorem ev_lst {l : List α} (h : EvA K ts σ G l) (hl : l.length ≤ sizeLine) : EvR K (tLst ts) σ G l := fun H e Q q =>
  h H e _ fun vs G1 H1 g1 r1 => ⟨by rw [← paired_len r1]; exact hl, fun p hp => q _ _ _ (g1.trans (Grow.new g1.s hp)) ⟨p, vs, rfl, upd_same, r1.up (same_upd (g1.s.free hp))⟩⟩
theorem ev_tpl {l : List α} (h : EvA K ts σ G l) (hl : l.length ≤ sizeLine) : EvR K (tTup ts) σ G (Tpl.mk l) := fun H e Q q =>
  h H e _ fun vs G1 H1 g1 r1 => ⟨by rw [← paired_len r1]; exact hl, fun p hp => q _ _ _ (g1.trans (Grow.new g1.s hp)) ⟨p, vs, rfl, SqT.of upd_same, r1.up (same_upd (g1.s.free hp))⟩⟩
theorem ev_tup2 (ha : EvR K ta σ G x) (hb : EvR K tb σ G y) : EvR K (tTup (tCons ta (tCons tb tNil))) σ G (x, y) := fun H e Q q =>
  ha H e _ fun v G1 H1 g1 r1 => hb.mono g1.g H1 g1.s _ fun w G2 H2 g2 r2 => ⟨by show 2 ≤ sizeLine; decide, fun p hp => q _ _ _ ((g1.trans g2).trans (Grow.new g2.s hp))
    ⟨p, v, w, rfl, SqT.of upd_same, up (g2.g.trans (same_upd (g2.s.free hp))) r1, up (same_upd (g2.s.free hp)) r2⟩⟩
/-- items, slices -/
theorem ev_ixL {l : List α} {n : Int} (ha : EvR K ta σ G l) (hb : EvR K tb σ G n) (h : atI l n = some x) : EvR K (tOp (rIxL K) ta tb) σ G x :=
  ev_op ha hb fun v w G1 H1 _ s ⟨a, xs, ev, hA, r⟩ hw Q q => by
    obtain ⟨u, h1, h2⟩ := atI_pair r h
    exact ⟨a, xs, n, u, ev, hw, SqL.of (s _ _ hA), h1, q u G1 H1 (Grow.refl s) h2⟩
theorem ev_ixT {l : Tpl α} {n : Int} (ha : EvR K ta σ G l) (hb : EvR K tb σ G n) (h : atI l.l n = some x) : EvR K (tOp (rIxT K) ta tb) σ G x :=
  ev_op ha hb fun v w G1 H1 _ s ⟨a, xs, ev, hA, r⟩ hw Q q => by
    obtain ⟨u, h1, h2⟩ := atI_pair r h
    exact ⟨a, xs, n, u, ev, hw, sqT_mono s.get hA, h1, q u G1 H1 (Grow.refl s) h2⟩
theorem ev_ix20 {p : α × β} (ha : EvR K ta σ G p) : EvR K (tOp (rIxT K) ta (tC (.int 0))) σ G p.1 :=
  ev_op (y := (0 : Int)) ha ev_int fun v w G1 H1 _ s ⟨a, x, y, ev, hA, r1, r2⟩ hw Q q => ⟨a, [x, y], 0, x, ev, hw, sqT_mono s.get hA, rfl, q x G1 H1 (Grow.refl s) r1⟩
theorem ev_ix21 {p : α × β} (ha : EvR K ta σ G p) : EvR K (tOp (rIxT K) ta (tC (.int 1))) σ G p.2 :=
  ev_op (y := (1 : Int)) ha ev_int fun v w G1 H1 _ s ⟨a, x, y, ev, hA, r1, r2⟩ hw Q q => ⟨a, [x, y], 1, y, ev, hw, sqT_mono s.get hA, rfl, q y G1 H1 (Grow.refl s) r2⟩
theorem ev_ixS {z : Str} {n : Int} {c : Nat} (ha : EvR K ta σ G z) (hb : EvR K tb σ G n) (hl : z.length ≤ sizeLine) (h : atI z.cps.toList n = some c) : EvR K (tOp rIxS ta tb) σ G (Str.mk #[c]) :=
  ev_op ha hb fun v w G1 H1 _ s hv hw Q q => ⟨z, n, c, hv, hw, hl, h, q _ G1 H1 (Grow.refl s) rfl⟩
theorem ev_ixScr {z : Scr} {n m : Int} (ha : EvR K ta σ G z) (hb : EvR K tb σ G n) (h : atI z.l n = some m) : EvR K (tOp (rIxL K) ta tb) σ G m :=
  ev_op ha hb fun v w G1 H1 _ s ⟨a, ev, hA⟩ hw Q q => by
    have h2 : atI (z.l.map V.int) n = some (V.int m) := by
      unfold atI at h ⊢
      rw [List.length_map]
      cases e : ixN z.l.length n with
      | none => rw [e] at h; cases h
      | some j =>
        rw [e] at h
        show (z.l.map V.int)[j]? = some (V.int m)
        rw [List.getElem?_map, show z.l[j]? = some m from h]
        rfl
    exact ⟨a, _, n, _, ev, hw, sqL_mono s.get hA, h2, q _ G1 H1 (Grow.refl s) rfl⟩
def cutL {δ : Type} (xs : List δ) (lo hi : Option Int) : List δ := (xs.drop (HT.sIx xs.length 0 lo)).take (HT.sIx xs.length xs.length hi - HT.sIx xs.length 0 lo)
omit [Tb] in
theorem cut_pair {δ ε : Type} {F : δ → ε → Prop} {l : List δ} {m : List ε} (lo hi : Option Int) (p : Paired F l m) : Paired F (cutL l lo hi) (cutL m lo hi) := by
  unfold cutL
  rw [← paired_len p]
  exact paired_take _ (paired_drop _ p)
def EvO (K : PySem.W.Frag) (to : TO) (σ : L2.St) (G : Hp) (o : Option Int) : Prop := ∀ H, Sub G H → ∀ Q : Option Int → Hp → Prop, (∀ G' H', Grow G H G' H' → Q o H') → to σ H Q
theorem eo_none : EvO K tNoPart σ G none := fun H e Q q => q G H (Grow.refl e)
theorem eo_some {n : Int} (h : EvR K te σ G n) : EvO K (tPart te) σ G (some n) := fun H e Q q => h H e _ fun v G1 H1 g1 r1 => ⟨n, r1, q G1 H1 g1⟩
theorem EvO.mono {to : TO} {o : Option Int} (h : EvO K to σ G o) (e : Same G G') : EvO K to σ G' o := fun H s Q q => h H (un e s) Q fun G2 H2 gr => q _ H2 (grow_up gr e s)
theorem ev_slL {l : List α} {tl th : TO} {lo hi : Option Int} (ha : EvR K ta σ G l) (hl : EvO K tl σ G lo) (hh : EvO K th σ G hi) : EvR K (tSl (rSlL K) ta tl th) σ G (cutL l lo hi) := fun H e Q q =>
  ha H e _ fun v G1 H1 g1 r1 => hl.mono g1.g H1 g1.s _ fun G2 H2 g2 => hh.mono (g1.g.trans g2.g) H2 g2.s _ fun G3 H3 g3 => by
    obtain ⟨a, xs, ev, hA, r⟩ := up (g2.g.trans g3.g) r1
    exact ⟨a, xs, ev, SqL.of (g3.s _ _ hA), fun p hp => q _ _ _ (((g1.trans g2).trans g3).trans (Grow.new g3.s hp)) ⟨p, cutL xs lo hi, rfl, upd_same, Reps.up (same_upd (g3.s.free hp)) (cut_pair lo hi r)⟩⟩
theorem ev_slS {l : Str} {tl th : TO} {lo hi : Option Int} (ha : EvR K ta σ G l) (hl : EvO K tl σ G lo) (hh : EvO K th σ G hi) (hz : l.length ≤ sizeLine) : EvR K (tSl rSlS ta tl th) σ G (cutS l lo hi) := fun H e Q q =>
  ha H e _ fun v G1 H1 g1 r1 => hl.mono g1.g H1 g1.s _ fun G2 H2 g2 => hh.mono (g1.g.trans g2.g) H2 g2.s _ fun G3 H3 g3 => ⟨l, r1, hz, q _ G3 H3 ((g1.trans g2).trans g3) rfl⟩
theorem ev_revL {l : List α} (ha : EvR K ta σ G l) : EvR K (L2.tRevL K ta) σ G l.reverse := fun H e Q q =>
  ha H e _ fun v G1 H1 g1 ⟨a, xs, ev, hA, r⟩ => ⟨a, xs, ev, SqL.of (g1.s _ _ hA), fun p hp => q _ _ _ (g1.trans (Grow.new g1.s hp)) ⟨p, xs.reverse, rfl, upd_same, Reps.up (same_upd (g1.s.free hp)) (paired_rev r)⟩⟩
theorem ev_cat {l m : List α} (ha : EvR K ta σ G l) (hb : EvR K tb σ G m) (hl : l.length + m.length ≤ sizeLine) : EvR K (tOp rCat ta tb) σ G (l ++ m) :=
  ev_op ha hb fun v w G1 H1 _ s ⟨a, xs, ev, hA, r⟩ ⟨b, ys, ew, hB, r'⟩ Q q => ⟨a, b, xs, ys, ev, ew, s _ _ hA, s _ _ hB, by rw [← paired_len r, ← paired_len r']; exact hl, fun p hp =>
    q _ _ _ (Grow.new s hp) ⟨p, xs ++ ys, rfl, upd_same, paired_append (r.up (same_upd (s.free hp))) (r'.up (same_upd (s.free hp)))⟩⟩
omit [Tb] in
/-- in -/
theorem inV_flat {δ : Type} [Rep δ] [DecidableEq δ] [Flat δ] {x : δ} : ∀ {l : List δ}, inV (Flat.toV x) (l.map Flat.toV) = decide (x ∈ l)
  | [] => by simp [inV]
  | y :: l => by
    have ih := inV_flat (x := x) (l := l)
    unfold inV at ih ⊢
    rw [List.map_cons, List.any_cons, ih, Flat.eqv y x]
    by_cases h : y = x
    · subst h
      simp
    · have h' : x ≠ y := fun e => h e.symm
      simp [h, h']
omit [Tb] in
theorem flat_all {δ : Type} [Rep δ] [DecidableEq δ] [Flat δ] {l : List δ} : (l.map Flat.toV).all flatV = true := by
  rw [List.all_map, List.all_eq_true]
  intro y _
  exact Flat.flat y
theorem ev_inL {δ : Type} [Rep δ] [DecidableEq δ] [Flat δ] {x : δ} {l : List δ} (ha : EvR K ta σ G x) (hb : EvR K tb σ G l) : EvR K (tOp (rIn K false) ta tb) σ G (memB x l) :=
  ev_op ha hb fun v w G1 H1 _ s hv ⟨b, ys, ew, hB, r⟩ Q q => by
    have e1 := Flat.eq.mp hv
    have e2 := reps_flat r
    subst e1
    subst e2
    refine ⟨b, _, ew, .inl (SqL.of (s _ _ hB)), Flat.flat x, flat_all, ?_⟩
    rw [if_neg Bool.false_ne_true, inV_flat]
    exact q _ G1 H1 (Grow.refl s) rfl
theorem ev_inT {δ : Type} [Rep δ] [DecidableEq δ] [Flat δ] {x : δ} {l : Tpl δ} (ha : EvR K ta σ G x) (hb : EvR K tb σ G l) : EvR K (tOp (rIn K false) ta tb) σ G (memB x l.l) :=
  ev_op ha hb fun v w G1 H1 _ s hv ⟨b, ys, ew, hB, r⟩ Q q => by
    have e1 := Flat.eq.mp hv
    have e2 := reps_flat r
    subst e1
    subst e2
    refine ⟨b, _, ew, .inr (sqT_mono s.get hB), Flat.flat x, flat_all, ?_⟩
    rw [if_neg Bool.false_ne_true, inV_flat]
    exact q _ G1 H1 (Grow.refl s) rfl
/-- len -/
theorem ev_len1 {r : List V → Hp → VK → Prop} {n : Nat} (ha : EvR K ta σ G x) (hr : ∀ v G1 H1, Sub G1 H1 → rep K x v G1 → ∀ Q : VK, Q (.int n) H1 → r [v] H1 Q) : EvR K (tCB r (tCons ta tNil)) σ G (n : Int) := fun H e Q q =>
  ha H e _ fun v G1 H1 g1 r1 => hr v G1 H1 g1.s r1 Q (q _ G1 H1 g1 rfl)
abbrev rLen (K : PySem.W.Frag) : List V → Hp → VK → Prop := fun xs H Q => ∃ x n, xs = [x] ∧ LenV K x H n ∧ Q (.int n) H
theorem ev_lenL {l : List α} (ha : EvR K ta σ G l) : EvR K (tCB (rLen K) (tCons ta tNil)) σ G (l.length : Int) :=
  ev_len1 ha fun v G1 H1 s ⟨a, xs, ev, hA, r⟩ Q q => ⟨v, l.length, rfl, by rw [ev]; exact .inl ⟨xs, SqL.of (s _ _ hA), paired_len r⟩, q⟩
theorem ev_lenT {l : Tpl α} (ha : EvR K ta σ G l) : EvR K (tCB (rLen K) (tCons ta tNil)) σ G (l.l.length : Int) :=
  ev_len1 ha fun v G1 H1 s ⟨a, xs, ev, hA, r⟩ Q q => ⟨v, l.l.length, rfl, by rw [ev]; exact .inr ⟨xs, sqT_mono s.get hA, paired_len r⟩, q⟩
theorem ev_lenScr {l : Scr} (ha : EvR K ta σ G l) : EvR K (tCB (rLen K) (tCons ta tNil)) σ G (l.l.length : Int) :=
  ev_len1 ha fun v G1 H1 s ⟨a, ev, hA⟩ Q q => ⟨v, l.l.length, rfl, by rw [ev]; exact .inl ⟨_, sqL_mono s.get hA, by rw [List.length_map]⟩, q⟩
theorem ev_lenS {l : Str} (ha : EvR K ta σ G l) (hl : l.length ≤ sizeLine) : EvR K (tCB (rLen K) (tCons ta tNil)) σ G (l.length : Int) :=
  ev_len1 ha fun v G1 H1 s hv Q q => ⟨v, l.length, rfl, by rw [show v = V.str l from hv]; exact ⟨hl, rfl⟩, q⟩
/-- int(n), str(n) -/
theorem ev_int1 {n : Int} (ha : EvR K ta σ G n) : EvR K (tCB (fun xs H Q => (∃ i, xs = [.int i] ∧ Q (.int i) H) ∨ ∃ k, xs = [.bl k] ∧ Q (.int (if k then 1 else 0)) H) (tCons ta tNil)) σ G n := fun H e Q q =>
  ha H e _ fun v G1 H1 g1 r1 => .inl ⟨n, by rw [show v = V.int n from r1], q _ G1 H1 g1 rfl⟩
theorem ev_strI {n : Int} (ha : EvR K ta σ G n) (hn : n.natAbs.log2 < 1920) : EvR K (tCB (fun xs H Q => ∃ i, xs = [.int i] ∧ i.natAbs.log2 < 1920 ∧ Q (.str (toString i)) H) (tCons ta tNil)) σ G (PySem.Str.ofString (toString n)) := fun H e Q q =>
  ha H e _ fun v G1 H1 g1 r1 => ⟨n, by rw [show v = V.int n from r1], hn, q _ G1 H1 g1 rfl⟩
theorem ev_listL {l : List α} (ha : EvR K ta σ G l) : EvR K (tCB (fun xs H Q => ∃ p ys, xs = [.ref p] ∧ (SqL K H p ys ∨ SqT K H p ys) ∧ ∀ l, H l = none → Q (.ref l) (upd H l (.lst ys))) (tCons ta tNil)) σ G l := fun H e Q q =>
  ha H e _ fun v G1 H1 g1 ⟨a, xs, ev, hA, r⟩ => ⟨a, xs, by rw [ev], .inl (SqL.of (g1.s _ _ hA)), fun p hp => q _ _ _ (g1.trans (Grow.new g1.s hp)) ⟨p, xs, rfl, upd_same, r.up (same_upd (g1.s.free hp))⟩⟩
/-- methods of texts -/
theorem ev_m0 {f : Str → Str} {C : Str → Prop} {s : Str} (ha : EvR K ta σ G s) (hc : C s) : EvR K (tM0 (fun x xs H Q => ∃ a, x = .str a ∧ xs = [] ∧ C a ∧ Q (.str (f a)) H) ta) σ G (f s) := fun H e Q q =>
  ha H e _ fun v G1 H1 g1 r1 => ⟨⟨s, r1⟩, s, r1, rfl, hc, q _ G1 H1 g1 rfl⟩
theorem ev_lower {s : Str} (ha : EvR K ta σ G s) (hc : s.length ≤ 5592405) : EvR K (tM0 (fun x xs H Q => ∃ a, x = .str a ∧ xs = [] ∧ a.length ≤ 5592405 ∧ Q (.str (Txt.lower a)) H) ta) σ G (Txt.lower s) := ev_m0 (f := Txt.lower) (C := fun a => a.length ≤ 5592405) ha hc
theorem ev_upper {s : Str} (ha : EvR K ta σ G s) (hc : s.length ≤ 5592405) : EvR K (tM0 (fun x xs H Q => ∃ a, x = .str a ∧ xs = [] ∧ a.length ≤ 5592405 ∧ Q (.str (Txt.upper a)) H) ta) σ G (Txt.upper s) := ev_m0 (f := Txt.upper) (C := fun a => a.length ≤ 5592405) ha hc
theorem ev_split {s t : Str} (ha : EvR K ta σ G s) (hb : EvR K tb σ G t) (h1 : (t.length == 0) = false) (h2 : s.length + 2 ≤ sizeLine) :
    EvR K (tM1 (fun x xs H Q => ∃ a b, x = .str a ∧ xs = [.str b] ∧ (b.length == 0) = false ∧ a.length + 2 ≤ sizeLine ∧ rNewStrs (Txt.split a b) H Q) ta tb) σ G (Txt.split s t) := fun H e Q q =>
  ha H e _ fun v G1 H1 g1 r1 => ⟨⟨s, r1⟩, hb.mono g1.g H1 g1.s _ fun w G2 H2 g2 r2 => ⟨s, t, r1, by rw [show w = V.str t from r2], h1, h2, fun p hp =>
    q _ _ _ ((g1.trans g2).trans (Grow.new g2.s hp)) ⟨p, _, rfl, upd_same, reps_of_flat (Txt.split s t)⟩⟩⟩
theorem ev_join {s : Str} {l : List Str} (ha : EvR K ta σ G s) (hb : EvR K tb σ G l) (h : (l.map (·.length)).sum + l.length * s.length ≤ 16777216) :
    EvR K (tM1 (fun x xs H Q => ∃ a p, ∃ ys : List Str, x = .str a ∧ xs = [.ref p] ∧ (SqL K H p (ys.map V.str) ∨ SqT K H p (ys.map V.str)) ∧ (ys.map (·.length)).sum + ys.length * a.length ≤ 16777216 ∧ Q (.str (Txt.join a ys)) H) ta tb) σ G (Txt.join s l) := fun H e Q q =>
  ha H e _ fun v G1 H1 g1 r1 => ⟨⟨s, r1⟩, hb.mono g1.g H1 g1.s _ fun w G2 H2 g2 ⟨a, xs, ev, hA, r2⟩ => ⟨s, a, l, r1, by rw [ev], .inl (by
    have e := reps_flat r2
    subst e
    exact SqL.of (g2.s _ _ hA)), h, q _ G2 H2 (g1.trans g2) rfl⟩⟩
end

/-! ### what a def keeps -/
section
variable {α β γ δ ρ : Type} [Rep α] [Rep β] [Rep γ] [Rep δ] [Rep ρ]
def sp1 (K : PySem.W.Frag) (pre : α → Prop) (f : α → ρ) : Sp := fun vs H Q _ => ∃ x v G, vs = [v] ∧ Sub G H ∧ rep K x v G ∧ pre x ∧ ∀ u G' H', Grow G H G' H' → rep K (f x) u G' → Q u H'
def sp2 (K : PySem.W.Frag) (pre : α → β → Prop) (f : α → β → ρ) : Sp := fun vs H Q _ => ∃ x y v w G, vs = [v, w] ∧ Sub G H ∧ rep K x v G ∧ rep K y w G ∧ pre x y ∧ ∀ u G' H', Grow G H G' H' → rep K (f x y) u G' → Q u H'
def sp3 (K : PySem.W.Frag) (pre : α → β → γ → Prop) (f : α → β → γ → ρ) : Sp := fun vs H Q _ => ∃ x y z v w u G, vs = [v, w, u] ∧ Sub G H ∧ rep K x v G ∧ rep K y w G ∧ rep K z u G ∧ pre x y z ∧ ∀ r G' H', Grow G H G' H' → rep K (f x y z) r G' → Q r H'
def sp0 (K : PySem.W.Frag) (f : ρ) : Sp := fun vs H Q _ => vs = [] ∧ ∃ G, Sub G H ∧ ∀ u G' H', Grow G H G' H' → rep K f u G' → Q u H'
variable {K : PySem.W.Frag} {σ : L2.St} {G : Hp} {ta tb tc : TE} {E : XK}
theorem ev_call1 {x : α} {pre : α → Prop} {f : α → ρ} (ha : EvR K ta σ G x) (hp : pre x) : EvR K (tCall (sp1 K pre f) [] E (tCons ta tNil)) σ G (f x) := fun H e Q q =>
  ha H e _ fun v G1 H1 g1 r1 => ⟨x, v, G1, rfl, g1.s, r1, hp, fun u G2 H2 g2 r2 => q u G2 H2 (g1.trans g2) r2⟩
theorem ev_call2 {x : α} {y : β} {pre : α → β → Prop} {f : α → β → ρ} (ha : EvR K ta σ G x) (hb : EvR K tb σ G y) (hp : pre x y) : EvR K (tCall (sp2 K pre f) [] E (tCons ta (tCons tb tNil))) σ G (f x y) := fun H e Q q =>
  ha H e _ fun v G1 H1 g1 r1 => hb.mono g1.g H1 g1.s _ fun w G2 H2 g2 r2 => ⟨x, y, v, w, G2, rfl, g2.s, up g2.g r1, r2, hp, fun u G3 H3 g3 r3 => q u G3 H3 ((g1.trans g2).trans g3) r3⟩
theorem ev_call3 {x : α} {y : β} {z : γ} {pre : α → β → γ → Prop} {f : α → β → γ → ρ} (ha : EvR K ta σ G x) (hb : EvR K tb σ G y) (hc : EvR K tc σ G z) (hp : pre x y z) :
    EvR K (tCall (sp3 K pre f) [] E (tCons ta (tCons tb (tCons tc tNil)))) σ G (f x y z) := fun H e Q q =>
  ha H e _ fun v G1 H1 g1 r1 => hb.mono g1.g H1 g1.s _ fun w G2 H2 g2 r2 => hc.mono (g1.g.trans g2.g) H2 g2.s _ fun u G3 H3 g3 r3 =>
    ⟨x, y, z, v, w, u, G3, rfl, g3.s, up (g2.g.trans g3.g) r1, up g3.g r2, r3, hp, fun u G4 H4 g4 r4 => q u G4 H4 (((g1.trans g2).trans g3).trans g4) r4⟩
theorem ev_call0 {f : ρ} : EvR K (tCall (sp0 K f) [] E tNil) σ G f := fun H e Q q => ⟨rfl, G, e, fun u G' H' g r => q u G' H' g r⟩
end

/-! ### statements -/
section
variable {α β : Type} [Rep α] [Rep β] {K : PySem.W.Frag} {σ : L2.St} {G H : Hp} {te ta tl : TE} {tt : TT} {t u tb : TS} {D : Ends} {x : α} {b : Bool} {i j : Nat} {a : Addr}
theorem s_seq (h : t { D with nx := u D } σ H) : tSeq t u D σ H := h
theorem s_next (h : D.nx σ H) : tNext D σ H := h
theorem s_asg (e : Sub G H) (h : EvR K te σ G x) (k : ∀ v G' H', Grow G H G' H' → rep K x v G' → D.nx (σ.set i (some v)) H') : tAsg te (gName i) D σ H := h H e _ k
theorem s_drop (e : Sub G H) (h : EvR K te σ G x) (k : ∀ G' H', Grow G H G' H' → D.nx σ H') : tDrop te D σ H := h H e _ fun _ G' H' g _ => k G' H' g
theorem s_ret (e : Sub G H) (h : EvR K te σ G x) (k : ∀ v G' H', Grow G H G' H' → rep K x v G' → D.rt v H') : tRet te D σ H := h H e _ k
theorem s_if (e : Sub G H) (h : EvB tt σ G b) (k1 : b = true → ∀ G' H', Grow G H G' H' → t D σ H') (k2 : b = false → ∀ G' H', Grow G H G' H' → u D σ H') : tIfS tt t u D σ H := h H e _ fun G' H' g => by
  cases b with
  | true => exact iteT (k1 rfl G' H' g)
  | false => exact iteF (k2 rfl G' H' g)
/-- a new list that is still to be filled -/
theorem s_new (k : ∀ p, H p = none → D.nx (σ.set i (some (.ref p))) (upd H p (.lst []))) : tAsg (tLst tNil) (gName i) D σ H := ⟨Nat.zero_le _, fun p hp => k p hp⟩
theorem s_app {xs : List V} (e : Sub G H) (hi : σ[i]? = some (some (.ref a))) (ha : H a = some (.lst xs)) (hz : xs.length < sizeLine) (h : EvR K te σ G x)
    (k : ∀ v G' H', Grow G H G' H' → rep K x v G' → D.nx σ (upd H' a (.lst (xs ++ [v])))) : tDrop (tBM K "list" rAppend (tVar i) (tCons te tNil)) D σ H :=
  ⟨.ref a, hi, .inl ⟨rfl, xs, SqL.of ha⟩, h H e _ fun v G' H' g r => ⟨a, xs, v, rfl, rfl, g.h.l ha, hz, k v G' H' g r⟩⟩
/-- the same, told of the def's entry -/
theorem s_newF {Ge He : Hp} (gr : Grow Ge He G H) (k : ∀ p H2, He p = none → G p = none → H p = none → H2 p = some (.lst []) → Grow Ge He G H2 → Kept H H2 → D.nx (σ.set i (some (.ref p))) H2) : tAsg (tLst tNil) (gName i) D σ H :=
  s_new fun p hp => k p _ (gr.h.free hp) (gr.s.free hp) hp upd_same (gr.loose hp) (kept_upd hp)
theorem s_appF {Ge He : Hp} {xs : List V} {l : List α} (gr : Grow Ge He G H) (hF : He a = none) (hN : G a = none) (hi : σ[i]? = some (some (.ref a))) (ha : H a = some (.lst xs)) (hl : Reps K l xs G) (hz : l.length < sizeLine) (h : EvR K te σ G x)
    (k : ∀ G' H' H2 zs, Grow G H G' H' → Grow Ge He G' H2 → G' a = none → H2 a = some (.lst zs) → Reps K (l ++ [x]) zs G' → (∀ b, b ≠ a → H2 b = H' b) → D.nx σ H2) : tDrop (tBM K "list" rAppend (tVar i) (tCons te tNil)) D σ H :=
  s_app gr.s hi ha (by rw [← paired_len hl]; exact hz) h fun v G' H' g r => k G' H' _ _ g ((gr.trans g).mut hF (g.f _ _ ha hN) (lst_no (g.h.l ha))) (g.f _ _ ha hN) upd_same (paired_append (hl.up g.g) (.cons r .nil)) fun b hb => upd_ne hb
omit [Tb] in
theorem fix_rep {zs : List V} {l : List α} (r : Reps K l zs G) (n : G a = none) : rep K l (V.ref a) (upd G a (.lst zs)) := ⟨a, zs, rfl, upd_same, Reps.up (same_upd n) r⟩
/-- loops -/
theorem s_forL {l : List α} {g : TG} (e : Sub G H) (h : EvR K tl σ G l) (k : ∀ G1 H1 xs, Grow G H G1 H1 → Reps K l xs G1 → ∃ Pv : Nat → L2.St → Hp → Prop, Pv 0 σ H1 ∧ (∀ i σ' H', Pv i σ' H' → Sub G1 H') ∧
    (∀ i x v σ' H', l[i]? = some x → rep K x v G1 → Pv i σ' H' → g v σ' H' fun σ2 H2 => tb { D with nx := Pv (i + 1), ct := Pv (i + 1), bk := D.nx } σ2 H2) ∧ ∀ σ' H', Pv l.length σ' H' → D.nx σ' H') : tFor (iList K tl) g tb D σ H :=
  h H e _ fun v G1 H1 g1 ⟨a, xs, ev, hA, r⟩ => by
    obtain ⟨Pv, p0, ps, pt, pe⟩ := k G1 H1 xs g1 r
    refine ⟨a, ev, ⟨xs, SqL.of (g1.s _ _ hA)⟩, for_list (K := K) (a := a) (xs := xs) Pv p0 (fun i σ' H' _ p => SqL.of (ps i σ' H' p _ _ hA)) (fun i v σ' H' hi p => ?_) fun σ' H' p => pe σ' H' (by rw [paired_len r]; exact p)⟩
    obtain ⟨x, hx, rx⟩ := paired_get r hi
    exact pt i x v σ' H' hx rx p
theorem s_forT {l : Tpl α} {g : TG} (e : Sub G H) (h : EvR K tl σ G l) (k : ∀ G1 H1 xs, Grow G H G1 H1 → Reps K l.l xs G1 → ∃ Pv : Nat → L2.St → Hp → Prop, Pv 0 σ H1 ∧ (∀ i σ' H', Pv i σ' H' → Sub G1 H') ∧
    (∀ i x v σ' H', l.l[i]? = some x → rep K x v G1 → Pv i σ' H' → g v σ' H' fun σ2 H2 => tb { D with nx := Pv (i + 1), ct := Pv (i + 1), bk := D.nx } σ2 H2) ∧ ∀ σ' H', Pv l.l.length σ' H' → D.nx σ' H') : tFor (iTup K tl) g tb D σ H :=
  h H e _ fun v G1 H1 g1 ⟨a, xs, ev, hA, r⟩ => by
    obtain ⟨Pv, p0, ps, pt, pe⟩ := k G1 H1 xs g1 r
    refine ⟨a, ev, ⟨xs, sqT_mono g1.s.get hA⟩, for_tup (K := K) (a := a) (xs := xs) Pv p0 (fun i σ' H' _ p => sqT_mono (ps i σ' H' p).get hA) (fun i v σ' H' hi p => ?_) fun σ' H' p => pe σ' H' (by rw [paired_len r]; exact p)⟩
    obtain ⟨x, hx, rx⟩ := paired_get r hi
    exact pt i x v σ' H' hx rx p
theorem s_forR1 {n : Int} (e : Sub G H) (h : EvR K te σ G n) (hn : -(2 ^ 62) ≤ n ∧ n < 2 ^ 62) (k : ∀ G1 H1, Grow G H G1 H1 → ∃ Pv : Nat → L2.St → Hp → Prop, Pv 0 σ H1 ∧
    (∀ (i : Nat) σ' H', (i : Int) < n → Pv i σ' H' → tb { D with nx := Pv (i + 1), ct := Pv (i + 1), bk := D.nx } (σ'.set j (some (.int (i : Int)))) H') ∧ ∀ σ' H', Pv n.toNat σ' H' → D.nx σ' H') : tFor (iRng1 (tCons te tNil)) (gName j) tb D σ H :=
  h H e _ fun v G1 H1 g1 r => by
    obtain ⟨Pv, p0, pt, pe⟩ := k G1 H1 g1
    refine ⟨n, by rw [show v = V.int n from r], hn.1, hn.2, for_range (lo := 0) (n := n.toNat) Pv p0 (fun i σ' H' hi p => ?_) pe⟩
    show tb _ (σ'.set j (some (.int (0 + (i : Int))))) H'
    rw [Int.zero_add]
    exact pt i σ' H' (by omega) p
theorem s_forR2 {m n : Int} (e : Sub G H) (h : EvR K ta σ G m) (h2 : EvR K te σ G n) (hn : -(2 ^ 62) ≤ m ∧ m < 2 ^ 62 ∧ -(2 ^ 62) ≤ n ∧ n < 2 ^ 62) (k : ∀ G1 H1, Grow G H G1 H1 → ∃ Pv : Nat → L2.St → Hp → Prop, Pv 0 σ H1 ∧
    (∀ (i : Nat) σ' H', m + (i : Int) < n → Pv i σ' H' → tb { D with nx := Pv (i + 1), ct := Pv (i + 1), bk := D.nx } (σ'.set j (some (.int (m + (i : Int))))) H') ∧ ∀ σ' H', Pv (n - m).toNat σ' H' → D.nx σ' H') : tFor (iRng2 (tCons ta (tCons te tNil))) (gName j) tb D σ H :=
  h H e _ fun v G1 H1 g1 r => (h2.mono g1.g) H1 g1.s _ fun v2 G2 H2 g2 r2 => by
    obtain ⟨Pv, p0, pt, pe⟩ := k G2 H2 (g1.trans g2)
    refine ⟨m, n, by rw [show v = V.int m from r, show v2 = V.int n from r2], hn, for_range (lo := m) (n := (n - m).toNat) Pv p0 (fun i σ' H' hi p => pt i σ' H' (by omega) p) pe⟩
end

/-! ### comprehensions -/
section
variable {α β : Type} [Rep α] [Rep β] {K : PySem.W.Frag} {σ : L2.St} {G H : Hp} {te tl ta : TE} {tt : TT} {j : Nat} {vs : List Nat}
/-- the list at Dl while it is filled -/
def Lc (K : PySem.W.Frag) (G1 H1 : Hp) (Dl : Addr) (ys : List β) (H' : Hp) : Prop := ∃ G' zs, Grow G1 H1 G' H' ∧ G' Dl = none ∧ H' Dl = some (.lst zs) ∧ Reps K ys zs G'
theorem lc_start {G1 H1 : Hp} {Dl : Addr} (s : Sub G1 H1) (h : H1 Dl = none) : Lc (β := β) K G1 H1 Dl [] (upd H1 Dl (.lst [])) := ⟨G1, [], (Grow.refl s).loose h, s.free h, upd_same, .nil⟩
theorem lc_end {G1 H1 H' : Hp} {Dl : Addr} {ys : List β} (h : H1 Dl = none) (p : Lc K G1 H1 Dl ys H') : ∃ G', Grow G1 H1 G' H' ∧ rep K ys (V.ref Dl) G' := by
  obtain ⟨G', zs, g, n, e, r⟩ := p
  exact ⟨upd G' Dl (.lst zs), g.fix h n e, Dl, zs, rfl, upd_same, r.up (same_upd n)⟩
theorem lc_turn {G1 H1 H' : Hp} {Dl : Addr} {ys : List β} {σ2 : L2.St} {b : Bool} {y : β} (h : H1 Dl = none) (p : Lc K G1 H1 Dl ys H') (hl : ys.length < sizeLine) (ht : EvB tt σ2 G1 b) (he : b = true → EvR K te σ2 G1 y) {N : Hp → Prop}
    (hN : ∀ H2, Lc K G1 H1 Dl (cond b (ys ++ [y]) ys) H2 → N H2) :
    tt σ2 H' fun b H3 => if b = true then te σ2 H3 fun y H4 => ∃ acc, H4 Dl = some (.lst acc) ∧ acc.length < sizeLine ∧ N (upd H4 Dl (.lst (acc ++ [y]))) else N H3 := by
  obtain ⟨G', zs, g, n, e, r⟩ := p
  refine ht.mono g.g H' g.s _ fun G3 H3 g3 => ?_
  have g13 := g.trans g3
  have n3 : G3 Dl = none := g3.f _ _ e n
  cases b with
  | true =>
    refine iteT ?_
    refine (he rfl).mono g13.g H3 g13.s _ fun v G4 H4 g4 r4 => ?_
    have e4 := g4.h.l (g3.h.l e)
    have n4 : G4 Dl = none := g4.f _ _ (g3.h.l e) n3
    exact ⟨zs, e4, by rw [← paired_len r]; exact hl, hN _ ⟨G4, zs ++ [v], (g13.trans g4).mut h n4 (lst_no e4), n4, upd_same, paired_append (r.up (g3.g.trans g4.g)) (.cons r4 .nil)⟩⟩
  | false =>
    refine iteF (hN _ ⟨G3, zs, g13, n3, g3.h.l e, r.up g3.g⟩)
omit [Tb] in
theorem take_snoc {α : Type} {l : List α} {i : Nat} {x : α} (h : l[i]? = some x) : l.take (i + 1) = l.take i ++ [x] := by
  rw [List.take_add_one, h]
  rfl
omit [Tb] in
theorem filt_snoc {α β : Type} (f : α → Bool) (g : α → β) (l : List α) (x : α) : ((l ++ [x]).filter f).map g = cond (f x) ((l.filter f).map g ++ [g x]) ((l.filter f).map g) := by
  rw [List.filter_append, List.map_append]
  cases h : f x with
  | true => simp [h]
  | false => simp [h]
theorem ev_lcL {l : List α} {g : TG} (f : α → Bool) (h : α → β) (hl : EvR K tl σ G l) (hz : l.length < sizeLine)
    (ht : ∀ x v G' H', Same G G' → Sub G' H' → x ∈ l → rep K x v G' → ∀ (P : L2.St → Hp → Prop), (∀ σ2, wipe σ2 vs = wipe σ vs → EvB tt σ2 G' (f x) → (f x = true → EvR K te σ2 G' (h x)) → P σ2 H') → g v (wipe σ vs) H' P) :
    EvR K (tLc (iList K tl) g tt te vs) σ G ((l.filter f).map h) := fun H e Q q =>
  hl H e _ fun v G1 H1 g1 ⟨a, xs, ev, hA, r⟩ => ⟨a, ev, ⟨xs, SqL.of (g1.s _ _ hA)⟩, fun Dl hD =>
    lc_list (K := K) (a := a) (xs := xs) (fun i H' => Lc K G1 H1 Dl (((l.take i).filter f).map h) H') (lc_start g1.s hD) (fun i H' _ ⟨G', zs, g, _, _, _⟩ => SqL.of (g.s _ _ (g.g _ _ hA))) (fun i v H' hi p => by
      obtain ⟨x, hx, rx⟩ := paired_get r hi
      obtain ⟨G', zs, g', n', e', r'⟩ := id p
      refine ht x v G1 H' g1.g (un g'.g g'.s) (List.mem_of_getElem? hx) rx _ fun σ2 hw hb he => ⟨hw, ?_⟩
      refine lc_turn hD p ?_ hb he fun H2 p2 => ?_
      · rw [List.length_map]
        exact Nat.lt_of_le_of_lt (Nat.le_trans (List.length_filter_le _ _) (by rw [List.length_take]; exact Nat.min_le_right _ _)) hz
      · rw [take_snoc hx, filt_snoc]
        exact p2) fun H' p => by
      obtain ⟨G', g', r'⟩ := lc_end hD p
      refine q _ G' H' (g1.trans g') ?_
      rw [show l = l.take xs.length by rw [← paired_len r, List.take_length]]
      exact r'⟩
theorem ev_lcT {l : Tpl α} {g : TG} (f : α → Bool) (h : α → β) (hl : EvR K tl σ G l) (hz : l.l.length < sizeLine)
    (ht : ∀ x v G' H', Same G G' → Sub G' H' → x ∈ l.l → rep K x v G' → ∀ (P : L2.St → Hp → Prop), (∀ σ2, wipe σ2 vs = wipe σ vs → EvB tt σ2 G' (f x) → (f x = true → EvR K te σ2 G' (h x)) → P σ2 H') → g v (wipe σ vs) H' P) :
    EvR K (tLc (iTup K tl) g tt te vs) σ G ((l.l.filter f).map h) := fun H e Q q =>
  hl H e _ fun v G1 H1 g1 ⟨a, xs, ev, hA, r⟩ => ⟨a, ev, ⟨xs, sqT_mono g1.s.get hA⟩, fun Dl hD =>
    lc_tup (K := K) (a := a) (xs := xs) (fun i H' => Lc K G1 H1 Dl (((l.l.take i).filter f).map h) H') (lc_start g1.s hD) (fun i H' _ ⟨G', zs, g, _, _, _⟩ => sqT_mono (un g.g g.s).get hA) (fun i v H' hi p => by
      obtain ⟨x, hx, rx⟩ := paired_get r hi
      obtain ⟨G', zs, g', n', e', r'⟩ := id p
      refine ht x v G1 H' g1.g (un g'.g g'.s) (List.mem_of_getElem? hx) rx _ fun σ2 hw hb he => ⟨hw, ?_⟩
      refine lc_turn hD p ?_ hb he fun H2 p2 => ?_
      · rw [List.length_map]
        exact Nat.lt_of_le_of_lt (Nat.le_trans (List.length_filter_le _ _) (by rw [List.length_take]; exact Nat.min_le_right _ _)) hz
      · rw [take_snoc hx, filt_snoc]
        exact p2) fun H' p => by
      obtain ⟨G', g', r'⟩ := lc_end hD p
      refine q _ G' H' (g1.trans g') ?_
      rw [show l.l = l.l.take xs.length by rw [← paired_len r, List.take_length]]
      exact r'⟩
/-- the ints of range(n), of range(m, n) -/
def rgs (m n : Int) : List Int := (List.range (n - m).toNat).map fun (i : Nat) => m + (i : Int)
omit [Tb] in
theorem rgs_snoc (m : Int) (i : Nat) : ((List.range (i + 1)).map fun (i : Nat) => m + (i : Int)) = ((List.range i).map fun (i : Nat) => m + (i : Int)) ++ [m + (i : Int)] := by
  rw [List.range_succ, List.map_append]
  rfl
omit [Tb] in
theorem mem_rgs {m n x : Int} : x ∈ rgs m n ↔ m ≤ x ∧ x < n := by
  unfold rgs
  rw [List.mem_map]
  constructor
  · rintro ⟨i, hi, rfl⟩
    have := List.mem_range.mp hi
    omega
  · intro h
    exact ⟨(x - m).toNat, List.mem_range.mpr (by omega), by omega⟩
theorem lc_rgs {G1 H1 : Hp} {σ : L2.St} {g : TG} {Dl : Addr} {m n : Int} (f : Int → Bool) (h : Int → β) (hs : Sub G1 H1) (hD : H1 Dl = none) (hz : (n - m).toNat < sizeLine) {Qd : Hp → Prop}
    (ht : ∀ x H', m ≤ x → x < n → Sub G1 H' → ∀ (P : L2.St → Hp → Prop), (∀ σ2, wipe σ2 vs = wipe σ vs → EvB tt σ2 G1 (f x) → (f x = true → EvR K te σ2 G1 (h x)) → P σ2 H') → g (.int x) (wipe σ vs) H' P)
    (hd : ∀ G' H', Grow G1 H1 G' H' → rep K (((rgs m n).filter f).map h) (V.ref Dl) G' → Qd H') :
    ∃ W : Nat → Nat → Hp → Prop, (∃ m, W 0 m (upd H1 Dl (.lst []))) ∧ ∀ i k H, W i k H →
      ((Itr m (n - m).toNat).stop i H ∧ Qd H) ∨ ((Itr m (n - m).toNat).go i H ∧ ∃ Nx : Hp → Prop, (∀ H', Nx H' → ∃ m', m' < k ∧ W (i + 1) m' H') ∧ ∀ x H', (Itr m (n - m).toNat).yld i H x H' → g x (wipe σ vs) H' fun σ2 H2 => wipe σ2 vs = wipe σ vs ∧ tt σ2 H2 fun b H3 =>
        if b = true then te σ2 H3 fun y H4 => ∃ acc, H4 Dl = some (.lst acc) ∧ acc.length < sizeLine ∧ Nx (upd H4 Dl (.lst (acc ++ [y]))) else Nx H3) :=
  lc_range (lo := m) (n := (n - m).toNat) (fun i H' => Lc K G1 H1 Dl ((((List.range i).map fun (i : Nat) => m + (i : Int)).filter f).map h) H') (lc_start hs hD) (fun i H' hi p => by
      obtain ⟨G', zs, g', n', e', r'⟩ := id p
      refine ht (m + (i : Int)) H' (by omega) (by omega) (un g'.g g'.s) _ fun σ2 hw hb he => ⟨hw, ?_⟩
      refine lc_turn hD p ?_ hb he fun H2 p2 => ?_
      · rw [List.length_map]
        exact Nat.lt_of_le_of_lt (Nat.le_trans (List.length_filter_le _ _) (by rw [List.length_map, List.length_range]; omega)) hz
      · rw [rgs_snoc, filt_snoc]
        exact p2) fun H' p => by
      obtain ⟨G', g', r'⟩ := lc_end hD p
      exact hd G' H' g' r'
theorem ev_lcR1 {n : Int} {g : TG} (f : Int → Bool) (h : Int → β) (hl : EvR K te σ G n) (hn : n < 16777216 ∧ -16777216 < n) {tf : TE}
    (ht : ∀ x G' H', 0 ≤ x → x < n → Same G G' → Sub G' H' → ∀ (P : L2.St → Hp → Prop), (∀ σ2, wipe σ2 vs = wipe σ vs → EvB tt σ2 G' (f x) → (f x = true → EvR K tf σ2 G' (h x)) → P σ2 H') → g (.int x) (wipe σ vs) H' P) :
    EvR K (tLc (iRng1 (tCons te tNil)) g tt tf vs) σ G (((rgs 0 n).filter f).map h) := fun H e Q q =>
  hl H e _ fun v G1 H1 g1 r => ⟨n, by rw [show v = V.int n from r], by omega, by omega, fun Dl hD => by
    have hh := lc_rgs (K := K) (tt := tt) (te := tf) (vs := vs) (σ := σ) (g := g) (m := 0) (n := n) f h g1.s hD (by rw [sizeLine_eq]; omega) (Qd := fun H' => Q (.ref Dl) H') (fun x H' h1 h2 s P k => ht x G1 H' h1 h2 g1.g s P k) (fun G' H' g' r' => q _ G' H' (g1.trans g') r')
    rw [Int.sub_zero] at hh
    exact hh⟩
theorem ev_lcR2 {m n : Int} {g : TG} (f : Int → Bool) (h : Int → β) (hl : EvR K ta σ G m) (hh : EvR K te σ G n) (hn : -16777216 < m ∧ m < 16777216 ∧ n < 16777216 ∧ -16777216 < n ∧ n - m < 16777216) {tf : TE}
    (ht : ∀ x G' H', m ≤ x → x < n → Same G G' → Sub G' H' → ∀ (P : L2.St → Hp → Prop), (∀ σ2, wipe σ2 vs = wipe σ vs → EvB tt σ2 G' (f x) → (f x = true → EvR K tf σ2 G' (h x)) → P σ2 H') → g (.int x) (wipe σ vs) H' P) :
    EvR K (tLc (iRng2 (tCons ta (tCons te tNil))) g tt tf vs) σ G (((rgs m n).filter f).map h) := fun H e Q q =>
  hl H e _ fun v G1 H1 g1 r => hh.mono g1.g H1 g1.s _ fun v2 G2 H2 g2 r2 => ⟨m, n, by rw [show v = V.int m from r, show v2 = V.int n from r2], by omega, fun Dl hD =>
    lc_rgs (K := K) (tt := tt) (te := tf) (vs := vs) (σ := σ) (g := g) (m := m) (n := n) f h g2.s hD (by rw [sizeLine_eq]; omega) (Qd := fun H' => Q (.ref Dl) H') (fun x H' h1 h2 s P k => ht x G2 H' h1 h2 (g1.g.trans g2.g) s P k) (fun G' H' g' r' => q _ G' H' ((g1.trans g2).trans g') r')⟩
theorem eb_yes : EvB tYes σ G true := fun H e Q q => q G H (Grow.refl e)
end
end RL

set_option Elab.async false
set_option linter.all false
set_option maxRecDepth 100000
set_option maxHeartbeats 4000000
namespace RL
open PySem PySem.Spec PyProof.Rows L2
open Rep (rep)
/-! ### set(l), l a list of texts, of any length below the scan's bound; its size -/
/-- each text once -/
def once : List Str → List Str
  | [] => []
  | x :: l => if x ∈ l then once l else x :: once l
theorem once_mem {y : Str} : ∀ {l : List Str}, y ∈ once l ↔ y ∈ l
  | [] => Iff.rfl
  | x :: l => by
    unfold once
    by_cases h : x ∈ l
    · rw [if_pos h, once_mem (l := l), List.mem_cons]
      exact ⟨.inr, fun e => e.elim (fun q => q ▸ h) id⟩
    · rw [if_neg h, List.mem_cons, List.mem_cons, once_mem (l := l)]
theorem once_le : ∀ l : List Str, (once l).length ≤ l.length
  | [] => Nat.le_refl _
  | x :: l => by
    unfold once
    have := once_le l
    by_cases h : x ∈ l
    · rw [if_pos h, List.length_cons]; omega
    · rw [if_neg h, List.length_cons, List.length_cons]; omega
theorem once_lt : ∀ {l : List Str}, (once l).length < l.length ↔ ¬ l.Nodup
  | [] => by simp [once]
  | x :: l => by
    unfold once
    have h0 := once_le l
    rw [List.nodup_cons]
    by_cases h : x ∈ l
    · rw [if_pos h, List.length_cons]
      exact ⟨fun _ q => q.1 h, fun _ => by omega⟩
    · rw [if_neg h, List.length_cons, List.length_cons]
      have ih := once_lt (l := l)
      constructor
      · intro q r
        exact ih.mp (by omega) r.2
      · intro q
        have : ¬ l.Nodup := fun r => q ⟨h, r⟩
        have := ih.mpr this
        omega
/-- read from the left: the count behind i items -/
def onceN (l : List Str) (i : Nat) : Nat := (once (l.take i).reverse).length
theorem onceN_zero (l : List Str) : onceN l 0 = 0 := by simp [onceN, once]
theorem onceN_succ {l : List Str} {i : Nat} {x : Str} (h : l[i]? = some x) : onceN l (i + 1) = if decide (x ∈ l.take i) = true then onceN l i else onceN l i + 1 := by
  unfold onceN
  rw [take_snoc h, List.reverse_append, List.reverse_cons, List.reverse_nil, List.nil_append, List.singleton_append]
  by_cases q : x ∈ l.take i
  · rw [if_pos (decide_eq_true q)]
    show (if x ∈ (l.take i).reverse then _ else _ : List Str).length = _
    rw [if_pos (List.mem_reverse.mpr q)]
  · rw [if_neg (by simpa using q)]
    show (if x ∈ (l.take i).reverse then _ else _ : List Str).length = _
    rw [if_neg (fun z => q (List.mem_reverse.mp z))]
    rfl
theorem onceN_le (l : List Str) (i : Nat) : onceN l i ≤ i := by
  have h := once_le (l.take i).reverse
  rw [List.length_reverse, List.length_take] at h
  unfold onceN
  omega
theorem onceN_all {l : List Str} : onceN l l.length < l.length ↔ ¬ l.Nodup := by
  unfold onceN
  rw [List.take_length]
  have h := once_lt (l := l.reverse)
  rw [List.length_reverse] at h
  have e : l.reverse.Nodup ↔ l.Nodup := by
    unfold List.Nodup
    rw [List.pairwise_reverse]
    exact ⟨fun q => q.imp fun z => Ne.symm z, fun q => q.imp fun z => Ne.symm z⟩
  rw [e] at h
  exact h
section
variable {prog : Program} {w : World} {A : Around} {R : Result → Shared → Prop} {it : Addr} {seen made : List Addr} {G : Array GenState → Array GenState → Prop} {n : Nat} {P : Nat → Value → Prop} {St : Nat → Shared → Prop}
theorem set_at {h h' : Heap} {a : Addr} {S : Str → Bool} {c : Nat} (q : h.SetOf (PySem.strKind prog w) a S c) (k : ∀ o, h.get? a = some o → h'.get? a = some o) : h'.SetOf (PySem.strKind prog w) a S c := by
  obtain ⟨o, es, ep, t, ho, r⟩ := q
  exact ⟨o, es, ep, t, k o ho, r⟩
/-- the loop that puts the texts in, from the i-th on -/
theorem set_fill (W : WalksS prog w A.in1 it seen made G n P St) (b : Addr) (hb : b ∉ seen) (l : List Str) (hn : l.length = n) (room : n + 1 < scanBound) (val : ∀ i v, P i v → ∃ x t, l[i]? = some x ∧ v = .str x t) (m : Nat) : ∀ (i : Nat) (s : Shared), n - i = m → i ≤ n → St i s →
      s.heap.SetOf (PySem.strKind prog w) b (fun y => decide (y ∈ l.take i)) (onceN l i) →
      (∀ s', Moved (b :: made) G s s' → s'.heap.SetOf (PySem.strKind prog w) b (fun y => decide (y ∈ l.take n)) (onceN l n) → R (.ok (.ret .none)) s') →
      codeAny (model prog w) A (.builtin "set.update.loop" ⟨[.ref b, .ref it], []⟩) R s := by
  have b_made : b ∉ made := fun z => hb (W.sub _ z)
  have more : ∀ c ∈ made, c ∈ b :: made := fun _ z => .tail _ z
  induction m with
  | zero =>
    intro i s em hi st hset fin
    obtain rfl : i = n := by omega
    refine codeAny_builtin F.entry_set_update_loop ?_; rw [Around.under_plainId F.plain_set_update_loop _]
    show wpAny _ A.in1 (pyNext (.ref it) >>= _) _ _ s; refine wpAny_bind (W.done s _ _ st fun s1 mv => ?_)
    show wpAny _ A.in1 (ret Value.none) _ _ s1; exact wpAny_pure (fin s1 (mv.mono more) (set_at hset fun o e => mv.heap b o b_made e))
  | succ m ih =>
    intro i s em hi st hset fin
    have lt : i < n := by omega
    refine codeAny_builtin F.entry_set_update_loop ?_; rw [Around.under_plainId F.plain_set_update_loop _]
    show wpAny _ A.in1 (pyNext (.ref it) >>= _) _ _ s; refine wpAny_bind (W.item i s _ _ lt st fun v s1 pv st1 mv => ?_)
    obtain ⟨x, t, hx, rfl⟩ := val i v pv
    have hset1 := set_at hset fun o e => mv.heap b o b_made e
    show wpAny _ A.in1 (holding [Value.str x t] (setAdd b (.str x t)) >>= _) _ _ s1
    refine wpAny_bind (wpAny_holding ?_); unfold setAdd; refine wpAny_holding (wpAny_bind ((PySem.strKind prog w).pyHash (k := x) (strKind_is _ _ _ _) ?_))
    have le := onceN_le l i
    refine wpAny_setAddHashed_of (knd := PySem.strKind prog w) (s := { s1 with toks := s1.toks + 1 }) (strKind_is _ _ _ _) rfl hset1 (by omega) fun h2 only hset2 => ?_
    have hset3 : h2.SetOf (PySem.strKind prog w) b (fun y => decide (y ∈ l.take (i + 1))) (onceN l (i + 1)) := by
      rw [onceN_succ hx]
      refine PyProof.Rows.SetOf_congr hset2 (fun y => ?_) rfl
      rw [take_snoc hx]
      by_cases e : y = x
      · simp [e]
      · simp [e]
    refine wpAny_pure ⟨plainId_quiet F.plain_set_update_loop _, ih (i + 1) _ (by omega) lt (W.frame _ s1 _ _ st1 (Nat.le_succ _) fun c hc o e => (only.2 c (fun z : c = b => hb (z ▸ hc))).trans e) hset3 fun s3 mv3 hset4 => ?_⟩
    exact fin s3 (Moved.trans W.gtrans ((mv.mono more).then_heap (Nat.le_succ _) fun c o hc e => (only.2 c (fun z : c = b => hc (z ▸ List.mem_cons_self))).trans e) mv3) hset4
end
section
variable {prog : Program} {w : World} {A : Around} {E : Value → Shared → Prop} {s : Shared}
set_option maxHeartbeats 3200000 in
theorem call_set_texts {l : Addr} {items : Array Value} {xs : List Str} {Q : Value → Shared → Prop} (calm : A.handled = none) (hl : s.heap.IsList l items) (hi : StrsAre items.toList xs) (room : xs.length + 1 < scanBound)
    (fin : ∀ (h' : Heap) (tk : Nat), h'.SetOf (PySem.strKind prog w) s.heap.objs.size (fun y => decide (y ∈ xs)) (onceN xs xs.length) → (∀ b o, b < s.heap.objs.size → s.heap.get? b = some o → h'.get? b = some o) →
      Q (.ref s.heap.objs.size) { s with heap := h', toks := tk }) : wpAny (model prog w) A (call (.type "set") [.ref l]) Q E s := by
  have size : xs.length = items.size := by rw [← PyProof.Rows.StrsAre.len_eq hi, Array.length_toList]
  obtain ⟨c, tl, hmro⟩ := PySem.F.called_set.mro; have hmade := PySem.F.called_set.made; have hsub := PySem.F.called_set.sub
  refine wpAny_call (codeAny_of_tree ?_); show wpAny _ _ (callAny (.type "set") _) _ _ _
  refine wpAny_pure ⟨Code.quiet_builtin _ (by decide +kernel), codeAny_builtin PySem.F.entry_type_call ?_⟩; rw [Around.under_plain (weight_type_call_type "set" [.ref l] []) rfl]
  have k1 := PySem.F.called_set.notType; have k2 := PySem.F.called_set.canCreate; have k3 := PySem.F.typeCall_set_1 (.ref l)
  repeat (any_goals (first | assumption | wp_step))
  obtain ⟨o0, e0⟩ : ∃ o0 : Bool → Obj, o0 = fun led => { cls := .type "set", dict := none, data := .set #[] 0 (.fresh 0 0 led) } := ⟨_, rfl⟩
  refine codeAny_mono (code_set_new_1 (.ref l) (E := E) (Q₁ := fun v s1 => ∃ led : Bool, v = .ref s.heap.objs.size ∧ s1 = { s with heap := s.heap.push { cls := .type "set", dict := none, data := .set #[] 0 (.fresh 0 0 led) } }) fun led => ⟨led, rfl, rfl⟩) fun r s1 hr => ?_
  cases r with
  | error e => exact hr
  | ok fl =>
    cases fl with
    | ret v =>
      obtain ⟨led, rfl, rfl⟩ := hr
      have hnew : (s.heap.push { cls := .type "set", dict := none, data := .set #[] 0 (.fresh 0 0 led) }).get? s.heap.objs.size = some { cls := .type "set", dict := none, data := .set #[] 0 (.fresh 0 0 led) } := Heap.get?_push_size _ rfl
      have hty : Shared.TypeIs { s with heap := s.heap.push { cls := .type "set", dict := none, data := .set #[] 0 (.fresh 0 0 led) } } (.ref s.heap.objs.size) "set" := ⟨_, hnew, rfl⟩
      have k4 := PySem.F.called_set.init.lookup; have k5 := PySem.F.called_set.init.bind (.ref s.heap.objs.size)
      repeat (any_goals (first | assumption | wp_step))
      refine codeAny_mono (codeAny_call_builtin (R := wants (fun r s2 => r = .none ∧ ∃ h' tk, s2 = { s with heap := h', toks := tk } ∧ h'.SetOf (PySem.strKind prog w) s.heap.objs.size (fun y => decide (y ∈ xs)) (onceN xs xs.length) ∧
          (∀ b o, b < s.heap.objs.size → s.heap.get? b = some o → h'.get? b = some o)) E) PySem.F.called_set.init.plain PySem.F.entry_set_init (check_set_init_1 hty ?_)) fun r2 s2 hr2 => ?_
      · obtain ⟨⟨oc, od, oda, osl⟩, ho, hc, nl, hd⟩ := hl
        simp only at hc hd; subst hc hd
        have ho2 : (s.heap.push { cls := .type "set", dict := none, data := .set #[] 0 (.fresh 0 0 led) }).get? l = some { cls := .type "list", dict := od, data := .seq items nl, slots := osl } := Heap.get?_push_of_some _ ho
        have k6 := PySem.F.sub_list_set; have k7 := PySem.F.sub_list_frozenset; have k8 : (Value.type "list" == Value.type "dict") = false := by decide
        have hl2 : (s.heap.push { cls := .type "set", dict := none, data := .set #[] 0 (.fresh 0 0 led) }).IsList l items := ⟨_, ho2, rfl, nl, rfl⟩
        unfold Builtin.«set.__init__» noKeywords Builtin.Frozenset.updateFrom; generalize hpi : pyIter = PI; wp_walk; subst hpi
        refine wpAny_pyIter_list hl2 (wpAny_bind (wpAny_runValue ?_))
        have hlt : l < s.heap.objs.size := Heap.lt_size ho
        have h3 : A.in1.in1.in1.handled = none := by simp [calm]
        have n1 : l ≠ (s.heap.push { cls := .type "set", dict := none, data := .set #[] 0 (.fresh 0 0 led) }).objs.size := by rw [Heap.size_push]; exact Nat.ne_of_lt (Nat.lt_succ_of_lt hlt)
        have n2 : s.heap.objs.size ∉ [(s.heap.push { cls := .type "set", dict := none, data := .set #[] 0 (.fresh 0 0 led) }).objs.size, l] := by
          rw [Heap.size_push]; simp only [List.mem_cons, List.not_mem_nil, or_false, not_or]; exact ⟨Nat.ne_of_lt (Nat.lt_succ_self _), Nat.ne_of_gt hlt⟩
        refine set_fill ((Walks.list h3 _ l n1 items).toS) s.heap.objs.size n2 xs size (by omega) (fun i v hv => ?_) (items.size - 0) 0 _ (by omega) (Nat.zero_le _) ⟨⟨_, Heap.get?_push_size _ rfl, rfl, rfl⟩, (hl2.push _)⟩ ?z0 ?zR
        · have hv2 : items[i]? = some v := hv
          have hlt2 : i < items.size := by
            rw [Array.getElem?_eq_some_iff] at hv2
            exact hv2.1
          obtain ⟨t, et⟩ := SS.strs_at hi i v (by rw [Array.getElem?_toList]; exact hv2)
          refine ⟨xs.getD i Str.empty, t, ?_, et⟩
          rw [List.getD_eq_getElem?_getD, List.getElem?_eq_getElem (by omega : i < xs.length)]
          rfl
        case z0 =>
          have hg : ((s.heap.push { cls := .type "set", dict := none, data := .set #[] 0 (.fresh 0 0 led) }).push { cls := .type "list_iterator", data := .fields #[.ref l, .int 0 0] }).get? s.heap.objs.size = some { cls := .type "set", dict := none, data := .set #[] 0 (.fresh 0 0 led) } := Heap.get?_push_of_some _ hnew
          exact PyProof.Rows.SetOf_congr ((PyProof.Rows.setObjOf_fresh (knd := PySem.strKind prog w) led).setOf hg (by unfold scanBound; omega)) (fun y => by simp) (onceN_zero xs).symm
        case zR =>
          intro s3 mv hset
          rw [← size, List.take_length] at hset
          obtain ⟨h3', g3, d3, t3, os3⟩ := s3
          obtain rfl : g3 = s.gens := mv.gens
          obtain rfl : d3 = s.drawn := mv.drawn
          obtain rfl : os3 = s.os := mv.os
          show wpAny _ _ _ _ _ _; refine wpAny_pure ?_; show wpAny _ _ (ret Value.none) _ _ _
          refine wpAny_pure ⟨rfl, h3', t3, rfl, hset, fun b o hb e => mv.heap b o ?_ (Heap.get?_push_of_some _ (Heap.get?_push_of_some _ e))⟩
          rw [Heap.size_push]; simp only [List.mem_cons, List.not_mem_nil, or_false, not_or]; exact ⟨Nat.ne_of_lt hb, Nat.ne_of_lt (Nat.lt_succ_of_lt hb)⟩
      · cases r2 with
        | error e => exact hr2
        | ok fl2 =>
          cases fl2 with
          | ret r =>
            obtain ⟨rfl, h', tk, rfl, hset, hk⟩ := hr2
            repeat (any_goals (first | assumption | wp_step))
            exact fin _ _ hset hk
          | _ => exact hr2.elim
    | _ => exact hr.elim
end
/-- len(set(xs)), xs a list of texts -/
def tLenSetS (K : PySem.W.Frag) (ta : TE) : TE := fun σ H Q => ta σ H fun x H1 => ∃ l, ∃ xs : List Str, x = .ref l ∧ SqL K H1 l (xs.map V.str) ∧ xs.length + 1 < scanBound ∧ Q (.int (onceN xs xs.length : Nat)) H1
theorem pe_lenSetS {X : Cx} {a : Expr} {ta : TE} {p p2 q pos : Pos} (hc : X.calm = true) (hg : Gl X "len") (hm : X.mg "len" = none) (hg2 : Gl X "set") (hm2 : X.mg "set" = none) (ha : PE X a ta)
    (na : starEach [a] X.env = (false, eval a X.env) :: starEach [] X.env := by rfl) : PE X (.Call (.Name "len" p) [.Call (.Name "set" p2) [a] [] q] [] pos) (tLenSetS X.K ta) := by
  refine ⟨fun pins s σ H Q I h => Call_ (ld_blt I hg hm boot_len (PyProof.Rows.callWith_builtin1 (PyProof.Rows.args_cons (Call_ (ld_blt I hg2 hm2 boot_set ?_)) rfl) rfl rfl))⟩
  refine PyProof.Rows.callWith_type1 (PyProof.Rows.args_cons (thn (ha.run pins s σ H _ I h) fun v s1 ⟨x, H1, I1, r1, l, xs, ex, hq, room, q1⟩ => PyProof.Rows.args_nil ?_) na) na rfl
  subst ex
  cases r1
  obtain ⟨its, r, pl, hz⟩ := I1.list hq
  refine call_set_texts (I1.ok.hd hc) pl.isList (by simpa using strsAre_of r) room fun h' tk hset hk => PyProof.Rows.args_nil ?_
  obtain ⟨o, es, ep, t, ho, hex, hd, _, _, _, hf, hn⟩ := hset
  have I2 : Inv X pins σ H1 { s1 with heap := h', toks := tk } := I1.kept fun b o e => hk b o (Heap.lt_size e) e
  have le := onceN_le xs xs.length
  refine call_len_set ho hex hd hf (by rw [hn]; unfold scanBound at room; omega) ⟨.int (onceN xs xs.length : Nat), H1, I2.tok _, ⟨_, by rw [hn]⟩, q1⟩
theorem ev_lenSetS [Tb] {K : PySem.W.Frag} {σ : L2.St} {G : Hp} {ta : TE} {l : List Str} (ha : EvR K ta σ G l) (hl : l.length + 1 < scanBound) : EvR K (tLenSetS K ta) σ G (onceN l l.length : Int) := fun H e Q q =>
  ha H e _ fun v G1 H1 g1 ⟨a, xs, ev, hA, r⟩ => ⟨a, l, ev, by
    have e2 := reps_flat r
    subst e2
    exact SqL.of (g1.s _ _ hA), hl, q _ G1 H1 g1 rfl⟩
end RL

set_option Elab.async false
set_option linter.all false
set_option maxRecDepth 100000
set_option maxHeartbeats 4000000
namespace RL
open PySem PySem.Spec PyProof.Rows L2
open Rep (rep)
/-! ### own errors: class B(ValueError): pass; class C(B) with an __init__ that calls B.__init__ and stores one field -/
section
variable {X : Cx} {e : Expr} {es : List Expr} {ta : TA} {p p1 p2 pos : Pos}
/-- B.__init__(self, ..), B an own class over ValueError that has none itself -/
theorem pe_baseInit {x : Str} {B : Addr} {mc : Value} {pl : Sem Bool} (hg : Gl X x) (hm : X.mg x = some (.ref B)) (rd : ClX.CRead X.K B mc) (vB : PySem.W.findCls X.K (.ref B) mc "__init__" = some (.val (.builtin "ValueError.__init__"))) (ha : PA X (e :: es) ta)
    (hc : eval (.Call (.Attribute (.Name x p1) "__init__" p2) (e :: es) [] pos) X.env = (do
      let ov ← eval (.Name x p1) X.env
      standAt p2.atName
      let (f, first) ← holding [ov] (getMethod ov "__init__" pl)
      callWith pos f first (backTo pos (starEach (e :: es) X.env)) (backToKw pos (keywordEach [] X.env))) := by rfl)
    (he : starEach (e :: es) X.env = (false, eval e X.env) :: starEach es X.env := by rfl) (hpl : (backTo pos (starEach es X.env)).any (·.1) = false := by rfl) (hdb : (x == ("__debug__" : Str)) = false := by decide) :
    PE X (.Call (.Attribute (.Name x p1) "__init__" p2) (e :: es) [] pos) (tVeI X.K ta) := by
  refine ⟨fun pins s σ H Q I h => PySem.W.methodCall_KW (ld_glob I hg hm ?_ hdb) hc⟩
  refine PySem.W.method_cls I.kIn rd.ga (PySem.W.cls_value I.kIn rd.rd vB rfl ?_)
  show wpAny _ _ (callWith pos (Value.builtin "ValueError.__init__") [] (backTo pos (starEach (e :: es) X.env)) []) _ _ _
  refine PyProof.Rows.callWith_method1 (thn (ha.run pos pins _ σ H _ (I.tok _) h) fun us s1 ⟨vs, H1, I1, r1, a, C, ws, ev, hl, T, ea, q⟩ => ?_) he hpl
  subst ev
  cases r1 with
  | @cons _ u0 _ ur ra rw' =>
    obtain rfl : u0 = Value.ref a := ra
    have room : ur.length ≤ sizeLine := by rw [← Paired.length rw', sizeLine_eq]; omega
    exact oinit_ok T I1 ea room fun s2 J => ⟨.non, H1, J, rfl, q⟩
end
/-- what the written part says of such a class: at C, named n; its base at B, named b; its __init__ at fI; its field f -/
structure ErrTxt (K : PySem.W.Frag) (mg : Str → Option Value) (n b f : Str) (C B fI : Addr) : Prop where
  gC : mg n = some (.ref C)
  gB : mg b = some (.ref B)
  ox : OexC K C
  iC : PySem.W.findIn K (.ref C) "__init__" = some (some (.ref fI))
  tI : PySem.W.typeIn K (.ref fI) = some (.type "function")
  rd : ClX.CRead K B (.type "type")
  vB : PySem.W.findCls K (.ref B) (.type "type") "__init__" = some (.val (.builtin "ValueError.__init__"))
  nF : PySem.W.findIn K (.ref C) f = some none
  xf : XfC K C
  te : PySem.W.exmOne K (.ref C) (.ref C) = some true
/-- what __init__(self, x) keeps: the field alone is stored -/
def spErr (C : Addr) (f : Str) (ok : V → Prop) : Sp := fun vs H Q _ => ∃ a v, vs = [.ref a, v] ∧ ok v ∧ H a = some (exo a C none) ∧ ∀ d, H d = none → d ≠ a → Q .non (upd (upd H d (exd d [(f, v)])) a (exo a C (some d)))
/-- an error of the class at C with the field f = v leaves -/
def ErrAt [Tb] (C : Addr) (f : Str) (v : V) (H : Hp) (E : XK) : Prop := ∀ d H', Kept H H' → (∀ P ∈ Tb.ps, GxR.TabG H' P) → H d = none → H' d = some (.xd [(f, v)]) → E (.ref C) (some d) H'
theorem err_made [Tb] {C : Addr} {f : Str} {ok : V → Prop} {v : V} {te : TE} {σ : L2.St} {G H : Hp} {E : XK} {α : Type} [Rep α] {K : PySem.W.Frag} {x : α} (e : Sub G H) (h : EvR K te σ G x) (hv : ∀ w G, rep K x w G → w = v) (hok : ok v) (k : ErrAt C f v H E) :
    tMkO C (spErr C f ok) [] (tCons te tNil) σ H (fun cls d H' => E cls d H') := h H e _ fun w G1 H1 g1 r1 => by
  obtain rfl := hv w G1 r1
  refine ⟨by show 1 ≤ 1000; decide, fun a ha => ⟨a, w, rfl, hok, upd_same, fun d hd hne => ⟨rfl, d, [(f, w)], upd_same, ?_, ?_, ?_⟩⟩⟩
  · rw [upd_ne hne, upd_same]
  · rw [upd_ne hne] at hd
    exact hd
  · rw [upd_ne hne] at hd
    refine k d _ ⟨fun b o q nt => ?_, fun b q => ?_⟩ (fun P hP => ?_) (g1.h.free hd) upd_same
    · have q1 := g1.h.k b o q nt
      have nb : b ≠ d := ne_of_none q1 hd
      have na : b ≠ a := ne_of_none q1 ha
      rw [upd_ne nb, del_ne na, upd_ne na, upd_ne nb, upd_ne na]
      exact q1
    · by_cases nb : b = d
      · rw [nb]
        exact g1.h.free hd
      · by_cases na : b = a
        · rw [na]
          exact g1.h.free ha
        · rw [upd_ne nb, del_ne na, upd_ne na, upd_ne nb, upd_ne na] at q
          exact g1.h.free q
    · obtain ⟨qs, e1, e2⟩ := g1.s.t P hP
      have nb : P ≠ d := ne_of_none e1 hd
      have na : P ≠ a := ne_of_none e1 ha
      refine ⟨qs, ?_, e2⟩
      rw [upd_ne nb, del_ne na, upd_ne na, upd_ne nb, upd_ne na]
      exact e1
/-- isinstance(e, c), e the caught exception that stands at a, of the class cls, with the dict d -/
def rIsX (K : PySem.W.Frag) (a : Addr) (cls : Value) (d : Option Addr) : List V → Hp → VK → Prop := fun xs H Q => ∃ (D dd : Addr) (c : V) (cv : Value) (b : Bool) (fs : List (Str × V)), xs = [.ref a, c] ∧ cls = .ref D ∧ d = some dd ∧ ExcC K D ∧ (∀ u, RelV c u → u = cv) ∧
  PySem.W.kitOne K (.ref D) cv = some b ∧ H dd = some (.xd fs) ∧ Q (.bl b) H
theorem call_isX {X : Cx} {a : Addr} {cls : Value} {d : Option Addr} {oe : Obj} {pn : List (Addr × Obj)} (hz : Zc cls d oe) (hf : ∃ vs, oe.data = .fields vs) : CallR (X.suite a ((a, oe) :: pn)) (.builtin "isinstance") (rIsX X.K a cls d) := by
  intro pins s σ H xs us Q I r h
  obtain ⟨D, dd, c, cv, b, fs, rfl, rfl, rfl, C, hcv, e, hd, q⟩ := h
  cases r with
  | cons rx rr =>
    cases rr with
    | cons rt rr =>
      cases rr
      cases rx
      obtain rfl := hcv _ rt
      obtain ⟨hget, _⟩ := I.pin (a, oe) (List.mem_append.mpr (.inl List.mem_cons_self))
      obtain ⟨vs, hv⟩ := hf
      obtain ⟨mA, hns, _⟩ : ∃ mA, s.heap.Ns1 dd mA ∧ ∀ f, RelO (fs.lookup f) (mA f) := I.hok dd _ hd
      obtain ⟨od, ho, hl⟩ := lookIn_ns hns
      have J : PySem.W.InstAt s.heap a oe D (some od) := ⟨hget, hz.1, by unfold PySem.W.notCls; rw [hv] <;> rfl, by rw [hz.2]; exact ho⟩
      have hcl : (PySem.W.clsIn X.K D).isSome = true := by
        obtain ⟨cd, hc, _⟩ := PySem.W.any_some C.hd
        rw [hc]
        rfl
      exact PySem.W.kia_one (PySem.W.kitx_exc hcl C.hg C.hk C.hs C.ha C.hn C.ht C.hm) I.kIn J e (fun z => nomatch z) fun tk => ⟨.bl b, H, I.kept (t' := tk) fun _ _ z => z, rfl, q⟩
end RL

set_option Elab.async false
set_option linter.all false
set_option maxRecDepth 100000
set_option maxHeartbeats 4000000
namespace RL
open PySem PySem.Spec PyProof.Rows L2
open Rep (rep)
/-! ### items -/
def getI {α : Type} [Inhabited α] (l : List α) (n : Int) : α := (atI l n).getD default
def getS (z : Str) (n : Int) : Str := ⟨#[getI z.cps.toList n]⟩
theorem atI_get {α : Type} [Inhabited α] {l : List α} {n : Int} (h : (atI l n).isSome = true) : atI l n = some (getI l n) := by
  unfold getI
  cases e : atI l n with
  | none => rw [e] at h; cases h
  | some x => rfl
theorem at_in {α : Type} {l : List α} {n : Int} (h0 : 0 ≤ n) (h1 : n < l.length) : (atI l n).isSome = true := by
  have e : ixN l.length n = some n.toNat := by unfold ixN; rw [if_pos h0, if_pos h1]
  unfold atI
  rw [e]
  show (l[n.toNat]?).isSome = true
  rw [List.getElem?_eq_getElem (by omega : n.toNat < l.length)]
  rfl
theorem at_neg {α : Type} {l : List α} {n : Int} (h0 : n < 0) (h1 : -(l.length : Int) ≤ n) : (atI l n).isSome = true := by
  have e : ixN l.length n = some (n + l.length).toNat := by unfold ixN; rw [if_neg (by omega), if_pos h1]
  unfold atI
  rw [e]
  show (l[(n + l.length).toNat]?).isSome = true
  rw [List.getElem?_eq_getElem (by omega)]
  rfl
theorem getI_nat {α : Type} [Inhabited α] {l : List α} {n : Int} (h0 : 0 ≤ n) (h1 : n < l.length) : getI l n = l.getD n.toNat default := by
  have e : ixN l.length n = some n.toNat := by unfold ixN; rw [if_pos h0, if_pos h1]
  unfold getI atI
  rw [e]
  show (l[n.toNat]?).getD default = _
  rw [List.getD_eq_getElem?_getD]
theorem getI_mem {α : Type} [Inhabited α] {l : List α} {n : Int} (h : (atI l n).isSome = true) : getI l n ∈ l := by
  have e := atI_get h
  unfold atI at e
  cases q : ixN l.length n with
  | none => rw [q] at e; cases e
  | some j =>
    rw [q] at e
    exact List.mem_of_getElem? e

/-! ### loops that may be left -/
inductive Step (σ ρ : Type) where
  | go (s : σ)
  | ret (r : ρ)
  | brk (s : σ)
def runL {σ ρ α : Type} (f : σ → α → Step σ ρ) (s : σ) : List α → Step σ ρ
  | [] => .go s
  | x :: l => match f s x with
    | .go s' => runL f s' l
    | .ret r => .ret r
    | .brk s' => .brk s'
theorem runL_append {σ ρ α : Type} (f : σ → α → Step σ ρ) : ∀ (l m : List α) (s s' : σ), runL f s l = .go s' → runL f s (l ++ m) = runL f s' m
  | [], m, s, s', h => by
    have e : Step.go s = Step.go s' := h
    cases e
    rfl
  | x :: l, m, s, s', h => by
    show (match f s x with | .go s' => runL f s' (l ++ m) | .ret r => .ret r | .brk s' => .brk s') = _
    have h' : (match f s x with | .go s' => runL f s' l | .ret r => .ret r | .brk s' => .brk s') = Step.go s' := h
    cases e : f s x with
    | go a =>
      rw [e] at h'
      exact runL_append f l m a s' h'
    | ret r => rw [e] at h'; cases h'
    | brk a => rw [e] at h'; cases h'
theorem runL_go {σ ρ α : Type} {f : σ → α → Step σ ρ} {l : List α} {s st s' : σ} {i : Nat} {x : α} (h : runL f s (l.take i) = .go st) (hx : l[i]? = some x) (e : f st x = .go s') : runL f s (l.take (i + 1)) = .go s' := by
  rw [take_snoc hx, runL_append f _ _ _ _ h]
  show (match f st x with | .go s' => runL f s' [] | .ret r => .ret r | .brk s' => .brk s') = _
  rw [e]
  rfl
theorem split_at {α : Type} {l : List α} {i : Nat} {x : α} (hx : l[i]? = some x) : l = l.take i ++ x :: l.drop (i + 1) := by
  obtain ⟨h, e⟩ := List.getElem?_eq_some_iff.mp hx
  rw [← e, ← List.drop_eq_getElem_cons h, List.take_append_drop]
theorem runL_ret {σ ρ α : Type} {f : σ → α → Step σ ρ} {l : List α} {s st : σ} {i : Nat} {x : α} {r : ρ} (h : runL f s (l.take i) = .go st) (hx : l[i]? = some x) (e : f st x = .ret r) : runL f s l = .ret r := by
  rw [split_at hx, runL_append f _ _ _ _ h]
  show (match f st x with | .go s' => runL f s' _ | .ret r => .ret r | .brk s' => .brk s') = _
  rw [e]
def exitF {σ ρ : Type} (a : Step σ ρ) (k : σ → ρ) : ρ := match a with
  | .go s => k s
  | .ret r => r
  | .brk s => k s
def exitS {σ σ' ρ : Type} (a : Step σ ρ) (k : σ → Step σ' ρ) : Step σ' ρ := match a with
  | .go s => k s
  | .ret r => .ret r
  | .brk s => k s
theorem exitF_go {σ ρ : Type} {s : σ} {k : σ → ρ} : exitF (.go s) k = k s := rfl
theorem exitS_go {σ σ' ρ : Type} {s : σ} {k : σ → Step σ' ρ} : exitS (.go s) k = k s := rfl
theorem exitF_ret {σ ρ : Type} {m r : ρ} {a : Step σ ρ} {k : σ → ρ} (h : m = exitF a k) (e : a = .ret r) : m = r := by rw [h, e]; rfl
theorem exitS_ret {σ σ' ρ : Type} {m : Step σ' ρ} {r : ρ} {a : Step σ ρ} {k : σ → Step σ' ρ} (h : m = exitS a k) (e : a = .ret r) : m = .ret r := by rw [h, e]; rfl
theorem rgs_at {m n : Int} {i : Nat} (h : m + (i : Int) < n) : ∃ d, m + (i : Int) = d ∧ (rgs m n)[i]? = some d ∧ m ≤ d ∧ d < n := by
  refine ⟨m + (i : Int), rfl, ?_, by omega, h⟩
  unfold rgs
  rw [List.getElem?_map, List.getElem?_range (by omega)]
  rfl
theorem rgs_at0 {n : Int} {i : Nat} (h : (i : Int) < n) : ∃ d, (i : Int) = d ∧ (rgs 0 n)[i]? = some d ∧ 0 ≤ d ∧ d < n := by
  obtain ⟨d, e1, e2, e3, e4⟩ := rgs_at (m := 0) (n := n) (i := i) (by omega)
  exact ⟨d, by omega, e2, e3, e4⟩
theorem rgs_len (m n : Int) : (rgs m n).length = (n - m).toNat := by unfold rgs; rw [List.length_map, List.length_range]
theorem rgs_take (m n : Int) : List.take (n - m).toNat (rgs m n) = rgs m n := by rw [← rgs_len m n, List.take_length]
theorem rgs_take0 (n : Int) : List.take n.toNat (rgs 0 n) = rgs 0 n := by
  have h := rgs_take 0 n
  rw [Int.sub_zero] at h
  exact h

/-! ### chains, comprehensions without if -/
/-- a list of texts or None that has no None -/
def texts (l : List (Option Str)) : List Str := l.filterMap id
theorem texts_map {l : List (Option Str)} (h : none ∉ l) : (texts l).map some = l := by
  unfold texts
  induction l with
  | nil => rfl
  | cons o l ih =>
    cases o with
    | none => exact absurd List.mem_cons_self h
    | some x =>
      show (x :: List.filterMap id l).map some = some x :: l
      rw [List.map_cons, ih fun q => h (.tail _ q)]
section
variable [Tb] {α β γ : Type} [Rep α] [Rep β] [Rep γ] {K : PySem.W.Frag} {σ : L2.St} {G : Hp} {te ta tb tl : TE} {x : α} {y : β} {vs : List Nat}
theorem rv_le {G : Hp} {m n : Int} : ∀ v w G1 H1, Same G G1 → Sub G1 H1 → rep K m v G1 → rep K n w G1 → ∀ Q : VK, (∀ G2 H2, Grow G1 H1 G2 H2 → Q (.bl (decide (m ≤ n))) H2) → (rI0 fun i j => .bl (decide (i ≤ j))) v w H1 Q :=
  fun v w G1 H1 _ s hv hw Q q => ⟨m, n, hv, hw, q G1 H1 (Grow.refl s)⟩
theorem rv_lt {G : Hp} {m n : Int} : ∀ v w G1 H1, Same G G1 → Sub G1 H1 → rep K m v G1 → rep K n w G1 → ∀ Q : VK, (∀ G2 H2, Grow G1 H1 G2 H2 → Q (.bl (decide (m < n))) H2) → (rI0 fun i j => .bl (decide (i < j))) v w H1 Q :=
  fun v w G1 H1 _ s hv hw Q q => ⟨m, n, hv, hw, q G1 H1 (Grow.refl s)⟩
theorem rv_leS {G : Hp} {m n : Str} : ∀ v w G1 H1, Same G G1 → Sub G1 H1 → rep K m v G1 → rep K n w G1 → ∀ Q : VK, (∀ G2 H2, Grow G1 H1 G2 H2 → Q (.bl (!decide (n.cps.toList < m.cps.toList))) H2) →
    (fun x y H Q => ∃ i j, x = V.str i ∧ y = V.str j ∧ Q (V.bl (!decide (j.cps.toList < i.cps.toList))) H : R2) v w H1 Q :=
  fun v w G1 H1 _ s hv hw Q q => ⟨m, n, hv, hw, q G1 H1 (Grow.refl s)⟩
theorem filt_true {α : Type} (l : List α) : l.filter (fun _ => true) = l := by
  induction l with
  | nil => rfl
  | cons a l ih => rw [List.filter_cons_of_pos rfl, ih]
theorem ev_lcLm {l : List α} {g : TG} (h : α → β) (hl : EvR K tl σ G l) (hz : l.length < sizeLine)
    (ht : ∀ x v G' H', Same G G' → Sub G' H' → x ∈ l → rep K x v G' → ∀ (P : L2.St → Hp → Prop), (∀ σ2, wipe σ2 vs = wipe σ vs → EvB tYes σ2 G' true → (true = true → EvR K te σ2 G' (h x)) → P σ2 H') → g v (wipe σ vs) H' P) :
    EvR K (tLc (iList K tl) g tYes te vs) σ G (l.map h) := (ev_lcL (fun _ => true) h hl hz ht).to (by rw [filt_true])
theorem ev_lcTm {l : Tpl α} {g : TG} (h : α → β) (hl : EvR K tl σ G l) (hz : l.l.length < sizeLine)
    (ht : ∀ x v G' H', Same G G' → Sub G' H' → x ∈ l.l → rep K x v G' → ∀ (P : L2.St → Hp → Prop), (∀ σ2, wipe σ2 vs = wipe σ vs → EvB tYes σ2 G' true → (true = true → EvR K te σ2 G' (h x)) → P σ2 H') → g v (wipe σ vs) H' P) :
    EvR K (tLc (iTup K tl) g tYes te vs) σ G (l.l.map h) := (ev_lcT (fun _ => true) h hl hz ht).to (by rw [filt_true])
theorem ev_lcR1m {n : Int} {g : TG} (h : Int → β) (hl : EvR K te σ G n) (hn : n < 16777216 ∧ -16777216 < n) {tf : TE}
    (ht : ∀ x G' H', 0 ≤ x → x < n → Same G G' → Sub G' H' → ∀ (P : L2.St → Hp → Prop), (∀ σ2, wipe σ2 vs = wipe σ vs → EvB tYes σ2 G' true → (true = true → EvR K tf σ2 G' (h x)) → P σ2 H') → g (.int x) (wipe σ vs) H' P) :
    EvR K (tLc (iRng1 (tCons te tNil)) g tYes tf vs) σ G ((rgs 0 n).map h) := (ev_lcR1 (fun _ => true) h hl hn ht).to (by rw [filt_true])
theorem ev_lcR2m {m n : Int} {g : TG} (h : Int → β) (hl : EvR K ta σ G m) (hh : EvR K te σ G n) (hn : -16777216 < m ∧ m < 16777216 ∧ n < 16777216 ∧ -16777216 < n ∧ n - m < 16777216) {tf : TE}
    (ht : ∀ x G' H', m ≤ x → x < n → Same G G' → Sub G' H' → ∀ (P : L2.St → Hp → Prop), (∀ σ2, wipe σ2 vs = wipe σ vs → EvB tYes σ2 G' true → (true = true → EvR K tf σ2 G' (h x)) → P σ2 H') → g (.int x) (wipe σ vs) H' P) :
    EvR K (tLc (iRng2 (tCons ta (tCons te tNil))) g tYes tf vs) σ G ((rgs m n).map h) := (ev_lcR2 (fun _ => true) h hl hh hn ht).to (by rw [filt_true])
theorem ev_texts {l : List (Option Str)} (h : EvR K te σ G l) (hn : none ∉ l) : EvR K te σ G (texts l) := fun H e Q q => h H e Q fun v G1 H1 g1 ⟨a, xs, ev, hA, r⟩ => q v G1 H1 g1 ⟨a, xs, ev, hA, by
  have e1 := reps_flat r
  have e2 : xs = (texts l).map V.str := by
    rw [e1]
    conv => lhs; rw [← texts_map hn]
    rw [List.map_map]
    rfl
  rw [e2]
  exact reps_of_flat (texts l)⟩
end
/-! ### list.count of texts -/
theorem countP_eqU {x : V} : ∀ {xs : List V} {us : List Value}, Vals xs us → xs.all flatV = true → us.countP (eqU x) = xs.countP fun y => eqV y x
  | _, _, .nil, _ => rfl
  | y :: xs, u :: us, .cons r t, f => by
    rw [List.all_cons, Bool.and_eq_true] at f
    rw [List.countP_cons, List.countP_cons, eqU_of r f.1, countP_eqU t f.2]
def rCntV (K : PySem.W.Frag) : V → List V → Hp → VK → Prop := fun x args H Q => ∃ (p : Addr) (xs : List V) (y : V), x = .ref p ∧ args = [y] ∧ SqL K H p xs ∧ flatV y = true ∧ xs.all flatV = true ∧ Q (.int (xs.countP (fun z => eqV z y) : Nat)) H
theorem mt_countS {X : Cx} : MtR X "list.count" (rCntV X.K) := fun pins s σ H x args v us Q I rx rv ⟨p, xs, y, ex, ea, hs, fy, fx, q⟩ => by
  subst ex ea
  obtain rfl : v = Value.ref p := rx
  obtain ⟨u, rfl, ru⟩ := rv.one
  obtain ⟨its, ri, ⟨⟨cls, dd, data, sl⟩, n, ho, hc, hdn, hd⟩, hlen⟩ := I.list hs
  simp only at hc hd
  subst hc hd
  refine call_meets PySem.F.slot_list_count ⟨_, ho, rfl⟩ PySem.F.entry_list_count (PySem.F.args_list_count_2 _ _) (SeqAt.list_countAt p its.toArray n dd sl u (eqU y)) ⟨ho, fun z hz => mem_eqAt ru fy ri fx z (by simpa using hz), ?_⟩
  have e : its.toArray.toList.countP (eqU y) = xs.countP fun z => eqV z y := by
    rw [List.toList_toArray]
    exact countP_eqU ri fx
  rw [e]
  exact ⟨.int (xs.countP (fun z => eqV z y) : Nat), H, I.tok _, ⟨s.toks, rfl⟩, q⟩
theorem ev_countS [Tb] {K : PySem.W.Frag} {σ : L2.St} {G : Hp} {ta tb : TE} {l : List Str} {x : Str} (ha : EvR K ta σ G l) (hb : EvR K tb σ G x) : EvR K (tBM K "list" (rCntV K) ta (tCons tb tNil)) σ G ((List.count x l : Nat) : Int) := fun H e Q q =>
  ha H e _ fun v G1 H1 g1 r1 => by
    obtain ⟨a, xs, ev, hA, r⟩ := id r1
    refine ⟨by rw [ev]; exact .inl ⟨rfl, xs, SqL.of (g1.s _ _ hA)⟩, hb.mono g1.g H1 g1.s _ fun w G2 H2 g2 r2 => ?_⟩
    have ex := reps_flat r
    subst ex
    refine ⟨a, _, w, ev, rfl, SqL.of (g2.h.l (g1.s _ _ hA)), by rw [show w = V.str x from r2]; rfl, flat_all, ?_⟩
    have e2 : (l.map Flat.toV).countP (fun z => eqV z w) = List.count x l := by
      rw [List.countP_map, show w = Flat.toV x from r2, List.count]
      refine List.countP_congr fun z _ => ?_
      rw [Function.comp, Flat.eqv z x]
      simp
    rw [e2]
    exact q _ G2 H2 (g1.trans g2) rfl
/-! ### text * n -/
def mulS (x : Str) (n : Int) : Str := ⟨(List.replicate n.toNat x.cps.toList).flatten.toArray⟩
theorem fold_cps : ∀ (n : Nat) (a b : Array Nat), ((List.replicate n a).foldl (· ++ ·) b).toList = b.toList ++ (List.replicate n a.toList).flatten
  | 0, a, b => by simp
  | n + 1, a, b => by
    rw [List.replicate_succ, List.foldl_cons, fold_cps n a (b ++ a), List.replicate_succ, List.flatten_cons, Array.toList_append, List.append_assoc]
/-! ### what a def keeps that may raise an error of the class at C with the text field f -/
section
variable [Tb] {α β ρ : Type} [Rep α] [Rep β] [Rep ρ]
def spx1 (K : PySem.W.Frag) (C : Addr) (f : Str) (pre : α → Prop) (m : α → Except Str ρ) : Sp := fun vs H Q E => ∃ x v G, vs = [v] ∧ Sub G H ∧ rep K x v G ∧ pre x ∧
  (∀ y, m x = .ok y → ∀ u G' H', Grow G H G' H' → rep K y u G' → Q u H') ∧ ∀ s, m x = .error s → ErrAt C f (.str s) H E
end
theorem tpl_written {K : PySem.W.Frag} {q : Addr} {qd : Option Addr} {qi : Array Value} {qn : Nat} {qs : Array (Option Value)} {ks : List Str} (l : K.lookup q = some ⟨.type "tuple", qd, .seq qi qn, qs⟩) (v : Vals (ks.map V.str) qi.toList) (hz : ks.length ≤ 1000 := by decide) {G : Hp} : rep K (Tpl.mk ks) (V.ref q) G := by
  refine ⟨q, ks.map V.str, rfl, .inr ⟨_, qi, qn, l, rfl, rfl, ?_, v⟩, reps_of_flat ks⟩
  have e : (ks.map V.str).length = qi.toList.length := Vals.length v
  have e2 : qi.toList.length = qi.size := Array.length_toList
  rw [List.length_map] at e
  rw [← e2, ← e, sizeLine_eq]
  omega
end RL
namespace RL
open PySem PySem.Spec PyProof.Rows L2
open Rep (rep)
/-! ### the rules that name the written part, with it told: they hold within a comprehension as well -/
section
variable {X : Cx} {K : PySem.W.Frag}
theorem op_inK (h : X.K = K := by rfl) : OpR X (compareOp .In) (rIn K false) := by subst h; exact op_in_seq
theorem op_notInK (h : X.K = K := by rfl) : OpR X (compareOp .NotIn) (rIn K true) := by subst h; exact op_notIn_seq
theorem ix_listK (h : X.K = K := by rfl) : IxR X (rIxL K) := by subst h; exact ix_list
theorem ix_tupK (h : X.K = K := by rfl) : IxR X (rIxT K) := by subst h; exact ix_tup
theorem sl_listK (h : X.K = K := by rfl) : SlR X (rSlL K) := by subst h; exact sl_list
theorem call_lenK (h : X.K = K := by rfl) : CallR X (.builtin "len") (rLen K) := by subst h; exact call_len
theorem call_listK (h : X.K = K := by rfl) : CallR X (.type "list") (fun xs H Q => ∃ p ys, xs = [.ref p] ∧ (SqL K H p ys ∨ SqT K H p ys) ∧ ∀ l, H l = none → Q (.ref l) (upd H l (.lst ys))) := by subst h; exact call_list_of
theorem mt_countK (h : X.K = K := by rfl) : MtR X "list.count" (rCntV K) := by subst h; exact mt_countS
variable {a e o : Expr} {ta te to : TE} {tg : Expr} {k : Nat} {p1 p2 p3 pos p q apos cpos : Pos} {es : List Expr} {t : TA}
theorem pe_revK (he : PE X e te) (h : X.K = K := by rfl) : PE X (.Subscript e (.Slice none none (some (.UnaryOp .USub (.Constant (.int 1) k p1) p2)) p3) pos) (tRevL K te) := by subst h; exact pe_revL he
theorem pi_listK (he : PE X e te) (h : X.K = K := by rfl) : PI X tg e (iList K te) := by subst h; exact pi_list he
theorem pi_tupK (he : PE X e te) (h : X.K = K := by rfl) : PI X tg e (iTup K te) := by subst h; exact pi_tup he
theorem pe_lenSetK (hc : X.calm = true) (hg : Gl X "len") (hm : X.mg "len" = none) (hg2 : Gl X "set") (hm2 : X.mg "set" = none) (ha : PE X a ta)
    (na : starEach [a] X.env = (false, eval a X.env) :: starEach [] X.env := by rfl) (h : X.K = K := by rfl) : PE X (.Call (.Name "len" p) [.Call (.Name "set" p2) [a] [] q] [] pos) (tLenSetS K ta) := by subst h; exact pe_lenSetS hc hg hm hg2 hm2 ha na
theorem pa_starK (he : PE X e te) (hr : PA X es t) (hs : starEach (.Starred e p :: es) X.env = (true, eval e X.env) :: starEach es X.env := by rfl) (h : X.K = K := by rfl) : PA X (.Starred e p :: es) (StX.tStar K te t) := by subst h; exact StX.pa_star he hr hs
end
end RL
namespace RL
open PySem PySem.Spec PyProof.Rows L2
section
variable {X : Cx} {K : PySem.W.Frag} {e o : Expr} {te to : TE} {apos cpos pos : Pos}
theorem pe_joinK (ho : PE X o to) (he : PE X e te) (hs : starEach [e] X.env = [(false, eval e X.env)] := by rfl) (hbase : attributeBase o "join" X.env (eval o X.env) = eval o X.env := by rfl) (hline : (apos.endLine == pos.line) = true := by rfl) (h : X.K = K := by rfl) :
    PE X (.Call (.Attribute o "join" apos) [e] [] pos) (tM1 (fun x xs H Q => ∃ a p, ∃ ys : List Str, x = .str a ∧ xs = [.ref p] ∧ (SqL K H p (ys.map V.str) ∨ SqT K H p (ys.map V.str)) ∧
      (ys.map (·.length)).sum + ys.length * a.length ≤ 16777216 ∧ Q (.str (Txt.join a ys)) H) to te) := by subst h; exact pe_join ho he hs hbase hline
theorem pe_bmK {es : List Expr} {t : TA} {name : Str} {T id : String} {r : V → List V → Hp → VK → Prop} (pa : PlainAttrs T) (slot : Slot T name id) (hty : typeOf (.builtin id) = pure (.type "method_descriptor")) (hm : MtR X id r) (ho : PE X o to) (ha : PA X (e :: es) t)
    (hbase : attributeBase o name X.env (eval o X.env) = eval o X.env := by rfl)
    (hfew : ((backTo cpos (starEach (e :: es) X.env)).all (fun x => !x.1) && (backToKw cpos (keywordEach [] X.env)).all (fun x => x.1.isSome)
      && decide ((e :: es).length + ([] : List Keyword).length + (if ([] : List Keyword).isEmpty then 0 else 1) < 30)) = true := by rfl)
    (hline : (apos.endLine == cpos.line) = true := by rfl) (hs : starEach (e :: es) X.env = (false, eval e X.env) :: starEach es X.env := by rfl) (hplain : (backTo cpos (starEach es X.env)).any (·.1) = false := by rfl) (h : X.K = K := by rfl) :
    PE X (.Call (.Attribute o name apos) (e :: es) [] cpos) (tBM K T r to t) := by subst h; exact pe_bm pa slot hty hm ho ha hbase hfew hline hs hplain
end
end RL
namespace RL
open PySem PySem.Spec PyProof.Rows L2
open Rep (rep)
/-! ### the statements, something behind -/
section
variable [Tb] {α : Type} [Rep α] {K : PySem.W.Frag} {σ : L2.St} {G H : Hp} {te tl ta : TE} {tt : TT} {t u tb tz : TS} {D : Ends} {x : α} {b : Bool} {i j : Nat} {a : Addr}
theorem nx_mk {nx : L2.St → Hp → Prop} {rt : VK} {bk ct : L2.St → Hp → Prop} (h : nx σ H) : Ends.nx ⟨nx, rt, bk, ct⟩ σ H := h
theorem reps_nil {Ge He : Hp} (g : Grow Ge He G H) : Reps K ([] : List α) [] G := .nil
theorem q_asg (e : Sub G H) (h : EvR K te σ G x) (k : ∀ v G' H', Grow G H G' H' → rep K x v G' → tz D (σ.set i (some v)) H') : tSeq (tAsg te (gName i)) tz D σ H := s_asg (D := { D with nx := tz D }) e h k
theorem q_drop (e : Sub G H) (h : EvR K te σ G x) (k : ∀ G' H', Grow G H G' H' → tz D σ H') : tSeq (tDrop te) tz D σ H := s_drop (D := { D with nx := tz D }) e h k
theorem q_if (e : Sub G H) (h : EvB tt σ G b) (k1 : b = true → ∀ G' H', Grow G H G' H' → t { D with nx := tz D } σ H') (k2 : b = false → ∀ G' H', Grow G H G' H' → u { D with nx := tz D } σ H') : tSeq (tIfS tt t u) tz D σ H := s_if (D := { D with nx := tz D }) e h k1 k2
theorem q_new (k : ∀ p, H p = none → tz D (σ.set i (some (.ref p))) (upd H p (.lst []))) : tSeq (tAsg (tLst tNil) (gName i)) tz D σ H := s_new (D := { D with nx := tz D }) k
theorem q_app {xs : List V} (e : Sub G H) (hi : σ[i]? = some (some (.ref a))) (ha : H a = some (.lst xs)) (hz : xs.length < sizeLine) (h : EvR K te σ G x)
    (k : ∀ v G' H', Grow G H G' H' → rep K x v G' → tz D σ (upd H' a (.lst (xs ++ [v])))) : tSeq (tDrop (tBM K "list" rAppend (tVar i) (tCons te tNil))) tz D σ H := s_app (D := { D with nx := tz D }) e hi ha hz h k
theorem q_newF {Ge He : Hp} (gr : Grow Ge He G H) (k : ∀ p H2, He p = none → G p = none → H p = none → H2 p = some (.lst []) → Grow Ge He G H2 → Kept H H2 → tz D (σ.set i (some (.ref p))) H2) : tSeq (tAsg (tLst tNil) (gName i)) tz D σ H := s_newF (D := { D with nx := tz D }) gr k
theorem q_appF {Ge He : Hp} {xs : List V} {l : List α} (gr : Grow Ge He G H) (hF : He a = none) (hN : G a = none) (hi : σ[i]? = some (some (.ref a))) (ha : H a = some (.lst xs)) (hl : Reps K l xs G) (hz : l.length < sizeLine) (h : EvR K te σ G x)
    (k : ∀ G' H' H2 zs, Grow G H G' H' → Grow Ge He G' H2 → G' a = none → H2 a = some (.lst zs) → Reps K (l ++ [x]) zs G' → (∀ b, b ≠ a → H2 b = H' b) → tz D σ H2) : tSeq (tDrop (tBM K "list" rAppend (tVar i) (tCons te tNil))) tz D σ H := s_appF (D := { D with nx := tz D }) gr hF hN hi ha hl hz h k
theorem q_forL {l : List α} {g : TG} (e : Sub G H) (h : EvR K tl σ G l) (k : ∀ G1 H1 xs, Grow G H G1 H1 → Reps K l xs G1 → ∃ Pv : Nat → L2.St → Hp → Prop, Pv 0 σ H1 ∧ (∀ i σ' H', Pv i σ' H' → Sub G1 H') ∧
    (∀ i x v σ' H', l[i]? = some x → rep K x v G1 → Pv i σ' H' → g v σ' H' fun σ2 H2 => tb { D with nx := Pv (i + 1), ct := Pv (i + 1), bk := tz D } σ2 H2) ∧ ∀ σ' H', Pv l.length σ' H' → tz D σ' H') : tSeq (tFor (iList K tl) g tb) tz D σ H :=
  s_forL (D := { D with nx := tz D }) e h k
theorem q_forT {l : Tpl α} {g : TG} (e : Sub G H) (h : EvR K tl σ G l) (k : ∀ G1 H1 xs, Grow G H G1 H1 → Reps K l.l xs G1 → ∃ Pv : Nat → L2.St → Hp → Prop, Pv 0 σ H1 ∧ (∀ i σ' H', Pv i σ' H' → Sub G1 H') ∧
    (∀ i x v σ' H', l.l[i]? = some x → rep K x v G1 → Pv i σ' H' → g v σ' H' fun σ2 H2 => tb { D with nx := Pv (i + 1), ct := Pv (i + 1), bk := tz D } σ2 H2) ∧ ∀ σ' H', Pv l.l.length σ' H' → tz D σ' H') : tSeq (tFor (iTup K tl) g tb) tz D σ H :=
  s_forT (D := { D with nx := tz D }) e h k
theorem q_forR1 {n : Int} (e : Sub G H) (h : EvR K te σ G n) (hn : -(2 ^ 62) ≤ n ∧ n < 2 ^ 62) (k : ∀ G1 H1, Grow G H G1 H1 → ∃ Pv : Nat → L2.St → Hp → Prop, Pv 0 σ H1 ∧
    (∀ (i : Nat) σ' H', (i : Int) < n → Pv i σ' H' → tb { D with nx := Pv (i + 1), ct := Pv (i + 1), bk := tz D } (σ'.set j (some (.int (i : Int)))) H') ∧ ∀ σ' H', Pv n.toNat σ' H' → tz D σ' H') : tSeq (tFor (iRng1 (tCons te tNil)) (gName j) tb) tz D σ H :=
  s_forR1 (D := { D with nx := tz D }) e h hn k
theorem q_forR2 {m n : Int} (e : Sub G H) (h : EvR K ta σ G m) (h2 : EvR K te σ G n) (hn : -(2 ^ 62) ≤ m ∧ m < 2 ^ 62 ∧ -(2 ^ 62) ≤ n ∧ n < 2 ^ 62) (k : ∀ G1 H1, Grow G H G1 H1 → ∃ Pv : Nat → L2.St → Hp → Prop, Pv 0 σ H1 ∧
    (∀ (i : Nat) σ' H', m + (i : Int) < n → Pv i σ' H' → tb { D with nx := Pv (i + 1), ct := Pv (i + 1), bk := tz D } (σ'.set j (some (.int (m + (i : Int))))) H') ∧ ∀ σ' H', Pv (n - m).toNat σ' H' → tz D σ' H') : tSeq (tFor (iRng2 (tCons ta (tCons te tNil))) (gName j) tb) tz D σ H :=
  s_forR2 (D := { D with nx := tz D }) e h h2 hn k
end
theorem un_some {α : Type} [Rep α] {K : PySem.W.Frag} {x : α} {v : V} {G : Hp} (h : rep K (some x) v G) : rep K x v G := h
theorem condT {α : Type} {c : Bool} {a b m : α} (h : m = cond c a b) (e : c = true) : m = a := by rw [h, e]; rfl
theorem condF {α : Type} {c : Bool} {a b m : α} (h : m = cond c a b) (e : c = false) : m = b := by rw [h, e]; rfl
end RL

set_option Elab.async false
set_option linter.all false
set_option maxRecDepth 100000
set_option maxHeartbeats 1000000
/-! texts, lists: plain mathematics for the laws -/
namespace RL
open PySem PySem.Spec PyProof.Rows L2 TL
theorem len_tl (x : Str) : x.length = (tl x).length := by simp [Str.length, tl]
theorem len_app (x y : Str) : (x ++ y).length = x.length + y.length := by rw [len_tl, len_tl, len_tl, tl_append, List.length_append]
theorem join_len (y : Str) : ∀ l : List Str, (Txt.join y l).length = (l.map (·.length)).sum + (l.length - 1) * y.length
  | [] => by rw [join_eq]; simp [Str.join, Str.empty, Str.length]
  | [x] => by rw [join_eq]; show x.length = x.length + 0 + 0 * y.length; omega
  | x :: z :: r => by
    have ih := join_len y (z :: r)
    rw [join_eq] at ih ⊢
    show (x ++ y ++ Str.join y (z :: r)).length = _
    rw [len_app, len_app, ih]
    simp only [List.map_cons, List.sum_cons, List.length_cons, Nat.add_sub_cancel]
    have : (r.length + 1) * y.length = r.length * y.length + y.length := by rw [Nat.add_mul, Nat.one_mul]
    omega
theorem split_ne {x y : Str} (hy : 1 ≤ y.length) : Txt.split x y ≠ [] := fun h => by
  have e := StrLaws.join_split x y
  rw [h] at e
  have e2 : x = Str.empty := e.symm
  subst e2
  unfold Txt.split at h
  have : (decide (Str.empty.length < y.length) || decide (Builtin.Str.strKind Str.empty < Builtin.Str.strKind y)) = true := by
    have : decide (Str.empty.length < y.length) = true := decide_eq_true (by show 0 < y.length; omega)
    rw [this]; rfl
  rw [if_pos this] at h
  cases h
theorem sum_mem {l : List Str} {p : Str} (h : p ∈ l) : p.length ≤ (l.map (·.length)).sum := by
  induction l with
  | nil => cases h
  | cons a l ih =>
    rw [List.map_cons, List.sum_cons]
    rcases List.mem_cons.mp h with e | e
    · subst e; omega
    · have := ih e; omega
theorem split_sum {x y : Str} : ((Txt.split x y).map (·.length)).sum + ((Txt.split x y).length - 1) * y.length = x.length := by
  rw [← join_len y (Txt.split x y), join_eq, StrLaws.join_split]
theorem split_part {x y p : Str} (h : p ∈ Txt.split x y) : p.length ≤ x.length := by
  have h1 := sum_mem h
  have h2 := split_sum (x := x) (y := y)
  omega
theorem split_count {x y : Str} (hy : 1 ≤ y.length) : (Txt.split x y).length ≤ x.length + 1 := by
  have h2 := split_sum (x := x) (y := y)
  have h3 : (Txt.split x y).length - 1 ≤ ((Txt.split x y).length - 1) * y.length := Nat.le_mul_of_pos_right _ hy
  omega
theorem sum_le {l : List Str} {n : Nat} (h : ∀ p ∈ l, p.length ≤ n) : (l.map (·.length)).sum ≤ l.length * n := by
  induction l with
  | nil => simp
  | cons a l ih =>
    rw [List.map_cons, List.sum_cons, List.length_cons, Nat.add_mul, Nat.one_mul]
    have := h a List.mem_cons_self
    have := ih fun p hp => h p (.tail _ hp)
    omega
theorem sum_sub {l m : List Str} (h : l.Sublist m) : (l.map (·.length)).sum ≤ (m.map (·.length)).sum := by
  induction h with
  | slnil => exact Nat.le_refl _
  | cons a _ ih => rw [List.map_cons, List.sum_cons]; omega
  | cons_cons a _ ih => rw [List.map_cons, List.map_cons, List.sum_cons, List.sum_cons]; omega
/-! ### last, all but the last -/
theorem at_last {α : Type} {l : List α} (h : l ≠ []) : (atI l (-1)).isSome = true := at_neg (by omega) (by have := List.length_pos_iff.mpr h; omega)
theorem get_last {α : Type} [Inhabited α] {l : List α} (h : l ≠ []) : getI l (-1) = l.getLast h := by
  have e := atI_get (at_last h)
  have hp := List.length_pos_iff.mpr h
  have e2 : ixN l.length (-1) = some (l.length - 1) := by
    unfold ixN
    rw [if_neg (by omega), if_pos (by omega)]
    congr 1
    omega
  unfold atI at e
  rw [e2] at e
  have e3 : l[l.length - 1]? = some (getI l (-1)) := e
  rw [← List.getLast?_eq_getElem?, List.getLast?_eq_some_getLast h] at e3
  exact (Option.some.inj e3).symm
theorem cut_init {α : Type} (l : List α) : cutL l none (some (-1)) = l.dropLast := by
  unfold cutL
  rw [HT.sIx_none]
  have e : HT.sIx l.length l.length (some (-1)) = l.length - 1 := by
    show (if (-1 : Int) < 0 then (-1 + (l.length : Int)).toNat else min (-1 : Int).toNat l.length) = _
    rw [if_pos (by omega)]
    omega
  rw [e, List.drop_zero, Nat.sub_zero, List.dropLast_eq_take]
theorem cut_from {α : Type} (l : List α) {n : Int} (h : 0 ≤ n) : cutL l (some n) none = l.drop n.toNat := by
  unfold cutL
  rw [HT.sIx_none]
  have e : HT.sIx l.length 0 (some n) = min n.toNat l.length := by
    show (if n < 0 then _ else min n.toNat l.length) = _
    rw [if_neg (by omega)]
  rw [e, List.take_of_length_le (by rw [List.length_drop]; omega)]
  by_cases q : n.toNat ≤ l.length
  · rw [Nat.min_eq_left q]
  · rw [Nat.min_eq_right (by omega), List.drop_length, List.drop_eq_nil_of_le (by omega)]
theorem cut_to {α : Type} (l : List α) {n : Int} (h : 0 ≤ n) : cutL l none (some n) = l.take n.toNat := by
  unfold cutL
  rw [HT.sIx_none]
  have e : HT.sIx l.length l.length (some n) = min n.toNat l.length := by
    show (if n < 0 then _ else min n.toNat l.length) = _
    rw [if_neg (by omega)]
  rw [e, List.drop_zero, Nat.sub_zero]
  by_cases q : n.toNat ≤ l.length
  · rw [Nat.min_eq_left q]
  · rw [Nat.min_eq_right (by omega), List.take_length, List.take_of_length_le (by omega)]
theorem cut_le {α : Type} (l : List α) (a b : Option Int) : (cutL l a b).length ≤ l.length := by
  unfold cutL
  rw [List.length_take, List.length_drop]
  omega
theorem cut_sub {α : Type} (l : List α) (a b : Option Int) : (cutL l a b).Sublist l := (List.take_sublist _ _).trans (List.drop_sublist _ _)
theorem cut_mem {α : Type} {l : List α} {a b : Option Int} {x : α} (h : x ∈ cutL l a b) : x ∈ l := List.mem_of_mem_drop (List.mem_of_mem_take h)
/-! ### a list in which one thing answers a question -/
theorem filter_find {α β : Type} [DecidableEq β] (f : α → β) (y : β) : ∀ {l : List α}, (l.map f).Nodup → l.filter (fun a => decide (f a = y)) = (l.find? fun a => decide (f a = y)).toList
  | [], _ => rfl
  | a :: l, h => by
    rw [List.map_cons, List.nodup_cons] at h
    by_cases e : f a = y
    · rw [List.filter_cons_of_pos (by simpa using e), List.find?_cons_of_pos (by simpa using e)]
      have : l.filter (fun a => decide (f a = y)) = [] := by
        rw [List.filter_eq_nil_iff]
        intro b hb q
        have q' : f b = y := by simpa using q
        exact h.1 (e ▸ q' ▸ List.mem_map_of_mem hb)
      rw [this]
      rfl
    · rw [List.filter_cons_of_neg (by simpa using e), List.find?_cons_of_neg (by simpa using e), filter_find f y h.2]
/-! ### ASCII texts -/
def Asc (x : Str) : Prop := ∀ c ∈ tl x, c < 128
theorem lower_tl {x : Str} (h : Asc x) : tl (Txt.lower x) = (tl x).map lo1 := by
  rw [lower_ascii h]
  simp [tl]
theorem upper_tl {x : Str} (h : Asc x) : tl (Txt.upper x) = (tl x).map up1 := by
  rw [upper_ascii h]
  simp [tl]
theorem tl_inj {x y : Str} (h : tl x = tl y) : x = y := by
  rw [← mk_tl x, ← mk_tl y, h]
end RL
namespace RL
open PySem PySem.Spec PyProof.Rows L2 TL
/-! ### sizes that are small -/
def PreT (t : Str) : Prop := t.length ≤ 1000
def NN (l : List Int) : Prop := ∀ x ∈ l, 0 ≤ x
theorem pre_low {t : Str} (h : PreT t) : t.length ≤ 5592405 := Nat.le_trans h (by decide)
theorem pre_line {t : Str} (h : PreT t) : t.length ≤ sizeLine := Nat.le_trans h (by decide)
theorem pre_line2 {t : Str} (h : PreT t) : t.length + 2 ≤ sizeLine := Nat.le_trans (Nat.add_le_add_right h 2) (by decide)
theorem lt_line {n : Nat} (h : n ≤ 100000) : n < sizeLine := Nat.lt_of_le_of_lt h (by decide)
theorem le_line {n : Nat} (h : n ≤ 100000) : n ≤ sizeLine := Nat.le_trans h (by decide)
theorem le_low {n : Nat} (h : n ≤ 100000) : n ≤ 5592405 := Nat.le_trans h (by decide)
theorem pos_of {n : Nat} (h : decide ((0 : Int) < (n : Int)) = true) : (0 : Int) < (n : Int) := of_decide_eq_true h
theorem of_memB {α : Type} [DecidableEq α] {x : α} {l : List α} (h : memB x l = false) : x ∉ l := of_decide_eq_false h
theorem memB_of {α : Type} [DecidableEq α] {x : α} {l : List α} (h : memB x l = true) : x ∈ l := of_decide_eq_true h
theorem memB_in {α : Type} [DecidableEq α] {x : α} {l : List α} (h : x ∈ l) : memB x l = true := decide_eq_true h
theorem memB_no {α : Type} [DecidableEq α] {x : α} {l : List α} (h : x ∉ l) : memB x l = false := decide_eq_false h
theorem memB_iff {α β : Type} [DecidableEq α] [DecidableEq β] {x : α} {l : List α} {y : β} {m : List β} (h : x ∈ l ↔ y ∈ m) : memB x l = memB y m := decide_eq_decide.mpr h
theorem eqB_of {α : Type} [DecidableEq α] {x y : α} (h : eqB x y = true) : x = y := of_decide_eq_true h
theorem ne_eqB {α : Type} [DecidableEq α] {x y : α} (h : eqB x y = false) : x ≠ y := of_decide_eq_false h
theorem eqB_self {α : Type} [DecidableEq α] (x : α) : eqB x x = true := decide_eq_true rfl
theorem texts_le (l : List (Option Str)) : (texts l).length ≤ l.length := List.length_filterMap_le _ _
/-- a short list of short texts, joined by one sign -/
theorem join_fits {l : List Str} {m n : Nat} (hn : l.length ≤ n) (hl : ∀ p ∈ l, p.length ≤ m) {s : Str} (hs : s.length ≤ 1) (hb : n * (m + 1) ≤ 16777216) : (l.map (·.length)).sum + l.length * s.length ≤ 16777216 := by
  have h1 := sum_le hl
  have h2 : l.length * m ≤ n * m := Nat.mul_le_mul_right m hn
  have h3 : l.length * s.length ≤ n * 1 := Nat.mul_le_mul hn hs
  have h4 : n * (m + 1) = n * m + n := by rw [Nat.mul_add, Nat.mul_one]
  omega
theorem join_short {l : List Str} {m n : Nat} (hn : l.length ≤ n) (hl : ∀ p ∈ l, p.length ≤ m) {s : Str} (hs : s.length ≤ 1) : (Txt.join s l).length ≤ n * m + n := by
  rw [join_len]
  have h1 := sum_le hl
  have h2 : l.length * m ≤ n * m := Nat.mul_le_mul_right m hn
  have h3 : (l.length - 1) * s.length ≤ n * 1 := Nat.mul_le_mul (by omega) hs
  omega
theorem runL_all {σ ρ α : Type} {f : σ → α → Step σ ρ} {s : σ} : ∀ {l : List α}, (∀ x ∈ l, f s x = .go s) → runL f s l = .go s
  | [], _ => rfl
  | x :: l, h => by
    show (match f s x with | .go s' => runL f s' l | .ret r => .ret r | .brk s' => .brk s') = _
    rw [h x List.mem_cons_self]
    exact runL_all fun y hy => h y (.tail _ hy)
theorem runL_find {α : Type} (p : α → Bool) : ∀ l : List α, runL (fun (_ : Unit) x => cond (p x) (Step.ret (some x)) (Step.go ())) () l = (match l.find? p with | some x => Step.ret (some x) | none => Step.go ())
  | [] => rfl
  | x :: l => by
    have ih := runL_find p l
    cases h : p x with
    | true => rw [List.find?_cons_of_pos h]; simp only [runL, h]; rfl
    | false =>
      rw [List.find?_cons_of_neg (by rw [h]; decide), ← ih]
      simp only [runL, h]
      rfl
/-! ### a law's draws -/
theorem log_small {n : Int} (h0 : 0 ≤ n) (h : n ≤ 100000) : n.natAbs.log2 < 1920 := by
  have h1 : n.natAbs ≤ 100000 := by omega
  have h2 : n.natAbs.log2 ≤ n.natAbs := Nat.log2_le_self _
  by_cases z : n.natAbs = 0
  · rw [z]; decide
  · have := (Nat.log2_lt z (k := 17)).mpr (by omega)
    omega
end RL
namespace RL
open PySem PySem.Spec PyProof.Rows L2 TL
theorem at_mod {α : Type} {l : List α} {n : Int} (h : 0 < (l.length : Int)) : (atI l (n % (l.length : Int))).isSome = true := at_in (Int.emod_nonneg _ (by omega)) (Int.emod_lt_of_pos _ h)
theorem at_modS {z : Str} {n : Int} (h : 0 < (z.length : Int)) : (atI z.cps.toList (n % (z.length : Int))).isSome = true := by
  have e : z.cps.toList.length = z.length := (len_tl z).symm
  rw [← e] at h ⊢
  exact at_mod h
theorem at_S {z : Str} {n : Int} (h0 : 0 ≤ n) (h : n < (z.length : Int)) : (atI z.cps.toList n).isSome = true := at_in h0 (by
  have e : z.cps.toList.length = z.length := (len_tl z).symm
  rw [e]; exact h)
theorem at_3 {α : Type} {a b c : α} {n : Int} : (atI [a, b, c] (n % 3)).isSome = true := at_in (Int.emod_nonneg _ (by decide)) (Int.emod_lt_of_pos n (by decide))
theorem getI_3 {α : Type} [Inhabited α] {a b c : α} {n : Int} (P : α → Prop) (ha : P a) (hb : P b) (hc : P c) : P (getI [a, b, c] (n % 3)) := by
  have h := getI_mem (at_3 (a := a) (b := b) (c := c) (n := n))
  rcases List.mem_cons.mp h with e | h
  · rw [e]; exact ha
  · rcases List.mem_cons.mp h with e | h
    · rw [e]; exact hb
    · rw [List.mem_singleton.mp h]; exact hc
theorem asc_one {c : Nat} (h : c < 128) : Asc ⟨#[c]⟩ := fun d hd => by
  have e : d = c := List.mem_singleton.mp hd
  rw [e]; exact h
theorem lower_one {c : Nat} (h : c < 128) : Txt.lower ⟨#[c]⟩ = ⟨#[lo1 c]⟩ := tl_inj (lower_tl (asc_one h))
theorem upper_one {c : Nat} (h : c < 128) : Txt.upper ⟨#[c]⟩ = ⟨#[up1 c]⟩ := tl_inj (upper_tl (asc_one h))
theorem rot_perm {α : Type} (l : List α) {a : Int} (h : 0 ≤ a) : (cutL l (some a) none ++ cutL l none (some a)).Perm l := by
  rw [cut_from l h, cut_to l h]
  refine (List.perm_append_comm).trans ?_
  rw [List.take_append_drop]
/-- what a list of a comprehension's items keeps -/
theorem mem_map_all {α β : Type} {f : α → β} {l : List α} {P : β → Prop} (h : ∀ x ∈ l, P (f x)) : ∀ y ∈ l.map f, P y := fun y hy => by
  obtain ⟨x, hx, e⟩ := List.mem_map.mp hy
  rw [← e]; exact h x hx
end RL

set_option Elab.async false
set_option linter.all false
set_option maxRecDepth 100000
set_option maxHeartbeats 4000000
namespace RL
open PySem PySem.Spec PyProof.Rows L2
open Rep (rep)
/-! ### tuples: parts, sums, ==, tuple(..) of a list; texts times a number; isinstance; is True -/
section
variable {X : Cx} {K : PySem.W.Frag}
theorem sl_tupK (h : X.K = K := by rfl) : SlR X (rSlA K) := by subst h; exact sl_tupA
theorem op_catTK (h : X.K = K := by rfl) : OpR X (binaryOp .Add) (rCatA K) := by subst h; exact op_catA
theorem op_eqK (hu : X.A.units + 64 < cLine) (h : X.K = K := by rfl) : OpR X (compareOp .Eq) (rEqD K) := by subst h; exact op_eqD hu
theorem op_neK (hu : X.A.units + 64 < cLine) (h : X.K = K := by rfl) : OpR X (compareOp .NotEq) (rNeD K) := by subst h; exact op_neD hu
theorem call_tupleK (h : X.K = K := by rfl) : CallR X (.type "tuple") (fun xs H Q => ∃ p ys, xs = [.ref p] ∧ ((SqL K H p ys ∧ ∀ l, H l = none → Q (.ref l) (upd H l (.tup ys))) ∨ (SqT K H p ys ∧ Q (.ref p) H))) := by subst h; exact call_tuple_of
theorem call_isiK (h : X.K = K := by rfl) : CallR X (.builtin "isinstance") (rIsi K) := by subst h; exact call_isi
def rMulS : R2 := fun x y H Q => ∃ i n, x = .str i ∧ y = .int n ∧ 0 ≤ n ∧ n < 16777216 ∧ i.length * n.toNat ≤ sizeLine ∧ Q (.str (mulS i n)) H
theorem mulS_one {x : Str} : mulS x 1 = x := by
  obtain ⟨⟨l⟩⟩ := x
  show Str.mk (List.replicate 1 l).flatten.toArray = _
  rw [List.replicate_succ, List.replicate_zero, List.flatten_cons, List.flatten_nil, List.append_nil]
theorem mulS_nil {x : Str} {n : Int} (h : (x.length == 0) = true) : mulS x n = x := by
  obtain ⟨⟨l⟩⟩ := x
  have e : l.length = 0 := by
    have : (Str.mk ⟨l⟩).length = l.length := rfl
    rw [this] at h
    exact beq_iff_eq.mp h
  have e2 : l = [] := List.eq_nil_of_length_eq_zero e
  subst e2
  show Str.mk (List.replicate n.toNat []).flatten.toArray = _
  have : (List.replicate n.toNat ([] : List Nat)).flatten = [] := by
    induction n.toNat with
    | zero => rfl
    | succ k ih => rw [List.replicate_succ, List.flatten_cons, ih]; rfl
  rw [this]
theorem mulS_zero {x : Str} {n : Int} (h : n < 1) : mulS x n = Str.empty := by
  show Str.mk (List.replicate n.toNat x.cps.toList).flatten.toArray = _
  rw [show n.toNat = 0 by omega]
  rfl
theorem mulS_fold {x : Str} {n : Int} : mulS x n = ⟨(List.replicate n.toNat x.cps).foldl (· ++ ·) #[]⟩ := by
  have h := fold_cps n.toNat x.cps #[]
  show Str.mk (List.replicate n.toNat x.cps.toList).flatten.toArray = _
  rw [← Array.toArray_toList (xs := (List.replicate n.toNat x.cps).foldl (· ++ ·) #[]), h]
  rfl
theorem mulS_len (x : Str) (n : Int) : (mulS x n).length = x.length * n.toNat := by
  obtain ⟨⟨l⟩⟩ := x
  show (List.replicate n.toNat l).flatten.toArray.size = l.length * n.toNat
  rw [List.size_toArray]
  induction n.toNat with
  | zero => rfl
  | succ k ih => rw [List.replicate_succ, List.flatten_cons, List.length_append, ih, Nat.mul_succ]; omega
theorem op_repS : OpR X (binaryOp .Mult) rMulS := by
  intro pins s σ H x y v u Q I rx ry h
  obtain ⟨i, n, rfl, rfl, hn, hn2, hz, q⟩ := h
  obtain ⟨t, rfl⟩ := rx
  obtain ⟨t', rfl⟩ := ry
  have f1 : ¬ n < -(2 ^ 63 : Int) := by omega
  have f2 : ¬ n ≥ 2 ^ 63 := by omega
  refine P.mul_str (by rw [decide_eq_false f1, decide_eq_false f2]; rfl) (fun h1 _ => ?_) (fun _ _ => decide_eq_false (by omega)) ?_
  · have hp : 0 < n := by omega
    have h2 : (i.length : Int) * n ≤ (sizeLine : Int) := by
      have e : ((i.length * n.toNat : Nat) : Int) = (i.length : Int) * n := by
        rw [Int.natCast_mul, Int.toNat_of_nonneg hn]
      rw [← e]
      exact Int.ofNat_le.mpr hz
    intro z
    have h3 : ((2 ^ 63 - 1 : Int) / n + 1) * n > 2 ^ 63 - 1 := by
      have := Int.lt_ediv_add_one_mul_self (2 ^ 63 - 1 : Int) hp
      exact this
    have h4 : ((2 ^ 63 - 1 : Int) / n + 1) * n ≤ (i.length : Int) * n := Int.mul_le_mul_of_nonneg_right (by omega) hn
    rw [sizeLine_eq] at h2
    omega
  · by_cases h1 : n < 1
    · rw [if_pos h1]
      rw [mulS_zero h1] at q
      exact ⟨by decide, ⟨.str Str.empty, H, I.tok _, ⟨_, rfl⟩, q⟩⟩
    · rw [if_neg h1]
      by_cases h2 : (n == 1 || i.length == 0) = true
      · rw [if_pos h2]
        have e : mulS i n = i := by
          rcases Bool.or_eq_true_iff.mp h2 with a | a
          · rw [show n = 1 from beq_iff_eq.mp a]; exact mulS_one
          · exact mulS_nil a
        rw [e] at q
        exact ⟨.str i, H, I, ⟨_, rfl⟩, q⟩
      · rw [if_neg h2]
        rw [mulS_fold] at q
        exact ⟨by rw [← mulS_fold]; exact Nat.le_trans (Nat.le_of_eq (mulS_len i n)) hz, ⟨.str _, H, I.tok _, ⟨_, rfl⟩, q⟩⟩
end
section
variable [Tb] {α β γ : Type} [Rep α] [Rep β] [Rep γ] {K : PySem.W.Frag} {σ : L2.St} {G G' : Hp} {te ta tb tc : TE} {tt tu : TT} {x : α} {y : β} {z : γ} {b c : Bool} {i : Nat} {v : V} {ts tr : TA}
theorem ev_repS {s : Str} {n : Int} (ha : EvR K ta σ G s) (hb : EvR K tb σ G n) (h : 0 ≤ n ∧ n < 16777216 ∧ s.length * n.toNat ≤ sizeLine) : EvR K (tOp rMulS ta tb) σ G (mulS s n) :=
  ev_op ha hb fun v w G1 H1 _ s hv hw Q q => ⟨_, n, hv, hw, h.1, h.2.1, h.2.2, q _ G1 H1 (Grow.refl s) rfl⟩
theorem ev_slT {l : Tpl α} {tl th : TO} {lo hi : Option Int} (ha : EvR K ta σ G l) (hl : EvO K tl σ G lo) (hh : EvO K th σ G hi) : EvR K (tSl (rSlA K) ta tl th) σ G (Tpl.mk (cutL l.l lo hi)) := fun H e Q q =>
  ha H e _ fun v G1 H1 g1 r1 => hl.mono g1.g H1 g1.s _ fun G2 H2 g2 => hh.mono (g1.g.trans g2.g) H2 g2.s _ fun G3 H3 g3 => by
    obtain ⟨a, xs, ev, hA, r⟩ := up (g2.g.trans g3.g) r1
    refine ⟨a, xs, ev, sqT_mono g3.s.get hA, fun hw => ?_, fun hw p hp => ?_⟩
    · have e1 : cutL l.l lo hi = l.l := by
        unfold cutL
        rw [paired_len r, hw.1, hw.2, Nat.sub_zero, List.drop_zero, ← paired_len r, List.take_length]
      exact q _ _ _ ((g1.trans g2).trans g3) ⟨a, xs, rfl, hA, by show Reps K (cutL l.l lo hi) xs G3; rw [e1]; exact r⟩
    · exact q _ _ _ (((g1.trans g2).trans g3).trans (Grow.new g3.s hp)) ⟨p, cutL xs lo hi, rfl, SqT.of upd_same, Reps.up (same_upd (g3.s.free hp)) (cut_pair lo hi r)⟩
theorem ev_catT {l m : Tpl α} (ha : EvR K ta σ G l) (hb : EvR K tb σ G m) (hl : l.l.length + m.l.length ≤ sizeLine) : EvR K (tOp (rCatA K) ta tb) σ G (Tpl.mk (l.l ++ m.l)) :=
  ev_op ha hb fun v w G1 H1 _ s ⟨a, xs, ev, hA, r⟩ ⟨b, ys, ew, hB, r'⟩ Q q => by
    refine ⟨a, b, xs, ys, ev, ew, sqT_mono s.get hA, sqT_mono s.get hB, by rw [← paired_len r, ← paired_len r']; exact hl, fun hx => ?_, fun _ hy => ?_, fun _ _ p hp => ?_⟩
    · subst hx
      have e : l.l = [] := List.eq_nil_of_length_eq_zero (paired_len r)
      exact q _ G1 H1 (Grow.refl s) ⟨b, ys, rfl, hB, by show Reps K (l.l ++ m.l) ys G1; rw [e]; exact r'⟩
    · subst hy
      have e : m.l = [] := List.eq_nil_of_length_eq_zero (paired_len r')
      exact q _ G1 H1 (Grow.refl s) ⟨a, xs, rfl, hA, by show Reps K (l.l ++ m.l) xs G1; rw [e, List.append_nil]; exact r⟩
    · exact q _ _ _ (Grow.new s hp) ⟨p, xs ++ ys, rfl, SqT.of upd_same, paired_append (r.up (same_upd (s.free hp))) (r'.up (same_upd (s.free hp)))⟩
theorem ev_tupleL {l : List α} (ha : EvR K ta σ G l) : EvR K (tCB (fun xs H Q => ∃ p ys, xs = [.ref p] ∧ ((SqL K H p ys ∧ ∀ l, H l = none → Q (.ref l) (upd H l (.tup ys))) ∨ (SqT K H p ys ∧ Q (.ref p) H))) (tCons ta tNil)) σ G (Tpl.mk l) := fun H e Q q =>
  ha H e _ fun v G1 H1 g1 ⟨a, xs, ev, hA, r⟩ => ⟨a, xs, by rw [ev], .inl ⟨SqL.of (g1.s _ _ hA), fun p hp => q _ _ _ (g1.trans (Grow.new g1.s hp)) ⟨p, xs, rfl, SqT.of upd_same, r.up (same_upd (g1.s.free hp))⟩⟩⟩
/-- texts that may be laid -/
def TOk (l : List Str) : Prop := ∀ p ∈ l, PyData.strOk p = true
theorem dp_texts {H : Hp} : ∀ (l : List Str), DpAll K H (l.map Flat.toV) (l.map PyData.str)
  | [] => .nil
  | x :: l => .cons (.str x) (dp_texts l)
theorem lay_texts : ∀ (l : List Str), TOk l → PyData.canLayAll0 (l.map PyData.str) = true
  | [], _ => rfl
  | x :: l, h => by
    show (PyData.canLay0 (.str x) && PyData.canLayAll0 (l.map PyData.str)) = true
    rw [lay_texts l fun p hp => h p (.tail _ hp), Bool.and_true]
    exact h x List.mem_cons_self
theorem depth_texts : ∀ (l : List Str), PyData.depthAll (l.map PyData.str) = 0
  | [] => rfl
  | x :: l => by
    show max (PyData.depth (.str x)) (PyData.depthAll (l.map PyData.str)) = 0
    rw [depth_texts l]
    rfl
theorem shaped_texts {l : List Str} (h : TOk l) : SeqAt.shaped (.tuple (l.map PyData.str)) = true := by
  unfold SeqAt.shaped
  rw [show PyData.canLay0 (.tuple (l.map PyData.str)) = PyData.canLayAll0 (l.map PyData.str) from rfl, lay_texts l h,
    show PyData.depth (.tuple (l.map PyData.str)) = PyData.depthAll (l.map PyData.str) + 1 from rfl, depth_texts l]
  rfl
theorem eqv_texts : ∀ (l m : List Str), PyData.eqvAll (l.map PyData.str) (m.map PyData.str) = decide (l = m)
  | [], [] => rfl
  | [], _ :: _ => rfl
  | _ :: _, [] => rfl
  | x :: l, y :: m => by
    show (PyData.eqv (.str x) (.str y) && PyData.eqvAll (l.map PyData.str) (m.map PyData.str)) = _
    rw [eqv_texts l m, show PyData.eqv (.str x) (.str y) = decide (x = y) from Flat.eqv x y, ← Bool.decide_and]
    exact decide_eq_decide.mpr ⟨fun h => by rw [h.1, h.2], fun h => by cases h; exact ⟨rfl, rfl⟩⟩
theorem dp_tpl {H : Hp} {t : Tpl Str} {v : V} (s : Sub G H) (h : rep K t v G) : Dp K H v (.tuple (t.l.map PyData.str)) := by
  obtain ⟨a, xs, ev, hA, r⟩ := h
  have e := reps_flat r
  subst e
  rw [ev]
  exact .tup (sqT_mono s.get hA) (dp_texts t.l)
theorem ev_eqT {l m : Tpl Str} (ha : EvR K ta σ G l) (hb : EvR K tb σ G m) (hl : TOk l.l ∧ TOk m.l) : EvR K (tOp (rEqD K) ta tb) σ G (eqB l.l m.l) :=
  ev_op ha hb fun v w G1 H1 _ s hv hw Q q => ⟨_, _, dp_tpl s hv, dp_tpl s hw, shaped_texts hl.1, shaped_texts hl.2, by
    rw [show PyData.eqv (.tuple (l.l.map PyData.str)) (.tuple (m.l.map PyData.str)) = PyData.eqvAll (l.l.map PyData.str) (m.l.map PyData.str) from rfl, eqv_texts]
    exact q _ G1 H1 (Grow.refl s) rfl⟩
theorem ev_neT {l m : Tpl Str} (ha : EvR K ta σ G l) (hb : EvR K tb σ G m) (hl : TOk l.l ∧ TOk m.l) : EvR K (tOp (rNeD K) ta tb) σ G (!eqB l.l m.l) :=
  ev_op ha hb fun v w G1 H1 _ s hv hw Q q => ⟨_, _, dp_tpl s hv, dp_tpl s hw, shaped_texts hl.1, shaped_texts hl.2, by
    rw [show PyData.eqv (.tuple (l.l.map PyData.str)) (.tuple (m.l.map PyData.str)) = PyData.eqvAll (l.l.map PyData.str) (m.l.map PyData.str) from rfl, eqv_texts]
    exact q _ G1 H1 (Grow.refl s) rfl⟩
/-- x is True, x is not False -/
abbrev rIsB : R2 := fun x y H Q => ∃ a b, x = .bl a ∧ y = .bl b ∧ Q (.bl (decide (a = b))) H
abbrev rIsNB : R2 := fun x y H Q => ∃ a b, x = .bl a ∧ y = .bl b ∧ Q (.bl (!decide (a = b))) H
theorem ev_isB (ha : EvR K ta σ G b) (hb : EvR K tb σ G c) : EvR K (tOp rIsB ta tb) σ G (eqB b c) :=
  ev_op ha hb fun v w G1 H1 _ s hv hw Q q => ⟨b, c, hv, hw, q _ G1 H1 (Grow.refl s) rfl⟩
theorem ev_isNB (ha : EvR K ta σ G b) (hb : EvR K tb σ G c) : EvR K (tOp rIsNB ta tb) σ G (!eqB b c) :=
  ev_op ha hb fun v w G1 H1 _ s hv hw Q q => ⟨b, c, hv, hw, q _ G1 H1 (Grow.refl s) rfl⟩
theorem tyX_tup {H : Hp} {a : Addr} {xs : List V} (h : SqT K H a xs) : TyX K H (.ref a) (.type "tuple") := by
  rcases h with h | ⟨o, _, _, h, hc, _⟩
  · rcases h with h | ⟨o, h⟩
    · exact .base (.tup h)
    · exact .fTuple h
  · exact .kTuple h hc
theorem ev_isTup {l : Tpl α} (ha : EvR K ta σ G l) : EvR K (tCB (rIsi K) (tCons ta (tCons (tC (.ty "tuple")) tNil))) σ G true := fun H e Q q =>
  ha H e _ fun v G1 H1 g1 ⟨a, xs, ev, hA, r⟩ => ⟨v, .ty "tuple", .type "tuple", .type "tuple", true, rfl, .ty _, by rw [ev]; exact tyX_tup (sqT_mono g1.s.get hA), kit_ty (by decide +kernel), q _ G1 H1 g1 rfl⟩
theorem ev_isBool (ha : EvR K ta σ G b) : EvR K (tCB (rIsi K) (tCons ta (tCons (tC (.ty "bool")) tNil))) σ G true := fun H e Q q =>
  ha H e _ fun v G1 H1 g1 r => ⟨v, .ty "bool", .type "bool", .type "bool", true, rfl, .ty _, by rw [show v = V.bl b from r]; exact .base (.bl b), kit_ty (by decide +kernel), q _ G1 H1 g1 rfl⟩
theorem ev_joinT {s : Str} {l : Tpl Str} (ha : EvR K ta σ G s) (hb : EvR K tb σ G l) (h : (l.l.map (·.length)).sum + l.l.length * s.length ≤ 16777216) :
    EvR K (tM1 (fun x xs H Q => ∃ a p, ∃ ys : List Str, x = .str a ∧ xs = [.ref p] ∧ (SqL K H p (ys.map V.str) ∨ SqT K H p (ys.map V.str)) ∧ (ys.map (·.length)).sum + ys.length * a.length ≤ 16777216 ∧ Q (.str (Txt.join a ys)) H) ta tb) σ G (Txt.join s l.l) := fun H e Q q =>
  ha H e _ fun v G1 H1 g1 r1 => ⟨⟨s, r1⟩, hb.mono g1.g H1 g1.s _ fun w G2 H2 g2 ⟨a, xs, ev, hA, r2⟩ => ⟨s, a, l.l, r1, by rw [ev], .inr (by
    have e := reps_flat r2
    subst e
    exact sqT_mono g2.s.get hA), h, q _ G2 H2 (g1.trans g2) rfl⟩⟩
/-! ### one of two kinds -/
def getL [Inhabited α] (s : Sum α β) : α := match s with
  | .inl x => x
  | .inr _ => default
def getR [Inhabited β] (s : Sum α β) : β := match s with
  | .inl _ => default
  | .inr x => x
theorem ev_inl [Inhabited α] {s : Sum α β} (h : EvR K te σ G s) (hs : s.isLeft = true) : EvR K te σ G (getL s) := by
  cases s with
  | inl x => exact h
  | inr x => cases hs
theorem ev_inr [Inhabited β] {s : Sum α β} (h : EvR K te σ G s) (hs : s.isRight = true) : EvR K te σ G (getR s) := by
  cases s with
  | inl x => cases hs
  | inr x => exact h
instance : Inhabited (Tpl α) := ⟨⟨[]⟩⟩
/-- for a, b in pairs: the pair taken apart -/
theorem pair_apart {p : α × β} {σ' : L2.St} {H : Hp} {Q : L2.St → Hp → Prop} {i j : Nat} {v : V} (r : rep K p v G) (s : Sub G H) (k : ∀ u w, rep K p.1 u G → rep K p.2 w G → Q ((σ'.set i (some u)).set j (some w)) H) :
    gTup K 2 (gCons (gName i) (gCons (gName j) gNil)) v σ' H Q := by
  obtain ⟨a, u, w, ev, hA, r1, r2⟩ := r
  exact ⟨a, [u, w], ev, sqT_mono s.get hA, rfl, u, [w], rfl, w, [], rfl, rfl, k u w r1 r2⟩
end
/-! ### words with spaces between -/
section
open TL
variable {t w l : Str} {L : List Str} {n : Int}
theorem s_assoc (a b c : Str) : a ++ b ++ c = a ++ (b ++ c) := tl_inj (by rw [tl_append, tl_append, tl_append, tl_append, List.append_assoc])
theorem s_nil (a : Str) : a ++ ("" : Str) = a := tl_inj (by rw [tl_append, show tl ("" : Str) = [] by decide +kernel, List.append_nil])
theorem s_nil0 (a : Str) : ("" : Str) ++ a = a := tl_inj (by rw [tl_append, show tl ("" : Str) = [] by decide +kernel, List.nil_append])
theorem s_empty : (Str.empty : Str) = ("" : Str) := by decide +kernel
theorem join_cons2 (y x z : Str) (r : List Str) : Txt.join y (x :: z :: r) = x ++ y ++ Txt.join y (z :: r) := by rw [join_eq, join_eq]; rfl
theorem join_one (y x : Str) : Txt.join y [x] = x := by rw [join_eq]; rfl
theorem join_snoc (y : Str) : ∀ (l : List Str) (a m : Str), Txt.join y (l ++ [a] ++ [m]) = Txt.join y (l ++ [a]) ++ y ++ m
  | [], a, m => by
    show Txt.join y [a, m] = Txt.join y [a] ++ y ++ m
    rw [join_cons2, join_one, join_one]
  | [x], a, m => by
    show Txt.join y [x, a, m] = Txt.join y [x, a] ++ y ++ m
    rw [join_cons2, join_cons2, join_cons2, join_one, join_one]
    simp only [s_assoc]
  | x :: z :: r, a, m => by
    show Txt.join y (x :: z :: (r ++ [a] ++ [m])) = Txt.join y (x :: z :: (r ++ [a])) ++ y ++ m
    rw [join_cons2, join_cons2, show z :: (r ++ [a] ++ [m]) = (z :: r) ++ [a] ++ [m] from rfl, join_snoc y (z :: r) a m, show z :: (r ++ [a]) = (z :: r) ++ [a] from rfl]
    simp only [s_assoc]
theorem join_last (y : Str) (w : Str) : ∀ (l : List Str) (a : Str), Txt.join y (l ++ [a]) ++ w = Txt.join y (l ++ [a ++ w])
  | [], a => by
    show Txt.join y [a] ++ w = Txt.join y [a ++ w]
    rw [join_one, join_one]
  | [x], a => by
    show Txt.join y [x, a] ++ w = Txt.join y [x, a ++ w]
    rw [join_cons2, join_cons2, join_one, join_one, s_assoc]
  | x :: z :: r, a => by
    show Txt.join y (x :: z :: (r ++ [a])) ++ w = Txt.join y (x :: z :: (r ++ [a ++ w]))
    rw [join_cons2, join_cons2, s_assoc, show z :: (r ++ [a]) = (z :: r) ++ [a] from rfl, join_last y w (z :: r) a]
    rfl
theorem tl_sp : tl (" " : Str) = [32] := by decide +kernel
/-- the text's parts between single spaces: L, the last one l -/
structure Pt (t : Str) (L : List Str) (l : Str) : Prop where
  eq : t = Txt.join (" " : Str) (L ++ [l])
  no : ∀ p ∈ L ++ [l], 32 ∉ tl p
theorem Pt.split (h : Pt t L l) : Txt.split t (" " : Str) = L ++ [l] := by
  rw [h.eq]
  exact split_join tl_sp (by decide +kernel) (by simp) h.no
theorem pt_nil : Pt ("" : Str) [] ("" : Str) := ⟨by decide +kernel, fun p hp => by rw [List.mem_singleton.mp hp]; decide +kernel⟩
theorem Pt.sp (h : Pt t L l) : Pt (t ++ (" " : Str)) (L ++ [l]) ("" : Str) := ⟨by rw [join_snoc, s_nil, h.eq], fun p hp => by
  rcases List.mem_append.mp hp with q | q
  · exact h.no p q
  · rw [List.mem_singleton.mp q]; decide +kernel⟩
theorem Pt.word (h : Pt t L l) (hw : 32 ∉ tl w) : Pt (t ++ w) L (l ++ w) := ⟨by rw [h.eq, join_last], fun p hp => by
  rcases List.mem_append.mp hp with q | q
  · exact h.no p (List.mem_append_left _ q)
  · rw [List.mem_singleton.mp q, tl_append]
    intro z
    rcases List.mem_append.mp z with z | z
    · exact h.no l (List.mem_append_right _ List.mem_cons_self) z
    · exact hw z⟩
/-- the parts that are not empty -/
def wds (l : List Str) : List Str := l.filter fun p => !eqB p ("" : Str)
theorem wds_snoc (l : List Str) (x : Str) (h : x ≠ ("" : Str)) : wds (l ++ [x]) = wds l ++ [x] := by
  unfold wds
  rw [List.filter_append, List.filter_cons_of_pos (by rw [show eqB x ("" : Str) = false from decide_eq_false h]; rfl)]
  rfl
theorem wds_nil (l : List Str) : wds (l ++ [("" : Str)]) = wds l := by
  unfold wds
  rw [List.filter_append, List.filter_cons_of_neg (by rw [eqB_self]; decide)]
  rw [List.filter_nil, List.append_nil]
theorem mulS_succ (x : Str) (k : Nat) : mulS x ((k + 1 : Nat) : Int) = mulS x (k : Int) ++ x := by
  refine tl_inj ?_
  rw [tl_append]
  show (List.replicate ((k + 1 : Nat) : Int).toNat x.cps.toList).flatten = (List.replicate ((k : Nat) : Int).toNat x.cps.toList).flatten ++ x.cps.toList
  rw [Int.toNat_natCast, Int.toNat_natCast, List.replicate_succ', List.flatten_append]
  simp
theorem Pt.sps : ∀ (k : Nat), Pt t L l → ∃ L' l', Pt (t ++ mulS (" " : Str) (k : Int)) L' l' ∧ wds (L' ++ [l']) = wds (L ++ [l]) ∧ ((1 ≤ k ∨ l = ("" : Str)) → l' = ("" : Str)) ∧ ∀ p ∈ L ++ [l], p ∈ L' ++ [l']
  | 0, h => ⟨L, l, by rw [mulS_zero (by decide), s_empty, s_nil]; exact h, rfl, fun q => q.elim (fun z => absurd z (by decide)) id, fun _ q => q⟩
  | k + 1, h => by
    obtain ⟨L', l', h1, h2, _, h4⟩ := Pt.sps k h
    refine ⟨L' ++ [l'], ("" : Str), ?_, by rw [wds_nil, h2], fun _ => rfl, fun p hp => List.mem_append_left _ (h4 p hp)⟩
    rw [mulS_succ, ← s_assoc]
    exact h1.sp
theorem Pt.spI (h0 : 0 ≤ n) (h : Pt t L l) : ∃ L' l', Pt (t ++ mulS (" " : Str) n) L' l' ∧ wds (L' ++ [l']) = wds (L ++ [l]) ∧ ((1 ≤ n ∨ l = ("" : Str)) → l' = ("" : Str)) ∧ ∀ p ∈ L ++ [l], p ∈ L' ++ [l'] := by
  obtain ⟨L', l', h1, h2, h3, h4⟩ := Pt.sps n.toNat h
  rw [Int.toNat_of_nonneg h0] at h1
  exact ⟨L', l', h1, h2, fun q => h3 (q.imp (fun z => by omega) id), h4⟩
end
end RL

set_option Elab.async false
set_option linter.all false
set_option maxRecDepth 100000
set_option maxHeartbeats 4000000
namespace RL
open PySem PySem.Spec PyProof.Rows L2 GxR
open Rep (rep)
/-! ### all(test for c in text): the test may name the module's names too -/
/-- the test of one sign, wherever the module's names stand as mg says and the built-in ones as they are -/
def EltM (pg : Program) (wd : World) (mg : Str → Option Value) (sc : Scope) (c : Str) (tst : Expr) (pb : Nat → Bool) : Prop :=
  ∀ (en : Env) (B : Around) (Z : Value → Shared → Prop) (k : Nat) (tk : Tok) (sh : Shared) (lm : Str → Option Value),
    en.scope = sc → en.globals = mainGlobals → sh.heap.Ns mainGlobals mg → sh.heap.Ns en.locals lm → lm c = some (.str ⟨#[k]⟩ tk) →
      wpAny (model pg wd) B (eval tst en) (fun u s3 => u = .bool (pb k) ∧ Keeps sh s3) Z sh
section
variable {X : Cx} {pins : List (Addr × Obj)} {σ : L2.St} {H : Hp} {s : Shared}
theorem gen_text {cd T : Addr} {tst src : Expr} {c : Str} {p1 p2 : Pos} {sc : Scope} {pb : Nat → Bool} {te : TE} {lv : Nat} {Z : Value → Shared → Prop} {R : Str → Hp → Prop}
    (room : Room lv X.A) (tb : TabB X.base X.mg cd T) (hcd : X.env.code = .ref cd) (gs : GenS X.env sc c) (hsrc : PE X src te)
    (htst : EltM X.prog X.w X.mg sc c tst pb) (hfold : ∀ u, genFold src X.env u = pure u) (I : Inv X pins σ H s)
    (start : te σ H fun v H1 => ∃ z : Str, v = .str z ∧ TabG H1 T ∧ R z H1)
    (fin : ∀ z H1 g s5, R z H1 → Ready X pins σ H1 T z pb g s5 → Z (.ref g) s5) :
    wpAny (model X.prog X.w) X.A (eval (.GeneratorExp tst [⟨.Name c p1, src, [], 0⟩] sc p2) X.env) Z X.xe s := by
  have hdepth : X.A.depth + 5 < recursionLimit := by
    have := room.dp
    omega
  refine wpAny_GeneratorExp_walksQ room.hd gs.co (closure_ok gs.free) gs.cell gs.dot gs.loc gs.kind (by have := room.dp; omega)
    (thn (hsrc.run pins s σ H _ I start) fun vx sa ⟨v, HA, IA, rv, ⟨z, ez, ⟨ps, eT, trs⟩, hR⟩⟩ => ?_) hfold
  subst ez
  obtain ⟨tz, rfl⟩ := _root_.id rv
  refine wpAny_pyIter_str fun nw St W st0 => ?_
  -- the table, ahead of the iterator and behind it
  have tA : sa.heap.get? T = some { cls := .none, data := .fields ps } := IA.hok T _ eT
  have tB : (sa.heap.push nw).get? T = some { cls := .none, data := .fields ps } := Heap.get?_push_of_some _ tA
  have ltT : T < sa.heap.objs.size := Heap.lt_size tA
  have cdB : PySem.W.CodeHd (sa.heap.push nw) cd T := tb.code.keeps fun b u q => Heap.get?_push_of_some _ (IA.bk b u q)
  have limB : (sa.heap.push nw).NoLimit := IA.nolimit.push nw
  have sizeB : (sa.heap.push nw).objs.size = sa.heap.objs.size + 1 := Heap.size_push ..
  obtain ⟨nsS, ltS⟩ : cStatics ≠ T ∧ cStatics < sa.heap.objs.size := by
    obtain ⟨m0, n0, _⟩ := IA.nolimit
    refine ⟨fun q => ?_, n0.lt⟩
    obtain ⟨o0, es0, ep0, g0, d0, _⟩ := n0
    rw [q, tA] at g0
    cases g0
    cases d0
  -- from the state in which the code object is there
  have onward : ∀ (cv : Value) (hp : Heap) (k : Nat) (qs : Array Value), Heap.ExtBut T (sa.heap.push nw) hp →
      (sa.heap.push nw).objs.size ≤ hp.objs.size → hp.get? T = some { cls := .none, data := .fields qs } → (∃ more, qs = ps ++ more) → TriplesOk qs.toList →
      wpAny (model X.prog X.w) X.A (builtinsFor X.env.globals X.env.builtins)
        (fun bi s4 => ∃ Ia fp wr n₀ Pf St₀ pz F, Value.ref sa.heap.objs.size = .ref Ia ∧ (∀ A' : Around, A'.handled = none → Walks X.prog X.w A' Ia fp wr n₀ Pf St₀) ∧
          St₀ 0 s4.heap ∧ (∀ b ∈ fp, b < s4.heap.objs.size) ∧ s4.heap.NoLimit ∧ cStatics ∉ wr ∧
          (∀ ref : Heap, (∀ b o, s4.heap.get? b = some o → ref.get? b = some o) →
            QuietGen X.prog X.w (genEnv sc (cloFrom X.env.cells sc.names []) s4.heap.objs.size cv bi X.env) c [] tst (List.range s4.heap.objs.size) wr Pf pz F ref) ∧
          (∀ ga h5 tk gn, gn.bare = true → s4.heap.objs.size < ga → h5.objs.size = ga + 1 → (∀ b o, s4.heap.get? b = some o → h5.get? b = some o) →
            WalksS X.prog X.w X.A.in4 ga (ga :: s4.heap.objs.size :: List.range s4.heap.objs.size) (s4.heap.objs.size :: wr) (GenOnlyQ s4.gens.size) (passing pz n₀ 0).length
              (fun j y => ∃ i, (passing pz n₀ 0)[j]? = some i ∧ F i y)
              (GenAt X.prog X.w X.A.in4 ga s4.gens.size s4.heap.objs.size (List.range s4.heap.objs.size) wr pz n₀ F) →
            GenAt X.prog X.w X.A.in4 ga s4.gens.size s4.heap.objs.size (List.range s4.heap.objs.size) wr pz n₀ F 0 { s4 with gens := s4.gens.push gn, toks := tk, heap := h5 } →
            Z (.ref ga) { s4 with gens := s4.gens.push gn, toks := tk, heap := h5 }))
        X.xe { sa with heap := hp, toks := k } := by
    intro cv hp k qs ext grown tC ⟨more, em⟩ trC
    have keepC : ∀ b u, b ≠ T → sa.heap.get? b = some u → hp.get? b = some u := fun b u nb q => ext b u nb (Heap.get?_push_of_some _ q)
    obtain ⟨bm, ob, b1, b2, b3, b4, b5, b6, b7, b8⟩ := tb.bm
    have globC : hp.Ns mainGlobals X.mg := ((IA.mod.glob.keeps IA.bk).push nw).extBut ext tb.gP
    refine wpAny_builtinsFor (m := X.mg) (by rw [IA.ok.glob]; exact globC) b1 b2 (keepC _ _ b4 (IA.bk _ _ b5)) b6 b7 b8 ?_
    refine ⟨sa.heap.objs.size, [sa.heap.objs.size], [sa.heap.objs.size], z.cps.size, SignAt z, St, fun _ => true,
      fun i y => ∃ k', z.cps[i]? = some k' ∧ y = .bool (pb k'), rfl, W, ?_, fun b hb => ?_, limB.extBut ext nsS, fun q => ?_, ?_, ?_⟩
    · refine (W X.A room.hd).frame _ _ _ st0 fun b hb u q => ext b u (fun q2 => ?_) q
      rw [List.mem_singleton] at hb
      rw [hb] at q2
      exact Nat.ne_of_lt ltT q2.symm
    · rw [List.mem_singleton] at hb
      rw [hb]
      show sa.heap.objs.size < hp.objs.size
      omega
    · rw [List.mem_singleton] at q
      exact Nat.ne_of_lt ltS q
    · intro ref href
      refine ⟨fun B E2 i v s2 m2 _ _ _ _ _ => ?_, fun B E2 i v s2 m2 _ hsign _ hns hmc hkeep => ?_⟩
      · rw [List.forIn_nil]
        exact wpAny_pure ⟨rfl, keeps_refl _⟩
      · obtain ⟨k', tk', hk', rfl⟩ := hsign
        have glob2 : s2.heap.Ns mainGlobals X.mg := by
          obtain ⟨o1, es1, ep1, g1, rest⟩ := globC
          refine ⟨o1, es1, ep1, hkeep mainGlobals ?_ ?_ o1 (href _ _ g1), rest⟩
          · exact List.mem_range.mpr (Heap.lt_size g1)
          · intro q
            rw [List.mem_singleton] at q
            have g2 := IA.mod.glob.keeps IA.bk
            obtain ⟨o3, _, _, g3, _⟩ := g2
            have := Heap.lt_size g3
            rw [q] at this
            exact Nat.lt_irrefl _ this
        exact wpAny_mono (htst _ B E2 k' tk' s2 m2 rfl IA.ok.glob glob2 hns hmc) (fun y s3 r => ⟨⟨k', hk', r.1⟩, r.2⟩) fun _ _ q => q
    · intro ga h5 tk5 gn bareN ltG sz5 keep5 walk5 at5
      simp only [GxR.passing_true, List.length_range] at walk5
      refine fin z HA ga _ hR ⟨_, _, _, _, _, walk5.in4_1, at5, ?_, fun s' mv => ?_⟩
      · intro j y sj Qj Ej hy hQj
        obtain ⟨i, hij, k', hk', rfl⟩ := hy
        obtain ⟨hj, ej⟩ := List.getElem?_eq_some_iff.mp hij
        rw [List.getElem_range] at ej
        subst ej
        have hkl : z.cps.toList[j]? = some k' := by
          rw [Array.getElem?_toList]
          exact hk'
        have hQ2 : Qj (trF pb z.cps.toList j) sj := hQj
        rw [trF_some hkl] at hQ2
        exact wpAny_truthy_bool hQ2
      · have apart : ∀ b u, sa.heap.get? b = some u → b ∉ hp.objs.size :: [sa.heap.objs.size] := fun b u q hb => by
          have lt := Heap.lt_size q
          have : sa.heap.objs.size < hp.objs.size := by omega
          rcases List.mem_cons.mp hb with e | e
          · rw [e] at lt
            exact Nat.lt_asymm this lt
          · rw [List.mem_singleton.mp e] at lt
            exact Nat.lt_irrefl _ lt
        have J := inv_tab (more := more) (h' := s'.heap) (g' := s'.gens) (d' := s'.drawn) (t' := s'.toks) IA eT
          (fun b u nb q => mv.heap b u (apart b u q) (keep5 b u (keepC b u nb q)))
          (by rw [← em]; exact mv.heap T _ (apart T _ tA) (keep5 T _ tC)) (AllBare.movedS (IA.bare.push bareN) mv)
        rw [sh_eta sa s' mv.os] at J
        exact ⟨upd HA T (.tbl (ps ++ more)), ⟨⟨ps ++ more, upd_same, by rw [← em]; exact trC⟩, fun b nb => upd_ne nb⟩, J⟩
  refine ⟨limB, ?_⟩
  cases hf : codeAmong p2 ps.toList with
  | none =>
    refine wpAny_genexprCodeX hcd (cdB.code tB trs) (cdB.tab tB) hf fun cv hp tk ext ge lt co _ tab _ => ?_
    obtain ⟨_, _, _, _, _, _, _, _, _, _, _, _, _, _, _, _, _, _, _, trC, _⟩ := co
    exact onward _ hp tk _ ext (Nat.le_trans ge (Nat.le_of_lt lt)) tab.2 ⟨_, rfl⟩ trC
  | some cv =>
    refine wpAny_genexprCode_hit hcd (cdB.code tB trs) hf ?_
    exact onward cv (sa.heap.push nw) sa.toks ps (Heap.ExtBut.refl _ _) (Nat.le_refl _) tB ⟨#[], by simp⟩ trs
end
end RL
namespace RL
open PySem PySem.Spec PyProof.Rows L2 GxR
open Rep (rep)
section
variable {X : Cx} {pins : List (Addr × Obj)} {σ : L2.St} {H : Hp} {s : Shared}
theorem pe_allM {cd T : Addr} {tst src : Expr} {c : Str} {p1 p2 p3 pos : Pos} {sc : Scope} {pb : Nat → Bool} {te : TE} {lv : Nat}
    (room : Room lv X.A) (hg : Gl X "all") (hm : X.mg "all" = none) (hb : bootBuiltins "all" = some (.builtin "all")) (tb : TabB X.base X.mg cd T) (hcd : X.env.code = .ref cd) (gs : GenS X.env sc c) (hsrc : PE X src te)
    (htst : EltM X.prog X.w X.mg sc c tst pb) (hfold : ∀ u, genFold src X.env u = pure u)
    (hst : starEach [.GeneratorExp tst [⟨.Name c p1, src, [], 0⟩] sc p2] X.env = (false, eval (.GeneratorExp tst [⟨.Name c p1, src, [], 0⟩] sc p2) X.env) :: starEach [] X.env := by rfl) :
    PE X (.Call (.Name "all" p3) [.GeneratorExp tst [⟨.Name c p1, src, [], 0⟩] sc p2] [] pos) (tAllS T pb te) := by
  constructor
  intro pins s σ H Q I start
  refine wpAny_Call_Name_kw (ld_blt I hg hm hb (PyProof.Rows.callWith_builtin1 ?_ hst (by rfl)))
  rw [hst]
  show wpAny _ _ (spliced (_ :: backTo pos (starEach [] X.env))) _ _ s
  refine Calls.spliced_cons (gen_text (R := fun z H1 => ∀ H2, Tabbed T H1 H2 → Q (.bl (z.cps.toList.all pb)) H2) room tb hcd gs hsrc htst hfold I start fun z H1 g s5 hR ready => ?_)
  obtain ⟨fp, wr, G, F, St, W, at0, truth, back⟩ := ready
  refine Calls.spliced_nil (call_all_walkS (W.self 0 _ _ _ at0 ⟨g, fp, wr, G, _, F, St, _, rfl, W, at0, truth, fun s' mv => ?_⟩))
  obtain ⟨H2, t2, J⟩ := back s' mv
  exact ⟨.bl _, H2, J, rfl, by rw [all_signs z pb]; exact hR H2 t2⟩
end
section
variable [Tb] {K : PySem.W.Frag} {σ : L2.St} {G : Hp} {te : TE}
theorem ev_isStr {z : Str} (ha : EvR K te σ G z) : EvR K (tCB (rIsi K) (tCons te (tCons (tC (.ty "str")) tNil))) σ G true := fun H e Q q =>
  ha H e _ fun v G1 H1 g1 r => ⟨v, .ty "str", .type "str", .type "str", true, rfl, .ty _, by rw [show v = V.str z from r]; exact .base (.str z), kit_ty (by decide +kernel), q _ G1 H1 g1 rfl⟩
theorem genS_of {env : Env} {sc : Scope} {x : Str} (h1 : sc.kind = .function) (h2 : sc.isCoroutine = false) (h3 : ∀ y ∈ sc.names, y.2 ≠ .cell) (h4 : sc.names.lookup (".0" : Str) = some NameKind.local) (h5 : sc.names.lookup x = some .local) (h6 : ∀ y ∈ sc.names, y.2 ≠ .free) : GenS env sc x :=
  ⟨h1, h2, h3, h4, h5, fun y hy h => absurd h (h6 y hy)⟩
theorem ev_all {T : Addr} {pb : Nat → Bool} {z : Str} (hT : T ∈ Tb.ps) (h : EvR K te σ G z) : EvR K (tAllS T pb te) σ G (z.cps.toList.all pb) := fun H e Q q =>
  h H e _ fun v G1 H1 g1 r1 => ⟨z, r1, g1.s.t T hT, fun H2 t2 => q _ G1 H2 (g1.tab (g1.s.t T hT) t2) rfl⟩
end
/-! tests of a sign -/
section
variable {pg : Program} {wd : World} {mg : Str → Option Value} {sc : Scope} {c : Str}
theorem kp (s : Shared) (k : Nat) : Keeps s { s with toks := k } := keeps_tok s k
/-- c in NAME, a text that the module names -/
theorem elt_inG {x t : Str} {p1 p2 p3 : Pos} (hk : sc.kind = .function) (hl : sc.names.lookup c = some .local) (hx : sc.names.lookup x = some .globalImplicit) (hm : ∃ u, mg x = some u ∧ RelV (.str t) u)
    (hd : (c == ("__debug__" : Str)) = false := by decide) (hd2 : (x == ("__debug__" : Str)) = false := by decide) :
    EltM pg wd mg sc c (.Compare (.Name c p1) [.In] [.Name x p2] p3) (fun k => !(Builtin.Str.occurrences t ⟨#[k]⟩ 0 t.length 1).isEmpty) := by
  intro en B Z k tk sh lm e1 e2 hg hn hc
  obtain ⟨u, hu, tu, eu⟩ := hm
  subst eu
  subst e1
  refine wpAny_Compare1 (wpAny_Name (wpAny_loadName_local hk hl hn hc ?_) hd) (by rfl)
  refine Calls.Name_function_global hk hx (Calls.loadGlobal_global (by rw [e2]; exact hg) hu ?_) hd2
  exact PySem.P.in_str ⟨rfl, keeps_refl _⟩
/-- 'a' <= c <= 'z' -/
theorem elt_range {a b : Str} {j j2 : Nat} {p1 p2 p3 p4 : Pos} (hk : sc.kind = .function) (hl : sc.names.lookup c = some .local) (hd : (c == ("__debug__" : Str)) = false := by decide) :
    EltM pg wd mg sc c (.Compare (.Constant (.str a) j p1) [.LtE, .LtE] [.Name c p2, .Constant (.str b) j2 p3] p4) (fun k => !decide ([k] < a.cps.toList) && !decide (b.cps.toList < [k])) := by
  intro en B Z k tk sh lm e1 e2 hg hn hc
  subst e1
  refine Compare_chain (Calls.Constant_str ?_)
  refine chain_link (wpAny_Name (wpAny_loadName_local hk hl (show _ from hn) hc ?_) hd)
  refine PySem.P.le_str (wpAny_truthy_bool ?_)
  cases q : (!decide ([k] < a.cps.toList)) with
  | false =>
    refine ite_ff ⟨?_, kp _ _⟩
    show Value.bool false = Value.bool (!decide ([k] < a.cps.toList) && !decide (b.cps.toList < [k]))
    rw [q, Bool.false_and]
  | true =>
    refine ite_tt (chain_last (Calls.Constant_str (PySem.P.le_str ⟨?_, ?_⟩)))
    · show Value.bool (!decide (b.cps.toList < [k])) = Value.bool (!decide ([k] < a.cps.toList) && !decide (b.cps.toList < [k]))
      rw [q, Bool.true_and]
    · exact kp _ _
end
end RL
namespace RL
open PySem PySem.Spec PyProof.Rows L2 GxR
open Rep (rep)
/-! ### a def whose code object is known; the end of a row with such tables -/
theorem okC {P : Program} {w : World} {K : PySem.W.Frag} {mg : Str → Option Value} {base : Heap} {x qual : Str} {st : Stmt} {f c : Addr} {fd : FuncData} {N ps : List Str} {k : Nat} {sp : Sp} (F : Fun K x qual st f fd) (hc : fd.code = .ref c) (S : FnScope N ps (defScope st))
    (len : ∀ vs H Q E, sp vs H Q E → vs.length = ps.length)
    (body : ∀ (A : Around) (outer : List Env) (s : Shared) (H : Hp) (vs : List V) (Q : VK) (E : XK), Room k (A.deeper (envOfC qual (defScope st) s.heap.objs.size f (.ref c))) → sp vs H Q E →
      ∃ t, PSs (cxOf CX0 P w K mg base N qual (defScope st) f (.ref c) A outer s H E).nox (defBody st) t ∧ t { nx := fun _ H' => Q .non H', rt := Q } (start N vs) H) :
    FnOk P w K mg base CX0 (k + 1) f fd ps sp := by
  obtain ⟨oc, od, kV, doc, pm, an, cdv, ct, osl, e, lk, hcd⟩ := F.ex
  subst e
  have e2 : cdv = .ref c := hc
  subst e2
  refine fn_of lk hcd S len fun A outer s H vs Q E hr hs => ?_
  obtain ⟨t, h, q⟩ := body A outer s H vs Q E hr hs
  exact ⟨t, h.nox, q⟩
/-- H without the tables -/
def strip (H : Hp) : Hp := fun a => match H a with
  | some (.tbl _) => none
  | o => o
theorem strip_some {H : Hp} {a : Addr} {o : HO} (h : H a = some o) (n : noTb o) : strip H a = some o := by
  unfold strip
  rw [h]
  cases o with
  | tbl q => exact absurd rfl (n q)
  | _ => rfl
theorem strip_get {H : Hp} {a : Addr} {o : HO} (h : strip H a = some o) : H a = some o ∧ noTb o := by
  unfold strip at h
  cases q : H a with
  | none => rw [q] at h; cases h
  | some u =>
    rw [q] at h
    cases u with
    | tbl z => cases h
    | _ =>
      cases h
      exact ⟨rfl, fun z e => by cases e⟩
theorem law_start [Tb] {K : PySem.W.Frag} {H : Hp} {a : Addr} {ns : List Int} (hT : ∀ P ∈ Tb.ps, H P = some (.tbl #[])) (hS : SqL K H a (ns.map V.int)) : Sub (strip H) H ∧ rep K (Scr.mk ns) (V.ref a) (strip H) := by
  refine ⟨⟨fun b o h => strip_get h, fun P hP => ⟨#[], hT P hP, by trivial⟩⟩, a, rfl, ?_⟩
  rcases hS with (h | ⟨o, h⟩) | h
  · exact .inl (.inl (strip_some h fun q z => by cases z))
  · exact .inl (.inr ⟨o, strip_some h fun q z => by cases z⟩)
  · exact .inr h
theorem walk_tabs {l : PySem.W.OpenLaw} {q : Program} {loose : List Str} {XP : (Str → Option Value) → Heap → Prop} {YP : World → Heap → Prop} {d : DefRec} {K : Params → PySem.W.Frag} {lv nm : Nat}
    (hn : l.most = some nm) (hn2 : nm ≤ sizeLine) (hdf : d.params.defaults = []) (hr : Room lv callerA) (hY : ∀ (w : World) (h : Heap), YP w h → (K w.params).In h)
    (F : ∀ (w : World) (mg : Str → Option Value) (fa : Addr) (h : Heap), (K w.params).In h → h.Ns mainGlobals mg → mg d.name = some (.ref fa) →
      ∃ (fd : FuncData) (cs : List (Addr × Addr)) (sp : Sp), (∀ p ∈ cs, ∃ x e, (recsOf q).find? (fun r => r.name == x) = some e ∧ PySem.W.tabIn (K w.params) x = some p) ∧ (∀ p ∈ cs, (K w.params).lookup p.2 = none) ∧
        (∀ (s : Shared) (u : Value), BindsTo s fd ⟨[u], []⟩ [("script", u)]) ∧
        (∀ (H : Hp) (a : Addr) (ns : List Int), ns.length ≤ nm → (∀ p ∈ cs, H p.2 = some (.tbl #[])) → SqL (K w.params) H a (ns.map V.int) → sp [.ref a] H (fun v _ => v = .bl true) fun _ _ _ => False) ∧
        ∀ base : Heap, (K w.params).In base → base.Ns mainGlobals mg → (∀ p ∈ cs, TabB base mg p.1 p.2) → FnOk l.prog w (K w.params) mg base CX0 lv fa fd ["script"] sp) :
    PySem.W.WalkO q loose XP YP l.row.toRowW d [] (fun f vs => PySem.call f vs) := by
  refine Att.attach_callB hn hdf fun w s0 s1 mg mb fa o pm cd doc a vs ns G Y ho hd hcd hmg hobj hints hlen hbits hg => ?_
  have KX := hY w _ Y
  obtain ⟨fd, cs, sp, hx, nT, hb, hsp, hF⟩ := F w mg fa _ KX G.T.g hmg
  have tabs : ∀ p ∈ cs, PySem.W.CodeHd s1.heap p.1 p.2 ∧ s1.heap.get? p.2 = some { cls := .none, data := .fields #[] } := fun p hp => by
    obtain ⟨x, e, h1, h2⟩ := hx p hp
    exact PySem.W.tab_of G.T KX h1 h2
  exact LamX.law_callTs KX G.T.g G.T.b G.T.builtins G.T.nolimit hg (fun p hp => (tabs p hp).2) nT (fun p hp => (tabs p hp).1) G.T.bmain hobj hints (Nat.le_trans hlen hn2) hr (CX := CX0) (fun base b1 b2 b3 => hF base b1 b2 fun p hp => ⟨(b3 p hp).code, (b3 p hp).bm, (b3 p hp).gP⟩) hb
    (fun H hH hS => hsp H a ns hlen hH hS) fun H e s' z => z
end RL

set_option Elab.async false
set_option linter.all false
set_option maxRecDepth 100000
set_option maxHeartbeats 4000000
namespace RL
open PySem PySem.Spec PyProof.Rows L2 CwR
open Rep (rep)
/-! ### replace, f-strings, partition; data that may be None or a pair -/
section
variable [Tb] {K : PySem.W.Frag} {σ : L2.St} {G : Hp} {te ta tb : TE} {x y z : Str}
theorem ev_replC (h : EvR K te σ G x) (hz : x.length + (x.length + 1) * z.length ≤ 16777216) : EvR K (tReplC te y z) σ G (Txt.replace x y z) := fun H e Q q =>
  h H e _ fun v G1 H1 g1 r1 => ⟨x, r1, hz, q _ G1 H1 g1 rfl⟩
/-- the parts of an f-string: told one by one -/
def EvJ (ts : List TE) (acc : Str) (σ : L2.St) (G : Hp) (out : Str) : Prop := ∀ H, Sub G H → ∀ Q : Str → Hp → Prop, (∀ G2 H2, Grow G H G2 H2 → Q out H2) → tJs ts acc σ H Q
theorem ej_nil {acc : Str} : EvJ [] acc σ G acc := fun H e Q q => q G H (Grow.refl e)
theorem EvJ.mono {ts : List TE} {acc out : Str} {G2 : Hp} (h : EvJ ts acc σ G out) (e : Same G G2) : EvJ ts acc σ G2 out := fun H s Q q => h H (un e s) Q fun G3 H3 g => q _ H3 (grow_up g e s)
theorem ej_cons {ts : List TE} {acc out : Str} (h : EvR K te σ G x) (hz : (acc ++ x).length ≤ sizeLine) (r : EvJ ts (acc ++ x) σ G out) : EvJ (te :: ts) acc σ G out := fun H e Q q =>
  h H e _ fun v G1 H1 g1 r1 => ⟨x, r1, hz, (r.mono g1.g) H1 g1.s Q fun G2 H2 g2 => q G2 H2 (g1.trans g2)⟩
theorem ev_fmt (h : EvR K te σ G x) (hz : x.length ≤ sizeLine) : EvR K (tFmt te) σ G x := fun H e Q q => h H e _ fun v G1 H1 g1 r1 => .inl ⟨x, r1, hz, q _ G1 H1 g1 rfl⟩
theorem ev_joined {ts : List TE} {out : Str} (h : EvJ ts Str.empty σ G out) : EvR K (fun σ H Q => tJs ts Str.empty σ H fun out H1 => Q (.str out) H1) σ G out := fun H e Q q => h H e _ fun G1 H1 g1 => q _ G1 H1 g1 rfl
theorem ev_partition (ha : EvR K ta σ G x) (hb : EvR K tb σ G y) (h1 : (y.length == 0) = false) (h2 : x.length ≤ sizeLine) :
    EvR K (tM1 (fun x xs H Q => ∃ a b, x = .str a ∧ xs = [.str b] ∧ (b.length == 0) = false ∧ a.length ≤ sizeLine ∧
      ∀ p, H p = none → Q (.ref p) (upd H p (.tup [.str (Txt.partition a b).1, .str (Txt.partition a b).2.1, .str (Txt.partition a b).2.2]))) ta tb) σ G (T3.mk (Txt.partition x y).1 (Txt.partition x y).2.1 (Txt.partition x y).2.2) := fun H e Q q =>
  ha H e _ fun v G1 H1 g1 r1 => ⟨⟨x, r1⟩, hb.mono g1.g H1 g1.s _ fun w G2 H2 g2 r2 => ⟨x, y, r1, by rw [show w = V.str y from r2], h1, h2, fun p hp =>
    q _ _ _ ((g1.trans g2).trans (Grow.new g2.s hp)) ⟨p, _, _, _, rfl, SqT.of upd_same, rfl, rfl, rfl⟩⟩⟩
end
/-- name = value, a token out -/
theorem pst_asg {X : Cx} {i : Nat} {x : Str} {e : Expr} {te : TE} {p q : Pos} (nd : X.N.Nodup) (at_ : X.N[i]? = some x) (loc : Loc X.env.scope x) (val : PET X e te) (sw : swapsWith e (some (.Name x q)) p.line X.env = pure false := by rfl) (hf : X.fn x = true ∨ X.env.scope.names.lookup x = some .local := by first | exact .inl rfl | exact .inr rfl | assumption) :
    PST X (.Assign [.Name x q] e p) (tAsg te (gName i)) := fun pins s σ H D one I h =>
  wpAny_Assign_Name (thn (val pins s σ H _ one I h) fun _ s1 ⟨_, H1, I1, r1, q1⟩ => store_ok I1 nd at_ loc r1 (fun s2 I2 => ⟨_, H1, I2, q1⟩) hf) sw
/-- a def that begins with a token out -/
theorem okT {P : Program} {w : World} {K : PySem.W.Frag} {mg : Str → Option Value} {base : Heap} {x qual : Str} {st : Stmt} {f : Addr} {fd : FuncData} {N ps : List Str} {k : Nat} {sp : Sp} (F : Fun K x qual st f fd) (S : FnScope N ps (defScope st))
    (hnc : ∀ y ∈ (defScope st).names, y.2 ≠ .cell) (hps : 1 ≤ ps.length) (len : ∀ vs H Q E, sp vs H Q E → vs.length = ps.length)
    (body : ∀ (cdv : Value) (A : Around) (outer : List Env) (s : Shared) (H : Hp) (vs : List V) (Q : VK) (E : XK), Room k (A.deeper (envOfC qual (defScope st) s.heap.objs.size f cdv)) → sp vs H Q E →
      ∃ t, PSsT (cxOf CX0 P w K mg base N qual (defScope st) f cdv A outer s H E) (defBody st) t ∧ t { nx := fun _ H' => Q .non H', rt := Q } (start N vs) H) :
    FnOk P w K mg base CX0 (k + 1) f fd ps sp := by
  obtain ⟨oc, od, kV, doc, pm, an, cdv, ct, osl, e, lk, hcd⟩ := F.ex
  subst e
  exact fn_ofT lk hcd S hnc hps len fun A outer s H vs Q E hr hs => body cdv A outer s H vs Q E hr hs
section
variable [Tb] {α β γ : Type} [Rep α] [Rep β] [Rep γ] {K : PySem.W.Frag} {σ : L2.St} {G H : Hp} {te : TE} {D : Ends} {tz : TS} {i j k : Nat}
/-- a, b, c = a tuple of three -/
theorem s_asg3 {x : T3 α β γ} (e : Sub G H) (h : EvR K te σ G x) (n : ∀ u v w G2 H2, Grow G H G2 H2 → rep K x.a u G2 → rep K x.b v G2 → rep K x.c w G2 → D.nx (((σ.set i (some u)).set j (some v)).set k (some w)) H2) :
    tAsg te (gTup K 3 (gCons (gName i) (gCons (gName j) (gCons (gName k) gNil)))) D σ H :=
  h H e _ fun t G1 H1 g1 ⟨a, u, v, w, et, hA, r1, r2, r3⟩ => ⟨a, [u, v, w], et, sqT_mono g1.s.get hA, rfl, u, [v, w], rfl, v, [w], rfl, w, [], rfl, rfl, n u v w G1 H1 g1 r1 r2 r3⟩
theorem q_asg3 {x : T3 α β γ} (e : Sub G H) (h : EvR K te σ G x) (n : ∀ u v w G2 H2, Grow G H G2 H2 → rep K x.a u G2 → rep K x.b v G2 → rep K x.c w G2 → tz D (((σ.set i (some u)).set j (some v)).set k (some w)) H2) :
    tSeq (tAsg te (gTup K 3 (gCons (gName i) (gCons (gName j) (gCons (gName k) gNil))))) tz D σ H := s_asg3 (D := { D with nx := tz D }) e h n
end
/-! data as the library's own kind of it: None, texts, pairs -/
class Dat (α : Type) [Rep α] where
  d : α → PyData
  dp : ∀ {K : PySem.W.Frag} {H : Hp} {x : α} {v : V} {G : Hp}, Same G H → rep K x v G → Dp K H v (d x)
instance : Dat Str := ⟨PyData.str, fun {K H x v G} s h => by rw [show v = V.str x from h]; exact .str x⟩
instance : Dat Int := ⟨PyData.int, fun {K H x v G} s h => by rw [show v = V.int x from h]; exact .int x⟩
instance : Dat Bool := ⟨PyData.bool, fun {K H x v G} s h => by rw [show v = V.bl x from h]; exact .bl x⟩
def datO {α : Type} [Rep α] [Dat α] (o : Option α) : PyData := match o with
  | none => .none
  | some x => Dat.d x
instance {α : Type} [Rep α] [Dat α] : Dat (Option α) := ⟨datO, fun {K H x v G} s h => by
  cases x with
  | none => rw [show v = V.non from h]; exact .non
  | some y => exact Dat.dp s (show rep K y v G from h)⟩
instance {α β : Type} [Rep α] [Rep β] [Dat α] [Dat β] : Dat (α × β) := ⟨fun p => .tuple [Dat.d p.1, Dat.d p.2], fun {K H x v G} s h => by
  obtain ⟨a, u, w, ev, hA, r1, r2⟩ := h
  rw [ev]
  exact .tup (sqT_mono s hA) (.cons (Dat.dp s r1) (.cons (Dat.dp s r2) .nil))⟩
section
variable [Tb] {α β : Type} [Rep α] [Rep β] [Dat α] [Dat β] {K : PySem.W.Frag} {σ : L2.St} {G : Hp} {ta tb : TE} {x : α} {y : β}
theorem ev_eqD (ha : EvR K ta σ G x) (hb : EvR K tb σ G y) (h : SeqAt.shaped (Dat.d x) = true ∧ SeqAt.shaped (Dat.d y) = true) : EvR K (tOp (rEqD K) ta tb) σ G (PyData.eqv (Dat.d x) (Dat.d y)) :=
  ev_op ha hb fun v w G1 H1 _ s hv hw Q q => ⟨_, _, Dat.dp s.get hv, Dat.dp s.get hw, h.1, h.2, q _ G1 H1 (Grow.refl s) rfl⟩
theorem ev_neD (ha : EvR K ta σ G x) (hb : EvR K tb σ G y) (h : SeqAt.shaped (Dat.d x) = true ∧ SeqAt.shaped (Dat.d y) = true) : EvR K (tOp (rNeD K) ta tb) σ G (!PyData.eqv (Dat.d x) (Dat.d y)) :=
  ev_op ha hb fun v w G1 H1 _ s hv hw Q q => ⟨_, _, Dat.dp s.get hv, Dat.dp s.get hw, h.1, h.2, q _ G1 H1 (Grow.refl s) rfl⟩
end
end RL

set_option Elab.async false
set_option linter.all false
set_option maxRecDepth 100000
set_option maxHeartbeats 1000000
/-! quoting by two replacements, and back -/
namespace RL
open PySem PySem.Spec PyProof.Rows L2 TL
theorem tl_rep {x y z : Str} (hy : 1 ≤ y.length) : tl (Txt.replace x y z) = StrLaws.replL (tl y) (tl z) (tl x) := StrLaws.replace_list hy
def esc (q : Nat) (z : List Nat) (l : List Nat) : List Nat := l.flatMap fun c => if c = q then z else [c]
theorem esc_cons (q : Nat) (z : List Nat) (c : Nat) (r : List Nat) : esc q z (c :: r) = (if c = q then z else [c]) ++ esc q z r := by
  unfold esc
  rw [List.flatMap_cons]
theorem rep_esc (q : Nat) (z : List Nat) : ∀ l : List Nat, StrLaws.replL [q] z l = esc q z l
  | [] => StrLaws.replL_nil
  | c :: r => by
    rw [esc_cons]
    by_cases h : c = q
    · rw [if_pos h, StrLaws.replL_hit (by simp) (by subst h; rfl)]
      show z ++ StrLaws.replL [q] z r = _
      rw [rep_esc q z r]
    · rw [if_neg h, StrLaws.replL_miss (by
        intro e
        have e2 : [c] = [q] := e
        exact h (List.cons.inj e2).1), rep_esc q z r]
      rfl
abbrev E1 (l : List Nat) := esc 92 [92, 92] l
abbrev E2 (l : List Nat) := esc 34 [92, 34] l
theorem e2_app (a b : List Nat) : E2 (a ++ b) = E2 a ++ E2 b := by unfold E2 esc; rw [List.flatMap_append]
theorem e2_head : ∀ l : List Nat, (E2 l).head? ≠ some 34
  | [] => by intro h; cases h
  | c :: r => by
    rw [show E2 (c :: r) = (if c = 34 then [92, 34] else [c]) ++ E2 r from esc_cons ..]
    by_cases h : c = 34
    · rw [if_pos h]; intro e; cases e
    · rw [if_neg h]
      intro e
      exact h (Option.some.inj e)
theorem miss34 {r : List Nat} (h : r.head? ≠ some 34) : ¬ (92 :: r).take ([92, 34] : List Nat).length = [92, 34] := by
  cases r with
  | nil => intro e; cases e
  | cons c r =>
    intro e
    have e2 : [92, c] = [92, 34] := e
    have e3 : c = 34 := (List.cons.inj (List.cons.inj e2).2).1
    exact h (by rw [e3]; rfl)
theorem missC {a b c : Nat} {r : List Nat} (h : c ≠ a) : ¬ (c :: r).take ([a, b] : List Nat).length = [a, b] := by
  intro e
  cases r with
  | nil => cases e
  | cons d r =>
    have e2 : [c, d] = [a, b] := e
    exact h (List.cons.inj e2).1
theorem un1 : ∀ l : List Nat, StrLaws.replL [92, 34] [34] (E2 (E1 l)) = E1 l
  | [] => StrLaws.replL_nil
  | c :: r => by
    rw [show E1 (c :: r) = (if c = 92 then [92, 92] else [c]) ++ E1 r from esc_cons .., e2_app]
    by_cases h : c = 92
    · rw [if_pos h]
      show StrLaws.replL [92, 34] [34] (92 :: 92 :: E2 (E1 r)) = 92 :: 92 :: E1 r
      rw [StrLaws.replL_miss (miss34 (by intro e; cases e)), StrLaws.replL_miss (miss34 (e2_head _)), un1 r]
    · rw [if_neg h]
      by_cases h2 : c = 34
      · subst h2
        show StrLaws.replL [92, 34] [34] (92 :: 34 :: E2 (E1 r)) = 34 :: E1 r
        rw [StrLaws.replL_hit (by simp) rfl]
        show 34 :: StrLaws.replL [92, 34] [34] (E2 (E1 r)) = _
        rw [un1 r]
      · have e : E2 [c] = [c] := by
          rw [show E2 [c] = (if c = 34 then [92, 34] else [c]) ++ E2 [] from esc_cons .., if_neg h2]
          rfl
        rw [e]
        show StrLaws.replL [92, 34] [34] (c :: E2 (E1 r)) = c :: E1 r
        rw [StrLaws.replL_miss (missC h), un1 r]
theorem un2 : ∀ l : List Nat, StrLaws.replL [92, 92] [92] (E1 l) = l
  | [] => StrLaws.replL_nil
  | c :: r => by
    rw [show E1 (c :: r) = (if c = 92 then [92, 92] else [c]) ++ E1 r from esc_cons ..]
    by_cases h : c = 92
    · rw [if_pos h]
      subst h
      show StrLaws.replL [92, 92] [92] (92 :: 92 :: E1 r) = 92 :: r
      rw [StrLaws.replL_hit (by simp) rfl]
      show 92 :: StrLaws.replL [92, 92] [92] (E1 r) = _
      rw [un2 r]
    · rw [if_neg h]
      show StrLaws.replL [92, 92] [92] (c :: E1 r) = c :: r
      rw [StrLaws.replL_miss (missC h), un2 r]
theorem tl_bs : tl ("\\" : Str) = [92] := by decide +kernel
theorem tl_bs2 : tl ("\\\\" : Str) = [92, 92] := by decide +kernel
theorem tl_q : tl ("\"" : Str) = [34] := by decide +kernel
theorem tl_bq : tl ("\\\"" : Str) = [92, 34] := by decide +kernel
theorem esc_is (x : Str) : tl (Txt.replace (Txt.replace x ("\\" : Str) ("\\\\" : Str)) ("\"" : Str) ("\\\"" : Str)) = E2 (E1 (tl x)) := by
  rw [tl_rep (by decide), tl_rep (by decide), tl_bs, tl_bs2, tl_q, tl_bq, rep_esc, rep_esc]
theorem unesc_is (x : Str) (l : List Nat) (h : tl x = E2 (E1 l)) : tl (Txt.replace (Txt.replace x ("\\\"" : Str) ("\"" : Str)) ("\\\\" : Str) ("\\" : Str)) = l := by
  rw [tl_rep (by decide), tl_rep (by decide), tl_bs, tl_bs2, tl_q, tl_bq, h, un1, un2]
theorem cut_mid {α : Type} (a b : α) (m : List α) : cutL (a :: (m ++ [b])) (some 1) (some (-1)) = m := by
  unfold cutL
  have hl : (a :: (m ++ [b])).length = m.length + 2 := by simp
  rw [hl]
  have e1 : HT.sIx (m.length + 2) 0 (some 1) = 1 := by
    unfold HT.sIx
    simp
    try omega
  have e2 : HT.sIx (m.length + 2) (m.length + 2) (some (-1)) = m.length + 1 := by
    unfold HT.sIx
    simp
    try omega
  rw [e1, e2]
  show ((m ++ [b]).take (m.length + 1 - 1)) = m
  rw [Nat.add_sub_cancel, List.take_left]
end RL

set_option Elab.async false
set_option linter.all false
set_option maxRecDepth 100000
set_option maxHeartbeats 4000000
namespace RL
open PySem PySem.Spec PyProof.Rows L2 CwR
open Rep (rep)
/-! ### a text sign by sign; while; things of several kinds; x in l over data -/
def sgn (z : Str) : List Str := z.cps.toList.map fun c => ⟨#[c]⟩
theorem sgn_len (z : Str) : (sgn z).length = z.cps.size := by
  unfold sgn
  rw [List.length_map, Array.length_toList]
theorem sgn_at {z : Str} {i c : Nat} (h : z.cps[i]? = some c) : (sgn z)[i]? = some ⟨#[c]⟩ := by
  unfold sgn
  rw [List.getElem?_map, Array.getElem?_toList, h]
  rfl
section
variable [Tb] {α β : Type} [Rep α] [Rep β] {K : PySem.W.Frag} {σ : L2.St} {G H : Hp} {te ta tl : TE} {tt : TT} {t u tb tz : TS} {D : Ends} {x : α} {b : Bool} {i j : Nat} {a : Addr}
theorem s_forS {l : Str} {g : TG} (e : Sub G H) (h : EvR K tl σ G l) (k : ∀ G1 H1 xs, Grow G H G1 H1 → Reps K (sgn l) xs G1 → ∃ Pv : Nat → L2.St → Hp → Prop, Pv 0 σ H1 ∧ (∀ i σ' H', Pv i σ' H' → Sub G1 H') ∧
    (∀ i x v σ' H', (sgn l)[i]? = some x → rep K x v G1 → Pv i σ' H' → g v σ' H' fun σ2 H2 => tb { D with nx := Pv (i + 1), ct := Pv (i + 1), bk := D.nx } σ2 H2) ∧ ∀ σ' H', Pv (sgn l).length σ' H' → D.nx σ' H') : tFor (iStr tl) g tb D σ H :=
  h H e _ fun v G1 H1 g1 r => by
    obtain ⟨Pv, p0, ps, pt, pe⟩ := k G1 H1 _ g1 (reps_of_flat (sgn l))
    refine ⟨l, r, for_it walk_str Pv p0 (fun _ _ _ _ _ => trivial) (fun i x σ' H' H2 hi p y => ?_) fun σ' H' p => pe σ' H' (by rw [sgn_len]; exact p)⟩
    obtain ⟨e2, c, hc, ex⟩ := y
    subst e2
    exact pt i ⟨#[c]⟩ x σ' H2 (sgn_at hc) ex p
theorem q_forS {l : Str} {g : TG} (e : Sub G H) (h : EvR K tl σ G l) (k : ∀ G1 H1 xs, Grow G H G1 H1 → Reps K (sgn l) xs G1 → ∃ Pv : Nat → L2.St → Hp → Prop, Pv 0 σ H1 ∧ (∀ i σ' H', Pv i σ' H' → Sub G1 H') ∧
    (∀ i x v σ' H', (sgn l)[i]? = some x → rep K x v G1 → Pv i σ' H' → g v σ' H' fun σ2 H2 => tb { D with nx := Pv (i + 1), ct := Pv (i + 1), bk := tz D } σ2 H2) ∧ ∀ σ' H', Pv (sgn l).length σ' H' → tz D σ' H') : tSeq (tFor (iStr tl) g tb) tz D σ H :=
  s_forS (D := { D with nx := tz D }) e h k
end
/-! while -/
def whl {S : Type} (c : S → Bool) (f : S → S) : Nat → S → S
  | 0, s => s
  | n + 1, s => cond (c s) (whl c f n (f s)) s
theorem whl_stop {S : Type} {c : S → Bool} {f : S → S} {s : S} (h : c s = false) : ∀ n, whl c f n s = s
  | 0 => rfl
  | n + 1 => by show cond (c s) _ s = s; rw [h]; rfl
theorem whl_fuel {S : Type} {c : S → Bool} {f : S → S} {I : S → Prop} {μ : S → Nat} (hd : ∀ s, I s → c s = true → I (f s) ∧ μ (f s) < μ s) : ∀ (m n : Nat) (s : S), n ≤ m → I s → μ s ≤ n → whl c f n s = whl c f (μ s) s
  | 0, n, s, hn, hi, h => by
    have e1 : n = 0 := by omega
    have e2 : μ s = 0 := by omega
    rw [e1, e2]
  | m + 1, n, s, hn, hi, h => by
    cases q : c s with
    | false => rw [whl_stop q, whl_stop q]
    | true =>
      obtain ⟨i2, l⟩ := hd s hi q
      obtain ⟨k, ek⟩ : ∃ k, μ s = k + 1 := ⟨μ s - 1, by omega⟩
      obtain ⟨k2, ek2⟩ : ∃ k, n = k + 1 := ⟨n - 1, by omega⟩
      rw [ek, ek2]
      show cond (c s) (whl c f k2 (f s)) s = cond (c s) (whl c f k (f s)) s
      rw [q]
      show whl c f k2 (f s) = whl c f k (f s)
      rw [whl_fuel hd m k2 (f s) (by omega) i2 (by omega), whl_fuel hd m k (f s) (by omega) i2 (by omega)]
theorem whl_turn {S : Type} {c : S → Bool} {f : S → S} {I : S → Prop} {μ : S → Nat} (hd : ∀ s, I s → c s = true → I (f s) ∧ μ (f s) < μ s) {s : S} (hi : I s) (h : c s = true) : whl c f (μ s) s = whl c f (μ (f s)) (f s) := by
  obtain ⟨i2, l⟩ := hd s hi h
  obtain ⟨k, ek⟩ : ∃ k, μ s = k + 1 := ⟨μ s - 1, by omega⟩
  rw [ek]
  show cond (c s) (whl c f k (f s)) s = _
  rw [h]
  exact whl_fuel hd k k (f s) (Nat.le_refl _) i2 (by omega)
section
variable [Tb] {K : PySem.W.Frag} {σ : L2.St} {G H : Hp} {tt : TT} {tb tz : TS} {D : Ends}
theorem s_whl {S : Type} (c : S → Bool) (f : S → S) (I : S → Prop) (μ : S → Nat) (s0 : S) (i0 : I s0) (hd : ∀ s, I s → c s = true → I (f s) ∧ μ (f s) < μ s) (e : Sub G H)
    (k : ∀ G1 H1, Grow G H G1 H1 → ∃ Pv : S → L2.St → Hp → Prop, Pv s0 σ H1 ∧ ∀ s σ' H', I s → Pv s σ' H' → ∃ G', Sub G' H' ∧ EvB tt σ' G' (c s) ∧
      (c s = true → ∀ G2 H2, Grow G' H' G2 H2 → tb { D with nx := Pv (f s), ct := Pv (f s), bk := D.nx } σ' H2) ∧ (c s = false → ∀ G2 H2, Grow G' H' G2 H2 → s = whl c f (μ s0) s0 → D.nx σ' H2)) : tWhile tt tb D σ H := by
  obtain ⟨Pv, p0, pt⟩ := k G H (Grow.refl e)
  refine ⟨fun m σ' H' => ∃ s, I s ∧ m = μ s ∧ whl c f (μ s) s = whl c f (μ s0) s0 ∧ Pv s σ' H', ⟨_, s0, i0, rfl, rfl, p0⟩, ?_⟩
  rintro m σ' H' ⟨s, hi, rfl, hw, p⟩
  obtain ⟨G', e', hc, h1, h2⟩ := pt s σ' H' hi p
  refine hc H' e' _ fun G2 H2 g2 => ?_
  cases q : c s with
  | true =>
    refine iteT ⟨Pv (f s), fun σ3 H3 p3 => ?_, h1 q G2 H2 g2⟩
    obtain ⟨i2, l⟩ := hd s hi q
    exact ⟨_, l, f s, i2, rfl, by rw [← hw, whl_turn hd hi q], p3⟩
  | false => exact iteF (h2 q G2 H2 g2 (by rw [← hw, whl_stop q]))
theorem q_whl {S : Type} (c : S → Bool) (f : S → S) (I : S → Prop) (μ : S → Nat) (s0 : S) (i0 : I s0) (hd : ∀ s, I s → c s = true → I (f s) ∧ μ (f s) < μ s) (e : Sub G H)
    (k : ∀ G1 H1, Grow G H G1 H1 → ∃ Pv : S → L2.St → Hp → Prop, Pv s0 σ H1 ∧ ∀ s σ' H', I s → Pv s σ' H' → ∃ G', Sub G' H' ∧ EvB tt σ' G' (c s) ∧
      (c s = true → ∀ G2 H2, Grow G' H' G2 H2 → tb { D with nx := Pv (f s), ct := Pv (f s), bk := tz D } σ' H2) ∧ (c s = false → ∀ G2 H2, Grow G' H' G2 H2 → s = whl c f (μ s0) s0 → tz D σ' H2)) : tSeq (tWhile tt tb) tz D σ H :=
  s_whl (D := { D with nx := tz D }) c f I μ s0 i0 hd e k
end
/-! data -/
section
variable {α β : Type} [Rep α] [Rep β]
theorem _root_.L2.Room.units1 {k : Nat} {A : Around} (r : Room k A) : A.units + 65 < cLine := by have := r.un; omega
instance : Dat Unit := ⟨fun _ => .none, fun {K H x v G} s h => by rw [show v = V.non from h]; exact .non⟩
def datS {α β : Type} [Rep α] [Rep β] [Dat α] [Dat β] (o : Sum α β) : PyData := match o with
  | .inl x => Dat.d x
  | .inr x => Dat.d x
instance [Dat α] [Dat β] : Dat (Sum α β) := ⟨datS, fun {K H x v G} s h => by
  cases x with
  | inl y => exact Dat.dp s (show rep K y v G from h)
  | inr y => exact Dat.dp s (show rep K y v G from h)⟩
theorem dps {K : PySem.W.Frag} {G H : Hp} [Dat α] {s : Same G H} : ∀ {l : List α} {vs : List V}, Reps K l vs G → DpAll K H vs (l.map Dat.d)
  | _, _, .nil => .nil
  | _, _, .cons r t => .cons (Dat.dp s r) (dps (s := s) t)
instance [Dat α] : Dat (Tpl α) := ⟨fun t => .tuple (t.l.map Dat.d), fun {K H x v G} s h => by
  obtain ⟨a, xs, ev, hA, r⟩ := h
  rw [ev]
  exact .tup (sqT_mono s hA) (dps (s := s) r)⟩
instance [Dat α] : Dat (List α) := ⟨fun t => .list (t.map Dat.d), fun {K H x v G} s h => by
  obtain ⟨a, xs, ev, hA, r⟩ := h
  rw [ev]
  exact .lst (SqL.of (s _ _ hA)) (dps (s := s) r)⟩
def memD [Dat α] (x : α) (l : List α) : Bool := (l.map Dat.d).any fun z => PyData.eqv z (Dat.d x)
end
/-! things of several kinds -/
instance {α β : Type} [Inhabited α] : Inhabited (Sum α β) := ⟨Sum.inl default⟩
class NoS (α : Type) [Rep α] where
  ty : ∀ [Tb] {K : PySem.W.Frag} {x : α} {v : V} {G H : Hp}, Sub G H → rep K x v G → ∃ t, TyX K H v (.type t) ∧ PySem.W.kitOne K (.type t) (.type "str") = some false
instance : NoS Int := ⟨fun {_ K x v G H} s r => ⟨"int", by rw [show v = V.int x from r]; exact .base (.int x), kit_ty (by decide +kernel)⟩⟩
instance : NoS Bool := ⟨fun {_ K x v G H} s r => ⟨"bool", by rw [show v = V.bl x from r]; exact .base (.bl x), kit_ty (by decide +kernel)⟩⟩
instance : NoS Unit := ⟨fun {_ K x v G H} s r => ⟨"NoneType", by rw [show v = V.non from r]; exact .base .non, kit_ty (by decide +kernel)⟩⟩
instance {α : Type} [Rep α] : NoS (Tpl α) := ⟨fun {_ K x v G H} s r => by
  obtain ⟨a, xs, ev, hA, _⟩ := r
  exact ⟨"tuple", by rw [ev]; exact tyX_tup (sqT_mono s.get hA), kit_ty (by decide +kernel)⟩⟩
instance {α β : Type} [Rep α] [Rep β] [NoS α] [NoS β] : NoS (Sum α β) := ⟨fun {_ K x v G H} s r => by
  cases x with
  | inl x => exact NoS.ty s (show rep K x v G from r)
  | inr x => exact NoS.ty s (show rep K x v G from r)⟩
section
variable [Tb] {α β : Type} [Rep α] [Rep β] {K : PySem.W.Frag} {σ : L2.St} {G H : Hp} {te ta tb : TE}
theorem ev_Inl {x : α} (h : EvR K te σ G x) : EvR K te σ G (Sum.inl x : Sum α β) := h
theorem ev_Inr {x : β} (h : EvR K te σ G x) : EvR K te σ G (Sum.inr x : Sum α β) := h
theorem ev_isStrS [NoS β] {z : Sum Str β} (ha : EvR K te σ G z) : EvR K (tCB (rIsi K) (tCons te (tCons (tC (.ty "str")) tNil))) σ G z.isLeft := fun H e Q q =>
  ha H e _ fun v G1 H1 g1 r => by
    cases z with
    | inl x => exact ⟨v, .ty "str", .type "str", .type "str", true, rfl, .ty _, by rw [show v = V.str x from r]; exact .base (.str x), kit_ty (by decide +kernel), q _ G1 H1 g1 rfl⟩
    | inr x =>
      obtain ⟨t, h1, h2⟩ := NoS.ty g1.s (show rep K x v G1 from r)
      exact ⟨v, .ty "str", .type t, .type "str", false, rfl, .ty _, h1, h2, q _ G1 H1 g1 rfl⟩
theorem un_inl [Inhabited α] {z : Sum α β} {v : V} (r : rep K z v G) (h : z.isLeft = true) : rep K (getL z) v G := by
  cases z with
  | inl x => exact r
  | inr x => cases h
theorem getL_inl [Inhabited α] {x : α} : getL (Sum.inl x : Sum α β) = x := rfl
theorem not_f {b : Bool} (h : (!b) = false) : b = true := by cases b <;> simp_all
theorem l_inl {x : α} {v : V} (r : rep K (Sum.inl x : Sum α β) v G) : rep K x v G := r
theorem ev_inD [Dat α] {x : α} {l : List α} (ha : EvR K ta σ G x) (hb : EvR K tb σ G l) (h : SeqAt.shaped (Dat.d x) = true ∧ SeqAt.shaped (Dat.d l) = true) : EvR K (tOp (rInD K) ta tb) σ G (memD x l) :=
  ev_op ha hb fun v w G1 H1 _ s hv hw Q q => ⟨_, _, Dat.dp s.get hv, Dat.dp s.get hw, h.1, h.2, q _ G1 H1 (Grow.refl s) rfl⟩
end
theorem op_inDK {X : Cx} {K : PySem.W.Frag} (hu : X.A.units + 65 < cLine) (h : X.K = K := by rfl) : OpR X (compareOp .In) (rInD K) := by subst h; exact op_inD hu
end RL

set_option Elab.async false
set_option linter.all false
set_option maxRecDepth 100000
set_option maxHeartbeats 4000000
namespace RL
open PySem PySem.Spec PyProof.Rows L2 CwR
open Rep (rep)
/-! ### what may be no text -/
theorem un_someD {α : Type} [Rep α] [Inhabited α] {K : PySem.W.Frag} {G : Hp} {z : Option α} {v : V} (r : rep K z v G) (h : z.isSome = true) : rep K (Option.getD z default) v G := by
  cases z with
  | none => cases h
  | some x => exact r
theorem ev_isStrO [Tb] {K : PySem.W.Frag} {σ : L2.St} {G : Hp} {te : TE} {z : Option Str} (ha : EvR K te σ G z) : EvR K (tCB (rIsi K) (tCons te (tCons (tC (.ty "str")) tNil))) σ G z.isSome := fun H e Q q =>
  ha H e _ fun v G1 H1 g1 r => by
    cases z with
    | some x => exact ⟨v, .ty "str", .type "str", .type "str", true, rfl, .ty _, by rw [show v = V.str x from r]; exact .base (.str x), kit_ty (by decide +kernel), q _ G1 H1 g1 rfl⟩
    | none => exact ⟨v, .ty "str", .type "NoneType", .type "str", false, rfl, .ty _, by rw [show v = V.non from r]; exact .base .non, kit_ty (by decide +kernel), q _ G1 H1 g1 rfl⟩
theorem not_fA {b : Bool} (h : (!b) = false) : b = true := by cases b <;> simp_all
def optAny (o : Option Str) : Sum Str (Sum Int (Sum Unit (Sum Bool (Tpl Str)))) := match o with
  | none => .inr (.inr (.inl ()))
  | some s => .inl s
theorem ev_optAny [Tb] {K : PySem.W.Frag} {σ : L2.St} {G : Hp} {te : TE} {z : Option Str} (ha : EvR K te σ G z) : EvR K te σ G (optAny z) := fun H e Q q =>
  ha H e _ fun v G1 H1 g1 r => by
    cases z with
    | some x => exact q _ G1 H1 g1 r
    | none => exact q _ G1 H1 g1 r
end RL

set_option Elab.async false
set_option linter.all false
set_option maxRecDepth 100000
set_option maxHeartbeats 4000000
namespace RL
open PySem PySem.Spec PyProof.Rows L2 CwR
open Rep (rep)
/-! ### data of any kind -/
mutual
theorem dp_mono {K : PySem.W.Frag} {G G' : Hp} (e : SameD G G') : ∀ (d : PyData) (v : V), Dp K G v d → Dp K G' v d
  | .none, _, h => by cases h; exact .non
  | .bool b, _, h => by cases h; exact .bl b
  | .int i, _, h => by cases h; exact .int i
  | .str x, _, h => by cases h; exact .str x
  | .list ds, _, h => by
    cases h with
    | lst hs ha => exact .lst (sqL_monoD e hs) (dpAll_mono e ds _ ha)
  | .tuple ds, _, h => by
    cases h with
    | tup hs ha => exact .tup (sqT_monoD e hs) (dpAll_mono e ds _ ha)
  | .dict _, _, h => by cases h
theorem dpAll_mono {K : PySem.W.Frag} {G G' : Hp} (e : SameD G G') : ∀ (ds : List PyData) (vs : List V), DpAll K G vs ds → DpAll K G' vs ds
  | [], _, h => by cases h; exact .nil
  | d :: ds, _, h => by
    cases h with
    | cons h1 h2 => exact .cons (dp_mono e d _ h1) (dpAll_mono e ds _ h2)
end
instance : Rep PyData := ⟨fun K d v G => Dp K G v d, fun e h => dp_mono e _ _ h⟩
instance : Dat PyData := ⟨fun d => d, fun s h => dp_mono (same_d s) _ _ h⟩
instance : Inhabited PyData := ⟨.none⟩
theorem dpAll_reps {K : PySem.W.Frag} {G : Hp} : ∀ {ds : List PyData} {vs : List V}, DpAll K G vs ds → Reps K ds vs G
  | [], _, h => by cases h; exact .nil
  | d :: ds, _, h => by
    cases h with
    | cons h1 h2 => exact .cons h1 (dpAll_reps h2)
theorem reps_dpAll {K : PySem.W.Frag} {G : Hp} : ∀ {ds : List PyData} {vs : List V}, Reps K ds vs G → DpAll K G vs ds
  | _, _, .nil => .nil
  | _, _, .cons h t => .cons h (reps_dpAll t)
def isStrD : PyData → Bool
  | .str _ => true
  | _ => false
def isBoolD : PyData → Bool
  | .bool _ => true
  | _ => false
def isNumD : PyData → Bool
  | .int _ => true
  | _ => false
def isIntD : PyData → Bool
  | .int _ => true
  | .bool _ => true
  | _ => false
def isTupD : PyData → Bool
  | .tuple _ => true
  | _ => false
def isListD : PyData → Bool
  | .list _ => true
  | _ => false
def isNonD : PyData → Bool
  | .none => true
  | _ => false
def strD : PyData → Str
  | .str s => s
  | _ => Str.empty
def intD : PyData → Int
  | .int i => i
  | _ => 0
def boolD : PyData → Bool
  | .bool b => b
  | _ => false
def tupD : PyData → List PyData
  | .tuple ds => ds
  | _ => []
theorem num_of {d : PyData} (h1 : isIntD d = true) (h2 : (!isBoolD d) = true) : isNumD d = true := by
  cases d <;> simp_all [isIntD, isBoolD, isNumD]
theorem or_l {a b : Bool} (h : ((!a) || b) = false) : a = true := by cases a <;> simp_all
theorem or_r {a b : Bool} (h : (a || b) = false) : b = false := by cases a <;> simp_all
section
variable {K : PySem.W.Frag} {d : PyData} {v : V} {G : Hp}
theorem un_strD (r : rep K d v G) (h : isStrD d = true) : rep K (strD d) v G := by
  cases d <;> first | cases h | skip
  have r : Dp K G v (.str _) := r
  cases r
  rfl
theorem un_intD (r : rep K d v G) (h : isNumD d = true) : rep K (intD d) v G := by
  cases d <;> first | cases h | skip
  have r : Dp K G v (.int _) := r
  cases r
  rfl
theorem un_boolD (r : rep K d v G) (h : isBoolD d = true) : rep K (boolD d) v G := by
  cases d <;> first | cases h | skip
  have r : Dp K G v (.bool _) := r
  cases r
  rfl
theorem un_tupD (r : rep K d v G) (h : isTupD d = true) : rep K (Tpl.mk (tupD d)) v G := by
  cases d <;> first | cases h | skip
  have r : Dp K G v (.tuple _) := r
  cases r with
  | tup hs ha => exact ⟨_, _, rfl, hs, dpAll_reps ha⟩
end
def tyD : PyData → String
  | .none => "NoneType"
  | .bool _ => "bool"
  | .int _ => "int"
  | .str _ => "str"
  | .list _ => "list"
  | .tuple _ => "tuple"
  | .dict _ => "dict"
theorem tyX_lst {K : PySem.W.Frag} {H : Hp} {a : Addr} {xs : List V} (h : SqL K H a xs) : TyX K H (.ref a) (.type "list") := by
  rcases h with h | ⟨o, _, _, h, hc, _⟩
  · rcases h with h | ⟨o, h⟩
    · exact .base (.lst h)
    · exact .base (.frz h)
  · exact .kList h hc
section
variable [Tb] {α β : Type} [Rep α] [Rep β] {K : PySem.W.Frag} {σ : L2.St} {G H : Hp} {te ta tb tl : TE} {d : PyData}
theorem ty_dp {H : Hp} {v : V} : ∀ {d : PyData}, Dp K H v d → TyX K H v (.type (tyD d))
  | .none, h => by cases h; exact .base .non
  | .bool b, h => by cases h; exact .base (.bl b)
  | .int b, h => by cases h; exact .base (.int b)
  | .str b, h => by cases h; exact .base (.str b)
  | .list b, h => by
    cases h with
    | lst hs _ => exact tyX_lst hs
  | .tuple b, h => by
    cases h with
    | tup hs _ => exact tyX_tup hs
  | .dict b, h => by cases h
theorem ev_toD [Dat α] {x : α} (h : EvR K te σ G x) : EvR K te σ G (Dat.d x : PyData) := fun H e Q q => h H e Q fun v G1 H1 g1 r => q v G1 H1 g1 (Dat.dp (Same.refl _) r)
theorem ev_asStr (h : EvR K te σ G d) (hs : isStrD d = true) : EvR K te σ G (strD d) := fun H e Q q => h H e Q fun v G1 H1 g1 r => q v G1 H1 g1 (un_strD r hs)
theorem ev_asInt (h : EvR K te σ G d) (hs : isNumD d = true) : EvR K te σ G (intD d) := fun H e Q q => h H e Q fun v G1 H1 g1 r => q v G1 H1 g1 (un_intD r hs)
theorem ev_asBool (h : EvR K te σ G d) (hs : isBoolD d = true) : EvR K te σ G (boolD d) := fun H e Q q => h H e Q fun v G1 H1 g1 r => q v G1 H1 g1 (un_boolD r hs)
theorem ev_asTup (h : EvR K te σ G d) (hs : isTupD d = true) : EvR K te σ G (Tpl.mk (tupD d)) := fun H e Q q => h H e Q fun v G1 H1 g1 r => q v G1 H1 g1 (un_tupD r hs)
theorem ev_isD {t : String} {f : PyData → Bool} (hk : ∀ d, isNonD d = isNonD d → PySem.W.kitOne K (.type (tyD d)) (.type t) = some (f d)) (ha : EvR K te σ G d) : EvR K (tCB (rIsi K) (tCons te (tCons (tC (.ty t)) tNil))) σ G (f d) := fun H e Q q =>
  ha H e _ fun v G1 H1 g1 r => ⟨v, .ty t, .type (tyD d), .type t, f d, rfl, .ty _, ty_dp (dp_mono (same_d g1.s.get) _ _ r), hk d rfl, q _ G1 H1 g1 rfl⟩
theorem ev_isStrD (ha : EvR K te σ G d) : EvR K (tCB (rIsi K) (tCons te (tCons (tC (.ty "str")) tNil))) σ G (isStrD d) := ev_isD (fun d _ => match d with
  | .none => kit_ty (show kitB "NoneType" "str" = some false by decide +kernel)
  | .bool _ => kit_ty (show kitB "bool" "str" = some false by decide +kernel)
  | .int _ => kit_ty (show kitB "int" "str" = some false by decide +kernel)
  | .str _ => kit_ty (show kitB "str" "str" = some true by decide +kernel)
  | .list _ => kit_ty (show kitB "list" "str" = some false by decide +kernel)
  | .tuple _ => kit_ty (show kitB "tuple" "str" = some false by decide +kernel)
  | .dict _ => kit_ty (show kitB "dict" "str" = some false by decide +kernel)) ha
theorem ev_isIntD (ha : EvR K te σ G d) : EvR K (tCB (rIsi K) (tCons te (tCons (tC (.ty "int")) tNil))) σ G (isIntD d) := ev_isD (fun d _ => match d with
  | .none => kit_ty (show kitB "NoneType" "int" = some false by decide +kernel)
  | .bool _ => kit_ty (show kitB "bool" "int" = some true by decide +kernel)
  | .int _ => kit_ty (show kitB "int" "int" = some true by decide +kernel)
  | .str _ => kit_ty (show kitB "str" "int" = some false by decide +kernel)
  | .list _ => kit_ty (show kitB "list" "int" = some false by decide +kernel)
  | .tuple _ => kit_ty (show kitB "tuple" "int" = some false by decide +kernel)
  | .dict _ => kit_ty (show kitB "dict" "int" = some false by decide +kernel)) ha
theorem ev_isBoolD (ha : EvR K te σ G d) : EvR K (tCB (rIsi K) (tCons te (tCons (tC (.ty "bool")) tNil))) σ G (isBoolD d) := ev_isD (fun d _ => match d with
  | .none => kit_ty (show kitB "NoneType" "bool" = some false by decide +kernel)
  | .bool _ => kit_ty (show kitB "bool" "bool" = some true by decide +kernel)
  | .int _ => kit_ty (show kitB "int" "bool" = some false by decide +kernel)
  | .str _ => kit_ty (show kitB "str" "bool" = some false by decide +kernel)
  | .list _ => kit_ty (show kitB "list" "bool" = some false by decide +kernel)
  | .tuple _ => kit_ty (show kitB "tuple" "bool" = some false by decide +kernel)
  | .dict _ => kit_ty (show kitB "dict" "bool" = some false by decide +kernel)) ha
theorem ev_isTupD (ha : EvR K te σ G d) : EvR K (tCB (rIsi K) (tCons te (tCons (tC (.ty "tuple")) tNil))) σ G (isTupD d) := ev_isD (fun d _ => match d with
  | .none => kit_ty (show kitB "NoneType" "tuple" = some false by decide +kernel)
  | .bool _ => kit_ty (show kitB "bool" "tuple" = some false by decide +kernel)
  | .int _ => kit_ty (show kitB "int" "tuple" = some false by decide +kernel)
  | .str _ => kit_ty (show kitB "str" "tuple" = some false by decide +kernel)
  | .list _ => kit_ty (show kitB "list" "tuple" = some false by decide +kernel)
  | .tuple _ => kit_ty (show kitB "tuple" "tuple" = some true by decide +kernel)
  | .dict _ => kit_ty (show kitB "dict" "tuple" = some false by decide +kernel)) ha
theorem ev_isList {l : List α} (ha : EvR K te σ G l) : EvR K (tCB (rIsi K) (tCons te (tCons (tC (.ty "list")) tNil))) σ G true := fun H e Q q =>
  ha H e _ fun v G1 H1 g1 ⟨a, xs, ev, hA, r⟩ => ⟨v, .ty "list", .type "list", .type "list", true, rfl, .ty _, by rw [ev]; exact tyX_lst (SqL.of (g1.s _ _ hA)), kit_ty (by decide +kernel), q _ G1 H1 g1 rfl⟩
/-- methods of texts, with more arguments -/
theorem ev_stripC {s c : Str} (ha : EvR K ta σ G s) (hb : EvR K tb σ G c) (h : s.length ≤ sizeLine) : EvR K (tM1 (fun x xs H Q => ∃ a b, x = .str a ∧ xs = [.str b] ∧ a.length ≤ sizeLine ∧ Q (.str (Txt.stripChars a b)) H) ta tb) σ G (Txt.stripChars s c) := fun H e Q q =>
  ha H e _ fun v G1 H1 g1 r1 => ⟨⟨s, r1⟩, hb.mono g1.g H1 g1.s _ fun w G2 H2 g2 r2 => ⟨s, c, r1, by rw [show w = V.str c from r2], h, q _ G2 H2 (g1.trans g2) rfl⟩⟩
theorem ev_lstripC {s c : Str} (ha : EvR K ta σ G s) (hb : EvR K tb σ G c) (h : s.length ≤ sizeLine) : EvR K (tM1 (fun x xs H Q => ∃ a b, x = .str a ∧ xs = [.str b] ∧ a.length ≤ sizeLine ∧ Q (.str (Txt.lstripChars a b)) H) ta tb) σ G (Txt.lstripChars s c) := fun H e Q q =>
  ha H e _ fun v G1 H1 g1 r1 => ⟨⟨s, r1⟩, hb.mono g1.g H1 g1.s _ fun w G2 H2 g2 r2 => ⟨s, c, r1, by rw [show w = V.str c from r2], h, q _ G2 H2 (g1.trans g2) rfl⟩⟩
/-- int(text), int(bool), str(text or number) -/
theorem ev_intS {s : Str} {n : Int} (ha : EvR K ta σ G s) (h : PySem.intText? s = some n ∧ s.length ≤ 640) : EvR K (tCB (fun xs H Q => ∃ a n, xs = [.str a] ∧ PySem.intText? a = some n ∧ a.length ≤ 640 ∧ Q (.int n) H) (tCons ta tNil)) σ G n := fun H e Q q =>
  ha H e _ fun v G1 H1 g1 r1 => ⟨s, n, by rw [show v = V.str s from r1], h.1, h.2, q _ G1 H1 g1 rfl⟩
theorem ev_intB {b : Bool} (ha : EvR K ta σ G b) : EvR K (tCB (fun xs H Q => (∃ i, xs = [.int i] ∧ Q (.int i) H) ∨ ∃ k, xs = [.bl k] ∧ Q (.int (if k then 1 else 0)) H) (tCons ta tNil)) σ G (if b = true then (1 : Int) else 0) := fun H e Q q =>
  ha H e _ fun v G1 H1 g1 r1 => .inr ⟨b, by rw [show v = V.bl b from r1], q _ G1 H1 g1 rfl⟩
def strOfD : PyData → Str
  | .str s => s
  | .int i => PySem.Str.ofString (toString i)
  | _ => Str.empty
def rStrA : List V → Hp → VK → Prop := fun xs H Q => (∃ a, xs = [.str a] ∧ Q (.str a) H) ∨ ∃ i, xs = [.int i] ∧ i.natAbs.log2 < 1920 ∧ Q (.str (toString i)) H
theorem call_strA {X : Cx} : CallR X (.type "str") rStrA := CallR.or SkE.call_str_str call_str_int
theorem ev_strD (ha : EvR K ta σ G d) (h : isStrD d = true ∨ isNumD d = true ∧ (intD d).natAbs.log2 < 1920) : EvR K (tCB rStrA (tCons ta tNil)) σ G (strOfD d) := fun H e Q q =>
  ha H e _ fun v G1 H1 g1 r1 => by
    have r1 : Dp K G1 v d := r1
    cases d with
    | str s => cases r1; exact .inl ⟨s, rfl, q _ G1 H1 g1 rfl⟩
    | int i =>
      cases r1
      refine .inr ⟨i, rfl, ?_, q _ G1 H1 g1 rfl⟩
      rcases h with h | h
      · cases h
      · exact h.2
    | none => rcases h with h | ⟨h, _⟩ <;> exact Bool.noConfusion h
    | bool _ => rcases h with h | ⟨h, _⟩ <;> exact Bool.noConfusion h
    | list _ => rcases h with h | ⟨h, _⟩ <;> exact Bool.noConfusion h
    | tuple _ => rcases h with h | ⟨h, _⟩ <;> exact Bool.noConfusion h
    | dict _ => rcases h with h | ⟨h, _⟩ <;> exact Bool.noConfusion h
/-- all(list of bools) -/
theorem ev_allL {l : List Bool} (ha : EvR K ta σ G l) : EvR K (tCB (rAll K) (tCons ta tNil)) σ G (l.all id) := fun H e Q q =>
  ha H e _ fun v G1 H1 g1 ⟨a, xs, ev, hA, r⟩ => ⟨a, l, by rw [ev], by
    have e := reps_flat r
    subst e
    exact SqL.of (g1.s _ _ hA), q _ G1 H1 g1 rfl⟩
/-- a test of a bool that is of data -/
theorem et_BD {t : TE} {tt : TT} {b : Bool} (h : EvR K te σ G b) : EvR K te σ G b := h
end
theorem cr_allK {X : Cx} {K : PySem.W.Frag} (hc : X.calm = true) (h : X.K = K := by rfl) : CallR X (.builtin "all") (rAll K) := by subst h; exact cr_all hc
/-! ### tables with texts as keys -/
section
variable {α : Type} [Rep α] {K : PySem.W.Frag} {w : World}
def Ent (K : PySem.W.Frag) (w : World) (p : Str × α) (e : DictEntry) : Prop := (∃ t, e.key = .str p.1 t) ∧ e.hash = PyData.keyHash w.params p.1 ∧ ∃ v, RelV v e.val ∧ ∀ G, rep K p.2 v G
def KDs (K : PySem.W.Frag) (w : World) (a : Addr) (tab : List (Str × α)) : Prop := ∃ es n, K.lookup a = some ⟨.type "dict", none, .dict es n, #[]⟩ ∧ Paired (Ent K w) tab es.toList ∧ (a == sysModules) = false
def tabGet (tab : List (Str × α)) (z : Str) : Option α := (tab.find? fun p => decide (p.1 = z)).map (·.2)
theorem ent_lit : ∀ {tab : List (Str × α)} {l : List DictEntry}, Paired (Ent K w) tab l → PySem.W.KeysLit w.params l
  | _, _, .nil => trivial
  | _, _, .cons ⟨⟨t, h1⟩, h2, _⟩ r => ⟨⟨_, t, h1, h2⟩, ent_lit r⟩
theorem isStr_str (x z : Str) (t : Tok) : (Value.str x t).isStr z = decide (x = z) := by
  first | rfl | (show (x == z) = _; exact beq_eq_decide x z) | (unfold Value.isStr; exact beq_eq_decide x z)
theorem ent_find {z : Str} : ∀ {tab : List (Str × α)} {l : List DictEntry}, Paired (Ent K w) tab l → ∀ {o}, tabGet tab z = o →
    (match o with
      | some x => ∃ e v, l.find? (·.key.isStr z) = some e ∧ RelV v e.val ∧ ∀ G, rep K x v G
      | none => l.find? (·.key.isStr z) = none ∧ l.any (·.refKey) = false)
  | _, _, .nil, o, h => by
    have : o = none := h.symm
    subst this
    exact ⟨rfl, rfl⟩
  | p :: tab, e :: l, .cons ⟨⟨t, h1⟩, h2, v, h3, h4⟩ r, o, h => by
    have ek : e.key.isStr z = decide (p.1 = z) := by rw [h1]; exact isStr_str _ _ _
    by_cases q : p.1 = z
    · have eo : o = some p.2 := by
        rw [← h]
        unfold tabGet
        rw [List.find?_cons, decide_eq_true q]
        rfl
      subst eo
      refine ⟨e, v, ?_, h3, h4⟩
      rw [List.find?_cons, ek, decide_eq_true q]
    · have h' : tabGet tab z = o := by
        rw [← h]
        unfold tabGet
        rw [List.find?_cons, decide_eq_false q]
      have ih := ent_find r h'
      have ef : (e :: l).find? (·.key.isStr z) = l.find? (·.key.isStr z) := by rw [List.find?_cons, ek, decide_eq_false q]
      cases o with
      | some x =>
        obtain ⟨e2, v2, a1, a2, a3⟩ := ih
        exact ⟨e2, v2, ef.trans a1, a2, a3⟩
      | none =>
        refine ⟨ef.trans ih.1, ?_⟩
        rw [List.any_cons, ih.2]
        have : e.refKey = false := by
          unfold DictEntry.refKey
          rw [h1]
        rw [this]
        rfl
end
end RL

set_option Elab.async false
set_option linter.all false
set_option maxRecDepth 100000
set_option maxHeartbeats 4000000
namespace RL
open PySem PySem.Spec PyProof.Rows L2 CwR
open Rep (rep)
/-! ### a written table: in, not in, item, get -/
def KD (K : PySem.W.Frag) (w : World) (p : Addr) : Prop := ∃ es n, KDict K w p es n
def rInKD (K : PySem.W.Frag) (w : World) (neg : Bool) : R2 := fun x y H Q => ∃ p z r, x = .str z ∧ y = .ref p ∧ KD K w p ∧ PySem.W.nsIn K p z = some r ∧ Q (.bl (if neg then !r.isSome else r.isSome)) H
section
variable {X : Cx} {K : PySem.W.Frag} {w : World}
theorem op_inKD (h : X.K = K := by rfl) (hw : X.w = w := by rfl) : OpR X (compareOp .In) (rInKD K w false) := by
  subst h hw
  intro pins s σ H x y v u Q I rx ry ⟨p, z, r, ex, ey, ⟨es, n, D⟩, e, q⟩
  exact op_in_kd D pins s σ H x y v u Q I rx ry ⟨z, r, ex, ey, e, q⟩
theorem op_ninKD (h : X.K = K := by rfl) (hw : X.w = w := by rfl) : OpR X (compareOp .NotIn) (rInKD K w true) := by
  subst h hw
  intro pins s σ H x y v u Q I rx ry ⟨p, z, r, ex, ey, ⟨es, n, D⟩, e, q⟩
  exact op_notIn_kd D pins s σ H x y v u Q I rx ry ⟨z, r, ex, ey, e, q⟩
theorem ix_KD (h : X.K = K := by rfl) (hw : X.w = w := by rfl) : IxR X (rIxD K w) := by subst h hw; exact ix_kdict
/-- get -/
def tKG1 (K : PySem.W.Frag) (w : World) (td ty : TE) : TE := fun σ H Q => td σ H fun x H1 => ∃ a, x = .ref a ∧ KD K w a ∧ ty σ H1 fun y H2 => ∃ z r v, y = .str z ∧ PySem.W.nsIn K a z = some r ∧ (match r with | some u => RelV v u | none => v = .non) ∧ Q v H2
def tKG2 (K : PySem.W.Frag) (w : World) (td ty tx : TE) : TE := fun σ H Q => td σ H fun x H1 => ∃ a, x = .ref a ∧ KD K w a ∧ ty σ H1 fun y H2 => tx σ H2 fun d H3 => ∃ z r v, y = .str z ∧ PySem.W.nsIn K a z = some r ∧ (match r with | some u => RelV v u | none => v = d) ∧ Q v H3
theorem kd_at {pins : List (Addr × Obj)} {σ : L2.St} {H : Hp} {s : Shared} {a : Addr} {es : Array DictEntry} {n : Nat} (I : Inv X pins σ H s) (D : KDict X.K X.w a es n) :
    s.TypeIs (.ref a) "dict" ∧ (∀ b, Value.ref a = .ref b → ∃ ob, s.heap.get? b = some ob ∧ ob.dict = none) :=
  ⟨(PySem.W.mapOf_K (prog := X.prog) (w := X.w) I.kIn D.at_ D.lit).typeIs, fun b q => by cases q; exact ⟨_, I.kIn _ _ D.at_, rfl⟩⟩
theorem pe_kget1 {o e : Expr} {apos cpos : Pos} {td ty : TE} (ho : PE X o td) (he : PE X e ty) (m : M1 X o "get" apos e cpos) (h : X.K = K := by rfl) (hw : X.w = w := by rfl) : PE X (.Call (.Attribute o "get" apos) [e] [] cpos) (tKG1 K w td ty) := by
  subst h hw
  refine ⟨fun pins s σ H Q I h => ?_⟩
  refine wpAny_Call_method m.base m.few m.line PySem.F.plainAttrs_dict PySem.F.slot_dict_get PySem.F.type_dict_get (thn (ho.run pins s σ H _ I h) fun u s1 ⟨x, H1, I1, rx, a, ex, ⟨es, n, D⟩, q1⟩ => ?_)
  subst ex
  obtain rfl : u = Value.ref a := rx
  obtain ⟨t1, t2⟩ := kd_at I1 D
  refine ⟨t1, t2, ?_⟩
  rw [m.trees]
  refine Calls.callWith_builtin rfl (Calls.evalArgs_plain (Calls.spliced_cons (thn (he.run pins s1 σ H1 _ I1 q1) fun iv s2 ⟨y, H2, I2, ry, z, r, v, ey, en, ev, q2⟩ => Calls.spliced_nil ?_)))
  subst ey
  obtain ⟨tk, rfl⟩ := ry
  have hm := PySem.W.mapOf_K (prog := X.prog) (w := X.w) I2.kIn D.at_ D.lit
  refine call_meetsIn PySem.F.slot_dict_get hm.typeIs PySem.F.entry_dict_get (PySem.F.args_dict_get_2 _ _) (meets_dict_get (strKind X.prog X.w) a (PySem.strKind_is X.prog X.w z tk) D.low) ⟨_, hm, ⟨v, H2, I2.tok _, ?_, q2⟩⟩
  rw [PySem.W.find_K D.at_ en]
  cases r with
  | some u => exact ev
  | none => rw [ev]; rfl
theorem pe_kget2 {o e f : Expr} {apos cpos : Pos} {td ty tx : TE} (ho : PE X o td) (he : PE X e ty) (hf : PE X f tx) (m : M2 X o "get" apos e f cpos) (h : X.K = K := by rfl) (hw : X.w = w := by rfl) : PE X (.Call (.Attribute o "get" apos) [e, f] [] cpos) (tKG2 K w td ty tx) := by
  subst h hw
  refine ⟨fun pins s σ H Q I h => ?_⟩
  refine wpAny_Call_method m.base m.few m.line PySem.F.plainAttrs_dict PySem.F.slot_dict_get PySem.F.type_dict_get (thn (ho.run pins s σ H _ I h) fun u s1 ⟨x, H1, I1, rx, a, ex, ⟨es, n, D⟩, q1⟩ => ?_)
  subst ex
  obtain rfl : u = Value.ref a := rx
  obtain ⟨t1, t2⟩ := kd_at I1 D
  refine ⟨t1, t2, ?_⟩
  rw [m.trees]
  refine Calls.callWith_builtin rfl (Calls.evalArgs_plain (Calls.spliced_cons (thn (he.run pins s1 σ H1 _ I1 q1) fun iv s2 ⟨y, H2, I2, ry, q2⟩ =>
    Calls.spliced_cons (thn (hf.run pins s2 σ H2 _ I2 q2) fun fv s3 ⟨d, H3, I3, rd, z, r, v, ey, en, ev, q3⟩ => Calls.spliced_nil ?_))))
  subst ey
  obtain ⟨tk, rfl⟩ := ry
  have hm := PySem.W.mapOf_K (prog := X.prog) (w := X.w) I3.kIn D.at_ D.lit
  refine call_meetsIn PySem.F.slot_dict_get hm.typeIs PySem.F.entry_dict_get (PySem.F.args_dict_get_3 _ _ _) (meets_dict_get_default (strKind X.prog X.w) a (PySem.strKind_is X.prog X.w z tk) D.low fv) ⟨_, hm, ⟨v, H3, I3.tok _, ?_, q3⟩⟩
  rw [PySem.W.find_K D.at_ en]
  cases r with
  | some u => exact ev
  | none => rw [ev]; exact rd
end
section
variable [Tb] {α β : Type} [Rep α] [Rep β] {K : PySem.W.Frag} {w : World} {σ : L2.St} {G H : Hp} {te ta tb tl : TE} {a : Addr} {tab : List (Str × α)} {z : Str}
omit [Tb] in
theorem KDs.kd (h : KDs K w a tab) : KD K w a := by
  obtain ⟨es, n, hl, hp, hs⟩ := h
  exact ⟨es, n, hl, ent_lit hp, hs⟩
omit [Tb] in
theorem KDs.ns (h : KDs K w a tab) (z : Str) : ∃ r, PySem.W.nsIn K a z = some r ∧ r.isSome = (tabGet tab z).isSome ∧ ∀ x, tabGet tab z = some x → ∃ u v, r = some u ∧ RelV v u ∧ ∀ G, rep K x v G := by
  obtain ⟨es, n, hl, hp, hs⟩ := h
  have f := ent_find (z := z) hp (o := tabGet tab z) rfl
  unfold PySem.W.nsIn
  rw [hl]
  cases q : tabGet tab z with
  | some x =>
    rw [q] at f
    obtain ⟨e, v, a1, a2, a3⟩ := f
    refine ⟨some e.val, ?_, rfl, fun y ey => by cases ey; exact ⟨e.val, v, rfl, a2, a3⟩⟩
    show (match es.toList.find? (·.key.isStr z) with | some e => some (some e.val) | none => if es.toList.any (·.refKey) then none else some none) = _
    rw [a1]
  | none =>
    rw [q] at f
    obtain ⟨a1, a2⟩ := f
    refine ⟨none, ?_, rfl, fun y ey => by cases ey⟩
    show (match es.toList.find? (·.key.isStr z) with | some e => some (some e.val) | none => if es.toList.any (·.refKey) then none else some none) = _
    rw [a1, a2]
    rfl
theorem ev_inKD (hk : KDs K w a tab) (ha : EvR K ta σ G z) : EvR K (tOp (rInKD K w false) ta (tC (.ref a))) σ G (tabGet tab z).isSome := fun H e Q q =>
  ha H e _ fun v G1 H1 g1 r1 => by
    obtain ⟨r, e1, e2, _⟩ := hk.ns z
    exact ⟨a, z, r, r1, rfl, hk.kd, e1, by rw [e2]; exact q _ G1 H1 g1 rfl⟩
theorem ev_ninKD (hk : KDs K w a tab) (ha : EvR K ta σ G z) : EvR K (tOp (rInKD K w true) ta (tC (.ref a))) σ G (!(tabGet tab z).isSome) := fun H e Q q =>
  ha H e _ fun v G1 H1 g1 r1 => by
    obtain ⟨r, e1, e2, _⟩ := hk.ns z
    exact ⟨a, z, r, r1, rfl, hk.kd, e1, by rw [e2]; exact q _ G1 H1 g1 rfl⟩
theorem ev_ixKD (hk : KDs K w a tab) (ha : EvR K ta σ G z) {d : α} (h : (tabGet tab z).isSome = true) : EvR K (tOp (rIxD K w) (tC (.ref a)) ta) σ G ((tabGet tab z).getD d) := fun H e Q q =>
  ha H e _ fun v G1 H1 g1 r1 => by
    obtain ⟨x, ex⟩ := Option.isSome_iff_exists.mp h
    obtain ⟨r, e1, e2, e3⟩ := hk.ns z
    obtain ⟨u, v2, er, rv, rp⟩ := e3 x ex
    obtain ⟨es, n, D⟩ := hk.kd
    refine ⟨a, z, v2, rfl, r1, ⟨es, n, u, D.at_, D.lit, by rw [e1, er], rv⟩, q _ G1 H1 g1 ?_⟩
    rw [ex]
    exact rp G1
theorem ev_kget1 (hk : KDs K w a tab) (ha : EvR K ta σ G z) : EvR K (tKG1 K w (tC (.ref a)) ta) σ G (tabGet tab z) := fun H e Q q =>
  ⟨a, rfl, hk.kd, ha H e _ fun v G1 H1 g1 r1 => by
    obtain ⟨r, e1, e2, e3⟩ := hk.ns z
    cases ex : tabGet tab z with
    | some x =>
      obtain ⟨u, v2, er, rv, rp⟩ := e3 x ex
      refine ⟨z, r, v2, r1, e1, by rw [er]; exact rv, q _ G1 H1 g1 ?_⟩
      rw [ex]
      exact rp G1
    | none =>
      have er : r = none := by rw [ex] at e2; exact Option.isSome_eq_false_iff.mp e2 |> fun h => by cases r with | none => rfl | some _ => cases e2
      refine ⟨z, r, .non, r1, e1, by rw [er], q _ G1 H1 g1 ?_⟩
      rw [ex]
      rfl⟩
theorem ev_kget2 (hk : KDs K w a tab) (ha : EvR K ta σ G z) {d : α} (hd : EvR K tb σ G d) : EvR K (tKG2 K w (tC (.ref a)) ta tb) σ G ((tabGet tab z).getD d) := fun H e Q q =>
  ⟨a, rfl, hk.kd, ha H e _ fun v G1 H1 g1 r1 => hd.mono g1.g H1 g1.s _ fun w2 G2 H2 g2 r2 => by
    obtain ⟨r, e1, e2, e3⟩ := hk.ns z
    cases ex : tabGet tab z with
    | some x =>
      obtain ⟨u, v2, er, rv, rp⟩ := e3 x ex
      refine ⟨z, r, v2, r1, e1, by rw [er]; exact rv, q _ G2 H2 (g1.trans g2) ?_⟩
      rw [ex]
      exact rp G2
    | none =>
      have er : r = none := by rw [ex] at e2; cases r with | none => rfl | some _ => cases e2
      refine ⟨z, r, w2, r1, e1, by rw [er], q _ G2 H2 (g1.trans g2) ?_⟩
      rw [ex]
      exact r2⟩
end
end RL

set_option Elab.async false
set_option linter.all false
set_option maxRecDepth 100000
set_option maxHeartbeats 4000000
/-! ### zip of a list and a tuple, at the level of the model -/
namespace RZL
open PySem
section
variable {prog : Program} {w : World} {A : Around} {E : Value → Shared → Prop} {s : Shared} {z TI TO i1 i2 l1 l2 : Addr} {k1 k2 : Nat} {xs ys : Array Value} {x y a b : Value}
/-- what stands of such a zip between two turns -/
structure Zs (h : Heap) (z TI TO i1 i2 l1 l2 : Addr) (k1 k2 : Nat) (a b : Value) : Prop where
  zz : IsZip h z TI TO .none
  ti : IsPair h TI (.ref i1) (.ref i2)
  to : IsPair h TO a b
  h1 : h.IsListIter i1 l1 k1
  h2 : h.IsTupleIter i2 l2 k2
theorem lt_item {Q : Value → Shared → Prop} (D : ZipApart z TI TO i1 i2 l1 l2) (Z : Zs s.heap z TI TO i1 i2 l1 l2 k1 k2 a b) (hl1 : s.heap.IsList l1 xs) (hl2 : s.heap.IsTuple l2 ys) (hx : xs[k1]? = some x) (hy : ys[k2]? = some y)
    (hQ : ∀ h', IsZip h' z TI TO (rawInt s.heap.objs.size) → IsPair h' TO x y → h'.IsListIter i1 l1 (k1 + 1) → h'.IsTupleIter i2 l2 (k2 + 1) → IsPair h' s.heap.objs.size x y → h'.objs.size = s.heap.objs.size + 1 → (∀ c o, c ≠ z → c ≠ TO → c ≠ i1 → c ≠ i2 → s.heap.get? c = some o → h'.get? c = some o) → Q (.ref s.heap.objs.size) { s with heap := h' }) :
    wpAny (model prog w) A (Builtin.«zip.__next__» ⟨[.ref z], []⟩) (fun fin s' => ∃ v, fin = .done (.ret v) ∧ Q v s') E s := by
  obtain ⟨hz, hTI, hTO, h1, h2⟩ := Z
  show wpAny _ _ (field (.ref z) 2 >>= _) _ _ _; refine wpAny_bind (wpAny_field hz rfl (x := .bool false) rfl ?_)
  show wpAny _ _ (field (.ref z) 3 >>= _) _ _ _; refine wpAny_bind (wpAny_field hz rfl (x := .ref TI) rfl ?_); refine wpAny_bind (wpAny_seqItems hTI rfl ?_)
  show wpAny _ _ (Builtin.SmallTypes.ownedTupleIsFree (.ref z) >>= _) _ _ _; refine wpAny_bind ?_; unfold Builtin.SmallTypes.ownedTupleIsFree
  refine wpAny_bind (wpAny_field hz rfl (x := .none) rfl (wpAny_pure ?_)); simp only [if_true]
  refine wpAny_bind (wpAny_rule ?_); refine wpAny_bind (wpAny_field hz rfl (x := .ref TO) rfl ?_)
  refine wpAny_bind (wpAny_setField_rec hz (by simp) fun g₁ hz₁ s₁ => ?_); replace hz₁ : IsZip g₁ z TI TO .ellipsis := hz₁
  refine wpAny_bind ?_; simp only [List.zipIdx_cons, List.zipIdx_nil, List.forIn_cons, List.forIn_nil]
  refine wpAny_bind (wpAny_bind (wpAny_onRaise ?_)); show wpAny _ _ (Builtin.SmallTypes.nextOf (.ref i1) >>= _) _ _ _
  refine wpAny_bind (wpAny_nextOf_list_item (h1.extBut s₁.extBut D.i1z) (hl1.extBut s₁.extBut D.l1z) hx fun g₂ h1₂ s₂ => wpAny_pure ?_)
  have hTO₂ : IsPair g₂ TO a b := s₂.extBut _ _ D.TOi1 (s₁.extBut _ _ D.TOz hTO)
  refine wpAny_bind (wpAny_seqItems hTO₂ rfl ?_); refine wpAny_bind (wpAny_updateSeq_pair hTO₂ fun g₃ hTO₃ s₃ => ?_)
  replace hTO₃ : IsPair g₃ TO x b := hTO₃
  refine wpAny_bind (wpAny_letGo (wpAny_pure ?_)); refine wpAny_bind (wpAny_bind (wpAny_onRaise ?_)); show wpAny _ _ (Builtin.SmallTypes.nextOf (.ref i2) >>= _) _ _ _
  refine wpAny_bind (RZ.nextOf_tuple_item (((h2.extBut s₁.extBut D.i2z).extBut s₂.extBut D.i12.symm).extBut s₃.extBut D.TOi2.symm) (((hl2.extBut s₁.extBut D.l2z).extBut s₂.extBut D.l2i1).extBut s₃.extBut D.l2TO) hy fun g₄ h2₄ s₄ => wpAny_pure ?_)
  have hTO₄ : IsPair g₄ TO x b := s₄.extBut _ _ D.TOi2 hTO₃
  refine wpAny_bind (wpAny_seqItems hTO₄ rfl ?_); refine wpAny_bind (wpAny_updateSeq_pair hTO₄ fun g₅ hTO₅ s₅ => ?_)
  replace hTO₅ : IsPair g₅ TO x y := hTO₅
  refine wpAny_bind (wpAny_letGo (wpAny_pure (wpAny_pure ?_))); refine wpAny_bind (wpAny_seqItems hTO₅ rfl ?_); refine wpAny_bind (wpAny_newTuple ?_)
  have sz : g₅.objs.size = s.heap.objs.size := by rw [s₅.1, s₄.1, s₃.1, s₂.1, s₁.1]
  have zz : IsZip g₅ z TI TO .ellipsis := s₅.extBut _ _ D.TOz.symm (s₄.extBut _ _ D.i2z.symm (s₃.extBut _ _ D.TOz.symm (s₂.extBut _ _ D.i1z.symm hz₁)))
  have kk : ∀ c o, c ≠ z → c ≠ TO → c ≠ i1 → c ≠ i2 → s.heap.get? c = some o → g₅.get? c = some o := fun c o c1 c2 c3 c4 e => s₅.extBut _ _ c2 (s₄.extBut _ _ c4 (s₃.extBut _ _ c2 (s₂.extBut _ _ c3 (s₁.extBut _ _ c1 e))))
  have j1 : g₅.IsListIter i1 l1 (k1 + 1) := ((h1₂.extBut s₃.extBut D.TOi1.symm).extBut s₄.extBut D.i12).extBut s₅.extBut D.TOi1.symm
  have j2 : g₅.IsTupleIter i2 l2 (k2 + 1) := h2₄.extBut s₅.extBut D.TOi2.symm
  have zl : z < g₅.objs.size := Heap.lt_size zz
  show wpAny _ _ (Builtin.SmallTypes.ownedTupleHandOut (.ref z) (.ref g₅.objs.size) >>= _) _ _ _; refine wpAny_bind ?_; unfold Builtin.SmallTypes.ownedTupleHandOut
  have z₆ : IsZip (g₅.push { cls := .type "tuple", data := .seq #[x, y] }) z TI TO .ellipsis := Heap.get?_push_of_some _ zz
  refine wpAny_bind (wpAny_setField_rec z₆ (by simp) fun g₇ z₇ s₇ => ?_); replace z₇ : IsZip g₇ z TI TO (rawInt g₅.objs.size) := z₇
  refine wpAny_setField_rec z₇ (by simp) fun g₈ z₈ s₈ => ?_; replace z₈ : IsZip g₈ z TI TO (rawInt g₅.objs.size) := z₈
  have up : ∀ c o, c ≠ z → g₅.get? c = some o → g₈.get? c = some o := fun c o c1 e => s₈.extBut _ _ c1 (s₇.extBut _ _ c1 (Heap.get?_push_of_some _ e))
  have T₈ : IsPair g₈ g₅.objs.size x y := s₈.extBut _ _ (Nat.ne_of_gt zl) (s₇.extBut _ _ (Nat.ne_of_gt zl) (Heap.get?_push_size _ rfl))
  have n₈ : g₈.objs.size = g₅.objs.size + 1 := by rw [s₈.1, s₇.1, Heap.size_push]
  rw [sz] at z₈ T₈ n₈
  refine wpAny_pure ⟨_, rfl, ?_⟩; show Q (.ref g₅.objs.size) _; rw [sz]
  exact hQ g₈ z₈ (up _ _ D.TOz hTO₅) (j1.at fun o e => up _ o D.i1z e) (j2.at fun o e => up _ o D.i2z e) T₈ n₈ fun c o c1 c2 c3 c4 e => up c o c1 (kk c o c1 c2 c3 c4 e)
theorem lt_end {Q : Fin → Shared → Prop} (hh : A.handled = none) (D : ZipApart z TI TO i1 i2 l1 l2) (Z : Zs s.heap z TI TO i1 i2 l1 l2 k1 k2 a b) (hl1 : s.heap.IsList l1 xs) (hl2 : s.heap.IsTuple l2 ys) (hend : xs[k1]? = none ∨ ys[k2]? = none)
    (hE : ∀ h' e, (∀ c o, c ≠ z → c ≠ TO → c ≠ i1 → c ≠ i2 → s.heap.get? c = some o → h'.get? c = some o) → (∃ o, h'.get? e = some o ∧ o.cls = .type "StopIteration") → E (.ref e) { s with heap := h' }) :
    wpAny (model prog w) A (Builtin.«zip.__next__» ⟨[.ref z], []⟩) Q E s := by
  obtain ⟨hz, hTI, hTO, h1, h2⟩ := Z
  show wpAny _ _ (field (.ref z) 2 >>= _) _ _ _; refine wpAny_bind (wpAny_field hz rfl (x := .bool false) rfl ?_)
  show wpAny _ _ (field (.ref z) 3 >>= _) _ _ _; refine wpAny_bind (wpAny_field hz rfl (x := .ref TI) rfl ?_); refine wpAny_bind (wpAny_seqItems hTI rfl ?_)
  show wpAny _ _ (Builtin.SmallTypes.ownedTupleIsFree (.ref z) >>= _) _ _ _; refine wpAny_bind ?_; unfold Builtin.SmallTypes.ownedTupleIsFree
  refine wpAny_bind (wpAny_field hz rfl (x := .none) rfl (wpAny_pure ?_)); simp only [if_true]
  refine wpAny_bind (wpAny_rule ?_); refine wpAny_bind (wpAny_field hz rfl (x := .ref TO) rfl ?_)
  refine wpAny_bind (wpAny_setField_rec hz (by simp) fun g₁ hz₁ s₁ => ?_); replace hz₁ : IsZip g₁ z TI TO .ellipsis := hz₁
  refine wpAny_bind ?_; simp only [List.zipIdx_cons, List.zipIdx_nil, List.forIn_cons, List.forIn_nil]
  refine wpAny_bind (wpAny_bind (wpAny_onRaise ?_)); show wpAny _ _ (Builtin.SmallTypes.nextOf (.ref i1) >>= _) _ _ _
  cases hx : xs[k1]? with
  | none =>
    refine wpAny_bind (wpAny_nextOf_list_end hh (h1.extBut s₁.extBut D.i1z) (hl1.extBut s₁.extBut D.l1z) hx fun g₂ e s₂ ⟨oe, hoe, hce⟩ => ?_)
    have z₂ : IsZip g₂ z TI TO .ellipsis := s₂ _ _ D.i1z.symm hz₁
    have ez : e ≠ z := fun q => by subst q; rw [z₂] at hoe; cases hoe; simp at hce
    refine wpAny_setField_rec z₂ (by simp) fun g₃ _ s₃ => hE g₃ e (fun c o c1 _ c3 _ q => s₃.extBut _ _ c1 (s₂ _ _ c3 (s₁.extBut _ _ c1 q))) ⟨oe, s₃.extBut _ _ ez hoe, hce⟩
  | some x =>
    have hy : ys[k2]? = none := hend.elim (fun q => by rw [hx] at q; cases q) id
    refine wpAny_bind (wpAny_nextOf_list_item (h1.extBut s₁.extBut D.i1z) (hl1.extBut s₁.extBut D.l1z) hx fun g₂ h1₂ s₂ => wpAny_pure ?_)
    have hTO₂ : IsPair g₂ TO a b := s₂.extBut _ _ D.TOi1 (s₁.extBut _ _ D.TOz hTO)
    refine wpAny_bind (wpAny_seqItems hTO₂ rfl ?_); refine wpAny_bind (wpAny_updateSeq_pair hTO₂ fun g₃ hTO₃ s₃ => ?_); refine wpAny_bind (wpAny_letGo (wpAny_pure ?_))
    refine wpAny_bind (wpAny_bind (wpAny_onRaise ?_)); show wpAny _ _ (Builtin.SmallTypes.nextOf (.ref i2) >>= _) _ _ _
    refine wpAny_bind (RZ.nextOf_tuple_end hh (((h2.extBut s₁.extBut D.i2z).extBut s₂.extBut D.i12.symm).extBut s₃.extBut D.TOi2.symm) (((hl2.extBut s₁.extBut D.l2z).extBut s₂.extBut D.l2i1).extBut s₃.extBut D.l2TO) hy fun g₄ e s₄ ⟨oe, hoe, hce⟩ => ?_)
    have z₄ : IsZip g₄ z TI TO .ellipsis := s₄ _ _ D.i2z.symm (s₃.extBut _ _ D.TOz.symm (s₂.extBut _ _ D.i1z.symm hz₁))
    have ez : e ≠ z := fun q => by subst q; rw [z₄] at hoe; cases hoe; simp at hce
    refine wpAny_setField_rec z₄ (by simp) fun g₅ _ s₅ => hE g₅ e (fun c o c1 c2 c3 c4 q => s₅.extBut _ _ c1 (s₄ _ _ c4 (s₃.extBut _ _ c2 (s₂.extBut _ _ c3 (s₁.extBut _ _ c1 q))))) ⟨oe, s₅.extBut _ _ ez hoe, hce⟩
theorem nx_item {Q : Option Value → Shared → Prop} (D : ZipApart z TI TO i1 i2 l1 l2) (Z : Zs s.heap z TI TO i1 i2 l1 l2 k1 k2 a b) (hl1 : s.heap.IsList l1 xs) (hl2 : s.heap.IsTuple l2 ys) (hx : xs[k1]? = some x) (hy : ys[k2]? = some y)
    (hQ : ∀ h', IsZip h' z TI TO (rawInt s.heap.objs.size) → IsPair h' TO x y → h'.IsListIter i1 l1 (k1 + 1) → h'.IsTupleIter i2 l2 (k2 + 1) → IsPair h' s.heap.objs.size x y → h'.objs.size = s.heap.objs.size + 1 → (∀ c o, c ≠ z → c ≠ TO → c ≠ i1 → c ≠ i2 → s.heap.get? c = some o → h'.get? c = some o) → Q (some (.ref s.heap.objs.size)) { s with heap := h' }) :
    wpAny (model prog w) A (pyNext (.ref z)) Q E s := by
  have hT : s.TypeIs (.ref z) "zip" := ⟨_, Z.zz, rfl⟩
  unfold pyNext; exact wpAny_bind (wpAny_attempt (wpAny_callSpecial?_slot (name := Str.ofString "__next__") hT F.slot_zip_next (wpAny_call_entry F.slot_zip_next hT F.entry_zip_next (lt_item D Z hl1 hl2 hx hy fun h' p1 p2 p3 p4 p5 p6 p7 => wpAny_pure (hQ h' p1 p2 p3 p4 p5 p6 p7)) (F.args_zip_next_1 _))))
theorem nx_end {Q : Option Value → Shared → Prop} (hh : A.handled = none) (D : ZipApart z TI TO i1 i2 l1 l2) (Z : Zs s.heap z TI TO i1 i2 l1 l2 k1 k2 a b) (hl1 : s.heap.IsList l1 xs) (hl2 : s.heap.IsTuple l2 ys) (hend : xs[k1]? = none ∨ ys[k2]? = none)
    (hQ : ∀ h', (∀ c o, c ≠ z → c ≠ TO → c ≠ i1 → c ≠ i2 → s.heap.get? c = some o → h'.get? c = some o) → Q none { s with heap := h' }) : wpAny (model prog w) A (pyNext (.ref z)) Q E s := by
  have hT : s.TypeIs (.ref z) "zip" := ⟨_, Z.zz, rfl⟩
  unfold pyNext; refine wpAny_bind (wpAny_attempt (wpAny_callSpecial?_slot (name := Str.ofString "__next__") hT F.slot_zip_next (wpAny_call_entry F.slot_zip_next hT F.entry_zip_next (lt_end hh D Z hl1 hl2 hend fun h' e hk ⟨o, ho, hc⟩ => ?_) (F.args_zip_next_1 _))))
  exact wpAny_bind (wpAny_isInstance (T := "StopIteration") (b := true) ⟨o, ho, hc⟩ isSubtype_stop (wpAny_pure (hQ _ hk)))
end
abbrev H1 (h : Heap) (l1 : Addr) : Heap := h.push { cls := .type "list_iterator", data := .fields #[.ref l1, .int 0 0] }
abbrev H2 (h : Heap) (l1 l2 : Addr) : Heap := (H1 h l1).push { cls := .type "tuple_iterator", data := .fields #[.ref l2, .int 0 0] }
abbrev H3 (h : Heap) (l1 l2 : Addr) : Heap := (H2 h l1 l2).push { cls := .type "tuple", data := .seq #[.ref h.objs.size, .ref (H1 h l1).objs.size] }
abbrev H4 (h : Heap) (l1 l2 : Addr) : Heap := (H3 h l1 l2).push { cls := .type "tuple", data := .seq #[.none, .none] }
abbrev H5 (h : Heap) (l1 l2 : Addr) : Heap := (H4 h l1 l2).push { cls := .type "zip", data := .fields #[.none, .bool false, .bool false, .ref (H2 h l1 l2).objs.size, .ref (H3 h l1 l2).objs.size] }
theorem new_zip (l1 l2 : Addr) (xs ys : Array Value) :
    Meets (Builtin.«zip.__new__» ⟨[.type "zip", .ref l1, .ref l2], []⟩) (fun _ R s => s.heap.IsList l1 xs ∧ s.heap.IsTuple l2 ys ∧ R (.ok (.ret (.ref (H4 s.heap l1 l2).objs.size))) { s with heap := H5 s.heap l1 l2 }) :=
  .of_wp fun prog w A R s h => by
    obtain ⟨hp, g, d, tk, os⟩ := s
    obtain ⟨hl1, hl2, h⟩ := h
    have hsub := sub_zip
    have e1 : Heap.IsList (Shared.heap ⟨hp, g, d, tk, os⟩) l1 xs := hl1
    have e2 : Heap.IsTuple (Shared.heap ⟨hp.push { cls := .type "list_iterator", data := .fields #[.ref l1, .int 0 0] }, g, d, tk, os⟩) l2 ys := Heap.IsTuple.push hl2 _
    wp_walk using wpAny_pyIter_list e1, wpAny_pyIter_tuple e2
    exact ⟨_, rfl, h⟩
section
variable {prog : Program} {w : World} {A : Around} {E : Value → Shared → Prop} {s : Shared} {l1 l2 : Addr} {xs ys : Array Value}
theorem call_zip {Q : Value → Shared → Prop} (hl1 : s.heap.IsList l1 xs) (hl2 : s.heap.IsTuple l2 ys)
    (h : ∀ h', Zs h' (s.heap.objs.size + 4) (s.heap.objs.size + 2) (s.heap.objs.size + 3) s.heap.objs.size (s.heap.objs.size + 1) l1 l2 0 0 .none .none → (∀ c o, s.heap.get? c = some o → h'.get? c = some o) → Q (.ref (s.heap.objs.size + 4)) { s with heap := h' }) :
    wpAny (model prog w) A (call (.type "zip") [.ref l1, .ref l2]) Q E s := by
  refine callType_new F.called_zip (by decide) (F.typeCall_zip_2 _ _) (F.newCall_zip_2 _ _) (fun obj => F.args_object_init_3 obj _ _) F.entry_zip_new (new_zip l1 l2 xs ys) ⟨hl1, hl2, ?_⟩
  have z1 : (H1 s.heap l1).objs.size = s.heap.objs.size + 1 := Heap.size_push ..
  have z2 : (H2 s.heap l1 l2).objs.size = s.heap.objs.size + 2 := by rw [Heap.size_push, z1]
  have z3 : (H3 s.heap l1 l2).objs.size = s.heap.objs.size + 3 := by rw [Heap.size_push, z2]
  have z4 : (H4 s.heap l1 l2).objs.size = s.heap.objs.size + 4 := by rw [Heap.size_push, z3]
  have g5 : (H5 s.heap l1 l2).get? (H4 s.heap l1 l2).objs.size = some _ := Heap.get?_push_size _ rfl
  have g4 : (H5 s.heap l1 l2).get? (H3 s.heap l1 l2).objs.size = some _ := Heap.get?_push_of_some _ (Heap.get?_push_size _ rfl)
  have g3 : (H5 s.heap l1 l2).get? (H2 s.heap l1 l2).objs.size = some _ := Heap.get?_push_of_some _ (Heap.get?_push_of_some _ (Heap.get?_push_size _ rfl))
  have g2 : (H5 s.heap l1 l2).get? (H1 s.heap l1).objs.size = some _ := Heap.get?_push_of_some _ (Heap.get?_push_of_some _ (Heap.get?_push_of_some _ (Heap.get?_push_size _ rfl)))
  have g1 : (H5 s.heap l1 l2).get? s.heap.objs.size = some _ := Heap.get?_push_of_some _ (Heap.get?_push_of_some _ (Heap.get?_push_of_some _ (Heap.get?_push_of_some _ (Heap.get?_push_size _ rfl))))
  show _ ∧ _
  rw [z2, z3, z4] at g5; rw [z1, z2] at g3; rw [z3] at g4; rw [z1] at g2; rw [z4]
  exact ⟨⟨_, g5, rfl⟩, h _ ⟨g5, g3, g4, ⟨_, g1, rfl, rfl⟩, ⟨_, g2, rfl, rfl⟩⟩ fun c o x => Heap.get?_push_of_some _ (Heap.get?_push_of_some _ (Heap.get?_push_of_some _ (Heap.get?_push_of_some _ (Heap.get?_push_of_some _ x))))⟩
end
open PySem.Spec PyProof.Rows L2
/-- the list at a and the tuple at b as they stand at each turn, the items in new pairs -/
def Itm (K : PySem.W.Frag) (a b : Addr) : It :=
  ⟨fun i H => ∃ (xs ys : List V) (x y : V), SqL K H a xs ∧ SqT K H b ys ∧ xs[i]? = some x ∧ ys[i]? = some y,
    fun i H v H' => ∃ T x y, v = .ref T ∧ H T = none ∧ H' = upd H T (.tup [x, y]) ∧ (∀ xs, SqL K H a xs → xs[i]? = some x) ∧ ∀ ys, SqT K H b ys → ys[i]? = some y,
    fun i H => ∃ xs ys : List V, SqL K H a xs ∧ SqT K H b ys ∧ (xs.length ≤ i ∨ ys.length ≤ i)⟩
def Tn (z TI TO i1 i2 a b : Addr) (i : Nat) (h : Heap) : Prop := ∃ x y, Zs h z TI TO i1 i2 a b i i x y
theorem five {z TI TO i1 i2 c : Addr} (h : c ∈ [z, TI, TO, i1, i2]) : c = z ∨ c = TI ∨ c = TO ∨ c = i1 ∨ c = i2 := by simpa using h
theorem turn {P : Program} {w : World} {K : PySem.W.Frag} {elts : List Expr} {kk : Nat} {tpos : Pos} {a b z TI TO i1 i2 : Addr} (D : ZipApart z TI TO i1 i2 a b) :
    Turn P w K (.Tuple elts kk tpos) (Itm K a b) [z, TI, TO, i1, i2] z (Tn z TI TO i1 i2 a b) where
  mem := .head _
  obj := fun i h st c hc => by
    obtain ⟨x, y, hz, hTI, hTO, ⟨o1, e1, _, d1⟩, ⟨o2, e2, _, d2⟩⟩ := st
    rcases five hc with q | q | q | q | q <;> rw [q]
    · exact ⟨_, hz, fun v q => nomatch q⟩
    · exact ⟨_, hTI, fun v q => nomatch q⟩
    · exact ⟨_, hTO, fun v q => nomatch q⟩
    · exact ⟨o1, e1, fun v q => by rw [d1] at q; cases q⟩
    · exact ⟨o2, e2, fun v q => by rw [d2] at q; cases q⟩
  keep := fun i h h' ⟨x, y, hz, hTI, hTO, h1, h2⟩ k => ⟨x, y, k z (by simp) _ hz, k TI (by simp) _ hTI, k TO (by simp) _ hTO, h1.at fun o q => k i1 (by simp) o q, h2.at fun o q => k i2 (by simp) o q⟩
  item := by
    intro X hP hw hK hc i pins s σ H E I hf st ⟨xs, ys, x, y, hqx, hqy, hx, hy⟩
    subst hP hw hK
    obtain ⟨x0, y0, Z⟩ := st
    obtain ⟨its, rv, p, _⟩ := I.list hqx
    obtain ⟨its2, rv2, p2, _⟩ := I.tuple hqy
    obtain ⟨u, hu, ru⟩ := rv.get hx
    obtain ⟨u2, hu2, ru2⟩ := rv2.get hy
    have zl : z < s.heap.objs.size := Heap.lt_size Z.zz
    refine nx_item D Z p.isList p2 (x := u) (y := u2) (by simpa using hu) (by simpa using hu2) fun h' z' TO' h1' h2' hT hsz hk => ?_
    refine ⟨_, rfl, wpAny_letOwnedTupleGo_zip (s := { s with heap := h' }) z' fun h'' z'' sb => ?_⟩
    have hT2 : h''.get? s.heap.objs.size = some { cls := .type "tuple", data := .seq #[u, u2] } := (sb.2 _ (Nat.ne_of_gt zl)).trans hT
    have new : ObjOk X.prog X.w (upd H s.heap.objs.size (.tup [x, y])) h'' s.heap.objs.size (.tup [x, y]) := ⟨by show 2 ≤ sizeLine; decide, [u, u2], .cons ru (.cons ru2 .nil), ⟨_, hT2, rfl, _, rfl⟩⟩
    have I1 : Inv X pins σ (upd H s.heap.objs.size (.tup [x, y])) { s with heap := h'' } := I.turnedNew (t' := s.toks) (ch := [z, TI, TO, i1, i2]) (fun c o hb q => (sb.2 c (fun r => hb (by simp [r]))).trans (hk c o (fun r => hb (by simp [r])) (fun r => hb (by simp [r])) (fun r => hb (by simp [r])) (fun r => hb (by simp [r])) q)) hf (Nat.le_refl _) new
    refine ⟨.ref s.heap.objs.size, _, I1, rfl, ⟨_, x, y, rfl, I.hok.fresh (Nat.le_refl _), rfl, fun l hl => by rw [I.list_inj hl hqx]; exact hx, fun l hl => by rw [I.tuple_inj hl hqy]; exact hy⟩, ⟨u, u2, z'', (sb.2 _ D.TIz).trans (hk _ _ D.TIz D.TITO D.TIi1 D.TIi2 Z.ti), (sb.2 _ D.TOz).trans TO', h1'.at fun o q => (sb.2 _ D.i1z).trans q, h2'.at fun o q => (sb.2 _ D.i2z).trans q⟩, fun c hcm => ?_⟩
    have hlt : c < s.heap.objs.size := by
      rcases five hcm with q | q | q | q | q <;> rw [q]
      · exact zl
      · exact Heap.lt_size Z.ti
      · exact Heap.lt_size Z.to
      · obtain ⟨_, e1, _⟩ := Z.h1; exact Heap.lt_size e1
      · obtain ⟨_, e1, _⟩ := Z.h2; exact Heap.lt_size e1
    rw [upd_ne (Nat.ne_of_lt hlt)]; exact (hf c hcm).1
  done := by
    intro X hP hw hK hc i pins s σ H E I hf st ⟨xs, ys, hqx, hqy, hend⟩
    subst hP hw hK
    obtain ⟨x0, y0, Z⟩ := st
    obtain ⟨its, rv, p, _⟩ := I.list hqx
    obtain ⟨its2, rv2, p2, _⟩ := I.tuple hqy
    have m1 := rv.length
    have m2 := rv2.length
    exact nx_end (I.ok.hd hc) D Z p.isList p2 (hend.elim (fun q => .inl (by simp; omega)) fun q => .inr (by simp; omega)) fun h' hk => ⟨rfl, I.turnedL (t' := s.toks) (ch := [z, TI, TO, i1, i2]) (fun c o hb q => hk c o (fun r => hb (by simp [r])) (fun r => hb (by simp [r])) (fun r => hb (by simp [r])) (fun r => hb (by simp [r])) q) hf⟩
  self := fun A i s Q E ⟨_, _, Z⟩ h => wpAny_pyIter_zip Z.zz h
def iZipM (K : PySem.W.Frag) (ta : TA) : TI := fun σ H R => ta σ H fun vs H1 => ∃ a b xs ys, vs = [.ref a, .ref b] ∧ SqL K H1 a xs ∧ SqT K H1 b ys ∧ R (Itm K a b) H1
theorem pi_zipM {X : Cx} {K : PySem.W.Frag} {e e2 : Expr} {ta : TA} {p pos tpos : Pos} {elts : List Expr} {kk : Nat} (hg : Gl X "zip") (hm : X.mg "zip" = none) (ha : PA X [e, e2] ta)
    (hs : starEach [e, e2] X.env = (false, eval e X.env) :: starEach [e2] X.env := by rfl) (hpl : (backTo pos (starEach [e2] X.env)).any (·.1) = false := by rfl) (hK : X.K = K := by rfl) :
    PI X (.Tuple elts kk tpos) (.Call (.Name "zip" p) [e, e2] [] pos) (iZipM K ta) := by
  subst hK
  refine ⟨fun pins s σ H R I h => Call_ (ld_blt I hg hm PyProof.Rows.boot_zip (PyProof.Rows.callWith_type1 (thn (ha.run pos pins s σ H _ I h) fun us s1 ⟨vs, H1, I1, r1, a, b, xs, ys, ex, hqx, hqy, q⟩ => ?_) hs hpl))⟩
  subst ex
  cases r1 with
  | cons r rr =>
    cases rr with
    | cons r' rr =>
      cases rr
      cases r
      cases r'
      obtain ⟨its, rv, p1, _⟩ := I1.list hqx
      obtain ⟨its2, rv2, p2, _⟩ := I1.tuple hqy
      obtain ⟨o2, ho2, _⟩ := id p2
      refine call_zip p1.isList (show s1.heap.IsTuple b its2.toArray from p2) fun h' Z hk => wpAny_pyIter_zip Z.zz ?_
      have I2 : Inv X pins σ H1 { s1 with heap := h' } := I1.kept (t' := s1.toks) hk
      refine ⟨s1.heap.objs.size + 4, [s1.heap.objs.size + 4, s1.heap.objs.size + 2, s1.heap.objs.size + 3, s1.heap.objs.size, s1.heap.objs.size + 1], _, _, H1, rfl, I2, turn (PySem.W.ktu_apart s1.heap.objs.size a b p1.lt (Heap.lt_size ho2)), ⟨_, _, Z⟩, fun c hcm => ?_, q⟩
      have hle : s1.heap.objs.size ≤ c := by rcases five hcm with z | z | z | z | z <;> rw [z] <;> first | exact Nat.le_add_right _ _ | exact Nat.le_refl _
      exact I1.fpOk hle (I1.hok.fresh hle)
end RZL

set_option Elab.async false
set_option linter.all false
set_option maxRecDepth 100000
set_option maxHeartbeats 4000000
/-! ### enumerate of a list from a number on -/
namespace REN
open PySem
section
variable {prog : Program} {w : World} {A : Around} {E : Value → Shared → Prop} {s : Shared} {e it l : Addr} {i : Nat} {n : Int} {items : Array Value} {x old : Value}
theorem en_item {Q : Value → Shared → Prop} (he : IsEnum s.heap e it n old) (hit : s.heap.IsListIter it l i) (hl : s.heap.IsList l items) (hx : items[i]? = some x) (hne : e ≠ it)
    (hQ : ∀ h', IsEnumOut h' e it (n + 1) x s.heap.objs.size → h'.IsListIter it l (i + 1) → h'.get? s.heap.objs.size = some { cls := .type "tuple", data := .seq #[.int n s.toks, x] } → h'.objs.size = s.heap.objs.size + 1 → (∀ b o, b ≠ e → b ≠ it → s.heap.get? b = some o → h'.get? b = some o) → Q (.ref s.heap.objs.size) { s with heap := h', toks := s.toks + 1 }) :
    wpAny (model prog w) A (Builtin.«enumerate.__next__» ⟨[.ref e], []⟩) (fun fin s' => ∃ v, fin = .done (.ret v) ∧ Q v s') E s := by
  obtain ⟨hp, g, d, tk, os⟩ := s
  have ni := Ne.symm hne
  show wpAny _ _ (field (.ref e) 2 >>= _) _ _ _; refine wpAny_bind (wpAny_field he rfl (x := .ref it) rfl ?_)
  refine wpAny_bind (wpAny_nextOf_list_item hit hl hx fun g₁ it₁ s₁ => ?_); replace s₁ : Heap.SameBut it hp g₁ := s₁
  have e₁ : IsEnum g₁ e it n old := (s₁.2 e hne).trans he
  show wpAny _ _ (field (.ref e) 3 >>= _) _ _ ⟨g₁, g, d, tk, os⟩; refine wpAny_bind (wpAny_field e₁ rfl (x := rawInt n) rfl ?_)
  show wpAny _ _ (field (.ref e) 4 >>= _) _ _ ⟨g₁, g, d, tk, os⟩; refine wpAny_bind (wpAny_field e₁ rfl (x := .none) rfl ?_)
  show wpAny _ _ (mkInt n >>= _) _ _ ⟨g₁, g, d, tk, os⟩; refine wpAny_bind (wpAny_mkInt ?_)
  show wpAny _ _ (setField (.ref e) 3 (rawInt (n + 1)) >>= _) _ _ ⟨g₁, g, d, tk + 1, os⟩
  refine wpAny_bind (wpAny_setField_rec e₁ (by simp) fun g₂ e₂ s₂ => ?_); replace s₂ : Heap.SameBut e g₁ g₂ := s₂; replace e₂ : IsEnum g₂ e it (n + 1) old := e₂
  show wpAny _ _ (setField (.ref e) 4 .none >>= _) _ _ ⟨g₂, g, d, tk + 1, os⟩
  refine wpAny_bind (wpAny_setField_rec e₂ (by simp) fun g₃ e₃ s₃ => ?_); replace s₃ : Heap.SameBut e g₂ g₃ := s₃; replace e₃ : IsEnum g₃ e it (n + 1) old := e₃
  show wpAny _ _ (newTuple [.int n tk, x] >>= _) _ _ ⟨g₃, g, d, tk + 1, os⟩; refine wpAny_bind (wpAny_newTuple ?_)
  have e₄ : IsEnum (g₃.push { cls := .type "tuple", data := .seq #[.int n tk, x] }) e it (n + 1) old := Heap.get?_push_of_some _ e₃
  generalize q₄ : g₃.push { cls := .type "tuple", data := .seq #[.int n tk, x] } = g₄ at e₄
  have sz : g₃.objs.size = hp.objs.size := by rw [s₃.1, s₂.1, s₁.1]
  have el : e < hp.objs.size := Heap.lt_size he
  have t₄ : g₄.get? hp.objs.size = some { cls := .type "tuple", data := .seq #[.int n tk, x] } := by rw [← q₄, ← sz]; exact Heap.get?_push_size _ rfl
  have z₄ : g₄.objs.size = hp.objs.size + 1 := by rw [← q₄, Heap.size_push, sz]
  have k₄ : ∀ b o, b ≠ e → b ≠ it → hp.get? b = some o → g₄.get? b = some o := fun b o be bi hb => by rw [← q₄]; exact Heap.get?_push_of_some _ (s₃.extBut b o be (s₂.extBut b o be (s₁.extBut b o bi hb)))
  have j₄ : g₄.IsListIter it l (i + 1) := by rw [← q₄]; obtain ⟨o, ho, r⟩ := (it₁.extBut s₂.extBut ni).extBut s₃.extBut ni; exact ⟨o, Heap.get?_push_of_some _ ho, r⟩
  show wpAny _ _ (Builtin.SmallTypes.ownedTupleIsFree (.ref e) >>= _) _ _ ⟨g₄, g, d, tk + 1, os⟩
  rw [sz]
  clear q₄ e₃ s₃ e₂ s₂ e₁ s₁ it₁ sz g₃ g₂ g₁
  refine wpAny_bind ?_; unfold Builtin.SmallTypes.ownedTupleIsFree
  refine wpAny_bind (wpAny_field e₄ rfl (x := .none) rfl (wpAny_pure ?_)); simp only [if_true]
  refine wpAny_bind (wpAny_rule ?_); refine wpAny_bind (wpAny_field e₄ rfl (x := old) rfl ?_)
  refine wpAny_bind (wpAny_setField_rec e₄ (by simp) fun g₅ e₅ s₅ => ?_); replace s₅ : Heap.SameBut e g₄ g₅ := s₅; replace e₅ : IsEnum g₅ e it (n + 1) x := e₅
  show wpAny _ _ (Builtin.SmallTypes.ownedTupleHandOut (.ref e) (.ref hp.objs.size) >>= _) _ _ ⟨g₅, g, d, tk + 1, os⟩
  refine wpAny_bind ?_; unfold Builtin.SmallTypes.ownedTupleHandOut
  refine wpAny_bind (wpAny_setField_rec e₅ (by simp) fun g₆ e₆ s₆ => ?_); replace s₆ : Heap.SameBut e g₅ g₆ := s₆; replace e₆ : IsEnumOut g₆ e it (n + 1) x hp.objs.size := e₆
  refine wpAny_setField_rec e₆ (by simp) fun g₇ e₇ s₇ => ?_; replace s₇ : Heap.SameBut e g₆ g₇ := s₇; replace e₇ : IsEnumOut g₇ e it (n + 1) x hp.objs.size := e₇
  have nl := Nat.ne_of_gt el
  exact wpAny_bind (wpAny_letGo (wpAny_pure ⟨_, rfl, hQ g₇ e₇ (((j₄.extBut s₅.extBut ni).extBut s₆.extBut ni).extBut s₇.extBut ni) (s₇.extBut _ _ nl (s₆.extBut _ _ nl (s₅.extBut _ _ nl t₄))) (by rw [s₇.1, s₆.1, s₅.1, z₄]) fun b o be bi hb => s₇.extBut b o be (s₆.extBut b o be (s₅.extBut b o be (k₄ b o be bi hb)))⟩))
theorem en_next {Q : Option Value → Shared → Prop} (he : IsEnum s.heap e it n old) (hit : s.heap.IsListIter it l i) (hl : s.heap.IsList l items) (hx : items[i]? = some x) (hne : e ≠ it)
    (hQ : ∀ h', IsEnumOut h' e it (n + 1) x s.heap.objs.size → h'.IsListIter it l (i + 1) → h'.get? s.heap.objs.size = some { cls := .type "tuple", data := .seq #[.int n s.toks, x] } → h'.objs.size = s.heap.objs.size + 1 → (∀ b o, b ≠ e → b ≠ it → s.heap.get? b = some o → h'.get? b = some o) → Q (some (.ref s.heap.objs.size)) { s with heap := h', toks := s.toks + 1 }) :
    wpAny (model prog w) A (pyNext (.ref e)) Q E s := by
  have hT : s.TypeIs (.ref e) "enumerate" := ⟨_, he, rfl⟩
  unfold pyNext; exact wpAny_bind (wpAny_attempt (wpAny_callSpecial?_slot (name := Str.ofString "__next__") hT F.slot_enumerate_next (wpAny_call_entry F.slot_enumerate_next hT F.entry_enumerate_next (en_item he hit hl hx hne fun h' a b c d k => wpAny_pure (hQ h' a b c d k)) (F.args_enumerate_next_1 _))))
theorem en_end {Q : Option Value → Shared → Prop} (hh : A.handled = none) (he : IsEnum s.heap e it n old) (hit : s.heap.IsListIter it l i) (hl : s.heap.IsList l items) (hx : items[i]? = none)
    (hQ : ∀ h', Heap.ExtBut it s.heap h' → Q none { s with heap := h' }) : wpAny (model prog w) A (pyNext (.ref e)) Q E s := by
  have hT : s.TypeIs (.ref e) "enumerate" := ⟨_, he, rfl⟩
  unfold pyNext; refine wpAny_bind (wpAny_attempt (wpAny_callSpecial?_slot (name := Str.ofString "__next__") hT F.slot_enumerate_next (wpAny_call_entry F.slot_enumerate_next hT F.entry_enumerate_next ?_ (F.args_enumerate_next_1 _))))
  show wpAny _ _ (field (.ref e) 2 >>= _) _ _ _; refine wpAny_bind (wpAny_field he rfl (x := .ref it) rfl ?_)
  refine wpAny_bind (wpAny_nextOf_list_end hh hit hl hx fun h' x he' ⟨o, ho, hc⟩ => ?_)
  exact wpAny_bind (wpAny_isInstance (T := "StopIteration") (b := true) ⟨o, ho, hc⟩ isSubtype_stop (wpAny_pure (hQ _ he')))
end
theorem ty2 (a b : Value) : checkTypeCall "enumerate" ⟨[a, b], []⟩ = pure () := by kernel_rfl
theorem nw2 (a b : Value) : checkBuiltinCall "enumerate.__new__" ⟨[.type "enumerate", a, b], []⟩ = pure () := by kernel_rfl
abbrev J1 (h : Heap) (l : Addr) : Heap := h.push { cls := .type "list_iterator", data := .fields #[.ref l, .int 0 0] }
abbrev J2 (h : Heap) (l : Addr) (n : Int) : Heap := (J1 h l).push { cls := .type "enumerate", data := .fields #[.none, .bool false, .ref h.objs.size, rawInt n, .none, .none] }
theorem new_enum (l : Addr) (items : Array Value) (m : Nat) (dct : Option Addr) (sl : Array (Option Value)) (t : Tok) :
    Meets (Builtin.«enumerate.__new__» ⟨[.type "enumerate", .ref l, .int 1 t], []⟩) (fun _ R s => s.heap.get? l = some { cls := .type "list", dict := dct, data := .seq items m, slots := sl } ∧ R (.ok (.ret (.ref (J1 s.heap l).objs.size))) { s with heap := J2 s.heap l 1 }) :=
  .of_wp fun prog w A R s h => by
    obtain ⟨hp, g, d, tk, os⟩ := s
    obtain ⟨hl, h⟩ := h
    have hsub := sub_enumerate
    have hL : Heap.IsList (Shared.heap ⟨hp, g, d, tk, os⟩) l items := ⟨_, hl, rfl, m, rfl⟩
    wp_walk using wpAny_loadPart' hl
    refine wpAny_stack_any fun st => wpAny_pure ?_
    split
    · rename_i c _ _ _ _ _
      cases (c == Value.type "enumerate") <;> (wp_walk using wpAny_loadPart' hl, wpAny_pyIter_list hL; exact ⟨_, rfl, h⟩)
    · wp_walk using wpAny_loadPart' hl, wpAny_pyIter_list hL; exact ⟨_, rfl, h⟩
section
variable {prog : Program} {w : World} {A : Around} {E : Value → Shared → Prop} {s : Shared} {l : Addr} {items : Array Value}
theorem call_enum {t : Tok} {Q : Value → Shared → Prop} (hL : s.heap.IsList l items)
    (h : ∀ h', IsEnum h' (s.heap.objs.size + 1) s.heap.objs.size 1 .none → h'.IsListIter s.heap.objs.size l 0 → (∀ b o, s.heap.get? b = some o → h'.get? b = some o) → Q (.ref (s.heap.objs.size + 1)) { s with heap := h' }) :
    wpAny (model prog w) A (call (.type "enumerate") [.ref l, .int 1 t]) Q E s := by
  obtain ⟨⟨c, dct, dt, sl⟩, hl, hc, m, hd⟩ := hL
  obtain rfl : c = .type "list" := hc
  obtain rfl : dt = .seq items m := hd
  refine callType_new F.called_enumerate (by decide) (ty2 _ _) (nw2 _ _) (fun obj => F.args_object_init_3 obj _ _) F.entry_enumerate_new (new_enum l items m dct sl t) ⟨hl, ?_⟩
  have hz : (J1 s.heap l).objs.size = s.heap.objs.size + 1 := Heap.size_push ..
  have g2 : (J2 s.heap l 1).get? (J1 s.heap l).objs.size = some _ := Heap.get?_push_size _ rfl
  have g1 : (J2 s.heap l 1).get? s.heap.objs.size = some _ := Heap.get?_push_of_some _ (Heap.get?_push_size _ rfl)
  show _ ∧ _
  rw [hz] at g2
  rw [hz]
  exact ⟨⟨_, g2, rfl⟩, h _ g2 ⟨_, g1, rfl, rfl⟩ fun b o q => Heap.get?_push_of_some _ (Heap.get?_push_of_some _ q)⟩
end
open PySem.Spec PyProof.Rows L2
/-- the list at a as it stands at each turn, each item in a new pair with its number, from 1 on -/
def It1 (K : PySem.W.Frag) (a : Addr) : It :=
  ⟨fun i H => ∃ (xs : List V) (x : V), SqL K H a xs ∧ xs[i]? = some x,
    fun i H v H' => ∃ T x, v = .ref T ∧ H T = none ∧ H' = upd H T (.tup [.int ((i : Int) + 1), x]) ∧ ∀ xs, SqL K H a xs → xs[i]? = some x,
    fun i H => ∃ xs : List V, SqL K H a xs ∧ xs.length ≤ i⟩
def Te (e it a : Addr) (i : Nat) (h : Heap) : Prop := ∃ old, IsEnum h e it ((i : Int) + 1) old ∧ h.IsListIter it a i ∧ e ≠ it
theorem two {e it c : Addr} (h : c ∈ [e, it]) : c = e ∨ c = it := by simpa using h
theorem turn {P : Program} {w : World} {K : PySem.W.Frag} {elts : List Expr} {kk : Nat} {tpos : Pos} (a e it : Addr) : Turn P w K (.Tuple elts kk tpos) (It1 K a) [e, it] e (Te e it a) where
  mem := .head _
  obj := fun i h ⟨old, he, ⟨o, ho, hc, hd⟩, _⟩ b hb => by
    rcases two hb with z | z <;> rw [z]
    · exact ⟨_, he, fun v q => nomatch q⟩
    · exact ⟨o, ho, fun v q => by rw [hd] at q; cases q⟩
  keep := fun i h h' ⟨old, he, hi, hne⟩ k => ⟨old, k e (by simp) _ he, hi.at fun o q => k it (by simp) o q, hne⟩
  item := by
    intro X hP hw hK hc i pins s σ H E I hf ⟨old, he, hit, hne⟩ ⟨xs, x, hq, hx⟩
    subst hP hw hK
    obtain ⟨its, rv, p, hz⟩ := I.list hq
    obtain ⟨u, hu, ru⟩ := rv.get hx
    have el : e < s.heap.objs.size := Heap.lt_size he
    have il : it < s.heap.objs.size := by obtain ⟨_, q, _⟩ := hit; exact Heap.lt_size q
    refine en_next he hit p.isList (x := u) (by simpa using hu) hne fun h' ho hit' hT hsz hk => ⟨_, rfl, wpAny_letOwnedTupleGo_enum (s := { s with heap := h', toks := s.toks + 1 }) ho fun h'' he' sb => ?_⟩
    have hT2 : h''.get? s.heap.objs.size = some { cls := .type "tuple", data := .seq #[.int ((i : Int) + 1) s.toks, u] } := (sb.2 _ (Nat.ne_of_gt el)).trans hT
    have new : ObjOk X.prog X.w (upd H s.heap.objs.size (.tup [.int ((i : Int) + 1), x])) h'' s.heap.objs.size (.tup [.int ((i : Int) + 1), x]) := ⟨by show 2 ≤ sizeLine; decide, [.int ((i : Int) + 1) s.toks, u], .cons ⟨_, rfl⟩ (.cons ru .nil), ⟨_, hT2, rfl, _, rfl⟩⟩
    have I1 : Inv X pins σ (upd H s.heap.objs.size (.tup [.int ((i : Int) + 1), x])) { s with heap := h'', toks := s.toks + 1 } := I.turnedNew (ch := [e, it]) (fun b ob hb q => (sb.2 b (fun z => hb (by simp [z]))).trans (hk b ob (fun z => hb (by simp [z])) (fun z => hb (by simp [z])) q)) hf (Nat.le_refl _) new
    refine ⟨.ref s.heap.objs.size, _, I1, rfl, ⟨_, x, rfl, I.hok.fresh (Nat.le_refl _), rfl, fun ys hy => by rw [I.list_inj hy hq]; exact hx⟩, ⟨u, ?_, hit'.at fun o q => (sb.2 it (Ne.symm hne)).trans q, hne⟩, fun b hb => ?_⟩
    · rw [show ((i + 1 : Nat) : Int) + 1 = (i : Int) + 1 + 1 by omega]; exact he'
    · have hb' : b < s.heap.objs.size := by rcases two hb with z | z <;> rw [z] <;> first | exact el | exact il
      rw [upd_ne (Nat.ne_of_lt hb')]; exact (hf b hb).1
  done := by
    intro X hP hw hK hc i pins s σ H E I hf ⟨old, he, hit, hne⟩ ⟨xs, hq, hx⟩
    subst hP hw hK
    obtain ⟨its, rv, p, hz⟩ := I.list hq
    obtain ⟨f0, f1, f2, f3, f4, f5⟩ := hf it (by simp)
    have hl := rv.length
    exact en_end (I.ok.hd hc) he hit p.isList (by simp; omega) fun h' eb => ⟨rfl, I.turned (t' := s.toks) (fun b o hb q => eb b o hb q) f0 f1 f3 f4 f5⟩
  self := fun A i s Q E ⟨_, he, _⟩ h => wpAny_pyIter_enum he h
def iEnum1 (K : PySem.W.Frag) (ta : TA) : TI := fun σ H R => ta σ H fun vs H1 => ∃ a xs, vs = [.ref a, .int 1] ∧ SqL K H1 a xs ∧ R (It1 K a) H1
theorem pi_enum1 {X : Cx} {K : PySem.W.Frag} {e e2 : Expr} {ta : TA} {p pos tpos : Pos} {elts : List Expr} {kk : Nat} (hg : Gl X "enumerate") (hm : X.mg "enumerate" = none) (ha : PA X [e, e2] ta)
    (hs : starEach [e, e2] X.env = (false, eval e X.env) :: starEach [e2] X.env := by rfl) (hpl : (backTo pos (starEach [e2] X.env)).any (·.1) = false := by rfl) (hK : X.K = K := by rfl) :
    PI X (.Tuple elts kk tpos) (.Call (.Name "enumerate" p) [e, e2] [] pos) (iEnum1 K ta) := by
  subst hK
  refine ⟨fun pins s σ H R I h => Call_ (ld_blt I hg hm boot_enumerate (PyProof.Rows.callWith_type1 (thn (ha.run pos pins s σ H _ I h) fun us s1 ⟨vs, H1, I1, r1, a, xs, ex, hq, q⟩ => ?_) hs hpl))⟩
  subst ex
  cases r1 with
  | cons r rr =>
    cases rr with
    | cons r' rr =>
      cases rr
      cases r
      obtain ⟨t, rfl⟩ := r'
      obtain ⟨its, rv, p', hz⟩ := I1.list hq
      refine call_enum p'.isList fun h' he hit hk => wpAny_pyIter_enum he ?_
      have I2 : Inv X pins σ H1 { s1 with heap := h' } := I1.kept (t' := s1.toks) hk
      refine ⟨s1.heap.objs.size + 1, [s1.heap.objs.size + 1, s1.heap.objs.size], _, _, H1, rfl, I2, turn a (s1.heap.objs.size + 1) s1.heap.objs.size, ⟨.none, he, hit, Nat.succ_ne_self _⟩, fun b hb => ?_, q⟩
      have hle : s1.heap.objs.size ≤ b := by rcases two hb with z | z <;> rw [z] <;> first | exact Nat.le_succ _ | exact Nat.le_refl _
      exact I1.fpOk hle (I1.hok.fresh hle)
end REN

set_option Elab.async false
set_option linter.all false
set_option maxRecDepth 100000
set_option maxHeartbeats 4000000
namespace RL
open PySem PySem.Spec PyProof.Rows L2 CwR
open Rep (rep)
/-! ### walks over zip and enumerate -/
section
variable {K : PySem.W.Frag} {a b : Addr} {xs ys : List V}
theorem walk_zipT {n : Nat} (hn : n = min xs.length ys.length) : Walk (RZ.ItzT K a b) n (fun H => SqT K H a xs ∧ SqT K H b ys) (YPair (fun i => xs[i]?) (fun i => ys[i]?)) := by
  subst hn
  refine ⟨fun i _ hi q => ⟨xs, ys, xs[i]'(by omega), ys[i]'(by omega), q.1, q.2, by rw [List.getElem?_eq_getElem], by rw [List.getElem?_eq_getElem]⟩, fun _ q => ⟨xs, ys, q.1, q.2, by omega⟩, fun i H v H' _ q ⟨T, x, z, h1, h2, h3, h4, h5⟩ => ⟨T, x, z, h1, h2, h3, h4 xs q.1, h5 ys q.2⟩⟩
theorem walk_zipM {n : Nat} (hn : n = min xs.length ys.length) : Walk (RZL.Itm K a b) n (fun H => SqL K H a xs ∧ SqT K H b ys) (YPair (fun i => xs[i]?) (fun i => ys[i]?)) := by
  subst hn
  refine ⟨fun i _ hi q => ⟨xs, ys, xs[i]'(by omega), ys[i]'(by omega), q.1, q.2, by rw [List.getElem?_eq_getElem], by rw [List.getElem?_eq_getElem]⟩, fun _ q => ⟨xs, ys, q.1, q.2, by omega⟩, fun i H v H' _ q ⟨T, x, z, h1, h2, h3, h4, h5⟩ => ⟨T, x, z, h1, h2, h3, h4 xs q.1, h5 ys q.2⟩⟩
theorem walk_en1 : Walk (REN.It1 K a) xs.length (fun H => SqL K H a xs) (YPair (fun i => some (.int ((i : Int) + 1))) (fun i => xs[i]?)) :=
  ⟨fun i _ hi q => ⟨xs, xs[i], q, by rw [List.getElem?_eq_getElem hi]⟩, fun _ q => ⟨xs, q, Nat.le_refl _⟩, fun i H v H' _ q ⟨T, x, h1, h2, h3, h4⟩ => ⟨T, _, x, h1, h2, h3, rfl, h4 xs q⟩⟩
end
def numb {α : Type} : Int → List α → List (Int × α)
  | _, [] => []
  | n, x :: l => (n, x) :: numb (n + 1) l
theorem numb_len {α : Type} : ∀ (n : Int) (l : List α), (numb n l).length = l.length
  | _, [] => rfl
  | n, x :: l => congrArg (· + 1) (numb_len (n + 1) l)
theorem numb_get {α : Type} : ∀ (n : Int) (l : List α) (i : Nat) {x : α}, l[i]? = some x → (numb n l)[i]? = some (n + (i : Int), x)
  | _, [], i, _, h => by simp at h
  | n, y :: l, 0, x, h => by
    have e : y = x := by simpa using h
    subst e
    show some (n, y) = _
    rw [show n + ((0 : Nat) : Int) = n by omega]
  | n, y :: l, i + 1, x, h => by
    have h' : l[i]? = some x := by simpa using h
    have := numb_get (n + 1) l i h'
    show (numb (n + 1) l)[i]? = _
    rw [this, show n + 1 + (i : Int) = n + ((i + 1 : Nat) : Int) by omega]
section
variable [Tb] {α β γ : Type} [Rep α] [Rep β] [Rep γ] {K : PySem.W.Frag} {σ : L2.St} {G H : Hp} {te tl tm ta : TE} {tt : TT} {t u tb tz : TS} {D : Ends} {vs : List Nat}
theorem lc_turn2 {G1 H1 H' G' : Hp} {Dl : Addr} {zs : List V} {ys : List γ} {σ2 : L2.St} {b : Bool} {y : γ} (h : H1 Dl = none) (g : Grow G1 H1 G' H') (n : G' Dl = none) (e : H' Dl = some (.lst zs)) (r : Reps K ys zs G') (hl : ys.length < sizeLine) (ht : EvB tt σ2 G' b) (he : b = true → EvR K te σ2 G' y) {N : Hp → Prop}
    (hN : ∀ H2, Lc K G1 H1 Dl (cond b (ys ++ [y]) ys) H2 → N H2) :
    tt σ2 H' fun b H3 => if b = true then te σ2 H3 fun y H4 => ∃ acc, H4 Dl = some (.lst acc) ∧ acc.length < sizeLine ∧ N (upd H4 Dl (.lst (acc ++ [y]))) else N H3 := by
  refine ht H' g.s _ fun G3 H3 g3 => ?_
  have g13 := g.trans g3
  have n3 : G3 Dl = none := g3.f _ _ e n
  cases b with
  | true =>
    refine iteT ((he rfl).mono g3.g H3 g13.s _ fun v G4 H4 g4 r4 => ?_)
    have e4 := g4.h.l (g3.h.l e)
    have n4 : G4 Dl = none := g4.f _ _ (g3.h.l e) n3
    exact ⟨zs, e4, by rw [← paired_len r]; exact hl, hN _ ⟨G4, zs ++ [v], (g13.trans g4).mut h n4 (lst_no e4), n4, upd_same, paired_append (r.up (g3.g.trans g4.g)) (.cons r4 .nil)⟩⟩
  | false => exact iteF (hN _ ⟨G3, zs, g13, n3, g3.h.l e, r.up g3.g⟩)
omit [Tb] in
theorem zip_get {l : List α} {m : List β} {xs ys : List V} {G1 : Hp} {i : Nat} {x y : V} (rl : Reps K l xs G1) (rm : Reps K m ys G1) (hx : xs[i]? = some x) (hy : ys[i]? = some y) : ∃ p : α × β, (List.zip l m)[i]? = some p ∧ rep K p.1 x G1 ∧ rep K p.2 y G1 := by
  obtain ⟨p, hp, rp⟩ := paired_get rl hx
  obtain ⟨q, hq, rq⟩ := paired_get rm hy
  exact ⟨(p, q), by rw [List.getElem?_zip_eq_some]; exact ⟨hp, hq⟩, rp, rq⟩
theorem zip_turn {ps : List (α × β)} {g : TG} (f : α × β → Bool) (h : α × β → γ) (hz : ps.length < sizeLine)
    (ht : ∀ p v G' H', Same G G' → Sub G' H' → p ∈ ps → rep K p v G' → ∀ (P : L2.St → Hp → Prop), (∀ σ2, wipe σ2 vs = wipe σ vs → EvB tt σ2 G' (f p) → (f p = true → EvR K te σ2 G' (h p)) → P σ2 H') → g v (wipe σ vs) H' P)
    {G1 H1 H' : Hp} {Dl T : Addr} {i : Nat} {p : α × β} {x y : V} (gg : Same G G1) (hD : H1 Dl = none) (pv : Lc K G1 H1 Dl (((ps.take i).filter f).map h) H') (hp : ps[i]? = some p) (hT : H' T = none) (rx : rep K p.1 x G1) (ry : rep K p.2 y G1) :
    g (.ref T) (wipe σ vs) (upd H' T (.tup [x, y])) fun σ2 H2 => wipe σ2 vs = wipe σ vs ∧ tt σ2 H2 fun b H3 =>
      if b = true then te σ2 H3 fun y H4 => ∃ acc, H4 Dl = some (.lst acc) ∧ acc.length < sizeLine ∧ Lc K G1 H1 Dl (((ps.take (i + 1)).filter f).map h) (upd H4 Dl (.lst (acc ++ [y]))) else Lc K G1 H1 Dl (((ps.take (i + 1)).filter f).map h) H3 := by
  obtain ⟨G', zs, g', n', e', r'⟩ := pv
  have gn := g'.trans (Grow.new g'.s hT (o := .tup [x, y]))
  have hG : G' T = none := g'.s.free hT
  have nt : T ≠ Dl := fun q => by rw [q, e'] at hT; cases hT
  have sm := g'.g.trans (same_upd hG (o := .tup [x, y]))
  refine ht p (.ref T) _ _ (gg.trans sm) gn.s (List.mem_of_getElem? hp) ⟨T, x, y, rfl, SqT.of upd_same, up sm rx, up sm ry⟩ _ fun σ2 hw hb he => ⟨hw, ?_⟩
  refine lc_turn2 hD gn (by rw [upd_ne nt.symm]; exact n') (by rw [upd_ne nt.symm]; exact e') (r'.up (same_upd hG)) ?_ hb he fun H2 p2 => ?_
  · rw [List.length_map]
    exact Nat.lt_of_le_of_lt (Nat.le_trans (List.length_filter_le _ _) (by rw [List.length_take]; exact Nat.min_le_right _ _)) hz
  · rw [take_snoc hp, filt_snoc]
    exact p2
theorem ev_lcZ {l : Tpl α} {m : Tpl β} {g : TG} (f : α × β → Bool) (h : α × β → γ) (hl : EvR K tl σ G l) (hm : EvR K tm σ G m) (hz : (List.zip l.l m.l).length < sizeLine)
    (ht : ∀ p v G' H', Same G G' → Sub G' H' → p ∈ List.zip l.l m.l → rep K p v G' → ∀ (P : L2.St → Hp → Prop), (∀ σ2, wipe σ2 vs = wipe σ vs → EvB tt σ2 G' (f p) → (f p = true → EvR K te σ2 G' (h p)) → P σ2 H') → g v (wipe σ vs) H' P) :
    EvR K (tLc (RZ.iZipA K (tCons tl (tCons tm tNil))) g tt te vs) σ G (((List.zip l.l m.l).filter f).map h) := fun H e Q q =>
  hl H e _ fun v G1 H1 g1 r1 => hm.mono g1.g H1 g1.s _ fun w G2 H2 g2 r2 => by
    obtain ⟨a, xs, ev, hA, rl⟩ := up g2.g r1
    obtain ⟨b, ys, ew, hB, rm⟩ := r2
    refine ⟨a, b, xs, ys, by rw [ev, ew], .inr ⟨sqT_mono g2.s.get hA, sqT_mono g2.s.get hB, fun Dl hD => ?_⟩⟩
    have hn : min xs.length ys.length = (List.zip l.l m.l).length := by rw [List.length_zip, paired_len rl, paired_len rm]
    refine lc_it (walk_zipT (K := K) (a := a) (b := b) (xs := xs) (ys := ys) rfl) (fun i H' => Lc K G2 H2 Dl ((((List.zip l.l m.l).take i).filter f).map h) H') (lc_start g2.s hD) (fun i H' _ ⟨G', zs, g, _, _, _⟩ => ⟨sqT_mono (un g.g g.s).get hA, sqT_mono (un g.g g.s).get hB⟩) (fun i v H' H'' _ p ⟨T, x, y, ev2, hT, eH, hx, hy⟩ => ?_) fun H' p => ?_
    · subst ev2 eH
      obtain ⟨pr, hp, rx, ry⟩ := zip_get rl rm hx hy
      exact zip_turn f h hz ht (g1.g.trans g2.g) hD p hp hT rx ry
    · obtain ⟨G', g', r'⟩ := lc_end hD p
      refine q _ G' H' ((g1.trans g2).trans g') ?_
      rw [hn, List.take_length] at r'
      exact r'
theorem ev_lcM {l : List α} {m : Tpl β} {g : TG} (f : α × β → Bool) (h : α × β → γ) (hl : EvR K tl σ G l) (hm : EvR K tm σ G m) (hz : (List.zip l m.l).length < sizeLine)
    (ht : ∀ p v G' H', Same G G' → Sub G' H' → p ∈ List.zip l m.l → rep K p v G' → ∀ (P : L2.St → Hp → Prop), (∀ σ2, wipe σ2 vs = wipe σ vs → EvB tt σ2 G' (f p) → (f p = true → EvR K te σ2 G' (h p)) → P σ2 H') → g v (wipe σ vs) H' P) :
    EvR K (tLc (RZL.iZipM K (tCons tl (tCons tm tNil))) g tt te vs) σ G (((List.zip l m.l).filter f).map h) := fun H e Q q =>
  hl H e _ fun v G1 H1 g1 r1 => hm.mono g1.g H1 g1.s _ fun w G2 H2 g2 r2 => by
    obtain ⟨a, xs, ev, hA, rl⟩ := up g2.g r1
    obtain ⟨b, ys, ew, hB, rm⟩ := r2
    refine ⟨a, b, xs, ys, by rw [ev, ew], SqL.of (g2.s _ _ hA), sqT_mono g2.s.get hB, fun Dl hD => ?_⟩
    have hn : min xs.length ys.length = (List.zip l m.l).length := by rw [List.length_zip, paired_len rl, paired_len rm]
    refine lc_it (walk_zipM (K := K) (a := a) (b := b) (xs := xs) (ys := ys) rfl) (fun i H' => Lc K G2 H2 Dl ((((List.zip l m.l).take i).filter f).map h) H') (lc_start g2.s hD) (fun i H' _ ⟨G', zs, g, _, _, _⟩ => ⟨SqL.of (g.s _ _ (g.g _ _ hA)), sqT_mono (un g.g g.s).get hB⟩) (fun i v H' H'' _ p ⟨T, x, y, ev2, hT, eH, hx, hy⟩ => ?_) fun H' p => ?_
    · subst ev2 eH
      obtain ⟨pr, hp, rx, ry⟩ := zip_get rl rm hx hy
      exact zip_turn f h hz ht (g1.g.trans g2.g) hD p hp hT rx ry
    · obtain ⟨G', g', r'⟩ := lc_end hD p
      refine q _ G' H' ((g1.trans g2).trans g') ?_
      rw [hn, List.take_length] at r'
      exact r'
theorem ev_lcZm {l : Tpl α} {m : Tpl β} {g : TG} (h : α × β → γ) (hl : EvR K tl σ G l) (hm : EvR K tm σ G m) (hz : (List.zip l.l m.l).length < sizeLine)
    (ht : ∀ p v G' H', Same G G' → Sub G' H' → p ∈ List.zip l.l m.l → rep K p v G' → ∀ (P : L2.St → Hp → Prop), (∀ σ2, wipe σ2 vs = wipe σ vs → EvB tYes σ2 G' true → (true = true → EvR K te σ2 G' (h p)) → P σ2 H') → g v (wipe σ vs) H' P) :
    EvR K (tLc (RZ.iZipA K (tCons tl (tCons tm tNil))) g tYes te vs) σ G ((List.zip l.l m.l).map h) := (ev_lcZ (fun _ => true) h hl hm hz ht).to (by rw [filt_true])
theorem ev_lcMm {l : List α} {m : Tpl β} {g : TG} (h : α × β → γ) (hl : EvR K tl σ G l) (hm : EvR K tm σ G m) (hz : (List.zip l m.l).length < sizeLine)
    (ht : ∀ p v G' H', Same G G' → Sub G' H' → p ∈ List.zip l m.l → rep K p v G' → ∀ (P : L2.St → Hp → Prop), (∀ σ2, wipe σ2 vs = wipe σ vs → EvB tYes σ2 G' true → (true = true → EvR K te σ2 G' (h p)) → P σ2 H') → g v (wipe σ vs) H' P) :
    EvR K (tLc (RZL.iZipM K (tCons tl (tCons tm tNil))) g tYes te vs) σ G ((List.zip l m.l).map h) := (ev_lcM (fun _ => true) h hl hm hz ht).to (by rw [filt_true])
/-- for n, x in enumerate(l, 1) -/
theorem s_forE {l : List α} {g : TG} (e : Sub G H) (h : EvR K tl σ G l) (k : ∀ G1 H1 xs, Grow G H G1 H1 → Reps K l xs G1 → ∃ Pv : Nat → L2.St → Hp → Prop, Pv 0 σ H1 ∧ (∀ i σ' H', Pv i σ' H' → Sub G1 H') ∧
    (∀ i x v σ' H' T, (numb 1 l)[i]? = some x → rep K x.2 v G1 → Pv i σ' H' → H' T = none → g (.ref T) σ' (upd H' T (.tup [.int x.1, v])) fun σ2 H2 => tb { D with nx := Pv (i + 1), ct := Pv (i + 1), bk := D.nx } σ2 H2) ∧ ∀ σ' H', Pv (numb 1 l).length σ' H' → D.nx σ' H') : tFor (REN.iEnum1 K (tCons tl (tCons (tC (.int 1)) tNil))) g tb D σ H :=
  h H e _ fun v G1 H1 g1 ⟨a, xs, ev, hA, r⟩ => by
    obtain ⟨Pv, p0, ps, pt, pe⟩ := k G1 H1 xs g1 r
    refine ⟨a, xs, by rw [ev], SqL.of (g1.s _ _ hA), for_it (walk_en1 (K := K) (a := a) (xs := xs)) Pv p0 (fun i σ' H' _ p => SqL.of (ps i σ' H' p _ _ hA)) (fun i v σ' H' H'' _ p ⟨T, n, x, ev2, hT, eH, hn, hx⟩ => ?_) fun σ' H' p => pe σ' H' (by rw [numb_len, paired_len r]; exact p)⟩
    subst ev2 eH
    obtain ⟨y, hy, ry⟩ := paired_get r hx
    have en : n = .int (1 + (i : Int)) := by rw [Int.add_comm]; exact (Option.some.inj hn).symm
    rw [en]
    exact pt i (1 + (i : Int), y) x σ' H' T (numb_get 1 l i hy) ry p hT
theorem q_forE {l : List α} {g : TG} (e : Sub G H) (h : EvR K tl σ G l) (k : ∀ G1 H1 xs, Grow G H G1 H1 → Reps K l xs G1 → ∃ Pv : Nat → L2.St → Hp → Prop, Pv 0 σ H1 ∧ (∀ i σ' H', Pv i σ' H' → Sub G1 H') ∧
    (∀ i x v σ' H' T, (numb 1 l)[i]? = some x → rep K x.2 v G1 → Pv i σ' H' → H' T = none → g (.ref T) σ' (upd H' T (.tup [.int x.1, v])) fun σ2 H2 => tb { D with nx := Pv (i + 1), ct := Pv (i + 1), bk := tz D } σ2 H2) ∧ ∀ σ' H', Pv (numb 1 l).length σ' H' → tz D σ' H') : tSeq (tFor (REN.iEnum1 K (tCons tl (tCons (tC (.int 1)) tNil))) g tb) tz D σ H :=
  s_forE (D := { D with nx := tz D }) e h k
end
end RL

set_option Elab.async false
set_option linter.all false
set_option maxRecDepth 100000
set_option maxHeartbeats 4000000
namespace RL
open PySem PySem.Spec PyProof.Rows L2 CwR
open Rep (rep)
/-! ### a dict of texts by texts, as data -/
structure Dct where
  l : List (Str × Str)
def kvsD (l : List (Str × Str)) : List (Key × V) := l.map fun p => (Sum.inr p.1, V.str p.2)
instance : Rep Dct := ⟨fun _ t v G => ∃ a, v = .ref a ∧ G a = some (.dK (kvsD t.l)), fun e ⟨a, h1, h2⟩ => ⟨a, h1, e _ _ h2 trivial⟩⟩
instance : Inhabited Dct := ⟨⟨[]⟩⟩
theorem valD_get {z : Str} : ∀ l : List (Str × Str), valV (kvsD l) (Sum.inr z) = (tabGet l z).map V.str
  | [] => rfl
  | p :: l => by
    by_cases q : p.1 = z
    · have q2 : (Sum.inr p.1 : Key) = Sum.inr z := congrArg _ q
      show valV ((Sum.inr p.1, V.str p.2) :: kvsD l) (Sum.inr z) = _
      rw [valV_pos (p := ((Sum.inr p.1 : Key), V.str p.2)) q2]
      unfold tabGet
      rw [List.find?_cons, decide_eq_true q]
      rfl
    · have q2 : ¬ (Sum.inr p.1 : Key) = Sum.inr z := fun h => q (Sum.inr.inj h)
      show valV ((Sum.inr p.1, V.str p.2) :: kvsD l) (Sum.inr z) = _
      rw [valV_neg (p := ((Sum.inr p.1 : Key), V.str p.2)) q2, valD_get l]
      unfold tabGet
      rw [List.find?_cons, decide_eq_false q]
def rnC (ys : List Str) : Prop := sortedS ys = true
theorem ltCps_irr : ∀ a : List Nat, ltCps a a = false
  | [] => rfl
  | a :: r => by
    show (decide (a < a) || (a == a && ltCps r r)) = false
    rw [ltCps_irr r, Bool.and_false, Bool.or_false]
    exact decide_eq_false (Nat.lt_irrefl a)
theorem ltCps_total : ∀ a b : List Nat, ltCps a b = false → ltCps b a = false → a = b
  | [], [], _, _ => rfl
  | [], _ :: _, h, _ => by cases h
  | _ :: _, [], _, h => by cases h
  | a :: r, b :: t, h, k => by
    have h : (decide (a < b) || (a == b && ltCps r t)) = false := h
    have k : (decide (b < a) || (b == a && ltCps t r)) = false := k
    obtain ⟨h1, h2⟩ := Bool.or_eq_false_iff.mp h
    obtain ⟨k1, k2⟩ := Bool.or_eq_false_iff.mp k
    have h1 := of_decide_eq_false h1
    have k1 := of_decide_eq_false k1
    have e : a = b := by omega
    subst e
    have eb : (a == a) = true := beq_self_eq_true a
    rw [eb, Bool.true_and] at h2 k2
    rw [ltCps_total r t h2 k2]
theorem ltCps_trans : ∀ a b c : List Nat, ltCps b a = false → ltCps c b = false → ltCps c a = false
  | [], _, [], _, _ => rfl
  | _ :: _, [], [], h, k => by cases h
  | _ :: _, _ :: _, [], h, k => by cases k
  | [], b, z :: u, h, k => rfl
  | x :: r, [], z :: u, h, k => by cases h
  | x :: r, y :: t, z :: u, h, k => by
    have h : (decide (y < x) || (y == x && ltCps t r)) = false := h
    have k : (decide (z < y) || (z == y && ltCps u t)) = false := k
    obtain ⟨h1, h2⟩ := Bool.or_eq_false_iff.mp h
    obtain ⟨k1, k2⟩ := Bool.or_eq_false_iff.mp k
    have h1 := of_decide_eq_false h1
    have k1 := of_decide_eq_false k1
    show (decide (z < x) || (z == x && ltCps u r)) = false
    refine Bool.or_eq_false_iff.mpr ⟨decide_eq_false (by omega), ?_⟩
    cases q : (z == x) with
    | false => rfl
    | true =>
      have e : z = x := eq_of_beq q
      have e2 : y = x := by omega
      have b1 : (y == x) = true := by rw [e2]; exact beq_self_eq_true x
      have b2 : (z == y) = true := by rw [e, e2]; exact beq_self_eq_true x
      rw [b1, Bool.true_and] at h2
      rw [b2, Bool.true_and] at k2
      rw [Bool.true_and]
      exact ltCps_trans r t u h2 k2
def leT (a b : Str) : Prop := ltCps b.cps.toList a.cps.toList = false
theorem rising_pw : ∀ (l : List Str) (p : Str), risingS p l = true → (p :: l).Pairwise leT
  | [], p, _ => List.pairwise_singleton _ _
  | x :: r, p, h => by
    have h : (!ltCps x.cps.toList p.cps.toList && risingS x r) = true := h
    obtain ⟨h1, h2⟩ := Bool.and_eq_true_iff.mp h
    have ih := rising_pw r x h2
    have h1' : leT p x := by unfold leT; revert h1; cases ltCps x.cps.toList p.cps.toList <;> simp
    refine List.pairwise_cons.mpr ⟨fun y hy => ?_, ih⟩
    rcases List.mem_cons.mp hy with e | hy
    · rw [e]; exact h1'
    · exact ltCps_trans _ _ _ h1' ((List.pairwise_cons.mp ih).1 y hy)
theorem sorted_pw : ∀ {l : List Str}, sortedS l = true → l.Pairwise leT
  | [], _ => .nil
  | x :: r, h => rising_pw r x h
theorem leT_anti {a b : Str} (h : leT a b) (k : leT b a) : a = b := by
  obtain ⟨⟨x⟩⟩ := a
  obtain ⟨⟨y⟩⟩ := b
  have e : y = x := ltCps_total y x h k
  rw [e]
theorem perm_pw {α : Type} {le : α → α → Prop} (anti : ∀ a b, le a b → le b a → a = b) : ∀ {l m : List α}, l.Perm m → l.Pairwise le → m.Pairwise le → l = m
  | [], m, p, _, _ => (List.nil_perm.mp p).symm
  | x :: l, [], p, _, _ => by cases List.Perm.length_eq p
  | x :: l, y :: m, p, h, k => by
    obtain ⟨h1, h2⟩ := List.pairwise_cons.mp h
    obtain ⟨k1, k2⟩ := List.pairwise_cons.mp k
    have e : x = y := by
      rcases List.mem_cons.mp (p.mem_iff.mp (List.mem_cons_self (a := x) (l := l))) with q | q
      · exact q
      · rcases List.mem_cons.mp (p.symm.mem_iff.mp (List.mem_cons_self (a := y) (l := m))) with z | z
        · exact z.symm
        · exact anti _ _ (h1 y z) (k1 x q)
    subst e
    rw [perm_pw anti (p.cons_inv) h2 k2]
theorem sorted_one {l m : List Str} (p : l.Perm m) (h : sortedS l = true) (k : sortedS m = true) : l = m := perm_pw (fun _ _ => leT_anti) p (sorted_pw h) (sorted_pw k)
section
variable [Tb] {α β : Type} [Rep α] [Rep β] {K : PySem.W.Frag} {σ : L2.St} {G H : Hp} {te ta tb : TE} {t u tz : TS} {D : Ends} {i : Nat}
theorem ev_dctGet {d : Dct} {z : Str} (ha : EvR K ta σ G d) (hb : EvR K tb σ G z) (h : (tabGet d.l z).isSome = true) : EvR K (tDGet ta tb) σ G ((tabGet d.l z).getD Str.empty) := fun H e Q q =>
  ha H e _ fun v G1 H1 g1 r1 => hb.mono g1.g H1 g1.s _ fun w G2 H2 g2 r2 => by
    obtain ⟨a, ev, hA⟩ := up g2.g r1
    obtain ⟨x, ex⟩ := Option.isSome_iff_exists.mp h
    refine ⟨a, .str x, ev, ?_, ?_⟩
    · rw [show w = V.str z from r2]
      have := DGet.k (k := Sum.inr z) (g2.s _ _ hA)
      rw [valD_get, ex] at this
      exact this
    · refine q _ G2 H2 (g1.trans g2) ?_
      rw [ex]
      rfl
theorem ev_dctKeys {d : Dct} (ha : EvR K ta σ G d) : EvR K (tCB rListD (tCons ta tNil)) σ G (d.l.map (·.1)) := fun H e Q q =>
  ha H e _ fun v G1 H1 g1 ⟨a, ev, hA⟩ => ⟨a, kvsD d.l, by rw [ev], g1.s _ _ hA, fun p hp => q _ _ _ (g1.trans (Grow.new g1.s hp)) ⟨p, _, rfl, upd_same, by
    have e : (kvsD d.l).map (fun kv => kV kv.1) = (d.l.map (·.1)).map Flat.toV := by
      unfold kvsD
      rw [List.map_map, List.map_map]
      rfl
    rw [e]
    exact reps_of_flat _⟩⟩
theorem ev_sortS {l zs : List Str} (ha : EvR K ta σ G l) (h : zs.Perm l ∧ sortedS zs = true ∧ l.length < 64) : EvR K (tCB (rSortedS K) (tCons ta tNil)) σ G zs := fun H e Q q =>
  ha H e _ fun v G1 H1 g1 ⟨a, xs, ev, hA, r⟩ => ⟨a, l, by rw [ev], by
    have e := reps_flat r
    subst e
    exact SqL.of (g1.s _ _ hA), h.2.2, fun ys p hp hs hn => by
    have e : ys = zs := sorted_one (hp.trans h.1.symm) hs h.2.1
    subst e
    exact q _ _ _ (g1.trans (Grow.new g1.s hn)) ⟨p, _, rfl, upd_same, reps_of_flat ys⟩⟩
def inS (a b : Str) : Bool := !(Builtin.Str.occurrences b a 0 b.length 1).isEmpty
theorem ev_inS {a b : Str} (ha : EvR K ta σ G a) (hb : EvR K tb σ G b) : EvR K (tOp (fun x y H Q => ∃ i j, x = .str i ∧ y = .str j ∧ Q (.bl (!(Builtin.Str.occurrences j i 0 j.length 1).isEmpty)) H) ta tb) σ G (inS a b) :=
  ev_op ha hb fun v w G1 H1 _ s hv hw Q q => ⟨a, b, hv, hw, q _ G1 H1 (Grow.refl s) rfl⟩
theorem ev_ninL {δ : Type} [Rep δ] [DecidableEq δ] [Flat δ] {x : δ} {l : List δ} (ha : EvR K ta σ G x) (hb : EvR K tb σ G l) : EvR K (tOp (rIn K true) ta tb) σ G (!memB x l) :=
  ev_op ha hb fun v w G1 H1 _ s hv ⟨a, xs, ev, hA, r⟩ Q q => by
    have e := reps_flat r
    subst e
    refine ⟨a, _, ev, .inl (SqL.of (s _ _ hA)), by rw [show v = Flat.toV x from Flat.eq.mp hv]; exact Flat.flat x, flat_all, ?_⟩
    rw [if_pos rfl]
    refine q _ G1 H1 (Grow.refl s) ?_
    have : inV v (l.map Flat.toV) = memB x l := by
      rw [show v = Flat.toV x from Flat.eq.mp hv]
      unfold inV memB
      rw [List.any_map]
      apply Bool.eq_iff_iff.mpr
      rw [List.any_eq_true, decide_eq_true_iff]
      constructor
      · rintro ⟨y, hy, h⟩
        rw [Function.comp, Flat.eqv] at h
        rw [← of_decide_eq_true h]
        exact hy
      · intro h
        exact ⟨x, h, by rw [Function.comp, Flat.eqv]; exact decide_eq_true rfl⟩
    rw [this]
    rfl
theorem ev_splitM {s c : Str} {k : Int} (ha : EvR K ta σ G s) (hb : EvR K tb σ G c) (h : (c.length == 0) = false ∧ -(2 ^ 63) ≤ k ∧ k < 2 ^ 63 ∧ s.length + 2 ≤ sizeLine) :
    EvR K (tBM K "str" (fun x xs H Q => ∃ (a b : Str) (k : Int), x = .str a ∧ xs = [.str b, .int k] ∧ (b.length == 0) = false ∧ -(2 ^ 63) ≤ k ∧ k < 2 ^ 63 ∧ a.length + 2 ≤ sizeLine ∧ rNewStrs (Txt.splitMax a b k) H Q) ta (tCons tb (tCons (tC (.int k)) tNil))) σ G (Txt.splitMax s c k) := fun H e Q q =>
  ha H e _ fun v G1 H1 g1 r1 => ⟨by rw [show v = V.str s from r1]; rfl, hb.mono g1.g H1 g1.s _ fun w G2 H2 g2 r2 => ⟨s, c, k, r1, by rw [show w = V.str c from r2], h.1, h.2.1, h.2.2.1, h.2.2.2, fun p hp =>
    q _ _ _ ((g1.trans g2).trans (Grow.new g2.s hp)) ⟨p, _, rfl, upd_same, reps_of_flat _⟩⟩⟩
theorem ev_fmtI {n : Int} (h : EvR K te σ G n) (hz : n.natAbs.log2 < 1920) : EvR K (tFmt te) σ G (PySem.Str.ofString (toString n)) := fun H e Q q => h H e _ fun v G1 H1 g1 r1 => .inr ⟨n, r1, hz, q _ G1 H1 g1 rfl⟩
/-- x += n -/
theorem s_aug {n m : Int} {v : V} (e : Sub G H) (hi : σ[i]? = some (some v)) (hv : rep K n v G) (h : EvR K te σ G m) (k : ∀ v G2 H2, Grow G H G2 H2 → rep K (n + m) v G2 → D.nx (σ.set i (some v)) H2) : tAug i te (ipI fun i j => i + j) D σ H :=
  ⟨v, hi, h H e _ fun w G1 H1 g1 r1 => ⟨n, m, hv, r1, k _ G1 H1 g1 rfl⟩⟩
theorem q_aug {n m : Int} {v : V} (e : Sub G H) (hi : σ[i]? = some (some v)) (hv : rep K n v G) (h : EvR K te σ G m) (k : ∀ v G2 H2, Grow G H G2 H2 → rep K (n + m) v G2 → tz D (σ.set i (some v)) H2) : tSeq (tAug i te (ipI fun i j => i + j)) tz D σ H :=
  s_aug (D := { D with nx := tz D }) e hi hv h k
/-- contracts that may raise an error with a number -/
def spy1 {α ρ : Type} [Rep α] [Rep ρ] (K : PySem.W.Frag) (C : Addr) (f : Str) (pre : α → Prop) (m : α → Except Int ρ) : Sp := fun vs H Q E => ∃ x v G, vs = [v] ∧ Sub G H ∧ rep K x v G ∧ pre x ∧
  (∀ y, m x = .ok y → ∀ u G' H', Grow G H G' H' → rep K y u G' → Q u H') ∧ ∀ s, m x = .error s → ErrAt C f (.int s) H E
end
theorem cr_sortedSK {X : Cx} {K : PySem.W.Frag} (h : X.K = K := by rfl) : CallR X (.builtin "sorted") (rSortedS K) := by subst h; exact cr_sortedS
theorem op_ninK {X : Cx} {K : PySem.W.Frag} (h : X.K = K := by rfl) : OpR X (compareOp .NotIn) (rIn K true) := by subst h; exact op_notIn_seq
theorem pi_zipAK {X : Cx} {K : PySem.W.Frag} {e e2 : Expr} {ta : TA} {p pos tpos : Pos} {elts : List Expr} {kk : Nat} (hg : Gl X "zip") (hm : X.mg "zip" = none) (ha : PA X [e, e2] ta)
    (hs : starEach [e, e2] X.env = (false, eval e X.env) :: starEach [e2] X.env := by rfl) (hpl : (backTo pos (starEach [e2] X.env)).any (·.1) = false := by rfl) (hK : X.K = K := by rfl) :
    PI X (.Tuple elts kk tpos) (.Call (.Name "zip" p) [e, e2] [] pos) (RZ.iZipA K ta) := by subst hK; exact RZ.pi_zipA hg hm ha hs hpl
theorem hu_ofU {k : Nat} {A : Around} (r : Room k A) : A.units + 1 < cLine := by have := r.un; omega
def intT (s : Str) : Int := (PySem.intText? s).getD 0
end RL
namespace RL
open PySem PySem.Spec PyProof.Rows L2 CwR
open Rep (rep)
section
variable [Tb] {α : Type} [Rep α] {K : PySem.W.Frag} {σ : L2.St} {G H Ge He : Hp} {ts : TA} {D : Ends} {i : Nat} {tz : TS}
/-- a new list with some items, that is still to be filled -/
theorem s_newG {l : List α} (gr : Grow Ge He G H) (h : EvA K ts σ G l) (hl : l.length ≤ sizeLine) (k : ∀ G' H' p H2 xs, Grow G H G' H' → He p = none → G' p = none → H2 p = some (.lst xs) → Reps K l xs G' → Grow Ge He G' H2 → Kept H H2 → D.nx (σ.set i (some (.ref p))) H2) : tAsg (tLst ts) (gName i) D σ H :=
  h H gr.s _ fun vs G1 H1 g1 r1 => ⟨by rw [← paired_len r1]; exact hl, fun p hp => k G1 H1 p _ vs g1 ((gr.trans g1).h.free hp) (g1.s.free hp) upd_same r1 ((gr.trans g1).loose hp) (g1.h.trans (kept_upd hp))⟩
theorem q_newG {l : List α} (gr : Grow Ge He G H) (h : EvA K ts σ G l) (hl : l.length ≤ sizeLine) (k : ∀ G' H' p H2 xs, Grow G H G' H' → He p = none → G' p = none → H2 p = some (.lst xs) → Reps K l xs G' → Grow Ge He G' H2 → Kept H H2 → tz D (σ.set i (some (.ref p))) H2) : tSeq (tAsg (tLst ts) (gName i)) tz D σ H :=
  s_newG (D := { D with nx := tz D }) gr h hl k
/-- what is never reached -/
theorem ps_dead {X : Cx} {st : Stmt} : PS X st (fun _ _ _ => False) := ⟨fun _ _ _ _ _ _ h => h.elim⟩
omit [Tb] in
theorem nn_tpl {α : Type} [Rep α] {K : PySem.W.Frag} : ∀ v G, (∃ x : Tpl α, rep K x v G) → v ≠ .non := fun v G ⟨x, a, xs, e, _⟩ z => by rw [e] at z; cases z
end
end RL
namespace RL
open PySem PySem.Spec PyProof.Rows L2 CwR GxR
open Rep (rep)
section
variable {pg : Program} {wd : World} {mg : Str → Option Value} {sc : Scope} {c : Str}
theorem elt_inC {t : Str} {j : Nat} {p1 p2 p3 : Pos} (hk : sc.kind = .function) (hl : sc.names.lookup c = some .local) (hd : (c == ("__debug__" : Str)) = false := by decide) :
    EltM pg wd mg sc c (.Compare (.Name c p1) [.In] [.Constant (.str t) j p2] p3) (fun k => !(Builtin.Str.occurrences t ⟨#[k]⟩ 0 t.length 1).isEmpty) := by
  intro en B Z k tk sh lm e1 e2 hg hn hc
  subst e1
  refine wpAny_Compare1 (wpAny_Name (wpAny_loadName_local hk hl (show _ from hn) hc (Calls.Constant_str ?_)) hd) (by rfl)
  exact PySem.P.in_str ⟨rfl, kp _ _⟩
end
/-- a written text ahead: what wants a token out has one -/
theorem pe_cop {X : Cx} {c : Str} {f : Expr} {tf : TE} {j : Nat} {cp pos : Pos} {op : Operator} {r : R2} (ho : OpR X (binaryOp op) r) (hb : PET X f tf) : PE X (.BinOp (.Constant (.str c) j cp) op f pos) (tOp r (tC (.str c)) tf) :=
  ⟨fun pins s σ H Q I h => wpAny_BinOp (Calls.Constant_str (thn (hb pins _ σ H _ (Nat.le_add_left 1 s.toks) (I.tok (s.toks + 1)) h) fun u s2 ⟨y, H2, I2, r2, q2⟩ => ho pins s2 σ H2 (.str c) y _ u Q I2 ⟨s.toks, rfl⟩ r2 q2))⟩
section
variable [Tb] {α β γ δ ρ : Type} [Rep α] [Rep β] [Rep γ] [Rep δ] [Rep ρ] {K : PySem.W.Frag} {σ : L2.St} {G : Hp} {ta tb tc td : TE} {E : XK}
def sp4 (K : PySem.W.Frag) (pre : α → β → γ → δ → Prop) (f : α → β → γ → δ → ρ) : Sp := fun vs H Q _ => ∃ x y z a v w u t G, vs = [v, w, u, t] ∧ Sub G H ∧ rep K x v G ∧ rep K y w G ∧ rep K z u G ∧ rep K a t G ∧ pre x y z a ∧ ∀ r G' H', Grow G H G' H' → rep K (f x y z a) r G' → Q r H'
theorem ev_call4 {x : α} {y : β} {z : γ} {a : δ} {pre : α → β → γ → δ → Prop} {f : α → β → γ → δ → ρ} (ha : EvR K ta σ G x) (hb : EvR K tb σ G y) (hc : EvR K tc σ G z) (hd : EvR K td σ G a) (hp : pre x y z a) :
    EvR K (tCall (sp4 K pre f) [] E (tCons ta (tCons tb (tCons tc (tCons td tNil))))) σ G (f x y z a) := fun H e Q q =>
  ha H e _ fun v G1 H1 g1 r1 => hb.mono g1.g H1 g1.s _ fun w G2 H2 g2 r2 => hc.mono (g1.g.trans g2.g) H2 g2.s _ fun u G3 H3 g3 r3 => hd.mono ((g1.g.trans g2.g).trans g3.g) H3 g3.s _ fun t G4 H4 g4 r4 =>
    ⟨x, y, z, a, v, w, u, t, G4, rfl, g4.s, up ((g2.g.trans g3.g).trans g4.g) r1, up (g3.g.trans g4.g) r2, up g4.g r3, r4, hp, fun u G5 H5 g5 r5 => q u G5 H5 ((((g1.trans g2).trans g3).trans g4).trans g5) r5⟩
end
end RL
namespace RL
open PySem PySem.Spec PyProof.Rows L2 CwR
open Rep (rep)
section
variable [Tb] {K : PySem.W.Frag} {σ : L2.St} {G : Hp} {ta : TE}
theorem isNon_rep {d : PyData} {v : V} {G : Hp} (r : rep K d v G) : decide (v = .non) = isNonD d := by
  have r : Dp K G v d := r
  cases r <;> first | rfl | exact decide_eq_false (fun z => by cases z)
theorem ev_isND {d : PyData} (ha : EvR K ta σ G d) : EvR K (tOp (fun x y H Q => y = .non ∧ Q (.bl (decide (x = .non))) H) ta (tC .non)) σ G (isNonD d) := fun H e Q q =>
  ha H e _ fun v G1 H1 g1 r1 => ⟨rfl, q _ G1 H1 g1 (congrArg V.bl (isNon_rep r1))⟩
theorem ev_notND {d : PyData} (ha : EvR K ta σ G d) : EvR K (tOp (fun x y H Q => y = .non ∧ Q (.bl (!decide (x = .non))) H) ta (tC .non)) σ G (!isNonD d) := fun H e Q q =>
  ha H e _ fun v G1 H1 g1 r1 => ⟨rfl, q _ G1 H1 g1 (congrArg V.bl (congrArg not (isNon_rep r1)))⟩
theorem pss_dead {X : Cx} {st : List Stmt} : PSs X st (fun _ _ _ => False) := ⟨fun _ _ _ _ _ _ h => h.elim⟩
end
end RL

set_option Elab.async false
set_option linter.all false
set_option maxRecDepth 100000
set_option maxHeartbeats 4000000
namespace RL
open PySem PySem.Spec PyProof.Rows L2 CwR
/-! ### texts: spaces taken off, parts between spaces, parts in quotes -/
theorem sp32 : TL.tl (" " : Str) = [32] := by decide +kernel
theorem has_sp : (" " : Str).cps.contains = fun c : Nat => c == 32 := by
  funext c
  have e : (" " : Str).cps = #[32] := by decide +kernel
  rw [e]
  show (#[32] : Array Nat).contains c = _
  rw [← Array.contains_toList]
  show List.contains [32] c = _
  rw [List.contains_cons]
  show (c == 32 || false) = _
  rw [Bool.or_false]
theorem drop_tw {α : Type} (p : α → Bool) (l : List α) : l.drop (l.takeWhile p).length = l.dropWhile p := by
  conv => lhs; rhs; rw [← List.takeWhile_append_dropWhile (p := p) (l := l)]
  exact List.drop_left
theorem lstrip_tl (x : Str) : TL.tl (Txt.lstripChars x (" " : Str)) = (TL.tl x).dropWhile (· == 32) := by
  unfold Txt.lstripChars
  rw [stripBy_eq, has_sp]
  show TL.tl (Builtin.Str.strSub x (((TL.tl x).takeWhile (· == 32)).length) x.length) = _
  rw [TL.tl_strSub_end, drop_tw]
theorem take_tw {α : Type} (p : α → Bool) (l : List α) : l.take (l.length - (l.reverse.takeWhile p).length) = (l.reverse.dropWhile p).reverse := by
  have h := drop_tw p l.reverse
  rw [← h, List.reverse_drop, List.reverse_reverse, List.length_reverse]
theorem strip_tl (x : Str) : TL.tl (Txt.stripChars x (" " : Str)) = (((TL.tl x).dropWhile (· == 32)).reverse.dropWhile (· == 32)).reverse := by
  unfold Txt.stripChars
  rw [stripBy_eq, has_sp]
  show TL.tl (Builtin.Str.strSub x (((TL.tl x).takeWhile (· == 32)).length) (x.length - (((TL.tl x).drop ((TL.tl x).takeWhile (· == 32)).length).reverse.takeWhile (· == 32)).length)) = _
  rw [TL.tl_strSub, drop_tw, ← take_tw]
  congr 1
  have h1 : ((TL.tl x).dropWhile (· == 32)).length = (TL.tl x).length - ((TL.tl x).takeWhile (· == 32)).length := by rw [← drop_tw, List.length_drop]
  rw [TL.len_tl x, h1]
  omega
theorem dw_rep (n : Nat) (l : List Nat) (h : l.head? ≠ some 32) : (List.replicate n 32 ++ l).dropWhile (· == 32) = l := by
  induction n with
  | zero =>
    cases l with
    | nil => rfl
    | cons c r =>
      show (c :: r).dropWhile (· == 32) = c :: r
      rw [List.dropWhile_cons, if_neg (by intro z; exact h (by rw [eq_of_beq z]; rfl))]
  | succ n ih =>
    rw [List.replicate_succ, List.cons_append, List.dropWhile_cons, if_pos (by decide)]
    exact ih
theorem strip_mid {x : Str} {a b : Nat} {m : List Nat} (h : TL.tl x = List.replicate a 32 ++ (m ++ List.replicate b 32)) (h1 : m.head? ≠ some 32) (h2 : m.getLast? ≠ some 32) : TL.tl (Txt.stripChars x (" " : Str)) = m := by
  rw [strip_tl, h]
  cases m with
  | nil =>
    have e : (List.replicate a 32 ++ ([] ++ List.replicate b 32)).dropWhile (· == 32) = [] := by
      rw [List.nil_append, List.replicate_append_replicate, ← List.append_nil (List.replicate (a + b) 32)]
      exact dw_rep (a + b) [] (fun z => by cases z)
    rw [e]
    rfl
  | cons c r =>
    rw [dw_rep a _ (by exact h1), List.reverse_append, List.reverse_replicate, dw_rep b _ (by rw [List.head?_reverse]; exact h2), List.reverse_reverse]
/-! parts in quotes: how far a part goes -/
def flp (b : Bool) (c : Nat) : Bool := if c = 34 then !b else b
def scn : Bool → List Nat → Nat
  | _, [] => 0
  | b, [c] => if b = false ∧ c = 32 then 0 else if flp b c = true ∧ c = 92 then 2 else 1
  | b, c :: d :: r => if b = false ∧ c = 32 then 0 else if flp b c = true ∧ c = 92 then 2 + scn (flp b c) r else 1 + scn (flp b c) (d :: r)
theorem scn_c (b : Bool) (c : Nat) (r : List Nat) : scn b (c :: r) = if b = false ∧ c = 32 then 0 else if flp b c = true ∧ c = 92 then 2 + scn (flp b c) r.tail else 1 + scn (flp b c) r := by
  cases r with
  | nil => rfl
  | cons d r => rfl
theorem scn_stop {r : List Nat} (h : r = [] ∨ r.head? = some 32) : scn false r = 0 := by
  rcases h with h | h
  · rw [h]; rfl
  · cases r with
    | nil => rfl
    | cons c q =>
      have e : c = 32 := Option.some.inj h
      rw [scn_c, if_pos ⟨rfl, e⟩]
theorem scn_plain : ∀ (p r : List Nat), 32 ∉ p → 34 ∉ p → (r = [] ∨ r.head? = some 32) → scn false (p ++ r) = p.length
  | [], r, _, _, h => scn_stop h
  | c :: p, r, h1, h2, h => by
    have n1 : c ≠ 32 := fun z => h1 (by rw [z]; exact .head _)
    have n2 : c ≠ 34 := fun z => h2 (by rw [z]; exact .head _)
    have ih := scn_plain p r (fun z => h1 (.tail _ z)) (fun z => h2 (.tail _ z)) h
    have e : flp false c = false := if_neg n2
    rw [List.cons_append, scn_c, if_neg (fun z => n1 z.2), e, if_neg (fun z => Bool.noConfusion z.1), ih, List.length_cons]
    omega
def escC (c : Nat) : List Nat := if c = 34 ∨ c = 92 then [92, c] else [c]
theorem scn_in : ∀ (l r : List Nat), (r = [] ∨ r.head? = some 32) → scn true (l.flatMap escC ++ 34 :: r) = (l.flatMap escC).length + 1
  | [], r, h => by
    show scn true (34 :: r) = 0 + 1
    rw [scn_c, if_neg (by decide), if_neg (by decide)]
    show 1 + scn false r = _
    rw [scn_stop h]
  | c :: l, r, h => by
    have ih := scn_in l r h
    rw [List.flatMap_cons, List.length_append]
    by_cases q : c = 34 ∨ c = 92
    · have e : escC c = [92, c] := if_pos q
      rw [e]
      show scn true (92 :: (c :: (l.flatMap escC ++ 34 :: r))) = 2 + (l.flatMap escC).length + 1
      rw [scn_c, if_neg (by decide), if_pos (by decide)]
      show 2 + scn true (l.flatMap escC ++ 34 :: r) = _
      rw [ih]
      omega
    · have e : escC c = [c] := if_neg q
      rw [e]
      show scn true (c :: (l.flatMap escC ++ 34 :: r)) = 1 + (l.flatMap escC).length + 1
      have e2 : flp true c = true := if_neg fun z => q (.inl z)
      rw [scn_c, if_neg (fun z => Bool.noConfusion z.1), e2, if_neg (fun z => q (.inr z.2)), ih]
      omega
theorem scn_quote (l r : List Nat) (h : r = [] ∨ r.head? = some 32) : scn false (34 :: (l.flatMap escC ++ [34]) ++ r) = (34 :: (l.flatMap escC ++ [34])).length := by
  have e : 34 :: (l.flatMap escC ++ [34]) ++ r = 34 :: (l.flatMap escC ++ 34 :: r) := by rw [List.cons_append, List.append_assoc]; rfl
  rw [e, scn_c, if_neg (by decide), if_neg (by decide)]
  show 1 + scn true (l.flatMap escC ++ 34 :: r) = _
  rw [scn_in l r h, List.length_cons, List.length_append]
  show 1 + (_ + 1) = _ + 1 + 1
  omega
theorem scn_le : ∀ (b : Bool) (l : List Nat), scn b l ≤ l.length + 1
  | _, [] => Nat.zero_le _
  | b, [c] => by
    rw [scn_c]
    show (if b = false ∧ c = 32 then 0 else if flp b c = true ∧ c = 92 then 2 + 0 else 1 + 0) ≤ 2
    split
    · omega
    · split <;> omega
  | b, c :: d :: r => by
    have h1 := scn_le (flp b c) (d :: r)
    have h2 := scn_le (flp b c) r
    rw [scn_c]
    show (if b = false ∧ c = 32 then 0 else if flp b c = true ∧ c = 92 then 2 + scn (flp b c) r else 1 + scn (flp b c) (d :: r)) ≤ (d :: r).length + 1 + 1
    rw [List.length_cons] at h1 ⊢
    split
    · omega
    · split <;> omega
theorem scn_pos {l : List Nat} (h0 : l ≠ []) (h : l.head? ≠ some 32) : 1 ≤ scn false l := by
  cases l with
  | nil => exact absurd rfl h0
  | cons c r =>
    have n : c ≠ 32 := fun z => h (by rw [z]; rfl)
    rw [scn_c, if_neg (fun z => n z.2)]
    split <;> omega
/-! a line: parts with spaces between -/
def bodyB : List (List Nat × Nat) → List Nat
  | [] => []
  | [p] => p.1
  | p :: q :: r => p.1 ++ (List.replicate (p.2 + 1) 32 ++ bodyB (q :: r))
structure PartOk (p : List Nat) : Prop where
  ne : p ≠ []
  hd : p.head? ≠ some 32
  la : p.getLast? ≠ some 32
  sc : ∀ r, (r = [] ∨ r.head? = some 32) → scn false (p ++ r) = p.length
theorem body_head : ∀ {B : List (List Nat × Nat)}, (∀ p ∈ B, PartOk p.1) → (bodyB B).head? ≠ some 32
  | [], _ => fun z => by cases z
  | [p], h => (h p (.head _)).hd
  | p :: q :: r, h => by
    have k := h p (.head _)
    show (p.1 ++ _).head? ≠ some 32
    rw [List.head?_append]
    cases e : p.1 with
    | nil => exact absurd e k.ne
    | cons c s =>
      have := k.hd
      rw [e] at this
      exact this
theorem body_ne : ∀ {B : List (List Nat × Nat)}, B ≠ [] → (∀ p ∈ B, PartOk p.1) → bodyB B ≠ []
  | [], h, _ => absurd rfl h
  | [p], _, h => (h p (.head _)).ne
  | p :: q :: r, _, h => fun z => (h p (.head _)).ne (List.append_eq_nil_iff.mp z).1
theorem body_last : ∀ {B : List (List Nat × Nat)}, (∀ p ∈ B, PartOk p.1) → (bodyB B).getLast? ≠ some 32
  | [], _ => fun z => by cases z
  | [p], h => (h p (.head _)).la
  | p :: q :: r, h => by
    have k := body_last (B := q :: r) fun x hx => h x (.tail _ hx)
    have ne := body_ne (B := q :: r) (by intro z; cases z) fun x hx => h x (.tail _ hx)
    show (p.1 ++ (List.replicate (p.2 + 1) 32 ++ bodyB (q :: r))).getLast? ≠ some 32
    rw [List.getLast?_append, List.getLast?_append]
    cases e : (bodyB (q :: r)).getLast? with
    | none => exact absurd (List.getLast?_eq_none_iff.mp e) ne
    | some c => rw [e] at k; exact k
theorem body_len : ∀ {B : List (List Nat × Nat)}, (∀ p ∈ B, PartOk p.1) → B.length ≤ (bodyB B).length
  | [], _ => Nat.zero_le _
  | [p], h => by
    have := (h p (.head _)).ne
    show 1 ≤ p.1.length
    cases e : p.1 with
    | nil => exact absurd e this
    | cons _ _ => exact Nat.le_add_left _ _
  | p :: q :: r, h => by
    have ih := body_len (B := q :: r) fun x hx => h x (.tail _ hx)
    show _ ≤ (p.1 ++ (List.replicate (p.2 + 1) 32 ++ bodyB (q :: r))).length
    rw [List.length_append, List.length_append, List.length_replicate]
    rw [show (p :: q :: r).length = (q :: r).length + 1 from rfl]
    omega
theorem joinL_body (S : List Nat) : ∀ (P : List (List Nat)) , TL.joinL [32] P = bodyB (P.map fun p => (p, 0))
  | [] => rfl
  | [p] => rfl
  | p :: q :: r => by
    show p ++ ([32] ++ TL.joinL [32] (q :: r)) = p ++ (List.replicate 1 32 ++ bodyB ((q :: r).map fun p => (p, 0)))
    rw [joinL_body S (q :: r)]
    rfl
theorem join_body (P : List Str) : TL.tl (Txt.join (" " : Str) P) = bodyB (P.map fun p => (TL.tl p, 0)) := by
  rw [TL.join_eq, TL.tl_join, sp32, joinL_body []]
  rw [List.map_map]
  rfl
/-! the first space -/
theorem splitM_no {x : Str} (h : 32 ∉ TL.tl x) : Txt.splitMax x (" " : Str) 1 = [x] := by
  have hp := TL.partition_none (y := (" " : Str)) sp32 h
  unfold Txt.splitMax
  split
  · rfl
  · unfold Txt.partition at hp
    show (if (Builtin.Str.occurrences x (" " : Str) 0 x.length 1).isEmpty = true then _ else _) = _
    cases e : Builtin.Str.occurrences x (" " : Str) 0 x.length 1 with
    | nil => rfl
    | cons i r =>
      rw [e] at hp
      have h2 := (Prod.mk.inj (Prod.mk.inj hp).2).1
      exact absurd h2 (by decide +kernel)
theorem splitM_at {w y : Str} (h : 32 ∉ TL.tl w) : Txt.splitMax (w ++ (" " : Str) ++ y) (" " : Str) 1 = [w, y] := by
  have hp := TL.partition_app (y := (" " : Str)) (b := y) sp32 h
  have hl : (w ++ (" " : Str) ++ y).length = w.length + 1 + y.length := by rw [len_app, len_app]; rfl
  unfold Txt.splitMax
  have c1 : decide ((w ++ (" " : Str) ++ y).length < (" " : Str).length) = false := decide_eq_false (by rw [hl, show (" " : Str).length = 1 by decide]; omega)
  have c2 : decide (Builtin.Str.strKind (w ++ (" " : Str) ++ y) < Builtin.Str.strKind (" " : Str)) = false := decide_eq_false (TL.kind_ok (by decide +kernel))
  rw [c1, c2]
  show (if (Builtin.Str.occurrences (w ++ (" " : Str) ++ y) (" " : Str) 0 (w ++ (" " : Str) ++ y).length 1).isEmpty = true then _ else Builtin.Str.partsBetween _ (Builtin.Str.occurrences (w ++ (" " : Str) ++ y) (" " : Str) 0 (w ++ (" " : Str) ++ y).length 1) _) = _
  generalize (w ++ (" " : Str) ++ y) = x at hp
  have hle := StrLaws.occ_length_le x (" " : Str) 0 x.length 1
  unfold Txt.partition at hp
  cases e : Builtin.Str.occurrences x (" " : Str) 0 x.length 1 with
  | nil =>
    rw [e] at hp
    have h2 := (Prod.mk.inj (Prod.mk.inj hp).2).1
    exact absurd h2 (by decide +kernel)
  | cons i r =>
    rw [e] at hp hle
    have hr : r = [] := List.eq_nil_of_length_eq_zero (by rw [List.length_cons] at hle; omega)
    subst hr
    obtain ⟨h1, h2⟩ := Prod.mk.inj hp
    obtain ⟨_, h3⟩ := Prod.mk.inj h2
    show [Builtin.Str.strSub x 0 i, Builtin.Str.strSub x (i + (" " : Str).length) x.length] = [w, y]
    rw [h1, h3]
/-! digits -/
theorem eq1 {c k : Nat} {s : Str} (h : TL.tl s = [k]) : eqB (⟨#[c]⟩ : Str) s = decide (c = k) := by
  refine decide_eq_decide.mpr ⟨fun e => ?_, fun e => ?_⟩
  · have := congrArg TL.tl e
    rw [h] at this
    exact (List.cons.inj this).1
  · subst e
    exact tl_inj h.symm
end RL

set_option Elab.async false
set_option linter.all false
set_option maxRecDepth 100000
set_option maxHeartbeats 4000000
namespace RL
open PySem PySem.Spec PyProof.Rows L2 CwR
open Rep (rep)
/-! ### tuples of three to five; objects of own classes -/
instance {α β γ : Type} [Rep α] [Rep β] [Rep γ] [Dat α] [Dat β] [Dat γ] : Dat (T3 α β γ) := ⟨fun t => .tuple [Dat.d t.a, Dat.d t.b, Dat.d t.c], fun {K H t v G} s h => by
  obtain ⟨i, x, y, z, ev, hA, ka, kb, kc⟩ := h
  rw [ev]
  exact .tup (sqT_mono s hA) (.cons (Dat.dp s ka) (.cons (Dat.dp s kb) (.cons (Dat.dp s kc) .nil)))⟩
section
variable [Tb] {α β γ : Type} [Rep α] [Rep β] [Rep γ] {K : PySem.W.Frag} {σ : L2.St} {G : Hp} {te tx ty tz : TE}
theorem ev_tup3 {x : α} {y : β} {z : γ} (hx : EvR K tx σ G x) (hy : EvR K ty σ G y) (hz : EvR K tz σ G z) : EvR K (tTup (tCons tx (tCons ty (tCons tz tNil)))) σ G (T3.mk x y z) := fun H e Q q =>
  hx H e _ fun vx G1 H1 g1 rx => (hy.mono g1.g) H1 g1.s _ fun vy G2 H2 g2 ry => (hz.mono (g1.g.trans g2.g)) H2 g2.s _ fun vz G3 H3 g3 rz => ⟨by show 3 ≤ sizeLine; decide, fun p hp => q _ _ _ (((g1.trans g2).trans g3).trans (Grow.new g3.s hp)) ⟨p, vx, vy, vz, rfl, SqT.of upd_same, (up (same_upd (g3.s.free hp)) (up g3.g (up g2.g rx))), (up (same_upd (g3.s.free hp)) (up g3.g ry)), (up (same_upd (g3.s.free hp)) rz)⟩⟩
theorem ev_ix30 {t : T3 α β γ} (ha : EvR K te σ G t) : EvR K (tOp (rIxT K) te (tC (.int 0))) σ G t.a :=
  ev_op (y := (0 : Int)) ha ev_int fun v w G1 H1 _ s ⟨i, x, y, z, ev, hA, ka, kb, kc⟩ hw Q q => ⟨i, [x, y, z], 0, x, ev, hw, sqT_mono s.get hA, rfl, q x G1 H1 (Grow.refl s) ka⟩
theorem ev_ix31 {t : T3 α β γ} (ha : EvR K te σ G t) : EvR K (tOp (rIxT K) te (tC (.int 1))) σ G t.b :=
  ev_op (y := (1 : Int)) ha ev_int fun v w G1 H1 _ s ⟨i, x, y, z, ev, hA, ka, kb, kc⟩ hw Q q => ⟨i, [x, y, z], 1, y, ev, hw, sqT_mono s.get hA, rfl, q y G1 H1 (Grow.refl s) kb⟩
theorem ev_ix32 {t : T3 α β γ} (ha : EvR K te σ G t) : EvR K (tOp (rIxT K) te (tC (.int 2))) σ G t.c :=
  ev_op (y := (2 : Int)) ha ev_int fun v w G1 H1 _ s ⟨i, x, y, z, ev, hA, ka, kb, kc⟩ hw Q q => ⟨i, [x, y, z], 2, z, ev, hw, sqT_mono s.get hA, rfl, q z G1 H1 (Grow.refl s) kc⟩
end
structure T4 (α β γ δ : Type) where
  a : α
  b : β
  c : γ
  d : δ
instance {α β γ δ : Type} [Rep α] [Rep β] [Rep γ] [Rep δ] : Rep (T4 α β γ δ) := ⟨fun K t v G => ∃ i x y z u, v = .ref i ∧ SqT K G i [x, y, z, u] ∧ rep K t.a x G ∧ rep K t.b y G ∧ rep K t.c z G ∧ rep K t.d u G,
  fun e ⟨i, x, y, z, u, h0, h1, ka, kb, kc, kd⟩ => ⟨i, x, y, z, u, h0, sqT_monoD e h1, upd' e ka, upd' e kb, upd' e kc, upd' e kd⟩⟩
instance {α β γ δ : Type} [Rep α] [Rep β] [Rep γ] [Rep δ] [Dat α] [Dat β] [Dat γ] [Dat δ] : Dat (T4 α β γ δ) := ⟨fun t => .tuple [Dat.d t.a, Dat.d t.b, Dat.d t.c, Dat.d t.d], fun {K H t v G} s h => by
  obtain ⟨i, x, y, z, u, ev, hA, ka, kb, kc, kd⟩ := h
  rw [ev]
  exact .tup (sqT_mono s hA) (.cons (Dat.dp s ka) (.cons (Dat.dp s kb) (.cons (Dat.dp s kc) (.cons (Dat.dp s kd) .nil))))⟩
section
variable [Tb] {α β γ δ : Type} [Rep α] [Rep β] [Rep γ] [Rep δ] {K : PySem.W.Frag} {σ : L2.St} {G : Hp} {te tx ty tz tu : TE}
theorem ev_tup4 {x : α} {y : β} {z : γ} {u : δ} (hx : EvR K tx σ G x) (hy : EvR K ty σ G y) (hz : EvR K tz σ G z) (hu : EvR K tu σ G u) : EvR K (tTup (tCons tx (tCons ty (tCons tz (tCons tu tNil))))) σ G (T4.mk x y z u) := fun H e Q q =>
  hx H e _ fun vx G1 H1 g1 rx => (hy.mono g1.g) H1 g1.s _ fun vy G2 H2 g2 ry => (hz.mono (g1.g.trans g2.g)) H2 g2.s _ fun vz G3 H3 g3 rz => (hu.mono ((g1.g.trans g2.g).trans g3.g)) H3 g3.s _ fun vu G4 H4 g4 ru => ⟨by show 4 ≤ sizeLine; decide, fun p hp => q _ _ _ ((((g1.trans g2).trans g3).trans g4).trans (Grow.new g4.s hp)) ⟨p, vx, vy, vz, vu, rfl, SqT.of upd_same, (up (same_upd (g4.s.free hp)) (up g4.g (up g3.g (up g2.g rx)))), (up (same_upd (g4.s.free hp)) (up g4.g (up g3.g ry))), (up (same_upd (g4.s.free hp)) (up g4.g rz)), (up (same_upd (g4.s.free hp)) ru)⟩⟩
theorem ev_ix40 {t : T4 α β γ δ} (ha : EvR K te σ G t) : EvR K (tOp (rIxT K) te (tC (.int 0))) σ G t.a :=
  ev_op (y := (0 : Int)) ha ev_int fun v w G1 H1 _ s ⟨i, x, y, z, u, ev, hA, ka, kb, kc, kd⟩ hw Q q => ⟨i, [x, y, z, u], 0, x, ev, hw, sqT_mono s.get hA, rfl, q x G1 H1 (Grow.refl s) ka⟩
theorem ev_ix41 {t : T4 α β γ δ} (ha : EvR K te σ G t) : EvR K (tOp (rIxT K) te (tC (.int 1))) σ G t.b :=
  ev_op (y := (1 : Int)) ha ev_int fun v w G1 H1 _ s ⟨i, x, y, z, u, ev, hA, ka, kb, kc, kd⟩ hw Q q => ⟨i, [x, y, z, u], 1, y, ev, hw, sqT_mono s.get hA, rfl, q y G1 H1 (Grow.refl s) kb⟩
theorem ev_ix42 {t : T4 α β γ δ} (ha : EvR K te σ G t) : EvR K (tOp (rIxT K) te (tC (.int 2))) σ G t.c :=
  ev_op (y := (2 : Int)) ha ev_int fun v w G1 H1 _ s ⟨i, x, y, z, u, ev, hA, ka, kb, kc, kd⟩ hw Q q => ⟨i, [x, y, z, u], 2, z, ev, hw, sqT_mono s.get hA, rfl, q z G1 H1 (Grow.refl s) kc⟩
theorem ev_ix43 {t : T4 α β γ δ} (ha : EvR K te σ G t) : EvR K (tOp (rIxT K) te (tC (.int 3))) σ G t.d :=
  ev_op (y := (3 : Int)) ha ev_int fun v w G1 H1 _ s ⟨i, x, y, z, u, ev, hA, ka, kb, kc, kd⟩ hw Q q => ⟨i, [x, y, z, u], 3, u, ev, hw, sqT_mono s.get hA, rfl, q u G1 H1 (Grow.refl s) kd⟩
end
structure T5 (α β γ δ ε : Type) where
  a : α
  b : β
  c : γ
  d : δ
  e : ε
instance {α β γ δ ε : Type} [Rep α] [Rep β] [Rep γ] [Rep δ] [Rep ε] : Rep (T5 α β γ δ ε) := ⟨fun K t v G => ∃ i x y z u w, v = .ref i ∧ SqT K G i [x, y, z, u, w] ∧ rep K t.a x G ∧ rep K t.b y G ∧ rep K t.c z G ∧ rep K t.d u G ∧ rep K t.e w G,
  fun e ⟨i, x, y, z, u, w, h0, h1, ka, kb, kc, kd, ke⟩ => ⟨i, x, y, z, u, w, h0, sqT_monoD e h1, upd' e ka, upd' e kb, upd' e kc, upd' e kd, upd' e ke⟩⟩
instance {α β γ δ ε : Type} [Rep α] [Rep β] [Rep γ] [Rep δ] [Rep ε] [Dat α] [Dat β] [Dat γ] [Dat δ] [Dat ε] : Dat (T5 α β γ δ ε) := ⟨fun t => .tuple [Dat.d t.a, Dat.d t.b, Dat.d t.c, Dat.d t.d, Dat.d t.e], fun {K H t v G} s h => by
  obtain ⟨i, x, y, z, u, w, ev, hA, ka, kb, kc, kd, ke⟩ := h
  rw [ev]
  exact .tup (sqT_mono s hA) (.cons (Dat.dp s ka) (.cons (Dat.dp s kb) (.cons (Dat.dp s kc) (.cons (Dat.dp s kd) (.cons (Dat.dp s ke) .nil)))))⟩
section
variable [Tb] {α β γ δ ε : Type} [Rep α] [Rep β] [Rep γ] [Rep δ] [Rep ε] {K : PySem.W.Frag} {σ : L2.St} {G : Hp} {te tx ty tz tu tw : TE}
theorem ev_tup5 {x : α} {y : β} {z : γ} {u : δ} {w : ε} (hx : EvR K tx σ G x) (hy : EvR K ty σ G y) (hz : EvR K tz σ G z) (hu : EvR K tu σ G u) (hw : EvR K tw σ G w) : EvR K (tTup (tCons tx (tCons ty (tCons tz (tCons tu (tCons tw tNil)))))) σ G (T5.mk x y z u w) := fun H e Q q =>
  hx H e _ fun vx G1 H1 g1 rx => (hy.mono g1.g) H1 g1.s _ fun vy G2 H2 g2 ry => (hz.mono (g1.g.trans g2.g)) H2 g2.s _ fun vz G3 H3 g3 rz => (hu.mono ((g1.g.trans g2.g).trans g3.g)) H3 g3.s _ fun vu G4 H4 g4 ru => (hw.mono (((g1.g.trans g2.g).trans g3.g).trans g4.g)) H4 g4.s _ fun vw G5 H5 g5 rw => ⟨by show 5 ≤ sizeLine; decide, fun p hp => q _ _ _ (((((g1.trans g2).trans g3).trans g4).trans g5).trans (Grow.new g5.s hp)) ⟨p, vx, vy, vz, vu, vw, rfl, SqT.of upd_same, (up (same_upd (g5.s.free hp)) (up g5.g (up g4.g (up g3.g (up g2.g rx))))), (up (same_upd (g5.s.free hp)) (up g5.g (up g4.g (up g3.g ry)))), (up (same_upd (g5.s.free hp)) (up g5.g (up g4.g rz))), (up (same_upd (g5.s.free hp)) (up g5.g ru)), (up (same_upd (g5.s.free hp)) rw)⟩⟩
theorem ev_ix50 {t : T5 α β γ δ ε} (ha : EvR K te σ G t) : EvR K (tOp (rIxT K) te (tC (.int 0))) σ G t.a :=
  ev_op (y := (0 : Int)) ha ev_int fun v w G1 H1 _ s ⟨i, x, y, z, u, w, ev, hA, ka, kb, kc, kd, ke⟩ hw Q q => ⟨i, [x, y, z, u, w], 0, x, ev, hw, sqT_mono s.get hA, rfl, q x G1 H1 (Grow.refl s) ka⟩
theorem ev_ix51 {t : T5 α β γ δ ε} (ha : EvR K te σ G t) : EvR K (tOp (rIxT K) te (tC (.int 1))) σ G t.b :=
  ev_op (y := (1 : Int)) ha ev_int fun v w G1 H1 _ s ⟨i, x, y, z, u, w, ev, hA, ka, kb, kc, kd, ke⟩ hw Q q => ⟨i, [x, y, z, u, w], 1, y, ev, hw, sqT_mono s.get hA, rfl, q y G1 H1 (Grow.refl s) kb⟩
theorem ev_ix52 {t : T5 α β γ δ ε} (ha : EvR K te σ G t) : EvR K (tOp (rIxT K) te (tC (.int 2))) σ G t.c :=
  ev_op (y := (2 : Int)) ha ev_int fun v w G1 H1 _ s ⟨i, x, y, z, u, w, ev, hA, ka, kb, kc, kd, ke⟩ hw Q q => ⟨i, [x, y, z, u, w], 2, z, ev, hw, sqT_mono s.get hA, rfl, q z G1 H1 (Grow.refl s) kc⟩
theorem ev_ix53 {t : T5 α β γ δ ε} (ha : EvR K te σ G t) : EvR K (tOp (rIxT K) te (tC (.int 3))) σ G t.d :=
  ev_op (y := (3 : Int)) ha ev_int fun v w G1 H1 _ s ⟨i, x, y, z, u, w, ev, hA, ka, kb, kc, kd, ke⟩ hw Q q => ⟨i, [x, y, z, u, w], 3, u, ev, hw, sqT_mono s.get hA, rfl, q u G1 H1 (Grow.refl s) kd⟩
theorem ev_ix54 {t : T5 α β γ δ ε} (ha : EvR K te σ G t) : EvR K (tOp (rIxT K) te (tC (.int 4))) σ G t.e :=
  ev_op (y := (4 : Int)) ha ev_int fun v w G1 H1 _ s ⟨i, x, y, z, u, w, ev, hA, ka, kb, kc, kd, ke⟩ hw Q q => ⟨i, [x, y, z, u, w], 4, w, ev, hw, sqT_mono s.get hA, rfl, q w G1 H1 (Grow.refl s) ke⟩
end
/-! ### objects: what is told of the instance at a may be replaced -/
theorem nd_ins {C dx : Addr} {fs : List (Str × V)} : ¬ dataO (.ins C dx fs) := fun h => h
theorem nt_ins {C dx : Addr} {fs : List (Str × V)} : noTb (.ins C dx fs) := fun q z => by cases z
theorem nt_own {a : Addr} : noTb (.own a) := fun q z => by cases z
section
variable [Tb]
structure GrowM (a : Addr) (G H G' H' : Hp) : Prop where
  g : ∀ b o, G b = some o → b ≠ a → G' b = some o
  d : SameD G G'
  s : Sub G' H'
  k : ∀ b o, H b = some o → noTb o → b ≠ a → H' b = some o
  fr : ∀ b, H' b = none → H b = none
  f : ∀ b o, H b = some o → G b = none → G' b = none
variable {a : Addr} {G H G' H' G1 H1 G2 H2 Ge He : Hp}
theorem Grow.toM (g : Grow G H G' H') : GrowM a G H G' H' := ⟨fun b o h _ => g.g b o h, same_d g.g, g.s, fun b o h n _ => g.h.k b o h n, g.h.fr, g.f⟩
theorem GrowM.none (m : GrowM a G H G' H') {b : Addr} {o : HO} (h : H b = some o) : ∃ u, H' b = some u := by
  cases q : H' b with
  | none => rw [m.fr b q] at h; cases h
  | some u => exact ⟨u, rfl⟩
theorem GrowM.next (m : GrowM a G H G1 H1) (k : GrowM a G1 H1 G2 H2) : GrowM a G H G2 H2 :=
  ⟨fun b o h n => k.g b o (m.g b o h n) n, m.d.trans k.d, k.s, fun b o h t n => k.k b o (m.k b o h t n) t n, fun b h => m.fr b (k.fr b h), fun b o h n => by
    obtain ⟨u, e⟩ := m.none h
    exact k.f b u e (m.f b o h n)⟩
theorem GrowM.trans (m : GrowM a G H G1 H1) (g : Grow G1 H1 G2 H2) : GrowM a G H G2 H2 := m.next g.toM
theorem Grow.m (g : Grow G H G1 H1) (k : GrowM a G1 H1 G2 H2) : GrowM a G H G2 H2 := (g.toM (a := a)).next k
/-- the instance is not known to the def's entry -/
theorem Grow.mutM (gr : Grow Ge He G H) (hF : He a = none) (hE : Ge a = none) (m : GrowM a G H G' H') : Grow Ge He G' H' :=
  ⟨fun b o h => m.g b o (gr.g b o h) (ne_of_none h hE), m.s, ⟨fun b o h n => m.k b o (gr.h.k b o h n) n (ne_of_none h hF), fun b h => gr.h.fr b (m.fr b h)⟩, fun b o h n => by
    obtain ⟨u, e⟩ := gr.h.none h
    exact m.f b u e (gr.f b o h n)⟩
theorem wr_own {o o' : HO} (s : Sub G H) (h : G a = some o) (nd : ¬ dataO o) (nt : noTb o') : GrowM a G H (upd G a o') (upd H a o') := by
  have hH := s.m a o h
  refine ⟨fun b u e n => by rw [upd_ne n]; exact e, fun b u e d => ?_, ⟨fun b u e => ?_, fun P hP => tab_mut (s.t P hP) fun q z => ?_⟩, fun b u e _ n => by rw [upd_ne n]; exact e, fun b e => ?_, fun b u e n => ?_⟩
  · by_cases hb : b = a
    · rw [hb, h] at e
      cases e
      exact absurd d nd
    · rw [upd_ne hb]; exact e
  · by_cases hb : b = a
    · subst hb
      rw [upd_same] at e ⊢
      cases e
      exact ⟨rfl, nt⟩
    · rw [upd_ne hb] at e ⊢
      exact s.m b u e
  · rw [hH.1] at z
    cases z
    exact hH.2 q rfl
  · by_cases hb : b = a
    · rw [hb, upd_same] at e
      cases e
    · rw [upd_ne hb] at e
      exact e
  · by_cases hb : b = a
    · rw [hb, h] at n
      cases n
    · rw [upd_ne hb]; exact n
/-- a new instance: its dict and itself -/
theorem new_ins {C x dx : Addr} (e : Sub G H) (hx : H x = none) (hd : H dx = none) (ne : dx ≠ x) : Grow G H (upd (upd G dx (.own x)) x (.ins C dx [])) (upd (upd H dx (.own x)) x (.ins C dx [])) :=
  (Grow.new e hd nt_own).trans (Grow.new (sub_updB e hd nt_own) (by rw [upd_ne (Ne.symm ne)]; exact hx) nt_ins)
end
/-! ### reading and writing a field, making, methods -/
section
variable [Tb] {α β γ ρ S : Type} [Rep α] [Rep β] [Rep γ] [Rep ρ] {K : PySem.W.Frag} {σ : L2.St} {G H : Hp} {te ta tb tc : TE} {D : Ends} {tz : TS} {x : α} {y : β} {i j : Nat} {a dx C : Addr} {fs : List (Str × V)} {f m : Str} {w : V} {E : XK} {s : S} {Q : VK}
theorem ev_fld (hi : σ[i]? = some (some (.ref a))) (hG : G a = some (.ins C dx fs)) (c : Cls K C) (n : NoAttr K C f) (l : fs.lookup f = some w) (r : rep K x w G) : EvR K (tFld K (tVar i) f) σ G x := fun H e Q q =>
  ⟨_, hi, a, C, dx, fs, w, rfl, e _ _ hG, c, n, l, q w G H (Grow.refl e) r⟩
theorem s_fld (e : Sub G H) (h : EvR K te σ G x) (hi : σ[i]? = some (some (.ref a))) (hG : G a = some (.ins C dx fs)) (c : Cls K C) (n : NoAttr K C f) (l : fs.length < 1000)
    (k : ∀ w G1 H1, Grow G H G1 H1 → rep K x w G1 → ∀ G2 H2, GrowM a G1 H1 G2 H2 → G2 a = some (.ins C dx (putF f w fs)) → rep K x w G2 → D.nx σ H2) : sFld K (tVar i) te f D σ H :=
  h H e _ fun w G1 H1 g1 r1 => by
    have hG1 := g1.g _ _ hG
    have gm : GrowM a G1 H1 (upd G1 a (.ins C dx (putF f w fs))) (upd H1 a (.ins C dx (putF f w fs))) := wr_own g1.s hG1 nd_ins nt_ins
    exact ⟨_, hi, a, C, dx, fs, rfl, g1.s _ _ hG1, c, n, l, k w G1 H1 g1 r1 _ _ gm upd_same (upd' gm.d r1)⟩
theorem q_fld (e : Sub G H) (h : EvR K te σ G x) (hi : σ[i]? = some (some (.ref a))) (hG : G a = some (.ins C dx fs)) (c : Cls K C) (n : NoAttr K C f) (l : fs.length < 1000)
    (k : ∀ w G1 H1, Grow G H G1 H1 → rep K x w G1 → ∀ G2 H2, GrowM a G1 H1 G2 H2 → G2 a = some (.ins C dx (putF f w fs)) → rep K x w G2 → tz D σ H2) : tSeq (sFld K (tVar i) te f) tz D σ H :=
  s_fld (D := { D with nx := tz D }) e h hi hG c n l k
/-- what a kind of objects is known by: the fields' values stand in G -/
structure ObP (C : Addr) (Ob : S → Addr → Addr → Hp → Prop) : Prop where
  up : ∀ {s a dx G G'}, Same G G' → Ob s a dx G → Ob s a dx G'
  ins : ∀ {s a dx G}, Ob s a dx G → ∃ fs, G a = some (.ins C dx fs)
def spi0 (Ob : S → Addr → Addr → Hp → Prop) (C : Addr) (s : S) : Sp := fun vs H Q _ => ∃ a dx G, vs = [.ref a] ∧ Sub G H ∧ G a = some (.ins C dx []) ∧ G dx = some (.own a) ∧ ∀ G' H', GrowM a G H G' H' → Ob s a dx G' → Q .non H'
def spi1 (K : PySem.W.Frag) (Ob : S → Addr → Addr → Hp → Prop) (C : Addr) (pre : α → Prop) (f : α → S) : Sp := fun vs H Q _ => ∃ a dx x w G, vs = [.ref a, w] ∧ Sub G H ∧ G a = some (.ins C dx []) ∧ G dx = some (.own a) ∧ rep K x w G ∧ pre x ∧ ∀ G' H', GrowM a G H G' H' → Ob (f x) a dx G' → Q .non H'
def spr0 (K : PySem.W.Frag) (Ob : S → Addr → Addr → Hp → Prop) (pre : S → Prop) (f : S → ρ) : Sp := fun vs H Q _ => ∃ s a dx G, vs = [.ref a] ∧ Sub G H ∧ Ob s a dx G ∧ pre s ∧ ∀ u G' H', Grow G H G' H' → rep K (f s) u G' → Q u H'
def spr1 (K : PySem.W.Frag) (Ob : S → Addr → Addr → Hp → Prop) (pre : S → α → Prop) (f : S → α → ρ) : Sp := fun vs H Q _ => ∃ s a dx x w G, vs = [.ref a, w] ∧ Sub G H ∧ Ob s a dx G ∧ rep K x w G ∧ pre s x ∧ ∀ u G' H', Grow G H G' H' → rep K (f s x) u G' → Q u H'
def spm0 (K : PySem.W.Frag) (Ob : S → Addr → Addr → Hp → Prop) (pre : S → Prop) (f : S → ρ × S) : Sp := fun vs H Q _ => ∃ s a dx G, vs = [.ref a] ∧ Sub G H ∧ Ob s a dx G ∧ pre s ∧ ∀ u G' H', GrowM a G H G' H' → Ob (f s).2 a dx G' → rep K (f s).1 u G' → Q u H'
def spm1 (K : PySem.W.Frag) (Ob : S → Addr → Addr → Hp → Prop) (pre : S → α → Prop) (f : S → α → ρ × S) : Sp := fun vs H Q _ => ∃ s a dx x w G, vs = [.ref a, w] ∧ Sub G H ∧ Ob s a dx G ∧ rep K x w G ∧ pre s x ∧ ∀ u G' H', GrowM a G H G' H' → Ob (f s x).2 a dx G' → rep K (f s x).1 u G' → Q u H'
def spm2 (K : PySem.W.Frag) (Ob : S → Addr → Addr → Hp → Prop) (pre : S → α → β → Prop) (f : S → α → β → ρ × S) : Sp := fun vs H Q _ => ∃ s a dx x y w v G, vs = [.ref a, w, v] ∧ Sub G H ∧ Ob s a dx G ∧ rep K x w G ∧ rep K y v G ∧ pre s x y ∧ ∀ u G' H', GrowM a G H G' H' → Ob (f s x y).2 a dx G' → rep K (f s x y).1 u G' → Q u H'
/-- .. that may raise the error of the class at X, with the field what; the object is as it was then -/
def spmx1 (K : PySem.W.Frag) (X : Addr) (fl : Str) (Ob : S → Addr → Addr → Hp → Prop) (pre : S → α → Prop) (f : S → α → Except Str (ρ × S)) : Sp := fun vs H Q E => ∃ s a dx x w G, vs = [.ref a, w] ∧ Sub G H ∧ Ob s a dx G ∧ rep K x w G ∧ pre s x ∧
  (∀ y, f s x = .ok y → ∀ u G' H', GrowM a G H G' H' → Ob y.2 a dx G' → rep K y.1 u G' → Q u H') ∧ ∀ z, f s x = .error z → ErrAt X fl (.str z) H E
def spmx2 (K : PySem.W.Frag) (X : Addr) (fl : Str) (Ob : S → Addr → Addr → Hp → Prop) (pre : S → α → β → Prop) (f : S → α → β → Except Str (ρ × S)) : Sp := fun vs H Q E => ∃ s a dx x y w v G, vs = [.ref a, w, v] ∧ Sub G H ∧ Ob s a dx G ∧ rep K x w G ∧ rep K y v G ∧ pre s x y ∧
  (∀ r, f s x y = .ok r → ∀ u G' H', GrowM a G H G' H' → Ob r.2 a dx G' → rep K r.1 u G' → Q u H') ∧ ∀ z, f s x y = .error z → ErrAt X fl (.str z) H E
/-- x = C() -/
theorem s_make0 {Ob : S → Addr → Addr → Hp → Prop} {Ge He : Hp} (gr : Grow Ge He G H) (k : ∀ a dx G' H', He a = none → Ge a = none → Grow Ge He G' H' → Grow G H G' H' → Ob s a dx G' → D.nx (σ.set i (some (.ref a))) H') : tAsg (tMake C (spi0 Ob C s) [] E tNil) (gName i) D σ H := by
  intro x dx hx hd ne
  have g1 := new_ins (C := C) gr.s hx hd ne
  refine ⟨x, dx, _, rfl, g1.s, upd_same, by rw [upd_ne ne, upd_same], fun G' H' gm ob => ⟨rfl, ?_⟩⟩
  have hF : He x = none := gr.h.free hx
  have hE : Ge x = none := by
    cases q : Ge x with
    | none => rfl
    | some o =>
      have := gr.s _ _ (gr.g _ _ q)
      rw [hx] at this
      cases this
  exact k x dx G' H' hF hE ((gr.trans g1).mutM hF hE gm) (g1.mutM hx (gr.s.free hx) gm) ob
theorem q_make0 {Ob : S → Addr → Addr → Hp → Prop} {Ge He : Hp} (gr : Grow Ge He G H) (k : ∀ a dx G' H', He a = none → Ge a = none → Grow Ge He G' H' → Grow G H G' H' → Ob s a dx G' → tz D (σ.set i (some (.ref a))) H') : tSeq (tAsg (tMake C (spi0 Ob C s) [] E tNil) (gName i)) tz D σ H :=
  s_make0 (D := { D with nx := tz D }) gr k
/-- o.m(), o.m(e): the object stays -/
theorem ev_methR0 {Ob : S → Addr → Addr → Hp → Prop} {pre : S → Prop} {f : S → ρ} (hi : σ[i]? = some (some (.ref a))) (P : ObP C Ob) (ob : Ob s a dx G) (hm : ∀ fs, G a = some (.ins C dx fs) → fs.lookup m = none) (hp : pre s) : EvR K (tMeth C m (spr0 K Ob pre f) [] E (tVar i) tNil) σ G (f s) := fun H e Q q => by
  obtain ⟨fs, hG⟩ := P.ins ob
  exact ⟨_, hi, a, dx, fs, rfl, e _ _ hG, hm fs hG, s, a, dx, G, rfl, e, ob, hp, q⟩
theorem ev_methR1 {Ob : S → Addr → Addr → Hp → Prop} {pre : S → α → Prop} {f : S → α → ρ} (hi : σ[i]? = some (some (.ref a))) (P : ObP C Ob) (ob : Ob s a dx G) (hm : ∀ fs, G a = some (.ins C dx fs) → fs.lookup m = none) (ha : EvR K ta σ G x) (hp : pre s x) : EvR K (tMeth C m (spr1 K Ob pre f) [] E (tVar i) (tCons ta tNil)) σ G (f s x) := fun H e Q q => by
  obtain ⟨fs, hG⟩ := P.ins ob
  exact ⟨_, hi, a, dx, fs, rfl, e _ _ hG, hm fs hG, ha H e _ fun v G1 H1 g1 r1 => ⟨s, a, dx, x, v, G1, rfl, g1.s, P.up g1.g ob, r1, hp, fun u G2 H2 g2 r2 => q u G2 H2 (g1.trans g2) r2⟩⟩
/-- f(o, e): the object may change -/
theorem x_callM1 {Ob : S → Addr → Addr → Hp → Prop} {pre : S → α → Prop} {f : S → α → ρ × S} (e : Sub G H) (hi : σ[i]? = some (some (.ref a))) (up : ∀ {G G' : Hp}, Same G G' → Ob s a dx G → Ob s a dx G') (ob : Ob s a dx G) (ha : EvR K ta σ G x) (hp : pre s x)
    (k : ∀ u G' H', GrowM a G H G' H' → Ob (f s x).2 a dx G' → rep K (f s x).1 u G' → Q u H') : tCall (spm1 K Ob pre f) [] E (tCons (tVar i) (tCons ta tNil)) σ H Q :=
  ⟨_, hi, ha H e _ fun v G1 H1 g1 r1 => ⟨s, a, dx, x, v, G1, rfl, g1.s, up g1.g ob, r1, hp, fun u G2 H2 g2 o2 r2 => k u G2 H2 (g1.m g2) o2 r2⟩⟩
/-- an if whose test may change objects -/
theorem s_ifX {tt : TT} {t u : TS} (h : tt σ H fun b H2 => if b = true then t D σ H2 else u D σ H2) : tIfS tt t u D σ H := h
theorem q_ifX {tt : TT} {t u : TS} (h : tt σ H fun b H2 => if b = true then t { D with nx := tz D } σ H2 else u { D with nx := tz D } σ H2) : tSeq (tIfS tt t u) tz D σ H := h
theorem x_or {t u : TT} {Qt : Bool → Hp → Prop} (h : t σ H fun c H2 => if c = true then Qt true H2 else u σ H2 Qt) : tOr t u σ H Qt := h
theorem xT {b : Bool} {A B : Prop} (hb : b = true) (h : A) : if b = true then A else B := by
  rw [if_pos hb]
  exact h
theorem xF {b : Bool} {A B : Prop} (hb : b = false) (h : B) : if b = true then A else B := by
  rw [hb]
  exact h
/-- f(o, e) != d -/
theorem x_neM1 {δ : Type} [Rep δ] [DecidableEq δ] [Flat δ] {Ob : S → Addr → Addr → Hp → Prop} {pre : S → α → Prop} {f : S → α → δ × S} {Qt : Bool → Hp → Prop} (e : Sub G H) (hi : σ[i]? = some (some (.ref a))) (up : ∀ {G G' : Hp}, Same G G' → Ob s a dx G → Ob s a dx G') (ob : Ob s a dx G) (ha : EvR K ta σ G x) (hp : pre s x)
    (k : ∀ u G2 H2, GrowM a G H G2 H2 → Ob (f s x).2 a dx G2 → rep K (f s x).1 u G2 → ∃ q : δ, rep K (f s x).1 u G2 ∧ EvR K tb σ G2 q ∧ ∀ G3 H3, Grow G2 H2 G3 H3 → Qt (!eqB (f s x).1 q) H3) :
    tTest (tOp rNe (tCall (spm1 K Ob pre f) [] E (tCons (tVar i) (tCons ta tNil))) tb) σ H Qt :=
  x_callM1 e hi up ob ha hp fun u G2 H2 gm o2 r2 => by
    obtain ⟨q, rv, ev, kk⟩ := k u G2 H2 gm o2 r2
    refine ev H2 gm.s _ fun v G3 H3 g3 rq => ?_
    rw [Flat.eq.mp rv, Flat.eq.mp rq]
    refine ⟨Flat.sc _ q, _, rfl, ?_⟩
    rw [Flat.inj _ q]
    exact kk G3 H3 g3
/-- x, y = e -/
theorem s_asg2 {x : α × β} (e : Sub G H) (h : EvR K te σ G x) (n : ∀ u v G2 H2, Grow G H G2 H2 → rep K x.1 u G2 → rep K x.2 v G2 → D.nx ((σ.set i (some u)).set j (some v)) H2) : tAsg te (gTup K 2 (gCons (gName i) (gCons (gName j) gNil))) D σ H :=
  h H e _ fun t G1 H1 g1 ⟨b, u, v, et, hA, r1, r2⟩ => ⟨b, [u, v], et, sqT_mono g1.s.get hA, rfl, u, [v], rfl, v, [], rfl, rfl, n u v G1 H1 g1 r1 r2⟩
theorem q_asg2 {x : α × β} (e : Sub G H) (h : EvR K te σ G x) (n : ∀ u v G2 H2, Grow G H G2 H2 → rep K x.1 u G2 → rep K x.2 v G2 → tz D ((σ.set i (some u)).set j (some v)) H2) : tSeq (tAsg te (gTup K 2 (gCons (gName i) (gCons (gName j) gNil)))) tz D σ H :=
  s_asg2 (D := { D with nx := tz D }) e h n
/-- x, y = d, e: the pair itself is not tracked -/
theorem s_par (e : Sub G H) (ha : EvR K ta σ G x) (hb : EvR K tb σ G y) (n : ∀ u v G2 H2, Grow G H G2 H2 → rep K x u G2 → rep K y v G2 → D.nx ((σ.set i (some u)).set j (some v)) H2) : tPar i j (tCons ta (tCons tb tNil)) D σ H :=
  ha H e _ fun u G1 H1 g1 r1 => (hb.mono g1.g) H1 g1.s _ fun v G2 H2 g2 r2 => ⟨u, v, rfl, n u v G2 H2 (g1.trans g2) (up g2.g r1) r2⟩
theorem q_par (e : Sub G H) (ha : EvR K ta σ G x) (hb : EvR K tb σ G y) (n : ∀ u v G2 H2, Grow G H G2 H2 → rep K x u G2 → rep K y v G2 → tz D ((σ.set i (some u)).set j (some v)) H2) : tSeq (tPar i j (tCons ta (tCons tb tNil))) tz D σ H :=
  s_par (D := { D with nx := tz D }) e ha hb n
/-- == of lists of texts -/
theorem dp_lst {l : List Str} {v : V} (e : Sub G H) (h : rep K l v G) : Dp K H v (.list (l.map PyData.str)) := by
  obtain ⟨b, xs, ev, hA, r⟩ := h
  have e1 := reps_flat r
  subst e1
  rw [ev]
  exact .lst (SqL.of (e _ _ hA)) (dp_texts l)
theorem shaped_list {l : List Str} (h : TOk l) : SeqAt.shaped (.list (l.map PyData.str)) = true := shaped_texts h
theorem ev_eqLS {l n : List Str} (ha : EvR K ta σ G l) (hb : EvR K tb σ G n) (hl : TOk l ∧ TOk n) : EvR K (tOp (rEqD K) ta tb) σ G (eqB l n) :=
  ev_op ha hb fun v w G1 H1 _ e hv hw Q q => ⟨_, _, dp_lst e hv, dp_lst e hw, shaped_list hl.1, shaped_list hl.2, by
    rw [show PyData.eqv (.list (l.map PyData.str)) (.list (n.map PyData.str)) = PyData.eqvAll (l.map PyData.str) (n.map PyData.str) from rfl, eqv_texts]
    exact q _ G1 H1 (Grow.refl e) rfl⟩
theorem ev_neLS {l n : List Str} (ha : EvR K ta σ G l) (hb : EvR K tb σ G n) (hl : TOk l ∧ TOk n) : EvR K (tOp (rNeD K) ta tb) σ G (!eqB l n) :=
  ev_op ha hb fun v w G1 H1 _ e hv hw Q q => ⟨_, _, dp_lst e hv, dp_lst e hw, shaped_list hl.1, shaped_list hl.2, by
    rw [show PyData.eqv (.list (l.map PyData.str)) (.list (n.map PyData.str)) = PyData.eqvAll (l.map PyData.str) (n.map PyData.str) from rfl, eqv_texts]
    exact q _ G1 H1 (Grow.refl e) rfl⟩
end
/-! a method of an instance, called in the suite of a try: its error is wished for at the slots -/
def tMethT (C : Addr) (m : Str) (sp : Sp) (E : L2.St → XK) (to : TE) (ts : TA) : TE := fun σ H Q =>
  to σ H fun o H1 => ∃ b d fl, o = .ref b ∧ H1 b = some (.ins C d fl) ∧ fl.lookup m = none ∧ ts σ H1 fun ws H2 => sp (o :: ws) H2 Q (E σ)
theorem pe_methT {X : Cx} {CX : CXT} {lv : Nat} {fa C : Addr} {fd : FuncData} {ps : List Str} {sp : Sp} {E : L2.St → XK} {m : Str} {p0 p1 : Pos} {ob ar : Expr} {more : List Expr} {to : TE} {ts : TA} {pl : Sem Bool}
    (ho : PE X ob to) (cl : Cls X.K C) (me : Meth X.K C m fa) (F : FnOk X.prog X.w X.K X.mg X.base CX lv fa fd ps sp) (room : Room lv X.A) (bi : Binds X.K fd ps []) (pass : ∀ σ, PassesAt CX X σ (E σ)) (hargs : PA X (ar :: more) ts)
    (st1 : starEach (ar :: more) X.env = (false, eval ar X.env) :: starEach more X.env := by rfl) (st2 : (backTo p0 (starEach more X.env)).any (·.1) = false := by rfl)
    (how : eval (.Call (.Attribute ob m p1) (ar :: more) [] p0) X.env = (do
      let o ← eval ob X.env
      standAt p1.atName
      let (g, pre) ← holding [o] (getMethod o m pl)
      callWith p0 g pre (backTo p0 (starEach (ar :: more) X.env)) (backToKw p0 (keywordEach [] X.env))) := by rfl) :
    PE X (.Call (.Attribute ob m p1) (ar :: more) [] p0) (tMethT C m sp E to ts) := by
  constructor
  intro pins s σ H Q I h
  refine PySem.W.methodCall_KW (pl := pl) (thn (ho.run pins s σ H _ I h) ?_) how
  rintro v s1 ⟨o, H1, I1, ro, b, d, fl, eo, hb, hl, q⟩
  subst eo
  obtain rfl : v = Value.ref b := ro
  refine getmeth_ok I1 hb cl me hl (PySem.W.callWith_K (first := [.ref b]) (h₀ := X.base) I.ok.mod.kin me.kp (thn (hargs.run p0 pins s1 σ H1 _ I1 q) ?_) st1 st2)
  rintro vs s2 ⟨ws, H2, I2, rs, q2⟩
  exact ⟨I2.kIn, run_fnS (us := .ref b :: vs) (vs := .ref b :: ws) F room bi (pass σ) I2 (.cons rfl rs) q2⟩
end RL

set_option Elab.async false
set_option linter.all false
set_option maxRecDepth 100000
set_option maxHeartbeats 4000000
namespace RL
open PySem PySem.Spec PyProof.Rows L2
open Rep (rep)
open CwR


def PreB (t : Str) : Prop := t.length ≤ 100000
def PreO (t : Option Str) : Prop := ∀ s, t = some s → PreB s
theorem preO_len {t : Option Str} (h : PreO t) : (Option.getD t default).length ≤ 16000000 := by
  cases t with
  | none => exact Nat.zero_le _
  | some s => exact Nat.le_trans (h s rfl) (by decide)
theorem preB {t : Str} (h : PreT t) : PreB t := Nat.le_trans h (by decide)
theorem repl_len (x y z : Str) : (Txt.replace x y z).length ≤ x.length + (x.length + 1) * z.length := TK.replace_len x y z
theorem rl2 {x y z : Str} {n : Nat} (h : x.length ≤ n) (hz : z.length ≤ 2) : (Txt.replace x y z).length ≤ n + (n + 1) * 2 :=
  Nat.le_trans (repl_len x y z) (Nat.add_le_add h (Nat.mul_le_mul (Nat.succ_le_succ h) hz))
theorem rs2 {x z : Str} {n : Nat} (h : x.length ≤ n) (hz : z.length ≤ 2) (hn : n + (n + 1) * 2 ≤ 16777216) : x.length + (x.length + 1) * z.length ≤ 16777216 :=
  Nat.le_trans (Nat.add_le_add h (Nat.mul_le_mul (Nat.succ_le_succ h) hz)) hn
theorem b_line {x : Str} {n : Nat} (h : x.length ≤ n) (hn : n ≤ 16000000 := by decide) : x.length ≤ sizeLine := Nat.le_trans h (Nat.le_trans hn (by decide))
theorem app_line {x y : Str} {n : Nat} (h : x.length + y.length ≤ n) (hn : n ≤ 16000000 := by decide) : (x ++ y).length ≤ sizeLine := by rw [len_app]; exact Nat.le_trans h (Nat.le_trans hn (by decide))

theorem q_line1 {x : Str} (h : x.length ≤ 900008) : (Str.empty ++ ("\"" : Str) ++ x).length ≤ sizeLine := by
  rw [len_app, len_app, show Str.empty.length = 0 by decide, show ("\"" : Str).length = 1 by decide]
  exact Nat.le_trans (Nat.add_le_add_left h _) (by decide)
theorem q_line2 {x : Str} (h : x.length ≤ 900008) : (Str.empty ++ ("\"" : Str) ++ x ++ ("\"" : Str)).length ≤ sizeLine := by
  rw [len_app, len_app, len_app, show Str.empty.length = 0 by decide, show ("\"" : Str).length = 1 by decide]
  exact Nat.le_trans (Nat.add_le_add_right (Nat.add_le_add_left h _) _) (by decide)
theorem q_line3 {x : Str} (h : x.length ≤ 900008) : ("\"" : Str).length + x.length ≤ sizeLine := by
  rw [show ("\"" : Str).length = 1 by decide]
  exact Nat.le_trans (Nat.add_le_add_left h _) (by decide)
theorem q_line4 {x : Str} (h : x.length ≤ 900008) : (("\"" : Str) ++ x).length + ("\"" : Str).length ≤ sizeLine := by
  rw [len_app, show ("\"" : Str).length = 1 by decide]
  exact Nat.le_trans (Nat.add_le_add_right (Nat.add_le_add_left h _) _) (by decide)
def WORDSD : List Str := ["announce", "bind", "close_layer", "close_opening", "disable", "enable", "execute", "first_item", "focus", "focus_next", "focus_previous", "hide", "insert", "last_item", "move", "next_item", "open_layer", "press", "previous_item", "remove", "set_label", "show", "take", "typeahead", "unbind"]

def PreD (d : PyData) : Prop := (strD d).length ≤ 100000
theorem n3 {n : Nat} (h : n ≤ 3000) : n ≤ sizeLine := Nat.le_trans h (by decide)
def putS (l : List (Str × Str)) (k v : Str) : List (Str × Str) := if (l.any fun p => decide (p.1 = k)) = true then l.map (fun p => if p.1 = k then (p.1, v) else p) else l ++ [(k, v)]
def FL0 : List (Str × Str) := [(("insert" : Str), ("NIKNL" : Str)), (("remove" : Str), ("N" : Str)), (("show" : Str), ("N" : Str)), (("hide" : Str), ("N" : Str)), (("enable" : Str), ("N" : Str)), (("disable" : Str), ("N" : Str))]
def FL1 : List (Str × Str) := putS FL0 ("open_layer" : Str) ("N" : Str)
def FL2 : List (Str × Str) := putS FL1 ("close_layer" : Str) ("N" : Str)
def FL3 : List (Str × Str) := putS FL2 ("focus" : Str) ("N" : Str)
def FL4 : List (Str × Str) := putS FL3 ("move" : Str) ("NNI" : Str)
def FL5 : List (Str × Str) := putS FL4 ("set_label" : Str) ("NL" : Str)
def FL6 : List (Str × Str) := putS FL5 ("typeahead" : Str) ("L" : Str)
def FL7 : List (Str × Str) := putS FL6 ("close_opening" : Str) ("C" : Str)
def FL8 : List (Str × Str) := putS FL7 ("bind" : Str) ("NTT" : Str)
def FL9 : List (Str × Str) := putS FL8 ("unbind" : Str) ("NT" : Str)
def FL10 : List (Str × Str) := putS FL9 ("press" : Str) ("T" : Str)
def FL11 : List (Str × Str) := putS FL10 ("execute" : Str) ("T" : Str)
def FL12 : List (Str × Str) := putS FL11 ("announce" : Str) ("LB" : Str)
def FWS : List Str := [("focus_next" : Str), ("focus_previous" : Str), ("next_item" : Str), ("previous_item" : Str), ("first_item" : Str), ("last_item" : Str), ("take" : Str)]
def FORMSL : List (Str × Str) := [(("insert" : Str), ("NIKNL" : Str)), (("remove" : Str), ("N" : Str)), (("show" : Str), ("N" : Str)), (("hide" : Str), ("N" : Str)), (("enable" : Str), ("N" : Str)), (("disable" : Str), ("N" : Str)), (("open_layer" : Str), ("N" : Str)), (("close_layer" : Str), ("N" : Str)), (("focus" : Str), ("N" : Str)), (("move" : Str), ("NNI" : Str)), (("set_label" : Str), ("NL" : Str)), (("typeahead" : Str), ("L" : Str)), (("close_opening" : Str), ("C" : Str)), (("bind" : Str), ("NTT" : Str)), (("unbind" : Str), ("NT" : Str)), (("press" : Str), ("T" : Str)), (("execute" : Str), ("T" : Str)), (("announce" : Str), ("LB" : Str)), (("focus_next" : Str), ("" : Str)), (("focus_previous" : Str), ("" : Str)), (("next_item" : Str), ("" : Str)), (("previous_item" : Str), ("" : Str)), (("first_item" : Str), ("" : Str)), (("last_item" : Str), ("" : Str)), (("take" : Str), ("" : Str))]

theorem deed_at {l : List PyData} (h : eqB ((l.length : Nat) : Int) (0 : Int) = false) : (atI l (0 : Int)).isSome = true := at_in (Int.le_refl 0) (by have := of_decide_eq_false h; omega)
theorem zip_lt {α β : Type} {l : List α} {m : List β} {n : Nat} (h : l.length ≤ n) (hn : n < sizeLine := by decide) : (List.zip l m).length < sizeLine := by
  rw [List.length_zip]
  exact Nat.lt_of_le_of_lt (Nat.le_trans (Nat.min_le_left _ _) h) hn
theorem zip_mem {α β : Type} {l : List α} {m : List β} {p : α × β} (h : p ∈ List.zip l m) : p.1 ∈ l := (List.of_mem_zip (a := p.1) (b := p.2) h).1
theorem lt1920 {z : Int} (h0 : 0 ≤ z) (h1 : z ≤ 1000000) : z.natAbs.log2 < 1920 := by
  by_cases q : z.natAbs = 0
  · rw [q]; decide
  · exact (Nat.log2_lt q).mpr (Nat.lt_of_le_of_lt (by omega : z.natAbs ≤ 1000000) (by decide))
theorem dat_tpl (l : List PyData) : (Dat.d (Tpl.mk l) : PyData) = .tuple l := by
  show PyData.tuple (l.map fun x => x) = _
  rw [List.map_id']
theorem at_m {α : Type} {l : List α} {n : Int} (h : 0 < l.length) : (atI l (n % (l.length : Int))).isSome = true := at_in (Int.emod_nonneg _ (by omega)) (Int.emod_lt_of_pos _ (by omega))
theorem mul_side {n m : Int} (h0 : 0 < m) (h1 : m ≤ 10) : 0 ≤ n % m ∧ n % m < 16777216 ∧ (" " : Str).length * (n % m).toNat ≤ sizeLine := by
  have a := Int.emod_nonneg n (show m ≠ 0 by omega)
  have b := Int.emod_lt_of_pos n h0
  refine ⟨a, by omega, ?_⟩
  rw [show (" " : Str).length = 1 by decide, sizeLine_eq]
  omega

theorem or_l0 {a b : Bool} (h : (a || b) = false) : a = false := by cases a <;> simp_all

theorem rl100 {x : Str} (h : x.length ≤ 100) : PreB x := Nat.le_trans h (by decide)
theorem at_b (b : Bool) : (atI (("polite" : Str) :: (("assertive" : Str) :: ([] : List Str))) (if b = true then (1 : Int) else 0)).isSome = true := by cases b <;> decide +kernel

theorem lt_l {n m : Nat} (h : n ≤ m) (hm : m < sizeLine := by decide) : n < sizeLine := Nat.lt_of_le_of_lt h hm
theorem m3len (n : Int) : (mulS (" " : Str) (n % 3)).length ≤ 10 := by
  rw [mulS_len, show (" " : Str).length = 1 by decide]
  have := Int.emod_lt_of_pos n (show (0 : Int) < 3 by decide)
  omega
theorem m2len (n : Int) : (mulS (" " : Str) (n % 2)).length ≤ 10 := by
  rw [mulS_len, show (" " : Str).length = 1 by decide]
  have := Int.emod_lt_of_pos n (show (0 : Int) < 2 by decide)
  omega

def topS (i : Nat) : Stmt := PySem.Challenge.pw_keyfocus_k10_scripts.main.body.getD i (.Pass ⟨0, 0, 0, 0⟩)
structure Adr where
  f_is_name : Addr
  d_is_name : FuncData
  f_is_label : Addr
  d_is_label : FuncData
  f_quoted : Addr
  d_quoted : FuncData
  f_text_in : Addr
  d_text_in : FuncData
  f__is_number : Addr
  d__is_number : FuncData
  f__is_text : Addr
  d__is_text : FuncData
  f__has_form : Addr
  d__has_form : FuncData
  f_is_deed : Addr
  d_is_deed : FuncData
  f__end_of_part : Addr
  d__end_of_part : FuncData
  f__parts : Addr
  d__parts : FuncData
  f__number_in : Addr
  d__number_in : FuncData
  f__argument_in : Addr
  d__argument_in : FuncData
  f__deed_in : Addr
  d__deed_in : FuncData
  f_read_script : Addr
  d_read_script : FuncData
  f__written : Addr
  d__written : FuncData
  f__line_of : Addr
  d__line_of : FuncData
  f_write_script : Addr
  d_write_script : FuncData
  f__law_cell : Addr
  d__law_cell : FuncData
  f__law_draws : Addr
  d__law_draws : FuncData
  f__law_same : Addr
  d__law_same : FuncData
  f__law_text : Addr
  d__law_text : FuncData
  f__law_forms : Addr
  d__law_forms : FuncData
  f__law_argument : Addr
  d__law_argument : FuncData
  f__law_any_deed : Addr
  d__law_any_deed : FuncData
  f__law_line : Addr
  d__law_line : FuncData
  f_law : Addr
  d_law : FuncData
  c_is_name : Addr
  t_is_name : Addr
  c_is_label : Addr
  t_is_label : Addr
  c__is_text : Addr
  t__is_text : Addr
  c__number_in : Addr
  t__number_in : Addr
  k_KINDS : Addr
  k_FORMS : Addr
  k__TONES : Addr
  x_FocusError : Addr
  x_BadScript : Addr
  i_BadScript : Addr
  di_BadScript : FuncData
def k_KINDS : List Str := [("item" : Str), ("container" : Str), ("linear" : Str), ("circular" : Str), ("layer" : Str)]
def k_FORMS : List (Str × (Tpl Str)) := [(("insert" : Str), (Tpl.mk ([("name" : Str), ("index" : Str), ("kind" : Str), ("name" : Str), ("label" : Str)] : List Str))), (("remove" : Str), (Tpl.mk ([("name" : Str)] : List Str))), (("show" : Str), (Tpl.mk ([("name" : Str)] : List Str))), (("hide" : Str), (Tpl.mk ([("name" : Str)] : List Str))), (("enable" : Str), (Tpl.mk ([("name" : Str)] : List Str))), (("disable" : Str), (Tpl.mk ([("name" : Str)] : List Str))), (("open_layer" : Str), (Tpl.mk ([("name" : Str)] : List Str))), (("close_layer" : Str), (Tpl.mk ([("name" : Str)] : List Str))), (("focus" : Str), (Tpl.mk ([("name" : Str)] : List Str))), (("move" : Str), (Tpl.mk ([("name" : Str), ("name" : Str), ("index" : Str)] : List Str))), (("set_label" : Str), (Tpl.mk ([("name" : Str), ("label" : Str)] : List Str))), (("typeahead" : Str), (Tpl.mk ([("label" : Str)] : List Str))), (("close_opening" : Str), (Tpl.mk ([("number" : Str)] : List Str))), (("bind" : Str), (Tpl.mk ([("name" : Str), ("text" : Str), ("text" : Str)] : List Str))), (("unbind" : Str), (Tpl.mk ([("name" : Str), ("text" : Str)] : List Str))), (("press" : Str), (Tpl.mk ([("text" : Str)] : List Str))), (("execute" : Str), (Tpl.mk ([("text" : Str)] : List Str))), (("announce" : Str), (Tpl.mk ([("label" : Str), ("tone" : Str)] : List Str))), (("focus_next" : Str), (Tpl.mk ([] : List Str))), (("focus_previous" : Str), (Tpl.mk ([] : List Str))), (("next_item" : Str), (Tpl.mk ([] : List Str))), (("previous_item" : Str), (Tpl.mk ([] : List Str))), (("first_item" : Str), (Tpl.mk ([] : List Str))), (("last_item" : Str), (Tpl.mk ([] : List Str))), (("take" : Str), (Tpl.mk ([] : List Str)))]
def k__TONES : List (Str × Bool) := [(("polite" : Str), false), (("assertive" : Str), true)]
abbrev s_init_BadScript : Stmt := inClass (topS 2) 0
theorem sc_init_BadScript : FnScope ["self", "line"] ["self", "line"] (defScope s_init_BadScript) := ⟨rfl, rfl, rfl, by decide +kernel, rfl, by decide +kernel, by decide +kernel⟩
/-! ### is_name -/
abbrev s_is_name : Stmt := topS 7
abbrev n_is_name : List Str := ["thing"]
theorem sc_is_name : FnScope n_is_name ["thing"] (defScope s_is_name) := ⟨rfl, rfl, rfl, by decide +kernel, rfl, by decide +kernel, by decide +kernel⟩
/-! ### is_label -/
abbrev s_is_label : Stmt := topS 8
abbrev n_is_label : List Str := ["thing"]
theorem sc_is_label : FnScope n_is_label ["thing"] (defScope s_is_label) := ⟨rfl, rfl, rfl, by decide +kernel, rfl, by decide +kernel, by decide +kernel⟩
/-! ### quoted -/
abbrev s_quoted : Stmt := topS 9
abbrev n_quoted : List Str := ["label", "escaped"]
theorem sc_quoted : FnScope n_quoted ["label"] (defScope s_quoted) := ⟨rfl, rfl, rfl, by decide +kernel, rfl, by decide +kernel, by decide +kernel⟩
/-! ### text_in -/
abbrev s_text_in : Stmt := topS 10
abbrev n_text_in : List Str := ["quotation", "text"]
theorem sc_text_in : FnScope n_text_in ["quotation"] (defScope s_text_in) := ⟨rfl, rfl, rfl, by decide +kernel, rfl, by decide +kernel, by decide +kernel⟩
/-! ### _is_number -/
abbrev s__is_number : Stmt := topS 18
abbrev n__is_number : List Str := ["thing", "greatest"]
theorem sc__is_number : FnScope n__is_number ["thing", "greatest"] (defScope s__is_number) := ⟨rfl, rfl, rfl, by decide +kernel, rfl, by decide +kernel, by decide +kernel⟩
/-! ### _is_text -/
abbrev s__is_text : Stmt := topS 19
abbrev n__is_text : List Str := ["thing"]
theorem sc__is_text : FnScope n__is_text ["thing"] (defScope s__is_text) := ⟨rfl, rfl, rfl, by decide +kernel, rfl, by decide +kernel, by decide +kernel⟩
/-! ### _has_form -/
abbrev s__has_form : Stmt := topS 20
abbrev n__has_form : List Str := ["thing", "form"]
theorem sc__has_form : FnScope n__has_form ["thing", "form"] (defScope s__has_form) := ⟨rfl, rfl, rfl, by decide +kernel, rfl, by decide +kernel, by decide +kernel⟩
/-! ### is_deed -/
abbrev s_is_deed : Stmt := topS 21
abbrev n_is_deed : List Str := ["thing", "word", "arguments", "argument", "form"]
theorem sc_is_deed : FnScope n_is_deed ["thing"] (defScope s_is_deed) := ⟨rfl, rfl, rfl, by decide +kernel, rfl, by decide +kernel, by decide +kernel⟩
/-! ### _end_of_part -/
abbrev s__end_of_part : Stmt := topS 22
abbrev n__end_of_part : List Str := ["text", "at", "inside"]
theorem sc__end_of_part : FnScope n__end_of_part ["text"] (defScope s__end_of_part) := ⟨rfl, rfl, rfl, by decide +kernel, rfl, by decide +kernel, by decide +kernel⟩
/-! ### _parts -/
abbrev s__parts : Stmt := topS 23
abbrev n__parts : List Str := ["line", "parts", "rest", "end"]
theorem sc__parts : FnScope n__parts ["line"] (defScope s__parts) := ⟨rfl, rfl, rfl, by decide +kernel, rfl, by decide +kernel, by decide +kernel⟩
/-! ### _number_in -/
abbrev s__number_in : Stmt := topS 24
abbrev n__number_in : List Str := ["part", "digits"]
theorem sc__number_in : FnScope n__number_in ["part"] (defScope s__number_in) := ⟨rfl, rfl, rfl, by decide +kernel, rfl, by decide +kernel, by decide +kernel⟩
/-! ### _argument_in -/
abbrev s__argument_in : Stmt := topS 25
abbrev n__argument_in : List Str := ["part", "form"]
theorem sc__argument_in : FnScope n__argument_in ["part", "form"] (defScope s__argument_in) := ⟨rfl, rfl, rfl, by decide +kernel, rfl, by decide +kernel, by decide +kernel⟩
/-! ### _deed_in -/
abbrev s__deed_in : Stmt := topS 26
abbrev n__deed_in : List Str := ["parts", "word", "arguments", "forms", "deed", "part", "form"]
theorem sc__deed_in : FnScope n__deed_in ["parts"] (defScope s__deed_in) := ⟨rfl, rfl, rfl, by decide +kernel, rfl, by decide +kernel, by decide +kernel⟩
/-! ### read_script -/
abbrev s_read_script : Stmt := topS 27
abbrev n_read_script : List Str := ["text", "deeds", "at", "line", "parts", "deed"]
theorem sc_read_script : FnScope n_read_script ["text"] (defScope s_read_script) := ⟨rfl, rfl, rfl, by decide +kernel, rfl, by decide +kernel, by decide +kernel⟩
/-! ### _written -/
abbrev s__written : Stmt := topS 28
abbrev n__written : List Str := ["argument", "form"]
theorem sc__written : FnScope n__written ["argument", "form"] (defScope s__written) := ⟨rfl, rfl, rfl, by decide +kernel, rfl, by decide +kernel, by decide +kernel⟩
/-! ### _line_of -/
abbrev s__line_of : Stmt := topS 29
abbrev n__line_of : List Str := ["deed", "word", "arguments", "argument", "form"]
theorem sc__line_of : FnScope n__line_of ["deed"] (defScope s__line_of) := ⟨rfl, rfl, rfl, by decide +kernel, rfl, by decide +kernel, by decide +kernel⟩
/-! ### write_script -/
abbrev s_write_script : Stmt := topS 30
abbrev n_write_script : List Str := ["deeds", "deed"]
theorem sc_write_script : FnScope n_write_script ["deeds"] (defScope s_write_script) := ⟨rfl, rfl, rfl, by decide +kernel, rfl, by decide +kernel, by decide +kernel⟩
/-! ### _law_cell -/
abbrev s__law_cell : Stmt := topS 32
abbrev n__law_cell : List Str := ["script", "k"]
theorem sc__law_cell : FnScope n__law_cell ["script", "k"] (defScope s__law_cell) := ⟨rfl, rfl, rfl, by decide +kernel, rfl, by decide +kernel, by decide +kernel⟩
/-! ### _law_draws -/
abbrev s__law_draws : Stmt := topS 33
abbrev n__law_draws : List Str := ["cell", "count", "found", "is_wide", "k", "mixed"]
theorem sc__law_draws : FnScope n__law_draws ["cell", "count"] (defScope s__law_draws) := ⟨rfl, rfl, rfl, by decide +kernel, rfl, by decide +kernel, by decide +kernel⟩
/-! ### _law_same -/
abbrev s__law_same : Stmt := topS 34
abbrev n__law_same : List Str := ["actual", "expected", "k"]
theorem sc__law_same : FnScope n__law_same ["actual", "expected"] (defScope s__law_same) := ⟨rfl, rfl, rfl, by decide +kernel, rfl, by decide +kernel, by decide +kernel⟩
/-! ### _law_text -/
abbrev s__law_text : Stmt := topS 35
abbrev n__law_text : List Str := ["cell", "most", "signs", "draws", "size", "k"]
theorem sc__law_text : FnScope n__law_text ["cell", "most"] (defScope s__law_text) := ⟨rfl, rfl, rfl, by decide +kernel, rfl, by decide +kernel, by decide +kernel⟩
/-! ### _law_forms -/
abbrev s__law_forms : Stmt := topS 36
abbrev n__law_forms : List Str := ["forms", "word"]
theorem sc__law_forms : FnScope n__law_forms [] (defScope s__law_forms) := ⟨rfl, rfl, rfl, by decide +kernel, rfl, by decide +kernel, by decide +kernel⟩
/-! ### _law_argument -/
abbrev s__law_argument : Stmt := topS 37
abbrev n__law_argument : List Str := ["form", "draws", "at", "cell", "draw", "text"]
theorem sc__law_argument : FnScope n__law_argument ["form", "draws", "at", "cell"] (defScope s__law_argument) := ⟨rfl, rfl, rfl, by decide +kernel, rfl, by decide +kernel, by decide +kernel⟩
/-! ### _law_any_deed -/
abbrev s__law_any_deed : Stmt := topS 38
abbrev n__law_any_deed : List Str := ["cell", "draws", "forms", "words", "word", "k"]
theorem sc__law_any_deed : FnScope n__law_any_deed ["cell"] (defScope s__law_any_deed) := ⟨rfl, rfl, rfl, by decide +kernel, rfl, by decide +kernel, by decide +kernel⟩
/-! ### _law_line -/
abbrev s__law_line : Stmt := topS 39
abbrev n__law_line : List Str := ["deed", "form", "words", "k"]
theorem sc__law_line : FnScope n__law_line ["deed"] (defScope s__law_line) := ⟨rfl, rfl, rfl, by decide +kernel, rfl, by decide +kernel, by decide +kernel⟩
/-! ### law -/
abbrev s_law : Stmt := topS 40
abbrev n_law : List Str := ["script", "deeds", "lines", "wide", "k", "text", "deed", "words", "told"]
theorem sc_law : FnScope n_law ["script"] (defScope s_law) := ⟨rfl, rfl, rfl, by decide +kernel, rfl, by decide +kernel, by decide +kernel⟩
/-- what the top has written -/
structure Tx [Tb] (w : World) (K : PySem.W.Frag) (mg : Str → Option Value) (base : Heap) (A : Adr) : Prop where
  F_is_name : Fun K "is_name" "is_name" s_is_name A.f_is_name A.d_is_name
  g_is_name : mg "is_name" = some (.ref A.f_is_name)
  b_is_name : Binds K A.d_is_name ["thing"] []
  F_is_label : Fun K "is_label" "is_label" s_is_label A.f_is_label A.d_is_label
  g_is_label : mg "is_label" = some (.ref A.f_is_label)
  b_is_label : Binds K A.d_is_label ["thing"] []
  F_quoted : Fun K "quoted" "quoted" s_quoted A.f_quoted A.d_quoted
  g_quoted : mg "quoted" = some (.ref A.f_quoted)
  b_quoted : Binds K A.d_quoted ["label"] []
  F_text_in : Fun K "text_in" "text_in" s_text_in A.f_text_in A.d_text_in
  g_text_in : mg "text_in" = some (.ref A.f_text_in)
  b_text_in : Binds K A.d_text_in ["quotation"] []
  F__is_number : Fun K "_is_number" "_is_number" s__is_number A.f__is_number A.d__is_number
  g__is_number : mg "_is_number" = some (.ref A.f__is_number)
  b__is_number : Binds K A.d__is_number ["thing", "greatest"] []
  F__is_text : Fun K "_is_text" "_is_text" s__is_text A.f__is_text A.d__is_text
  g__is_text : mg "_is_text" = some (.ref A.f__is_text)
  b__is_text : Binds K A.d__is_text ["thing"] []
  F__has_form : Fun K "_has_form" "_has_form" s__has_form A.f__has_form A.d__has_form
  g__has_form : mg "_has_form" = some (.ref A.f__has_form)
  b__has_form : Binds K A.d__has_form ["thing", "form"] []
  F_is_deed : Fun K "is_deed" "is_deed" s_is_deed A.f_is_deed A.d_is_deed
  g_is_deed : mg "is_deed" = some (.ref A.f_is_deed)
  b_is_deed : Binds K A.d_is_deed ["thing"] []
  F__end_of_part : Fun K "_end_of_part" "_end_of_part" s__end_of_part A.f__end_of_part A.d__end_of_part
  g__end_of_part : mg "_end_of_part" = some (.ref A.f__end_of_part)
  b__end_of_part : Binds K A.d__end_of_part ["text"] []
  F__parts : Fun K "_parts" "_parts" s__parts A.f__parts A.d__parts
  g__parts : mg "_parts" = some (.ref A.f__parts)
  b__parts : Binds K A.d__parts ["line"] []
  F__number_in : Fun K "_number_in" "_number_in" s__number_in A.f__number_in A.d__number_in
  g__number_in : mg "_number_in" = some (.ref A.f__number_in)
  b__number_in : Binds K A.d__number_in ["part"] []
  F__argument_in : Fun K "_argument_in" "_argument_in" s__argument_in A.f__argument_in A.d__argument_in
  g__argument_in : mg "_argument_in" = some (.ref A.f__argument_in)
  b__argument_in : Binds K A.d__argument_in ["part", "form"] []
  F__deed_in : Fun K "_deed_in" "_deed_in" s__deed_in A.f__deed_in A.d__deed_in
  g__deed_in : mg "_deed_in" = some (.ref A.f__deed_in)
  b__deed_in : Binds K A.d__deed_in ["parts"] []
  F_read_script : Fun K "read_script" "read_script" s_read_script A.f_read_script A.d_read_script
  g_read_script : mg "read_script" = some (.ref A.f_read_script)
  b_read_script : Binds K A.d_read_script ["text"] []
  F__written : Fun K "_written" "_written" s__written A.f__written A.d__written
  g__written : mg "_written" = some (.ref A.f__written)
  b__written : Binds K A.d__written ["argument", "form"] []
  F__line_of : Fun K "_line_of" "_line_of" s__line_of A.f__line_of A.d__line_of
  g__line_of : mg "_line_of" = some (.ref A.f__line_of)
  b__line_of : Binds K A.d__line_of ["deed"] []
  F_write_script : Fun K "write_script" "write_script" s_write_script A.f_write_script A.d_write_script
  g_write_script : mg "write_script" = some (.ref A.f_write_script)
  b_write_script : Binds K A.d_write_script ["deeds"] []
  F__law_cell : Fun K "_law_cell" "_law_cell" s__law_cell A.f__law_cell A.d__law_cell
  g__law_cell : mg "_law_cell" = some (.ref A.f__law_cell)
  b__law_cell : Binds K A.d__law_cell ["script", "k"] []
  F__law_draws : Fun K "_law_draws" "_law_draws" s__law_draws A.f__law_draws A.d__law_draws
  g__law_draws : mg "_law_draws" = some (.ref A.f__law_draws)
  b__law_draws : Binds K A.d__law_draws ["cell", "count"] []
  F__law_same : Fun K "_law_same" "_law_same" s__law_same A.f__law_same A.d__law_same
  g__law_same : mg "_law_same" = some (.ref A.f__law_same)
  b__law_same : Binds K A.d__law_same ["actual", "expected"] []
  F__law_text : Fun K "_law_text" "_law_text" s__law_text A.f__law_text A.d__law_text
  g__law_text : mg "_law_text" = some (.ref A.f__law_text)
  b__law_text : Binds K A.d__law_text ["cell", "most"] []
  F__law_forms : Fun K "_law_forms" "_law_forms" s__law_forms A.f__law_forms A.d__law_forms
  g__law_forms : mg "_law_forms" = some (.ref A.f__law_forms)
  b__law_forms : Binds K A.d__law_forms [] []
  F__law_argument : Fun K "_law_argument" "_law_argument" s__law_argument A.f__law_argument A.d__law_argument
  g__law_argument : mg "_law_argument" = some (.ref A.f__law_argument)
  b__law_argument : Binds K A.d__law_argument ["form", "draws", "at", "cell"] []
  F__law_any_deed : Fun K "_law_any_deed" "_law_any_deed" s__law_any_deed A.f__law_any_deed A.d__law_any_deed
  g__law_any_deed : mg "_law_any_deed" = some (.ref A.f__law_any_deed)
  b__law_any_deed : Binds K A.d__law_any_deed ["cell"] []
  F__law_line : Fun K "_law_line" "_law_line" s__law_line A.f__law_line A.d__law_line
  g__law_line : mg "_law_line" = some (.ref A.f__law_line)
  b__law_line : Binds K A.d__law_line ["deed"] []
  F_law : Fun K "law" "law" s_law A.f_law A.d_law
  g_law : mg "law" = some (.ref A.f_law)
  b_law : Binds K A.d_law ["script"] []
  C_is_name : A.d_is_name.code = .ref A.c_is_name
  TB_is_name : GxR.TabB base mg A.c_is_name A.t_is_name
  TM_is_name : A.t_is_name ∈ Tb.ps
  C_is_label : A.d_is_label.code = .ref A.c_is_label
  TB_is_label : GxR.TabB base mg A.c_is_label A.t_is_label
  TM_is_label : A.t_is_label ∈ Tb.ps
  C__is_text : A.d__is_text.code = .ref A.c__is_text
  TB__is_text : GxR.TabB base mg A.c__is_text A.t__is_text
  TM__is_text : A.t__is_text ∈ Tb.ps
  C__number_in : A.d__number_in.code = .ref A.c__number_in
  TB__number_in : GxR.TabB base mg A.c__number_in A.t__number_in
  TM__number_in : A.t__number_in ∈ Tb.ps
  c_KINDS : mg "KINDS" = some (.ref A.k_KINDS)
  r_KINDS : ∀ G, rep K (Tpl.mk k_KINDS) (V.ref A.k_KINDS) G
  c__NAME_CHARACTERS : ∃ u, mg "_NAME_CHARACTERS" = some u ∧ RelV (.str ("abcdefghijklmnopqrstuvwxyz0123456789._-" : Str)) u
  c__LONGEST_NAME : ∃ u, mg "_LONGEST_NAME" = some u ∧ RelV (.int 8) u
  c__LONGEST_LABEL : ∃ u, mg "_LONGEST_LABEL" = some u ∧ RelV (.int 40) u
  c__GREATEST_INDEX : ∃ u, mg "_GREATEST_INDEX" = some u ∧ RelV (.int 59) u
  c__GREATEST_NUMBER : ∃ u, mg "_GREATEST_NUMBER" = some u ∧ RelV (.int 1000000) u
  c__LONGEST_TEXT : ∃ u, mg "_LONGEST_TEXT" = some u ∧ RelV (.int 100) u
  c_FORMS : mg "FORMS" = some (.ref A.k_FORMS)
  kd_FORMS : KDs K w A.k_FORMS k_FORMS
  c__TONES : mg "_TONES" = some (.ref A.k__TONES)
  kd__TONES : KDs K w A.k__TONES k__TONES
  n_all : mg "all" = none
  n_bool : mg "bool" = none
  n_enumerate : mg "enumerate" = none
  n_int : mg "int" = none
  n_isinstance : mg "isinstance" = none
  n_len : mg "len" = none
  n_list : mg "list" = none
  n_range : mg "range" = none
  n_sorted : mg "sorted" = none
  n_str : mg "str" = none
  n_tuple : mg "tuple" = none
  n_zip : mg "zip" = none
  x_BadScript : ErrTxt K mg "BadScript" "FocusError" "line" A.x_BadScript A.x_FocusError A.i_BadScript
  FI_BadScript : Fun K "__init__" "BadScript.__init__" s_init_BadScript A.i_BadScript A.di_BadScript
  bi_BadScript : Binds K A.di_BadScript ["self", "line"] []
section
variable {P : Program} {w : World} {K : PySem.W.Frag} {mg : Str → Option Value} {base : Heap} {A : Adr} [Tb]
theorem ok_init_BadScript (T : Tx w K mg base A) : FnOk P w K mg base CX0 1 A.i_BadScript A.di_BadScript ["self", "line"] (spErr A.x_BadScript "line" fun v => ∃ s : Int, v = V.int s ∧ s.natAbs.log2 < 1920) := by
  refine T.FI_BadScript.ok sc_init_BadScript (fun vs H Q E h => ?_) (fun cdv A0 outer s H vs Q E hr h => ⟨_, pss_cons (ps_expr (pe_baseInit rfl T.x_BadScript.gB T.x_BadScript.rd T.x_BadScript.vB (pa_cons (pv 0) (pa_cons (pe_joined (PJ.cons pe_str (PJ.cons (pe_fmt (pv 1)) PJ.nil))) pa_nil)))) (pss_one (ps_ost (pv 0) (pv 1))), ?_⟩)
  · obtain ⟨a, v, rfl, _⟩ := h
    rfl
  · obtain ⟨a, v, rfl, ⟨z, rfl, hz⟩, ha, k⟩ := h
    refine ⟨_, rfl, ("invalid script at line " : Str), rfl, ?_, _, rfl, .inr ⟨z, rfl, hz, PySem.Str.ofString (toString z), rfl, ?_, ?_⟩⟩
    · decide +kernel
    · rw [len_app]
      exact Nat.le_trans (Nat.add_le_add_left (int_text_len_1921 hz) _) (by decide +kernel)
    · exact ⟨a, A.x_BadScript, [.str _], rfl, by show 1 ≤ 1000; decide, T.x_BadScript.ox, ha, _, rfl, _, rfl, a, A.x_BadScript, rfl, T.x_BadScript.ox, T.x_BadScript.nF, .inl ⟨ha, fun d hd hne => k d hd hne⟩⟩
/-! #### is_name -/
def m_is_name_1 (d_thing : PyData) : Bool := (((strD d_thing)).cps.toList.all (fun k => !(Builtin.Str.occurrences ("abcdefghijklmnopqrstuvwxyz0123456789._-" : Str) ⟨#[k]⟩ 0 (("abcdefghijklmnopqrstuvwxyz0123456789._-" : Str)).length 1).isEmpty))
def m_is_name (d_thing : PyData) : Bool := (cond ((!(isStrD d_thing)) || (!(decide ((1 : Int) ≤ (((strD d_thing)).length : Int)) && decide ((((strD d_thing)).length : Int) ≤ (8 : Int))))) false (m_is_name_1 d_thing))
abbrev p_is_name (K : PySem.W.Frag) : Sp := sp1 K (fun d => PreD d) m_is_name
theorem ok_is_name (T : Tx w K mg base A) : FnOk P w K mg base CX0 1 A.f_is_name A.d_is_name ["thing"] (p_is_name K) := by
  refine okC T.F_is_name T.C_is_name sc_is_name (fun vs He Q E h => ?_) (fun A0 outer s He vs Q E hr h => ⟨_, (pss_cons (ps_if (PW.pt (pw_or (pt_not (pt_val (pe_callB (call_isiK (K := K)) rfl T.n_isinstance boot_isinstance (pa_cons (pv 0) (pa_cons (pe_bltn (v := .ty "str") rfl T.n_str (by decide +kernel) rfl) pa_nil))))) (pw_or1 (pt_not (pt_chain op_le op_le pe_int (pe_callB (call_lenK (K := K)) rfl T.n_len boot_len (pa_cons (pv 0) pa_nil)) (C8.pe_gc rfl T.c__LONGEST_NAME)))))) (pss_one (ps_ret pe_bl)) pss_nil) (pss_one (ps_ret (pe_allM hr rfl T.n_all (by decide +kernel) T.TB_is_name rfl (genS_of rfl rfl (by decide +kernel) rfl rfl (by decide +kernel)) (pv 0) (elt_inG rfl rfl rfl T.c__NAME_CHARACTERS) fun _ => rfl)))), ?_⟩)
  · obtain ⟨d_thing, w_thing, G, rfl, eG, h_thing, hpre, hQ⟩ := h
    rfl
  · obtain ⟨d_thing, w_thing, G, rfl, eG, h_thing, hpre, hQ⟩ := h
    have gr : Grow G He G He := Grow.refl eG
    obtain ⟨Ge, eGe⟩ : ∃ z, z = G := ⟨G, rfl⟩
    have gr : Grow Ge He G He := by rw [eGe]; exact gr
    rw [← eGe] at hQ
    clear eGe
    have hM : m_is_name d_thing = (cond ((!(isStrD d_thing)) || (!(decide ((1 : Int) ≤ (((strD d_thing)).length : Int)) && decide ((((strD d_thing)).length : Int) ≤ (8 : Int))))) false (m_is_name_1 d_thing)) := rfl
    refine q_if gr.s (et_or (et_not (et_B (ev_isStrD (ev_var rfl h_thing)))) (fun hb1 => (et_not (et_test (ev_chain ev_int (ev_lenS (ev_asStr (ev_var rfl h_thing) (by first | (exact b_line hpre) | (first | assumption | exact or_l (by assumption) | exact or_l (or_r (by assumption)) | exact num_of (by assumption) (by assumption) | exact not_fA (by assumption) | (first | omega | decide)))) (by first | (exact b_line hpre) | (first | omega | decide | (show _ ≤ sizeLine; decide) | (show _ < sizeLine; decide)))) rv_le (fun _ => ev_int) rv_le))))) ?_ ?_
    · intro hb4 G5 H6 g3
      have h_thing := up g3.g h_thing
      have gr := gr.trans g3
      replace hM := condT hM hb4
      refine s_ret (K := K) gr.s ev_bl fun u Gr Hr gq hu => ?_
      exact hQ u Gr Hr (gr.trans gq) (by rw [hM]; exact hu)
    · intro hb4 G7 H8 g3
      have h_thing := up g3.g h_thing
      have gr := gr.trans g3
      replace hM := condF hM hb4
      unfold m_is_name_1 at hM
      refine s_next ?_
      refine nx_mk ?_
      refine s_ret (K := K) gr.s (ev_all T.TM_is_name (ev_asStr (ev_var rfl h_thing) (by first | (exact b_line hpre) | (first | assumption | exact or_l (by assumption) | exact or_l (or_r (by assumption)) | exact num_of (by assumption) (by assumption) | exact not_fA (by assumption) | (first | omega | decide))))) fun u Gr Hr gq hu => ?_
      exact hQ u Gr Hr (gr.trans gq) (by rw [hM]; exact hu)
/-! #### is_label -/
def m_is_label_1 (d_thing : PyData) : Bool := (((strD d_thing)).cps.toList.all (fun k => !decide ([k] < ((" " : Str)).cps.toList) && !decide ((("~" : Str)).cps.toList < [k])))
def m_is_label (d_thing : PyData) : Bool := (cond ((!(isStrD d_thing)) || (decide ((40 : Int) < (((strD d_thing)).length : Int)))) false (m_is_label_1 d_thing))
abbrev p_is_label (K : PySem.W.Frag) : Sp := sp1 K (fun d => PreD d) m_is_label
theorem ok_is_label (T : Tx w K mg base A) : FnOk P w K mg base CX0 1 A.f_is_label A.d_is_label ["thing"] (p_is_label K) := by
  refine okC T.F_is_label T.C_is_label sc_is_label (fun vs He Q E h => ?_) (fun A0 outer s He vs Q E hr h => ⟨_, (pss_cons (ps_if (PW.pt (pw_or (pt_not (pt_val (pe_callB (call_isiK (K := K)) rfl T.n_isinstance boot_isinstance (pa_cons (pv 0) (pa_cons (pe_bltn (v := .ty "str") rfl T.n_str (by decide +kernel) rfl) pa_nil))))) (pw_or1 (pt_cmpR op_gt (pe_callB (call_lenK (K := K)) rfl T.n_len boot_len (pa_cons (pv 0) pa_nil)) (C8.pe_gc rfl T.c__LONGEST_LABEL) (nomark _))))) (pss_one (ps_ret pe_bl)) pss_nil) (pss_one (ps_ret (pe_allM hr rfl T.n_all (by decide +kernel) T.TB_is_label rfl (genS_of rfl rfl (by decide +kernel) rfl rfl (by decide +kernel)) (pv 0) (elt_range rfl rfl) fun _ => rfl)))), ?_⟩)
  · obtain ⟨d_thing, w_thing, G, rfl, eG, h_thing, hpre, hQ⟩ := h
    rfl
  · obtain ⟨d_thing, w_thing, G, rfl, eG, h_thing, hpre, hQ⟩ := h
    have gr : Grow G He G He := Grow.refl eG
    obtain ⟨Ge, eGe⟩ : ∃ z, z = G := ⟨G, rfl⟩
    have gr : Grow Ge He G He := by rw [eGe]; exact gr
    rw [← eGe] at hQ
    clear eGe
    have hM : m_is_label d_thing = (cond ((!(isStrD d_thing)) || (decide ((40 : Int) < (((strD d_thing)).length : Int)))) false (m_is_label_1 d_thing)) := rfl
    refine q_if gr.s (et_or (et_not (et_B (ev_isStrD (ev_var rfl h_thing)))) (fun hb1 => (et_test (ev_gt (ev_lenS (ev_asStr (ev_var rfl h_thing) (by first | (exact b_line hpre) | (first | assumption | exact or_l (by assumption) | exact or_l (or_r (by assumption)) | exact num_of (by assumption) (by assumption) | exact not_fA (by assumption) | (first | omega | decide)))) (by first | (exact b_line hpre) | (first | omega | decide | (show _ ≤ sizeLine; decide) | (show _ < sizeLine; decide)))) ev_int)))) ?_ ?_
    · intro hb4 G5 H6 g3
      have h_thing := up g3.g h_thing
      have gr := gr.trans g3
      replace hM := condT hM hb4
      refine s_ret (K := K) gr.s ev_bl fun u Gr Hr gq hu => ?_
      exact hQ u Gr Hr (gr.trans gq) (by rw [hM]; exact hu)
    · intro hb4 G7 H8 g3
      have h_thing := up g3.g h_thing
      have gr := gr.trans g3
      replace hM := condF hM hb4
      unfold m_is_label_1 at hM
      refine s_next ?_
      refine nx_mk ?_
      refine s_ret (K := K) gr.s (ev_all T.TM_is_label (ev_asStr (ev_var rfl h_thing) (by first | (exact b_line hpre) | (first | assumption | exact or_l (by assumption) | exact or_l (or_r (by assumption)) | exact num_of (by assumption) (by assumption) | exact not_fA (by assumption) | (first | omega | decide))))) fun u Gr Hr gq hu => ?_
      exact hQ u Gr Hr (gr.trans gq) (by rw [hM]; exact hu)
/-! #### quoted -/
def m_quoted_1 (d_1 : Str) : Str := (((Str.empty ++ ("\"" : Str)) ++ d_1) ++ ("\"" : Str))
def m_quoted (d_label : Str) : Str := (m_quoted_1 (Txt.replace (Txt.replace d_label ("\\" : Str) ("\\\\" : Str)) ("\"" : Str) ("\\\"" : Str)))
abbrev p_quoted (K : PySem.W.Frag) : Sp := sp1 K (fun t => PreB t) m_quoted
theorem ok_quoted (T : Tx w K mg base A) : FnOk P w K mg base CX0 1 A.f_quoted A.d_quoted ["label"] (p_quoted K) := by
  refine okT T.F_quoted sc_quoted (by decide +kernel) (by decide) (fun vs He Q E h => ?_) (fun cdv A0 outer s He vs Q E hr h => ⟨_, (psst_cons (pst_asg (i := 1) sc_quoted.nd rfl (Or.inl rfl) (pet_replT (pet_replC (pv 0)))) (PSsT.of (pss_one (ps_ret (pe_joined (PJ.cons pe_str (PJ.cons (pe_fmt (pv 1)) (PJ.cons pe_str PJ.nil)))))))), ?_⟩)
  · obtain ⟨d_label, w_label, G, rfl, eG, h_label, hpre, hQ⟩ := h
    rfl
  · obtain ⟨d_label, w_label, G, rfl, eG, h_label, hpre, hQ⟩ := h
    have gr : Grow G He G He := Grow.refl eG
    obtain ⟨Ge, eGe⟩ : ∃ z, z = G := ⟨G, rfl⟩
    have gr : Grow Ge He G He := by rw [eGe]; exact gr
    rw [← eGe] at hQ
    clear eGe
    have hM : m_quoted d_label = (m_quoted_1 (Txt.replace (Txt.replace d_label ("\\" : Str) ("\\\\" : Str)) ("\"" : Str) ("\\\"" : Str))) := rfl
    refine q_asg (K := K) gr.s (ev_replC (ev_replC (ev_var rfl h_label) (by first | (first | exact rs2 hpre (by decide) (by decide) | exact rs2 (rl2 hpre (by decide)) (by decide) (by decide) | exact b_line fe | exact q_line1 fe | exact q_line2 fe) | (first | omega | decide | (show _ ≤ sizeLine; decide) | (show _ < sizeLine; decide)))) (by first | (first | exact rs2 hpre (by decide) (by decide) | exact rs2 (rl2 hpre (by decide)) (by decide) (by decide) | exact b_line fe | exact q_line1 fe | exact q_line2 fe) | (first | omega | decide | (show _ ≤ sizeLine; decide) | (show _ < sizeLine; decide)))) fun w_2 G5 H6 g4 (h_3 : rep K (Txt.replace (Txt.replace d_label ("\\" : Str) ("\\\\" : Str)) ("\"" : Str) ("\\\"" : Str)) w_2 G5) => ?_
    have h_label := up g4.g h_label
    have gr := gr.trans g4
    generalize ed_1 : (Txt.replace (Txt.replace d_label ("\\" : Str) ("\\\\" : Str)) ("\"" : Str) ("\\\"" : Str)) = d_1 at h_3 hM
    unfold m_quoted_1 at hM
    have fe : d_1.length ≤ 900008 := by rw [← ed_1]; exact rl2 (rl2 hpre (by decide)) (by decide)
    refine s_ret (K := K) gr.s (ev_joined (ej_cons (K := K) ev_str (by first | (first | exact rs2 hpre (by decide) (by decide) | exact rs2 (rl2 hpre (by decide)) (by decide) (by decide) | exact b_line fe | exact q_line1 fe | exact q_line2 fe) | (first | omega | decide | (show _ ≤ sizeLine; decide) | (show _ < sizeLine; decide))) (ej_cons (K := K) (ev_fmt (ev_var rfl h_3) (by first | (first | exact rs2 hpre (by decide) (by decide) | exact rs2 (rl2 hpre (by decide)) (by decide) (by decide) | exact b_line fe | exact q_line1 fe | exact q_line2 fe) | (first | omega | decide | (show _ ≤ sizeLine; decide) | (show _ < sizeLine; decide)))) (by first | (first | exact rs2 hpre (by decide) (by decide) | exact rs2 (rl2 hpre (by decide)) (by decide) (by decide) | exact b_line fe | exact q_line1 fe | exact q_line2 fe) | (first | omega | decide | (show _ ≤ sizeLine; decide) | (show _ < sizeLine; decide))) (ej_cons (K := K) ev_str (by first | (first | exact rs2 hpre (by decide) (by decide) | exact rs2 (rl2 hpre (by decide)) (by decide) (by decide) | exact b_line fe | exact q_line1 fe | exact q_line2 fe) | (first | omega | decide | (show _ ≤ sizeLine; decide) | (show _ < sizeLine; decide))) ej_nil)))) fun u Gr Hr gq hu => ?_
    exact hQ u Gr Hr (gr.trans gq) (by rw [hM]; exact hu)
/-! #### text_in -/
def m_text_in_1 (d_quotation : Str) (d_1 : Str) : (Option Str) := (cond (!eqB (m_quoted d_1) d_quotation) (none : (Option Str)) (some d_1))
def m_text_in (d_quotation : Str) : (Option Str) := (m_text_in_1 d_quotation (Txt.replace (Txt.replace (cutS d_quotation (some (1 : Int)) (some (-(1 : Int)))) ("\\\"" : Str) ("\"" : Str)) ("\\\\" : Str) ("\\" : Str)))
abbrev p_text_in (K : PySem.W.Frag) : Sp := sp1 K (fun t => t.length ≤ 3000) m_text_in
theorem ok_text_in (T : Tx w K mg base A) : FnOk P w K mg base CX0 2 A.f_text_in A.d_text_in ["quotation"] (p_text_in K) := by
  refine okT T.F_text_in sc_text_in (by decide +kernel) (by decide) (fun vs He Q E h => ?_) (fun cdv A0 outer s He vs Q E hr h => ⟨_, (psst_cons (pst_asg (i := 1) sc_text_in.nd rfl (Or.inl rfl) (pet_replT (pet_replC (pe_slice sl_str (pv 0) (po_some pe_int) (po_some (pe_un un_neg pe_int)))))) (PSsT.of (pss_cons (ps_if (pt_cmpR op_ne (pe_call (ok_quoted T) (hr.mono (by decide)) rfl T.g_quoted T.F_quoted.kp T.b_quoted .nil pass0 (pa_cons (pv 1) pa_nil)) (pv 0) (nomark _)) (pss_one (ps_ret pe_non)) pss_nil) (pss_one (ps_ret (pv 1)))))), ?_⟩)
  · obtain ⟨d_quotation, w_quotation, G, rfl, eG, h_quotation, hpre, hQ⟩ := h
    rfl
  · obtain ⟨d_quotation, w_quotation, G, rfl, eG, h_quotation, hpre, hQ⟩ := h
    have gr : Grow G He G He := Grow.refl eG
    obtain ⟨Ge, eGe⟩ : ∃ z, z = G := ⟨G, rfl⟩
    have gr : Grow Ge He G He := by rw [eGe]; exact gr
    rw [← eGe] at hQ
    clear eGe
    have hM : m_text_in d_quotation = (m_text_in_1 d_quotation (Txt.replace (Txt.replace (cutS d_quotation (some (1 : Int)) (some (-(1 : Int)))) ("\\\"" : Str) ("\"" : Str)) ("\\\\" : Str) ("\\" : Str))) := rfl
    refine q_asg (K := K) gr.s (ev_replC (ev_replC (ev_slS (ev_var rfl h_quotation) (eo_some ev_int) (eo_some (ev_neg ev_int)) (by first | (first | exact n3 hpre | exact rs2 (Nat.le_trans (cutS_length _ _ _) hpre) (by decide) (by decide) | exact rs2 (rl2 (Nat.le_trans (cutS_length _ _ _) hpre) (by decide)) (by decide) (by decide) | exact fe) | (first | omega | decide | (show _ ≤ sizeLine; decide) | (show _ < sizeLine; decide)))) (by first | (first | exact n3 hpre | exact rs2 (Nat.le_trans (cutS_length _ _ _) hpre) (by decide) (by decide) | exact rs2 (rl2 (Nat.le_trans (cutS_length _ _ _) hpre) (by decide)) (by decide) (by decide) | exact fe) | (first | omega | decide | (show _ ≤ sizeLine; decide) | (show _ < sizeLine; decide)))) (by first | (first | exact n3 hpre | exact rs2 (Nat.le_trans (cutS_length _ _ _) hpre) (by decide) (by decide) | exact rs2 (rl2 (Nat.le_trans (cutS_length _ _ _) hpre) (by decide)) (by decide) (by decide) | exact fe) | (first | omega | decide | (show _ ≤ sizeLine; decide) | (show _ < sizeLine; decide)))) fun w_2 G5 H6 g4 (h_3 : rep K (Txt.replace (Txt.replace (cutS d_quotation (some (1 : Int)) (some (-(1 : Int)))) ("\\\"" : Str) ("\"" : Str)) ("\\\\" : Str) ("\\" : Str)) w_2 G5) => ?_
    have h_quotation := up g4.g h_quotation
    have gr := gr.trans g4
    generalize ed_1 : (Txt.replace (Txt.replace (cutS d_quotation (some (1 : Int)) (some (-(1 : Int)))) ("\\\"" : Str) ("\"" : Str)) ("\\\\" : Str) ("\\" : Str)) = d_1 at h_3 hM
    unfold m_text_in_1 at hM
    have fe : PreB d_1 := by rw [← ed_1]; exact Nat.le_trans (rl2 (rl2 (Nat.le_trans (cutS_length _ _ _) hpre) (by decide)) (by decide)) (by decide)
    refine q_if gr.s (et_test (ev_ne (ev_call1 (ev_var rfl h_3) (by first | (first | exact n3 hpre | exact rs2 (Nat.le_trans (cutS_length _ _ _) hpre) (by decide) (by decide) | exact rs2 (rl2 (Nat.le_trans (cutS_length _ _ _) hpre) (by decide)) (by decide) (by decide) | exact fe) | (first | omega | decide))) (ev_var rfl h_quotation))) ?_ ?_
    · intro hb8 G9 H10 g7
      have h_quotation := up g7.g h_quotation
      have h_3 := up g7.g h_3
      have gr := gr.trans g7
      replace hM := condT hM hb8
      refine s_ret (K := K) gr.s (ev_non (α := Str)) fun u Gr Hr gq hu => ?_
      exact hQ u Gr Hr (gr.trans gq) (by rw [hM]; exact hu)
    · intro hb8 G11 H12 g7
      have h_quotation := up g7.g h_quotation
      have h_3 := up g7.g h_3
      have gr := gr.trans g7
      replace hM := condF hM hb8
      refine s_next ?_
      refine nx_mk ?_
      refine s_ret (K := K) gr.s (ev_some (ev_var rfl h_3)) fun u Gr Hr gq hu => ?_
      exact hQ u Gr Hr (gr.trans gq) (by rw [hM]; exact hu)
/-! #### _is_number -/
def m__is_number (d_thing : PyData) (d_greatest : Int) : Bool := ((isIntD d_thing) && ((!(isBoolD d_thing)) && (decide ((0 : Int) ≤ (intD d_thing)) && decide ((intD d_thing) ≤ d_greatest))))
abbrev p__is_number (K : PySem.W.Frag) : Sp := sp2 K (fun _ _ => True) m__is_number
theorem ok__is_number (T : Tx w K mg base A) : FnOk P w K mg base CX0 1 A.f__is_number A.d__is_number ["thing", "greatest"] (p__is_number K) := by
  refine T.F__is_number.ok sc__is_number (fun vs He Q E h => ?_) (fun cdv A0 outer s He vs Q E hr h => ⟨_, (pss_one (ps_ret (pe_and (pe_callB (call_isiK (K := K)) rfl T.n_isinstance boot_isinstance (pa_cons (pv 0) (pa_cons (pe_bltn (v := .ty "int") rfl T.n_int (by decide +kernel) rfl) pa_nil))) (pe_and (pe_not (pe_callB (call_isiK (K := K)) rfl T.n_isinstance boot_isinstance (pa_cons (pv 0) (pa_cons (pe_bltn (v := .ty "bool") rfl T.n_bool (by decide +kernel) rfl) pa_nil)))) (pe_one (pe_chain op_le op_le pe_int (pv 0) (pv 1))))))), ?_⟩)
  · obtain ⟨d_thing, d_greatest, w_thing, w_greatest, G, rfl, eG, h_thing, h_greatest, hpre, hQ⟩ := h
    rfl
  · obtain ⟨d_thing, d_greatest, w_thing, w_greatest, G, rfl, eG, h_thing, h_greatest, hpre, hQ⟩ := h
    have gr : Grow G He G He := Grow.refl eG
    obtain ⟨Ge, eGe⟩ : ∃ z, z = G := ⟨G, rfl⟩
    have gr : Grow Ge He G He := by rw [eGe]; exact gr
    rw [← eGe] at hQ
    clear eGe
    have hM : m__is_number d_thing d_greatest = ((isIntD d_thing) && ((!(isBoolD d_thing)) && (decide ((0 : Int) ≤ (intD d_thing)) && decide ((intD d_thing) ≤ d_greatest)))) := rfl
    refine s_ret (K := K) gr.s (ev_andV (ev_isIntD (ev_var rfl h_thing)) (fun hb2 => (ev_andV (ev_notV (ev_isBoolD (ev_var rfl h_thing))) (fun hb1 => (ev_chain ev_int (ev_asInt (ev_var rfl h_thing) (by first | assumption | exact or_l (by assumption) | exact or_l (or_r (by assumption)) | exact num_of (by assumption) (by assumption) | exact not_fA (by assumption) | (first | omega | decide))) rv_le (fun _ => (ev_var rfl h_greatest)) rv_le))))) fun u Gr Hr gq hu => ?_
    exact hQ u Gr Hr (gr.trans gq) (by rw [hM]; exact hu)
/-! #### _is_text -/
def m__is_text_1 (d_thing : PyData) : Bool := (((strD d_thing)).cps.toList.all (fun k => !decide ([k] < ((" " : Str)).cps.toList) && !decide ((("~" : Str)).cps.toList < [k])))
def m__is_text (d_thing : PyData) : Bool := (cond ((!(isStrD d_thing)) || (decide ((100 : Int) < (((strD d_thing)).length : Int)))) false (m__is_text_1 d_thing))
abbrev p__is_text (K : PySem.W.Frag) : Sp := sp1 K (fun d => PreD d) m__is_text
theorem ok__is_text (T : Tx w K mg base A) : FnOk P w K mg base CX0 1 A.f__is_text A.d__is_text ["thing"] (p__is_text K) := by
  refine okC T.F__is_text T.C__is_text sc__is_text (fun vs He Q E h => ?_) (fun A0 outer s He vs Q E hr h => ⟨_, (pss_cons (ps_if (PW.pt (pw_or (pt_not (pt_val (pe_callB (call_isiK (K := K)) rfl T.n_isinstance boot_isinstance (pa_cons (pv 0) (pa_cons (pe_bltn (v := .ty "str") rfl T.n_str (by decide +kernel) rfl) pa_nil))))) (pw_or1 (pt_cmpR op_gt (pe_callB (call_lenK (K := K)) rfl T.n_len boot_len (pa_cons (pv 0) pa_nil)) (C8.pe_gc rfl T.c__LONGEST_TEXT) (nomark _))))) (pss_one (ps_ret pe_bl)) pss_nil) (pss_one (ps_ret (pe_allM hr rfl T.n_all (by decide +kernel) T.TB__is_text rfl (genS_of rfl rfl (by decide +kernel) rfl rfl (by decide +kernel)) (pv 0) (elt_range rfl rfl) fun _ => rfl)))), ?_⟩)
  · obtain ⟨d_thing, w_thing, G, rfl, eG, h_thing, hpre, hQ⟩ := h
    rfl
  · obtain ⟨d_thing, w_thing, G, rfl, eG, h_thing, hpre, hQ⟩ := h
    have gr : Grow G He G He := Grow.refl eG
    obtain ⟨Ge, eGe⟩ : ∃ z, z = G := ⟨G, rfl⟩
    have gr : Grow Ge He G He := by rw [eGe]; exact gr
    rw [← eGe] at hQ
    clear eGe
    have hM : m__is_text d_thing = (cond ((!(isStrD d_thing)) || (decide ((100 : Int) < (((strD d_thing)).length : Int)))) false (m__is_text_1 d_thing)) := rfl
    refine q_if gr.s (et_or (et_not (et_B (ev_isStrD (ev_var rfl h_thing)))) (fun hb1 => (et_test (ev_gt (ev_lenS (ev_asStr (ev_var rfl h_thing) (by first | (exact b_line hpre) | (first | assumption | exact or_l (by assumption) | exact or_l (or_r (by assumption)) | exact num_of (by assumption) (by assumption) | exact not_fA (by assumption) | (first | omega | decide)))) (by first | (exact b_line hpre) | (first | omega | decide | (show _ ≤ sizeLine; decide) | (show _ < sizeLine; decide)))) ev_int)))) ?_ ?_
    · intro hb4 G5 H6 g3
      have h_thing := up g3.g h_thing
      have gr := gr.trans g3
      replace hM := condT hM hb4
      refine s_ret (K := K) gr.s ev_bl fun u Gr Hr gq hu => ?_
      exact hQ u Gr Hr (gr.trans gq) (by rw [hM]; exact hu)
    · intro hb4 G7 H8 g3
      have h_thing := up g3.g h_thing
      have gr := gr.trans g3
      replace hM := condF hM hb4
      unfold m__is_text_1 at hM
      refine s_next ?_
      refine nx_mk ?_
      refine s_ret (K := K) gr.s (ev_all T.TM__is_text (ev_asStr (ev_var rfl h_thing) (by first | (exact b_line hpre) | (first | assumption | exact or_l (by assumption) | exact or_l (or_r (by assumption)) | exact num_of (by assumption) (by assumption) | exact not_fA (by assumption) | (first | omega | decide))))) fun u Gr Hr gq hu => ?_
      exact hQ u Gr Hr (gr.trans gq) (by rw [hM]; exact hu)
/-! #### _has_form -/
def m__has_form_1 (d_thing : PyData) (d_form : Str) : Bool := (m__is_number d_thing (cond (eqB d_form ("index" : Str)) (59 : Int) (1000000 : Int)))
def m__has_form_2 (d_thing : PyData) (d_form : Str) : Bool := (cond (eqB d_form ("tone" : Str)) (isBoolD d_thing) (m__has_form_1 d_thing d_form))
def m__has_form_3 (d_thing : PyData) (d_form : Str) : Bool := (cond (eqB d_form ("kind" : Str)) ((isStrD d_thing) && (memB (strD d_thing) ((Tpl.mk k_KINDS)).l)) (m__has_form_2 d_thing d_form))
def m__has_form_4 (d_thing : PyData) (d_form : Str) : Bool := (cond (eqB d_form ("text" : Str)) (m__is_text d_thing) (m__has_form_3 d_thing d_form))
def m__has_form_5 (d_thing : PyData) (d_form : Str) : Bool := (cond (eqB d_form ("label" : Str)) (m_is_label d_thing) (m__has_form_4 d_thing d_form))
def m__has_form (d_thing : PyData) (d_form : Str) : Bool := (cond (eqB d_form ("name" : Str)) (m_is_name d_thing) (m__has_form_5 d_thing d_form))
abbrev p__has_form (K : PySem.W.Frag) : Sp := sp2 K (fun d _ => PreD d) m__has_form
theorem ok__has_form (T : Tx w K mg base A) : FnOk P w K mg base CX0 2 A.f__has_form A.d__has_form ["thing", "form"] (p__has_form K) := by
  refine T.F__has_form.ok sc__has_form (fun vs He Q E h => ?_) (fun cdv A0 outer s He vs Q E hr h => ⟨_, (pss_cons (ps_if (pt_cmpR op_eq (pv 1) pe_str (nomark _)) (pss_one (ps_ret (pe_call (ok_is_name T) (hr.mono (by decide)) rfl T.g_is_name T.F_is_name.kp T.b_is_name .nil pass0 (pa_cons (pv 0) pa_nil)))) pss_nil) (pss_cons (ps_if (pt_cmpR op_eq (pv 1) pe_str (nomark _)) (pss_one (ps_ret (pe_call (ok_is_label T) (hr.mono (by decide)) rfl T.g_is_label T.F_is_label.kp T.b_is_label .nil pass0 (pa_cons (pv 0) pa_nil)))) pss_nil) (pss_cons (ps_if (pt_cmpR op_eq (pv 1) pe_str (nomark _)) (pss_one (ps_ret (pe_call (ok__is_text T) (hr.mono (by decide)) rfl T.g__is_text T.F__is_text.kp T.b__is_text .nil pass0 (pa_cons (pv 0) pa_nil)))) pss_nil) (pss_cons (ps_if (pt_cmpR op_eq (pv 1) pe_str (nomark _)) (pss_one (ps_ret (pe_and (pe_callB (call_isiK (K := K)) rfl T.n_isinstance boot_isinstance (pa_cons (pv 0) (pa_cons (pe_bltn (v := .ty "str") rfl T.n_str (by decide +kernel) rfl) pa_nil))) (pe_one (pe_cmpR (op_inK (K := K)) (pv 0) (C8.pe_gc (v := .ref A.k_KINDS) rfl ⟨_, T.c_KINDS, rfl⟩) (by rfl)))))) pss_nil) (pss_cons (ps_if (pt_cmpR op_eq (pv 1) pe_str (nomark _)) (pss_one (ps_ret (pe_callB (call_isiK (K := K)) rfl T.n_isinstance boot_isinstance (pa_cons (pv 0) (pa_cons (pe_bltn (v := .ty "bool") rfl T.n_bool (by decide +kernel) rfl) pa_nil))))) pss_nil) (pss_one (ps_ret (pe_call (ok__is_number T) (hr.mono (by decide)) rfl T.g__is_number T.F__is_number.kp T.b__is_number .nil pass0 (pa_cons (pv 0) (pa_cons (pe_ifExp (pt_cmpR op_eq (pv 1) pe_str (nomark _)) (C8.pe_gc rfl T.c__GREATEST_INDEX) (C8.pe_gc rfl T.c__GREATEST_NUMBER)) pa_nil)))))))))), ?_⟩)
  · obtain ⟨d_thing, d_form, w_thing, w_form, G, rfl, eG, h_thing, h_form, hpre, hQ⟩ := h
    rfl
  · obtain ⟨d_thing, d_form, w_thing, w_form, G, rfl, eG, h_thing, h_form, hpre, hQ⟩ := h
    have gr : Grow G He G He := Grow.refl eG
    obtain ⟨Ge, eGe⟩ : ∃ z, z = G := ⟨G, rfl⟩
    have gr : Grow Ge He G He := by rw [eGe]; exact gr
    rw [← eGe] at hQ
    clear eGe
    have hM : m__has_form d_thing d_form = (cond (eqB d_form ("name" : Str)) (m_is_name d_thing) (m__has_form_5 d_thing d_form)) := rfl
    refine q_if gr.s (et_test (ev_eq (ev_var rfl h_form) ev_str)) ?_ ?_
    · intro hb2 G3 H4 g1
      have h_thing := up g1.g h_thing
      have h_form := up g1.g h_form
      have gr := gr.trans g1
      replace hM := condT hM hb2
      refine s_ret (K := K) gr.s (ev_call1 (ev_var rfl h_thing) (by first | (exact hpre) | (first | omega | decide))) fun u Gr Hr gq hu => ?_
      exact hQ u Gr Hr (gr.trans gq) (by rw [hM]; exact hu)
    · intro hb2 G5 H6 g1
      have h_thing := up g1.g h_thing
      have h_form := up g1.g h_form
      have gr := gr.trans g1
      replace hM := condF hM hb2
      unfold m__has_form_5 at hM
      refine s_next ?_
      refine nx_mk ?_
      refine q_if gr.s (et_test (ev_eq (ev_var rfl h_form) ev_str)) ?_ ?_
      · intro hb8 G9 H10 g7
        have h_thing := up g7.g h_thing
        have h_form := up g7.g h_form
        have gr := gr.trans g7
        replace hM := condT hM hb8
        refine s_ret (K := K) gr.s (ev_call1 (ev_var rfl h_thing) (by first | (exact hpre) | (first | omega | decide))) fun u Gr Hr gq hu => ?_
        exact hQ u Gr Hr (gr.trans gq) (by rw [hM]; exact hu)
      · intro hb8 G11 H12 g7
        have h_thing := up g7.g h_thing
        have h_form := up g7.g h_form
        have gr := gr.trans g7
        replace hM := condF hM hb8
        unfold m__has_form_4 at hM
        refine s_next ?_
        refine nx_mk ?_
        refine q_if gr.s (et_test (ev_eq (ev_var rfl h_form) ev_str)) ?_ ?_
        · intro hb14 G15 H16 g13
          have h_thing := up g13.g h_thing
          have h_form := up g13.g h_form
          have gr := gr.trans g13
          replace hM := condT hM hb14
          refine s_ret (K := K) gr.s (ev_call1 (ev_var rfl h_thing) (by first | (exact hpre) | (first | omega | decide))) fun u Gr Hr gq hu => ?_
          exact hQ u Gr Hr (gr.trans gq) (by rw [hM]; exact hu)
        · intro hb14 G17 H18 g13
          have h_thing := up g13.g h_thing
          have h_form := up g13.g h_form
          have gr := gr.trans g13
          replace hM := condF hM hb14
          unfold m__has_form_3 at hM
          refine s_next ?_
          refine nx_mk ?_
          refine q_if gr.s (et_test (ev_eq (ev_var rfl h_form) ev_str)) ?_ ?_
          · intro hb20 G21 H22 g19
            have h_thing := up g19.g h_thing
            have h_form := up g19.g h_form
            have gr := gr.trans g19
            replace hM := condT hM hb20
            refine s_ret (K := K) gr.s (ev_andV (ev_isStrD (ev_var rfl h_thing)) (fun hb23 => (ev_inT (ev_asStr (ev_var rfl h_thing) (by first | (exact hpre) | (first | assumption | exact or_l (by assumption) | exact or_l (or_r (by assumption)) | exact num_of (by assumption) (by assumption) | exact not_fA (by assumption) | (first | omega | decide)))) (ev_c (T.r_KINDS _))))) fun u Gr Hr gq hu => ?_
            exact hQ u Gr Hr (gr.trans gq) (by rw [hM]; exact hu)
          · intro hb20 G24 H25 g19
            have h_thing := up g19.g h_thing
            have h_form := up g19.g h_form
            have gr := gr.trans g19
            replace hM := condF hM hb20
            unfold m__has_form_2 at hM
            refine s_next ?_
            refine nx_mk ?_
            refine q_if gr.s (et_test (ev_eq (ev_var rfl h_form) ev_str)) ?_ ?_
            · intro hb27 G28 H29 g26
              have h_thing := up g26.g h_thing
              have h_form := up g26.g h_form
              have gr := gr.trans g26
              replace hM := condT hM hb27
              refine s_ret (K := K) gr.s (ev_isBoolD (ev_var rfl h_thing)) fun u Gr Hr gq hu => ?_
              exact hQ u Gr Hr (gr.trans gq) (by rw [hM]; exact hu)
            · intro hb27 G30 H31 g26
              have h_thing := up g26.g h_thing
              have h_form := up g26.g h_form
              have gr := gr.trans g26
              replace hM := condF hM hb27
              unfold m__has_form_1 at hM
              refine s_next ?_
              refine nx_mk ?_
              refine s_ret (K := K) gr.s (ev_call2 (ev_var rfl h_thing) (ev_if (et_test (ev_eq (ev_var rfl h_form) ev_str)) (fun hb32 => ev_int) (fun hb33 => ev_int)) True.intro) fun u Gr Hr gq hu => ?_
              exact hQ u Gr Hr (gr.trans gq) (by rw [hM]; exact hu)
/-! #### is_deed -/
def m_is_deed_1 (d_12 : PyData) (d_15 : (Tpl PyData)) : Bool := ((List.map (fun (d_27 : PyData × Str) => (m__has_form d_27.1 d_27.2)) (List.zip d_15.l ((tabGet k_FORMS (strD d_12)).getD default).l)).all id)
def m_is_deed_2 (d_12 : PyData) (d_15 : (Tpl PyData)) : Bool := (cond ((!(isStrD d_12)) || ((!(tabGet k_FORMS (strD d_12)).isSome) || (!eqB ((d_15).l.length : Int) ((((tabGet k_FORMS (strD d_12)).getD default)).l.length : Int)))) false (m_is_deed_1 d_12 d_15))
def m_is_deed_3 (d_thing : PyData) : Bool := (m_is_deed_2 (getI ((Tpl.mk (tupD d_thing))).l (0 : Int)) (Tpl.mk (cutL ((Tpl.mk (tupD d_thing))).l (some (1 : Int)) none)))
def m_is_deed (d_thing : PyData) : Bool := (cond ((!(isTupD d_thing)) || (eqB (((Tpl.mk (tupD d_thing))).l.length : Int) (0 : Int))) false (m_is_deed_3 d_thing))
abbrev p_is_deed (K : PySem.W.Frag) : Sp := sp1 K (fun d => (tupD d).length ≤ 4000 ∧ ∀ x ∈ tupD d, PreD x) m_is_deed
theorem ok_is_deed (T : Tx w K mg base A) : FnOk P w K mg base CX0 3 A.f_is_deed A.d_is_deed ["thing"] (p_is_deed K) := by
  refine T.F_is_deed.ok sc_is_deed (fun vs He Q E h => ?_) (fun cdv A0 outer s He vs Q E hr h => ⟨_, (pss_cons (ps_if (PW.pt (pw_or (pt_not (pt_val (pe_callB (call_isiK (K := K)) rfl T.n_isinstance boot_isinstance (pa_cons (pv 0) (pa_cons (pe_bltn (v := .ty "tuple") rfl T.n_tuple (by decide +kernel) rfl) pa_nil))))) (pw_or1 (pt_cmpR op_eq (pe_callB (call_lenK (K := K)) rfl T.n_len boot_len (pa_cons (pv 0) pa_nil)) pe_int (nomark _))))) (pss_one (ps_ret pe_bl)) pss_nil) (pss_cons (ps_par (i := 1) (j := 2) rfl sc_is_deed.nd rfl rfl (by decide) rfl rfl (pa_cons (pe_ix (ix_tupK (K := K)) (pv 0) pe_int fun _ _ => rfl) (pa_cons (pe_slice (sl_tupK (K := K)) (pv 0) (po_some pe_int) po_none) pa_nil)) (by rfl)) (pss_cons (ps_if (PW.pt (pw_or (pt_not (pt_val (pe_callB (call_isiK (K := K)) rfl T.n_isinstance boot_isinstance (pa_cons (pv 1) (pa_cons (pe_bltn (v := .ty "str") rfl T.n_str (by decide +kernel) rfl) pa_nil))))) (pw_or (pt_cmpR (op_ninKD (K := K) (w := w)) (pv 1) (C8.pe_gc (v := .ref A.k_FORMS) rfl ⟨_, T.c_FORMS, rfl⟩) (by rfl)) (pw_or1 (pt_cmpR op_ne (pe_callB (call_lenK (K := K)) rfl T.n_len boot_len (pa_cons (pv 2) pa_nil)) (pe_callB (call_lenK (K := K)) rfl T.n_len boot_len (pa_cons (pe_ix (ix_KD (K := K) (w := w)) (C8.pe_gc (v := .ref A.k_FORMS) rfl ⟨_, T.c_FORMS, rfl⟩) (pv 1) fun _ _ => rfl) pa_nil)) (nomark _)))))) (pss_one (ps_ret pe_bl)) pss_nil) (pss_one (ps_ret (pe_callB (cr_allK (K := K) rfl) rfl T.n_all (by decide +kernel) (pa_cons (pe_lc (own := [("argument", 3), ("form", 4)]) (g := (gTup K 2 (gCons (gName 3) (gCons (gName 4) gNil)))) (tt := tYes) rfl sc_is_deed.nd (pi_zipAK (K := K) rfl T.n_zip (pa_cons (pv 2) (pa_cons (pe_ix (ix_KD (K := K) (w := w)) (C8.pe_gc (v := .ref A.k_FORMS) rfl ⟨_, T.c_FORMS, rfl⟩) (pv 1) fun _ _ => rfl) pa_nil))) (blkOk_by (N := n_is_deed) (sc := defScope s_is_deed) (by decide +kernel)) (fun _ _ _ _ _ => pg_tup rfl (pgs_cons (pg_name (i := 3) sc_is_deed.nd rfl (Or.inl rfl)) (pgs_cons (pg_name (i := 4) sc_is_deed.nd rfl (Or.inl rfl)) pgs_nil))) (fun _ _ _ _ _ => pts_nil) (fun _ _ _ _ _ => (pe_call (ok__has_form T) (hr.mono (by decide)) rfl T.g__has_form T.F__has_form.kp T.b__has_form .nil pass0 (pa_cons (pv 3) (pa_cons (pv 4) pa_nil))))) pa_nil))))))), ?_⟩)
  · obtain ⟨d_thing, w_thing, G, rfl, eG, h_thing, hpre, hQ⟩ := h
    rfl
  · obtain ⟨d_thing, w_thing, G, rfl, eG, h_thing, hpre, hQ⟩ := h
    have gr : Grow G He G He := Grow.refl eG
    obtain ⟨Ge, eGe⟩ : ∃ z, z = G := ⟨G, rfl⟩
    have gr : Grow Ge He G He := by rw [eGe]; exact gr
    rw [← eGe] at hQ
    clear eGe
    have hM : m_is_deed d_thing = (cond ((!(isTupD d_thing)) || (eqB (((Tpl.mk (tupD d_thing))).l.length : Int) (0 : Int))) false (m_is_deed_3 d_thing)) := rfl
    refine q_if gr.s (et_or (et_not (et_B (ev_isTupD (ev_var rfl h_thing)))) (fun hb1 => (et_test (ev_eq (ev_lenT (ev_asTup (ev_var rfl h_thing) (by first | (first | exact deed_at (or_r (a := !isTupD d_thing) (by assumption)) | exact not_f (by assumption) | exact not_f (or_l (or_r (a := !isStrD d_12) (by assumption))) | exact not_f (or_l0 (or_r (a := !isStrD d_12) (by assumption))) | exact zip_lt fa.1 | exact fa.2 _ (zip_mem (by assumption))) | (first | assumption | exact or_l (by assumption) | exact or_l (or_r (by assumption)) | exact num_of (by assumption) (by assumption) | exact not_fA (by assumption) | (first | omega | decide))))) ev_int)))) ?_ ?_
    · intro hb4 G5 H6 g3
      have h_thing := up g3.g h_thing
      have gr := gr.trans g3
      replace hM := condT hM hb4
      refine s_ret (K := K) gr.s ev_bl fun u Gr Hr gq hu => ?_
      exact hQ u Gr Hr (gr.trans gq) (by rw [hM]; exact hu)
    · intro hb4 G7 H8 g3
      have h_thing := up g3.g h_thing
      have gr := gr.trans g3
      replace hM := condF hM hb4
      unfold m_is_deed_3 at hM
      refine s_next ?_
      refine nx_mk ?_
      refine q_par (K := K) gr.s (ev_ixT (ev_asTup (ev_var rfl h_thing) (by first | (first | exact deed_at (or_r (a := !isTupD d_thing) (by assumption)) | exact not_f (by assumption) | exact not_f (or_l (or_r (a := !isStrD d_12) (by assumption))) | exact not_f (or_l0 (or_r (a := !isStrD d_12) (by assumption))) | exact zip_lt fa.1 | exact fa.2 _ (zip_mem (by assumption))) | (first | assumption | exact or_l (by assumption) | exact or_l (or_r (by assumption)) | exact num_of (by assumption) (by assumption) | exact not_fA (by assumption) | (first | omega | decide)))) ev_int (atI_get (by first | (first | exact deed_at (or_r (a := !isTupD d_thing) (by assumption)) | exact not_f (by assumption) | exact not_f (or_l (or_r (a := !isStrD d_12) (by assumption))) | exact not_f (or_l0 (or_r (a := !isStrD d_12) (by assumption))) | exact zip_lt fa.1 | exact fa.2 _ (zip_mem (by assumption))) | (first | decide | (refine at_in ?_ ?_ <;> omega) | (refine at_neg ?_ ?_ <;> omega))))) (ev_slT (ev_asTup (ev_var rfl h_thing) (by first | (first | exact deed_at (or_r (a := !isTupD d_thing) (by assumption)) | exact not_f (by assumption) | exact not_f (or_l (or_r (a := !isStrD d_12) (by assumption))) | exact not_f (or_l0 (or_r (a := !isStrD d_12) (by assumption))) | exact zip_lt fa.1 | exact fa.2 _ (zip_mem (by assumption))) | (first | assumption | exact or_l (by assumption) | exact or_l (or_r (by assumption)) | exact num_of (by assumption) (by assumption) | exact not_fA (by assumption) | (first | omega | decide)))) (eo_some ev_int) eo_none) fun w_13 w_16 G10 H11 g9 h_14 h_17 => ?_
      have h_thing := up g9.g h_thing
      have gr := gr.trans g9
      generalize ed_12 : (getI ((Tpl.mk (tupD d_thing))).l (0 : Int)) = d_12 at h_14 hM
      generalize ed_15 : (Tpl.mk (cutL ((Tpl.mk (tupD d_thing))).l (some (1 : Int)) none)) = d_15 at h_17 hM
      unfold m_is_deed_2 at hM
      have fa : d_15.l.length ≤ 4000 ∧ ∀ x ∈ d_15.l, PreD x := by rw [← ed_15]; exact ⟨Nat.le_trans (cut_le _ _ _) hpre.1, fun x hx => hpre.2 x (cut_mem hx)⟩
      refine q_if gr.s (et_or (et_not (et_B (ev_isStrD (ev_var rfl h_14)))) (fun hb18 => (et_or (et_test (ev_ninKD T.kd_FORMS (ev_asStr (ev_var rfl h_14) (by first | (first | exact deed_at (or_r (a := !isTupD d_thing) (by assumption)) | exact not_f (by assumption) | exact not_f (or_l (or_r (a := !isStrD d_12) (by assumption))) | exact not_f (or_l0 (or_r (a := !isStrD d_12) (by assumption))) | exact zip_lt fa.1 | exact fa.2 _ (zip_mem (by assumption))) | (first | assumption | exact or_l (by assumption) | exact or_l (or_r (by assumption)) | exact num_of (by assumption) (by assumption) | exact not_fA (by assumption) | (first | omega | decide)))))) (fun hb19 => (et_test (ev_ne (ev_lenT (ev_var rfl h_17)) (ev_lenT (ev_ixKD (d := default) T.kd_FORMS (ev_asStr (ev_var rfl h_14) (by first | (first | exact deed_at (or_r (a := !isTupD d_thing) (by assumption)) | exact not_f (by assumption) | exact not_f (or_l (or_r (a := !isStrD d_12) (by assumption))) | exact not_f (or_l0 (or_r (a := !isStrD d_12) (by assumption))) | exact zip_lt fa.1 | exact fa.2 _ (zip_mem (by assumption))) | (first | assumption | exact or_l (by assumption) | exact or_l (or_r (by assumption)) | exact num_of (by assumption) (by assumption) | exact not_fA (by assumption) | (first | omega | decide)))) (by first | (first | exact deed_at (or_r (a := !isTupD d_thing) (by assumption)) | exact not_f (by assumption) | exact not_f (or_l (or_r (a := !isStrD d_12) (by assumption))) | exact not_f (or_l0 (or_r (a := !isStrD d_12) (by assumption))) | exact zip_lt fa.1 | exact fa.2 _ (zip_mem (by assumption))) | (first | assumption | (first | omega | decide))))))))))) ?_ ?_
      · intro hb22 G23 H24 g21
        have h_thing := up g21.g h_thing
        have h_14 := up g21.g h_14
        have h_17 := up g21.g h_17
        have gr := gr.trans g21
        replace hM := condT hM hb22
        refine s_ret (K := K) gr.s ev_bl fun u Gr Hr gq hu => ?_
        exact hQ u Gr Hr (gr.trans gq) (by rw [hM]; exact hu)
      · intro hb22 G25 H26 g21
        have h_thing := up g21.g h_thing
        have h_14 := up g21.g h_14
        have h_17 := up g21.g h_17
        have gr := gr.trans g21
        replace hM := condF hM hb22
        unfold m_is_deed_1 at hM
        refine s_next ?_
        refine nx_mk ?_
        refine s_ret (K := K) gr.s (ev_allL (ev_lcZm (fun (d_27 : PyData × Str) => (m__has_form d_27.1 d_27.2)) (ev_var rfl h_17) (ev_ixKD (d := default) T.kd_FORMS (ev_asStr (ev_var rfl h_14) (by first | (first | exact deed_at (or_r (a := !isTupD d_thing) (by assumption)) | exact not_f (by assumption) | exact not_f (or_l (or_r (a := !isStrD d_12) (by assumption))) | exact not_f (or_l0 (or_r (a := !isStrD d_12) (by assumption))) | exact zip_lt fa.1 | exact fa.2 _ (zip_mem (by assumption))) | (first | assumption | exact or_l (by assumption) | exact or_l (or_r (by assumption)) | exact num_of (by assumption) (by assumption) | exact not_fA (by assumption) | (first | omega | decide)))) (by first | (first | exact deed_at (or_r (a := !isTupD d_thing) (by assumption)) | exact not_f (by assumption) | exact not_f (or_l (or_r (a := !isStrD d_12) (by assumption))) | exact not_f (or_l0 (or_r (a := !isStrD d_12) (by assumption))) | exact zip_lt fa.1 | exact fa.2 _ (zip_mem (by assumption))) | (first | assumption | (first | omega | decide)))) (by first | (first | exact deed_at (or_r (a := !isTupD d_thing) (by assumption)) | exact not_f (by assumption) | exact not_f (or_l (or_r (a := !isStrD d_12) (by assumption))) | exact not_f (or_l0 (or_r (a := !isStrD d_12) (by assumption))) | exact zip_lt fa.1 | exact fa.2 _ (zip_mem (by assumption))) | (first | omega | decide | (show _ ≤ sizeLine; decide) | (show _ < sizeLine; decide))) (fun d_27 w_28 G_ H_ sg34 sh_ hm36 h_29 P k => by refine pair_apart h_29 sh_ fun w_30 w_32 h_31 h_33 => ?_; exact k _ rfl eb_yes (fun hc35 => (ev_call2 (ev_var rfl h_31) (ev_var rfl h_33) (by first | (first | exact deed_at (or_r (a := !isTupD d_thing) (by assumption)) | exact not_f (by assumption) | exact not_f (or_l (or_r (a := !isStrD d_12) (by assumption))) | exact not_f (or_l0 (or_r (a := !isStrD d_12) (by assumption))) | exact zip_lt fa.1 | exact fa.2 _ (zip_mem (by assumption))) | (first | omega | decide))))))) fun u Gr Hr gq hu => ?_
        exact hQ u Gr Hr (gr.trans gq) (by rw [hM]; exact hu)
/-! #### _end_of_part -/

theorem getI_app {pre r : List Nat} {x : Nat} : getI (pre ++ x :: r) (pre.length : Int) = x := by
  rw [getI_nat (Int.natCast_nonneg _) (by rw [List.length_append, List.length_cons]; omega)]
  show (pre ++ x :: r).getD pre.length default = x
  rw [List.getD_eq_getElem?_getD, List.getElem?_append_right (Nat.le_refl _), Nat.sub_self]
  rfl
theorem getS_app {t : Str} {pre r : List Nat} {x : Nat} (h : TL.tl t = pre ++ x :: r) {k : Int} (hk : k = pre.length) : getS t k = ⟨#[x]⟩ := by
  have e : getI t.cps.toList k = x := by
    rw [hk, show t.cps.toList = pre ++ x :: r from h]
    exact getI_app
  unfold getS
  rw [e]

def m__end_of_part_1 (d_41 : Int) (d_31 : Bool) : (Bool × Int) := (d_31, d_41)
def m__end_of_part_2 (d_text : Str) (d_19 : Int) (d_31 : Bool) : (Bool × Int) := (m__end_of_part_1 (d_19 + (cond (d_31 && (eqB (getS d_text d_19) ("\\" : Str))) (2 : Int) (1 : Int))) d_31)
def m__end_of_part_3 (d_53 : Int) (d_16 : Bool) : (Bool × Int) := (d_16, d_53)
def m__end_of_part_4 (d_text : Str) (d_19 : Int) (d_16 : Bool) : (Bool × Int) := (m__end_of_part_3 (d_19 + (cond (d_16 && (eqB (getS d_text d_19) ("\\" : Str))) (2 : Int) (1 : Int))) d_16)
def m__end_of_part_5 (d_text : Str) (d_19 : Int) (d_16 : Bool) : (Bool × Int) := (cond (eqB (getS d_text d_19) ("\"" : Str)) (m__end_of_part_2 d_text d_19 (!d_16)) (m__end_of_part_4 d_text d_19 d_16))
def m__end_of_part_6 (d_text : Str) (s : Bool × Int) : (Bool × Int) := m__end_of_part_5 d_text ((s).2) ((s).1)
def m__end_of_part_6c (d_text : Str) (s : Bool × Int) : Bool := ((decide (((s).2) < ((d_text).length : Int))) && (((s).1) || (!eqB (getS d_text ((s).2)) (" " : Str))))
def m__end_of_part_7  (s : Bool × Int) : Int := (s).2
def m__end_of_part_8 (d_text : Str) (d_1 : Int) (d_7 : Bool) : Int := (m__end_of_part_7 (whl (m__end_of_part_6c d_text) (m__end_of_part_6 d_text) ((fun (s : Bool × Int) => ((d_text.length : Int) + 2 - s.2).toNat) (d_7, d_1)) (d_7, d_1)))
def m__end_of_part_9 (d_text : Str) (d_1 : Int) : Int := (m__end_of_part_8 d_text d_1 false)
def m__end_of_part (d_text : Str) : Int := (m__end_of_part_9 d_text (0 : Int))
abbrev p__end_of_part (K : PySem.W.Frag) : Sp := sp1 K (fun t => t.length ≤ 3000) m__end_of_part

theorem eop_step (t : Str) {pre r : List Nat} {c : Nat} (b : Bool) (h : TL.tl t = pre ++ c :: r) : m__end_of_part_6c t (b, (pre.length : Int)) = !decide (b = false ∧ c = 32) ∧
    m__end_of_part_6 t (b, (pre.length : Int)) = (flp b c, (pre.length : Int) + (if flp b c = true ∧ c = 92 then 2 else 1)) := by
  have hl : t.length = pre.length + (r.length + 1) := by rw [TL.len_tl, h, List.length_append, List.length_cons]
  have hg : getS t (pre.length : Int) = ⟨#[c]⟩ := getS_app h rfl
  have tb : ∀ b2 : Bool, (cond (b2 && eqB (⟨#[c]⟩ : Str) ("\\" : Str)) (2 : Int) 1) = (if b2 = true ∧ c = 92 then 2 else 1) := fun b2 => by
    rw [eq1 (k := 92) (by decide +kernel)]
    by_cases q : c = 92
    · rw [decide_eq_true q]
      cases b2 with
      | true => rw [if_pos ⟨rfl, q⟩]; rfl
      | false => rw [if_neg (fun z => Bool.noConfusion z.1)]; rfl
    · rw [decide_eq_false q, if_neg (fun z => q z.2)]
      cases b2 <;> rfl
  refine ⟨?_, ?_⟩
  · show (decide ((pre.length : Int) < (t.length : Int)) && (b || !eqB (getS t (pre.length : Int)) (" " : Str))) = _
    rw [hg, eq1 (k := 32) (by decide +kernel), decide_eq_true (by rw [hl]; omega)]
    cases b with
    | true =>
      rw [decide_eq_false (p := (true = false ∧ c = 32)) (fun z => Bool.noConfusion z.1)]
      rfl
    | false =>
      by_cases q : c = 32
      · rw [decide_eq_true q, decide_eq_true (p := (false = false ∧ c = 32)) ⟨rfl, q⟩]; rfl
      · rw [decide_eq_false q, decide_eq_false (p := (false = false ∧ c = 32)) (fun z => q z.2)]; rfl
  · show m__end_of_part_5 t (pre.length : Int) b = _
    unfold m__end_of_part_5
    rw [hg, eq1 (k := 34) (by decide +kernel)]
    by_cases q : c = 34
    · rw [decide_eq_true q]
      show m__end_of_part_2 t (pre.length : Int) (!b) = _
      have e : flp b c = !b := if_pos q
      unfold m__end_of_part_2
      rw [hg, tb, e]
      rfl
    · rw [decide_eq_false q]
      show m__end_of_part_4 t (pre.length : Int) b = _
      have e : flp b c = b := if_neg q
      unfold m__end_of_part_4
      rw [hg, tb, e]
      rfl
theorem eop_stop (t : Str) (b : Bool) {n : Int} (h : (t.length : Int) ≤ n) : m__end_of_part_6c t (b, n) = false := by
  show (decide (n < (t.length : Int)) && _) = false
  rw [decide_eq_false (by omega)]
  rfl
theorem eop_whl (t : Str) : ∀ (n : Nat) (cs pre : List Nat) (b : Bool), TL.tl t = pre ++ cs → cs.length ≤ n → (whl (m__end_of_part_6c t) (m__end_of_part_6 t) n (b, (pre.length : Int))).2 = (pre.length : Int) + (scn b cs : Nat)
  | n, [], pre, b, h, _ => by
    rw [whl_stop (eop_stop t b (by rw [TL.len_tl, h, List.append_nil]; exact Int.le_refl _))]
    show (pre.length : Int) = pre.length + ((scn b [] : Nat) : Int)
    rw [show scn b [] = 0 from rfl]
    omega
  | 0, c :: r, _, _, _, hn => absurd hn (by rw [List.length_cons]; omega)
  | n + 1, c :: r, pre, b, h, hn => by
    obtain ⟨h1, h2⟩ := eop_step t b h
    have hn' : r.length ≤ n := by rw [List.length_cons] at hn; omega
    rw [scn_c]
    show (cond (m__end_of_part_6c t (b, (pre.length : Int))) (whl _ _ n (m__end_of_part_6 t (b, (pre.length : Int)))) _).2 = _
    rw [h1]
    by_cases q : b = false ∧ c = 32
    · rw [decide_eq_true q, if_pos q]
      show (pre.length : Int) = pre.length + ((0 : Nat) : Int)
      omega
    · rw [decide_eq_false q, if_neg q, h2]
      show (whl _ _ n (flp b c, _)).2 = _
      by_cases q2 : flp b c = true ∧ c = 92
      · rw [if_pos q2, if_pos q2]
        cases r with
        | nil =>
          rw [whl_stop (eop_stop t _ (by rw [TL.len_tl, h, List.length_append]; show ((pre.length + 1 : Nat) : Int) ≤ _; omega))]
          show (pre.length : Int) + 2 = pre.length + ((2 + scn (flp b c) [] : Nat) : Int)
          rw [show scn (flp b c) [] = 0 from rfl]
          omega
        | cons d r2 =>
          have h3 : TL.tl t = (pre ++ [c, d]) ++ r2 := by rw [h, List.append_assoc]; rfl
          have e3 : ((pre ++ [c, d]).length : Int) = (pre.length : Int) + 2 := by rw [List.length_append]; rfl
          have ih := eop_whl t n r2 (pre ++ [c, d]) (flp b c) h3 (by rw [List.length_cons] at hn'; omega)
          rw [e3] at ih
          rw [ih]
          show (pre.length : Int) + 2 + _ = pre.length + ((2 + scn (flp b c) r2 : Nat) : Int)
          omega
      · rw [if_neg q2, if_neg q2]
        have h3 : TL.tl t = (pre ++ [c]) ++ r := by rw [h, List.append_assoc]; rfl
        have e3 : ((pre ++ [c]).length : Int) = (pre.length : Int) + 1 := by rw [List.length_append]; rfl
        have ih := eop_whl t n r (pre ++ [c]) (flp b c) h3 hn'
        rw [e3] at ih
        rw [ih]
        omega
theorem eop_is (t : Str) : m__end_of_part t = ((scn false (TL.tl t) : Nat) : Int) := by
  have h := eop_whl t ((t.length : Int) + 2 - 0).toNat (TL.tl t) [] false rfl (by rw [← TL.len_tl]; omega)
  show (whl (m__end_of_part_6c t) (m__end_of_part_6 t) ((t.length : Int) + 2 - 0).toNat (false, ((0 : Nat) : Int))).2 = _
  rw [show (([] : List Nat).length : Int) = ((0 : Nat) : Int) from rfl] at h
  rw [h]
  show ((0 : Nat) : Int) + _ = _
  omega
theorem eop_dec (d_text : Str) : ∀ s : Bool × Int, (0 ≤ s.2 ∧ s.2 ≤ (d_text.length : Int) + 1) → m__end_of_part_6c d_text s = true → (0 ≤ (m__end_of_part_6 d_text s).2 ∧ (m__end_of_part_6 d_text s).2 ≤ (d_text.length : Int) + 1) ∧ ((d_text.length : Int) + 2 - (m__end_of_part_6 d_text s).2).toNat < ((d_text.length : Int) + 2 - s.2).toNat := by
  intro ⟨b, n⟩ ⟨h0, h1⟩ hc
  have h0 : 0 ≤ n := h0
  have hn : n < (d_text.length : Int) := by
    have hc : (decide (n < (d_text.length : Int)) && _) = true := hc
    exact of_decide_eq_true (Bool.and_eq_true_iff.mp hc).1
  obtain ⟨k, rfl⟩ : ∃ k : Nat, n = (k : Int) := ⟨n.toNat, by omega⟩
  have hk : k < (TL.tl d_text).length := by rw [← TL.len_tl]; omega
  have e1 : TL.tl d_text = (TL.tl d_text).take k ++ (TL.tl d_text)[k] :: (TL.tl d_text).drop (k + 1) := by rw [List.getElem_cons_drop, List.take_append_drop]
  have e2 : ((TL.tl d_text).take k).length = k := by rw [List.length_take]; omega
  obtain ⟨_, h2⟩ := eop_step d_text b e1
  rw [e2] at h2
  rw [h2]
  show (0 ≤ (k : Int) + (if _ then (2 : Int) else 1) ∧ (k : Int) + (if _ then (2 : Int) else 1) ≤ (d_text.length : Int) + 1) ∧ ((d_text.length : Int) + 2 - ((k : Int) + (if _ then (2 : Int) else 1))).toNat < ((d_text.length : Int) + 2 - (k : Int)).toNat
  split <;> omega
theorem at_txt {t : Str} {n : Int} (h0 : 0 ≤ n) (h1 : n < (t.length : Int)) : (atI t.cps.toList n).isSome = true := at_in h0 (by rw [Array.length_toList]; exact h1)

theorem ok__end_of_part (T : Tx w K mg base A) : FnOk P w K mg base CX0 1 A.f__end_of_part A.d__end_of_part ["text"] (p__end_of_part K) := by
  refine T.F__end_of_part.ok sc__end_of_part (fun vs He Q E h => ?_) (fun cdv A0 outer s He vs Q E hr h => ⟨_, (pss_cons (ps_set (i := 1) sc__end_of_part.nd rfl (Or.inl rfl) pe_int) (pss_cons (ps_set (i := 2) sc__end_of_part.nd rfl (Or.inl rfl) pe_bl) (pss_cons (ps_while PassesOwn.never (PW.pt (pw_and (pt_cmpR op_lt (pv 1) (pe_callB (call_lenK (K := K)) rfl T.n_len boot_len (pa_cons (pv 0) pa_nil)) (nomark _)) (pw_and1 (PW.pt (pw_or (pt_val (pv 2)) (pw_or1 (pt_cmpR op_ne (pe_ix ix_str (pv 0) (pv 1) fun _ _ => rfl) pe_str (nomark _)))))))) (pss_cons (ps_if (pt_cmpR op_eq (pe_ix ix_str (pv 0) (pv 1) fun _ _ => rfl) pe_str (nomark _)) (pss_one (ps_set (i := 2) sc__end_of_part.nd rfl (Or.inl rfl) (pe_not (pv 2)))) pss_nil) (pss_one (ps_aug (i := 1) sc__end_of_part.nd rfl (Or.inl rfl) (pe_ifExp (PW.pt (pw_and (pt_val (pv 2)) (pw_and1 (pt_cmpR op_eq (pe_ix ix_str (pv 0) (pv 1) fun _ _ => rfl) pe_str (nomark _))))) pe_int pe_int) ip_add)))) (pss_one (ps_ret (pv 1)))))), ?_⟩)
  · obtain ⟨d_text, w_text, G, rfl, eG, h_text, hpre, hQ⟩ := h
    rfl
  · obtain ⟨d_text, w_text, G, rfl, eG, h_text, hpre, hQ⟩ := h
    have gr : Grow G He G He := Grow.refl eG
    obtain ⟨Ge, eGe⟩ : ∃ z, z = G := ⟨G, rfl⟩
    have gr : Grow Ge He G He := by rw [eGe]; exact gr
    rw [← eGe] at hQ
    clear eGe
    have hM : m__end_of_part d_text = (m__end_of_part_9 d_text (0 : Int)) := rfl
    refine q_asg (K := K) gr.s ev_int fun w_2 G5 H6 g4 (h_3 : rep K (0 : Int) w_2 G5) => ?_
    have h_text := up g4.g h_text
    have gr := gr.trans g4
    obtain ⟨d_1, ed_1⟩ : ∃ z, (0 : Int) = z := ⟨_, rfl⟩
    rw [ed_1] at h_3 hM
    unfold m__end_of_part_9 at hM
    refine q_asg (K := K) gr.s ev_bl fun w_8 G11 H12 g10 (h_9 : rep K false w_8 G11) => ?_
    have h_text := up g10.g h_text
    have h_3 := up g10.g h_3
    have gr := gr.trans g10
    obtain ⟨d_7, ed_7⟩ : ∃ z, false = z := ⟨_, rfl⟩
    rw [ed_7] at h_9 hM
    unfold m__end_of_part_8 at hM
    refine q_whl (m__end_of_part_6c d_text) (m__end_of_part_6 d_text) (fun (s : Bool × Int) => 0 ≤ s.2 ∧ s.2 ≤ (d_text.length : Int) + 1) (fun (s : Bool × Int) => ((d_text.length : Int) + 2 - s.2).toNat) (d_7, d_1) (by refine ⟨?_, ?_⟩; (show (0 : Int) ≤ _; rw [← ed_1]; exact Int.le_refl 0); (show _ ≤ _; rw [← ed_1]; omega)) (by exact eop_dec d_text) gr.s fun G13 H14 g15 => ?_
    have h_text := up g15.g h_text
    have h_3 := up g15.g h_3
    have h_9 := up g15.g h_9
    have gr := gr.trans g15
    refine ⟨fun s_ σ_ H_ => ∃ (G59 : Hp) (w_17 : V) (w_20 : V), Grow Ge He G59 H_ ∧ Same G13 G59 ∧ σ_ = [some w_text, some w_20, some w_17] ∧ rep K ((s_).1 : Bool) w_17 G59 ∧ rep K ((s_).2 : Int) w_20 G59, ⟨_, w_8, w_2, gr, Same.refl _, rfl, h_9, h_3⟩, ?_⟩
    rintro st_0 σ_0 H_0 is_0 ⟨G59, w_17, w_20, gr, sg0, rfl, h_18, h_21⟩
    have h_text := up sg0 h_text
    have hMo0 := hM
    obtain ⟨d_16, d_19⟩ := st_0
    dsimp only at is_0 h_18 h_21
    have fi : 0 ≤ d_19 := is_0.1
    have fj : d_19 ≤ (d_text.length : Int) + 1 := is_0.2
    have fp : d_text.length ≤ 3000 := hpre
    refine ⟨_, gr.s, (et_and (et_test (ev_lt (ev_var rfl h_21) (ev_lenS (ev_var rfl h_text) (by first | (first | exact n3 hpre | exact at_txt fi fc | exact at_txt fi (of_decide_eq_true (by assumption))) | (first | omega | decide | (show _ ≤ sizeLine; decide) | (show _ < sizeLine; decide)))))) (fun hb22 => (et_or (et_B (ev_var rfl h_18)) (fun hb23 => (et_test (ev_ne (ev_ixS (ev_var rfl h_text) (ev_var rfl h_21) (by first | (first | exact n3 hpre | exact at_txt fi fc | exact at_txt fi (of_decide_eq_true (by assumption))) | (first | omega | decide | (show _ ≤ sizeLine; decide) | (show _ < sizeLine; decide))) (atI_get (by first | (first | exact n3 hpre | exact at_txt fi fc | exact at_txt fi (of_decide_eq_true (by assumption))) | (first | decide | (refine at_in ?_ ?_ <;> omega) | (refine at_neg ?_ ?_ <;> omega))))) ev_str)))))), ?_, ?_⟩
    · intro hb26 G60 H61 g62
      have h_text := up g62.g h_text
      have h_21 := up g62.g h_21
      have h_18 := up g62.g h_18
      have sg0 := sg0.trans g62.g
      have gr := gr.trans g62
      unfold m__end_of_part_6c at hb26
      dsimp only at hb26
      have hM : (m__end_of_part_6 d_text) (d_16, d_19) = (m__end_of_part_6 d_text) (d_16, d_19) := rfl
      conv at hM => rhs; unfold m__end_of_part_6; unfold m__end_of_part_5
      dsimp only at hM
      have fc : d_19 < (d_text.length : Int) := of_decide_eq_true (Bool.and_eq_true_iff.mp (by assumption)).1
      refine q_if gr.s (et_test (ev_eq (ev_ixS (ev_var rfl h_text) (ev_var rfl h_21) (by first | (first | exact n3 hpre | exact at_txt fi fc | exact at_txt fi (of_decide_eq_true (by assumption))) | (first | omega | decide | (show _ ≤ sizeLine; decide) | (show _ < sizeLine; decide))) (atI_get (by first | (first | exact n3 hpre | exact at_txt fi fc | exact at_txt fi (of_decide_eq_true (by assumption))) | (first | decide | (refine at_in ?_ ?_ <;> omega) | (refine at_neg ?_ ?_ <;> omega))))) ev_str)) ?_ ?_
      · intro hb28 G29 H30 g27
        have h_text := up g27.g h_text
        have h_21 := up g27.g h_21
        have h_18 := up g27.g h_18
        have sg0 := sg0.trans g27.g
        have gr := gr.trans g27
        replace hM := condT hM hb28
        refine s_asg (K := K) gr.s (ev_notV (ev_var rfl h_18)) fun w_32 G35 H36 g34 (h_33 : rep K (!d_16) w_32 G35) => ?_
        have h_text := up g34.g h_text
        have h_21 := up g34.g h_21
        have sg0 := sg0.trans g34.g
        have gr := gr.trans g34
        generalize ed_31 : (!d_16) = d_31 at h_33 hM
        unfold m__end_of_part_2 at hM
        refine nx_mk ?_
        refine s_aug (K := K) gr.s rfl h_21 (ev_if (et_and (et_B (ev_var rfl h_33)) (fun hb37 => (et_test (ev_eq (ev_ixS (ev_var rfl h_text) (ev_var rfl h_21) (by first | (first | exact n3 hpre | exact at_txt fi fc | exact at_txt fi (of_decide_eq_true (by assumption))) | (first | omega | decide | (show _ ≤ sizeLine; decide) | (show _ < sizeLine; decide))) (atI_get (by first | (first | exact n3 hpre | exact at_txt fi fc | exact at_txt fi (of_decide_eq_true (by assumption))) | (first | decide | (refine at_in ?_ ?_ <;> omega) | (refine at_neg ?_ ?_ <;> omega))))) ev_str)))) (fun hb39 => ev_int) (fun hb40 => ev_int)) fun w_42 G45 H46 g44 (h_43 : rep K (d_19 + (cond (d_31 && (eqB (getS d_text d_19) ("\\" : Str))) (2 : Int) (1 : Int))) w_42 G45) => ?_
        have h_text := up g44.g h_text
        have h_33 := up g44.g h_33
        have sg0 := sg0.trans g44.g
        have gr := gr.trans g44
        generalize ed_41 : (d_19 + (cond (d_31 && (eqB (getS d_text d_19) ("\\" : Str))) (2 : Int) (1 : Int))) = d_41 at h_43 hM
        unfold m__end_of_part_1 at hM
        exact ⟨_, w_32, w_42, gr, sg0, rfl, (by rw [hM]; exact h_33), (by rw [hM]; exact h_43)⟩
      · intro hb28 G47 H48 g27
        have h_text := up g27.g h_text
        have h_21 := up g27.g h_21
        have h_18 := up g27.g h_18
        have sg0 := sg0.trans g27.g
        have gr := gr.trans g27
        replace hM := condF hM hb28
        unfold m__end_of_part_4 at hM
        refine s_next ?_
        refine nx_mk ?_
        refine s_aug (K := K) gr.s rfl h_21 (ev_if (et_and (et_B (ev_var rfl h_18)) (fun hb49 => (et_test (ev_eq (ev_ixS (ev_var rfl h_text) (ev_var rfl h_21) (by first | (first | exact n3 hpre | exact at_txt fi fc | exact at_txt fi (of_decide_eq_true (by assumption))) | (first | omega | decide | (show _ ≤ sizeLine; decide) | (show _ < sizeLine; decide))) (atI_get (by first | (first | exact n3 hpre | exact at_txt fi fc | exact at_txt fi (of_decide_eq_true (by assumption))) | (first | decide | (refine at_in ?_ ?_ <;> omega) | (refine at_neg ?_ ?_ <;> omega))))) ev_str)))) (fun hb51 => ev_int) (fun hb52 => ev_int)) fun w_54 G57 H58 g56 (h_55 : rep K (d_19 + (cond (d_16 && (eqB (getS d_text d_19) ("\\" : Str))) (2 : Int) (1 : Int))) w_54 G57) => ?_
        have h_text := up g56.g h_text
        have h_18 := up g56.g h_18
        have sg0 := sg0.trans g56.g
        have gr := gr.trans g56
        generalize ed_53 : (d_19 + (cond (d_16 && (eqB (getS d_text d_19) ("\\" : Str))) (2 : Int) (1 : Int))) = d_53 at h_55 hM
        unfold m__end_of_part_3 at hM
        exact ⟨_, w_17, w_54, gr, sg0, rfl, (by rw [hM]; exact h_18), (by rw [hM]; exact h_55)⟩
    · intro hb63 G64 H65 g66 es67
      have h_text := up g66.g h_text
      have h_21 := up g66.g h_21
      have h_18 := up g66.g h_18
      have gr := gr.trans g66
      rw [← es67] at hM
      unfold m__end_of_part_7 at hM
      dsimp only at hM
      refine s_ret (K := K) gr.s (ev_var rfl h_21) fun u Gr Hr gq hu => ?_
      exact hQ u Gr Hr (gr.trans gq) (by rw [hM]; exact hu)
/-! #### _parts -/
def m__parts_1 (d_32 : (List Str)) (d_34 : Str) : ((List Str) × Str) := (d_32, d_34)
def m__parts_2 (d_32 : (List Str)) (d_16 : Str) (d_21 : Int) : ((List Str) × Str) := (m__parts_1 d_32 (Txt.lstripChars (cutS d_16 (some d_21) none) (" " : Str)))
def m__parts_3 (d_13 : (List Str)) (d_16 : Str) (d_21 : Int) : ((List Str) × Str) := (m__parts_2 (d_13 ++ [(cutS d_16 none (some d_21))]) d_16 d_21)
def m__parts_4 (d_13 : (List Str)) (d_16 : Str) : ((List Str) × Str) := (m__parts_3 d_13 d_16 (m__end_of_part d_16))
def m__parts_5  (s : (List Str) × Str) : ((List Str) × Str) := m__parts_4 ((s).1) ((s).2)
def m__parts_5c  (s : (List Str) × Str) : Bool := (!eqB ((s).2) ("" : Str))
def m__parts_6  (s : (List Str) × Str) : (List Str) := (s).1
def m__parts_7 (d_1 : (List Str)) (d_4 : Str) : (List Str) := (m__parts_6 (whl m__parts_5c m__parts_5 ((fun (s : (List Str) × Str) => (s.2.length)) (d_1, d_4)) (d_1, d_4)))
def m__parts_8 (d_line : Str) (d_1 : (List Str)) : (List Str) := (m__parts_7 d_1 (Txt.stripChars d_line (" " : Str)))
def m__parts (d_line : Str) : (List Str) := (m__parts_8 d_line ([] : List Str))
abbrev p__parts (K : PySem.W.Frag) : Sp := sp1 K (fun t => t.length ≤ 3000) m__parts
theorem dw_head (l : List Nat) : (l.dropWhile (· == 32)).head? ≠ some 32 := by
  induction l with
  | nil => intro z; cases z
  | cons c r ih =>
    rw [List.dropWhile_cons]
    split
    · exact ih
    · rename_i q
      intro z
      exact q (by rw [Option.some.inj z]; rfl)
theorem dw_len (l : List Nat) : (l.dropWhile (· == 32)).length ≤ l.length := (List.dropWhile_suffix _).length_le
theorem strip_len (x : Str) : (Txt.stripChars x (" " : Str)).length ≤ x.length := by
  rw [TL.len_tl, TL.len_tl x, strip_tl, List.length_reverse]
  refine Nat.le_trans (dw_len _) ?_
  rw [List.length_reverse]
  exact dw_len _
theorem head_rdw (l : List Nat) (h : l.head? ≠ some 32) : ((l.reverse.dropWhile (· == 32)).reverse).head? ≠ some 32 := by
  rw [List.head?_reverse]
  have hs : (l.reverse.dropWhile (· == 32)) <:+ l.reverse := List.dropWhile_suffix _
  cases e : (l.reverse.dropWhile (· == 32)).getLast? with
  | none => intro z; cases z
  | some c =>
    obtain ⟨t, ht⟩ := hs
    have : l.reverse.getLast? = some c := by rw [← ht, List.getLast?_append, e]; rfl
    rw [List.getLast?_reverse] at this
    rw [this] at h
    exact h
theorem strip_head (x : Str) : (TL.tl (Txt.stripChars x (" " : Str))).head? ≠ some 32 := by
  rw [strip_tl]
  exact head_rdw _ (dw_head _)
theorem parts_step (s : List Str × Str) : m__parts_5 s = (s.1 ++ [cutS s.2 none (some (m__end_of_part s.2))], Txt.lstripChars (cutS s.2 (some (m__end_of_part s.2)) none) (" " : Str)) := rfl
theorem tl_cut (t : Str) (a b : Option Int) : TL.tl (cutS t a b) = cutL (TL.tl t) a b := rfl
theorem parts_tl (s : List Str × Str) : TL.tl (cutS s.2 none (some (m__end_of_part s.2))) = (TL.tl s.2).take (scn false (TL.tl s.2)) ∧ TL.tl (Txt.lstripChars (cutS s.2 (some (m__end_of_part s.2)) none) (" " : Str)) = ((TL.tl s.2).drop (scn false (TL.tl s.2))).dropWhile (· == 32) := by
  rw [lstrip_tl, tl_cut, tl_cut, eop_is, cut_to _ (Int.natCast_nonneg _), cut_from _ (Int.natCast_nonneg _)]
  exact ⟨rfl, rfl⟩
theorem ne_tl {x : Str} (h : (!eqB x ("" : Str)) = true) : TL.tl x ≠ [] := fun z => by
  have e : x = ("" : Str) := tl_inj (by rw [z]; decide +kernel)
  rw [e] at h
  exact absurd h (by decide +kernel)
def PI_ (s : List Str × Str) : Prop := s.1.length + s.2.length ≤ 3000 ∧ (TL.tl s.2).head? ≠ some 32
theorem parts_dec : ∀ s : List Str × Str, PI_ s → m__parts_5c s = true → PI_ (m__parts_5 s) ∧ (m__parts_5 s).2.length < s.2.length := by
  intro ⟨l, r⟩ ⟨h1, h2⟩ hc
  have h1 : l.length + r.length ≤ 3000 := h1
  have hn : TL.tl r ≠ [] := ne_tl hc
  have hp := scn_pos hn h2
  obtain ⟨e1, e2⟩ := parts_tl (l, r)
  rw [parts_step]
  have hl : (Txt.lstripChars (cutS r (some (m__end_of_part r)) none) (" " : Str)).length < r.length := by
    rw [TL.len_tl, e2, TL.len_tl r]
    refine Nat.lt_of_le_of_lt (dw_len _) ?_
    rw [List.length_drop]
    have : 0 < (TL.tl r).length := List.length_pos_iff.mpr hn
    show (TL.tl r).length - scn false (TL.tl r) < _
    have hp : 1 ≤ scn false (TL.tl r) := hp
    omega
  refine ⟨⟨?_, ?_⟩, hl⟩
  · show (l ++ [_]).length + _ ≤ 3000
    rw [List.length_append, List.length_singleton]
    show l.length + 1 + (Txt.lstripChars (cutS r (some (m__end_of_part r)) none) (" " : Str)).length ≤ 3000
    omega
  · show (TL.tl (Txt.lstripChars (cutS r (some (m__end_of_part r)) none) (" " : Str))).head? ≠ some 32
    rw [e2]
    exact dw_head _
theorem whl_inv {S : Type} {c : S → Bool} {f : S → S} {I : S → Prop} (hd : ∀ s, I s → c s = true → I (f s)) : ∀ (n : Nat) (s : S), I s → I (whl c f n s)
  | 0, _, h => h
  | n + 1, s, h => by
    show I (cond (c s) (whl c f n (f s)) s)
    cases q : c s with
    | false => exact h
    | true => exact whl_inv hd n _ (hd s h q)
def PPs_ (l : List Str) : Prop := 1 ≤ l.length ∧ l.length ≤ 3000 ∧ ∀ p ∈ l, 1 ≤ p.length ∧ p.length ≤ 3000
theorem parts_ok {t : Str} (h : t.length ≤ 3000) : (m__parts t).length ≤ 3000 ∧ ∀ p ∈ m__parts t, 1 ≤ p.length ∧ p.length ≤ 3000 := by
  have hI : ∀ s : List Str × Str, PI_ s ∧ (∀ p ∈ s.1, 1 ≤ p.length ∧ p.length ≤ 3000) → m__parts_5c s = true → PI_ (m__parts_5 s) ∧ (∀ p ∈ (m__parts_5 s).1, 1 ≤ p.length ∧ p.length ≤ 3000) := by
    intro s ⟨hi, ha⟩ hc
    refine ⟨(parts_dec s hi hc).1, fun p hp => ?_⟩
    rw [parts_step] at hp
    rcases List.mem_append.mp hp with q | q
    · exact ha p q
    · rw [List.mem_singleton.mp q]
      obtain ⟨e1, _⟩ := parts_tl s
      have hn : TL.tl s.2 ≠ [] := ne_tl hc
      have h1 : 1 ≤ scn false (TL.tl s.2) := scn_pos hn hi.2
      have h2 : 0 < (TL.tl s.2).length := List.length_pos_iff.mpr hn
      have h3 : s.1.length + s.2.length ≤ 3000 := hi.1
      rw [TL.len_tl, e1, List.length_take]
      rw [TL.len_tl] at h3
      omega
  have h0 : PI_ (([] : List Str), Txt.stripChars t (" " : Str)) ∧ (∀ p ∈ ([] : List Str), 1 ≤ p.length ∧ p.length ≤ 3000) := ⟨⟨by
    show 0 + (Txt.stripChars t (" " : Str)).length ≤ 3000
    rw [Nat.zero_add]
    exact Nat.le_trans (strip_len t) h, strip_head t⟩, fun p hp => by cases hp⟩
  have k := whl_inv hI ((Txt.stripChars t (" " : Str)).length) _ h0
  exact ⟨Nat.le_trans (Nat.le_add_right _ _) k.1.1, k.2⟩
theorem parts_pps {t : Str} (h : t.length ≤ 3000) (h0 : 0 < (m__parts t).length) : PPs_ (m__parts t) := ⟨h0, parts_ok h⟩
/-- what a written line is read as -/
theorem body_scn {p : List Nat × Nat} {B : List (List Nat × Nat)} (h : ∀ x ∈ p :: B, PartOk x.1) : ∃ r, bodyB (p :: B) = p.1 ++ r ∧ (r = [] ∨ r.head? = some 32) ∧ r.dropWhile (· == 32) = bodyB B := by
  cases B with
  | nil => exact ⟨[], (List.append_nil _).symm, .inl rfl, rfl⟩
  | cons q B =>
    refine ⟨_, rfl, .inr ?_, ?_⟩
    · rw [List.replicate_succ]; rfl
    · exact dw_rep _ _ (body_head fun x hx => h x (.tail _ hx))
theorem parts_whl : ∀ (B : List (List Nat × Nat)) (n : Nat) (acc : List Str) (rest : Str), (∀ x ∈ B, PartOk x.1) → TL.tl rest = bodyB B → B.length ≤ n → ((whl m__parts_5c m__parts_5 n (acc, rest)).1).map TL.tl = acc.map TL.tl ++ B.map (·.1)
  | [], n, acc, rest, _, ht, _ => by
    have e : rest = ("" : Str) := tl_inj (by rw [ht]; decide +kernel)
    rw [whl_stop (by rw [e]; exact (by decide +kernel : (!eqB ("" : Str) ("" : Str)) = false)), List.map_nil, List.append_nil]
  | p :: B, 0, _, _, _, _, hn => absurd hn (by rw [List.length_cons]; omega)
  | p :: B, n + 1, acc, rest, hB, ht, hn => by
    have hp := hB p (.head _)
    obtain ⟨r, e1, e2, e3⟩ := body_scn hB
    have hc : m__parts_5c (acc, rest) = true := by
      show (!eqB rest ("" : Str)) = true
      cases q : eqB rest ("" : Str) with
      | false => rfl
      | true =>
        have : rest = ("" : Str) := of_decide_eq_true q
        rw [this, e1] at ht
        have h3 : p.1 ++ r = [] := by rw [← ht]; decide +kernel
        exact absurd (List.append_eq_nil_iff.mp h3).1 hp.ne
    show ((cond (m__parts_5c (acc, rest)) (whl m__parts_5c m__parts_5 n (m__parts_5 (acc, rest))) (acc, rest)).1).map TL.tl = _
    rw [hc]
    show ((whl m__parts_5c m__parts_5 n (m__parts_5 (acc, rest))).1).map TL.tl = _
    rw [parts_step]
    obtain ⟨t1, t2⟩ := parts_tl (acc, rest)
    have hs : scn false (TL.tl rest) = p.1.length := by rw [ht, e1]; exact hp.sc r e2
    rw [show TL.tl ((acc, rest) : List Str × Str).2 = TL.tl rest from rfl, hs, ht, e1] at t1 t2
    rw [List.take_left] at t1
    rw [List.drop_left, e3] at t2
    rw [parts_whl B n _ _ (fun x hx => hB x (.tail _ hx)) t2 (by rw [List.length_cons] at hn; omega), List.map_append, List.map_cons, List.map_nil, t1, List.append_assoc]
    rfl
theorem parts_line {x : Str} {a b : Nat} {B : List (List Nat × Nat)} (hB : ∀ p ∈ B, PartOk p.1) (h : TL.tl x = List.replicate a 32 ++ (bodyB B ++ List.replicate b 32)) : (m__parts x).map TL.tl = B.map (·.1) := by
  have hs := strip_mid h (body_head hB) (body_last hB)
  have := parts_whl B ((Txt.stripChars x (" " : Str)).length) [] (Txt.stripChars x (" " : Str)) hB hs (by rw [TL.len_tl, hs]; exact body_len hB)
  exact this
theorem parts_is {x : Str} {a b : Nat} {P : List Str} {B : List (List Nat × Nat)} (hB : ∀ p ∈ B, PartOk p.1) (hP : B.map (·.1) = P.map TL.tl) (h : TL.tl x = List.replicate a 32 ++ (bodyB B ++ List.replicate b 32)) : m__parts x = P := by
  have e := parts_line hB h
  rw [hP] at e
  exact (List.map_inj_right fun _ _ => tl_inj).mp e

theorem parts_start {t d : Str} {l : List Str} (h : t.length ≤ 3000) (e1 : [] = l) (e4 : Txt.stripChars t (" " : Str) = d) : PI_ (l, d) := by
  rw [← e1, ← e4]
  exact ⟨by
    show 0 + (Txt.stripChars t (" " : Str)).length ≤ 3000
    rw [Nat.zero_add]
    exact Nat.le_trans (strip_len t) h, strip_head t⟩

theorem ok__parts (T : Tx w K mg base A) : FnOk P w K mg base CX0 2 A.f__parts A.d__parts ["line"] (p__parts K) := by
  refine T.F__parts.ok sc__parts (fun vs He Q E h => ?_) (fun cdv A0 outer s He vs Q E hr h => ⟨_, (pss_cons (ps_set (i := 1) sc__parts.nd rfl (Or.inl rfl) (pe_lst pa_nil)) (pss_cons (ps_set (i := 2) sc__parts.nd rfl (Or.inl rfl) (pe_m1 PySem.F.slot_str_strip PySem.F.type_str_strip mt_stripChars (pv 0) pe_str)) (pss_cons (ps_while PassesOwn.never (pt_cmpR op_ne (pv 2) pe_str (nomark _)) (pss_cons (ps_set (i := 3) sc__parts.nd rfl (Or.inl rfl) (pe_call (ok__end_of_part T) (hr.mono (by decide)) rfl T.g__end_of_part T.F__end_of_part.kp T.b__end_of_part .nil pass0 (pa_cons (pv 2) pa_nil))) (pss_cons (ps_expr (pe_bmK (K := K) PySem.F.plainAttrs_list PySem.F.slot_list_append PySem.F.type_list_append mt_append (pv 1) (pa_cons (pe_slice sl_str (pv 2) po_none (po_some (pv 3))) pa_nil))) (pss_one (ps_set (i := 2) sc__parts.nd rfl (Or.inl rfl) (pe_m1 PySem.F.slot_str_lstrip PySem.F.type_str_lstrip mt_lstripChars (pe_slice sl_str (pv 2) (po_some (pv 3)) po_none) pe_str)))))) (pss_one (ps_ret (pv 1)))))), ?_⟩)
  · obtain ⟨d_line, w_line, G, rfl, eG, h_line, hpre, hQ⟩ := h
    rfl
  · obtain ⟨d_line, w_line, G, rfl, eG, h_line, hpre, hQ⟩ := h
    have gr : Grow G He G He := Grow.refl eG
    obtain ⟨Ge, eGe⟩ : ∃ z, z = G := ⟨G, rfl⟩
    have gr : Grow Ge He G He := by rw [eGe]; exact gr
    rw [← eGe] at hQ
    clear eGe
    have hM : m__parts d_line = (m__parts_8 d_line ([] : List Str)) := rfl
    refine q_newF gr fun a3 H52 hF_3 hN_3 np3 hH_3 gr sm3 => ?_
    have h_2 := reps_nil (K := K) (α := Str) gr
    generalize ed_1 : ([] : List Str) = d_1 at h_2 hM
    unfold m__parts_8 at hM
    refine q_asg (K := K) gr.s (ev_stripC (ev_var rfl h_line) ev_str (by first | (first | exact n3 hpre | exact n3 (Nat.le_trans (Nat.le_add_left _ _) fi) | exact Nat.lt_of_le_of_lt (Nat.le_trans (Nat.le_add_right _ _) fi) (by decide) | exact n3 (Nat.le_trans (cutS_length _ _ _) (Nat.le_trans (Nat.le_add_left _ _) fi)) | exact Nat.le_trans (Nat.le_add_left _ _) fi) | (first | omega | decide | (show _ ≤ sizeLine; decide) | (show _ < sizeLine; decide)))) fun w_5 G8 H9 g7 (h_6 : rep K (Txt.stripChars d_line (" " : Str)) w_5 G8) => ?_
    have h_line := up g7.g h_line
    have hN_3 := g7.f _ _ hH_3 hN_3
    have hH_3 := g7.h.l hH_3
    have h_2 := Reps.up g7.g h_2
    have gr := gr.trans g7
    generalize ed_4 : (Txt.stripChars d_line (" " : Str)) = d_4 at h_6 hM
    unfold m__parts_7 at hM
    refine q_whl m__parts_5c m__parts_5 (fun (s : (List Str) × Str) => PI_ s) (fun (s : (List Str) × Str) => (s.2.length)) (d_1, d_4) (by exact parts_start hpre ed_1 ed_4) (by exact parts_dec) gr.s fun G10 H11 g12 => ?_
    have h_line := up g12.g h_line
    have hN_3 := g12.f _ _ hH_3 hN_3
    have hH_3 := g12.h.l hH_3
    have h_2 := Reps.up g12.g h_2
    have h_6 := up g12.g h_6
    have gr := gr.trans g12
    refine ⟨fun s_ σ_ H_ => ∃ (G43 : Hp) (w_17 : V) (o_19 : Option V), Grow Ge He G43 H_ ∧ Same G10 G43 ∧ σ_ = [some w_line, some (V.ref a3), some w_17, o_19] ∧ (∃ zs, Reps K ((s_).1 : (List Str)) zs G43 ∧ H_ a3 = some (.lst zs) ∧ G43 a3 = none) ∧ rep K ((s_).2 : Str) w_17 G43, ⟨_, w_5, _, gr, Same.refl _, rfl, ⟨_, h_2, hH_3, hN_3⟩, h_6⟩, ?_⟩
    rintro st_0 σ_0 H_0 is_0 ⟨G43, w_17, o_19, gr, sg0, rfl, ⟨zs_3, h_15, hH_3, hN_3⟩, h_18⟩
    have h_line := up sg0 h_line
    have hMo0 := hM
    obtain ⟨d_13, d_16⟩ := st_0
    dsimp only at is_0 h_15 h_18
    have fi : d_13.length + d_16.length ≤ 3000 := is_0.1
    refine ⟨_, gr.s, (et_test (ev_ne (ev_var rfl h_18) ev_str)), ?_, ?_⟩
    · intro hb20 G44 H45 g46
      have h_line := up g46.g h_line
      have hN_3 := g46.f _ _ hH_3 hN_3
      have hH_3 := g46.h.l hH_3
      have h_15 := Reps.up g46.g h_15
      have h_18 := up g46.g h_18
      have sg0 := sg0.trans g46.g
      have gr := gr.trans g46
      unfold m__parts_5c at hb20
      dsimp only at hb20
      have hM : m__parts_5 (d_13, d_16) = m__parts_5 (d_13, d_16) := rfl
      conv at hM => rhs; unfold m__parts_5; unfold m__parts_4
      dsimp only at hM
      refine q_asg (K := K) gr.s (ev_call1 (ev_var rfl h_18) (by first | (first | exact n3 hpre | exact n3 (Nat.le_trans (Nat.le_add_left _ _) fi) | exact Nat.lt_of_le_of_lt (Nat.le_trans (Nat.le_add_right _ _) fi) (by decide) | exact n3 (Nat.le_trans (cutS_length _ _ _) (Nat.le_trans (Nat.le_add_left _ _) fi)) | exact Nat.le_trans (Nat.le_add_left _ _) fi) | (first | omega | decide))) fun w_22 G25 H26 g24 (h_23 : rep K (m__end_of_part d_16) w_22 G25) => ?_
      have h_line := up g24.g h_line
      have hN_3 := g24.f _ _ hH_3 hN_3
      have hH_3 := g24.h.l hH_3
      have h_15 := Reps.up g24.g h_15
      have h_18 := up g24.g h_18
      have sg0 := sg0.trans g24.g
      have gr := gr.trans g24
      generalize ed_21 : (m__end_of_part d_16) = d_21 at h_23 hM
      unfold m__parts_3 at hM
      refine q_appF (K := K) gr hF_3 hN_3 rfl hH_3 h_15 (by first | (first | exact n3 hpre | exact n3 (Nat.le_trans (Nat.le_add_left _ _) fi) | exact Nat.lt_of_le_of_lt (Nat.le_trans (Nat.le_add_right _ _) fi) (by decide) | exact n3 (Nat.le_trans (cutS_length _ _ _) (Nat.le_trans (Nat.le_add_left _ _) fi)) | exact Nat.le_trans (Nat.le_add_left _ _) fi) | (fail)) (ev_slS (ev_var rfl h_18) eo_none (eo_some (ev_var rfl h_23)) (by first | (first | exact n3 hpre | exact n3 (Nat.le_trans (Nat.le_add_left _ _) fi) | exact Nat.lt_of_le_of_lt (Nat.le_trans (Nat.le_add_right _ _) fi) (by decide) | exact n3 (Nat.le_trans (cutS_length _ _ _) (Nat.le_trans (Nat.le_add_left _ _) fi)) | exact Nat.le_trans (Nat.le_add_left _ _) fi) | (first | omega | decide | (show _ ≤ sizeLine; decide) | (show _ < sizeLine; decide)))) fun G28 H29 H42 zs40 g27 gr2 hN2 hH2 (h_33 : Reps K (d_13 ++ [(cutS d_16 none (some d_21))]) zs40 G28) bt41 => ?_
      have h_line := up g27.g h_line
      have hN_3 := g27.f _ _ hH_3 hN_3
      have hH_3 := g27.h.l hH_3
      have h_15 := Reps.up g27.g h_15
      have h_18 := up g27.g h_18
      have h_23 := up g27.g h_23
      have sg0 := sg0.trans g27.g
      have gr := gr2
      have hN_3 := hN2
      have hH_3 := hH2
      generalize ed_32 : (d_13 ++ [(cutS d_16 none (some d_21))]) = d_32 at h_33 hM
      unfold m__parts_2 at hM
      refine s_asg (K := K) gr.s (ev_lstripC (ev_slS (ev_var rfl h_18) (eo_some (ev_var rfl h_23)) eo_none (by first | (first | exact n3 hpre | exact n3 (Nat.le_trans (Nat.le_add_left _ _) fi) | exact Nat.lt_of_le_of_lt (Nat.le_trans (Nat.le_add_right _ _) fi) (by decide) | exact n3 (Nat.le_trans (cutS_length _ _ _) (Nat.le_trans (Nat.le_add_left _ _) fi)) | exact Nat.le_trans (Nat.le_add_left _ _) fi) | (first | omega | decide | (show _ ≤ sizeLine; decide) | (show _ < sizeLine; decide)))) ev_str (by first | (first | exact n3 hpre | exact n3 (Nat.le_trans (Nat.le_add_left _ _) fi) | exact Nat.lt_of_le_of_lt (Nat.le_trans (Nat.le_add_right _ _) fi) (by decide) | exact n3 (Nat.le_trans (cutS_length _ _ _) (Nat.le_trans (Nat.le_add_left _ _) fi)) | exact Nat.le_trans (Nat.le_add_left _ _) fi) | (first | omega | decide | (show _ ≤ sizeLine; decide) | (show _ < sizeLine; decide)))) fun w_35 G38 H39 g37 (h_36 : rep K (Txt.lstripChars (cutS d_16 (some d_21) none) (" " : Str)) w_35 G38) => ?_
      have h_line := up g37.g h_line
      have hN_3 := g37.f _ _ hH_3 hN_3
      have hH_3 := g37.h.l hH_3
      have h_33 := Reps.up g37.g h_33
      have h_23 := up g37.g h_23
      have sg0 := sg0.trans g37.g
      have gr := gr.trans g37
      generalize ed_34 : (Txt.lstripChars (cutS d_16 (some d_21) none) (" " : Str)) = d_34 at h_36 hM
      unfold m__parts_1 at hM
      exact ⟨_, w_35, _, gr, sg0, rfl, ⟨_, (by rw [hM]; exact h_33), hH_3, hN_3⟩, (by rw [hM]; exact h_36)⟩
    · intro hb47 G48 H49 g50 es51
      have h_line := up g50.g h_line
      have hN_3 := g50.f _ _ hH_3 hN_3
      have hH_3 := g50.h.l hH_3
      have h_15 := Reps.up g50.g h_15
      have h_18 := up g50.g h_18
      have gr := gr.trans g50
      rw [← es51] at hM
      unfold m__parts_6 at hM
      dsimp only at hM
      refine s_ret (K := K) (gr.fix hF_3 hN_3 hH_3).s (ev_var rfl (fix_rep h_15 hN_3)) fun u Gr Hr gq hu => ?_
      exact hQ u Gr Hr ((gr.fix hF_3 hN_3 hH_3).trans gq) (by rw [hM]; exact hu)
/-! #### _number_in -/
def m__number_in_1 (d_part : Str) (d_1 : Bool) : (Option Int) := (cond ((!d_1) || ((decide ((((PySem.Str.ofString (toString (1000000 : Int)))).length : Int) < ((d_part).length : Int))) || ((eqB (getS d_part (0 : Int)) ("0" : Str)) && (!eqB d_part ("0" : Str))))) (none : (Option Int)) (some (intT d_part)))
def m__number_in (d_part : Str) : (Option Int) := (m__number_in_1 d_part ((d_part).cps.toList.all (fun k => !(Builtin.Str.occurrences ("0123456789" : Str) ⟨#[k]⟩ 0 (("0123456789" : Str)).length 1).isEmpty)))
abbrev p__number_in (K : PySem.W.Frag) : Sp := sp1 K (fun t => 1 ≤ t.length ∧ t.length ≤ 3000) m__number_in
open PySem.NumText (AllDigits)
theorem dig_mem : ∀ k ∈ ("0123456789" : Str).cps.toList, 48 ≤ k ∧ k ≤ 57 := by decide +kernel
theorem mem_dig {k : Nat} (h : 48 ≤ k ∧ k ≤ 57) : k ∈ ("0123456789" : Str).cps.toList := by
  have : ∀ k, k < 58 → 48 ≤ k → k ∈ ("0123456789" : Str).cps.toList := by decide +kernel
  exact this k (by omega) h.1
theorem all_dig (x : Str) : (x.cps.toList.all fun k => !(Builtin.Str.occurrences ("0123456789" : Str) ⟨#[k]⟩ 0 (("0123456789" : Str)).length 1).isEmpty) = true ↔ AllDigits x.cps.toList := by
  refine ⟨fun h c hc => ?_, fun h => List.all_eq_true.mpr fun c hc => ?_⟩
  · have q := List.all_eq_true.mp h c hc
    rw [StrLaws.found_one] at q
    exact dig_mem c (of_decide_eq_true q)
  · rw [StrLaws.found_one]
    exact decide_eq_true (mem_dig (h c hc))
def numS (z : Int) : Str := PySem.Str.ofString (toString z)
theorem num_dig {z : Int} (h0 : 0 ≤ z) : AllDigits (numS z).cps.toList := by
  obtain ⟨m, rfl⟩ := Int.eq_ofNat_of_zero_le h0
  intro c hc
  rw [show (numS ((m : Nat) : Int)).cps.toList = _ from W.KIN.signs_num m] at hc
  obtain ⟨ch, hch, e⟩ := List.mem_map.mp hc
  have r := digit_range (Nat.isDigit_of_mem_toDigits (by decide) (by decide) hch)
  rw [← e]
  exact r
theorem num_ne {z : Int} (h0 : 0 ≤ z) : (numS z).cps.toList ≠ [] := by
  obtain ⟨m, rfl⟩ := Int.eq_ofNat_of_zero_le h0
  rw [show (numS ((m : Nat) : Int)).cps.toList = _ from W.KIN.signs_num m]
  intro e
  have h := toDigits_len_ge 10 m
  rw [List.map_eq_nil_iff.mp e] at h
  exact absurd h (by decide)
theorem digit0 : ∀ d : Nat, d < 10 → d ≠ 0 → (Nat.digitChar d).toNat ≠ 48 := by decide
theorem head_dig (m : Nat) : m ≠ 0 → ((Nat.toDigits 10 m).map Char.toNat).head? ≠ some 48 := by
  induction m using Nat.strongRecOn with
  | _ m ih =>
    intro h0
    by_cases h : m < 10
    · rw [Nat.toDigits_of_lt_base h]
      intro z
      exact digit0 m h h0 (Option.some.inj z)
    · have hm : m % 10 < 10 := Nat.mod_lt m (by decide)
      have t : Nat.toDigits 10 (m / 10) ++ Nat.toDigits 10 (m % 10) = Nat.toDigits 10 (10 * (m / 10) + m % 10) := Nat.toDigits_append_toDigits (by decide) (by omega) hm
      rw [Nat.div_add_mod] at t
      have q := ih (m / 10) (by omega) (by omega)
      rw [← t, List.map_append, List.head?_append]
      cases e : ((Nat.toDigits 10 (m / 10)).map Char.toNat).head? with
      | none =>
        have h := toDigits_len_ge 10 (m / 10)
        rw [List.map_eq_nil_iff.mp (List.head?_eq_none_iff.mp e)] at h
        exact absurd h (by decide)
      | some c =>
        rw [e] at q
        exact q
theorem num_head {z : Int} (h0 : 0 ≤ z) (h1 : z ≠ 0) : eqB (getS (numS z) 0) ("0" : Str) = false := by
  obtain ⟨m, rfl⟩ := Int.eq_ofNat_of_zero_le h0
  have hh := head_dig m (fun e => h1 (by rw [e]; rfl))
  have e0 : TL.tl (numS ((m : Nat) : Int)) = _ := W.KIN.signs_num m
  cases e : (Nat.toDigits 10 m).map Char.toNat with
  | nil => exact absurd (e0.trans e) (num_ne (z := ((m : Nat) : Int)) h0)
  | cons c r =>
    rw [e] at hh e0
    rw [show getS (numS ((m : Nat) : Int)) 0 = ⟨#[c]⟩ from getS_app (pre := []) e0 rfl, eq1 (k := 48) (by decide +kernel)]
    exact decide_eq_false fun q => hh (by rw [q]; rfl)
theorem num_len {z : Int} (h0 : 0 ≤ z) (h1 : z ≤ 1000000) : (numS z).length ≤ 7 := toString_length_le h0 (by decide) (by omega)
theorem num_back {z : Int} (h0 : 0 ≤ z) (h1 : z ≤ 1000000) : m__number_in (numS z) = some z := by
  show m__number_in_1 (numS z) ((numS z).cps.toList.all _) = some z
  rw [(all_dig (numS z)).mpr (num_dig h0)]
  unfold m__number_in_1
  have e1 : decide (((PySem.Str.ofString (toString (1000000 : Int))).length : Int) < ((numS z).length : Int)) = false := decide_eq_false (by
    rw [show (PySem.Str.ofString (toString (1000000 : Int))).length = 7 by decide +kernel]
    have := num_len h0 h1
    omega)
  have e2 : (eqB (getS (numS z) 0) ("0" : Str) && !eqB (numS z) ("0" : Str)) = false := by
    by_cases q : z = 0
    · rw [q]; decide +kernel
    · rw [num_head h0 q]; rfl
  rw [e1, e2]
  show some ((PySem.intText? (numS z)).getD 0) = some z
  rw [show PySem.intText? (numS z) = some z from W.KIN.num_reads h0 (by omega)]
  rfl
theorem num_part {z : Int} (h0 : 0 ≤ z) : PartOk (TL.tl (numS z)) := by
  have hd : ∀ c ∈ TL.tl (numS z), 48 ≤ c ∧ c ≤ 57 := num_dig h0
  have n0 : TL.tl (numS z) ≠ [] := num_ne h0
  have n1 : 32 ∉ TL.tl (numS z) := fun q => by have := hd _ q; omega
  have n2 : 34 ∉ TL.tl (numS z) := fun q => by have := hd _ q; omega
  exact ⟨n0, fun q => n1 (List.mem_of_mem_head? q), fun q => n1 (List.mem_of_mem_getLast? q), fun r h => scn_plain _ r n1 n2 h⟩
theorem plain_part {x : Str} (n0 : TL.tl x ≠ []) (n1 : 32 ∉ TL.tl x) (n2 : 34 ∉ TL.tl x) : PartOk (TL.tl x) :=
  ⟨n0, fun q => n1 (List.mem_of_mem_head? q), fun q => n1 (List.mem_of_mem_getLast? q), fun r h => scn_plain _ r n1 n2 h⟩

theorem num_side {p : Str} {b c : Bool} (h0 : 1 ≤ p.length) (e1 : (p.cps.toList.all fun k => !(Builtin.Str.occurrences ("0123456789" : Str) ⟨#[k]⟩ 0 (("0123456789" : Str)).length 1).isEmpty) = b) (h : (!b || (decide (((PySem.Str.ofString (toString (1000000 : Int))).length : Int) < ((p).length : Int)) || c)) = false) : intText? p = some (intT p) ∧ p.length ≤ 640 := by
  have hb := not_f (or_l0 h)
  have hl := of_decide_eq_false (or_l0 (or_r h))
  rw [show (PySem.Str.ofString (toString (1000000 : Int))).length = 7 by decide +kernel] at hl
  rw [hb] at e1
  have hd := (all_dig p).mp e1
  have hn : p.cps.toList ≠ [] := fun z => by
    have : p.cps.toList.length = p.length := Array.length_toList
    rw [z] at this
    rw [← this] at h0
    exact absurd h0 (by decide)
  have e := intText_digits hd hn (by omega)
  refine ⟨?_, by omega⟩
  unfold intT
  rw [e]
  rfl

theorem ok__number_in (T : Tx w K mg base A) : FnOk P w K mg base CX0 1 A.f__number_in A.d__number_in ["part"] (p__number_in K) := by
  refine okC T.F__number_in T.C__number_in sc__number_in (fun vs He Q E h => ?_) (fun A0 outer s He vs Q E hr h => ⟨_, (pss_cons (ps_set (i := 1) sc__number_in.nd rfl (Or.inl rfl) (pe_allM hr rfl T.n_all (by decide +kernel) T.TB__number_in rfl (genS_of rfl rfl (by decide +kernel) rfl rfl (by decide +kernel)) (pv 0) (elt_inC rfl rfl) fun _ => rfl)) (pss_cons (ps_if (PW.pt (pw_or (pt_not (pt_val (pv 1))) (pw_or (pt_cmpR op_gt (pe_callB (call_lenK (K := K)) rfl T.n_len boot_len (pa_cons (pv 0) pa_nil)) (pe_callB (call_lenK (K := K)) rfl T.n_len boot_len (pa_cons (pe_callTy call_str_int rfl T.n_str boot_str (pa_cons (C8.pe_gc rfl T.c__GREATEST_NUMBER) pa_nil)) pa_nil)) (nomark _)) (pw_or1 (PW.pt (pw_and (pt_cmpR op_eq (pe_ix ix_str (pv 0) pe_int fun _ _ => rfl) pe_str (nomark _)) (pw_and1 (pt_cmpR op_ne (pv 0) pe_str (nomark _))))))))) (pss_one (ps_ret pe_non)) pss_nil) (pss_one (ps_ret (pe_callTy call_int_str rfl T.n_int boot_int (pa_cons (pv 0) pa_nil)))))), ?_⟩)
  · obtain ⟨d_part, w_part, G, rfl, eG, h_part, hpre, hQ⟩ := h
    rfl
  · obtain ⟨d_part, w_part, G, rfl, eG, h_part, hpre, hQ⟩ := h
    have gr : Grow G He G He := Grow.refl eG
    obtain ⟨Ge, eGe⟩ : ∃ z, z = G := ⟨G, rfl⟩
    have gr : Grow Ge He G He := by rw [eGe]; exact gr
    rw [← eGe] at hQ
    clear eGe
    have hM : m__number_in d_part = (m__number_in_1 d_part ((d_part).cps.toList.all (fun k => !(Builtin.Str.occurrences ("0123456789" : Str) ⟨#[k]⟩ 0 (("0123456789" : Str)).length 1).isEmpty))) := rfl
    refine q_asg (K := K) gr.s (ev_all T.TM__number_in (ev_var rfl h_part)) fun w_2 G5 H6 g4 (h_3 : rep K ((d_part).cps.toList.all (fun k => !(Builtin.Str.occurrences ("0123456789" : Str) ⟨#[k]⟩ 0 (("0123456789" : Str)).length 1).isEmpty)) w_2 G5) => ?_
    have h_part := up g4.g h_part
    have gr := gr.trans g4
    generalize ed_1 : ((d_part).cps.toList.all (fun k => !(Builtin.Str.occurrences ("0123456789" : Str) ⟨#[k]⟩ 0 (("0123456789" : Str)).length 1).isEmpty)) = d_1 at h_3 hM
    unfold m__number_in_1 at hM
    refine q_if gr.s (et_or (et_not (et_B (ev_var rfl h_3))) (fun hb7 => (et_or (et_test (ev_gt (ev_lenS (ev_var rfl h_part) (by first | (first | exact n3 hpre.2 | exact lt1920 (by decide) (by decide) | exact at_txt (Int.le_refl 0) (by have := hpre.1; omega) | exact num_side hpre.1 ed_1 (by assumption)) | (first | omega | decide | (show _ ≤ sizeLine; decide) | (show _ < sizeLine; decide)))) (ev_lenS (ev_strI ev_int (by first | (first | exact n3 hpre.2 | exact lt1920 (by decide) (by decide) | exact at_txt (Int.le_refl 0) (by have := hpre.1; omega) | exact num_side hpre.1 ed_1 (by assumption)) | (fail))) (by first | (first | exact n3 hpre.2 | exact lt1920 (by decide) (by decide) | exact at_txt (Int.le_refl 0) (by have := hpre.1; omega) | exact num_side hpre.1 ed_1 (by assumption)) | (first | omega | decide | (show _ ≤ sizeLine; decide) | (show _ < sizeLine; decide)))))) (fun hb8 => (et_and (et_test (ev_eq (ev_ixS (ev_var rfl h_part) ev_int (by first | (first | exact n3 hpre.2 | exact lt1920 (by decide) (by decide) | exact at_txt (Int.le_refl 0) (by have := hpre.1; omega) | exact num_side hpre.1 ed_1 (by assumption)) | (first | omega | decide | (show _ ≤ sizeLine; decide) | (show _ < sizeLine; decide))) (atI_get (by first | (first | exact n3 hpre.2 | exact lt1920 (by decide) (by decide) | exact at_txt (Int.le_refl 0) (by have := hpre.1; omega) | exact num_side hpre.1 ed_1 (by assumption)) | (first | decide | (refine at_in ?_ ?_ <;> omega) | (refine at_neg ?_ ?_ <;> omega))))) ev_str)) (fun hb9 => (et_test (ev_ne (ev_var rfl h_part) ev_str)))))))) ?_ ?_
    · intro hb13 G14 H15 g12
      have h_part := up g12.g h_part
      have h_3 := up g12.g h_3
      have gr := gr.trans g12
      replace hM := condT hM hb13
      refine s_ret (K := K) gr.s (ev_non (α := Int)) fun u Gr Hr gq hu => ?_
      exact hQ u Gr Hr (gr.trans gq) (by rw [hM]; exact hu)
    · intro hb13 G16 H17 g12
      have h_part := up g12.g h_part
      have h_3 := up g12.g h_3
      have gr := gr.trans g12
      replace hM := condF hM hb13
      refine s_next ?_
      refine nx_mk ?_
      refine s_ret (K := K) gr.s (ev_some (ev_intS (n := intT d_part) (ev_var rfl h_part) (by first | (first | exact n3 hpre.2 | exact lt1920 (by decide) (by decide) | exact at_txt (Int.le_refl 0) (by have := hpre.1; omega) | exact num_side hpre.1 ed_1 (by assumption)) | (fail)))) fun u Gr Hr gq hu => ?_
      exact hQ u Gr Hr (gr.trans gq) (by rw [hM]; exact hu)
/-! #### _argument_in -/
def m__argument_in_1 (d_part : Str) (d_form : Str) : PyData := (cond (eqB d_form ("tone" : Str)) (Dat.d (tabGet k__TONES d_part)) (PyData.str d_part))
def m__argument_in_2 (d_part : Str) (d_form : Str) : PyData := (cond (memB d_form ((Tpl.mk (("index" : Str) :: (("number" : Str) :: ([] : List Str))))).l) (Dat.d (m__number_in d_part)) (m__argument_in_1 d_part d_form))
def m__argument_in (d_part : Str) (d_form : Str) : PyData := (cond (memB d_form ((Tpl.mk (("label" : Str) :: (("text" : Str) :: ([] : List Str))))).l) (Dat.d (m_text_in d_part)) (m__argument_in_2 d_part d_form))
abbrev p__argument_in (K : PySem.W.Frag) : Sp := sp2 K (fun t _ => 1 ≤ t.length ∧ t.length ≤ 3000) m__argument_in
theorem ok__argument_in (T : Tx w K mg base A) : FnOk P w K mg base CX0 3 A.f__argument_in A.d__argument_in ["part", "form"] (p__argument_in K) := by
  refine T.F__argument_in.ok sc__argument_in (fun vs He Q E h => ?_) (fun cdv A0 outer s He vs Q E hr h => ⟨_, (pss_cons (ps_if (pt_cmpR (op_inK (K := K)) (pv 1) (pe_tup (pa_cons pe_str (pa_cons pe_str pa_nil))) (by rfl)) (pss_one (ps_ret (pe_call (ok_text_in T) (hr.mono (by decide)) rfl T.g_text_in T.F_text_in.kp T.b_text_in .nil pass0 (pa_cons (pv 0) pa_nil)))) pss_nil) (pss_cons (ps_if (pt_cmpR (op_inK (K := K)) (pv 1) (pe_tup (pa_cons pe_str (pa_cons pe_str pa_nil))) (by rfl)) (pss_one (ps_ret (pe_call (ok__number_in T) (hr.mono (by decide)) rfl T.g__number_in T.F__number_in.kp T.b__number_in .nil pass0 (pa_cons (pv 0) pa_nil)))) pss_nil) (pss_cons (ps_if (pt_cmpR op_eq (pv 1) pe_str (nomark _)) (pss_one (ps_ret (pe_kget1 (K := K) (w := w) (C8.pe_gc (v := .ref A.k__TONES) rfl ⟨_, T.c__TONES, rfl⟩) (pv 0) ⟨rfl, rfl, rfl, rfl⟩))) pss_nil) (pss_one (ps_ret (pv 0)))))), ?_⟩)
  · obtain ⟨d_part, d_form, w_part, w_form, G, rfl, eG, h_part, h_form, hpre, hQ⟩ := h
    rfl
  · obtain ⟨d_part, d_form, w_part, w_form, G, rfl, eG, h_part, h_form, hpre, hQ⟩ := h
    have gr : Grow G He G He := Grow.refl eG
    obtain ⟨Ge, eGe⟩ : ∃ z, z = G := ⟨G, rfl⟩
    have gr : Grow Ge He G He := by rw [eGe]; exact gr
    rw [← eGe] at hQ
    clear eGe
    have hM : m__argument_in d_part d_form = (cond (memB d_form ((Tpl.mk (("label" : Str) :: (("text" : Str) :: ([] : List Str))))).l) (Dat.d (m_text_in d_part)) (m__argument_in_2 d_part d_form)) := rfl
    refine q_if gr.s (et_test (ev_inT (ev_var rfl h_form) (ev_tpl (ea_cons ev_str (ea_cons ev_str ea_nil)) (by first | (show _ ≤ sizeLine; decide) | (simp only [List.length_cons, List.length_nil, sizeLine_eq]; omega))))) ?_ ?_
    · intro hb2 G3 H4 g1
      have h_part := up g1.g h_part
      have h_form := up g1.g h_form
      have gr := gr.trans g1
      replace hM := condT hM hb2
      refine s_ret (K := K) gr.s (ev_toD (ev_call1 (ev_var rfl h_part) (by first | (first | exact hpre.2 | exact hpre) | (first | omega | decide)))) fun u Gr Hr gq hu => ?_
      exact hQ u Gr Hr (gr.trans gq) (by rw [hM]; exact hu)
    · intro hb2 G5 H6 g1
      have h_part := up g1.g h_part
      have h_form := up g1.g h_form
      have gr := gr.trans g1
      replace hM := condF hM hb2
      unfold m__argument_in_2 at hM
      refine s_next ?_
      refine nx_mk ?_
      refine q_if gr.s (et_test (ev_inT (ev_var rfl h_form) (ev_tpl (ea_cons ev_str (ea_cons ev_str ea_nil)) (by first | (show _ ≤ sizeLine; decide) | (simp only [List.length_cons, List.length_nil, sizeLine_eq]; omega))))) ?_ ?_
      · intro hb8 G9 H10 g7
        have h_part := up g7.g h_part
        have h_form := up g7.g h_form
        have gr := gr.trans g7
        replace hM := condT hM hb8
        refine s_ret (K := K) gr.s (ev_toD (ev_call1 (ev_var rfl h_part) (by first | (first | exact hpre.2 | exact hpre) | (first | omega | decide)))) fun u Gr Hr gq hu => ?_
        exact hQ u Gr Hr (gr.trans gq) (by rw [hM]; exact hu)
      · intro hb8 G11 H12 g7
        have h_part := up g7.g h_part
        have h_form := up g7.g h_form
        have gr := gr.trans g7
        replace hM := condF hM hb8
        unfold m__argument_in_1 at hM
        refine s_next ?_
        refine nx_mk ?_
        refine q_if gr.s (et_test (ev_eq (ev_var rfl h_form) ev_str)) ?_ ?_
        · intro hb14 G15 H16 g13
          have h_part := up g13.g h_part
          have h_form := up g13.g h_form
          have gr := gr.trans g13
          replace hM := condT hM hb14
          refine s_ret (K := K) gr.s (ev_toD (ev_kget1 T.kd__TONES (ev_var rfl h_part))) fun u Gr Hr gq hu => ?_
          exact hQ u Gr Hr (gr.trans gq) (by rw [hM]; exact hu)
        · intro hb14 G17 H18 g13
          have h_part := up g13.g h_part
          have h_form := up g13.g h_form
          have gr := gr.trans g13
          replace hM := condF hM hb14
          refine s_next ?_
          refine nx_mk ?_
          refine s_ret (K := K) gr.s (ev_toD (ev_var rfl h_part)) fun u Gr Hr gq hu => ?_
          exact hQ u Gr Hr (gr.trans gq) (by rw [hM]; exact hu)
/-! #### _deed_in -/
def m__deed_in_1 (d_32 : (Tpl PyData)) : (Option (Tpl PyData)) := (cond (!(m_is_deed (Dat.d d_32))) (none : (Option (Tpl PyData))) (some d_32))
def m__deed_in_2 (d_4 : Str) (d_7 : (List Str)) (d_10 : (Tpl Str)) : (Option (Tpl PyData)) := (m__deed_in_1 (Tpl.mk ((PyData.str d_4) :: ((List.map (fun (d_22 : Str × Str) => (m__argument_in d_22.1 d_22.2)) (List.zip d_7 d_10.l)) ++ ([] : List PyData)))))
def m__deed_in_3 (d_4 : Str) (d_7 : (List Str)) (d_10 : (Tpl Str)) : (Option (Tpl PyData)) := (cond (!eqB ((d_7).length : Int) ((d_10).l.length : Int)) (none : (Option (Tpl PyData))) (m__deed_in_2 d_4 d_7 d_10))
def m__deed_in_4 (d_4 : Str) (d_7 : (List Str)) : (Option (Tpl PyData)) := (m__deed_in_3 d_4 d_7 ((tabGet k_FORMS d_4).getD (Tpl.mk ([] : List Str))))
def m__deed_in (d_parts : (List Str)) : (Option (Tpl PyData)) := (m__deed_in_4 (getI d_parts (0 : Int)) (cutL d_parts (some (1 : Int)) none))
abbrev p__deed_in (K : PySem.W.Frag) : Sp := sp1 K (fun l => PPs_ l) m__deed_in

theorem text_len {p : Str} (h : p.length ≤ 3000) : PreD (Dat.d (m_text_in p)) := by
  unfold m_text_in m_text_in_1
  have fe : (Txt.replace (Txt.replace (cutS p (some (1 : Int)) (some (-(1 : Int)))) ("\\\"" : Str) ("\"" : Str)) ("\\\\" : Str) ("\\" : Str)).length ≤ 100000 := Nat.le_trans (rl2 (rl2 (Nat.le_trans (cutS_length _ _ _) h) (by decide)) (by decide)) (by decide)
  generalize Txt.replace _ _ _ = t at fe
  cases !eqB (m_quoted t) p with
  | true => exact Nat.zero_le _
  | false => exact fe
theorem arg_pre {p f : Str} (h : p.length ≤ 3000) : PreD (m__argument_in p f) := by
  unfold m__argument_in m__argument_in_2 m__argument_in_1
  cases memB f (Tpl.mk (("label" : Str) :: (("text" : Str) :: ([] : List Str)))).l with
  | true => exact text_len h
  | false =>
    cases memB f (Tpl.mk (("index" : Str) :: (("number" : Str) :: ([] : List Str)))).l with
    | true =>
      show PreD (Dat.d (m__number_in p))
      cases m__number_in p <;> exact Nat.zero_le _
    | false =>
      cases eqB f ("tone" : Str) with
      | true =>
        show PreD (Dat.d (tabGet k__TONES p))
        cases tabGet k__TONES p <;> exact Nat.zero_le _
      | false => exact Nat.le_trans h (by decide)
theorem dd_len {w : PyData} {l m : List Str} (h : l.length ≤ 3000) : (w :: ((List.map (fun (p : Str × Str) => m__argument_in p.1 p.2) (List.zip l m)) ++ ([] : List PyData))).length ≤ 4000 := by
  rw [List.append_nil, List.length_cons, List.length_map, List.length_zip]
  have := Nat.min_le_left l.length m.length
  omega
theorem dd_side {w : Str} {l m : List Str} {d : Tpl PyData} (hw : w.length ≤ 3000) (h : l.length ≤ 3000 ∧ ∀ p ∈ l, 1 ≤ p.length ∧ p.length ≤ 3000) (e : Tpl.mk (PyData.str w :: ((List.map (fun (p : Str × Str) => m__argument_in p.1 p.2) (List.zip l m)) ++ ([] : List PyData))) = d) : (tupD (Dat.d d)).length ≤ 4000 ∧ ∀ x ∈ tupD (Dat.d d), PreD x := by
  rw [← e, dat_tpl]
  refine ⟨dd_len h.1, fun x hx => ?_⟩
  rcases List.mem_cons.mp hx with q | q
  · rw [q]; exact Nat.le_trans hw (by decide)
  · rw [List.append_nil] at q
    obtain ⟨p, hp, e⟩ := List.mem_map.mp q
    rw [← e]
    exact arg_pre (h.2 _ (zip_mem hp)).2

theorem ok__deed_in (T : Tx w K mg base A) : FnOk P w K mg base CX0 4 A.f__deed_in A.d__deed_in ["parts"] (p__deed_in K) := by
  refine T.F__deed_in.ok sc__deed_in (fun vs He Q E h => ?_) (fun cdv A0 outer s He vs Q E hr h => ⟨_, (pss_cons (ps_par (i := 1) (j := 2) rfl sc__deed_in.nd rfl rfl (by decide) rfl rfl (pa_cons (pe_ix (ix_listK (K := K)) (pv 0) pe_int fun _ _ => rfl) (pa_cons (pe_slice (sl_listK (K := K)) (pv 0) (po_some pe_int) po_none) pa_nil)) (by rfl)) (pss_cons (ps_set (i := 3) sc__deed_in.nd rfl (Or.inl rfl) (pe_kget2 (K := K) (w := w) (C8.pe_gc (v := .ref A.k_FORMS) rfl ⟨_, T.c_FORMS, rfl⟩) (pv 1) (pe_tup pa_nil) ⟨rfl, rfl, rfl, rfl⟩)) (pss_cons (ps_if (pt_cmpR op_ne (pe_callB (call_lenK (K := K)) rfl T.n_len boot_len (pa_cons (pv 2) pa_nil)) (pe_callB (call_lenK (K := K)) rfl T.n_len boot_len (pa_cons (pv 3) pa_nil)) (nomark _)) (pss_one (ps_ret pe_non)) pss_nil) (pss_cons (ps_set (i := 4) sc__deed_in.nd rfl (Or.inl rfl) (pe_tup (pa_cons (pv 1) (pa_starK (K := K) (pe_lc (own := [("part", 5), ("form", 6)]) (g := (gTup K 2 (gCons (gName 5) (gCons (gName 6) gNil)))) (tt := tYes) rfl sc__deed_in.nd (RZL.pi_zipM (K := K) rfl T.n_zip (pa_cons (pv 2) (pa_cons (pv 3) pa_nil))) (blkOk_by (N := n__deed_in) (sc := defScope s__deed_in) (by decide +kernel)) (fun _ _ _ _ _ => pg_tup rfl (pgs_cons (pg_name (i := 5) sc__deed_in.nd rfl (Or.inl rfl)) (pgs_cons (pg_name (i := 6) sc__deed_in.nd rfl (Or.inl rfl)) pgs_nil))) (fun _ _ _ _ _ => pts_nil) (fun _ _ _ _ _ => (pe_call (ok__argument_in T) (hr.mono (by decide)) rfl T.g__argument_in T.F__argument_in.kp T.b__argument_in .nil pass0 (pa_cons (pv 5) (pa_cons (pv 6) pa_nil))))) pa_nil)))) (pss_cons (ps_if (pt_not (pt_val (pe_call (ok_is_deed T) (hr.mono (by decide)) rfl T.g_is_deed T.F_is_deed.kp T.b_is_deed .nil pass0 (pa_cons (pv 4) pa_nil)))) (pss_one (ps_ret pe_non)) pss_nil) (pss_one (ps_ret (pv 4)))))))), ?_⟩)
  · obtain ⟨d_parts, w_parts, G, rfl, eG, h_parts, hpre, hQ⟩ := h
    rfl
  · obtain ⟨d_parts, w_parts, G, rfl, eG, h_parts, hpre, hQ⟩ := h
    have gr : Grow G He G He := Grow.refl eG
    obtain ⟨Ge, eGe⟩ : ∃ z, z = G := ⟨G, rfl⟩
    have gr : Grow Ge He G He := by rw [eGe]; exact gr
    rw [← eGe] at hQ
    clear eGe
    have hM : m__deed_in d_parts = (m__deed_in_4 (getI d_parts (0 : Int)) (cutL d_parts (some (1 : Int)) none)) := rfl
    refine q_par (K := K) gr.s (ev_ixL (ev_var rfl h_parts) ev_int (atI_get (by first | (first | exact at_in (Int.le_refl 0) (by have := hpre.1; omega) | exact zip_lt fa.1 | exact fa.2 _ (zip_mem (by assumption)) | exact Nat.le_trans (dd_len fa.1) (by decide) | exact dd_side fw fa (by assumption)) | (first | decide | (refine at_in ?_ ?_ <;> omega) | (refine at_neg ?_ ?_ <;> omega))))) (ev_slL (ev_var rfl h_parts) (eo_some ev_int) eo_none) fun w_5 w_8 G2 H3 g1 h_6 h_9 => ?_
    have h_parts := up g1.g h_parts
    have gr := gr.trans g1
    generalize ed_4 : (getI d_parts (0 : Int)) = d_4 at h_6 hM
    generalize ed_7 : (cutL d_parts (some (1 : Int)) none) = d_7 at h_9 hM
    unfold m__deed_in_4 at hM
    have fw : d_4.length ≤ 3000 := by rw [← ed_4]; exact (hpre.2.2 _ (getI_mem (at_in (Int.le_refl 0) (by have := hpre.1; omega)))).2
    have fa : d_7.length ≤ 3000 ∧ ∀ p ∈ d_7, 1 ≤ p.length ∧ p.length ≤ 3000 := by rw [← ed_7]; exact ⟨Nat.le_trans (cut_le _ _ _) hpre.2.1, fun p hp => hpre.2.2 p (cut_mem hp)⟩
    refine q_asg (K := K) gr.s (ev_kget2 T.kd_FORMS (ev_var rfl h_6) (ev_tpl ea_nil (by first | (show _ ≤ sizeLine; decide) | (simp only [List.length_cons, List.length_nil, sizeLine_eq]; omega)))) fun w_11 G14 H15 g13 (h_12 : rep K ((tabGet k_FORMS d_4).getD (Tpl.mk ([] : List Str))) w_11 G14) => ?_
    have h_parts := up g13.g h_parts
    have h_6 := up g13.g h_6
    have h_9 := up g13.g h_9
    have gr := gr.trans g13
    generalize ed_10 : ((tabGet k_FORMS d_4).getD (Tpl.mk ([] : List Str))) = d_10 at h_12 hM
    unfold m__deed_in_3 at hM
    refine q_if gr.s (et_test (ev_ne (ev_lenL (ev_var rfl h_9)) (ev_lenT (ev_var rfl h_12)))) ?_ ?_
    · intro hb17 G18 H19 g16
      have h_parts := up g16.g h_parts
      have h_6 := up g16.g h_6
      have h_9 := up g16.g h_9
      have h_12 := up g16.g h_12
      have gr := gr.trans g16
      replace hM := condT hM hb17
      refine s_ret (K := K) gr.s (ev_non (α := (Tpl PyData))) fun u Gr Hr gq hu => ?_
      exact hQ u Gr Hr (gr.trans gq) (by rw [hM]; exact hu)
    · intro hb17 G20 H21 g16
      have h_parts := up g16.g h_parts
      have h_6 := up g16.g h_6
      have h_9 := up g16.g h_9
      have h_12 := up g16.g h_12
      have gr := gr.trans g16
      replace hM := condF hM hb17
      unfold m__deed_in_2 at hM
      refine s_next ?_
      refine nx_mk ?_
      refine q_asg (K := K) gr.s (ev_tpl (ea_cons (ev_toD (ev_var rfl h_6)) (ea_star (ev_lcMm (fun (d_22 : Str × Str) => (m__argument_in d_22.1 d_22.2)) (ev_var rfl h_9) (ev_var rfl h_12) (by first | (first | exact at_in (Int.le_refl 0) (by have := hpre.1; omega) | exact zip_lt fa.1 | exact fa.2 _ (zip_mem (by assumption)) | exact Nat.le_trans (dd_len fa.1) (by decide) | exact dd_side fw fa (by assumption)) | (first | omega | decide | (show _ ≤ sizeLine; decide) | (show _ < sizeLine; decide))) (fun d_22 w_23 G_ H_ sg29 sh_ hm31 h_24 P k => by refine pair_apart h_24 sh_ fun w_25 w_27 h_26 h_28 => ?_; exact k _ rfl eb_yes (fun hc30 => (ev_call2 (ev_var rfl h_26) (ev_var rfl h_28) (by first | (first | exact at_in (Int.le_refl 0) (by have := hpre.1; omega) | exact zip_lt fa.1 | exact fa.2 _ (zip_mem (by assumption)) | exact Nat.le_trans (dd_len fa.1) (by decide) | exact dd_side fw fa (by assumption)) | (first | omega | decide)))))) ea_nil)) (by first | (first | exact at_in (Int.le_refl 0) (by have := hpre.1; omega) | exact zip_lt fa.1 | exact fa.2 _ (zip_mem (by assumption)) | exact Nat.le_trans (dd_len fa.1) (by decide) | exact dd_side fw fa (by assumption)) | (first | (show _ ≤ sizeLine; decide) | (simp only [List.length_cons, List.length_nil, List.length_append, sizeLine_eq]; omega) | (fail)))) fun w_33 G36 H37 g35 (h_34 : rep K (Tpl.mk ((PyData.str d_4) :: ((List.map (fun (d_22 : Str × Str) => (m__argument_in d_22.1 d_22.2)) (List.zip d_7 d_10.l)) ++ ([] : List PyData)))) w_33 G36) => ?_
      have h_parts := up g35.g h_parts
      have h_6 := up g35.g h_6
      have h_9 := up g35.g h_9
      have h_12 := up g35.g h_12
      have gr := gr.trans g35
      generalize ed_32 : (Tpl.mk ((PyData.str d_4) :: ((List.map (fun (d_22 : Str × Str) => (m__argument_in d_22.1 d_22.2)) (List.zip d_7 d_10.l)) ++ ([] : List PyData)))) = d_32 at h_34 hM
      unfold m__deed_in_1 at hM
      refine q_if gr.s (et_not (et_B (ev_call1 (ev_toD (ev_var rfl h_34)) (by first | (first | exact at_in (Int.le_refl 0) (by have := hpre.1; omega) | exact zip_lt fa.1 | exact fa.2 _ (zip_mem (by assumption)) | exact Nat.le_trans (dd_len fa.1) (by decide) | exact dd_side fw fa (by assumption)) | (first | omega | decide))))) ?_ ?_
      · intro hb39 G40 H41 g38
        have h_parts := up g38.g h_parts
        have h_6 := up g38.g h_6
        have h_9 := up g38.g h_9
        have h_12 := up g38.g h_12
        have h_34 := up g38.g h_34
        have gr := gr.trans g38
        replace hM := condT hM hb39
        refine s_ret (K := K) gr.s (ev_non (α := (Tpl PyData))) fun u Gr Hr gq hu => ?_
        exact hQ u Gr Hr (gr.trans gq) (by rw [hM]; exact hu)
      · intro hb39 G42 H43 g38
        have h_parts := up g38.g h_parts
        have h_6 := up g38.g h_6
        have h_9 := up g38.g h_9
        have h_12 := up g38.g h_12
        have h_34 := up g38.g h_34
        have gr := gr.trans g38
        replace hM := condF hM hb39
        refine s_next ?_
        refine nx_mk ?_
        refine s_ret (K := K) gr.s (ev_some (ev_var rfl h_34)) fun u Gr Hr gq hu => ?_
        exact hQ u Gr Hr (gr.trans gq) (by rw [hM]; exact hu)
/-! #### read_script -/
def PreR (t : Str) : Prop := t.length ≤ 1000000 ∧ ∀ line ∈ Txt.split t ("\n" : Str), line.length ≤ 3000 ∧ (0 < (m__parts line).length → (m__deed_in (m__parts line)).isSome = true)
def m_read_script_1 (d_53 : (List (Tpl PyData))) : (Step ((List (Tpl PyData))) (List (Tpl PyData))) := (Step.go d_53)
def m_read_script_2 (d_12 : (List (Tpl PyData))) (d_47 : (Tpl PyData)) : (Step ((List (Tpl PyData))) (List (Tpl PyData))) := (m_read_script_1 (d_12 ++ [d_47]))
def m_read_script_3 (d_12 : (List (Tpl PyData))) (d_35 : (Option (Tpl PyData))) : (Step ((List (Tpl PyData))) (List (Tpl PyData))) := (cond (d_35).isNone (Step.ret []) (m_read_script_2 d_12 (Option.getD d_35 default)))
def m_read_script_4 (d_12 : (List (Tpl PyData))) (d_25 : (List Str)) : (Step ((List (Tpl PyData))) (List (Tpl PyData))) := (cond (decide ((0 : Int) < ((d_25).length : Int))) (m_read_script_3 d_12 (m__deed_in d_25)) (Step.go d_12))
def m_read_script_5 (d_12 : (List (Tpl PyData))) (d_19 : Int) (d_22 : Str) : (Step ((List (Tpl PyData))) (List (Tpl PyData))) := (m_read_script_4 d_12 (m__parts d_22))
def m_read_script_6  (s : (List (Tpl PyData))) (d_4 : (Int × Str)) : (Step ((List (Tpl PyData))) (List (Tpl PyData))) := m_read_script_5 s (d_4.1) (d_4.2)
def m_read_script_7  (s : (List (Tpl PyData))) : (List (Tpl PyData)) := s
def m_read_script_8 (d_text : Str) (d_1 : (List (Tpl PyData))) : (List (Tpl PyData)) := (exitF (runL m_read_script_6 d_1 (numb 1 (Txt.split d_text ("\n" : Str)))) m_read_script_7)
def m_read_script (d_text : Str) : (List (Tpl PyData)) := (m_read_script_8 d_text ([] : List (Tpl PyData)))
abbrev p_read_script (K : PySem.W.Frag) : Sp := sp1 K (fun t => PreR t) m_read_script

theorem numb_mem {α : Type} {p : Int × α} : ∀ {n : Int} {l : List α}, p ∈ numb n l → p.2 ∈ l
  | _, [], h => by cases h
  | n, x :: l, h => by
    rcases List.mem_cons.mp (show p ∈ (n, x) :: numb (n + 1) l from h) with q | q
    · rw [q]; exact .head _
    · exact .tail _ (numb_mem q)
def PLn (x : Str) : Prop := x.length ≤ 3000 ∧ (0 < (m__parts x).length → (m__deed_in (m__parts x)).isSome = true)
theorem line_pre {t : Str} {i : Nat} {p : Int × Str} (h : PreR t) (hx : (numb 1 (Txt.split t ("\n" : Str)))[i]? = some p) : PLn p.2 := h.2 _ (numb_mem (List.mem_of_getElem? hx))
theorem rs_dead {x : Str} {l : List Str} {o : Option (Tpl PyData)} (h : PLn x) (e1 : m__parts x = l) (h1 : decide ((0 : Int) < (l.length : Int)) = true) (e2 : m__deed_in l = o) (h2 : o.isNone = true) : False := by
  subst e1
  have k := h.2 (by have := of_decide_eq_true h1; omega)
  rw [e2] at k
  cases o with
  | none => cases k
  | some d => cases h2
theorem runL_c {σ ρ α : Type} {f : σ → α → Step σ ρ} {s s' : σ} {x : α} {l : List α} (h : f s x = .go s') : runL f s (x :: l) = runL f s' l := by
  show (match f s x with | .go s' => runL f s' l | .ret r => .ret r | .brk s' => .brk s') = _
  rw [h]
theorem runL_r {σ ρ α : Type} {f : σ → α → Step σ ρ} {s : σ} {r : ρ} {x : α} {l : List α} (h : f s x = .ret r) : runL f s (x :: l) = .ret r := by
  show (match f s x with | .go s' => runL f s' l | .ret r => .ret r | .brk s' => .brk s') = _
  rw [h]
theorem rs_step (s : List (Tpl PyData)) (p : Int × Str) : (∃ r, m_read_script_6 s p = .ret r) ∨ ∃ s', m_read_script_6 s p = .go s' ∧ s'.length ≤ s.length + 1 := by
  show (∃ r, m_read_script_4 s (m__parts p.2) = .ret r) ∨ ∃ s', m_read_script_4 s (m__parts p.2) = .go s' ∧ s'.length ≤ s.length + 1
  unfold m_read_script_4
  cases decide ((0 : Int) < ((m__parts p.2).length : Int)) with
  | false => exact .inr ⟨s, rfl, Nat.le_succ _⟩
  | true =>
    show (∃ r, m_read_script_3 s (m__deed_in (m__parts p.2)) = .ret r) ∨ ∃ s', m_read_script_3 s (m__deed_in (m__parts p.2)) = .go s' ∧ s'.length ≤ s.length + 1
    cases m__deed_in (m__parts p.2) with
    | none => exact .inl ⟨_, rfl⟩
    | some d => exact .inr ⟨_, rfl, by rw [List.length_append]; exact Nat.le_refl _⟩
theorem rs_len : ∀ {l : List (Int × Str)} {s s' : List (Tpl PyData)}, runL m_read_script_6 s l = .go s' → s'.length ≤ s.length + l.length
  | [], s, s', h => by
    cases h
    exact Nat.le_add_right _ _
  | p :: l, s, s', h => by
    rcases rs_step s p with ⟨r, e⟩ | ⟨s2, e, k⟩
    · rw [runL_r e] at h; cases h
    · rw [runL_c e] at h
      have := rs_len (l := l) h
      rw [List.length_cons]
      omega
theorem rs_room {t : Str} {i : Nat} {s s' : List (Tpl PyData)} (h : PreR t) (e : [] = s) (hg : runL m_read_script_6 s (List.take i (numb 1 (Txt.split t ("\n" : Str)))) = .go s') : s'.length < sizeLine := by
  have k := rs_len hg
  rw [← e, List.length_take, numb_len] at k
  have h2 := split_count (x := t) (y := ("\n" : Str)) (by decide)
  have := h.1
  have := Nat.min_le_right i (Txt.split t ("\n" : Str)).length
  rw [sizeLine_eq]
  simp only [List.length_nil] at k
  omega

theorem ok_read_script (T : Tx w K mg base A) : FnOk P w K mg base CX0 5 A.f_read_script A.d_read_script ["text"] (p_read_script K) := by
  refine T.F_read_script.ok sc_read_script (fun vs He Q E h => ?_) (fun cdv A0 outer s He vs Q E hr h => ⟨_, (pss_cons (ps_set (i := 1) sc_read_script.nd rfl (Or.inl rfl) (pe_lst pa_nil)) (pss_cons (ps_for PassesOwn.never rfl (REN.pi_enum1 (K := K) rfl T.n_enumerate (pa_cons (pe_split (pv 0) pe_str) (pa_cons pe_int pa_nil))) (pg_tup rfl (pgs_cons (pg_name (i := 2) sc_read_script.nd rfl (Or.inl rfl)) (pgs_cons (pg_name (i := 3) sc_read_script.nd rfl (Or.inl rfl)) pgs_nil))) (pss_cons (ps_set (i := 4) sc_read_script.nd rfl (Or.inl rfl) (pe_call (ok__parts T) (hr.mono (by decide)) rfl T.g__parts T.F__parts.kp T.b__parts .nil pass0 (pa_cons (pv 3) pa_nil))) (pss_one (ps_if (pt_cmpR op_gt (pe_callB (call_lenK (K := K)) rfl T.n_len boot_len (pa_cons (pv 4) pa_nil)) pe_int (nomark _)) (pss_cons (ps_set (i := 5) sc_read_script.nd rfl (Or.inl rfl) (pe_call (ok__deed_in T) (hr.mono (by decide)) rfl T.g__deed_in T.F__deed_in.kp T.b__deed_in .nil pass0 (pa_cons (pv 4) pa_nil))) (pss_cons (ps_if (pt_cmpR op_isN (pv 5) pe_non (nomark _)) (pss_one ps_dead) pss_nil) (pss_one (ps_expr (pe_bmK (K := K) PySem.F.plainAttrs_list PySem.F.slot_list_append PySem.F.type_list_append mt_append (pv 1) (pa_cons (pv 5) pa_nil)))))) pss_nil)))) (pss_one (ps_ret (pv 1))))), ?_⟩)
  · obtain ⟨d_text, w_text, G, rfl, eG, h_text, hpre, hQ⟩ := h
    rfl
  · obtain ⟨d_text, w_text, G, rfl, eG, h_text, hpre, hQ⟩ := h
    have gr : Grow G He G He := Grow.refl eG
    obtain ⟨Ge, eGe⟩ : ∃ z, z = G := ⟨G, rfl⟩
    have gr : Grow Ge He G He := by rw [eGe]; exact gr
    rw [← eGe] at hQ
    clear eGe
    have hM : m_read_script d_text = (m_read_script_8 d_text ([] : List (Tpl PyData))) := rfl
    refine q_newF gr fun a3 H62 hF_3 hN_3 np3 hH_3 gr sm3 => ?_
    have h_2 := reps_nil (K := K) (α := (Tpl PyData)) gr
    generalize ed_1 : ([] : List (Tpl PyData)) = d_1 at h_2 hM
    unfold m_read_script_8 at hM
    refine q_forE (K := K) gr.s (ev_split (ev_var rfl h_text) ev_str (by decide) (by first | (first | exact Nat.le_trans (Nat.add_le_add_right hpre.1 2) (by decide) | exact fp_2.1 | exact (ed_25 ▸ parts_pps fp_2.1 (by rw [ed_25]; have := of_decide_eq_true (by assumption); omega)) | exact rs_room hpre ed_1 hgo0) | (first | omega | decide | (show _ ≤ sizeLine; decide) | (show _ < sizeLine; decide)))) fun G7 H8 xs9 g10 rs11 => ?_
    have h_text := up g10.g h_text
    have hN_3 := g10.f _ _ hH_3 hN_3
    have hH_3 := g10.h.l hH_3
    have h_2 := Reps.up g10.g h_2
    have gr := gr.trans g10
    refine ⟨fun i_ σ_ H_ => ∃ st_ : (List (Tpl PyData)), (runL m_read_script_6 d_1 (List.take i_ (numb 1 (Txt.split d_text ("\n" : Str))))) = Step.go st_ ∧ ∃ (G60 : Hp) (o_15 : Option V) (o_16 : Option V) (o_17 : Option V) (o_18 : Option V), Grow Ge He G60 H_ ∧ Same G7 G60 ∧ σ_ = [some w_text, some (V.ref a3), o_17, o_18, o_15, o_16] ∧ (∃ zs, Reps K (st_ : (List (Tpl PyData))) zs G60 ∧ H_ a3 = some (.lst zs) ∧ G60 a3 = none), ⟨d_1, rfl, _, _, _, _, _, gr, Same.refl _, rfl, ⟨_, h_2, hH_3, hN_3⟩⟩, ?_, ?_, ?_⟩
    · rintro i_ σ_ H_ ⟨st_, hgo_, G60, o_15, o_16, o_17, o_18, gr, sg0, rfl, ⟨zs_3, h_14, hH_3, hN_3⟩⟩
      exact un sg0 gr.s
    · rintro i_0 d_4 w_5 σ_0 H_0 T_0 hx0 h_6 ⟨st_0, hgo0, G60, o_15, o_16, o_17, o_18, gr, sg0, rfl, ⟨zs_3, h_14, hH_3, hN_3⟩⟩ hT_0
      have h_text := up sg0 h_text
      have h_6 := up sg0 h_6
      obtain ⟨dn_0, edn_0⟩ : ∃ z : Int, d_4.1 = z := ⟨_, rfl⟩
      rw [edn_0]
      have gN61 := Grow.new gr.s hT_0 (o := .tup [.int dn_0, w_5])
      have h_6 : rep K (d_4 : Int × Str) (.ref T_0) (upd G60 T_0 (.tup [.int dn_0, w_5])) := ⟨_, _, _, rfl, SqT.of upd_same, congrArg V.int edn_0.symm, up gN61.g h_6⟩
      have h_text := up gN61.g h_text
      have hN_3 := gN61.f _ _ hH_3 hN_3
      have hH_3 := gN61.h.l hH_3
      have h_14 := Reps.up gN61.g h_14
      have sg0 := sg0.trans gN61.g
      have gr := gr.trans gN61
      refine pair_apart h_6 gr.s fun w_20 w_23 h_21 h_24 => ?_
      have hMo0 := hM
      clear hM
      obtain ⟨d_12, est_0⟩ : ∃ z, z = st_0 := ⟨_, rfl⟩
      subst est_0
      have hM : m_read_script_6 d_12 d_4 = m_read_script_6 d_12 d_4 := rfl
      conv at hM => rhs; unfold m_read_script_6; unfold m_read_script_5
      have fp_1 : d_4.1 = d_4.1 := rfl
      have fp_2 : PLn d_4.2 := line_pre hpre hx0
      generalize d_4.1 = d_19 at h_21 fp_1 hM
      generalize d_4.2 = d_22 at h_24 fp_2 hM
      refine q_asg (K := K) gr.s (ev_call1 (ev_var rfl h_24) (by first | (first | exact Nat.le_trans (Nat.add_le_add_right hpre.1 2) (by decide) | exact fp_2.1 | exact (ed_25 ▸ parts_pps fp_2.1 (by rw [ed_25]; have := of_decide_eq_true (by assumption); omega)) | exact rs_room hpre ed_1 hgo0) | (first | omega | decide))) fun w_26 G29 H30 g28 (h_27 : rep K (m__parts d_22) w_26 G29) => ?_
      have h_text := up g28.g h_text
      have hN_3 := g28.f _ _ hH_3 hN_3
      have hH_3 := g28.h.l hH_3
      have h_14 := Reps.up g28.g h_14
      have h_21 := up g28.g h_21
      have h_24 := up g28.g h_24
      have sg0 := sg0.trans g28.g
      have gr := gr.trans g28
      generalize ed_25 : (m__parts d_22) = d_25 at h_27 hM
      unfold m_read_script_4 at hM
      refine s_if gr.s (et_test (ev_gt (ev_lenL (ev_var rfl h_27)) ev_int)) ?_ ?_
      · intro hb32 G33 H34 g31
        have h_text := up g31.g h_text
        have hN_3 := g31.f _ _ hH_3 hN_3
        have hH_3 := g31.h.l hH_3
        have h_14 := Reps.up g31.g h_14
        have h_21 := up g31.g h_21
        have h_24 := up g31.g h_24
        have h_27 := up g31.g h_27
        have sg0 := sg0.trans g31.g
        have gr := gr.trans g31
        replace hM := condT hM hb32
        refine q_asg (K := K) gr.s (ev_call1 (ev_var rfl h_27) (by first | (first | exact Nat.le_trans (Nat.add_le_add_right hpre.1 2) (by decide) | exact fp_2.1 | exact (ed_25 ▸ parts_pps fp_2.1 (by rw [ed_25]; have := of_decide_eq_true (by assumption); omega)) | exact rs_room hpre ed_1 hgo0) | (first | omega | decide))) fun w_36 G39 H40 g38 (h_37 : rep K (m__deed_in d_25) w_36 G39) => ?_
        have h_text := up g38.g h_text
        have hN_3 := g38.f _ _ hH_3 hN_3
        have hH_3 := g38.h.l hH_3
        have h_14 := Reps.up g38.g h_14
        have h_21 := up g38.g h_21
        have h_24 := up g38.g h_24
        have h_27 := up g38.g h_27
        have sg0 := sg0.trans g38.g
        have gr := gr.trans g38
        generalize ed_35 : (m__deed_in d_25) = d_35 at h_37 hM
        unfold m_read_script_3 at hM
        refine q_if gr.s (et_test (ev_isN nn_tpl (ev_var rfl h_37))) ?_ ?_
        · intro hb42 G43 H44 g41
          have h_text := up g41.g h_text
          have hN_3 := g41.f _ _ hH_3 hN_3
          have hH_3 := g41.h.l hH_3
          have h_14 := Reps.up g41.g h_14
          have h_21 := up g41.g h_21
          have h_24 := up g41.g h_24
          have h_27 := up g41.g h_27
          have h_37 := up g41.g h_37
          have sg0 := sg0.trans g41.g
          have gr := gr.trans g41
          replace hM := condT hM hb42
          exact rs_dead fp_2 ed_25 (by assumption) ed_35 (by assumption)
        · intro hb42 G45 H46 g41
          have h_text := up g41.g h_text
          have hN_3 := g41.f _ _ hH_3 hN_3
          have hH_3 := g41.h.l hH_3
          have h_14 := Reps.up g41.g h_14
          have h_21 := up g41.g h_21
          have h_24 := up g41.g h_24
          have h_27 := up g41.g h_27
          have h_37 := up g41.g h_37
          have sg0 := sg0.trans g41.g
          have gr := gr.trans g41
          replace hM := condF hM hb42
          rcases d_35 with _ | d_47
          · exact absurd hb42 (by simp)
          have h_37 := un_some h_37
          rw [Option.getD_some] at hM
          unfold m_read_script_2 at hM
          refine s_next ?_
          refine nx_mk ?_
          refine s_appF (K := K) gr hF_3 hN_3 rfl hH_3 h_14 (by first | (first | exact Nat.le_trans (Nat.add_le_add_right hpre.1 2) (by decide) | exact fp_2.1 | exact (ed_25 ▸ parts_pps fp_2.1 (by rw [ed_25]; have := of_decide_eq_true (by assumption); omega)) | exact rs_room hpre ed_1 hgo0) | (fail)) (ev_var rfl h_37) fun G49 H50 H57 zs55 g48 gr2 hN2 hH2 (h_54 : Reps K (d_12 ++ [d_47]) zs55 G49) bt56 => ?_
          have h_text := up g48.g h_text
          have hN_3 := g48.f _ _ hH_3 hN_3
          have hH_3 := g48.h.l hH_3
          have h_14 := Reps.up g48.g h_14
          have h_21 := up g48.g h_21
          have h_24 := up g48.g h_24
          have h_27 := up g48.g h_27
          have h_37 := up g48.g h_37
          have sg0 := sg0.trans g48.g
          have gr := gr2
          have hN_3 := hN2
          have hH_3 := hH2
          generalize ed_53 : (d_12 ++ [d_47]) = d_53 at h_54 hM
          unfold m_read_script_1 at hM
          exact ⟨_, (runL_go hgo0 hx0 hM), _, _, _, _, _, gr, sg0, rfl, ⟨_, h_54, hH_3, hN_3⟩⟩
      · intro hb32 G58 H59 g31
        have h_text := up g31.g h_text
        have hN_3 := g31.f _ _ hH_3 hN_3
        have hH_3 := g31.h.l hH_3
        have h_14 := Reps.up g31.g h_14
        have h_21 := up g31.g h_21
        have h_24 := up g31.g h_24
        have h_27 := up g31.g h_27
        have sg0 := sg0.trans g31.g
        have gr := gr.trans g31
        replace hM := condF hM hb32
        refine s_next ?_
        exact ⟨_, (runL_go hgo0 hx0 hM), _, _, _, _, _, gr, sg0, rfl, ⟨_, h_14, hH_3, hN_3⟩⟩
    · rintro σ_0 H_0 ⟨st_0, hgo0, G60, o_15, o_16, o_17, o_18, gr, sg0, rfl, ⟨zs_3, h_14, hH_3, hN_3⟩⟩
      have h_text := up sg0 h_text
      rw [List.take_length] at hgo0
      rw [hgo0, exitF_go] at hM
      obtain ⟨d_12, est_0⟩ : ∃ z, z = st_0 := ⟨_, rfl⟩
      subst est_0
      unfold m_read_script_7 at hM
      refine s_ret (K := K) (gr.fix hF_3 hN_3 hH_3).s (ev_var rfl (fix_rep h_14 hN_3)) fun u Gr Hr gq hu => ?_
      exact hQ u Gr Hr ((gr.fix hF_3 hN_3 hH_3).trans gq) (by rw [hM]; exact hu)
/-! #### _written -/
theorem esc_c : ∀ l : List Nat, E2 (E1 l) = l.flatMap escC
  | [] => rfl
  | c :: r => by
    rw [show E1 (c :: r) = (if c = 92 then [92, 92] else [c]) ++ E1 r from esc_cons .., e2_app, esc_c r, List.flatMap_cons]
    congr 1
    unfold escC
    by_cases h : c = 92
    · rw [if_pos h, if_pos (.inr h), h]
      all_goals rfl
    · rw [if_neg h]
      by_cases h2 : c = 34
      · rw [if_pos (.inl h2), h2]
        all_goals rfl
      · rw [if_neg (fun q => q.elim h2 h)]
        show E2 [c] = [c]
        rw [show E2 [c] = (if c = 34 then [92, 34] else [c]) ++ E2 [] from esc_cons .., if_neg h2]
        rfl
structure LabN (n : Nat) (l : Str) : Prop where
  n : l.length ≤ n
  p : ∀ c ∈ TL.tl l, 32 ≤ c ∧ c ≤ 126
theorem LabN.ok {n : Nat} {x : Str} (h : LabN n x) : PyData.strOk x = true := by
  obtain ⟨⟨l⟩⟩ := x
  show (Array.mk l).all (fun c => decide (c < 0x110000)) = true
  rw [← Array.all_toList]
  exact List.all_eq_true.mpr fun c hc => decide_eq_true (Nat.lt_of_le_of_lt (h.p c hc).2 (by decide))
theorem mq_tl0 (l : Str) : TL.tl (m_quoted l) = 34 :: (E2 (E1 (TL.tl l)) ++ [34]) := by
  show TL.tl (Str.empty ++ ("\"" : Str) ++ Txt.replace (Txt.replace l ("\\" : Str) ("\\\\" : Str)) ("\"" : Str) ("\\\"" : Str) ++ ("\"" : Str)) = _
  rw [TL.tl_append, TL.tl_append, TL.tl_append, esc_is, tl_q]
  rfl
theorem mq_tl (l : Str) : TL.tl (m_quoted l) = 34 :: ((TL.tl l).flatMap escC ++ [34]) := by rw [mq_tl0, esc_c]
theorem escC_len (c : Nat) : (escC c).length ≤ 2 := by unfold escC; split <;> simp
theorem fmC_len : ∀ l : List Nat, (l.flatMap escC).length ≤ 2 * l.length
  | [] => Nat.le_refl _
  | c :: l => by
    rw [List.flatMap_cons, List.length_append, List.length_cons]
    have := fmC_len l
    have := escC_len c
    omega
theorem mq_len {n : Nat} {l : Str} (h : l.length ≤ n) : (m_quoted l).length ≤ 2 * n + 2 := by
  rw [TL.len_tl, mq_tl, List.length_cons, List.length_append]
  have := fmC_len (TL.tl l)
  rw [← TL.len_tl] at this
  show (_ + 1) + 1 ≤ _
  omega
theorem mq_part (l : Str) : PartOk (TL.tl (m_quoted l)) := by
  rw [mq_tl]
  refine ⟨(fun z => by cases z), (fun z => by cases z), ?_, fun r h => scn_quote _ r h⟩
  rw [← List.cons_append, List.getLast?_append]
  intro z
  cases z
theorem mem_escC {l : List Nat} {c : Nat} (h : c ∈ l.flatMap escC) : c ∈ l ∨ c = 92 := by
  obtain ⟨d, hd, hc⟩ := List.mem_flatMap.mp h
  unfold escC at hc
  split at hc
  · rcases List.mem_cons.mp hc with q | q
    · exact .inr q
    · rw [List.mem_singleton.mp q]; exact .inl hd
  · rw [List.mem_singleton.mp hc]; exact .inl hd
theorem mq_no {n : Nat} {l : Str} (h : LabN n l) : 10 ∉ TL.tl (m_quoted l) := fun z => by
  rw [mq_tl] at z
  rcases List.mem_cons.mp z with q | q
  · cases q
  · rcases List.mem_append.mp q with q | q
    · rcases mem_escC q with q | q
      · have := h.p _ q; omega
      · cases q
    · cases List.mem_singleton.mp q
theorem text_back (l : Str) : m_text_in (m_quoted l) = some l := by
  have e : Txt.replace (Txt.replace (cutS (m_quoted l) (some (1 : Int)) (some (-(1 : Int)))) ("\\\"" : Str) ("\"" : Str)) ("\\\\" : Str) ("\\" : Str) = l := by
    refine tl_inj (unesc_is _ _ ?_)
    show (cutL (TL.tl (m_quoted l)) (some 1) (some (-1))) = _
    rw [mq_tl0, cut_mid]
  show m_text_in_1 (m_quoted l) _ = some l
  rw [e]
  unfold m_text_in_1
  rw [eqB_self]
  rfl
theorem chars_all {n : Nat} {l : Str} (h : LabN n l) : (l.cps.toList.all fun k => !decide ([k] < ((" " : Str)).cps.toList) && !decide ((("~" : Str)).cps.toList < [k])) = true := by
  refine List.all_eq_true.mpr fun c hc => ?_
  have hp := h.p c hc
  rw [show (" " : Str).cps.toList = [32] by decide +kernel, show ("~" : Str).cps.toList = [126] by decide +kernel]
  have f1 : ¬ ([c] : List Nat) < [32] := fun q => by
    rcases List.cons_lt_cons_iff.mp q with z | z
    · omega
    · exact absurd z.2 (by decide)
  have f2 : ¬ ([126] : List Nat) < [c] := fun q => by
    rcases List.cons_lt_cons_iff.mp q with z | z
    · omega
    · exact absurd z.2 (by decide)
  rw [decide_eq_false f1, decide_eq_false f2]
  rfl
theorem lab_is {l : Str} (h : LabN 40 l) : m_is_label (PyData.str l) = true := by
  show cond (false || decide ((40 : Int) < (l.length : Int))) false (m_is_label_1 (PyData.str l)) = true
  rw [show decide ((40 : Int) < (l.length : Int)) = false from decide_eq_false (by have := h.n; omega)]
  exact chars_all h
theorem txt_is {l : Str} (h : LabN 100 l) : m__is_text (PyData.str l) = true := by
  show cond (false || decide ((100 : Int) < (l.length : Int))) false (m__is_text_1 (PyData.str l)) = true
  rw [show decide ((100 : Int) < (l.length : Int)) = false from decide_eq_false (by have := h.n; omega)]
  exact chars_all h
theorem join_mem {c : Nat} {y : Str} : ∀ {l : List Str}, c ∈ TL.tl (Txt.join y l) → c ∈ TL.tl y ∨ ∃ p ∈ l, c ∈ TL.tl p
  | [], h => by
    rw [TL.join_eq] at h
    have e : TL.tl (Str.join y []) = [] := rfl
    rw [e] at h
    cases h
  | [x], h => by
    rw [join_one] at h
    exact .inr ⟨x, List.mem_cons_self, h⟩
  | x :: z :: r, h => by
    rw [join_cons2, TL.tl_append, TL.tl_append] at h
    rcases List.mem_append.mp h with q | q
    · rcases List.mem_append.mp q with q | q
      · exact .inr ⟨x, List.mem_cons_self, q⟩
      · exact .inl q
    · rcases join_mem q with q | ⟨p, hp, q⟩
      · exact .inl q
      · exact .inr ⟨p, .tail _ hp, q⟩
/-- the letters of the forms -/
def NAMESL : List Str := ["a", "root", "n12", "k.3", "abcdefgh"]
inductive AO : Str → PyData → Prop
  | n {x : Str} : x ∈ NAMESL → AO "N" (.str x)
  | k {x : Str} : x ∈ k_KINDS → AO "K" (.str x)
  | i {z : Int} : 0 ≤ z → z ≤ 59 → AO "I" (.int z)
  | c {z : Int} : 0 ≤ z → z ≤ 1000000 → AO "C" (.int z)
  | b (x : Bool) : AO "B" (.bool x)
  | l {t : Str} : LabN 40 t → AO "L" (.str t)
  | t {t : Str} : LabN 100 t → AO "T" (.str t)
def LETTERS : List Str := ["N", "K", "I", "C", "B", "L", "T"]
theorem g_mem {α : Type} [Inhabited α] {l : List α} {n : Int} (hl : 0 < l.length) : getI l (n % l.length) ∈ l := getI_mem (at_in (Int.emod_nonneg _ (by omega)) (Int.emod_lt_of_pos _ (by omega)))
def atomD (d : PyData) : Bool := isNonD d || (isBoolD d || (isStrD d || isNumD d))
def Pl : Nat → PyData → Prop
  | 0, _ => False
  | n + 1, d => (atomD d = true ∧ SeqAt.shaped d = true) ∨ ∃ ds, d = .tuple ds ∧ ds.length ≤ 1000 ∧ ∀ x ∈ ds, Pl n x
/-- what a form of an argument asks -/
def formOf (c : Str) : Str := cond (eqB c ("N" : Str)) "name" (cond (eqB c ("K" : Str)) "kind" (cond (eqB c ("I" : Str)) "index" (cond (eqB c ("C" : Str)) "number" (cond (eqB c ("B" : Str)) "tone" (cond (eqB c ("L" : Str)) "label" "text")))))
theorem foN : formOf "N" = ("name" : Str) := by decide +kernel
theorem foK : formOf "K" = ("kind" : Str) := by decide +kernel
theorem foI : formOf "I" = ("index" : Str) := by decide +kernel
theorem foC : formOf "C" = ("number" : Str) := by decide +kernel
theorem foB : formOf "B" = ("tone" : Str) := by decide +kernel
theorem foL : formOf "L" = ("label" : Str) := by decide +kernel
theorem foT : formOf "T" = ("text" : Str) := by decide +kernel

def PreW (a : PyData) (f : Str) : Prop := ∃ c, AO c a ∧ f = formOf c
theorem prew_q {a : PyData} {f : Str} (h : PreW a f) (q : memB f ((Tpl.mk (("label" : Str) :: (("text" : Str) :: ([] : List Str))))).l = true) : isStrD a = true ∧ PreB (strD a) := by
  obtain ⟨c, h, e⟩ := h
  subst e
  cases h with
  | n h => exact absurd q (by decide +kernel)
  | k h => exact absurd q (by decide +kernel)
  | i h0 h1 => exact absurd q (by decide +kernel)
  | c h0 h1 => exact absurd q (by decide +kernel)
  | b x => exact absurd q (by decide +kernel)
  | l h => exact ⟨rfl, Nat.le_trans h.n (by decide)⟩
  | t h => exact ⟨rfl, Nat.le_trans h.n (by decide)⟩
theorem prew_t {a : PyData} {f : Str} (h : PreW a f) (q : eqB f ("tone" : Str) = true) : isBoolD a = true := by
  obtain ⟨c, h, e⟩ := h
  subst e
  cases h with
  | n h => exact absurd q (by decide +kernel)
  | k h => exact absurd q (by decide +kernel)
  | i h0 h1 => exact absurd q (by decide +kernel)
  | c h0 h1 => exact absurd q (by decide +kernel)
  | b x => rfl
  | l h => exact absurd q (by decide +kernel)
  | t h => exact absurd q (by decide +kernel)
theorem prew_d {a : PyData} {f : Str} (h : PreW a f) (q : eqB f ("tone" : Str) = false) : isStrD a = true ∨ isNumD a = true ∧ (intD a).natAbs.log2 < 1920 := by
  obtain ⟨c, h, e⟩ := h
  subst e
  cases h with
  | n h => exact .inl rfl
  | k h => exact .inl rfl
  | @i z h0 h1 => exact .inr ⟨rfl, lt1920 (z := z) h0 (by omega)⟩
  | @c z h0 h1 => exact .inr ⟨rfl, lt1920 (z := z) h0 h1⟩
  | b x => exact absurd q (by decide +kernel)
  | l h => exact .inl rfl
  | t h => exact .inl rfl

def m__written_1 (d_argument : PyData) (d_form : Str) : Str := (cond (eqB d_form ("tone" : Str)) (cond (boolD d_argument) ("assertive" : Str) ("polite" : Str)) (strOfD d_argument))
def m__written (d_argument : PyData) (d_form : Str) : Str := (cond (memB d_form ((Tpl.mk (("label" : Str) :: (("text" : Str) :: ([] : List Str))))).l) (m_quoted (strD d_argument)) (m__written_1 d_argument d_form))
abbrev p__written (K : PySem.W.Frag) : Sp := sp2 K (fun a f => PreW a f) m__written
theorem ok__written (T : Tx w K mg base A) : FnOk P w K mg base CX0 2 A.f__written A.d__written ["argument", "form"] (p__written K) := by
  refine T.F__written.ok sc__written (fun vs He Q E h => ?_) (fun cdv A0 outer s He vs Q E hr h => ⟨_, (pss_cons (ps_if (pt_cmpR (op_inK (K := K)) (pv 1) (pe_tup (pa_cons pe_str (pa_cons pe_str pa_nil))) (by rfl)) (pss_one (ps_ret (pe_call (ok_quoted T) (hr.mono (by decide)) rfl T.g_quoted T.F_quoted.kp T.b_quoted .nil pass0 (pa_cons (pv 0) pa_nil)))) pss_nil) (pss_cons (ps_if (pt_cmpR op_eq (pv 1) pe_str (nomark _)) (pss_one (ps_ret (pe_ifExp (pt_val (pv 0)) pe_str pe_str))) pss_nil) (pss_one (ps_ret (pe_callTy call_strA rfl T.n_str boot_str (pa_cons (pv 0) pa_nil)))))), ?_⟩)
  · obtain ⟨d_argument, d_form, w_argument, w_form, G, rfl, eG, h_argument, h_form, hpre, hQ⟩ := h
    rfl
  · obtain ⟨d_argument, d_form, w_argument, w_form, G, rfl, eG, h_argument, h_form, hpre, hQ⟩ := h
    have gr : Grow G He G He := Grow.refl eG
    obtain ⟨Ge, eGe⟩ : ∃ z, z = G := ⟨G, rfl⟩
    have gr : Grow Ge He G He := by rw [eGe]; exact gr
    rw [← eGe] at hQ
    clear eGe
    have hM : m__written d_argument d_form = (cond (memB d_form ((Tpl.mk (("label" : Str) :: (("text" : Str) :: ([] : List Str))))).l) (m_quoted (strD d_argument)) (m__written_1 d_argument d_form)) := rfl
    refine q_if gr.s (et_test (ev_inT (ev_var rfl h_form) (ev_tpl (ea_cons ev_str (ea_cons ev_str ea_nil)) (by first | (show _ ≤ sizeLine; decide) | (simp only [List.length_cons, List.length_nil, sizeLine_eq]; omega))))) ?_ ?_
    · intro hb2 G3 H4 g1
      have h_argument := up g1.g h_argument
      have h_form := up g1.g h_form
      have gr := gr.trans g1
      replace hM := condT hM hb2
      refine s_ret (K := K) gr.s (ev_call1 (ev_asStr (ev_var rfl h_argument) (by first | (first | exact (prew_q hpre (by assumption)).1 | exact (prew_q hpre (by assumption)).2 | exact prew_t hpre (by assumption) | exact prew_d hpre (by assumption)) | (first | assumption | exact or_l (by assumption) | exact or_l (or_r (by assumption)) | exact num_of (by assumption) (by assumption) | exact not_fA (by assumption) | (first | omega | decide)))) (by first | (first | exact (prew_q hpre (by assumption)).1 | exact (prew_q hpre (by assumption)).2 | exact prew_t hpre (by assumption) | exact prew_d hpre (by assumption)) | (first | omega | decide))) fun u Gr Hr gq hu => ?_
      exact hQ u Gr Hr (gr.trans gq) (by rw [hM]; exact hu)
    · intro hb2 G5 H6 g1
      have h_argument := up g1.g h_argument
      have h_form := up g1.g h_form
      have gr := gr.trans g1
      replace hM := condF hM hb2
      unfold m__written_1 at hM
      refine s_next ?_
      refine nx_mk ?_
      refine q_if gr.s (et_test (ev_eq (ev_var rfl h_form) ev_str)) ?_ ?_
      · intro hb8 G9 H10 g7
        have h_argument := up g7.g h_argument
        have h_form := up g7.g h_form
        have gr := gr.trans g7
        replace hM := condT hM hb8
        refine s_ret (K := K) gr.s (ev_if (et_B (ev_asBool (ev_var rfl h_argument) (by first | (first | exact (prew_q hpre (by assumption)).1 | exact (prew_q hpre (by assumption)).2 | exact prew_t hpre (by assumption) | exact prew_d hpre (by assumption)) | (first | assumption | exact or_l (by assumption) | exact or_l (or_r (by assumption)) | exact num_of (by assumption) (by assumption) | exact not_fA (by assumption) | (first | omega | decide))))) (fun hb11 => ev_str) (fun hb12 => ev_str)) fun u Gr Hr gq hu => ?_
        exact hQ u Gr Hr (gr.trans gq) (by rw [hM]; exact hu)
      · intro hb8 G13 H14 g7
        have h_argument := up g7.g h_argument
        have h_form := up g7.g h_form
        have gr := gr.trans g7
        replace hM := condF hM hb8
        refine s_next ?_
        refine nx_mk ?_
        refine s_ret (K := K) gr.s (ev_strD (ev_var rfl h_argument) (by first | (first | exact (prew_q hpre (by assumption)).1 | exact (prew_q hpre (by assumption)).2 | exact prew_t hpre (by assumption) | exact prew_d hpre (by assumption)) | (fail))) fun u Gr Hr gq hu => ?_
        exact hQ u Gr Hr (gr.trans gq) (by rw [hM]; exact hu)
/-! #### _line_of -/
theorem hfI (d : PyData) : m__has_form d ("index" : Str) = m__is_number d 59 := by
  unfold m__has_form m__has_form_5 m__has_form_4 m__has_form_3 m__has_form_2 m__has_form_1
  rw [show eqB ("index" : Str) ("name" : Str) = false by decide +kernel, show eqB ("index" : Str) ("label" : Str) = false by decide +kernel, show eqB ("index" : Str) ("text" : Str) = false by decide +kernel, show eqB ("index" : Str) ("kind" : Str) = false by decide +kernel, show eqB ("index" : Str) ("tone" : Str) = false by decide +kernel, eqB_self]
  rfl
theorem hfC (d : PyData) : m__has_form d ("number" : Str) = m__is_number d 1000000 := by
  unfold m__has_form m__has_form_5 m__has_form_4 m__has_form_3 m__has_form_2 m__has_form_1
  rw [show eqB ("number" : Str) ("name" : Str) = false by decide +kernel, show eqB ("number" : Str) ("label" : Str) = false by decide +kernel, show eqB ("number" : Str) ("text" : Str) = false by decide +kernel, show eqB ("number" : Str) ("kind" : Str) = false by decide +kernel, show eqB ("number" : Str) ("tone" : Str) = false by decide +kernel, show eqB ("number" : Str) ("index" : Str) = false by decide +kernel]
  rfl
theorem hfL (d : PyData) : m__has_form d ("label" : Str) = m_is_label d := by
  unfold m__has_form m__has_form_5
  rw [show eqB ("label" : Str) ("name" : Str) = false by decide +kernel, eqB_self]
  rfl
theorem hfT (d : PyData) : m__has_form d ("text" : Str) = m__is_text d := by
  unfold m__has_form m__has_form_5 m__has_form_4
  rw [show eqB ("text" : Str) ("name" : Str) = false by decide +kernel, show eqB ("text" : Str) ("label" : Str) = false by decide +kernel, eqB_self]
  rfl
theorem is_num {z m : Int} (h0 : 0 ≤ z) (h1 : z ≤ m) : m__is_number (.int z) m = true := by
  show (true && (true && (decide ((0 : Int) ≤ z) && decide (z ≤ m)))) = true
  rw [decide_eq_true h0, decide_eq_true h1]
  rfl
theorem ao_form {c : Str} {a : PyData} (h : AO c a) : m__has_form a (formOf c) = true := by
  cases h with
  | n h =>
    have : ∀ x ∈ NAMESL, m__has_form (.str x) (formOf "N") = true := by decide +kernel
    exact this _ h
  | k h =>
    have : ∀ x ∈ k_KINDS, m__has_form (.str x) (formOf "K") = true := by decide +kernel
    exact this _ h
  | i h0 h1 => rw [foI, hfI]; exact is_num h0 h1
  | c h0 h1 => rw [foC, hfC]; exact is_num h0 h1
  | b x => cases x <;> decide +kernel
  | l h => rw [foL, hfL]; exact lab_is h
  | t h => rw [foT, hfT]; exact txt_is h
theorem wrQ (a : PyData) : m__written a ("label" : Str) = m_quoted (strD a) ∧ m__written a ("text" : Str) = m_quoted (strD a) := by
  unfold m__written
  rw [show memB ("label" : Str) (Tpl.mk (("label" : Str) :: (("text" : Str) :: ([] : List Str)))).l = true by decide +kernel, show memB ("text" : Str) (Tpl.mk (("label" : Str) :: (("text" : Str) :: ([] : List Str)))).l = true by decide +kernel]
  exact ⟨rfl, rfl⟩
theorem wrD {f : Str} (a : PyData) (h1 : memB f (Tpl.mk (("label" : Str) :: (("text" : Str) :: ([] : List Str)))).l = false) (h2 : eqB f ("tone" : Str) = false) : m__written a f = strOfD a := by
  unfold m__written m__written_1
  rw [h1, h2]
  rfl
theorem wrI (a : PyData) : m__written a ("index" : Str) = strOfD a := wrD a (by decide +kernel) (by decide +kernel)
theorem wrC (a : PyData) : m__written a ("number" : Str) = strOfD a := wrD a (by decide +kernel) (by decide +kernel)
theorem rdI (p : Str) : m__argument_in p ("index" : Str) = Dat.d (m__number_in p) := by
  unfold m__argument_in m__argument_in_2
  rw [show memB ("index" : Str) (Tpl.mk (("label" : Str) :: (("text" : Str) :: ([] : List Str)))).l = false by decide +kernel, show memB ("index" : Str) (Tpl.mk (("index" : Str) :: (("number" : Str) :: ([] : List Str)))).l = true by decide +kernel]
  rfl
theorem rdC (p : Str) : m__argument_in p ("number" : Str) = Dat.d (m__number_in p) := by
  unfold m__argument_in m__argument_in_2
  rw [show memB ("number" : Str) (Tpl.mk (("label" : Str) :: (("text" : Str) :: ([] : List Str)))).l = false by decide +kernel, show memB ("number" : Str) (Tpl.mk (("index" : Str) :: (("number" : Str) :: ([] : List Str)))).l = true by decide +kernel]
  rfl
theorem rdL (p : Str) : m__argument_in p ("label" : Str) = Dat.d (m_text_in p) := by
  unfold m__argument_in
  rw [show memB ("label" : Str) (Tpl.mk (("label" : Str) :: (("text" : Str) :: ([] : List Str)))).l = true by decide +kernel]
  rfl
theorem rdT (p : Str) : m__argument_in p ("text" : Str) = Dat.d (m_text_in p) := by
  unfold m__argument_in
  rw [show memB ("text" : Str) (Tpl.mk (("label" : Str) :: (("text" : Str) :: ([] : List Str)))).l = true by decide +kernel]
  rfl
theorem atom_s {x : Str} (h : PyData.strOk x = true) : Pl 1 (.str x) := .inl ⟨rfl, by
  show (PyData.strOk x && decide (PyData.depth (.str x) ≤ 64)) = true
  rw [h]
  rfl⟩
/-- all that is asked of a written argument -/
structure AOk (a : PyData) (f w : Str) : Prop where
  wr : m__written a f = w
  bk : m__argument_in w f = a
  pt : PartOk (TL.tl w)
  no : 10 ∉ TL.tl w
  ln : w.length ≤ 202
  pl : Pl 1 a
  sl : (strD a).length ≤ 100
theorem ao_ok {c : Str} {a : PyData} (h : AO c a) : AOk a (formOf c) (m__written a (formOf c)) := by
  cases h with
  | n h =>
    have k : ∀ x ∈ NAMESL, m__written (.str x) (formOf "N") = x ∧ m__argument_in x (formOf "N") = .str x ∧ TL.tl x ≠ [] ∧ 32 ∉ TL.tl x ∧ 34 ∉ TL.tl x ∧ 10 ∉ TL.tl x ∧ x.length ≤ 100 ∧ PyData.strOk x = true := by
      have k1 : ∀ x ∈ NAMESL, TL.tl x ≠ [] ∧ 32 ∉ TL.tl x ∧ 34 ∉ TL.tl x ∧ 10 ∉ TL.tl x ∧ x.length ≤ 100 ∧ PyData.strOk x = true := by decide +kernel
      refine fun x hx => ⟨?_, ?_, k1 x hx⟩
      · rw [foN]; exact wrD _ (by decide +kernel) (by decide +kernel)
      · rw [foN]
        unfold m__argument_in m__argument_in_2 m__argument_in_1
        rw [show memB ("name" : Str) (Tpl.mk (("label" : Str) :: (("text" : Str) :: ([] : List Str)))).l = false by decide +kernel, show memB ("name" : Str) (Tpl.mk (("index" : Str) :: (("number" : Str) :: ([] : List Str)))).l = false by decide +kernel, show eqB ("name" : Str) ("tone" : Str) = false by decide +kernel]
        rfl
    obtain ⟨e1, e2, e3, e4, e5, e6, e7, e8⟩ := k _ h
    rw [e1]
    exact ⟨e1, e2, plain_part e3 e4 e5, e6, Nat.le_trans e7 (by decide), atom_s e8, e7⟩
  | k h =>
    have k : ∀ x ∈ k_KINDS, m__written (.str x) (formOf "K") = x ∧ m__argument_in x (formOf "K") = .str x ∧ TL.tl x ≠ [] ∧ 32 ∉ TL.tl x ∧ 34 ∉ TL.tl x ∧ 10 ∉ TL.tl x ∧ x.length ≤ 100 ∧ PyData.strOk x = true := by
      have k1 : ∀ x ∈ k_KINDS, TL.tl x ≠ [] ∧ 32 ∉ TL.tl x ∧ 34 ∉ TL.tl x ∧ 10 ∉ TL.tl x ∧ x.length ≤ 100 ∧ PyData.strOk x = true := by decide +kernel
      refine fun x hx => ⟨?_, ?_, k1 x hx⟩
      · rw [foK]; exact wrD _ (by decide +kernel) (by decide +kernel)
      · rw [foK]
        unfold m__argument_in m__argument_in_2 m__argument_in_1
        rw [show memB ("kind" : Str) (Tpl.mk (("label" : Str) :: (("text" : Str) :: ([] : List Str)))).l = false by decide +kernel, show memB ("kind" : Str) (Tpl.mk (("index" : Str) :: (("number" : Str) :: ([] : List Str)))).l = false by decide +kernel, show eqB ("kind" : Str) ("tone" : Str) = false by decide +kernel]
        rfl
    obtain ⟨e1, e2, e3, e4, e5, e6, e7, e8⟩ := k _ h
    rw [e1]
    exact ⟨e1, e2, plain_part e3 e4 e5, e6, Nat.le_trans e7 (by decide), atom_s e8, e7⟩
  | @i z h0 h1 =>
    rw [foI, wrI]
    refine ⟨wrI _, ?_, num_part h0, fun q => ?_, Nat.le_trans (num_len h0 (by omega)) (by decide), .inl ⟨rfl, rfl⟩, by show Str.empty.length ≤ 100; decide⟩
    · show m__argument_in (numS z) _ = _
      rw [rdI, num_back h0 (by omega)]
      rfl
    · have := num_dig h0 _ q
      omega
  | @c z h0 h1 =>
    rw [foC, wrC]
    refine ⟨wrC _, ?_, num_part h0, fun q => ?_, Nat.le_trans (num_len h0 h1) (by decide), .inl ⟨rfl, rfl⟩, by show Str.empty.length ≤ 100; decide⟩
    · show m__argument_in (numS z) _ = _
      rw [rdC, num_back h0 h1]
      rfl
    · have := num_dig h0 _ q
      omega
  | b x =>
    have k : ∀ x : Bool, m__written (.bool x) (formOf "B") = cond x ("assertive" : Str) ("polite" : Str) := by decide +kernel
    have k2 : tabGet k__TONES (cond x ("assertive" : Str) ("polite" : Str)) = some x := by cases x <;> decide +kernel
    rw [k]
    refine ⟨k x, ?_, ?_, ?_, ?_, .inl ⟨rfl, rfl⟩, by show Str.empty.length ≤ 100; decide⟩
    · rw [foB]
      unfold m__argument_in m__argument_in_2 m__argument_in_1
      rw [show memB ("tone" : Str) (Tpl.mk (("label" : Str) :: (("text" : Str) :: ([] : List Str)))).l = false by decide +kernel, show memB ("tone" : Str) (Tpl.mk (("index" : Str) :: (("number" : Str) :: ([] : List Str)))).l = false by decide +kernel, eqB_self, k2]
      rfl
    · cases x
      · exact plain_part (x := ("polite" : Str)) (by decide +kernel) (by decide +kernel) (by decide +kernel)
      · exact plain_part (x := ("assertive" : Str)) (by decide +kernel) (by decide +kernel) (by decide +kernel)
    · cases x <;> decide +kernel
    · cases x <;> decide +kernel
  | @l t h =>
    rw [foL, (wrQ _).1]
    refine ⟨(wrQ _).1, ?_, mq_part t, mq_no h, Nat.le_trans (mq_len (n := 100) (Nat.le_trans h.n (by decide))) (by decide), atom_s h.ok, Nat.le_trans h.n (by decide)⟩
    show m__argument_in (m_quoted t) _ = _
    rw [rdL, text_back]
    rfl
  | @t t h =>
    rw [foT, (wrQ _).2]
    refine ⟨(wrQ _).2, ?_, mq_part t, mq_no h, Nat.le_trans (mq_len h.n) (by decide), atom_s h.ok, h.n⟩
    show m__argument_in (m_quoted t) _ = _
    rw [rdT, text_back]
    rfl
structure LDx (d : Tpl PyData) (w F : Str) (as : List PyData) : Prop where
  e : d.l = .str w :: as
  hw : w ∈ WORDSD
  hf : tabGet FORMSL w = some F
  ao : Paired AO (sgn F) as
theorem words_fm : ∀ w ∈ WORDSD, (tabGet k_FORMS w).map (·.l) = (tabGet FORMSL w).map (fun F => (sgn F).map formOf) := by decide +kernel
theorem words_lt : ∀ w ∈ WORDSD, (tabGet FORMSL w).map (fun F => decide (F.length ≤ 5) && (sgn F).all (fun c => memB c LETTERS)) = some true := by decide +kernel
theorem words_pt : ∀ w ∈ WORDSD, TL.tl w ≠ [] ∧ 32 ∉ TL.tl w ∧ 34 ∉ TL.tl w ∧ 10 ∉ TL.tl w ∧ w.length ≤ 20 ∧ PyData.strOk w = true := by decide +kernel
theorem LDx.fm {d : Tpl PyData} {w F : Str} {as : List PyData} (h : LDx d w F as) : ∃ fs : Tpl Str, tabGet k_FORMS w = some fs ∧ fs.l = (sgn F).map formOf := by
  have e := words_fm w h.hw
  rw [h.hf] at e
  cases q : tabGet k_FORMS w with
  | none => rw [q] at e; cases e
  | some fs =>
    rw [q] at e
    exact ⟨fs, rfl, Option.some.inj e⟩
theorem word_F {w : Str} (h : w ∈ WORDSD) : ∃ F, tabGet FORMSL w = some F ∧ F.length ≤ 5 ∧ ∀ c ∈ sgn F, c ∈ LETTERS := by
  have e := words_lt w h
  cases q : tabGet FORMSL w with
  | none => rw [q] at e; cases e
  | some F =>
    rw [q] at e
    have e := Bool.and_eq_true_iff.mp (Option.some.inj e)
    exact ⟨F, rfl, of_decide_eq_true e.1, fun c hc => of_decide_eq_true (List.all_eq_true.mp e.2 c hc)⟩
/-! the arguments, written -/
def wrsL (as : List PyData) (fs : List Str) : List Str := (List.zip as fs).map fun p => m__written p.1 p.2
structure WOk (cs : List Str) (as : List PyData) : Prop where
  l1 : as.length = cs.length
  l2 : (wrsL as (cs.map formOf)).length = cs.length
  bk : (List.zip (wrsL as (cs.map formOf)) (cs.map formOf)).map (fun p => m__argument_in p.1 p.2) = as
  fm : ((List.zip as (cs.map formOf)).map (fun p => m__has_form p.1 p.2)).all id = true
  pt : ∀ x ∈ wrsL as (cs.map formOf), PartOk (TL.tl x) ∧ 10 ∉ TL.tl x ∧ x.length ≤ 202
  pl : ∀ a ∈ as, Pl 1 a ∧ (strD a).length ≤ 100
  zp : ∀ p ∈ List.zip as (cs.map formOf), ∃ c, AO c p.1 ∧ p.2 = formOf c
theorem w_ok : ∀ {cs : List Str} {as : List PyData}, Paired AO cs as → WOk cs as
  | _, _, .nil => ⟨rfl, rfl, rfl, rfl, (fun x hx => by cases hx), (fun x hx => by cases hx), (fun x hx => by cases hx)⟩
  | _, _, .cons (a := c) (b := a) (l₁ := cs) (l₂ := as) h t => by
    have k := w_ok t
    have o := ao_ok h
    refine ⟨congrArg (· + 1) k.l1, congrArg (· + 1) k.l2, ?_, ?_, ?_, ?_, ?_⟩
    · show m__argument_in (m__written a (formOf c)) (formOf c) :: (List.zip (wrsL as (cs.map formOf)) (cs.map formOf)).map (fun p => m__argument_in p.1 p.2) = a :: as
      rw [k.bk, o.bk]
    · show (m__has_form a (formOf c) && ((List.zip as (cs.map formOf)).map (fun p => m__has_form p.1 p.2)).all id) = true
      rw [k.fm, ao_form h]
      rfl
    · intro x hx
      rcases List.mem_cons.mp (show x ∈ m__written a (formOf c) :: wrsL as (cs.map formOf) from hx) with q | q
      · rw [q]; exact ⟨o.pt, o.no, o.ln⟩
      · exact k.pt x q
    · intro x hx
      rcases List.mem_cons.mp hx with q | q
      · rw [q]; exact ⟨o.pl, o.sl⟩
      · exact k.pl x q
    · intro p hp
      rcases List.mem_cons.mp (show p ∈ (a, formOf c) :: List.zip as (cs.map formOf) from hp) with q | q
      · rw [q]; exact ⟨c, h, rfl⟩
      · exact k.zp p q
def PreL (d : Tpl PyData) : Prop := ∃ w F as, LDx d w F as
def m__line_of_1 (d_4 : Str) (d_7 : (Tpl PyData)) : Str := (Txt.join (" " : Str) ((d_4 :: ([] : List Str)) ++ (List.map (fun (d_10 : PyData × Str) => (m__written d_10.1 d_10.2)) (List.zip d_7.l ((tabGet k_FORMS d_4).getD default).l))))
def m__line_of (d_deed : (Tpl PyData)) : Str := (m__line_of_1 (strD (getI (d_deed).l (0 : Int))) (Tpl.mk (cutL (d_deed).l (some (1 : Int)) none)))
abbrev p__line_of (K : PySem.W.Frag) : Sp := sp1 K (fun d => PreL d) m__line_of
section
variable {d : Tpl PyData} {w F : Str} {as : List PyData}
def pr_ (w F : Str) (as : List PyData) : List Str := w :: wrsL as ((sgn F).map formOf)
theorem get0 {α : Type} [Inhabited α] (x : α) (l : List α) : getI (x :: l) 0 = x := by
  rw [getI_nat (Int.le_refl 0) (by rw [List.length_cons]; omega)]
  rfl
theorem cut1 {α : Type} (x : α) (l : List α) : cutL (x :: l) (some (1 : Int)) none = l := cut_from _ (by decide)
theorem LDx.line (h : LDx d w F as) : m__line_of d = Txt.join (" " : Str) (pr_ w F as) := by
  obtain ⟨fs, e1, e2⟩ := h.fm
  unfold m__line_of
  rw [h.e, cut1, get0]
  show m__line_of_1 w (Tpl.mk as) = _
  unfold m__line_of_1
  rw [e1]
  show Txt.join (" " : Str) ([w] ++ (List.zip as fs.l).map fun p => m__written p.1 p.2) = _
  rw [e2]
  rfl
theorem LDx.deed (h : LDx d w F as) : m_is_deed (Dat.d d) = true := by
  obtain ⟨fs, e1, e2⟩ := h.fm
  have k := w_ok h.ao
  obtain ⟨dl⟩ := d
  have he : dl = .str w :: as := h.e
  rw [he, dat_tpl]
  have hl : eqB ((as.length : Int)) ((fs.l.length : Nat) : Int) = true := decide_eq_true (by rw [e2, List.length_map, k.l1])
  unfold m_is_deed
  rw [show eqB (((Tpl.mk (tupD (PyData.tuple (PyData.str w :: as)))).l.length : Nat) : Int) (0 : Int) = false from decide_eq_false (by
    show ((PyData.str w :: as).length : Int) ≠ 0
    rw [List.length_cons]; omega)]
  show m_is_deed_3 (PyData.tuple (PyData.str w :: as)) = true
  unfold m_is_deed_3
  show m_is_deed_2 (getI (PyData.str w :: as) 0) (Tpl.mk (cutL (PyData.str w :: as) (some (1 : Int)) none)) = true
  rw [cut1, get0]
  unfold m_is_deed_2
  show cond (false || ((!(tabGet k_FORMS w).isSome) || !eqB ((as.length : Nat) : Int) (((((tabGet k_FORMS w).getD default)).l.length : Nat) : Int))) false (((List.zip as ((tabGet k_FORMS w).getD default).l).map (fun p => m__has_form p.1 p.2)).all id) = true
  rw [e1]
  show cond (false || (false || !eqB ((as.length : Nat) : Int) ((fs.l.length : Nat) : Int))) false (((List.zip as fs.l).map (fun p => m__has_form p.1 p.2)).all id) = true
  rw [hl, e2]
  exact k.fm
theorem LDx.back (h : LDx d w F as) : m__deed_in (pr_ w F as) = some d := by
  obtain ⟨fs, e1, e2⟩ := h.fm
  have k := w_ok h.ao
  unfold m__deed_in
  show m__deed_in_4 (getI (w :: wrsL as ((sgn F).map formOf)) 0) (cutL (w :: wrsL as ((sgn F).map formOf)) (some (1 : Int)) none) = _
  rw [cut1, get0]
  unfold m__deed_in_4
  rw [e1]
  show m__deed_in_3 w (wrsL as ((sgn F).map formOf)) fs = _
  unfold m__deed_in_3
  rw [show eqB (((wrsL as ((sgn F).map formOf)).length : Nat) : Int) ((fs.l.length : Nat) : Int) = true from decide_eq_true (by rw [e2, List.length_map, k.l2])]
  show m__deed_in_2 w (wrsL as ((sgn F).map formOf)) fs = _
  unfold m__deed_in_2
  rw [e2, k.bk, List.append_nil, ← h.e]
  show m__deed_in_1 d = some d
  unfold m__deed_in_1
  rw [h.deed]
  rfl
theorem pr_ok (h : LDx d w F as) : ∀ x ∈ pr_ w F as, PartOk (TL.tl x) ∧ 10 ∉ TL.tl x ∧ x.length ≤ 202 := by
  intro x hx
  rcases List.mem_cons.mp hx with q | q
  · obtain ⟨a, b, c, e, f, _⟩ := words_pt w h.hw
    rw [q]
    exact ⟨plain_part a b c, e, Nat.le_trans f (by decide)⟩
  · exact (w_ok h.ao).pt x q
theorem LDx.five (h : LDx d w F as) : (sgn F).length ≤ 5 ∧ (sgn F).length = F.length := by
  obtain ⟨F2, e, l, _⟩ := word_F h.hw
  rw [h.hf] at e
  have e := Option.some.inj e
  subst e
  exact ⟨by rw [sgn_len]; exact l, sgn_len F⟩
theorem join_len' {y : Str} {n m : Nat} {l : List Str} (h : ∀ p ∈ l, p.length ≤ n) (hl : l.length ≤ m) (hy : y.length ≤ 3) : (Txt.join y l).length ≤ m * n + m * 3 := by
  rw [join_len]
  refine Nat.add_le_add (Nat.le_trans (sum_le h) (Nat.mul_le_mul_right _ hl)) (Nat.mul_le_mul (by omega) hy)
theorem pr_len (h : LDx d w F as) : (pr_ w F as).length ≤ 6 := by
  have k := w_ok h.ao
  show (wrsL as ((sgn F).map formOf)).length + 1 ≤ 6
  rw [k.l2]
  have := h.five.1
  omega
theorem LDx.len (h : LDx d w F as) : (m__line_of d).length ≤ 1230 := by
  rw [h.line]
  exact join_len' (fun p hp => (pr_ok h p hp).2.2) (pr_len h) (by decide)
theorem rg_getI {α : Type} [Inhabited α] (l : List α) : l = (rgs 0 (l.length : Int)).map (getI l) := by
  refine List.ext_getElem (by rw [List.length_map, rgs_len]; omega) fun i h1 h2 => ?_
  rw [List.getElem_map]
  have e : (rgs 0 (l.length : Int))[i]'(by rw [rgs_len]; omega) = (i : Int) := by
    unfold rgs
    rw [List.getElem_map, List.getElem_range]
    omega
  rw [e, getI_nat (by omega) (by omega)]
  show l[i] = l.getD i default
  rw [List.getD_eq_getElem?_getD, List.getElem?_eq_getElem h1]
  rfl
theorem sg_get {F : Str} {k : Int} (h0 : 0 ≤ k) (h1 : k < F.length) : getI (sgn F) k = getS F k := by
  have hl : (sgn F).length = F.length := sgn_len F
  rw [getI_nat h0 (by rw [hl]; exact h1)]
  have hk : k.toNat < F.cps.toList.length := by rw [Array.length_toList]; show k.toNat < F.length; omega
  have e : getI F.cps.toList k = F.cps.toList[k.toNat] := by
    rw [getI_nat h0 (by omega), List.getD_eq_getElem?_getD, List.getElem?_eq_getElem hk]
    rfl
  have e2 : (sgn F)[k.toNat]'(by rw [hl]; omega) = ⟨#[F.cps.toList[k.toNat]]⟩ := by
    unfold sgn
    rw [List.getElem_map]
  unfold getS
  rw [e, List.getD_eq_getElem?_getD, List.getElem?_eq_getElem (by rw [hl]; omega), e2]
  rfl
theorem rg_in {n : Nat} {k : Int} (h : k ∈ rgs 0 (n : Int)) : 0 ≤ k ∧ k < n := by
  unfold rgs at h
  obtain ⟨i, hi, e⟩ := List.mem_map.mp h
  have := List.mem_range.mp hi
  omega
theorem pr_map {F : Str} {α : Type} (g : Str → α) : (rgs 0 (F.length : Int)).map (fun k => g (getS F k)) = (sgn F).map g := by
  have hl : (sgn F).length = F.length := sgn_len F
  conv => rhs; rw [rg_getI (sgn F)]
  rw [List.map_map, hl]
  refine List.map_congr_left fun k hk => ?_
  obtain ⟨h0, h1⟩ := rg_in hk
  show g (getS F k) = g (getI (sgn F) k)
  rw [sg_get h0 h1]
theorem paired_map {α β γ : Type} {R : β → γ → Prop} {f : α → β} {g : α → γ} : ∀ {l : List α}, (∀ x ∈ l, R (f x) (g x)) → Paired R (l.map f) (l.map g)
  | [], _ => .nil
  | x :: l, h => .cons (h x (.head _)) (paired_map fun y hy => h y (.tail _ hy))
end

theorem pl_at0 {d : Tpl PyData} (h : PreL d) : (atI d.l (0 : Int)).isSome = true := by
  obtain ⟨w, F, as, k⟩ := h
  rw [k.e]
  exact at_in (Int.le_refl 0) (by rw [List.length_cons]; omega)
theorem pl_s0 {d : Tpl PyData} (h : PreL d) : isStrD (getI d.l (0 : Int)) = true := by
  obtain ⟨w, F, as, k⟩ := h
  rw [k.e, get0]
  rfl
theorem pl_open {d y : Tpl PyData} {x : Str} (h : PreL d) (e4 : strD (getI d.l (0 : Int)) = x) (e7 : Tpl.mk (cutL d.l (some (1 : Int)) none) = y) : ∃ F, LDx d x F y.l := by
  obtain ⟨w, F, as, k⟩ := h
  rw [k.e, get0] at e4
  rw [k.e, cut1] at e7
  subst e7
  exact ⟨F, by rw [← e4]; exact k⟩
theorem L_some {d : Tpl PyData} {x : Str} {as : List PyData} (h : ∃ F, LDx d x F as) : (tabGet k_FORMS x).isSome = true := by
  obtain ⟨F, h⟩ := h
  obtain ⟨fs, e, _⟩ := h.fm
  rw [e]
  rfl
theorem L_zip {d : Tpl PyData} {x : Str} {as : List PyData} (h : ∃ F, LDx d x F as) : as.length ≤ 5 := by
  obtain ⟨F, h⟩ := h
  rw [(w_ok h.ao).l1]
  exact h.five.1
theorem L_prew {d : Tpl PyData} {x : Str} {as : List PyData} {p : PyData × Str} (h : ∃ F, LDx d x F as) (hp : p ∈ List.zip as ((tabGet k_FORMS x).getD default).l) : PreW p.1 p.2 := by
  obtain ⟨F, h⟩ := h
  obtain ⟨fs, e, e2⟩ := h.fm
  rw [e] at hp
  have hp : p ∈ List.zip as fs.l := hp
  rw [e2] at hp
  exact (w_ok h.ao).zp p hp
theorem L_ws {d : Tpl PyData} {x : Str} {as : List PyData} (h : ∃ F, LDx d x F as) : ([x] ++ List.map (fun (p : PyData × Str) => m__written p.1 p.2) (List.zip as ((tabGet k_FORMS x).getD default).l)).length ≤ 6 ∧ ∀ y ∈ [x] ++ List.map (fun (p : PyData × Str) => m__written p.1 p.2) (List.zip as ((tabGet k_FORMS x).getD default).l), y.length ≤ 202 := by
  obtain ⟨F, h⟩ := h
  obtain ⟨fs, e, e2⟩ := h.fm
  rw [e]
  show ([x] ++ List.map (fun (p : PyData × Str) => m__written p.1 p.2) (List.zip as fs.l)).length ≤ 6 ∧ ∀ y ∈ [x] ++ List.map (fun (p : PyData × Str) => m__written p.1 p.2) (List.zip as fs.l), y.length ≤ 202
  rw [e2]
  exact ⟨pr_len h, fun y hy => (pr_ok h y hy).2.2⟩
theorem sum_side {l : List Str} {y : Str} {n m : Nat} (h1 : l.length ≤ m) (h2 : ∀ x ∈ l, x.length ≤ n) (hy : y.length ≤ 3) (h : m * n + m * 3 ≤ 16777216) : (List.map (fun x => x.length) l).sum + l.length * y.length ≤ 16777216 :=
  Nat.le_trans (Nat.add_le_add (Nat.le_trans (sum_le h2) (Nat.mul_le_mul_right _ h1)) (Nat.mul_le_mul h1 hy)) h

theorem ok__line_of (T : Tx w K mg base A) : FnOk P w K mg base CX0 3 A.f__line_of A.d__line_of ["deed"] (p__line_of K) := by
  refine T.F__line_of.ok sc__line_of (fun vs He Q E h => ?_) (fun cdv A0 outer s He vs Q E hr h => ⟨_, (pss_cons (ps_par (i := 1) (j := 2) rfl sc__line_of.nd rfl rfl (by decide) rfl rfl (pa_cons (pe_ix (ix_tupK (K := K)) (pv 0) pe_int fun _ _ => rfl) (pa_cons (pe_slice (sl_tupK (K := K)) (pv 0) (po_some pe_int) po_none) pa_nil)) (by rfl)) (pss_one (ps_ret (pe_joinK (K := K) pe_str (pe_op op_cat (pe_lst (pa_cons (pv 1) pa_nil)) (pe_lc (own := [("argument", 3), ("form", 4)]) (g := (gTup K 2 (gCons (gName 3) (gCons (gName 4) gNil)))) (tt := tYes) rfl sc__line_of.nd (pi_zipAK (K := K) rfl T.n_zip (pa_cons (pv 2) (pa_cons (pe_ix (ix_KD (K := K) (w := w)) (C8.pe_gc (v := .ref A.k_FORMS) rfl ⟨_, T.c_FORMS, rfl⟩) (pv 1) fun _ _ => rfl) pa_nil))) (blkOk_by (N := n__line_of) (sc := defScope s__line_of) (by decide +kernel)) (fun _ _ _ _ _ => pg_tup rfl (pgs_cons (pg_name (i := 3) sc__line_of.nd rfl (Or.inl rfl)) (pgs_cons (pg_name (i := 4) sc__line_of.nd rfl (Or.inl rfl)) pgs_nil))) (fun _ _ _ _ _ => pts_nil) (fun _ _ _ _ _ => (pe_call (ok__written T) (hr.mono (by decide)) rfl T.g__written T.F__written.kp T.b__written .nil pass0 (pa_cons (pv 3) (pa_cons (pv 4) pa_nil)))))))))), ?_⟩)
  · obtain ⟨d_deed, w_deed, G, rfl, eG, h_deed, hpre, hQ⟩ := h
    rfl
  · obtain ⟨d_deed, w_deed, G, rfl, eG, h_deed, hpre, hQ⟩ := h
    have gr : Grow G He G He := Grow.refl eG
    obtain ⟨Ge, eGe⟩ : ∃ z, z = G := ⟨G, rfl⟩
    have gr : Grow Ge He G He := by rw [eGe]; exact gr
    rw [← eGe] at hQ
    clear eGe
    have hM : m__line_of d_deed = (m__line_of_1 (strD (getI (d_deed).l (0 : Int))) (Tpl.mk (cutL (d_deed).l (some (1 : Int)) none))) := rfl
    refine q_par (K := K) gr.s (ev_asStr (ev_ixT (ev_var rfl h_deed) ev_int (atI_get (by first | (first | exact pl_at0 hpre | exact pl_s0 hpre | exact L_some fL | exact zip_lt (L_zip fL) | exact L_prew fL (by assumption) | exact Nat.le_trans (by have := (L_ws fL).1; rw [List.length_append] at this; exact this) (by decide) | exact sum_side (L_ws fL).1 (L_ws fL).2 (by decide) (by decide)) | (first | decide | (refine at_in ?_ ?_ <;> omega) | (refine at_neg ?_ ?_ <;> omega))))) (by first | (first | exact pl_at0 hpre | exact pl_s0 hpre | exact L_some fL | exact zip_lt (L_zip fL) | exact L_prew fL (by assumption) | exact Nat.le_trans (by have := (L_ws fL).1; rw [List.length_append] at this; exact this) (by decide) | exact sum_side (L_ws fL).1 (L_ws fL).2 (by decide) (by decide)) | (first | assumption | exact or_l (by assumption) | exact or_l (or_r (by assumption)) | exact num_of (by assumption) (by assumption) | exact not_fA (by assumption) | (first | omega | decide)))) (ev_slT (ev_var rfl h_deed) (eo_some ev_int) eo_none) fun w_5 w_8 G2 H3 g1 h_6 h_9 => ?_
    have h_deed := up g1.g h_deed
    have gr := gr.trans g1
    generalize ed_4 : (strD (getI (d_deed).l (0 : Int))) = d_4 at h_6 hM
    generalize ed_7 : (Tpl.mk (cutL (d_deed).l (some (1 : Int)) none)) = d_7 at h_9 hM
    unfold m__line_of_1 at hM
    have fL := pl_open hpre ed_4 ed_7
    refine s_ret (K := K) gr.s (ev_join ev_str (ev_cat (ev_lst (ea_cons (ev_var rfl h_6) ea_nil) (by first | (first | exact pl_at0 hpre | exact pl_s0 hpre | exact L_some fL | exact zip_lt (L_zip fL) | exact L_prew fL (by assumption) | exact Nat.le_trans (by have := (L_ws fL).1; rw [List.length_append] at this; exact this) (by decide) | exact sum_side (L_ws fL).1 (L_ws fL).2 (by decide) (by decide)) | (first | (show _ ≤ sizeLine; decide) | (simp only [List.length_cons, List.length_nil, List.length_append, sizeLine_eq]; omega) | (fail)))) (ev_lcZm (fun (d_10 : PyData × Str) => (m__written d_10.1 d_10.2)) (ev_var rfl h_9) (ev_ixKD (d := default) T.kd_FORMS (ev_var rfl h_6) (by first | (first | exact pl_at0 hpre | exact pl_s0 hpre | exact L_some fL | exact zip_lt (L_zip fL) | exact L_prew fL (by assumption) | exact Nat.le_trans (by have := (L_ws fL).1; rw [List.length_append] at this; exact this) (by decide) | exact sum_side (L_ws fL).1 (L_ws fL).2 (by decide) (by decide)) | (first | assumption | (first | omega | decide)))) (by first | (first | exact pl_at0 hpre | exact pl_s0 hpre | exact L_some fL | exact zip_lt (L_zip fL) | exact L_prew fL (by assumption) | exact Nat.le_trans (by have := (L_ws fL).1; rw [List.length_append] at this; exact this) (by decide) | exact sum_side (L_ws fL).1 (L_ws fL).2 (by decide) (by decide)) | (first | omega | decide | (show _ ≤ sizeLine; decide) | (show _ < sizeLine; decide))) (fun d_10 w_11 G_ H_ sg17 sh_ hm19 h_12 P k => by refine pair_apart h_12 sh_ fun w_13 w_15 h_14 h_16 => ?_; exact k _ rfl eb_yes (fun hc18 => (ev_call2 (ev_var rfl h_14) (ev_var rfl h_16) (by first | (first | exact pl_at0 hpre | exact pl_s0 hpre | exact L_some fL | exact zip_lt (L_zip fL) | exact L_prew fL (by assumption) | exact Nat.le_trans (by have := (L_ws fL).1; rw [List.length_append] at this; exact this) (by decide) | exact sum_side (L_ws fL).1 (L_ws fL).2 (by decide) (by decide)) | (first | omega | decide)))))) (by first | (first | exact pl_at0 hpre | exact pl_s0 hpre | exact L_some fL | exact zip_lt (L_zip fL) | exact L_prew fL (by assumption) | exact Nat.le_trans (by have := (L_ws fL).1; rw [List.length_append] at this; exact this) (by decide) | exact sum_side (L_ws fL).1 (L_ws fL).2 (by decide) (by decide)) | (first | omega | decide | (show _ ≤ sizeLine; decide) | (show _ < sizeLine; decide)))) (by first | (first | exact pl_at0 hpre | exact pl_s0 hpre | exact L_some fL | exact zip_lt (L_zip fL) | exact L_prew fL (by assumption) | exact Nat.le_trans (by have := (L_ws fL).1; rw [List.length_append] at this; exact this) (by decide) | exact sum_side (L_ws fL).1 (L_ws fL).2 (by decide) (by decide)) | (first | omega | decide | (show _ ≤ sizeLine; decide) | (show _ < sizeLine; decide)))) fun u Gr Hr gq hu => ?_
    exact hQ u Gr Hr (gr.trans gq) (by rw [hM]; exact hu)
/-! #### write_script -/
def m_write_script (d_deeds : (List (Tpl PyData))) : Str := (Txt.join ("\n" : Str) (List.map (fun d_1 => (m__line_of d_1)) d_deeds))
abbrev p_write_script (K : PySem.W.Frag) : Sp := sp1 K (fun l => l.length ≤ 50 ∧ ∀ d ∈ l, PreL d) m_write_script

theorem pl_len {d : Tpl PyData} (h : PreL d) : (m__line_of d).length ≤ 1230 := by
  obtain ⟨w, F, as, k⟩ := h
  exact k.len

theorem ok_write_script (T : Tx w K mg base A) : FnOk P w K mg base CX0 4 A.f_write_script A.d_write_script ["deeds"] (p_write_script K) := by
  refine T.F_write_script.ok sc_write_script (fun vs He Q E h => ?_) (fun cdv A0 outer s He vs Q E hr h => ⟨_, (pss_one (ps_ret (pe_joinK (K := K) pe_str (pe_lc (own := [("deed", 1)]) (g := gName 1) (tt := tYes) rfl sc_write_script.nd (pi_listK (K := K) (pv 0)) (blkOk_by (N := n_write_script) (sc := defScope s_write_script) (by decide +kernel)) (fun _ _ _ _ _ => pg_name (i := 1) sc_write_script.nd rfl (Or.inl rfl)) (fun _ _ _ _ _ => pts_nil) (fun _ _ _ _ _ => (pe_call (ok__line_of T) (hr.mono (by decide)) rfl T.g__line_of T.F__line_of.kp T.b__line_of .nil pass0 (pa_cons (pv 1) pa_nil))))))), ?_⟩)
  · obtain ⟨d_deeds, w_deeds, G, rfl, eG, h_deeds, hpre, hQ⟩ := h
    rfl
  · obtain ⟨d_deeds, w_deeds, G, rfl, eG, h_deeds, hpre, hQ⟩ := h
    have gr : Grow G He G He := Grow.refl eG
    obtain ⟨Ge, eGe⟩ : ∃ z, z = G := ⟨G, rfl⟩
    have gr : Grow Ge He G He := by rw [eGe]; exact gr
    rw [← eGe] at hQ
    clear eGe
    have hM : m_write_script d_deeds = (Txt.join ("\n" : Str) (List.map (fun d_1 => (m__line_of d_1)) d_deeds)) := rfl
    refine s_ret (K := K) gr.s (ev_join ev_str (ev_lcLm (fun d_1 => (m__line_of d_1)) (ev_var rfl h_deeds) (by first | (first | exact Nat.lt_of_le_of_lt hpre.1 (by decide) | exact hpre.2 _ (by assumption) | exact sum_side (m := 50) (n := 1230) (by rw [List.length_map]; exact hpre.1) (mem_map_all fun d hd => pl_len (hpre.2 d hd)) (by decide) (by decide)) | (first | omega | decide | (show _ ≤ sizeLine; decide) | (show _ < sizeLine; decide))) (fun d_1 w_2 G_ H_ sg4 sh_ hm6 h_3 P k => by exact k _ rfl eb_yes (fun hc5 => (ev_call1 (ev_var rfl h_3) (by first | (first | exact Nat.lt_of_le_of_lt hpre.1 (by decide) | exact hpre.2 _ (by assumption) | exact sum_side (m := 50) (n := 1230) (by rw [List.length_map]; exact hpre.1) (mem_map_all fun d hd => pl_len (hpre.2 d hd)) (by decide) (by decide)) | (first | omega | decide)))))) (by first | (first | exact Nat.lt_of_le_of_lt hpre.1 (by decide) | exact hpre.2 _ (by assumption) | exact sum_side (m := 50) (n := 1230) (by rw [List.length_map]; exact hpre.1) (mem_map_all fun d hd => pl_len (hpre.2 d hd)) (by decide) (by decide)) | (first | omega | decide | (show _ ≤ sizeLine; decide) | (show _ < sizeLine; decide)))) fun u Gr Hr gq hu => ?_
    exact hQ u Gr Hr (gr.trans gq) (by rw [hM]; exact hu)
/-! #### _law_cell -/
def m__law_cell (d_script : Scr) (d_k : Int) : Int := (cond (decide (d_k < ((d_script).l.length : Int))) (getI (d_script).l d_k) (0 : Int))
abbrev p__law_cell (K : PySem.W.Frag) : Sp := sp2 K (fun _ k => 0 ≤ k) m__law_cell
theorem ok__law_cell (T : Tx w K mg base A) : FnOk P w K mg base CX0 1 A.f__law_cell A.d__law_cell ["script", "k"] (p__law_cell K) := by
  refine T.F__law_cell.ok sc__law_cell (fun vs He Q E h => ?_) (fun cdv A0 outer s He vs Q E hr h => ⟨_, (pss_cons (ps_if (pt_cmpR op_lt (pv 1) (pe_callB (call_lenK (K := K)) rfl T.n_len boot_len (pa_cons (pv 0) pa_nil)) (nomark _)) (pss_one (ps_ret (pe_ix (ix_listK (K := K)) (pv 0) (pv 1) fun _ _ => rfl))) pss_nil) (pss_one (ps_ret pe_int))), ?_⟩)
  · obtain ⟨d_script, d_k, w_script, w_k, G, rfl, eG, h_script, h_k, hpre, hQ⟩ := h
    rfl
  · obtain ⟨d_script, d_k, w_script, w_k, G, rfl, eG, h_script, h_k, hpre, hQ⟩ := h
    have gr : Grow G He G He := Grow.refl eG
    obtain ⟨Ge, eGe⟩ : ∃ z, z = G := ⟨G, rfl⟩
    have gr : Grow Ge He G He := by rw [eGe]; exact gr
    rw [← eGe] at hQ
    clear eGe
    have hM : m__law_cell d_script d_k = (cond (decide (d_k < ((d_script).l.length : Int))) (getI (d_script).l d_k) (0 : Int)) := rfl
    refine q_if gr.s (et_test (ev_lt (ev_var rfl h_k) (ev_lenScr (ev_var rfl h_script)))) ?_ ?_
    · intro hb2 G3 H4 g1
      have h_script := up g1.g h_script
      have h_k := up g1.g h_k
      have gr := gr.trans g1
      replace hM := condT hM hb2
      refine s_ret (K := K) gr.s (ev_ixScr (ev_var rfl h_script) (ev_var rfl h_k) (atI_get (by first | (exact at_in hpre (by exact of_decide_eq_true (by assumption))) | (first | decide | (refine at_in ?_ ?_ <;> omega) | (refine at_neg ?_ ?_ <;> omega))))) fun u Gr Hr gq hu => ?_
      exact hQ u Gr Hr (gr.trans gq) (by rw [hM]; exact hu)
    · intro hb2 G5 H6 g1
      have h_script := up g1.g h_script
      have h_k := up g1.g h_k
      have gr := gr.trans g1
      replace hM := condF hM hb2
      refine s_next ?_
      refine nx_mk ?_
      refine s_ret (K := K) gr.s ev_int fun u Gr Hr gq hu => ?_
      exact hQ u Gr Hr (gr.trans gq) (by rw [hM]; exact hu)
/-! #### _law_draws -/
def m__law_draws_1 (d_37 : Int) (d_35 : (List Int)) : ((List Int) × Int) := (d_35, d_37)
def m__law_draws_2 (d_21 : Int) (d_35 : (List Int)) : ((List Int) × Int) := (m__law_draws_1 (d_21 / (1009 : Int)) d_35)
def m__law_draws_3 (d_21 : Int) (d_59 : (List Int)) : ((List Int) × Int) := (d_59, d_21)
def m__law_draws_4 (d_21 : Int) (d_18 : (List Int)) (d_10 : Int) (d_48 : Int) : ((List Int) × Int) := (m__law_draws_3 d_21 (d_18 ++ [((((d_48 * d_48) + (d_21 * (31 : Int))) + d_10) % (1000003 : Int))]))
def m__law_draws_5 (d_21 : Int) (d_18 : (List Int)) (d_10 : Int) : ((List Int) × Int) := (m__law_draws_4 d_21 d_18 d_10 (((d_21 * (48271 : Int)) + (d_10 * (69621 : Int))) % (2147483647 : Int)))
def m__law_draws_6 (d_4 : Bool) (d_21 : Int) (d_18 : (List Int)) (d_10 : Int) : ((List Int) × Int) := (cond d_4 (m__law_draws_2 d_21 (d_18 ++ [(d_21 % (1009 : Int))])) (m__law_draws_5 d_21 d_18 d_10))
def m__law_draws_7 (d_4 : Bool) (s : (List Int) × Int) (d_10 : Int) : ((List Int) × Int) := m__law_draws_6 d_4 (s).2 (s).1 (d_10)
def m__law_draws_8  (s : (List Int) × Int) : (List Int) := (s).1
def m__law_draws_9 (d_cell : Int) (d_count : Int) (d_1 : (List Int)) (d_4 : Bool) : (List Int) := (m__law_draws_8 (List.foldl (m__law_draws_7 d_4) (d_1, d_cell) (rgs 0 d_count)))
def m__law_draws_10 (d_cell : Int) (d_count : Int) (d_1 : (List Int)) : (List Int) := (m__law_draws_9 d_cell d_count d_1 (decide (((10 : Int) ^ ((18 : Int)).toNat) ≤ d_cell)))
def m__law_draws (d_cell : Int) (d_count : Int) : (List Int) := (m__law_draws_10 d_cell d_count ([] : List Int))
abbrev p__law_draws (K : PySem.W.Frag) : Sp := sp2 K (fun _ n => 0 ≤ n ∧ n ≤ 1000) m__law_draws
theorem draws_step (b : Bool) (s : List Int × Int) (k : Int) : ∃ x, 0 ≤ x ∧ (m__law_draws_7 b s k).1 = s.1 ++ [x] := by
  cases b with
  | true => exact ⟨s.2 % 1009, Int.emod_nonneg _ (by decide), rfl⟩
  | false => exact ⟨_, Int.emod_nonneg _ (by decide), rfl⟩
theorem draws_fold (b : Bool) : ∀ (l : List Int) (s : List Int × Int), (List.foldl (m__law_draws_7 b) s l).1.length = s.1.length + l.length
  | [], s => rfl
  | k :: l, s => by
    obtain ⟨x, _, e⟩ := draws_step b s k
    rw [List.foldl_cons, draws_fold b l, e, List.length_append, List.length_cons, List.length_cons, List.length_nil]
    omega
theorem draws_nn (b : Bool) : ∀ (l : List Int) (s : List Int × Int), NN s.1 → NN (List.foldl (m__law_draws_7 b) s l).1
  | [], s, h => h
  | k :: l, s, h => by
    obtain ⟨x, hx, e⟩ := draws_step b s k
    rw [List.foldl_cons]
    refine draws_nn b l _ ?_
    rw [e]
    intro y hy
    rcases List.mem_append.mp hy with q | q
    · exact h y q
    · rw [List.mem_singleton.mp q]; exact hx
theorem draws_len (cell : Int) {n : Int} (h : 0 ≤ n) : (m__law_draws cell n).length = n.toNat := by
  show (List.foldl (m__law_draws_7 _) (([] : List Int), cell) (rgs 0 n)).1.length = _
  rw [draws_fold, rgs_len, List.length_nil]
  omega
theorem draws_pos (cell n : Int) : NN (m__law_draws cell n) := draws_nn _ _ _ (fun _ h => by cases h)

theorem ok__law_draws (T : Tx w K mg base A) : FnOk P w K mg base CX0 1 A.f__law_draws A.d__law_draws ["cell", "count"] (p__law_draws K) := by
  refine T.F__law_draws.ok sc__law_draws (fun vs He Q E h => ?_) (fun cdv A0 outer s He vs Q E hr h => ⟨_, (pss_cons (ps_set (i := 2) sc__law_draws.nd rfl (Or.inl rfl) (pe_lst pa_nil)) (pss_cons (ps_set (i := 3) sc__law_draws.nd rfl (Or.inl rfl) (pe_cmpR op_ge (pv 0) (pe_op op_pow pe_int pe_int) (nomark _))) (pss_cons (ps_for PassesOwn.never rfl (pi_range1 rfl T.n_range (pa_cons (pv 1) pa_nil)) (pg_name (i := 4) sc__law_draws.nd rfl (Or.inl rfl)) (pss_one (ps_if (pt_val (pv 3)) (pss_cons (ps_expr (pe_bmK (K := K) PySem.F.plainAttrs_list PySem.F.slot_list_append PySem.F.type_list_append mt_append (pv 2) (pa_cons (pe_op op_mod (pe_callTy call_int1 rfl T.n_int boot_int (pa_cons (pv 0) pa_nil)) pe_int) pa_nil))) (pss_one (ps_set (i := 0) sc__law_draws.nd rfl (Or.inl rfl) (pe_op op_fdiv (pv 0) pe_int)))) (pss_cons (ps_set (i := 5) sc__law_draws.nd rfl (Or.inl rfl) (pe_op op_mod (pe_callTy call_int1 rfl T.n_int boot_int (pa_cons (pe_op op_add (pe_op op_mul (pv 0) pe_int) (pe_op op_mul (pv 4) pe_int)) pa_nil)) pe_int)) (pss_one (ps_expr (pe_bmK (K := K) PySem.F.plainAttrs_list PySem.F.slot_list_append PySem.F.type_list_append mt_append (pv 2) (pa_cons (pe_op op_mod (pe_callTy call_int1 rfl T.n_int boot_int (pa_cons (pe_op op_add (pe_op op_add (pe_op op_mul (pv 5) (pv 5)) (pe_op op_mul (pv 0) pe_int)) (pv 4)) pa_nil)) pe_int) pa_nil)))))))) (pss_one (ps_ret (pv 2)))))), ?_⟩)
  · obtain ⟨d_cell, d_count, w_cell, w_count, G, rfl, eG, h_cell, h_count, hpre, hQ⟩ := h
    rfl
  · obtain ⟨d_cell, d_count, w_cell, w_count, G, rfl, eG, h_cell, h_count, hpre, hQ⟩ := h
    have gr : Grow G He G He := Grow.refl eG
    obtain ⟨Ge, eGe⟩ : ∃ z, z = G := ⟨G, rfl⟩
    have gr : Grow Ge He G He := by rw [eGe]; exact gr
    rw [← eGe] at hQ
    clear eGe
    have hM : m__law_draws d_cell d_count = (m__law_draws_10 d_cell d_count ([] : List Int)) := rfl
    refine q_newF gr fun a3 H65 hF_3 hN_3 np3 hH_3 gr sm3 => ?_
    have h_2 := reps_nil (K := K) (α := Int) gr
    generalize ed_1 : ([] : List Int) = d_1 at h_2 hM
    unfold m__law_draws_10 at hM
    refine q_asg (K := K) gr.s (ev_ge (ev_var rfl h_cell) (ev_pow ev_int ev_int ⟨by decide, by decide, by decide⟩)) fun w_5 G8 H9 g7 (h_6 : rep K (decide (((10 : Int) ^ ((18 : Int)).toNat) ≤ d_cell)) w_5 G8) => ?_
    have h_cell := up g7.g h_cell
    have h_count := up g7.g h_count
    have hN_3 := g7.f _ _ hH_3 hN_3
    have hH_3 := g7.h.l hH_3
    have h_2 := Reps.up g7.g h_2
    have gr := gr.trans g7
    generalize ed_4 : (decide (((10 : Int) ^ ((18 : Int)).toNat) ≤ d_cell)) = d_4 at h_6 hM
    unfold m__law_draws_9 at hM
    refine q_forR1 (K := K) gr.s (ev_var rfl h_count) (by first | (first | exact lt_line (by omega) | exact ⟨by omega, by omega⟩) | (first | (constructor <;> omega) | (decide))) fun G13 H14 g16 => ?_
    have h_cell := up g16.g h_cell
    have h_count := up g16.g h_count
    have hN_3 := g16.f _ _ hH_3 hN_3
    have hH_3 := g16.h.l hH_3
    have h_2 := Reps.up g16.g h_2
    have h_6 := up g16.g h_6
    have gr := gr.trans g16
    refine ⟨fun i_ σ_ H_ => ∃ (G64 : Hp) (w_22 : V) (o_24 : Option V) (o_25 : Option V), Grow Ge He G64 H_ ∧ Same G13 G64 ∧ σ_ = [some w_22, some w_count, some (V.ref a3), some w_5, o_25, o_24] ∧ (∃ zs, Reps K (((List.foldl (m__law_draws_7 d_4) (d_1, d_cell) (List.take i_ (rgs 0 d_count)))).1 : (List Int)) zs G64 ∧ H_ a3 = some (.lst zs) ∧ G64 a3 = none) ∧ rep K (((List.foldl (m__law_draws_7 d_4) (d_1, d_cell) (List.take i_ (rgs 0 d_count)))).2 : Int) w_22 G64, ⟨_, w_cell, _, _, gr, Same.refl _, rfl, ⟨_, h_2, hH_3, hN_3⟩, h_cell⟩, ?_, ?_⟩
    · rintro i_0 σ_0 H_0 hlt_0 ⟨G64, w_22, o_24, o_25, gr, sg0, rfl, ⟨zs_3, h_20, hH_3, hN_3⟩, h_23⟩
      obtain ⟨d_10, hx0_0, hx0, lo_0, hi_0⟩ := rgs_at0 hlt_0
      rw [hx0_0]
      have h_12 : rep K d_10 (V.int d_10) G64 := rfl
      generalize ew_11 : V.int d_10 = w_11 at h_12
      have h_count := up sg0 h_count
      have h_6 := up sg0 h_6
      have hMo0 := hM
      clear hM
      have hM : (List.foldl (m__law_draws_7 d_4) (d_1, d_cell) (List.take (i_0 + 1) (rgs 0 d_count))) = (m__law_draws_7 d_4) (List.foldl (m__law_draws_7 d_4) (d_1, d_cell) (List.take i_0 (rgs 0 d_count))) d_10 := by rw [take_snoc hx0, List.foldl_append]; rfl
      have fl_0 := draws_fold d_4 (List.take i_0 (rgs 0 d_count)) (d_1, d_cell)
      rw [List.length_take, rgs_len] at fl_0
      have fz : d_1.length = 0 := by rw [← ed_1]; rfl
      generalize (List.foldl (m__law_draws_7 d_4) (d_1, d_cell) (List.take i_0 (rgs 0 d_count))) = st_0 at h_20 h_23 fl_0 hM
      obtain ⟨d_18, d_21⟩ := st_0
      dsimp only at h_20 h_23 fl_0
      conv at hM => rhs; unfold m__law_draws_7; unfold m__law_draws_6
      dsimp only at hM
      refine s_if gr.s (et_B (ev_var rfl h_6)) ?_ ?_
      · intro hb27 G28 H29 g26
        have h_23 := up g26.g h_23
        have h_count := up g26.g h_count
        have hN_3 := g26.f _ _ hH_3 hN_3
        have hH_3 := g26.h.l hH_3
        have h_20 := Reps.up g26.g h_20
        have h_6 := up g26.g h_6
        have h_12 := up g26.g h_12
        have sg0 := sg0.trans g26.g
        have gr := gr.trans g26
        replace hM := condT hM hb27
        refine q_appF (K := K) gr hF_3 hN_3 rfl hH_3 h_20 (by first | (first | exact lt_line (by omega) | exact ⟨by omega, by omega⟩) | (fail)) (ev_mod (ev_int1 (ev_var rfl h_23)) ev_int (by first | (first | exact lt_line (by omega) | exact ⟨by omega, by omega⟩) | (first | omega | decide | (show _ ≤ sizeLine; decide) | (show _ < sizeLine; decide)))) fun G31 H32 H45 zs43 g30 gr2 hN2 hH2 (h_36 : Reps K (d_18 ++ [(d_21 % (1009 : Int))]) zs43 G31) bt44 => ?_
        have h_23 := up g30.g h_23
        have h_count := up g30.g h_count
        have hN_3 := g30.f _ _ hH_3 hN_3
        have hH_3 := g30.h.l hH_3
        have h_20 := Reps.up g30.g h_20
        have h_6 := up g30.g h_6
        have h_12 := up g30.g h_12
        have sg0 := sg0.trans g30.g
        have gr := gr2
        have hN_3 := hN2
        have hH_3 := hH2
        generalize ed_35 : (d_18 ++ [(d_21 % (1009 : Int))]) = d_35 at h_36 hM
        unfold m__law_draws_2 at hM
        refine s_asg (K := K) gr.s (ev_fdiv (ev_var rfl h_23) ev_int ⟨(by first | (first | exact lt_line (by omega) | exact ⟨by omega, by omega⟩) | (first | omega | decide | (show _ ≤ sizeLine; decide) | (show _ < sizeLine; decide))), (by first | (first | exact lt_line (by omega) | exact ⟨by omega, by omega⟩) | (first | omega | decide | (show _ ≤ sizeLine; decide) | (show _ < sizeLine; decide)))⟩) fun w_38 G41 H42 g40 (h_39 : rep K (d_21 / (1009 : Int)) w_38 G41) => ?_
        have h_count := up g40.g h_count
        have hN_3 := g40.f _ _ hH_3 hN_3
        have hH_3 := g40.h.l hH_3
        have h_36 := Reps.up g40.g h_36
        have h_6 := up g40.g h_6
        have h_12 := up g40.g h_12
        have sg0 := sg0.trans g40.g
        have gr := gr.trans g40
        generalize ed_37 : (d_21 / (1009 : Int)) = d_37 at h_39 hM
        unfold m__law_draws_1 at hM
        exact ⟨_, w_38, _, _, gr, sg0, rfl, ⟨_, (by rw [hM]; exact h_36), hH_3, hN_3⟩, (by rw [hM]; exact h_39)⟩
      · intro hb27 G46 H47 g26
        have h_23 := up g26.g h_23
        have h_count := up g26.g h_count
        have hN_3 := g26.f _ _ hH_3 hN_3
        have hH_3 := g26.h.l hH_3
        have h_20 := Reps.up g26.g h_20
        have h_6 := up g26.g h_6
        have h_12 := up g26.g h_12
        have sg0 := sg0.trans g26.g
        have gr := gr.trans g26
        replace hM := condF hM hb27
        unfold m__law_draws_5 at hM
        refine q_asg (K := K) gr.s (ev_mod (ev_int1 (ev_add (ev_mul (ev_var rfl h_23) ev_int (by first | (first | exact lt_line (by omega) | exact ⟨by omega, by omega⟩) | (first | exact Or.inl ⟨by omega, by omega⟩ | exact Or.inr ⟨by omega, by omega⟩ | (exact Or.inr (by constructor <;> decide))))) (ev_mul (ev_var rfl h_12) ev_int (by first | (first | exact lt_line (by omega) | exact ⟨by omega, by omega⟩) | (first | exact Or.inl ⟨by omega, by omega⟩ | exact Or.inr ⟨by omega, by omega⟩ | (exact Or.inr (by constructor <;> decide))))))) ev_int (by first | (first | exact lt_line (by omega) | exact ⟨by omega, by omega⟩) | (first | omega | decide | (show _ ≤ sizeLine; decide) | (show _ < sizeLine; decide)))) fun w_49 G52 H53 g51 (h_50 : rep K (((d_21 * (48271 : Int)) + (d_10 * (69621 : Int))) % (2147483647 : Int)) w_49 G52) => ?_
        have h_23 := up g51.g h_23
        have h_count := up g51.g h_count
        have hN_3 := g51.f _ _ hH_3 hN_3
        have hH_3 := g51.h.l hH_3
        have h_20 := Reps.up g51.g h_20
        have h_6 := up g51.g h_6
        have h_12 := up g51.g h_12
        have sg0 := sg0.trans g51.g
        have gr := gr.trans g51
        generalize ed_48 : (((d_21 * (48271 : Int)) + (d_10 * (69621 : Int))) % (2147483647 : Int)) = d_48 at h_50 hM
        unfold m__law_draws_4 at hM
        refine s_appF (K := K) gr hF_3 hN_3 rfl hH_3 h_20 (by first | (first | exact lt_line (by omega) | exact ⟨by omega, by omega⟩) | (fail)) (ev_mod (ev_int1 (ev_add (ev_add (ev_mul (ev_var rfl h_50) (ev_var rfl h_50) (by first | (first | exact lt_line (by omega) | exact ⟨by omega, by omega⟩) | (first | exact Or.inl ⟨by omega, by omega⟩ | exact Or.inr ⟨by omega, by omega⟩ | (exact Or.inr (by constructor <;> decide))))) (ev_mul (ev_var rfl h_23) ev_int (by first | (first | exact lt_line (by omega) | exact ⟨by omega, by omega⟩) | (first | exact Or.inl ⟨by omega, by omega⟩ | exact Or.inr ⟨by omega, by omega⟩ | (exact Or.inr (by constructor <;> decide)))))) (ev_var rfl h_12))) ev_int (by first | (first | exact lt_line (by omega) | exact ⟨by omega, by omega⟩) | (first | omega | decide | (show _ ≤ sizeLine; decide) | (show _ < sizeLine; decide)))) fun G55 H56 H63 zs61 g54 gr2 hN2 hH2 (h_60 : Reps K (d_18 ++ [((((d_48 * d_48) + (d_21 * (31 : Int))) + d_10) % (1000003 : Int))]) zs61 G55) bt62 => ?_
        have h_23 := up g54.g h_23
        have h_count := up g54.g h_count
        have hN_3 := g54.f _ _ hH_3 hN_3
        have hH_3 := g54.h.l hH_3
        have h_20 := Reps.up g54.g h_20
        have h_6 := up g54.g h_6
        have h_12 := up g54.g h_12
        have h_50 := up g54.g h_50
        have sg0 := sg0.trans g54.g
        have gr := gr2
        have hN_3 := hN2
        have hH_3 := hH2
        generalize ed_59 : (d_18 ++ [((((d_48 * d_48) + (d_21 * (31 : Int))) + d_10) % (1000003 : Int))]) = d_59 at h_60 hM
        unfold m__law_draws_3 at hM
        exact ⟨_, w_22, _, _, gr, sg0, rfl, ⟨_, (by rw [hM]; exact h_60), hH_3, hN_3⟩, (by rw [hM]; exact h_23)⟩
    · rintro σ_0 H_0 ⟨G64, w_22, o_24, o_25, gr, sg0, rfl, ⟨zs_3, h_20, hH_3, hN_3⟩, h_23⟩
      have h_count := up sg0 h_count
      have h_6 := up sg0 h_6
      rw [rgs_take0] at h_20
      rw [rgs_take0] at h_23
      generalize est_0 : (List.foldl (m__law_draws_7 d_4) (d_1, d_cell) (rgs 0 d_count)) = st_0 at h_20 h_23 hM
      obtain ⟨d_18, d_21⟩ := st_0
      dsimp only at h_20 h_23
      unfold m__law_draws_8 at hM
      try dsimp only at hM
      refine s_ret (K := K) (gr.fix hF_3 hN_3 hH_3).s (ev_var rfl (fix_rep h_20 hN_3)) fun u Gr Hr gq hu => ?_
      exact hQ u Gr Hr ((gr.fix hF_3 hN_3 hH_3).trans gq) (by rw [hM]; exact hu)
/-! #### _law_same -/
theorem pl_shaped {n : Nat} {d : PyData} (h : Pl (n + 1) d) (k : isTupD d = false) : SeqAt.shaped d = true := by
  rcases h with h | ⟨ds, e, _⟩
  · exact h.2
  · rw [e] at k; cases k
theorem pl_tup {n : Nat} {d : PyData} (h : Pl (n + 1) d) (k : isTupD d = true) : ∃ ds, d = .tuple ds ∧ ds.length ≤ 1000 ∧ ∀ x ∈ ds, Pl n x := by
  rcases h with h | h
  · cases d <;> first | exact Bool.noConfusion k | exact Bool.noConfusion h.1
  · exact h
theorem pl_item {n : Nat} {d : PyData} {i : Int} (h : Pl (n + 1) d) (k : isTupD d = true) (h0 : 0 ≤ i) (h1 : i < ((Tpl.mk (tupD d)).l.length : Int)) : Pl n (getI (Tpl.mk (tupD d)).l i) := by
  obtain ⟨ds, e, _, a⟩ := pl_tup h k
  subst e
  exact a _ (getI_mem (at_in h0 h1))
theorem pl_rng {n : Nat} {d : PyData} (h : Pl (n + 1) d) (k : isTupD d = true) : -(2 ^ 62) ≤ ((Tpl.mk (tupD d)).l.length : Int) ∧ ((Tpl.mk (tupD d)).l.length : Int) < 2 ^ 62 := by
  obtain ⟨ds, e, l, _⟩ := pl_tup h k
  subst e
  show -(2 ^ 62) ≤ (ds.length : Int) ∧ (ds.length : Int) < 2 ^ 62
  omega
def mm_same_1 (d_actual : PyData) (d_expected : PyData) (d_13 : Int) : (Step (Unit) Bool) := (cond (!((fun (_ _ : PyData) => true) (getI ((Tpl.mk (tupD d_actual))).l d_13) (getI ((Tpl.mk (tupD d_expected))).l d_13))) (Step.ret false) (Step.go ()))
def mm_same_2 (d_actual : PyData) (d_expected : PyData) (s : Unit) (d_13 : Int) : (Step (Unit) Bool) := mm_same_1 d_actual d_expected (d_13)
def mm_same_3  (s : Unit) : Bool := true
def mm_same_4 (d_actual : PyData) (d_expected : PyData) : Bool := (exitF (runL (mm_same_2 d_actual d_expected) () (rgs 0 (((Tpl.mk (tupD d_expected))).l.length : Int))) mm_same_3)
def mm_same_5 (d_actual : PyData) (d_expected : PyData) : Bool := (cond ((!(isTupD d_actual)) || (!eqB (((Tpl.mk (tupD d_actual))).l.length : Int) (((Tpl.mk (tupD d_expected))).l.length : Int))) false (mm_same_4 d_actual d_expected))
def mm_same_6 (d_actual : PyData) (d_expected : PyData) : Bool := ((isIntD d_actual) && ((!(isBoolD d_actual)) && (PyData.eqv (Dat.d d_actual) (Dat.d d_expected))))
def mm_same_7 (d_actual : PyData) (d_expected : PyData) : Bool := (cond (isStrD d_expected) ((isStrD d_actual) && (PyData.eqv (Dat.d d_actual) (Dat.d d_expected))) (mm_same_6 d_actual d_expected))
def mm_same_8 (d_actual : PyData) (d_expected : PyData) : Bool := (cond (isBoolD d_expected) ((isBoolD d_actual) && (PyData.eqv (Dat.d d_actual) (Dat.d d_expected))) (mm_same_7 d_actual d_expected))
def mm_same (d_actual : PyData) (d_expected : PyData) : Bool := (cond (isTupD d_expected) (mm_same_5 d_actual d_expected) (cond (isNonD d_expected) (isNonD d_actual) (mm_same_8 d_actual d_expected)))
theorem same_true {n : Nat} {a e : PyData} (h : a = e ∧ Pl (n + 1) e) : mm_same a e = true := by
  obtain ⟨e1, h⟩ := h
  subst e1
  rcases h with ⟨h1, h2⟩ | ⟨ds, e, l, p⟩
  · have hd : PyData.eqv a a = true := SeqAt.eqv_refl _ (Bool.and_eq_true_iff.mp h2).1
    cases a with
    | none => rfl
    | bool b => exact hd
    | int i => exact hd
    | str s => exact hd
    | list _ => cases h1
    | tuple _ => cases h1
    | dict _ => cases h1
  · subst e
    show cond ((!true) || (!eqB (ds.length : Int) (ds.length : Int))) false (mm_same_4 (.tuple ds) (.tuple ds)) = true
    rw [eqB_self]
    show exitF (runL (mm_same_2 (.tuple ds) (.tuple ds)) () (rgs 0 (ds.length : Int))) mm_same_3 = true
    rw [runL_all (fun k _ => ?_)]
    · rfl
    · rfl
theorem step_same (T : Tx w K mg base A) {n k : Nat} (ih : FnOk P w K mg base CX0 k A.f__law_same A.d__law_same ["actual", "expected"] (sp2 K (fun a e => a = e ∧ Pl n e) (fun (_ _ : PyData) => true))) : FnOk P w K mg base CX0 (k + 1) A.f__law_same A.d__law_same ["actual", "expected"] (sp2 K (fun a e => a = e ∧ Pl (n + 1) e) (fun (_ _ : PyData) => true)) := by
  refine T.F__law_same.ok sc__law_same (fun vs He Q E h => ?_) (fun cdv A0 outer s He vs Q E hr h => ⟨_, (pss_cons (ps_if (pt_val (pe_callB (call_isiK (K := K)) rfl T.n_isinstance boot_isinstance (pa_cons (pv 1) (pa_cons (pe_bltn (v := .ty "tuple") rfl T.n_tuple (by decide +kernel) rfl) pa_nil)))) (pss_cons (ps_if (PW.pt (pw_or (pt_not (pt_val (pe_callB (call_isiK (K := K)) rfl T.n_isinstance boot_isinstance (pa_cons (pv 0) (pa_cons (pe_bltn (v := .ty "tuple") rfl T.n_tuple (by decide +kernel) rfl) pa_nil))))) (pw_or1 (pt_cmpR op_ne (pe_callB (call_lenK (K := K)) rfl T.n_len boot_len (pa_cons (pv 0) pa_nil)) (pe_callB (call_lenK (K := K)) rfl T.n_len boot_len (pa_cons (pv 1) pa_nil)) (nomark _))))) (pss_one (ps_ret pe_bl)) pss_nil) (pss_cons (ps_for PassesOwn.never rfl (pi_range1 rfl T.n_range (pa_cons (pe_callB (call_lenK (K := K)) rfl T.n_len boot_len (pa_cons (pv 1) pa_nil)) pa_nil)) (pg_name (i := 2) sc__law_same.nd rfl (Or.inl rfl)) (pss_one (ps_if (pt_not (pt_val (pe_call (ih) hr rfl T.g__law_same T.F__law_same.kp T.b__law_same .nil pass0 (pa_cons (pe_ix (ix_tupK (K := K)) (pv 0) (pv 2) fun _ _ => rfl) (pa_cons (pe_ix (ix_tupK (K := K)) (pv 1) (pv 2) fun _ _ => rfl) pa_nil))))) (pss_one (ps_ret pe_bl)) pss_nil))) (pss_one (ps_ret pe_bl)))) pss_nil) (pss_cons (ps_if (pt_cmpR op_isN (pv 1) pe_non (nomark _)) (pss_one (ps_ret (pe_cmpR op_isN (pv 0) pe_non (nomark _)))) pss_nil) (pss_cons (ps_if (pt_val (pe_callB (call_isiK (K := K)) rfl T.n_isinstance boot_isinstance (pa_cons (pv 1) (pa_cons (pe_bltn (v := .ty "bool") rfl T.n_bool (by decide +kernel) rfl) pa_nil)))) (pss_one (ps_ret (pe_and (pe_callB (call_isiK (K := K)) rfl T.n_isinstance boot_isinstance (pa_cons (pv 0) (pa_cons (pe_bltn (v := .ty "bool") rfl T.n_bool (by decide +kernel) rfl) pa_nil))) (pe_one (pe_cmpR (op_eqK (K := K) hr.units) (pv 0) (pv 1) (nomark _)))))) pss_nil) (pss_cons (ps_if (pt_val (pe_callB (call_isiK (K := K)) rfl T.n_isinstance boot_isinstance (pa_cons (pv 1) (pa_cons (pe_bltn (v := .ty "str") rfl T.n_str (by decide +kernel) rfl) pa_nil)))) (pss_one (ps_ret (pe_and (pe_callB (call_isiK (K := K)) rfl T.n_isinstance boot_isinstance (pa_cons (pv 0) (pa_cons (pe_bltn (v := .ty "str") rfl T.n_str (by decide +kernel) rfl) pa_nil))) (pe_one (pe_cmpR (op_eqK (K := K) hr.units) (pv 0) (pv 1) (nomark _)))))) pss_nil) (pss_one (ps_ret (pe_and (pe_callB (call_isiK (K := K)) rfl T.n_isinstance boot_isinstance (pa_cons (pv 0) (pa_cons (pe_bltn (v := .ty "int") rfl T.n_int (by decide +kernel) rfl) pa_nil))) (pe_and (pe_not (pe_callB (call_isiK (K := K)) rfl T.n_isinstance boot_isinstance (pa_cons (pv 0) (pa_cons (pe_bltn (v := .ty "bool") rfl T.n_bool (by decide +kernel) rfl) pa_nil)))) (pe_one (pe_cmpR (op_eqK (K := K) hr.units) (pv 0) (pv 1) (nomark _))))))))))), ?_⟩)
  · obtain ⟨d_actual, d_expected, w_actual, w_expected, G, rfl, eG, h_actual, h_expected, hpre, hQ⟩ := h
    rfl
  · obtain ⟨d_actual, d_expected, w_actual, w_expected, G, rfl, eG, h_actual, h_expected, hpre, hQ⟩ := h
    have hQ : ∀ u G' H', Grow G He G' H' → rep K (mm_same d_actual d_expected) u G' → Q u H' := fun u G' H' g r => hQ u G' H' g (by rw [same_true hpre] at r; exact r)
    have gr : Grow G He G He := Grow.refl eG
    obtain ⟨Ge, eGe⟩ : ∃ z, z = G := ⟨G, rfl⟩
    have gr : Grow Ge He G He := by rw [eGe]; exact gr
    rw [← eGe] at hQ
    clear eGe
    have hM : mm_same d_actual d_expected = (cond (isTupD d_expected) (mm_same_5 d_actual d_expected) (cond (isNonD d_expected) (isNonD d_actual) (mm_same_8 d_actual d_expected))) := rfl
    refine q_if gr.s (et_B (ev_isTupD (ev_var rfl h_expected))) ?_ ?_
    · intro hb2 G3 H4 g1
      have h_actual := up g1.g h_actual
      have h_expected := up g1.g h_expected
      have gr := gr.trans g1
      replace hM := condT hM hb2
      unfold mm_same_5 at hM
      refine q_if gr.s (et_or (et_not (et_B (ev_isTupD (ev_var rfl h_actual)))) (fun hb5 => (et_test (ev_ne (ev_lenT (ev_asTup (ev_var rfl h_actual) (by first | assumption | exact or_l (by assumption) | exact or_l (or_r (by assumption)) | exact num_of (by assumption) (by assumption) | exact not_fA (by assumption) | (first | omega | decide)))) (ev_lenT (ev_asTup (ev_var rfl h_expected) (by first | assumption | exact or_l (by assumption) | exact or_l (or_r (by assumption)) | exact num_of (by assumption) (by assumption) | exact not_fA (by assumption) | (first | omega | decide)))))))) ?_ ?_
      · intro hb8 G9 H10 g7
        have h_actual := up g7.g h_actual
        have h_expected := up g7.g h_expected
        have gr := gr.trans g7
        replace hM := condT hM hb8
        refine s_ret (K := K) gr.s ev_bl fun u Gr Hr gq hu => ?_
        exact hQ u Gr Hr (gr.trans gq) (by rw [hM]; exact hu)
      · intro hb8 G11 H12 g7
        have h_actual := up g7.g h_actual
        have h_expected := up g7.g h_expected
        have gr := gr.trans g7
        replace hM := condF hM hb8
        unfold mm_same_4 at hM
        refine s_next ?_
        refine nx_mk ?_
        refine q_forR1 (K := K) gr.s (ev_lenT (ev_asTup (ev_var rfl h_expected) (by first | assumption | exact or_l (by assumption) | exact or_l (or_r (by assumption)) | exact num_of (by assumption) (by assumption) | exact not_fA (by assumption) | (first | omega | decide)))) (pl_rng hpre.2 (by assumption)) fun G16 H17 g19 => ?_
        have h_actual := up g19.g h_actual
        have h_expected := up g19.g h_expected
        have gr := gr.trans g19
        refine ⟨fun i_ σ_ H_ => ∃ st_ : Unit, (runL (mm_same_2 d_actual d_expected) () (List.take i_ (rgs 0 (((Tpl.mk (tupD d_expected))).l.length : Int)))) = Step.go st_ ∧ ∃ (G28 : Hp) (o_21 : Option V), Grow Ge He G28 H_ ∧ Same G16 G28 ∧ σ_ = [some w_actual, some w_expected, o_21], ⟨(), rfl, _, _, gr, Same.refl _, rfl⟩, ?_, ?_⟩
        · rintro i_0 σ_0 H_0 hlt_0 ⟨st_0, hgo0, G28, o_21, gr, sg0, rfl⟩
          obtain ⟨d_13, hx0_0, hx0, lo_0, hi_0⟩ := rgs_at0 hlt_0
          rw [hx0_0]
          have h_15 : rep K d_13 (V.int d_13) G28 := rfl
          generalize ew_14 : V.int d_13 = w_14 at h_15
          have h_actual := up sg0 h_actual
          have h_expected := up sg0 h_expected
          have hMo0 := hM
          clear hM
          obtain ⟨⟩ := st_0
          have hM : (mm_same_2 d_actual d_expected) () d_13 = (mm_same_2 d_actual d_expected) () d_13 := rfl
          conv at hM => rhs; unfold mm_same_2; unfold mm_same_1
          refine s_if gr.s (et_not (et_B (ev_call2 (ev_ixT (ev_asTup (ev_var rfl h_actual) (by first | assumption | exact or_l (by assumption) | exact or_l (or_r (by assumption)) | exact num_of (by assumption) (by assumption) | exact not_fA (by assumption) | (first | omega | decide))) (ev_var rfl h_15) (atI_get (by first | exact at_in lo_0 (by rw [hpre.1]; exact hi_0) | exact at_in lo_0 hi_0 | decide | (refine at_in ?_ ?_ <;> omega) | (refine at_neg ?_ ?_ <;> omega)))) (ev_ixT (ev_asTup (ev_var rfl h_expected) (by first | assumption | exact or_l (by assumption) | exact or_l (or_r (by assumption)) | exact num_of (by assumption) (by assumption) | exact not_fA (by assumption) | (first | omega | decide))) (ev_var rfl h_15) (atI_get (by first | exact at_in lo_0 (by rw [hpre.1]; exact hi_0) | exact at_in lo_0 hi_0 | decide | (refine at_in ?_ ?_ <;> omega) | (refine at_neg ?_ ?_ <;> omega)))) ⟨by rw [hpre.1], pl_item hpre.2 (by assumption) lo_0 hi_0⟩))) ?_ ?_
          · intro hb23 G24 H25 g22
            have h_actual := up g22.g h_actual
            have h_expected := up g22.g h_expected
            have h_15 := up g22.g h_15
            have sg0 := sg0.trans g22.g
            have gr := gr.trans g22
            replace hM := condT hM hb23
            refine s_ret (K := K) gr.s ev_bl fun u Gr Hr gq hu => ?_
            exact hQ u Gr Hr (gr.trans gq) (by rw [(exitF_ret hMo0 (runL_ret hgo0 hx0 hM))]; exact hu)
          · intro hb23 G26 H27 g22
            have h_actual := up g22.g h_actual
            have h_expected := up g22.g h_expected
            have h_15 := up g22.g h_15
            have sg0 := sg0.trans g22.g
            have gr := gr.trans g22
            replace hM := condF hM hb23
            refine s_next ?_
            exact ⟨_, (runL_go hgo0 hx0 hM), _, _, gr, sg0, rfl⟩
        · rintro σ_0 H_0 ⟨st_0, hgo0, G28, o_21, gr, sg0, rfl⟩
          have h_actual := up sg0 h_actual
          have h_expected := up sg0 h_expected
          rw [rgs_take0] at hgo0
          rw [hgo0, exitF_go] at hM
          unfold mm_same_3 at hM
          refine s_ret (K := K) gr.s ev_bl fun u Gr Hr gq hu => ?_
          exact hQ u Gr Hr (gr.trans gq) (by rw [hM]; exact hu)
    · intro hb2 G29 H30 g1
      have h_actual := up g1.g h_actual
      have h_expected := up g1.g h_expected
      have gr := gr.trans g1
      replace hM := condF hM hb2
      refine s_next ?_
      refine nx_mk ?_
      refine q_if gr.s (et_test (ev_isND (ev_var rfl h_expected))) ?_ ?_
      · intro hb32 G33 H34 g31
        have h_actual := up g31.g h_actual
        have h_expected := up g31.g h_expected
        have gr := gr.trans g31
        replace hM := condT hM hb32
        refine s_ret (K := K) gr.s (ev_isND (ev_var rfl h_actual)) fun u Gr Hr gq hu => ?_
        exact hQ u Gr Hr (gr.trans gq) (by rw [hM]; exact hu)
      · intro hb32 G35 H36 g31
        have h_actual := up g31.g h_actual
        have h_expected := up g31.g h_expected
        have gr := gr.trans g31
        replace hM := condF hM hb32
        unfold mm_same_8 at hM
        refine s_next ?_
        refine nx_mk ?_
        refine q_if gr.s (et_B (ev_isBoolD (ev_var rfl h_expected))) ?_ ?_
        · intro hb38 G39 H40 g37
          have h_actual := up g37.g h_actual
          have h_expected := up g37.g h_expected
          have gr := gr.trans g37
          replace hM := condT hM hb38
          refine s_ret (K := K) gr.s (ev_andV (ev_isBoolD (ev_var rfl h_actual)) (fun hb41 => (ev_eqD (ev_var rfl h_actual) (ev_var rfl h_expected) ⟨by rw [hpre.1]; exact pl_shaped hpre.2 (by assumption), pl_shaped hpre.2 (by assumption)⟩))) fun u Gr Hr gq hu => ?_
          exact hQ u Gr Hr (gr.trans gq) (by rw [hM]; exact hu)
        · intro hb38 G42 H43 g37
          have h_actual := up g37.g h_actual
          have h_expected := up g37.g h_expected
          have gr := gr.trans g37
          replace hM := condF hM hb38
          unfold mm_same_7 at hM
          refine s_next ?_
          refine nx_mk ?_
          refine q_if gr.s (et_B (ev_isStrD (ev_var rfl h_expected))) ?_ ?_
          · intro hb45 G46 H47 g44
            have h_actual := up g44.g h_actual
            have h_expected := up g44.g h_expected
            have gr := gr.trans g44
            replace hM := condT hM hb45
            refine s_ret (K := K) gr.s (ev_andV (ev_isStrD (ev_var rfl h_actual)) (fun hb48 => (ev_eqD (ev_var rfl h_actual) (ev_var rfl h_expected) ⟨by rw [hpre.1]; exact pl_shaped hpre.2 (by assumption), pl_shaped hpre.2 (by assumption)⟩))) fun u Gr Hr gq hu => ?_
            exact hQ u Gr Hr (gr.trans gq) (by rw [hM]; exact hu)
          · intro hb45 G49 H50 g44
            have h_actual := up g44.g h_actual
            have h_expected := up g44.g h_expected
            have gr := gr.trans g44
            replace hM := condF hM hb45
            unfold mm_same_6 at hM
            refine s_next ?_
            refine nx_mk ?_
            refine s_ret (K := K) gr.s (ev_andV (ev_isIntD (ev_var rfl h_actual)) (fun hb52 => (ev_andV (ev_notV (ev_isBoolD (ev_var rfl h_actual))) (fun hb51 => (ev_eqD (ev_var rfl h_actual) (ev_var rfl h_expected) ⟨by rw [hpre.1]; exact pl_shaped hpre.2 (by assumption), pl_shaped hpre.2 (by assumption)⟩))))) fun u Gr Hr gq hu => ?_
            exact hQ u Gr Hr (gr.trans gq) (by rw [hM]; exact hu)
theorem all_same (T : Tx w K mg base A) : ∀ n : Nat, FnOk P w K mg base CX0 (n + 1) A.f__law_same A.d__law_same ["actual", "expected"] (sp2 K (fun a e => a = e ∧ Pl n e) (fun (_ _ : PyData) => true))
  | 0 => T.F__law_same.ok sc__law_same (fun vs H Q E h => by obtain ⟨_, _, _, _, _, _, _, _, _, hp, _⟩ := h; exact hp.2.elim) (fun cdv A0 outer s H vs Q E hr h => by obtain ⟨_, _, _, _, _, _, _, _, _, hp, _⟩ := h; exact hp.2.elim)
  | n + 1 => step_same T (all_same T n)
def m__law_same (_ _ : PyData) : Bool := true
abbrev p__law_same (K : PySem.W.Frag) : Sp := sp2 K (fun a e => a = e ∧ Pl 3 e) m__law_same
theorem ok__law_same (T : Tx w K mg base A) : FnOk P w K mg base CX0 4 A.f__law_same A.d__law_same ["actual", "expected"] (p__law_same K) := all_same T 3

/-! #### _law_text -/
theorem text_fits {z : Str} {l : List Int} {f : Int → Int} (h : l.length ≤ 40) : ((List.map (fun k => getS z (f k)) l).map (·.length)).sum + (List.map (fun k => getS z (f k)) l).length * ("" : Str).length ≤ 16777216 := by
  rw [show ("" : Str).length = 0 by decide, Nat.mul_zero, Nat.add_zero]
  refine Nat.le_trans (sum_le (n := 1) (mem_map_all fun k _ => Nat.le_refl 1)) ?_
  rw [List.length_map, Nat.mul_one]
  exact Nat.le_trans h (by decide)

def m__law_text_1 (d_1 : Str) (d_7 : (List Int)) (d_23 : Int) : Str := (Txt.join ("" : Str) (List.map (fun d_29 => (getS d_1 ((getI d_7 d_29) % ((d_1).length : Int)))) (rgs 0 d_23)))
def m__law_text_2 (d_1 : Str) (d_7 : (List Int)) (d_13 : Int) : Str := (Txt.join ("" : Str) (List.map (fun d_39 => (getS d_1 ((getI d_7 d_39) % ((d_1).length : Int)))) (rgs 0 d_13)))
def m__law_text_3 (d_most : Int) (d_1 : Str) (d_7 : (List Int)) (d_13 : Int) : Str := (cond (decide ((0 : Int) < ((getI d_7 (d_most + (1 : Int))) % (3 : Int)))) (m__law_text_1 d_1 d_7 (d_13 % (6 : Int))) (m__law_text_2 d_1 d_7 d_13))
def m__law_text_4 (d_most : Int) (d_1 : Str) (d_7 : (List Int)) : Str := (m__law_text_3 d_most d_1 d_7 ((getI d_7 d_most) % (d_most + (1 : Int))))
def m__law_text_5 (d_cell : Int) (d_most : Int) (d_1 : Str) : Str := (m__law_text_4 d_most d_1 (m__law_draws d_cell (d_most + (2 : Int))))
def m__law_text (d_cell : Int) (d_most : Int) : Str := (m__law_text_5 d_cell d_most (" !\"#&'()*+,-./09:;<=>?@AZ[\\]^_`az{|}~" : Str))
abbrev p__law_text (K : PySem.W.Frag) : Sp := sp2 K (fun _ n => n = 40) m__law_text
theorem ok__law_text (T : Tx w K mg base A) : FnOk P w K mg base CX0 2 A.f__law_text A.d__law_text ["cell", "most"] (p__law_text K) := by
  refine T.F__law_text.ok sc__law_text (fun vs He Q E h => ?_) (fun cdv A0 outer s He vs Q E hr h => ⟨_, (pss_cons (ps_set (i := 2) sc__law_text.nd rfl (Or.inr rfl) pe_str) (pss_cons (ps_set (i := 3) sc__law_text.nd rfl (Or.inr rfl) (pe_call (ok__law_draws T) (hr.mono (by decide)) rfl T.g__law_draws T.F__law_draws.kp T.b__law_draws .nil pass0 (pa_cons (pv 0) (pa_cons (pe_op op_add (pv 1) pe_int) pa_nil)))) (pss_cons (ps_set (i := 4) sc__law_text.nd rfl (Or.inl rfl) (pe_op op_mod (pe_callTy call_int1 rfl T.n_int boot_int (pa_cons (pe_ix (ix_listK (K := K)) (pv 3) (pv 1) fun _ _ => rfl) pa_nil)) (pe_op op_add (pv 1) pe_int))) (pss_cons (ps_if (pt_cmpR op_gt (pe_op op_mod (pe_callTy call_int1 rfl T.n_int boot_int (pa_cons (pe_ix (ix_listK (K := K)) (pv 3) (pe_op op_add (pv 1) pe_int) fun _ _ => rfl) pa_nil)) pe_int) pe_int (nomark _)) (pss_one (ps_set (i := 4) sc__law_text.nd rfl (Or.inl rfl) (pe_op op_mod (pv 4) pe_int))) pss_nil) (pss_one (ps_ret (pe_joinK (K := K) pe_str (pe_lc (own := [("k", 5)]) (g := gName 5) (tt := tYes) rfl sc__law_text.nd (pi_range1 rfl T.n_range (pa_cons (pv 4) pa_nil)) (blkOk_by (N := n__law_text) (sc := defScope s__law_text) (by decide +kernel)) (fun _ _ _ _ _ => pg_name (i := 5) sc__law_text.nd rfl (Or.inl rfl)) (fun _ _ _ _ _ => pts_nil) (fun _ _ _ _ _ => (pe_ix ix_str (pv 2) (pe_op op_mod (pe_callTy call_int1 rfl T.n_int boot_int (pa_cons (pe_ix (ix_listK (K := K)) (pv 3) (pv 5) fun _ _ => rfl) pa_nil)) (pe_callB (call_lenK (K := K)) rfl T.n_len boot_len (pa_cons (pv 2) pa_nil))) fun _ _ => rfl)))))))))), ?_⟩)
  · obtain ⟨d_cell, d_most, w_cell, w_most, G, rfl, eG, h_cell, h_most, hpre, hQ⟩ := h
    rfl
  · obtain ⟨d_cell, d_most, w_cell, w_most, G, rfl, eG, h_cell, h_most, hpre, hQ⟩ := h
    have gr : Grow G He G He := Grow.refl eG
    obtain ⟨Ge, eGe⟩ : ∃ z, z = G := ⟨G, rfl⟩
    have gr : Grow Ge He G He := by rw [eGe]; exact gr
    rw [← eGe] at hQ
    clear eGe
    have hM : m__law_text d_cell d_most = (m__law_text_5 d_cell d_most (" !\"#&'()*+,-./09:;<=>?@AZ[\\]^_`az{|}~" : Str)) := rfl
    have hm : d_most = 40 := hpre
    refine q_asg (K := K) gr.s ev_str fun w_2 G5 H6 g4 (h_3 : rep K (" !\"#&'()*+,-./09:;<=>?@AZ[\\]^_`az{|}~" : Str) w_2 G5) => ?_
    have h_cell := up g4.g h_cell
    have h_most := up g4.g h_most
    have gr := gr.trans g4
    obtain ⟨d_1, ed_1⟩ : ∃ z, (" !\"#&'()*+,-./09:;<=>?@AZ[\\]^_`az{|}~" : Str) = z := ⟨_, rfl⟩
    rw [ed_1] at h_3 hM
    unfold m__law_text_5 at hM
    refine q_asg (K := K) gr.s (ev_call2 (ev_var rfl h_cell) (ev_add (ev_var rfl h_most) ev_int) (by first | (first | exact at_in (by omega) (by rw [fd]; omega) | (rw [← ed_1]; decide) | exact at_modS (by rw [← ed_1]; decide) | exact le_line (by rw [← ed_1]; decide) | (constructor <;> omega) | exact text_fits (by rw [rgs_len]; omega)) | (first | omega | decide))) fun w_8 G11 H12 g10 (h_9 : rep K (m__law_draws d_cell (d_most + (2 : Int))) w_8 G11) => ?_
    have h_cell := up g10.g h_cell
    have h_most := up g10.g h_most
    have h_3 := up g10.g h_3
    have gr := gr.trans g10
    generalize ed_7 : (m__law_draws d_cell (d_most + (2 : Int))) = d_7 at h_9 hM
    unfold m__law_text_4 at hM
    have fd : d_7.length = 42 := by rw [← ed_7, hm]; exact draws_len _ (by decide)
    refine q_asg (K := K) gr.s (ev_mod (ev_int1 (ev_ixL (ev_var rfl h_9) (ev_var rfl h_most) (atI_get (by first | (first | exact at_in (by omega) (by rw [fd]; omega) | (rw [← ed_1]; decide) | exact at_modS (by rw [← ed_1]; decide) | exact le_line (by rw [← ed_1]; decide) | (constructor <;> omega) | exact text_fits (by rw [rgs_len]; omega)) | (first | decide | (refine at_in ?_ ?_ <;> omega) | (refine at_neg ?_ ?_ <;> omega)))))) (ev_add (ev_var rfl h_most) ev_int) (by first | (first | exact at_in (by omega) (by rw [fd]; omega) | (rw [← ed_1]; decide) | exact at_modS (by rw [← ed_1]; decide) | exact le_line (by rw [← ed_1]; decide) | (constructor <;> omega) | exact text_fits (by rw [rgs_len]; omega)) | (first | omega | decide | (show _ ≤ sizeLine; decide) | (show _ < sizeLine; decide)))) fun w_14 G17 H18 g16 (h_15 : rep K ((getI d_7 d_most) % (d_most + (1 : Int))) w_14 G17) => ?_
    have h_cell := up g16.g h_cell
    have h_most := up g16.g h_most
    have h_3 := up g16.g h_3
    have h_9 := up g16.g h_9
    have gr := gr.trans g16
    generalize ed_13 : ((getI d_7 d_most) % (d_most + (1 : Int))) = d_13 at h_15 hM
    unfold m__law_text_3 at hM
    have fz : 0 ≤ d_13 ∧ d_13 ≤ 40 := by first | (rw [← ed_13, hm]; exact ⟨Int.emod_nonneg _ (by decide), Int.le_of_lt_add_one (Int.emod_lt_of_pos _ (by decide))⟩) | (rw [← ed_13]; omega)
    refine q_if gr.s (et_test (ev_gt (ev_mod (ev_int1 (ev_ixL (ev_var rfl h_9) (ev_add (ev_var rfl h_most) ev_int) (atI_get (by first | (first | exact at_in (by omega) (by rw [fd]; omega) | (rw [← ed_1]; decide) | exact at_modS (by rw [← ed_1]; decide) | exact le_line (by rw [← ed_1]; decide) | (constructor <;> omega) | exact text_fits (by rw [rgs_len]; omega)) | (first | decide | (refine at_in ?_ ?_ <;> omega) | (refine at_neg ?_ ?_ <;> omega)))))) ev_int (by first | (first | exact at_in (by omega) (by rw [fd]; omega) | (rw [← ed_1]; decide) | exact at_modS (by rw [← ed_1]; decide) | exact le_line (by rw [← ed_1]; decide) | (constructor <;> omega) | exact text_fits (by rw [rgs_len]; omega)) | (first | omega | decide | (show _ ≤ sizeLine; decide) | (show _ < sizeLine; decide)))) ev_int)) ?_ ?_
    · intro hb20 G21 H22 g19
      have h_cell := up g19.g h_cell
      have h_most := up g19.g h_most
      have h_3 := up g19.g h_3
      have h_9 := up g19.g h_9
      have h_15 := up g19.g h_15
      have gr := gr.trans g19
      replace hM := condT hM hb20
      refine s_asg (K := K) gr.s (ev_mod (ev_var rfl h_15) ev_int (by first | (first | exact at_in (by omega) (by rw [fd]; omega) | (rw [← ed_1]; decide) | exact at_modS (by rw [← ed_1]; decide) | exact le_line (by rw [← ed_1]; decide) | (constructor <;> omega) | exact text_fits (by rw [rgs_len]; omega)) | (first | omega | decide | (show _ ≤ sizeLine; decide) | (show _ < sizeLine; decide)))) fun w_24 G27 H28 g26 (h_25 : rep K (d_13 % (6 : Int)) w_24 G27) => ?_
      have h_cell := up g26.g h_cell
      have h_most := up g26.g h_most
      have h_3 := up g26.g h_3
      have h_9 := up g26.g h_9
      have gr := gr.trans g26
      generalize ed_23 : (d_13 % (6 : Int)) = d_23 at h_25 hM
      unfold m__law_text_1 at hM
      have fz : 0 ≤ d_23 ∧ d_23 ≤ 40 := by first | (rw [← ed_23, hm]; exact ⟨Int.emod_nonneg _ (by decide), Int.le_of_lt_add_one (Int.emod_lt_of_pos _ (by decide))⟩) | (rw [← ed_23]; omega)
      refine nx_mk ?_
      refine s_ret (K := K) gr.s (ev_join ev_str (ev_lcR1m (fun d_29 => (getS d_1 ((getI d_7 d_29) % ((d_1).length : Int)))) (ev_var rfl h_25) (by first | (first | exact at_in (by omega) (by rw [fd]; omega) | (rw [← ed_1]; decide) | exact at_modS (by rw [← ed_1]; decide) | exact le_line (by rw [← ed_1]; decide) | (constructor <;> omega) | exact text_fits (by rw [rgs_len]; omega)) | (first | omega | decide | (show _ ≤ sizeLine; decide) | (show _ < sizeLine; decide))) (fun d_29 G_ H_ lo35 hi36 sg32 sh_ P k => by have h_3 := up sg32 h_3; have h_9 := up sg32 h_9; have h_31 : rep K d_29 (V.int d_29) G_ := rfl; exact k _ rfl eb_yes (fun hc33 => (ev_ixS (ev_var rfl h_3) (ev_mod (ev_int1 (ev_ixL (ev_var rfl h_9) (ev_var rfl h_31) (atI_get (by first | (first | exact at_in (by omega) (by rw [fd]; omega) | (rw [← ed_1]; decide) | exact at_modS (by rw [← ed_1]; decide) | exact le_line (by rw [← ed_1]; decide) | (constructor <;> omega) | exact text_fits (by rw [rgs_len]; omega)) | (first | decide | (refine at_in ?_ ?_ <;> omega) | (refine at_neg ?_ ?_ <;> omega)))))) (ev_lenS (ev_var rfl h_3) (by first | (first | exact at_in (by omega) (by rw [fd]; omega) | (rw [← ed_1]; decide) | exact at_modS (by rw [← ed_1]; decide) | exact le_line (by rw [← ed_1]; decide) | (constructor <;> omega) | exact text_fits (by rw [rgs_len]; omega)) | (first | omega | decide | (show _ ≤ sizeLine; decide) | (show _ < sizeLine; decide)))) (by first | (first | exact at_in (by omega) (by rw [fd]; omega) | (rw [← ed_1]; decide) | exact at_modS (by rw [← ed_1]; decide) | exact le_line (by rw [← ed_1]; decide) | (constructor <;> omega) | exact text_fits (by rw [rgs_len]; omega)) | (first | omega | decide | (show _ ≤ sizeLine; decide) | (show _ < sizeLine; decide)))) (by first | (first | exact at_in (by omega) (by rw [fd]; omega) | (rw [← ed_1]; decide) | exact at_modS (by rw [← ed_1]; decide) | exact le_line (by rw [← ed_1]; decide) | (constructor <;> omega) | exact text_fits (by rw [rgs_len]; omega)) | (first | omega | decide | (show _ ≤ sizeLine; decide) | (show _ < sizeLine; decide))) (atI_get (by first | (first | exact at_in (by omega) (by rw [fd]; omega) | (rw [← ed_1]; decide) | exact at_modS (by rw [← ed_1]; decide) | exact le_line (by rw [← ed_1]; decide) | (constructor <;> omega) | exact text_fits (by rw [rgs_len]; omega)) | (first | decide | (refine at_in ?_ ?_ <;> omega) | (refine at_neg ?_ ?_ <;> omega)))))))) (by first | (first | exact at_in (by omega) (by rw [fd]; omega) | (rw [← ed_1]; decide) | exact at_modS (by rw [← ed_1]; decide) | exact le_line (by rw [← ed_1]; decide) | (constructor <;> omega) | exact text_fits (by rw [rgs_len]; omega)) | (first | omega | decide | (show _ ≤ sizeLine; decide) | (show _ < sizeLine; decide)))) fun u Gr Hr gq hu => ?_
      exact hQ u Gr Hr (gr.trans gq) (by rw [hM]; exact hu)
    · intro hb20 G37 H38 g19
      have h_cell := up g19.g h_cell
      have h_most := up g19.g h_most
      have h_3 := up g19.g h_3
      have h_9 := up g19.g h_9
      have h_15 := up g19.g h_15
      have gr := gr.trans g19
      replace hM := condF hM hb20
      unfold m__law_text_2 at hM
      refine s_next ?_
      refine nx_mk ?_
      refine s_ret (K := K) gr.s (ev_join ev_str (ev_lcR1m (fun d_39 => (getS d_1 ((getI d_7 d_39) % ((d_1).length : Int)))) (ev_var rfl h_15) (by first | (first | exact at_in (by omega) (by rw [fd]; omega) | (rw [← ed_1]; decide) | exact at_modS (by rw [← ed_1]; decide) | exact le_line (by rw [← ed_1]; decide) | (constructor <;> omega) | exact text_fits (by rw [rgs_len]; omega)) | (first | omega | decide | (show _ ≤ sizeLine; decide) | (show _ < sizeLine; decide))) (fun d_39 G_ H_ lo45 hi46 sg42 sh_ P k => by have h_3 := up sg42 h_3; have h_9 := up sg42 h_9; have h_41 : rep K d_39 (V.int d_39) G_ := rfl; exact k _ rfl eb_yes (fun hc43 => (ev_ixS (ev_var rfl h_3) (ev_mod (ev_int1 (ev_ixL (ev_var rfl h_9) (ev_var rfl h_41) (atI_get (by first | (first | exact at_in (by omega) (by rw [fd]; omega) | (rw [← ed_1]; decide) | exact at_modS (by rw [← ed_1]; decide) | exact le_line (by rw [← ed_1]; decide) | (constructor <;> omega) | exact text_fits (by rw [rgs_len]; omega)) | (first | decide | (refine at_in ?_ ?_ <;> omega) | (refine at_neg ?_ ?_ <;> omega)))))) (ev_lenS (ev_var rfl h_3) (by first | (first | exact at_in (by omega) (by rw [fd]; omega) | (rw [← ed_1]; decide) | exact at_modS (by rw [← ed_1]; decide) | exact le_line (by rw [← ed_1]; decide) | (constructor <;> omega) | exact text_fits (by rw [rgs_len]; omega)) | (first | omega | decide | (show _ ≤ sizeLine; decide) | (show _ < sizeLine; decide)))) (by first | (first | exact at_in (by omega) (by rw [fd]; omega) | (rw [← ed_1]; decide) | exact at_modS (by rw [← ed_1]; decide) | exact le_line (by rw [← ed_1]; decide) | (constructor <;> omega) | exact text_fits (by rw [rgs_len]; omega)) | (first | omega | decide | (show _ ≤ sizeLine; decide) | (show _ < sizeLine; decide)))) (by first | (first | exact at_in (by omega) (by rw [fd]; omega) | (rw [← ed_1]; decide) | exact at_modS (by rw [← ed_1]; decide) | exact le_line (by rw [← ed_1]; decide) | (constructor <;> omega) | exact text_fits (by rw [rgs_len]; omega)) | (first | omega | decide | (show _ ≤ sizeLine; decide) | (show _ < sizeLine; decide))) (atI_get (by first | (first | exact at_in (by omega) (by rw [fd]; omega) | (rw [← ed_1]; decide) | exact at_modS (by rw [← ed_1]; decide) | exact le_line (by rw [← ed_1]; decide) | (constructor <;> omega) | exact text_fits (by rw [rgs_len]; omega)) | (first | decide | (refine at_in ?_ ?_ <;> omega) | (refine at_neg ?_ ?_ <;> omega)))))))) (by first | (first | exact at_in (by omega) (by rw [fd]; omega) | (rw [← ed_1]; decide) | exact at_modS (by rw [← ed_1]; decide) | exact le_line (by rw [← ed_1]; decide) | (constructor <;> omega) | exact text_fits (by rw [rgs_len]; omega)) | (first | omega | decide | (show _ ≤ sizeLine; decide) | (show _ < sizeLine; decide)))) fun u Gr Hr gq hu => ?_
      exact hQ u Gr Hr (gr.trans gq) (by rw [hM]; exact hu)
/-! #### _law_forms -/
theorem put_kvs (l : List (Str × Str)) (k v : Str) : putK (kvsD l) (Sum.inr k) (V.str v) = kvsD (putS l k v) := by
  unfold putK putS kvsD
  have e : ((l.map fun p => ((Sum.inr p.1 : Key), V.str p.2)).any fun kv => decide (kv.1 = Sum.inr k)) = (l.any fun p => decide (p.1 = k)) := by
    rw [List.any_map]
    congr 1
    funext p
    exact decide_eq_decide.mpr ⟨fun h => Sum.inr.inj h, fun h => congrArg _ h⟩
  rw [e]
  cases (l.any fun p => decide (p.1 = k)) with
  | true =>
    rw [if_pos rfl, if_pos rfl, List.map_map, List.map_map]
    congr 1
    funext p
    by_cases q : p.1 = k
    · show (if (Sum.inr p.1 : Key) = Sum.inr k then ((Sum.inr p.1 : Key), V.str v) else (Sum.inr p.1, V.str p.2)) = ((Sum.inr (if p.1 = k then (p.1, v) else p).1 : Key), V.str (if p.1 = k then (p.1, v) else p).2)
      rw [if_pos (congrArg _ q), if_pos q]
    · show (if (Sum.inr p.1 : Key) = Sum.inr k then ((Sum.inr p.1 : Key), V.str v) else (Sum.inr p.1, V.str p.2)) = ((Sum.inr (if p.1 = k then (p.1, v) else p).1 : Key), V.str (if p.1 = k then (p.1, v) else p).2)
      rw [if_neg (fun z => q (Sum.inr.inj z)), if_neg q]
  | false =>
    rw [if_neg (by decide), if_neg (by decide), List.map_append]
    rfl
theorem s_dputS {te : TE} {σ : L2.St} {H Ge He G : Hp} {D : Ends} {i : Nat} {p : Addr} {l : List (Str × Str)} {k v : Str} (gr : Grow Ge He G H) (h0 : He p = none) (hg : G p = none) (hi : σ[i]? = some (some (.ref p))) (hp : H p = some (.dK (kvsD l))) (hl : l.length ≤ 1000) (hk : EvR K te σ G k)
    (n : ∀ G2 H2, Grow Ge He G2 H2 → Same G G2 → G2 p = none → H2 p = some (.dK (kvsD (putS l k v))) → D.nx σ H2) : sDPut (tVar i) te (tC (.str v)) D σ H :=
  ⟨.ref p, hi, hk H gr.s _ fun x G2 H2 g2 r2 => by
    have e : x = V.str k := r2
    subst e
    have hp2 := g2.h.k p _ hp (fun q z => by cases z)
    have hg2 := g2.f p _ hp hg
    refine ⟨p, _, rfl, DPut.k (k := Sum.inr k) hp2 (by unfold kvsD; rw [List.length_map, sizeLine_eq]; omega), ?_⟩
    rw [put_kvs]
    exact n G2 _ ((gr.trans g2).mut h0 hg2 (fun q z => by rw [hp2] at z; cases z)) g2.g hg2 upd_same⟩
theorem q_dputS {te : TE} {σ : L2.St} {H Ge He G : Hp} {D : Ends} {tz : TS} {i : Nat} {p : Addr} {l : List (Str × Str)} {k v : Str} (gr : Grow Ge He G H) (h0 : He p = none) (hg : G p = none) (hi : σ[i]? = some (some (.ref p))) (hp : H p = some (.dK (kvsD l))) (hl : l.length ≤ 1000) (hk : EvR K te σ G k)
    (n : ∀ G2 H2, Grow Ge He G2 H2 → Same G G2 → G2 p = none → H2 p = some (.dK (kvsD (putS l k v))) → tz D σ H2) : tSeq (sDPut (tVar i) te (tC (.str v))) tz D σ H :=
  s_dputS (D := { D with nx := tz D }) gr h0 hg hi hp hl hk n
theorem forms_end : FWS.foldl (fun l x => putS l x ("" : Str)) FL12 = FORMSL := by decide +kernel
theorem forms_len : ∀ i, i ≤ 7 → ((FWS.take i).foldl (fun l x => putS l x ("" : Str)) FL12).length ≤ 1000 := by decide +kernel
def m__law_forms : Dct := ⟨FORMSL⟩
abbrev p__law_forms (K : PySem.W.Frag) : Sp := sp0 K m__law_forms
theorem ok__law_forms (T : Tx w K mg base A) : FnOk P w K mg base CX0 1 A.f__law_forms A.d__law_forms [] (p__law_forms K) := by
  refine T.F__law_forms.ok sc__law_forms (fun vs He Q E h => ?_) (fun cdv A0 outer s He vs Q E hr h => ⟨_, (pss_cons (ps_set (i := 0) sc__law_forms.nd rfl (Or.inl rfl) (pe_disp (pps_cons pe_str pe_str (pps_cons pe_str pe_str (pps_cons pe_str pe_str (pps_cons pe_str pe_str (pps_cons pe_str pe_str (pps_cons pe_str pe_str pps_nil)))))) rfl rfl (by intro z; cases z) (by decide))) (pss_cons (ps_dput (hu_ofU hr) (pv 0) pe_str pe_str rfl) (pss_cons (ps_dput (hu_ofU hr) (pv 0) pe_str pe_str rfl) (pss_cons (ps_dput (hu_ofU hr) (pv 0) pe_str pe_str rfl) (pss_cons (ps_dput (hu_ofU hr) (pv 0) pe_str pe_str rfl) (pss_cons (ps_dput (hu_ofU hr) (pv 0) pe_str pe_str rfl) (pss_cons (ps_dput (hu_ofU hr) (pv 0) pe_str pe_str rfl) (pss_cons (ps_dput (hu_ofU hr) (pv 0) pe_str pe_str rfl) (pss_cons (ps_dput (hu_ofU hr) (pv 0) pe_str pe_str rfl) (pss_cons (ps_dput (hu_ofU hr) (pv 0) pe_str pe_str rfl) (pss_cons (ps_dput (hu_ofU hr) (pv 0) pe_str pe_str rfl) (pss_cons (ps_dput (hu_ofU hr) (pv 0) pe_str pe_str rfl) (pss_cons (ps_dput (hu_ofU hr) (pv 0) pe_str pe_str rfl) (pss_cons (ps_for PassesOwn.never rfl (pi_listK (K := K) (pe_lst (pa_cons pe_str (pa_cons pe_str (pa_cons pe_str (pa_cons pe_str (pa_cons pe_str (pa_cons pe_str (pa_cons pe_str pa_nil))))))))) (pg_name (i := 1) sc__law_forms.nd rfl (Or.inl rfl)) (pss_one (ps_dput (hu_ofU hr) (pv 0) (pv 1) pe_str rfl))) (pss_one (ps_ret (pv 0))))))))))))))))), ?_⟩)
  · obtain ⟨rfl, _⟩ := h
    rfl
  · obtain ⟨rfl, G, eG, hQ⟩ := h
    refine fun p hp => ?_
    refine ⟨upd_same, [(Sum.inr ("insert" : Str), V.str ("NIKNL" : Str)), (Sum.inr ("remove" : Str), V.str ("N" : Str)), (Sum.inr ("show" : Str), V.str ("N" : Str)), (Sum.inr ("hide" : Str), V.str ("N" : Str)), (Sum.inr ("enable" : Str), V.str ("N" : Str)), (Sum.inr ("disable" : Str), V.str ("N" : Str))], rfl, by decide, ?_⟩
    have e0 : mergeK [] ([(Sum.inr ("insert" : Str), V.str ("NIKNL" : Str)), (Sum.inr ("remove" : Str), V.str ("N" : Str)), (Sum.inr ("show" : Str), V.str ("N" : Str)), (Sum.inr ("hide" : Str), V.str ("N" : Str)), (Sum.inr ("enable" : Str), V.str ("N" : Str)), (Sum.inr ("disable" : Str), V.str ("N" : Str))] : List (Key × V)) = kvsD FL0 := by rfl
    rw [e0]
    have hp0 : (upd (upd He p (.dK [])) p (.dK (kvsD FL0))) p = some (.dK (kvsD FL0)) := upd_same
    have hg := eG.free hp
    have gr : Grow G He G (upd (upd He p (.dK [])) p (.dK (kvsD FL0))) := ((Grow.refl eG).loose (o := .dK []) hp).mut hp hg (fun q z => by rw [upd_same] at z; cases z)
    generalize upd (upd He p (.dK [])) p (.dK (kvsD FL0)) = H0 at gr hp0
    obtain ⟨Ge, eGe⟩ : ∃ z, z = G := ⟨G, rfl⟩
    have gr : Grow Ge He G H0 := by rw [eGe]; exact gr
    rw [← eGe] at hQ
    clear eGe
    refine q_dputS (K := K) gr hp hg rfl hp0 (by decide +kernel) ev_str fun G H0 gr sg hg (hp0 : H0 p = some (.dK (kvsD FL1))) => ?_
    refine q_dputS (K := K) gr hp hg rfl hp0 (by decide +kernel) ev_str fun G H0 gr sg hg (hp0 : H0 p = some (.dK (kvsD FL2))) => ?_
    refine q_dputS (K := K) gr hp hg rfl hp0 (by decide +kernel) ev_str fun G H0 gr sg hg (hp0 : H0 p = some (.dK (kvsD FL3))) => ?_
    refine q_dputS (K := K) gr hp hg rfl hp0 (by decide +kernel) ev_str fun G H0 gr sg hg (hp0 : H0 p = some (.dK (kvsD FL4))) => ?_
    refine q_dputS (K := K) gr hp hg rfl hp0 (by decide +kernel) ev_str fun G H0 gr sg hg (hp0 : H0 p = some (.dK (kvsD FL5))) => ?_
    refine q_dputS (K := K) gr hp hg rfl hp0 (by decide +kernel) ev_str fun G H0 gr sg hg (hp0 : H0 p = some (.dK (kvsD FL6))) => ?_
    refine q_dputS (K := K) gr hp hg rfl hp0 (by decide +kernel) ev_str fun G H0 gr sg hg (hp0 : H0 p = some (.dK (kvsD FL7))) => ?_
    refine q_dputS (K := K) gr hp hg rfl hp0 (by decide +kernel) ev_str fun G H0 gr sg hg (hp0 : H0 p = some (.dK (kvsD FL8))) => ?_
    refine q_dputS (K := K) gr hp hg rfl hp0 (by decide +kernel) ev_str fun G H0 gr sg hg (hp0 : H0 p = some (.dK (kvsD FL9))) => ?_
    refine q_dputS (K := K) gr hp hg rfl hp0 (by decide +kernel) ev_str fun G H0 gr sg hg (hp0 : H0 p = some (.dK (kvsD FL10))) => ?_
    refine q_dputS (K := K) gr hp hg rfl hp0 (by decide +kernel) ev_str fun G H0 gr sg hg (hp0 : H0 p = some (.dK (kvsD FL11))) => ?_
    refine q_dputS (K := K) gr hp hg rfl hp0 (by decide +kernel) ev_str fun G H0 gr sg hg (hp0 : H0 p = some (.dK (kvsD FL12))) => ?_
    refine q_forL (K := K) gr.s (ev_lst (ea_cons ev_str (ea_cons ev_str (ea_cons ev_str (ea_cons ev_str (ea_cons ev_str (ea_cons ev_str (ea_cons ev_str ea_nil))))))) (by show _ ≤ sizeLine; decide)) fun G1 H1 xs g1 rs => ?_
    have hp1 := g1.h.k p _ hp0 (fun q z => by cases z)
    have hg1 := g1.f p _ hp0 hg
    have gr := gr.trans g1
    refine ⟨fun i_ σ_ H_ => ∃ (G2 : Hp) (o_ : Option V), Grow Ge He G2 H_ ∧ Same G1 G2 ∧ σ_ = [some (V.ref p), o_] ∧ G2 p = none ∧ H_ p = some (.dK (kvsD ((FWS.take i_).foldl (fun l x => putS l x ("" : Str)) FL12))), ⟨_, _, gr, Same.refl _, rfl, hg1, hp1⟩, ?_, ?_, ?_⟩
    · rintro i_ σ_ H_ ⟨G2, o_, gr, sg, _⟩
      exact un sg gr.s
    · rintro i_0 d_1 w_1 σ_0 H_0 hx0 h_1 ⟨G2, o_, gr, sg, rfl, hg2, hp2⟩
      have h_1 := up sg h_1
      have hi : i_0 < 7 := (List.getElem?_eq_some_iff.mp hx0).1
      refine s_dputS (K := K) (i := 0) gr hp hg2 rfl hp2 (forms_len _ (by omega)) (show EvR K (tVar 1) [some (V.ref p), some w_1] G2 d_1 from ev_var rfl h_1) fun G3 H3 gr sg3 hg3 hp3 => ?_
      refine ⟨G3, _, gr, sg.trans sg3, rfl, hg3, ?_⟩
      rw [show (FWS.take (i_0 + 1)) = FWS.take i_0 ++ [d_1] from take_snoc hx0, List.foldl_append]
      exact hp3
    · rintro σ_0 H_0 ⟨G2, o_, gr, sg, rfl, hg2, hp2⟩
      have hp2 : H_0 p = some (.dK (kvsD (FWS.foldl (fun l x => putS l x ("" : Str)) FL12))) := hp2
      rw [forms_end] at hp2
      refine ⟨_, rfl, ?_⟩
      exact hQ _ _ _ (gr.fix (o := .dK (kvsD FORMSL)) hp hg2 hp2 (fun q z => by cases z)) ⟨p, rfl, upd_same⟩

/-! #### _law_argument -/
def SG : Str := " !\"#&'()*+,-./09:;<=>?@AZ[\\]^_`az{|}~"
theorem sg_ok : ∀ c ∈ SG.cps.toList, 32 ≤ c ∧ c ≤ 126 := by decide +kernel
theorem lab_list {d : List Int} {l : List Int} (h : l.length ≤ 40) : LabN 40 (Txt.join ("" : Str) (List.map (fun k => getS SG (getI d k % (SG.length : Int))) l)) := by
  refine ⟨?_, fun c hc => ?_⟩
  · rw [join_len, show ("" : Str).length = 0 by decide, Nat.mul_zero, Nat.add_zero]
    refine Nat.le_trans (sum_le (n := 1) (mem_map_all fun k _ => Nat.le_refl 1)) ?_
    rw [List.length_map, Nat.mul_one] <;> exact h
  · rcases join_mem hc with q | ⟨p, hp, q⟩
    · rw [show TL.tl ("" : Str) = [] by decide +kernel] at q
      cases q
    · obtain ⟨k, _, e⟩ := List.mem_map.mp hp
      rw [← e] at q
      have e2 : c = _ := List.mem_singleton.mp q
      rw [e2]
      exact sg_ok _ (getI_mem (at_modS (by decide)))
theorem lab_text (c : Int) : LabN 40 (m__law_text c 40) := by
  show LabN 40 (m__law_text_3 40 SG (m__law_draws c 42) (getI (m__law_draws c 42) 40 % 41))
  generalize m__law_draws c 42 = d
  have h0 : 0 ≤ getI d 40 % 41 := Int.emod_nonneg _ (by decide)
  have h1 : getI d 40 % 41 < 41 := Int.emod_lt_of_pos _ (by decide)
  generalize getI d 40 % 41 = n at h0 h1
  unfold m__law_text_3
  cases decide ((0 : Int) < getI d (40 + 1) % 3) with
  | true =>
    refine lab_list ?_
    rw [rgs_len]
    have := Int.emod_nonneg n (show (6 : Int) ≠ 0 by decide)
    have := Int.emod_lt_of_pos n (show (0 : Int) < 6 by decide)
    omega
  | false =>
    refine lab_list ?_
    rw [rgs_len]
    omega

def m__law_argument_1 (d_1 : Int) : PyData := (PyData.str (getI (("a" : Str) :: (("root" : Str) :: (("n12" : Str) :: (("k.3" : Str) :: (("abcdefgh" : Str) :: ([] : List Str)))))) (d_1 % (5 : Int))))
def m__law_argument_2 (d_1 : Int) : PyData := (PyData.str (getI (("item" : Str) :: (("container" : Str) :: (("linear" : Str) :: (("circular" : Str) :: (("layer" : Str) :: ([] : List Str)))))) (d_1 % (5 : Int))))
def m__law_argument_3 (d_1 : Int) : PyData := (PyData.int (getI ((0 : Int) :: ((59 : Int) :: ((d_1 % (60 : Int)) :: ([] : List Int)))) ((d_1 / (7 : Int)) % (3 : Int))))
def m__law_argument_4 (d_1 : Int) : PyData := (PyData.int (getI ((0 : Int) :: ((1000000 : Int) :: ((d_1 % (90 : Int)) :: ([] : List Int)))) ((d_1 / (7 : Int)) % (3 : Int))))
def m__law_argument_5 (d_49 : Str) : PyData := (PyData.str (cutS d_49 none (some (100 : Int))))
def m__law_argument_6 (d_form : Str) (d_1 : Int) (d_37 : Str) : PyData := (cond ((eqB d_form ("T" : Str)) && (eqB (d_1 % (5 : Int)) (0 : Int))) (m__law_argument_5 (mulS (d_37 ++ (" ctrl+K \"x\"" : Str)) (3 : Int))) (PyData.str (cutS d_37 none (some (100 : Int)))))
def m__law_argument_7 (d_form : Str) (d_cell : Int) (d_1 : Int) : PyData := (cond (eqB d_form ("B" : Str)) (PyData.bool (eqB (d_1 % (2 : Int)) (0 : Int))) (m__law_argument_6 d_form d_1 (m__law_text d_cell (40 : Int))))
def m__law_argument_8 (d_form : Str) (d_cell : Int) (d_1 : Int) : PyData := (cond (eqB d_form ("C" : Str)) (m__law_argument_4 d_1) (m__law_argument_7 d_form d_cell d_1))
def m__law_argument_9 (d_form : Str) (d_cell : Int) (d_1 : Int) : PyData := (cond (eqB d_form ("I" : Str)) (m__law_argument_3 d_1) (m__law_argument_8 d_form d_cell d_1))
def m__law_argument_10 (d_form : Str) (d_cell : Int) (d_1 : Int) : PyData := (cond (eqB d_form ("K" : Str)) (m__law_argument_2 d_1) (m__law_argument_9 d_form d_cell d_1))
def m__law_argument_11 (d_form : Str) (d_cell : Int) (d_1 : Int) : PyData := (cond (eqB d_form ("N" : Str)) (m__law_argument_1 d_1) (m__law_argument_10 d_form d_cell d_1))
def m__law_argument (d_form : Str) (d_draws : (List Int)) (d_at : Int) (d_cell : Int) : PyData := (m__law_argument_11 d_form d_cell (getI d_draws d_at))
abbrev p__law_argument (K : PySem.W.Frag) : Sp := sp4 K (fun _ l n _ => l.length = 9 ∧ 0 ≤ n ∧ n < 9) m__law_argument
theorem ok__law_argument (T : Tx w K mg base A) : FnOk P w K mg base CX0 3 A.f__law_argument A.d__law_argument ["form", "draws", "at", "cell"] (p__law_argument K) := by
  refine T.F__law_argument.ok sc__law_argument (fun vs He Q E h => ?_) (fun cdv A0 outer s He vs Q E hr h => ⟨_, (pss_cons (ps_set (i := 4) sc__law_argument.nd rfl (Or.inl rfl) (pe_callTy call_int1 rfl T.n_int boot_int (pa_cons (pe_ix (ix_listK (K := K)) (pv 1) (pv 2) fun _ _ => rfl) pa_nil))) (pss_cons (ps_if (pt_cmpR op_eq (pv 0) pe_str (nomark _)) (pss_one (ps_ret (pe_ix (ix_listK (K := K)) (pe_lst (pa_cons pe_str (pa_cons pe_str (pa_cons pe_str (pa_cons pe_str (pa_cons pe_str pa_nil)))))) (pe_op op_mod (pv 4) pe_int) fun _ _ => rfl))) pss_nil) (pss_cons (ps_if (pt_cmpR op_eq (pv 0) pe_str (nomark _)) (pss_one (ps_ret (pe_ix (ix_listK (K := K)) (pe_lst (pa_cons pe_str (pa_cons pe_str (pa_cons pe_str (pa_cons pe_str (pa_cons pe_str pa_nil)))))) (pe_op op_mod (pv 4) pe_int) fun _ _ => rfl))) pss_nil) (pss_cons (ps_if (pt_cmpR op_eq (pv 0) pe_str (nomark _)) (pss_one (ps_ret (pe_ix (ix_listK (K := K)) (pe_lst (pa_cons pe_int (pa_cons pe_int (pa_cons (pe_op op_mod (pv 4) pe_int) pa_nil)))) (pe_op op_mod (pe_op op_fdiv (pv 4) pe_int) pe_int) fun _ _ => rfl))) pss_nil) (pss_cons (ps_if (pt_cmpR op_eq (pv 0) pe_str (nomark _)) (pss_one (ps_ret (pe_ix (ix_listK (K := K)) (pe_lst (pa_cons pe_int (pa_cons pe_int (pa_cons (pe_op op_mod (pv 4) pe_int) pa_nil)))) (pe_op op_mod (pe_op op_fdiv (pv 4) pe_int) pe_int) fun _ _ => rfl))) pss_nil) (pss_cons (ps_if (pt_cmpR op_eq (pv 0) pe_str (nomark _)) (pss_one (ps_ret (pe_cmpR op_eq (pe_op op_mod (pv 4) pe_int) pe_int (nomark _)))) pss_nil) (pss_cons (ps_set (i := 5) sc__law_argument.nd rfl (Or.inl rfl) (pe_call (ok__law_text T) (hr.mono (by decide)) rfl T.g__law_text T.F__law_text.kp T.b__law_text .nil pass0 (pa_cons (pv 3) (pa_cons pe_int pa_nil)))) (pss_cons (ps_if (PW.pt (pw_and (pt_cmpR op_eq (pv 0) pe_str (nomark _)) (pw_and1 (pt_cmpR op_eq (pe_op op_mod (pv 4) pe_int) pe_int (nomark _))))) (pss_one (ps_set (i := 5) sc__law_argument.nd rfl (Or.inl rfl) (pe_op op_repS (pe_op op_add_str (pv 5) pe_str) pe_int))) pss_nil) (pss_one (ps_ret (pe_slice sl_str (pv 5) po_none (po_some pe_int)))))))))))), ?_⟩)
  · obtain ⟨d_form, d_draws, d_at, d_cell, w_form, w_draws, w_at, w_cell, G, rfl, eG, h_form, h_draws, h_at, h_cell, hpre, hQ⟩ := h
    rfl
  · obtain ⟨d_form, d_draws, d_at, d_cell, w_form, w_draws, w_at, w_cell, G, rfl, eG, h_form, h_draws, h_at, h_cell, hpre, hQ⟩ := h
    have gr : Grow G He G He := Grow.refl eG
    obtain ⟨Ge, eGe⟩ : ∃ z, z = G := ⟨G, rfl⟩
    have gr : Grow Ge He G He := by rw [eGe]; exact gr
    rw [← eGe] at hQ
    clear eGe
    have hM : m__law_argument d_form d_draws d_at d_cell = (m__law_argument_11 d_form d_cell (getI d_draws d_at)) := rfl
    refine q_asg (K := K) gr.s (ev_int1 (ev_ixL (ev_var rfl h_draws) (ev_var rfl h_at) (atI_get (by first | (first | exact at_m (Nat.succ_pos _) | exact Nat.le_trans fx (by decide) | exact Nat.le_trans (Nat.add_le_add_right fx _) (by decide +kernel) | exact ⟨by decide, by decide, by rw [len_app]; exact Nat.le_trans (Nat.mul_le_mul_right _ (Nat.add_le_add_right fx _)) (by decide +kernel)⟩ | exact at_in hpre.2.1 (by have := hpre.1; have := hpre.2.2; omega) | decide) | (first | decide | (refine at_in ?_ ?_ <;> omega) | (refine at_neg ?_ ?_ <;> omega)))))) fun w_2 G5 H6 g4 (h_3 : rep K (getI d_draws d_at) w_2 G5) => ?_
    have h_form := up g4.g h_form
    have h_draws := up g4.g h_draws
    have h_at := up g4.g h_at
    have h_cell := up g4.g h_cell
    have gr := gr.trans g4
    generalize ed_1 : (getI d_draws d_at) = d_1 at h_3 hM
    unfold m__law_argument_11 at hM
    refine q_if gr.s (et_test (ev_eq (ev_var rfl h_form) ev_str)) ?_ ?_
    · intro hb8 G9 H10 g7
      have h_form := up g7.g h_form
      have h_draws := up g7.g h_draws
      have h_at := up g7.g h_at
      have h_cell := up g7.g h_cell
      have h_3 := up g7.g h_3
      have gr := gr.trans g7
      replace hM := condT hM hb8
      unfold m__law_argument_1 at hM
      refine s_ret (K := K) gr.s (ev_toD (ev_ixL (ev_lst (ea_cons ev_str (ea_cons ev_str (ea_cons ev_str (ea_cons ev_str (ea_cons ev_str ea_nil))))) (by first | (first | exact at_m (Nat.succ_pos _) | exact Nat.le_trans fx (by decide) | exact Nat.le_trans (Nat.add_le_add_right fx _) (by decide +kernel) | exact ⟨by decide, by decide, by rw [len_app]; exact Nat.le_trans (Nat.mul_le_mul_right _ (Nat.add_le_add_right fx _)) (by decide +kernel)⟩ | exact at_in hpre.2.1 (by have := hpre.1; have := hpre.2.2; omega) | decide) | (first | (show _ ≤ sizeLine; decide) | (simp only [List.length_cons, List.length_nil, List.length_append, sizeLine_eq]; omega) | (fail)))) (ev_mod (ev_var rfl h_3) ev_int (by first | (first | exact at_m (Nat.succ_pos _) | exact Nat.le_trans fx (by decide) | exact Nat.le_trans (Nat.add_le_add_right fx _) (by decide +kernel) | exact ⟨by decide, by decide, by rw [len_app]; exact Nat.le_trans (Nat.mul_le_mul_right _ (Nat.add_le_add_right fx _)) (by decide +kernel)⟩ | exact at_in hpre.2.1 (by have := hpre.1; have := hpre.2.2; omega) | decide) | (first | omega | decide | (show _ ≤ sizeLine; decide) | (show _ < sizeLine; decide)))) (atI_get (by first | (first | exact at_m (Nat.succ_pos _) | exact Nat.le_trans fx (by decide) | exact Nat.le_trans (Nat.add_le_add_right fx _) (by decide +kernel) | exact ⟨by decide, by decide, by rw [len_app]; exact Nat.le_trans (Nat.mul_le_mul_right _ (Nat.add_le_add_right fx _)) (by decide +kernel)⟩ | exact at_in hpre.2.1 (by have := hpre.1; have := hpre.2.2; omega) | decide) | (first | decide | (refine at_in ?_ ?_ <;> omega) | (refine at_neg ?_ ?_ <;> omega)))))) fun u Gr Hr gq hu => ?_
      exact hQ u Gr Hr (gr.trans gq) (by rw [hM]; exact hu)
    · intro hb8 G11 H12 g7
      have h_form := up g7.g h_form
      have h_draws := up g7.g h_draws
      have h_at := up g7.g h_at
      have h_cell := up g7.g h_cell
      have h_3 := up g7.g h_3
      have gr := gr.trans g7
      replace hM := condF hM hb8
      unfold m__law_argument_10 at hM
      refine s_next ?_
      refine nx_mk ?_
      refine q_if gr.s (et_test (ev_eq (ev_var rfl h_form) ev_str)) ?_ ?_
      · intro hb14 G15 H16 g13
        have h_form := up g13.g h_form
        have h_draws := up g13.g h_draws
        have h_at := up g13.g h_at
        have h_cell := up g13.g h_cell
        have h_3 := up g13.g h_3
        have gr := gr.trans g13
        replace hM := condT hM hb14
        unfold m__law_argument_2 at hM
        refine s_ret (K := K) gr.s (ev_toD (ev_ixL (ev_lst (ea_cons ev_str (ea_cons ev_str (ea_cons ev_str (ea_cons ev_str (ea_cons ev_str ea_nil))))) (by first | (first | exact at_m (Nat.succ_pos _) | exact Nat.le_trans fx (by decide) | exact Nat.le_trans (Nat.add_le_add_right fx _) (by decide +kernel) | exact ⟨by decide, by decide, by rw [len_app]; exact Nat.le_trans (Nat.mul_le_mul_right _ (Nat.add_le_add_right fx _)) (by decide +kernel)⟩ | exact at_in hpre.2.1 (by have := hpre.1; have := hpre.2.2; omega) | decide) | (first | (show _ ≤ sizeLine; decide) | (simp only [List.length_cons, List.length_nil, List.length_append, sizeLine_eq]; omega) | (fail)))) (ev_mod (ev_var rfl h_3) ev_int (by first | (first | exact at_m (Nat.succ_pos _) | exact Nat.le_trans fx (by decide) | exact Nat.le_trans (Nat.add_le_add_right fx _) (by decide +kernel) | exact ⟨by decide, by decide, by rw [len_app]; exact Nat.le_trans (Nat.mul_le_mul_right _ (Nat.add_le_add_right fx _)) (by decide +kernel)⟩ | exact at_in hpre.2.1 (by have := hpre.1; have := hpre.2.2; omega) | decide) | (first | omega | decide | (show _ ≤ sizeLine; decide) | (show _ < sizeLine; decide)))) (atI_get (by first | (first | exact at_m (Nat.succ_pos _) | exact Nat.le_trans fx (by decide) | exact Nat.le_trans (Nat.add_le_add_right fx _) (by decide +kernel) | exact ⟨by decide, by decide, by rw [len_app]; exact Nat.le_trans (Nat.mul_le_mul_right _ (Nat.add_le_add_right fx _)) (by decide +kernel)⟩ | exact at_in hpre.2.1 (by have := hpre.1; have := hpre.2.2; omega) | decide) | (first | decide | (refine at_in ?_ ?_ <;> omega) | (refine at_neg ?_ ?_ <;> omega)))))) fun u Gr Hr gq hu => ?_
        exact hQ u Gr Hr (gr.trans gq) (by rw [hM]; exact hu)
      · intro hb14 G17 H18 g13
        have h_form := up g13.g h_form
        have h_draws := up g13.g h_draws
        have h_at := up g13.g h_at
        have h_cell := up g13.g h_cell
        have h_3 := up g13.g h_3
        have gr := gr.trans g13
        replace hM := condF hM hb14
        unfold m__law_argument_9 at hM
        refine s_next ?_
        refine nx_mk ?_
        refine q_if gr.s (et_test (ev_eq (ev_var rfl h_form) ev_str)) ?_ ?_
        · intro hb20 G21 H22 g19
          have h_form := up g19.g h_form
          have h_draws := up g19.g h_draws
          have h_at := up g19.g h_at
          have h_cell := up g19.g h_cell
          have h_3 := up g19.g h_3
          have gr := gr.trans g19
          replace hM := condT hM hb20
          unfold m__law_argument_3 at hM
          refine s_ret (K := K) gr.s (ev_toD (ev_ixL (ev_lst (ea_cons ev_int (ea_cons ev_int (ea_cons (ev_mod (ev_var rfl h_3) ev_int (by first | (first | exact at_m (Nat.succ_pos _) | exact Nat.le_trans fx (by decide) | exact Nat.le_trans (Nat.add_le_add_right fx _) (by decide +kernel) | exact ⟨by decide, by decide, by rw [len_app]; exact Nat.le_trans (Nat.mul_le_mul_right _ (Nat.add_le_add_right fx _)) (by decide +kernel)⟩ | exact at_in hpre.2.1 (by have := hpre.1; have := hpre.2.2; omega) | decide) | (first | omega | decide | (show _ ≤ sizeLine; decide) | (show _ < sizeLine; decide)))) ea_nil))) (by first | (first | exact at_m (Nat.succ_pos _) | exact Nat.le_trans fx (by decide) | exact Nat.le_trans (Nat.add_le_add_right fx _) (by decide +kernel) | exact ⟨by decide, by decide, by rw [len_app]; exact Nat.le_trans (Nat.mul_le_mul_right _ (Nat.add_le_add_right fx _)) (by decide +kernel)⟩ | exact at_in hpre.2.1 (by have := hpre.1; have := hpre.2.2; omega) | decide) | (first | (show _ ≤ sizeLine; decide) | (simp only [List.length_cons, List.length_nil, List.length_append, sizeLine_eq]; omega) | (fail)))) (ev_mod (ev_fdiv (ev_var rfl h_3) ev_int ⟨(by first | (first | exact at_m (Nat.succ_pos _) | exact Nat.le_trans fx (by decide) | exact Nat.le_trans (Nat.add_le_add_right fx _) (by decide +kernel) | exact ⟨by decide, by decide, by rw [len_app]; exact Nat.le_trans (Nat.mul_le_mul_right _ (Nat.add_le_add_right fx _)) (by decide +kernel)⟩ | exact at_in hpre.2.1 (by have := hpre.1; have := hpre.2.2; omega) | decide) | (first | omega | decide | (show _ ≤ sizeLine; decide) | (show _ < sizeLine; decide))), (by first | (first | exact at_m (Nat.succ_pos _) | exact Nat.le_trans fx (by decide) | exact Nat.le_trans (Nat.add_le_add_right fx _) (by decide +kernel) | exact ⟨by decide, by decide, by rw [len_app]; exact Nat.le_trans (Nat.mul_le_mul_right _ (Nat.add_le_add_right fx _)) (by decide +kernel)⟩ | exact at_in hpre.2.1 (by have := hpre.1; have := hpre.2.2; omega) | decide) | (first | omega | decide | (show _ ≤ sizeLine; decide) | (show _ < sizeLine; decide)))⟩) ev_int (by first | (first | exact at_m (Nat.succ_pos _) | exact Nat.le_trans fx (by decide) | exact Nat.le_trans (Nat.add_le_add_right fx _) (by decide +kernel) | exact ⟨by decide, by decide, by rw [len_app]; exact Nat.le_trans (Nat.mul_le_mul_right _ (Nat.add_le_add_right fx _)) (by decide +kernel)⟩ | exact at_in hpre.2.1 (by have := hpre.1; have := hpre.2.2; omega) | decide) | (first | omega | decide | (show _ ≤ sizeLine; decide) | (show _ < sizeLine; decide)))) (atI_get (by first | (first | exact at_m (Nat.succ_pos _) | exact Nat.le_trans fx (by decide) | exact Nat.le_trans (Nat.add_le_add_right fx _) (by decide +kernel) | exact ⟨by decide, by decide, by rw [len_app]; exact Nat.le_trans (Nat.mul_le_mul_right _ (Nat.add_le_add_right fx _)) (by decide +kernel)⟩ | exact at_in hpre.2.1 (by have := hpre.1; have := hpre.2.2; omega) | decide) | (first | decide | (refine at_in ?_ ?_ <;> omega) | (refine at_neg ?_ ?_ <;> omega)))))) fun u Gr Hr gq hu => ?_
          exact hQ u Gr Hr (gr.trans gq) (by rw [hM]; exact hu)
        · intro hb20 G23 H24 g19
          have h_form := up g19.g h_form
          have h_draws := up g19.g h_draws
          have h_at := up g19.g h_at
          have h_cell := up g19.g h_cell
          have h_3 := up g19.g h_3
          have gr := gr.trans g19
          replace hM := condF hM hb20
          unfold m__law_argument_8 at hM
          refine s_next ?_
          refine nx_mk ?_
          refine q_if gr.s (et_test (ev_eq (ev_var rfl h_form) ev_str)) ?_ ?_
          · intro hb26 G27 H28 g25
            have h_form := up g25.g h_form
            have h_draws := up g25.g h_draws
            have h_at := up g25.g h_at
            have h_cell := up g25.g h_cell
            have h_3 := up g25.g h_3
            have gr := gr.trans g25
            replace hM := condT hM hb26
            unfold m__law_argument_4 at hM
            refine s_ret (K := K) gr.s (ev_toD (ev_ixL (ev_lst (ea_cons ev_int (ea_cons ev_int (ea_cons (ev_mod (ev_var rfl h_3) ev_int (by first | (first | exact at_m (Nat.succ_pos _) | exact Nat.le_trans fx (by decide) | exact Nat.le_trans (Nat.add_le_add_right fx _) (by decide +kernel) | exact ⟨by decide, by decide, by rw [len_app]; exact Nat.le_trans (Nat.mul_le_mul_right _ (Nat.add_le_add_right fx _)) (by decide +kernel)⟩ | exact at_in hpre.2.1 (by have := hpre.1; have := hpre.2.2; omega) | decide) | (first | omega | decide | (show _ ≤ sizeLine; decide) | (show _ < sizeLine; decide)))) ea_nil))) (by first | (first | exact at_m (Nat.succ_pos _) | exact Nat.le_trans fx (by decide) | exact Nat.le_trans (Nat.add_le_add_right fx _) (by decide +kernel) | exact ⟨by decide, by decide, by rw [len_app]; exact Nat.le_trans (Nat.mul_le_mul_right _ (Nat.add_le_add_right fx _)) (by decide +kernel)⟩ | exact at_in hpre.2.1 (by have := hpre.1; have := hpre.2.2; omega) | decide) | (first | (show _ ≤ sizeLine; decide) | (simp only [List.length_cons, List.length_nil, List.length_append, sizeLine_eq]; omega) | (fail)))) (ev_mod (ev_fdiv (ev_var rfl h_3) ev_int ⟨(by first | (first | exact at_m (Nat.succ_pos _) | exact Nat.le_trans fx (by decide) | exact Nat.le_trans (Nat.add_le_add_right fx _) (by decide +kernel) | exact ⟨by decide, by decide, by rw [len_app]; exact Nat.le_trans (Nat.mul_le_mul_right _ (Nat.add_le_add_right fx _)) (by decide +kernel)⟩ | exact at_in hpre.2.1 (by have := hpre.1; have := hpre.2.2; omega) | decide) | (first | omega | decide | (show _ ≤ sizeLine; decide) | (show _ < sizeLine; decide))), (by first | (first | exact at_m (Nat.succ_pos _) | exact Nat.le_trans fx (by decide) | exact Nat.le_trans (Nat.add_le_add_right fx _) (by decide +kernel) | exact ⟨by decide, by decide, by rw [len_app]; exact Nat.le_trans (Nat.mul_le_mul_right _ (Nat.add_le_add_right fx _)) (by decide +kernel)⟩ | exact at_in hpre.2.1 (by have := hpre.1; have := hpre.2.2; omega) | decide) | (first | omega | decide | (show _ ≤ sizeLine; decide) | (show _ < sizeLine; decide)))⟩) ev_int (by first | (first | exact at_m (Nat.succ_pos _) | exact Nat.le_trans fx (by decide) | exact Nat.le_trans (Nat.add_le_add_right fx _) (by decide +kernel) | exact ⟨by decide, by decide, by rw [len_app]; exact Nat.le_trans (Nat.mul_le_mul_right _ (Nat.add_le_add_right fx _)) (by decide +kernel)⟩ | exact at_in hpre.2.1 (by have := hpre.1; have := hpre.2.2; omega) | decide) | (first | omega | decide | (show _ ≤ sizeLine; decide) | (show _ < sizeLine; decide)))) (atI_get (by first | (first | exact at_m (Nat.succ_pos _) | exact Nat.le_trans fx (by decide) | exact Nat.le_trans (Nat.add_le_add_right fx _) (by decide +kernel) | exact ⟨by decide, by decide, by rw [len_app]; exact Nat.le_trans (Nat.mul_le_mul_right _ (Nat.add_le_add_right fx _)) (by decide +kernel)⟩ | exact at_in hpre.2.1 (by have := hpre.1; have := hpre.2.2; omega) | decide) | (first | decide | (refine at_in ?_ ?_ <;> omega) | (refine at_neg ?_ ?_ <;> omega)))))) fun u Gr Hr gq hu => ?_
            exact hQ u Gr Hr (gr.trans gq) (by rw [hM]; exact hu)
          · intro hb26 G29 H30 g25
            have h_form := up g25.g h_form
            have h_draws := up g25.g h_draws
            have h_at := up g25.g h_at
            have h_cell := up g25.g h_cell
            have h_3 := up g25.g h_3
            have gr := gr.trans g25
            replace hM := condF hM hb26
            unfold m__law_argument_7 at hM
            refine s_next ?_
            refine nx_mk ?_
            refine q_if gr.s (et_test (ev_eq (ev_var rfl h_form) ev_str)) ?_ ?_
            · intro hb32 G33 H34 g31
              have h_form := up g31.g h_form
              have h_draws := up g31.g h_draws
              have h_at := up g31.g h_at
              have h_cell := up g31.g h_cell
              have h_3 := up g31.g h_3
              have gr := gr.trans g31
              replace hM := condT hM hb32
              refine s_ret (K := K) gr.s (ev_toD (ev_eq (ev_mod (ev_var rfl h_3) ev_int (by first | (first | exact at_m (Nat.succ_pos _) | exact Nat.le_trans fx (by decide) | exact Nat.le_trans (Nat.add_le_add_right fx _) (by decide +kernel) | exact ⟨by decide, by decide, by rw [len_app]; exact Nat.le_trans (Nat.mul_le_mul_right _ (Nat.add_le_add_right fx _)) (by decide +kernel)⟩ | exact at_in hpre.2.1 (by have := hpre.1; have := hpre.2.2; omega) | decide) | (first | omega | decide | (show _ ≤ sizeLine; decide) | (show _ < sizeLine; decide)))) ev_int)) fun u Gr Hr gq hu => ?_
              exact hQ u Gr Hr (gr.trans gq) (by rw [hM]; exact hu)
            · intro hb32 G35 H36 g31
              have h_form := up g31.g h_form
              have h_draws := up g31.g h_draws
              have h_at := up g31.g h_at
              have h_cell := up g31.g h_cell
              have h_3 := up g31.g h_3
              have gr := gr.trans g31
              replace hM := condF hM hb32
              refine s_next ?_
              refine nx_mk ?_
              refine q_asg (K := K) gr.s (ev_call2 (ev_var rfl h_cell) ev_int (by first | (first | exact at_m (Nat.succ_pos _) | exact Nat.le_trans fx (by decide) | exact Nat.le_trans (Nat.add_le_add_right fx _) (by decide +kernel) | exact ⟨by decide, by decide, by rw [len_app]; exact Nat.le_trans (Nat.mul_le_mul_right _ (Nat.add_le_add_right fx _)) (by decide +kernel)⟩ | exact at_in hpre.2.1 (by have := hpre.1; have := hpre.2.2; omega) | decide) | (first | omega | decide))) fun w_38 G41 H42 g40 (h_39 : rep K (m__law_text d_cell (40 : Int)) w_38 G41) => ?_
              have h_form := up g40.g h_form
              have h_draws := up g40.g h_draws
              have h_at := up g40.g h_at
              have h_cell := up g40.g h_cell
              have h_3 := up g40.g h_3
              have gr := gr.trans g40
              generalize ed_37 : (m__law_text d_cell (40 : Int)) = d_37 at h_39 hM
              unfold m__law_argument_6 at hM
              try (have fy : d_37.length ≤ 40 := by rw [← ed_37]; exact (lab_text _).n)
              have fx : d_37.length ≤ 1000 := by first | exact Nat.le_trans fy (by decide) | (rw [← ed_37, mulS_len, len_app]; exact Nat.le_trans (Nat.mul_le_mul_right _ (Nat.add_le_add_right fy _)) (by decide))
              refine q_if gr.s (et_and (et_test (ev_eq (ev_var rfl h_form) ev_str)) (fun hb43 => (et_test (ev_eq (ev_mod (ev_var rfl h_3) ev_int (by first | (first | exact at_m (Nat.succ_pos _) | exact Nat.le_trans fx (by decide) | exact Nat.le_trans (Nat.add_le_add_right fx _) (by decide +kernel) | exact ⟨by decide, by decide, by rw [len_app]; exact Nat.le_trans (Nat.mul_le_mul_right _ (Nat.add_le_add_right fx _)) (by decide +kernel)⟩ | exact at_in hpre.2.1 (by have := hpre.1; have := hpre.2.2; omega) | decide) | (first | omega | decide | (show _ ≤ sizeLine; decide) | (show _ < sizeLine; decide)))) ev_int)))) ?_ ?_
              · intro hb46 G47 H48 g45
                have h_form := up g45.g h_form
                have h_draws := up g45.g h_draws
                have h_at := up g45.g h_at
                have h_cell := up g45.g h_cell
                have h_3 := up g45.g h_3
                have h_39 := up g45.g h_39
                have gr := gr.trans g45
                replace hM := condT hM hb46
                refine s_asg (K := K) gr.s (ev_repS (ev_addS (ev_var rfl h_39) ev_str (by first | (first | exact at_m (Nat.succ_pos _) | exact Nat.le_trans fx (by decide) | exact Nat.le_trans (Nat.add_le_add_right fx _) (by decide +kernel) | exact ⟨by decide, by decide, by rw [len_app]; exact Nat.le_trans (Nat.mul_le_mul_right _ (Nat.add_le_add_right fx _)) (by decide +kernel)⟩ | exact at_in hpre.2.1 (by have := hpre.1; have := hpre.2.2; omega) | decide) | (first | omega | decide | (show _ ≤ sizeLine; decide) | (show _ < sizeLine; decide)))) ev_int (by first | (first | exact at_m (Nat.succ_pos _) | exact Nat.le_trans fx (by decide) | exact Nat.le_trans (Nat.add_le_add_right fx _) (by decide +kernel) | exact ⟨by decide, by decide, by rw [len_app]; exact Nat.le_trans (Nat.mul_le_mul_right _ (Nat.add_le_add_right fx _)) (by decide +kernel)⟩ | exact at_in hpre.2.1 (by have := hpre.1; have := hpre.2.2; omega) | decide) | (first | omega | decide | (show _ ≤ sizeLine; decide) | (show _ < sizeLine; decide)))) fun w_50 G53 H54 g52 (h_51 : rep K (mulS (d_37 ++ (" ctrl+K \"x\"" : Str)) (3 : Int)) w_50 G53) => ?_
                have h_form := up g52.g h_form
                have h_draws := up g52.g h_draws
                have h_at := up g52.g h_at
                have h_cell := up g52.g h_cell
                have h_3 := up g52.g h_3
                have gr := gr.trans g52
                generalize ed_49 : (mulS (d_37 ++ (" ctrl+K \"x\"" : Str)) (3 : Int)) = d_49 at h_51 hM
                unfold m__law_argument_5 at hM
                try (have fy : d_49.length ≤ 40 := by rw [← ed_49]; exact (lab_text _).n)
                have fx : d_49.length ≤ 1000 := by first | exact Nat.le_trans fy (by decide) | (rw [← ed_49, mulS_len, len_app]; exact Nat.le_trans (Nat.mul_le_mul_right _ (Nat.add_le_add_right fy _)) (by decide))
                refine nx_mk ?_
                refine s_ret (K := K) gr.s (ev_toD (ev_slS (ev_var rfl h_51) eo_none (eo_some ev_int) (by first | (first | exact at_m (Nat.succ_pos _) | exact Nat.le_trans fx (by decide) | exact Nat.le_trans (Nat.add_le_add_right fx _) (by decide +kernel) | exact ⟨by decide, by decide, by rw [len_app]; exact Nat.le_trans (Nat.mul_le_mul_right _ (Nat.add_le_add_right fx _)) (by decide +kernel)⟩ | exact at_in hpre.2.1 (by have := hpre.1; have := hpre.2.2; omega) | decide) | (first | omega | decide | (show _ ≤ sizeLine; decide) | (show _ < sizeLine; decide))))) fun u Gr Hr gq hu => ?_
                exact hQ u Gr Hr (gr.trans gq) (by rw [hM]; exact hu)
              · intro hb46 G55 H56 g45
                have h_form := up g45.g h_form
                have h_draws := up g45.g h_draws
                have h_at := up g45.g h_at
                have h_cell := up g45.g h_cell
                have h_3 := up g45.g h_3
                have h_39 := up g45.g h_39
                have gr := gr.trans g45
                replace hM := condF hM hb46
                refine s_next ?_
                refine nx_mk ?_
                refine s_ret (K := K) gr.s (ev_toD (ev_slS (ev_var rfl h_39) eo_none (eo_some ev_int) (by first | (first | exact at_m (Nat.succ_pos _) | exact Nat.le_trans fx (by decide) | exact Nat.le_trans (Nat.add_le_add_right fx _) (by decide +kernel) | exact ⟨by decide, by decide, by rw [len_app]; exact Nat.le_trans (Nat.mul_le_mul_right _ (Nat.add_le_add_right fx _)) (by decide +kernel)⟩ | exact at_in hpre.2.1 (by have := hpre.1; have := hpre.2.2; omega) | decide) | (first | omega | decide | (show _ ≤ sizeLine; decide) | (show _ < sizeLine; decide))))) fun u Gr Hr gq hu => ?_
                exact hQ u Gr Hr (gr.trans gq) (by rw [hM]; exact hu)
/-! #### _law_any_deed -/

theorem words_perm : WORDSD.Perm (m__law_forms.l.map (·.1)) ∧ sortedS WORDSD = true ∧ (m__law_forms.l.map (·.1)).length < 64 := by decide +kernel
theorem w_in {l : List Str} (n : Int) (e : WORDSD = l) : getI l (n % (l.length : Int)) ∈ WORDSD := by
  subst e
  exact g_mem (by decide)
theorem tab_ok {t : Dct} {w : Str} (e : m__law_forms = t) (h : w ∈ WORDSD) : (tabGet t.l w).isSome = true ∧ ((tabGet t.l w).getD Str.empty).length ≤ 5 := by
  subst e
  obtain ⟨F, e, l, _⟩ := word_F h
  show (tabGet FORMSL w).isSome = true ∧ ((tabGet FORMSL w).getD Str.empty).length ≤ 5
  rw [e]
  exact ⟨rfl, l⟩

def m__law_any_deed_1 (d_cell : Int) (d_1 : (List Int)) (d_7 : Dct) (d_19 : Str) : (Tpl PyData) := (Tpl.mk (((Tpl.mk ((PyData.str d_19) :: ([] : List PyData)))).l ++ ((Tpl.mk (List.map (fun d_25 => (m__law_argument (getS ((tabGet (d_7).l d_19).getD Str.empty) d_25) d_1 ((1 : Int) + d_25) (d_cell + d_25))) (rgs 0 ((((tabGet (d_7).l d_19).getD Str.empty)).length : Int))))).l))
def m__law_any_deed_2 (d_cell : Int) (d_1 : (List Int)) (d_7 : Dct) (d_13 : (List Str)) : (Tpl PyData) := (m__law_any_deed_1 d_cell d_1 d_7 (getI d_13 ((getI d_1 (0 : Int)) % ((d_13).length : Int))))
def m__law_any_deed_3 (d_cell : Int) (d_1 : (List Int)) (d_7 : Dct) : (Tpl PyData) := (m__law_any_deed_2 d_cell d_1 d_7 WORDSD)
def m__law_any_deed_4 (d_cell : Int) (d_1 : (List Int)) : (Tpl PyData) := (m__law_any_deed_3 d_cell d_1 m__law_forms)
def m__law_any_deed (d_cell : Int) : (Tpl PyData) := (m__law_any_deed_4 d_cell (m__law_draws d_cell (9 : Int)))
abbrev p__law_any_deed (K : PySem.W.Frag) : Sp := sp1 K (fun _ => True) m__law_any_deed
theorem ok__law_any_deed (T : Tx w K mg base A) : FnOk P w K mg base CX0 4 A.f__law_any_deed A.d__law_any_deed ["cell"] (p__law_any_deed K) := by
  refine T.F__law_any_deed.ok sc__law_any_deed (fun vs He Q E h => ?_) (fun cdv A0 outer s He vs Q E hr h => ⟨_, (pss_cons (ps_set (i := 1) sc__law_any_deed.nd rfl (Or.inr rfl) (pe_call (ok__law_draws T) (hr.mono (by decide)) rfl T.g__law_draws T.F__law_draws.kp T.b__law_draws .nil pass0 (pa_cons (pv 0) (pa_cons pe_int pa_nil)))) (pss_cons (ps_set (i := 2) sc__law_any_deed.nd rfl (Or.inr rfl) (pe_call0 (ok__law_forms T) (hr.mono (by decide)) rfl T.g__law_forms T.F__law_forms.kp T.b__law_forms .nil pass0)) (pss_cons (ps_set (i := 3) sc__law_any_deed.nd rfl (Or.inl rfl) (pe_callB (cr_sortedSK (K := K)) rfl T.n_sorted (by decide +kernel) (pa_cons (pe_callTy (call_list_dK rfl) rfl T.n_list boot_list (pa_cons (pv 2) pa_nil)) pa_nil))) (pss_cons (ps_set (i := 4) sc__law_any_deed.nd rfl (Or.inr rfl) (pe_ix (ix_listK (K := K)) (pv 3) (pe_op op_mod (pe_callTy call_int1 rfl T.n_int boot_int (pa_cons (pe_ix (ix_listK (K := K)) (pv 1) pe_int fun _ _ => rfl) pa_nil)) (pe_callB (call_lenK (K := K)) rfl T.n_len boot_len (pa_cons (pv 3) pa_nil))) fun _ _ => rfl)) (pss_one (ps_ret (pe_op (op_catTK (K := K)) (pe_tup (pa_cons (pv 4) pa_nil)) (pe_callTy (call_tupleK (K := K)) rfl T.n_tuple boot_tuple (pa_cons (pe_lc (own := [("k", 5)]) (g := gName 5) (tt := tYes) rfl sc__law_any_deed.nd (pi_range1 rfl T.n_range (pa_cons (pe_callB (call_lenK (K := K)) rfl T.n_len boot_len (pa_cons (pe_dget (hu_ofU hr) (pv 2) (pv 4) fun _ _ => rfl) pa_nil)) pa_nil)) (blkOk_by (N := n__law_any_deed) (sc := defScope s__law_any_deed) (by decide +kernel)) (fun _ _ _ _ _ => pg_name (i := 5) sc__law_any_deed.nd rfl (Or.inl rfl)) (fun _ _ _ _ _ => pts_nil) (fun _ _ _ _ _ => (pe_call (ok__law_argument T) (hr.mono (by decide)) rfl T.g__law_argument T.F__law_argument.kp T.b__law_argument .nil pass0 (pa_cons (pe_ix ix_str (pe_dget (hu_ofU hr) (pv 2) (pv 4) fun _ _ => rfl) (pv 5) fun _ _ => rfl) (pa_cons (pv 1) (pa_cons (pe_op op_add pe_int (pv 5)) (pa_cons (pe_op op_add (pv 0) (pv 5)) pa_nil))))))) pa_nil))))))))), ?_⟩)
  · obtain ⟨d_cell, w_cell, G, rfl, eG, h_cell, hpre, hQ⟩ := h
    rfl
  · obtain ⟨d_cell, w_cell, G, rfl, eG, h_cell, hpre, hQ⟩ := h
    have gr : Grow G He G He := Grow.refl eG
    obtain ⟨Ge, eGe⟩ : ∃ z, z = G := ⟨G, rfl⟩
    have gr : Grow Ge He G He := by rw [eGe]; exact gr
    rw [← eGe] at hQ
    clear eGe
    have hM : m__law_any_deed d_cell = (m__law_any_deed_4 d_cell (m__law_draws d_cell (9 : Int))) := rfl
    refine q_asg (K := K) gr.s (ev_call2 (ev_var rfl h_cell) ev_int (by first | (first | exact (ed_7 ▸ words_perm) | exact at_in (Int.le_refl 0) (by omega) | (rw [← ed_13]; decide) | exact at_m (by rw [← ed_13]; decide) | exact ft.1 | exact Nat.le_trans ft.2 (by decide) | exact ⟨by have := ft.2; omega, by omega⟩ | exact at_txt (by assumption) (by assumption) | exact ⟨fd, by omega, by have := ft.2; omega⟩ | (rw [List.length_map, rgs_len]; have := ft.2; exact Nat.le_trans (show _ ≤ 100 by simp only [List.length_cons, List.length_nil]; omega) (by decide))) | (first | omega | decide))) fun w_2 G5 H6 g4 (h_3 : rep K (m__law_draws d_cell (9 : Int)) w_2 G5) => ?_
    have h_cell := up g4.g h_cell
    have gr := gr.trans g4
    generalize ed_1 : (m__law_draws d_cell (9 : Int)) = d_1 at h_3 hM
    unfold m__law_any_deed_4 at hM
    have fd : d_1.length = 9 := by rw [← ed_1]; exact draws_len _ (by decide)
    refine q_asg (K := K) gr.s ev_call0 fun w_8 G11 H12 g10 (h_9 : rep K m__law_forms w_8 G11) => ?_
    have h_cell := up g10.g h_cell
    have h_3 := up g10.g h_3
    have gr := gr.trans g10
    generalize ed_7 : m__law_forms = d_7 at h_9 hM
    unfold m__law_any_deed_3 at hM
    refine q_asg (K := K) gr.s (ev_sortS (zs := WORDSD) (ev_dctKeys (ev_var rfl h_9)) (by first | (first | exact (ed_7 ▸ words_perm) | exact at_in (Int.le_refl 0) (by omega) | (rw [← ed_13]; decide) | exact at_m (by rw [← ed_13]; decide) | exact ft.1 | exact Nat.le_trans ft.2 (by decide) | exact ⟨by have := ft.2; omega, by omega⟩ | exact at_txt (by assumption) (by assumption) | exact ⟨fd, by omega, by have := ft.2; omega⟩ | (rw [List.length_map, rgs_len]; have := ft.2; exact Nat.le_trans (show _ ≤ 100 by simp only [List.length_cons, List.length_nil]; omega) (by decide))) | (first | omega | decide))) fun w_14 G17 H18 g16 (h_15 : rep K WORDSD w_14 G17) => ?_
    have h_cell := up g16.g h_cell
    have h_3 := up g16.g h_3
    have h_9 := up g16.g h_9
    have gr := gr.trans g16
    generalize ed_13 : WORDSD = d_13 at h_15 hM
    unfold m__law_any_deed_2 at hM
    refine q_asg (K := K) gr.s (ev_ixL (ev_var rfl h_15) (ev_mod (ev_int1 (ev_ixL (ev_var rfl h_3) ev_int (atI_get (by first | (first | exact (ed_7 ▸ words_perm) | exact at_in (Int.le_refl 0) (by omega) | (rw [← ed_13]; decide) | exact at_m (by rw [← ed_13]; decide) | exact ft.1 | exact Nat.le_trans ft.2 (by decide) | exact ⟨by have := ft.2; omega, by omega⟩ | exact at_txt (by assumption) (by assumption) | exact ⟨fd, by omega, by have := ft.2; omega⟩ | (rw [List.length_map, rgs_len]; have := ft.2; exact Nat.le_trans (show _ ≤ 100 by simp only [List.length_cons, List.length_nil]; omega) (by decide))) | (first | decide | (refine at_in ?_ ?_ <;> omega) | (refine at_neg ?_ ?_ <;> omega)))))) (ev_lenL (ev_var rfl h_15)) (by first | (first | exact (ed_7 ▸ words_perm) | exact at_in (Int.le_refl 0) (by omega) | (rw [← ed_13]; decide) | exact at_m (by rw [← ed_13]; decide) | exact ft.1 | exact Nat.le_trans ft.2 (by decide) | exact ⟨by have := ft.2; omega, by omega⟩ | exact at_txt (by assumption) (by assumption) | exact ⟨fd, by omega, by have := ft.2; omega⟩ | (rw [List.length_map, rgs_len]; have := ft.2; exact Nat.le_trans (show _ ≤ 100 by simp only [List.length_cons, List.length_nil]; omega) (by decide))) | (first | omega | decide | (show _ ≤ sizeLine; decide) | (show _ < sizeLine; decide)))) (atI_get (by first | (first | exact (ed_7 ▸ words_perm) | exact at_in (Int.le_refl 0) (by omega) | (rw [← ed_13]; decide) | exact at_m (by rw [← ed_13]; decide) | exact ft.1 | exact Nat.le_trans ft.2 (by decide) | exact ⟨by have := ft.2; omega, by omega⟩ | exact at_txt (by assumption) (by assumption) | exact ⟨fd, by omega, by have := ft.2; omega⟩ | (rw [List.length_map, rgs_len]; have := ft.2; exact Nat.le_trans (show _ ≤ 100 by simp only [List.length_cons, List.length_nil]; omega) (by decide))) | (first | decide | (refine at_in ?_ ?_ <;> omega) | (refine at_neg ?_ ?_ <;> omega))))) fun w_20 G23 H24 g22 (h_21 : rep K (getI d_13 ((getI d_1 (0 : Int)) % ((d_13).length : Int))) w_20 G23) => ?_
    have h_cell := up g22.g h_cell
    have h_3 := up g22.g h_3
    have h_9 := up g22.g h_9
    have h_15 := up g22.g h_15
    have gr := gr.trans g22
    generalize ed_19 : (getI d_13 ((getI d_1 (0 : Int)) % ((d_13).length : Int))) = d_19 at h_21 hM
    unfold m__law_any_deed_1 at hM
    have fw : d_19 ∈ WORDSD := by rw [← ed_19]; exact w_in _ ed_13
    have ft := tab_ok ed_7 fw
    refine s_ret (K := K) gr.s (ev_catT (ev_tpl (ea_cons (ev_toD (ev_var rfl h_21)) ea_nil) (by first | (show _ ≤ sizeLine; decide) | (simp only [List.length_cons, List.length_nil, sizeLine_eq]; omega))) (ev_tupleL (ev_lcR1m (fun d_25 => (m__law_argument (getS ((tabGet (d_7).l d_19).getD Str.empty) d_25) d_1 ((1 : Int) + d_25) (d_cell + d_25))) (ev_lenS (ev_dctGet (ev_var rfl h_9) (ev_var rfl h_21) (by first | (first | exact (ed_7 ▸ words_perm) | exact at_in (Int.le_refl 0) (by omega) | (rw [← ed_13]; decide) | exact at_m (by rw [← ed_13]; decide) | exact ft.1 | exact Nat.le_trans ft.2 (by decide) | exact ⟨by have := ft.2; omega, by omega⟩ | exact at_txt (by assumption) (by assumption) | exact ⟨fd, by omega, by have := ft.2; omega⟩ | (rw [List.length_map, rgs_len]; have := ft.2; exact Nat.le_trans (show _ ≤ 100 by simp only [List.length_cons, List.length_nil]; omega) (by decide))) | (first | assumption | (first | omega | decide)))) (by first | (first | exact (ed_7 ▸ words_perm) | exact at_in (Int.le_refl 0) (by omega) | (rw [← ed_13]; decide) | exact at_m (by rw [← ed_13]; decide) | exact ft.1 | exact Nat.le_trans ft.2 (by decide) | exact ⟨by have := ft.2; omega, by omega⟩ | exact at_txt (by assumption) (by assumption) | exact ⟨fd, by omega, by have := ft.2; omega⟩ | (rw [List.length_map, rgs_len]; have := ft.2; exact Nat.le_trans (show _ ≤ 100 by simp only [List.length_cons, List.length_nil]; omega) (by decide))) | (first | omega | decide | (show _ ≤ sizeLine; decide) | (show _ < sizeLine; decide)))) (by first | (first | exact (ed_7 ▸ words_perm) | exact at_in (Int.le_refl 0) (by omega) | (rw [← ed_13]; decide) | exact at_m (by rw [← ed_13]; decide) | exact ft.1 | exact Nat.le_trans ft.2 (by decide) | exact ⟨by have := ft.2; omega, by omega⟩ | exact at_txt (by assumption) (by assumption) | exact ⟨fd, by omega, by have := ft.2; omega⟩ | (rw [List.length_map, rgs_len]; have := ft.2; exact Nat.le_trans (show _ ≤ 100 by simp only [List.length_cons, List.length_nil]; omega) (by decide))) | (first | omega | decide | (show _ ≤ sizeLine; decide) | (show _ < sizeLine; decide))) (fun d_25 G_ H_ lo31 hi32 sg28 sh_ P k => by have h_cell := up sg28 h_cell; have h_3 := up sg28 h_3; have h_9 := up sg28 h_9; have h_21 := up sg28 h_21; have h_27 : rep K d_25 (V.int d_25) G_ := rfl; exact k _ rfl eb_yes (fun hc29 => (ev_call4 (ev_ixS (ev_dctGet (ev_var rfl h_9) (ev_var rfl h_21) (by first | (first | exact (ed_7 ▸ words_perm) | exact at_in (Int.le_refl 0) (by omega) | (rw [← ed_13]; decide) | exact at_m (by rw [← ed_13]; decide) | exact ft.1 | exact Nat.le_trans ft.2 (by decide) | exact ⟨by have := ft.2; omega, by omega⟩ | exact at_txt (by assumption) (by assumption) | exact ⟨fd, by omega, by have := ft.2; omega⟩ | (rw [List.length_map, rgs_len]; have := ft.2; exact Nat.le_trans (show _ ≤ 100 by simp only [List.length_cons, List.length_nil]; omega) (by decide))) | (first | assumption | (first | omega | decide)))) (ev_var rfl h_27) (by first | (first | exact (ed_7 ▸ words_perm) | exact at_in (Int.le_refl 0) (by omega) | (rw [← ed_13]; decide) | exact at_m (by rw [← ed_13]; decide) | exact ft.1 | exact Nat.le_trans ft.2 (by decide) | exact ⟨by have := ft.2; omega, by omega⟩ | exact at_txt (by assumption) (by assumption) | exact ⟨fd, by omega, by have := ft.2; omega⟩ | (rw [List.length_map, rgs_len]; have := ft.2; exact Nat.le_trans (show _ ≤ 100 by simp only [List.length_cons, List.length_nil]; omega) (by decide))) | (first | omega | decide | (show _ ≤ sizeLine; decide) | (show _ < sizeLine; decide))) (atI_get (by first | (first | exact (ed_7 ▸ words_perm) | exact at_in (Int.le_refl 0) (by omega) | (rw [← ed_13]; decide) | exact at_m (by rw [← ed_13]; decide) | exact ft.1 | exact Nat.le_trans ft.2 (by decide) | exact ⟨by have := ft.2; omega, by omega⟩ | exact at_txt (by assumption) (by assumption) | exact ⟨fd, by omega, by have := ft.2; omega⟩ | (rw [List.length_map, rgs_len]; have := ft.2; exact Nat.le_trans (show _ ≤ 100 by simp only [List.length_cons, List.length_nil]; omega) (by decide))) | (first | decide | (refine at_in ?_ ?_ <;> omega) | (refine at_neg ?_ ?_ <;> omega))))) (ev_var rfl h_3) (ev_add ev_int (ev_var rfl h_27)) (ev_add (ev_var rfl h_cell) (ev_var rfl h_27)) (by first | (first | exact (ed_7 ▸ words_perm) | exact at_in (Int.le_refl 0) (by omega) | (rw [← ed_13]; decide) | exact at_m (by rw [← ed_13]; decide) | exact ft.1 | exact Nat.le_trans ft.2 (by decide) | exact ⟨by have := ft.2; omega, by omega⟩ | exact at_txt (by assumption) (by assumption) | exact ⟨fd, by omega, by have := ft.2; omega⟩ | (rw [List.length_map, rgs_len]; have := ft.2; exact Nat.le_trans (show _ ≤ 100 by simp only [List.length_cons, List.length_nil]; omega) (by decide))) | (first | omega | decide))))))) (by first | (first | exact (ed_7 ▸ words_perm) | exact at_in (Int.le_refl 0) (by omega) | (rw [← ed_13]; decide) | exact at_m (by rw [← ed_13]; decide) | exact ft.1 | exact Nat.le_trans ft.2 (by decide) | exact ⟨by have := ft.2; omega, by omega⟩ | exact at_txt (by assumption) (by assumption) | exact ⟨fd, by omega, by have := ft.2; omega⟩ | (rw [List.length_map, rgs_len]; have := ft.2; exact Nat.le_trans (show _ ≤ 100 by simp only [List.length_cons, List.length_nil]; omega) (by decide))) | (first | omega | decide | (show _ ≤ sizeLine; decide) | (show _ < sizeLine; decide)))) fun u Gr Hr gq hu => ?_
    exact hQ u Gr Hr (gr.trans gq) (by rw [hM]; exact hu)
/-! #### _law_line -/
def m__law_line_1 (d_35 : (List Str)) : ((List Str)) := d_35
def m__law_line_2 (d_deed : (Tpl PyData)) (d_22 : (List Str)) (d_14 : Int) : ((List Str)) := (m__law_line_1 (d_22 ++ [((("\"" : Str) ++ (Txt.replace (Txt.replace (strD (getI (d_deed).l ((1 : Int) + d_14))) ("\\" : Str) ("\\\\" : Str)) ("\"" : Str) ("\\\"" : Str))) ++ ("\"" : Str))]))
def m__law_line_3 (d_49 : (List Str)) : ((List Str)) := d_49
def m__law_line_4 (d_deed : (Tpl PyData)) (d_1 : Str) (d_22 : (List Str)) (d_14 : Int) : ((List Str)) := (m__law_line_3 (d_22 ++ [(cond (eqB (getS d_1 d_14) ("B" : Str)) (getI (("polite" : Str) :: (("assertive" : Str) :: ([] : List Str))) (if (boolD (getI (d_deed).l ((1 : Int) + d_14))) = true then (1 : Int) else 0)) (strOfD (getI (d_deed).l ((1 : Int) + d_14))))]))
def m__law_line_5 (d_deed : (Tpl PyData)) (d_1 : Str) (d_22 : (List Str)) (d_14 : Int) : ((List Str)) := (cond (inS (getS d_1 d_14) ("LT" : Str)) (m__law_line_2 d_deed d_22 d_14) (m__law_line_4 d_deed d_1 d_22 d_14))
def m__law_line_6 (d_deed : (Tpl PyData)) (d_1 : Str) (s : (List Str)) (d_14 : Int) : ((List Str)) := m__law_line_5 d_deed d_1 s (d_14)
def m__law_line_7  (s : (List Str)) : Str := (Txt.join (" " : Str) s)
def m__law_line_8 (d_deed : (Tpl PyData)) (d_1 : Str) (d_7 : (List Str)) : Str := (m__law_line_7 (List.foldl (m__law_line_6 d_deed d_1) d_7 (rgs 0 ((d_1).length : Int))))
def m__law_line_9 (d_deed : (Tpl PyData)) (d_1 : Str) : Str := (m__law_line_8 d_deed d_1 ((strD (getI (d_deed).l (0 : Int))) :: ([] : List Str)))
def m__law_line (d_deed : (Tpl PyData)) : Str := (m__law_line_9 d_deed ((tabGet (m__law_forms).l (strD (getI (d_deed).l (0 : Int)))).getD Str.empty))
abbrev p__law_line (K : PySem.W.Frag) : Sp := sp1 K (fun d => PreL d) m__law_line
section
variable {d : Tpl PyData} {w F : Str} {as : List PyData}
/-! the line, as the law writes it -/
theorem ao_line {c : Str} {a : PyData} (h : AO c a) (s : List Str) : (cond (inS c ("LT" : Str)) (s ++ [((("\"" : Str) ++ (Txt.replace (Txt.replace (strD a) ("\\" : Str) ("\\\\" : Str)) ("\"" : Str) ("\\\"" : Str))) ++ ("\"" : Str))])
    (s ++ [(cond (eqB c ("B" : Str)) (getI (("polite" : Str) :: (("assertive" : Str) :: ([] : List Str))) (if (boolD a) = true then (1 : Int) else 0)) (strOfD a))])) = s ++ [m__written a (formOf c)] := by
  have q (l : Str) : (("\"" : Str) ++ (Txt.replace (Txt.replace l ("\\" : Str) ("\\\\" : Str)) ("\"" : Str) ("\\\"" : Str))) ++ ("\"" : Str) = m_quoted l := tl_inj (by
    rw [TL.tl_append, TL.tl_append, esc_is, tl_q, mq_tl0]
    rfl)
  cases h with
  | @n x h =>
    rw [foN, wrD _ (by decide +kernel) (by decide +kernel), show inS ("N" : Str) ("LT" : Str) = false by decide +kernel, show eqB ("N" : Str) ("B" : Str) = false by decide +kernel]
    rfl
  | @k x h =>
    rw [foK, wrD _ (by decide +kernel) (by decide +kernel), show inS ("K" : Str) ("LT" : Str) = false by decide +kernel, show eqB ("K" : Str) ("B" : Str) = false by decide +kernel]
    rfl
  | i h0 h1 =>
    rw [foI, wrI, show inS ("I" : Str) ("LT" : Str) = false by decide +kernel, show eqB ("I" : Str) ("B" : Str) = false by decide +kernel]
    rfl
  | c h0 h1 =>
    rw [foC, wrC, show inS ("C" : Str) ("LT" : Str) = false by decide +kernel, show eqB ("C" : Str) ("B" : Str) = false by decide +kernel]
    rfl
  | b x =>
    have k : ∀ x : Bool, m__written (.bool x) (formOf "B") = cond x ("assertive" : Str) ("polite" : Str) := by decide +kernel
    rw [k, show inS ("B" : Str) ("LT" : Str) = false by decide +kernel, show eqB ("B" : Str) ("B" : Str) = true by decide +kernel]
    cases x <;> rfl
  | @l t h =>
    rw [foL, (wrQ _).1, q, show inS ("L" : Str) ("LT" : Str) = true by decide +kernel]
    rfl
  | @t t h =>
    rw [foT, (wrQ _).2, q, show inS ("T" : Str) ("LT" : Str) = true by decide +kernel]
    rfl
theorem fold_app {α β : Type} {f : List β → α → List β} (g : α → β) : ∀ (l : List α) (s : List β), (∀ k ∈ l, ∀ s, f s k = s ++ [g k]) → l.foldl f s = s ++ l.map g
  | [], s, _ => (List.append_nil s).symm
  | k :: l, s, h => by
    rw [List.foldl_cons, h k (.head _), fold_app g l _ fun x hx => h x (.tail _ hx), List.map_cons, List.append_assoc]
    rfl
theorem prd_get {α β : Type} [Inhabited α] [Inhabited β] {R : α → β → Prop} {l : List α} {m : List β} (h : Paired R l m) {k : Int} (h0 : 0 ≤ k) (h1 : k < l.length) : R (getI l k) (getI m k) := by
  have hl := h.length
  rw [getI_nat h0 h1, getI_nat h0 (by omega)]
  have hk : k.toNat < l.length := by omega
  generalize k.toNat = i at hk
  clear h0 h1 hl
  induction h generalizing i with
  | nil => cases hk
  | cons h t ih =>
    cases i with
    | zero => exact h
    | succ i => exact ih i (by rw [List.length_cons] at hk; omega)
theorem getI_succ {α : Type} [Inhabited α] (x : α) (l : List α) {k : Int} (h0 : 0 ≤ k) (h1 : k < l.length) : getI (x :: l) (1 + k) = getI l k := by
  rw [getI_nat h0 h1, getI_nat (by omega) (by rw [List.length_cons]; omega), show (1 + k).toNat = k.toNat + 1 by omega]
  rfl
theorem zip_map2 {α β γ : Type} (f : α → β) (g : α → γ) : ∀ l : List α, List.zip (l.map f) (l.map g) = l.map fun x => (f x, g x)
  | [] => rfl
  | x :: l => by
    show (f x, g x) :: List.zip (l.map f) (l.map g) = _
    rw [zip_map2 f g l]
    rfl
theorem LDx.fold (h : LDx d w F as) : List.foldl (m__law_line_6 d F) [strD (getI d.l (0 : Int))] (rgs 0 (F.length : Int)) = pr_ w F as := by
  have k := w_ok h.ao
  have hl : (sgn F).length = F.length := sgn_len F
  have ha : as.length = F.length := k.l1.trans hl
  rw [show strD (getI d.l (0 : Int)) = w by rw [h.e, get0]; rfl]
  rw [fold_app (fun k => m__written (getI as k) (formOf (getS F k)))]
  · show w :: _ = w :: wrsL as ((sgn F).map formOf)
    congr 1
    unfold wrsL
    rw [← pr_map (F := F) formOf]
    conv => rhs; rw [rg_getI as, ha]
    rw [zip_map2, List.map_map]
    rfl
  · intro k hk s
    obtain ⟨h0, h1⟩ := rg_in hk
    have hao := prd_get h.ao h0 (by rw [hl]; exact h1)
    rw [sg_get h0 h1] at hao
    show cond (inS (getS F k) ("LT" : Str)) (s ++ [((("\"" : Str) ++ (Txt.replace (Txt.replace (strD (getI d.l (1 + k))) ("\\" : Str) ("\\\\" : Str)) ("\"" : Str) ("\\\"" : Str))) ++ ("\"" : Str))])
      (s ++ [(cond (eqB (getS F k) ("B" : Str)) (getI (("polite" : Str) :: (("assertive" : Str) :: ([] : List Str))) (if (boolD (getI d.l (1 + k))) = true then (1 : Int) else 0)) (strOfD (getI d.l (1 + k))))]) = _
    rw [h.e, getI_succ _ _ h0 (by omega)]
    exact ao_line hao s
theorem LDx.law (h : LDx d w F as) : m__law_line d = m__line_of d := by
  rw [h.line]
  unfold m__law_line
  rw [show (tabGet (m__law_forms).l (strD (getI d.l (0 : Int)))).getD Str.empty = F by rw [h.e, get0]; show (tabGet FORMSL w).getD Str.empty = F; rw [h.hf]; rfl]
  show Txt.join (" " : Str) (List.foldl (m__law_line_6 d F) [strD (getI d.l (0 : Int))] (rgs 0 (F.length : Int))) = _
  rw [h.fold]

end
theorem ll_open {d : Tpl PyData} {f : Str} (h : PreL d) (e : (tabGet (m__law_forms).l (strD (getI d.l (0 : Int)))).getD Str.empty = f) : ∃ w as, LDx d w f as := by
  obtain ⟨w, F, as, k⟩ := h
  have : (tabGet (m__law_forms).l (strD (getI d.l (0 : Int)))).getD Str.empty = F := by
    rw [k.e, get0]
    show (tabGet FORMSL w).getD Str.empty = F
    rw [k.hf]
    rfl
  rw [this] at e
  exact ⟨w, as, e ▸ k⟩
theorem ll_some {d : Tpl PyData} (h : PreL d) : (tabGet (m__law_forms).l (strD (getI d.l (0 : Int)))).isSome = true := by
  obtain ⟨w, F, as, k⟩ := h
  rw [k.e, get0]
  show (tabGet FORMSL w).isSome = true
  rw [k.hf]
  rfl
section
variable {d : Tpl PyData} {f : Str} {k : Int}
theorem ll_len (h : ∃ w as, LDx d w f as) : f.length ≤ 5 := by
  obtain ⟨w, as, h⟩ := h
  rw [← h.five.2]
  exact h.five.1
theorem ll_at (h : ∃ w as, LDx d w f as) (h0 : 0 ≤ k) (h1 : k < f.length) : (atI d.l ((1 : Int) + k)).isSome = true := by
  obtain ⟨w, as, h⟩ := h
  have hl := (w_ok h.ao).l1
  rw [h.five.2] at hl
  rw [h.e]
  exact at_in (by omega) (by rw [List.length_cons]; omega)
theorem ll_ao (h : ∃ w as, LDx d w f as) (h0 : 0 ≤ k) (h1 : k < f.length) : AO (getS f k) (getI d.l ((1 : Int) + k)) := by
  obtain ⟨w, as, h⟩ := h
  have hl := (w_ok h.ao).l1
  rw [h.five.2] at hl
  have q := prd_get h.ao h0 (by rw [h.five.2]; exact h1)
  rw [sg_get h0 h1] at q
  rw [h.e, getI_succ _ _ h0 (by omega)]
  exact q
end
theorem ao_s {c : Str} {a : PyData} (h : AO c a) (q : inS c ("LT" : Str) = true) : isStrD a = true ∧ (strD a).length ≤ 100 := by
  cases h with
  | n h => exact absurd q (by decide +kernel)
  | k h => exact absurd q (by decide +kernel)
  | i h0 h1 => exact absurd q (by decide +kernel)
  | c h0 h1 => exact absurd q (by decide +kernel)
  | b x => exact absurd q (by decide +kernel)
  | l h => exact ⟨rfl, Nat.le_trans h.n (by decide)⟩
  | t h => exact ⟨rfl, h.n⟩
theorem ao_b {c : Str} {a : PyData} (h : AO c a) (q : eqB c ("B" : Str) = true) : isBoolD a = true := by
  cases h with
  | n h => exact absurd q (by decide +kernel)
  | k h => exact absurd q (by decide +kernel)
  | i h0 h1 => exact absurd q (by decide +kernel)
  | c h0 h1 => exact absurd q (by decide +kernel)
  | b x => rfl
  | l h => exact absurd q (by decide +kernel)
  | t h => exact absurd q (by decide +kernel)
theorem ao_d {c : Str} {a : PyData} (h : AO c a) (q : eqB c ("B" : Str) = false) : isStrD a = true ∨ isNumD a = true ∧ (intD a).natAbs.log2 < 1920 := by
  cases h with
  | n h => exact .inl rfl
  | k h => exact .inl rfl
  | @i z h0 h1 => exact .inr ⟨rfl, lt1920 (z := z) h0 (by omega)⟩
  | @c z h0 h1 => exact .inr ⟨rfl, lt1920 (z := z) h0 h1⟩
  | b x => exact absurd q (by decide +kernel)
  | l h => exact .inl rfl
  | t h => exact .inl rfl
theorem ll_pre {d : Tpl PyData} {f : Str} {s0 : List Str} {i : Nat} {x : Str} (h : ∃ w as, LDx d w f as) (e : [x] = s0) : (List.foldl (m__law_line_6 d f) s0 (List.take i (rgs 0 (f.length : Int)))).length ≤ 10 := by
  have hf := ll_len h
  have k : ∀ (l : List Int) (s : List Str), (List.foldl (m__law_line_6 d f) s l).length = s.length + l.length := by
    intro l
    induction l with
    | nil => intro s; rfl
    | cons a l ih =>
      intro s
      rw [List.foldl_cons, ih]
      have : (m__law_line_6 d f s a).length = s.length + 1 := by
        show (m__law_line_5 d f s a).length = _
        unfold m__law_line_5
        cases inS (getS f a) ("LT" : Str)
        · exact List.length_append
        · exact List.length_append
      rw [this, List.length_cons]
      omega
  rw [k, ← e, List.length_take, rgs_len, List.length_singleton]
  have := Nat.min_le_right i ((f.length : Int) - 0).toNat
  omega
theorem ll_end {d : Tpl PyData} {f : Str} {s0 s1 : List Str} (h : ∃ w as, LDx d w f as) (e : [strD (getI d.l (0 : Int))] = s0) (e1 : List.foldl (m__law_line_6 d f) s0 (rgs 0 (f.length : Int)) = s1) : s1.length ≤ 6 ∧ ∀ x ∈ s1, x.length ≤ 202 := by
  obtain ⟨w, as, h⟩ := h
  rw [← e1, ← e, h.fold]
  exact ⟨pr_len h, fun x hx => (pr_ok h x hx).2.2⟩

theorem ok__law_line (T : Tx w K mg base A) : FnOk P w K mg base CX0 2 A.f__law_line A.d__law_line ["deed"] (p__law_line K) := by
  refine T.F__law_line.ok sc__law_line (fun vs He Q E h => ?_) (fun cdv A0 outer s He vs Q E hr h => ⟨_, (pss_cons (ps_set (i := 1) sc__law_line.nd rfl (Or.inl rfl) (pe_dget (hu_ofU hr) (pe_call0 (ok__law_forms T) (hr.mono (by decide)) rfl T.g__law_forms T.F__law_forms.kp T.b__law_forms .nil pass0) (pe_ix (ix_tupK (K := K)) (pv 0) pe_int fun _ _ => rfl) fun _ _ => rfl)) (pss_cons (ps_set (i := 2) sc__law_line.nd rfl (Or.inl rfl) (pe_lst (pa_cons (pe_ix (ix_tupK (K := K)) (pv 0) pe_int fun _ _ => rfl) pa_nil))) (pss_cons (ps_for PassesOwn.never rfl (pi_range1 rfl T.n_range (pa_cons (pe_callB (call_lenK (K := K)) rfl T.n_len boot_len (pa_cons (pv 1) pa_nil)) pa_nil)) (pg_name (i := 3) sc__law_line.nd rfl (Or.inl rfl)) (pss_one (ps_if (pt_cmpR op_in_str (pe_ix ix_str (pv 1) (pv 3) fun _ _ => rfl) pe_str (by rfl)) (pss_one (ps_expr (pe_bmK (K := K) PySem.F.plainAttrs_list PySem.F.slot_list_append PySem.F.type_list_append mt_append (pv 2) (pa_cons (pe_op op_add_str (pe_cop op_add_str (pet_replT (pet_replC (pe_ix (ix_tupK (K := K)) (pv 0) (pe_op op_add pe_int (pv 3)) fun _ _ => rfl)))) pe_str) pa_nil)))) (pss_one (ps_expr (pe_bmK (K := K) PySem.F.plainAttrs_list PySem.F.slot_list_append PySem.F.type_list_append mt_append (pv 2) (pa_cons (pe_ifExp (pt_cmpR op_eq (pe_ix ix_str (pv 1) (pv 3) fun _ _ => rfl) pe_str (nomark _)) (pe_ix (ix_listK (K := K)) (pe_lst (pa_cons pe_str (pa_cons pe_str pa_nil))) (pe_callTy call_int1 rfl T.n_int boot_int (pa_cons (pe_ix (ix_tupK (K := K)) (pv 0) (pe_op op_add pe_int (pv 3)) fun _ _ => rfl) pa_nil)) fun _ _ => rfl) (pe_callTy call_strA rfl T.n_str boot_str (pa_cons (pe_ix (ix_tupK (K := K)) (pv 0) (pe_op op_add pe_int (pv 3)) fun _ _ => rfl) pa_nil))) pa_nil))))))) (pss_one (ps_ret (pe_joinK (K := K) pe_str (pv 2))))))), ?_⟩)
  · obtain ⟨d_deed, w_deed, G, rfl, eG, h_deed, hpre, hQ⟩ := h
    rfl
  · obtain ⟨d_deed, w_deed, G, rfl, eG, h_deed, hpre, hQ⟩ := h
    have gr : Grow G He G He := Grow.refl eG
    obtain ⟨Ge, eGe⟩ : ∃ z, z = G := ⟨G, rfl⟩
    have gr : Grow Ge He G He := by rw [eGe]; exact gr
    rw [← eGe] at hQ
    clear eGe
    have hM : m__law_line d_deed = (m__law_line_9 d_deed ((tabGet (m__law_forms).l (strD (getI (d_deed).l (0 : Int)))).getD Str.empty)) := rfl
    refine q_asg (K := K) gr.s (ev_dctGet ev_call0 (ev_asStr (ev_ixT (ev_var rfl h_deed) ev_int (atI_get (by first | (first | exact pl_at0 hpre | exact pl_s0 hpre | exact ll_some hpre | exact Nat.le_trans fl (by decide) | exact ⟨by omega, by omega⟩ | exact at_txt lo_0 hi_0 | exact Nat.lt_of_le_of_lt fl_0 (by decide) | exact fat | exact (ao_s fo (by assumption)).1 | exact ao_b fo (by assumption) | exact at_b _ | exact ao_d fo (by assumption) | exact sum_side fe.1 fe.2 (by decide) (by decide) | exact rs2 (rl100 (ao_s fo (by assumption)).2) (by decide) (by decide) | exact rs2 (rl2 (rl100 (ao_s fo (by assumption)).2) (by decide)) (by decide) (by decide) | exact q_line3 (rl2 (rl2 (rl100 (ao_s fo (by assumption)).2) (by decide)) (by decide)) | exact q_line4 (rl2 (rl2 (rl100 (ao_s fo (by assumption)).2) (by decide)) (by decide))) | (first | decide | (refine at_in ?_ ?_ <;> omega) | (refine at_neg ?_ ?_ <;> omega))))) (by first | (first | exact pl_at0 hpre | exact pl_s0 hpre | exact ll_some hpre | exact Nat.le_trans fl (by decide) | exact ⟨by omega, by omega⟩ | exact at_txt lo_0 hi_0 | exact Nat.lt_of_le_of_lt fl_0 (by decide) | exact fat | exact (ao_s fo (by assumption)).1 | exact ao_b fo (by assumption) | exact at_b _ | exact ao_d fo (by assumption) | exact sum_side fe.1 fe.2 (by decide) (by decide) | exact rs2 (rl100 (ao_s fo (by assumption)).2) (by decide) (by decide) | exact rs2 (rl2 (rl100 (ao_s fo (by assumption)).2) (by decide)) (by decide) (by decide) | exact q_line3 (rl2 (rl2 (rl100 (ao_s fo (by assumption)).2) (by decide)) (by decide)) | exact q_line4 (rl2 (rl2 (rl100 (ao_s fo (by assumption)).2) (by decide)) (by decide))) | (first | assumption | exact or_l (by assumption) | exact or_l (or_r (by assumption)) | exact num_of (by assumption) (by assumption) | exact not_fA (by assumption) | (first | omega | decide)))) (by first | (first | exact pl_at0 hpre | exact pl_s0 hpre | exact ll_some hpre | exact Nat.le_trans fl (by decide) | exact ⟨by omega, by omega⟩ | exact at_txt lo_0 hi_0 | exact Nat.lt_of_le_of_lt fl_0 (by decide) | exact fat | exact (ao_s fo (by assumption)).1 | exact ao_b fo (by assumption) | exact at_b _ | exact ao_d fo (by assumption) | exact sum_side fe.1 fe.2 (by decide) (by decide) | exact rs2 (rl100 (ao_s fo (by assumption)).2) (by decide) (by decide) | exact rs2 (rl2 (rl100 (ao_s fo (by assumption)).2) (by decide)) (by decide) (by decide) | exact q_line3 (rl2 (rl2 (rl100 (ao_s fo (by assumption)).2) (by decide)) (by decide)) | exact q_line4 (rl2 (rl2 (rl100 (ao_s fo (by assumption)).2) (by decide)) (by decide))) | (first | assumption | (first | omega | decide)))) fun w_2 G5 H6 g4 (h_3 : rep K ((tabGet (m__law_forms).l (strD (getI (d_deed).l (0 : Int)))).getD Str.empty) w_2 G5) => ?_
    have h_deed := up g4.g h_deed
    have gr := gr.trans g4
    generalize ed_1 : ((tabGet (m__law_forms).l (strD (getI (d_deed).l (0 : Int)))).getD Str.empty) = d_1 at h_3 hM
    unfold m__law_line_9 at hM
    have fF := ll_open hpre ed_1
    have fl := ll_len fF
    refine q_newG (K := K) gr (ea_cons (ev_asStr (ev_ixT (ev_var rfl h_deed) ev_int (atI_get (by first | (first | exact pl_at0 hpre | exact pl_s0 hpre | exact ll_some hpre | exact Nat.le_trans fl (by decide) | exact ⟨by omega, by omega⟩ | exact at_txt lo_0 hi_0 | exact Nat.lt_of_le_of_lt fl_0 (by decide) | exact fat | exact (ao_s fo (by assumption)).1 | exact ao_b fo (by assumption) | exact at_b _ | exact ao_d fo (by assumption) | exact sum_side fe.1 fe.2 (by decide) (by decide) | exact rs2 (rl100 (ao_s fo (by assumption)).2) (by decide) (by decide) | exact rs2 (rl2 (rl100 (ao_s fo (by assumption)).2) (by decide)) (by decide) (by decide) | exact q_line3 (rl2 (rl2 (rl100 (ao_s fo (by assumption)).2) (by decide)) (by decide)) | exact q_line4 (rl2 (rl2 (rl100 (ao_s fo (by assumption)).2) (by decide)) (by decide))) | (first | decide | (refine at_in ?_ ?_ <;> omega) | (refine at_neg ?_ ?_ <;> omega))))) (by first | (first | exact pl_at0 hpre | exact pl_s0 hpre | exact ll_some hpre | exact Nat.le_trans fl (by decide) | exact ⟨by omega, by omega⟩ | exact at_txt lo_0 hi_0 | exact Nat.lt_of_le_of_lt fl_0 (by decide) | exact fat | exact (ao_s fo (by assumption)).1 | exact ao_b fo (by assumption) | exact at_b _ | exact ao_d fo (by assumption) | exact sum_side fe.1 fe.2 (by decide) (by decide) | exact rs2 (rl100 (ao_s fo (by assumption)).2) (by decide) (by decide) | exact rs2 (rl2 (rl100 (ao_s fo (by assumption)).2) (by decide)) (by decide) (by decide) | exact q_line3 (rl2 (rl2 (rl100 (ao_s fo (by assumption)).2) (by decide)) (by decide)) | exact q_line4 (rl2 (rl2 (rl100 (ao_s fo (by assumption)).2) (by decide)) (by decide))) | (first | assumption | exact or_l (by assumption) | exact or_l (or_r (by assumption)) | exact num_of (by assumption) (by assumption) | exact not_fA (by assumption) | (first | omega | decide)))) ea_nil) (by first | (show _ ≤ sizeLine; decide) | (simp only [List.length_cons, List.length_nil, List.length_append, sizeLine_eq]; omega)) fun G11 H12 a9 H13 zs9 g10 hF_9 hN_9 hH_9 h_8 gr2 sm9 => ?_
    have h_deed := up g10.g h_deed
    have h_3 := up g10.g h_3
    have gr := gr2
    generalize ed_7 : ((strD (getI (d_deed).l (0 : Int))) :: ([] : List Str)) = d_7 at h_8 hM
    unfold m__law_line_8 at hM
    refine q_forR1 (K := K) gr.s (ev_lenS (ev_var rfl h_3) (by first | (first | exact pl_at0 hpre | exact pl_s0 hpre | exact ll_some hpre | exact Nat.le_trans fl (by decide) | exact ⟨by omega, by omega⟩ | exact at_txt lo_0 hi_0 | exact Nat.lt_of_le_of_lt fl_0 (by decide) | exact fat | exact (ao_s fo (by assumption)).1 | exact ao_b fo (by assumption) | exact at_b _ | exact ao_d fo (by assumption) | exact sum_side fe.1 fe.2 (by decide) (by decide) | exact rs2 (rl100 (ao_s fo (by assumption)).2) (by decide) (by decide) | exact rs2 (rl2 (rl100 (ao_s fo (by assumption)).2) (by decide)) (by decide) (by decide) | exact q_line3 (rl2 (rl2 (rl100 (ao_s fo (by assumption)).2) (by decide)) (by decide)) | exact q_line4 (rl2 (rl2 (rl100 (ao_s fo (by assumption)).2) (by decide)) (by decide))) | (first | omega | decide | (show _ ≤ sizeLine; decide) | (show _ < sizeLine; decide)))) (by first | (first | exact pl_at0 hpre | exact pl_s0 hpre | exact ll_some hpre | exact Nat.le_trans fl (by decide) | exact ⟨by omega, by omega⟩ | exact at_txt lo_0 hi_0 | exact Nat.lt_of_le_of_lt fl_0 (by decide) | exact fat | exact (ao_s fo (by assumption)).1 | exact ao_b fo (by assumption) | exact at_b _ | exact ao_d fo (by assumption) | exact sum_side fe.1 fe.2 (by decide) (by decide) | exact rs2 (rl100 (ao_s fo (by assumption)).2) (by decide) (by decide) | exact rs2 (rl2 (rl100 (ao_s fo (by assumption)).2) (by decide)) (by decide) (by decide) | exact q_line3 (rl2 (rl2 (rl100 (ao_s fo (by assumption)).2) (by decide)) (by decide)) | exact q_line4 (rl2 (rl2 (rl100 (ao_s fo (by assumption)).2) (by decide)) (by decide))) | (first | (constructor <;> omega) | (decide))) fun G17 H18 g20 => ?_
    have h_deed := up g20.g h_deed
    have h_3 := up g20.g h_3
    have hN_9 := g20.f _ _ hH_9 hN_9
    have hH_9 := g20.h.l hH_9
    have h_8 := Reps.up g20.g h_8
    have gr := gr.trans g20
    refine ⟨fun i_ σ_ H_ => ∃ (G54 : Hp) (o_25 : Option V), Grow Ge He G54 H_ ∧ Same G17 G54 ∧ σ_ = [some w_deed, some w_2, some (V.ref a9), o_25] ∧ (∃ zs, Reps K ((List.foldl (m__law_line_6 d_deed d_1) d_7 (List.take i_ (rgs 0 ((d_1).length : Int)))) : (List Str)) zs G54 ∧ H_ a9 = some (.lst zs) ∧ G54 a9 = none), ⟨_, _, gr, Same.refl _, rfl, ⟨_, h_8, hH_9, hN_9⟩⟩, ?_, ?_⟩
    · rintro i_0 σ_0 H_0 hlt_0 ⟨G54, o_25, gr, sg0, rfl, ⟨zs_9, h_24, hH_9, hN_9⟩⟩
      obtain ⟨d_14, hx0_0, hx0, lo_0, hi_0⟩ := rgs_at0 hlt_0
      rw [hx0_0]
      have h_16 : rep K d_14 (V.int d_14) G54 := rfl
      generalize ew_15 : V.int d_14 = w_15 at h_16
      have h_deed := up sg0 h_deed
      have h_3 := up sg0 h_3
      have hMo0 := hM
      clear hM
      have hM : (List.foldl (m__law_line_6 d_deed d_1) d_7 (List.take (i_0 + 1) (rgs 0 ((d_1).length : Int)))) = (m__law_line_6 d_deed d_1) (List.foldl (m__law_line_6 d_deed d_1) d_7 (List.take i_0 (rgs 0 ((d_1).length : Int)))) d_14 := by rw [take_snoc hx0, List.foldl_append]; rfl
      have fl_0 := ll_pre (i := i_0) fF ed_7
      generalize (List.foldl (m__law_line_6 d_deed d_1) d_7 (List.take i_0 (rgs 0 ((d_1).length : Int)))) = st_0 at h_24 fl_0 hM
      obtain ⟨d_22, est_0⟩ : ∃ z, z = st_0 := ⟨_, rfl⟩
      subst est_0
      conv at hM => rhs; unfold m__law_line_6; unfold m__law_line_5
      have fo := ll_ao fF lo_0 hi_0
      have fat := ll_at fF lo_0 hi_0
      refine s_if gr.s (et_test (ev_inS (ev_ixS (ev_var rfl h_3) (ev_var rfl h_16) (by first | (first | exact pl_at0 hpre | exact pl_s0 hpre | exact ll_some hpre | exact Nat.le_trans fl (by decide) | exact ⟨by omega, by omega⟩ | exact at_txt lo_0 hi_0 | exact Nat.lt_of_le_of_lt fl_0 (by decide) | exact fat | exact (ao_s fo (by assumption)).1 | exact ao_b fo (by assumption) | exact at_b _ | exact ao_d fo (by assumption) | exact sum_side fe.1 fe.2 (by decide) (by decide) | exact rs2 (rl100 (ao_s fo (by assumption)).2) (by decide) (by decide) | exact rs2 (rl2 (rl100 (ao_s fo (by assumption)).2) (by decide)) (by decide) (by decide) | exact q_line3 (rl2 (rl2 (rl100 (ao_s fo (by assumption)).2) (by decide)) (by decide)) | exact q_line4 (rl2 (rl2 (rl100 (ao_s fo (by assumption)).2) (by decide)) (by decide))) | (first | omega | decide | (show _ ≤ sizeLine; decide) | (show _ < sizeLine; decide))) (atI_get (by first | (first | exact pl_at0 hpre | exact pl_s0 hpre | exact ll_some hpre | exact Nat.le_trans fl (by decide) | exact ⟨by omega, by omega⟩ | exact at_txt lo_0 hi_0 | exact Nat.lt_of_le_of_lt fl_0 (by decide) | exact fat | exact (ao_s fo (by assumption)).1 | exact ao_b fo (by assumption) | exact at_b _ | exact ao_d fo (by assumption) | exact sum_side fe.1 fe.2 (by decide) (by decide) | exact rs2 (rl100 (ao_s fo (by assumption)).2) (by decide) (by decide) | exact rs2 (rl2 (rl100 (ao_s fo (by assumption)).2) (by decide)) (by decide) (by decide) | exact q_line3 (rl2 (rl2 (rl100 (ao_s fo (by assumption)).2) (by decide)) (by decide)) | exact q_line4 (rl2 (rl2 (rl100 (ao_s fo (by assumption)).2) (by decide)) (by decide))) | (first | decide | (refine at_in ?_ ?_ <;> omega) | (refine at_neg ?_ ?_ <;> omega))))) ev_str)) ?_ ?_
      · intro hb27 G28 H29 g26
        have h_deed := up g26.g h_deed
        have h_3 := up g26.g h_3
        have hN_9 := g26.f _ _ hH_9 hN_9
        have hH_9 := g26.h.l hH_9
        have h_24 := Reps.up g26.g h_24
        have h_16 := up g26.g h_16
        have sg0 := sg0.trans g26.g
        have gr := gr.trans g26
        replace hM := condT hM hb27
        unfold m__law_line_2 at hM
        refine s_appF (K := K) gr hF_9 hN_9 rfl hH_9 h_24 (by first | (first | exact pl_at0 hpre | exact pl_s0 hpre | exact ll_some hpre | exact Nat.le_trans fl (by decide) | exact ⟨by omega, by omega⟩ | exact at_txt lo_0 hi_0 | exact Nat.lt_of_le_of_lt fl_0 (by decide) | exact fat | exact (ao_s fo (by assumption)).1 | exact ao_b fo (by assumption) | exact at_b _ | exact ao_d fo (by assumption) | exact sum_side fe.1 fe.2 (by decide) (by decide) | exact rs2 (rl100 (ao_s fo (by assumption)).2) (by decide) (by decide) | exact rs2 (rl2 (rl100 (ao_s fo (by assumption)).2) (by decide)) (by decide) (by decide) | exact q_line3 (rl2 (rl2 (rl100 (ao_s fo (by assumption)).2) (by decide)) (by decide)) | exact q_line4 (rl2 (rl2 (rl100 (ao_s fo (by assumption)).2) (by decide)) (by decide))) | (fail)) (ev_addS (ev_addS ev_str (ev_replC (ev_replC (ev_asStr (ev_ixT (ev_var rfl h_deed) (ev_add ev_int (ev_var rfl h_16)) (atI_get (by first | (first | exact pl_at0 hpre | exact pl_s0 hpre | exact ll_some hpre | exact Nat.le_trans fl (by decide) | exact ⟨by omega, by omega⟩ | exact at_txt lo_0 hi_0 | exact Nat.lt_of_le_of_lt fl_0 (by decide) | exact fat | exact (ao_s fo (by assumption)).1 | exact ao_b fo (by assumption) | exact at_b _ | exact ao_d fo (by assumption) | exact sum_side fe.1 fe.2 (by decide) (by decide) | exact rs2 (rl100 (ao_s fo (by assumption)).2) (by decide) (by decide) | exact rs2 (rl2 (rl100 (ao_s fo (by assumption)).2) (by decide)) (by decide) (by decide) | exact q_line3 (rl2 (rl2 (rl100 (ao_s fo (by assumption)).2) (by decide)) (by decide)) | exact q_line4 (rl2 (rl2 (rl100 (ao_s fo (by assumption)).2) (by decide)) (by decide))) | (first | decide | (refine at_in ?_ ?_ <;> omega) | (refine at_neg ?_ ?_ <;> omega))))) (by first | (first | exact pl_at0 hpre | exact pl_s0 hpre | exact ll_some hpre | exact Nat.le_trans fl (by decide) | exact ⟨by omega, by omega⟩ | exact at_txt lo_0 hi_0 | exact Nat.lt_of_le_of_lt fl_0 (by decide) | exact fat | exact (ao_s fo (by assumption)).1 | exact ao_b fo (by assumption) | exact at_b _ | exact ao_d fo (by assumption) | exact sum_side fe.1 fe.2 (by decide) (by decide) | exact rs2 (rl100 (ao_s fo (by assumption)).2) (by decide) (by decide) | exact rs2 (rl2 (rl100 (ao_s fo (by assumption)).2) (by decide)) (by decide) (by decide) | exact q_line3 (rl2 (rl2 (rl100 (ao_s fo (by assumption)).2) (by decide)) (by decide)) | exact q_line4 (rl2 (rl2 (rl100 (ao_s fo (by assumption)).2) (by decide)) (by decide))) | (first | assumption | exact or_l (by assumption) | exact or_l (or_r (by assumption)) | exact num_of (by assumption) (by assumption) | exact not_fA (by assumption) | (first | omega | decide)))) (by first | (first | exact pl_at0 hpre | exact pl_s0 hpre | exact ll_some hpre | exact Nat.le_trans fl (by decide) | exact ⟨by omega, by omega⟩ | exact at_txt lo_0 hi_0 | exact Nat.lt_of_le_of_lt fl_0 (by decide) | exact fat | exact (ao_s fo (by assumption)).1 | exact ao_b fo (by assumption) | exact at_b _ | exact ao_d fo (by assumption) | exact sum_side fe.1 fe.2 (by decide) (by decide) | exact rs2 (rl100 (ao_s fo (by assumption)).2) (by decide) (by decide) | exact rs2 (rl2 (rl100 (ao_s fo (by assumption)).2) (by decide)) (by decide) (by decide) | exact q_line3 (rl2 (rl2 (rl100 (ao_s fo (by assumption)).2) (by decide)) (by decide)) | exact q_line4 (rl2 (rl2 (rl100 (ao_s fo (by assumption)).2) (by decide)) (by decide))) | (first | omega | decide | (show _ ≤ sizeLine; decide) | (show _ < sizeLine; decide)))) (by first | (first | exact pl_at0 hpre | exact pl_s0 hpre | exact ll_some hpre | exact Nat.le_trans fl (by decide) | exact ⟨by omega, by omega⟩ | exact at_txt lo_0 hi_0 | exact Nat.lt_of_le_of_lt fl_0 (by decide) | exact fat | exact (ao_s fo (by assumption)).1 | exact ao_b fo (by assumption) | exact at_b _ | exact ao_d fo (by assumption) | exact sum_side fe.1 fe.2 (by decide) (by decide) | exact rs2 (rl100 (ao_s fo (by assumption)).2) (by decide) (by decide) | exact rs2 (rl2 (rl100 (ao_s fo (by assumption)).2) (by decide)) (by decide) (by decide) | exact q_line3 (rl2 (rl2 (rl100 (ao_s fo (by assumption)).2) (by decide)) (by decide)) | exact q_line4 (rl2 (rl2 (rl100 (ao_s fo (by assumption)).2) (by decide)) (by decide))) | (first | omega | decide | (show _ ≤ sizeLine; decide) | (show _ < sizeLine; decide)))) (by first | (first | exact pl_at0 hpre | exact pl_s0 hpre | exact ll_some hpre | exact Nat.le_trans fl (by decide) | exact ⟨by omega, by omega⟩ | exact at_txt lo_0 hi_0 | exact Nat.lt_of_le_of_lt fl_0 (by decide) | exact fat | exact (ao_s fo (by assumption)).1 | exact ao_b fo (by assumption) | exact at_b _ | exact ao_d fo (by assumption) | exact sum_side fe.1 fe.2 (by decide) (by decide) | exact rs2 (rl100 (ao_s fo (by assumption)).2) (by decide) (by decide) | exact rs2 (rl2 (rl100 (ao_s fo (by assumption)).2) (by decide)) (by decide) (by decide) | exact q_line3 (rl2 (rl2 (rl100 (ao_s fo (by assumption)).2) (by decide)) (by decide)) | exact q_line4 (rl2 (rl2 (rl100 (ao_s fo (by assumption)).2) (by decide)) (by decide))) | (first | omega | decide | (show _ ≤ sizeLine; decide) | (show _ < sizeLine; decide)))) ev_str (by first | (first | exact pl_at0 hpre | exact pl_s0 hpre | exact ll_some hpre | exact Nat.le_trans fl (by decide) | exact ⟨by omega, by omega⟩ | exact at_txt lo_0 hi_0 | exact Nat.lt_of_le_of_lt fl_0 (by decide) | exact fat | exact (ao_s fo (by assumption)).1 | exact ao_b fo (by assumption) | exact at_b _ | exact ao_d fo (by assumption) | exact sum_side fe.1 fe.2 (by decide) (by decide) | exact rs2 (rl100 (ao_s fo (by assumption)).2) (by decide) (by decide) | exact rs2 (rl2 (rl100 (ao_s fo (by assumption)).2) (by decide)) (by decide) (by decide) | exact q_line3 (rl2 (rl2 (rl100 (ao_s fo (by assumption)).2) (by decide)) (by decide)) | exact q_line4 (rl2 (rl2 (rl100 (ao_s fo (by assumption)).2) (by decide)) (by decide))) | (first | omega | decide | (show _ ≤ sizeLine; decide) | (show _ < sizeLine; decide)))) fun G31 H32 H39 zs37 g30 gr2 hN2 hH2 (h_36 : Reps K (d_22 ++ [((("\"" : Str) ++ (Txt.replace (Txt.replace (strD (getI (d_deed).l ((1 : Int) + d_14))) ("\\" : Str) ("\\\\" : Str)) ("\"" : Str) ("\\\"" : Str))) ++ ("\"" : Str))]) zs37 G31) bt38 => ?_
        have h_deed := up g30.g h_deed
        have h_3 := up g30.g h_3
        have hN_9 := g30.f _ _ hH_9 hN_9
        have hH_9 := g30.h.l hH_9
        have h_24 := Reps.up g30.g h_24
        have h_16 := up g30.g h_16
        have sg0 := sg0.trans g30.g
        have gr := gr2
        have hN_9 := hN2
        have hH_9 := hH2
        generalize ed_35 : (d_22 ++ [((("\"" : Str) ++ (Txt.replace (Txt.replace (strD (getI (d_deed).l ((1 : Int) + d_14))) ("\\" : Str) ("\\\\" : Str)) ("\"" : Str) ("\\\"" : Str))) ++ ("\"" : Str))]) = d_35 at h_36 hM
        unfold m__law_line_1 at hM
        exact ⟨_, _, gr, sg0, rfl, ⟨_, (by rw [hM]; exact h_36), hH_9, hN_9⟩⟩
      · intro hb27 G40 H41 g26
        have h_deed := up g26.g h_deed
        have h_3 := up g26.g h_3
        have hN_9 := g26.f _ _ hH_9 hN_9
        have hH_9 := g26.h.l hH_9
        have h_24 := Reps.up g26.g h_24
        have h_16 := up g26.g h_16
        have sg0 := sg0.trans g26.g
        have gr := gr.trans g26
        replace hM := condF hM hb27
        unfold m__law_line_4 at hM
        refine s_appF (K := K) gr hF_9 hN_9 rfl hH_9 h_24 (by first | (first | exact pl_at0 hpre | exact pl_s0 hpre | exact ll_some hpre | exact Nat.le_trans fl (by decide) | exact ⟨by omega, by omega⟩ | exact at_txt lo_0 hi_0 | exact Nat.lt_of_le_of_lt fl_0 (by decide) | exact fat | exact (ao_s fo (by assumption)).1 | exact ao_b fo (by assumption) | exact at_b _ | exact ao_d fo (by assumption) | exact sum_side fe.1 fe.2 (by decide) (by decide) | exact rs2 (rl100 (ao_s fo (by assumption)).2) (by decide) (by decide) | exact rs2 (rl2 (rl100 (ao_s fo (by assumption)).2) (by decide)) (by decide) (by decide) | exact q_line3 (rl2 (rl2 (rl100 (ao_s fo (by assumption)).2) (by decide)) (by decide)) | exact q_line4 (rl2 (rl2 (rl100 (ao_s fo (by assumption)).2) (by decide)) (by decide))) | (fail)) (ev_if (et_test (ev_eq (ev_ixS (ev_var rfl h_3) (ev_var rfl h_16) (by first | (first | exact pl_at0 hpre | exact pl_s0 hpre | exact ll_some hpre | exact Nat.le_trans fl (by decide) | exact ⟨by omega, by omega⟩ | exact at_txt lo_0 hi_0 | exact Nat.lt_of_le_of_lt fl_0 (by decide) | exact fat | exact (ao_s fo (by assumption)).1 | exact ao_b fo (by assumption) | exact at_b _ | exact ao_d fo (by assumption) | exact sum_side fe.1 fe.2 (by decide) (by decide) | exact rs2 (rl100 (ao_s fo (by assumption)).2) (by decide) (by decide) | exact rs2 (rl2 (rl100 (ao_s fo (by assumption)).2) (by decide)) (by decide) (by decide) | exact q_line3 (rl2 (rl2 (rl100 (ao_s fo (by assumption)).2) (by decide)) (by decide)) | exact q_line4 (rl2 (rl2 (rl100 (ao_s fo (by assumption)).2) (by decide)) (by decide))) | (first | omega | decide | (show _ ≤ sizeLine; decide) | (show _ < sizeLine; decide))) (atI_get (by first | (first | exact pl_at0 hpre | exact pl_s0 hpre | exact ll_some hpre | exact Nat.le_trans fl (by decide) | exact ⟨by omega, by omega⟩ | exact at_txt lo_0 hi_0 | exact Nat.lt_of_le_of_lt fl_0 (by decide) | exact fat | exact (ao_s fo (by assumption)).1 | exact ao_b fo (by assumption) | exact at_b _ | exact ao_d fo (by assumption) | exact sum_side fe.1 fe.2 (by decide) (by decide) | exact rs2 (rl100 (ao_s fo (by assumption)).2) (by decide) (by decide) | exact rs2 (rl2 (rl100 (ao_s fo (by assumption)).2) (by decide)) (by decide) (by decide) | exact q_line3 (rl2 (rl2 (rl100 (ao_s fo (by assumption)).2) (by decide)) (by decide)) | exact q_line4 (rl2 (rl2 (rl100 (ao_s fo (by assumption)).2) (by decide)) (by decide))) | (first | decide | (refine at_in ?_ ?_ <;> omega) | (refine at_neg ?_ ?_ <;> omega))))) ev_str)) (fun hb42 => (ev_ixL (ev_lst (ea_cons ev_str (ea_cons ev_str ea_nil)) (by first | (first | exact pl_at0 hpre | exact pl_s0 hpre | exact ll_some hpre | exact Nat.le_trans fl (by decide) | exact ⟨by omega, by omega⟩ | exact at_txt lo_0 hi_0 | exact Nat.lt_of_le_of_lt fl_0 (by decide) | exact fat | exact (ao_s fo (by assumption)).1 | exact ao_b fo (by assumption) | exact at_b _ | exact ao_d fo (by assumption) | exact sum_side fe.1 fe.2 (by decide) (by decide) | exact rs2 (rl100 (ao_s fo (by assumption)).2) (by decide) (by decide) | exact rs2 (rl2 (rl100 (ao_s fo (by assumption)).2) (by decide)) (by decide) (by decide) | exact q_line3 (rl2 (rl2 (rl100 (ao_s fo (by assumption)).2) (by decide)) (by decide)) | exact q_line4 (rl2 (rl2 (rl100 (ao_s fo (by assumption)).2) (by decide)) (by decide))) | (first | (show _ ≤ sizeLine; decide) | (simp only [List.length_cons, List.length_nil, List.length_append, sizeLine_eq]; omega) | (fail)))) (ev_intB (ev_asBool (ev_ixT (ev_var rfl h_deed) (ev_add ev_int (ev_var rfl h_16)) (atI_get (by first | (first | exact pl_at0 hpre | exact pl_s0 hpre | exact ll_some hpre | exact Nat.le_trans fl (by decide) | exact ⟨by omega, by omega⟩ | exact at_txt lo_0 hi_0 | exact Nat.lt_of_le_of_lt fl_0 (by decide) | exact fat | exact (ao_s fo (by assumption)).1 | exact ao_b fo (by assumption) | exact at_b _ | exact ao_d fo (by assumption) | exact sum_side fe.1 fe.2 (by decide) (by decide) | exact rs2 (rl100 (ao_s fo (by assumption)).2) (by decide) (by decide) | exact rs2 (rl2 (rl100 (ao_s fo (by assumption)).2) (by decide)) (by decide) (by decide) | exact q_line3 (rl2 (rl2 (rl100 (ao_s fo (by assumption)).2) (by decide)) (by decide)) | exact q_line4 (rl2 (rl2 (rl100 (ao_s fo (by assumption)).2) (by decide)) (by decide))) | (first | decide | (refine at_in ?_ ?_ <;> omega) | (refine at_neg ?_ ?_ <;> omega))))) (by first | (first | exact pl_at0 hpre | exact pl_s0 hpre | exact ll_some hpre | exact Nat.le_trans fl (by decide) | exact ⟨by omega, by omega⟩ | exact at_txt lo_0 hi_0 | exact Nat.lt_of_le_of_lt fl_0 (by decide) | exact fat | exact (ao_s fo (by assumption)).1 | exact ao_b fo (by assumption) | exact at_b _ | exact ao_d fo (by assumption) | exact sum_side fe.1 fe.2 (by decide) (by decide) | exact rs2 (rl100 (ao_s fo (by assumption)).2) (by decide) (by decide) | exact rs2 (rl2 (rl100 (ao_s fo (by assumption)).2) (by decide)) (by decide) (by decide) | exact q_line3 (rl2 (rl2 (rl100 (ao_s fo (by assumption)).2) (by decide)) (by decide)) | exact q_line4 (rl2 (rl2 (rl100 (ao_s fo (by assumption)).2) (by decide)) (by decide))) | (first | assumption | exact or_l (by assumption) | exact or_l (or_r (by assumption)) | exact num_of (by assumption) (by assumption) | exact not_fA (by assumption) | (first | omega | decide))))) (atI_get (by first | (first | exact pl_at0 hpre | exact pl_s0 hpre | exact ll_some hpre | exact Nat.le_trans fl (by decide) | exact ⟨by omega, by omega⟩ | exact at_txt lo_0 hi_0 | exact Nat.lt_of_le_of_lt fl_0 (by decide) | exact fat | exact (ao_s fo (by assumption)).1 | exact ao_b fo (by assumption) | exact at_b _ | exact ao_d fo (by assumption) | exact sum_side fe.1 fe.2 (by decide) (by decide) | exact rs2 (rl100 (ao_s fo (by assumption)).2) (by decide) (by decide) | exact rs2 (rl2 (rl100 (ao_s fo (by assumption)).2) (by decide)) (by decide) (by decide) | exact q_line3 (rl2 (rl2 (rl100 (ao_s fo (by assumption)).2) (by decide)) (by decide)) | exact q_line4 (rl2 (rl2 (rl100 (ao_s fo (by assumption)).2) (by decide)) (by decide))) | (first | decide | (refine at_in ?_ ?_ <;> omega) | (refine at_neg ?_ ?_ <;> omega)))))) (fun hb43 => (ev_strD (ev_ixT (ev_var rfl h_deed) (ev_add ev_int (ev_var rfl h_16)) (atI_get (by first | (first | exact pl_at0 hpre | exact pl_s0 hpre | exact ll_some hpre | exact Nat.le_trans fl (by decide) | exact ⟨by omega, by omega⟩ | exact at_txt lo_0 hi_0 | exact Nat.lt_of_le_of_lt fl_0 (by decide) | exact fat | exact (ao_s fo (by assumption)).1 | exact ao_b fo (by assumption) | exact at_b _ | exact ao_d fo (by assumption) | exact sum_side fe.1 fe.2 (by decide) (by decide) | exact rs2 (rl100 (ao_s fo (by assumption)).2) (by decide) (by decide) | exact rs2 (rl2 (rl100 (ao_s fo (by assumption)).2) (by decide)) (by decide) (by decide) | exact q_line3 (rl2 (rl2 (rl100 (ao_s fo (by assumption)).2) (by decide)) (by decide)) | exact q_line4 (rl2 (rl2 (rl100 (ao_s fo (by assumption)).2) (by decide)) (by decide))) | (first | decide | (refine at_in ?_ ?_ <;> omega) | (refine at_neg ?_ ?_ <;> omega))))) (by first | (first | exact pl_at0 hpre | exact pl_s0 hpre | exact ll_some hpre | exact Nat.le_trans fl (by decide) | exact ⟨by omega, by omega⟩ | exact at_txt lo_0 hi_0 | exact Nat.lt_of_le_of_lt fl_0 (by decide) | exact fat | exact (ao_s fo (by assumption)).1 | exact ao_b fo (by assumption) | exact at_b _ | exact ao_d fo (by assumption) | exact sum_side fe.1 fe.2 (by decide) (by decide) | exact rs2 (rl100 (ao_s fo (by assumption)).2) (by decide) (by decide) | exact rs2 (rl2 (rl100 (ao_s fo (by assumption)).2) (by decide)) (by decide) (by decide) | exact q_line3 (rl2 (rl2 (rl100 (ao_s fo (by assumption)).2) (by decide)) (by decide)) | exact q_line4 (rl2 (rl2 (rl100 (ao_s fo (by assumption)).2) (by decide)) (by decide))) | (fail))))) fun G45 H46 H53 zs51 g44 gr2 hN2 hH2 (h_50 : Reps K (d_22 ++ [(cond (eqB (getS d_1 d_14) ("B" : Str)) (getI (("polite" : Str) :: (("assertive" : Str) :: ([] : List Str))) (if (boolD (getI (d_deed).l ((1 : Int) + d_14))) = true then (1 : Int) else 0)) (strOfD (getI (d_deed).l ((1 : Int) + d_14))))]) zs51 G45) bt52 => ?_
        have h_deed := up g44.g h_deed
        have h_3 := up g44.g h_3
        have hN_9 := g44.f _ _ hH_9 hN_9
        have hH_9 := g44.h.l hH_9
        have h_24 := Reps.up g44.g h_24
        have h_16 := up g44.g h_16
        have sg0 := sg0.trans g44.g
        have gr := gr2
        have hN_9 := hN2
        have hH_9 := hH2
        generalize ed_49 : (d_22 ++ [(cond (eqB (getS d_1 d_14) ("B" : Str)) (getI (("polite" : Str) :: (("assertive" : Str) :: ([] : List Str))) (if (boolD (getI (d_deed).l ((1 : Int) + d_14))) = true then (1 : Int) else 0)) (strOfD (getI (d_deed).l ((1 : Int) + d_14))))]) = d_49 at h_50 hM
        unfold m__law_line_3 at hM
        exact ⟨_, _, gr, sg0, rfl, ⟨_, (by rw [hM]; exact h_50), hH_9, hN_9⟩⟩
    · rintro σ_0 H_0 ⟨G54, o_25, gr, sg0, rfl, ⟨zs_9, h_24, hH_9, hN_9⟩⟩
      have h_deed := up sg0 h_deed
      have h_3 := up sg0 h_3
      rw [rgs_take0] at h_24
      generalize est_0 : (List.foldl (m__law_line_6 d_deed d_1) d_7 (rgs 0 ((d_1).length : Int))) = st_0 at h_24 hM
      obtain ⟨d_22, est2_0⟩ : ∃ z, z = st_0 := ⟨_, rfl⟩
      subst est2_0
      have h_deed := up (same_upd (o := .lst zs_9) hN_9) h_deed
      have h_3 := up (same_upd (o := .lst zs_9) hN_9) h_3
      have h_24 := fix_rep h_24 hN_9
      have gr := gr.fix hF_9 hN_9 hH_9
      unfold m__law_line_7 at hM
      have fe := ll_end fF ed_7 est_0
      refine s_ret (K := K) gr.s (ev_join ev_str (ev_var rfl h_24) (by first | (first | exact pl_at0 hpre | exact pl_s0 hpre | exact ll_some hpre | exact Nat.le_trans fl (by decide) | exact ⟨by omega, by omega⟩ | exact at_txt lo_0 hi_0 | exact Nat.lt_of_le_of_lt fl_0 (by decide) | exact fat | exact (ao_s fo (by assumption)).1 | exact ao_b fo (by assumption) | exact at_b _ | exact ao_d fo (by assumption) | exact sum_side fe.1 fe.2 (by decide) (by decide) | exact rs2 (rl100 (ao_s fo (by assumption)).2) (by decide) (by decide) | exact rs2 (rl2 (rl100 (ao_s fo (by assumption)).2) (by decide)) (by decide) (by decide) | exact q_line3 (rl2 (rl2 (rl100 (ao_s fo (by assumption)).2) (by decide)) (by decide)) | exact q_line4 (rl2 (rl2 (rl100 (ao_s fo (by assumption)).2) (by decide)) (by decide))) | (first | omega | decide | (show _ ≤ sizeLine; decide) | (show _ < sizeLine; decide)))) fun u Gr Hr gq hu => ?_
      exact hQ u Gr Hr (gr.trans gq) (by rw [hM]; exact hu)
/-! #### law -/
theorem LabN.cut {n : Nat} {l : Str} (m : Nat) (h : LabN n l) : LabN m (cutS l none (some (m : Int))) := by
  refine ⟨?_, fun c hc => h.p c (cut_mem (show c ∈ cutL (TL.tl l) none (some (m : Int)) from hc))⟩
  rw [TL.len_tl, tl_cut, cut_to _ (Int.natCast_nonneg _), List.length_take]
  exact Nat.min_le_left _ _
theorem LabN.app {n m : Nat} {x y : Str} (h : LabN n x) (k : LabN m y) : LabN (n + m) (x ++ y) := by
  refine ⟨by rw [len_app]; exact Nat.add_le_add h.n k.n, fun c hc => ?_⟩
  rw [TL.tl_append] at hc
  rcases List.mem_append.mp hc with q | q
  · exact h.p c q
  · exact k.p c q
theorem LabN.mul {n : Nat} {x : Str} (h : LabN n x) (k : Int) : LabN (n * k.toNat) (mulS x k) := by
  refine ⟨by rw [mulS_len]; exact Nat.mul_le_mul_right _ h.n, fun c hc => ?_⟩
  have hc : c ∈ (List.replicate k.toNat (TL.tl x)).flatten := hc
  obtain ⟨l, hl, q⟩ := List.mem_flatten.mp hc
  rw [(List.mem_replicate.mp hl).2] at q
  exact h.p c q
theorem g3 {a b c m n : Int} (ha : 0 ≤ a ∧ a ≤ m) (hb : 0 ≤ b ∧ b ≤ m) (hc : 0 ≤ c ∧ c ≤ m) : 0 ≤ getI [a, b, c] (n % 3) ∧ getI [a, b, c] (n % 3) ≤ m := by
  have h : getI [a, b, c] (n % 3) ∈ [a, b, c] := g_mem (l := [a, b, c]) (n := n) (Nat.succ_pos 2)
  rcases List.mem_cons.mp h with q | q
  · rw [q]; exact ha
  rcases List.mem_cons.mp q with q | q
  · rw [q]; exact hb
  rw [List.mem_singleton.mp q]; exact hc
theorem arg_ao {c : Str} (hc : c ∈ LETTERS) (d : List Int) (at_ cell : Int) : AO c (m__law_argument c d at_ cell) := by
  unfold m__law_argument
  generalize getI d at_ = x
  unfold LETTERS at hc
  have mod0 : ∀ {m : Int}, 0 < m → 0 ≤ x % m ∧ x % m < m := fun h => ⟨Int.emod_nonneg _ (by omega), Int.emod_lt_of_pos _ h⟩
  rcases List.mem_cons.mp hc with q | hc
  · subst q
    exact .n (g_mem (l := NAMESL) (by decide))
  rcases List.mem_cons.mp hc with q | hc
  · subst q
    exact .k (g_mem (l := k_KINDS) (by decide))
  rcases List.mem_cons.mp hc with q | hc
  · subst q
    have h := g3 (m := 59) (n := x / 7) (a := 0) (b := 59) (c := x % 60) (by decide) (by decide) (by have := mod0 (show (0 : Int) < 60 by decide); omega)
    exact .i h.1 h.2
  rcases List.mem_cons.mp hc with q | hc
  · subst q
    have h := g3 (m := 1000000) (n := x / 7) (a := 0) (b := 1000000) (c := x % 90) (by decide) (by decide) (by have := mod0 (show (0 : Int) < 90 by decide); omega)
    exact .c h.1 h.2
  rcases List.mem_cons.mp hc with q | hc
  · subst q
    exact .b _
  rcases List.mem_cons.mp hc with q | hc
  · subst q
    refine .l ?_
    have h := (lab_text cell).cut 100
    refine ⟨?_, h.p⟩
    exact Nat.le_trans (cutS_length _ _ _) (lab_text cell).n
  · have q := List.mem_singleton.mp hc
    subst q
    show AO "T" (cond (eqB ("T" : Str) ("T" : Str) && eqB (x % 5) 0) (m__law_argument_5 (mulS (m__law_text cell 40 ++ (" ctrl+K \"x\"" : Str)) 3)) (PyData.str (cutS (m__law_text cell 40) none (some (100 : Int)))))
    have hx : LabN 20 (" ctrl+K \"x\"" : Str) := ⟨by decide +kernel, by decide +kernel⟩
    cases (eqB ("T" : Str) ("T" : Str) && eqB (x % 5) 0) with
    | true => exact .t ((((lab_text cell).app hx).mul 3).cut 100)
    | false => exact .t ((lab_text cell).cut 100)
section
variable {d : Tpl PyData} {w F : Str} {as : List PyData}
theorem any_ld (c : Int) : ∃ w F as, LDx (m__law_any_deed c) w F as := by
  obtain ⟨w, hw0, hw⟩ : ∃ w, getI WORDSD (getI (m__law_draws c 9) 0 % (WORDSD.length : Int)) = w ∧ w ∈ WORDSD := ⟨_, rfl, g_mem (by decide)⟩
  obtain ⟨F, e, l, hF⟩ := word_F hw
  have hx : m__law_any_deed c = Tpl.mk (PyData.str w :: (rgs 0 (F.length : Int)).map fun k => m__law_argument (getS F k) (m__law_draws c 9) (1 + k) (c + k)) := by
    show m__law_any_deed_1 c (m__law_draws c 9) ⟨FORMSL⟩ (getI WORDSD (getI (m__law_draws c 9) 0 % (WORDSD.length : Int))) = _
    rw [hw0]
    unfold m__law_any_deed_1
    show Tpl.mk ([PyData.str w] ++ (rgs 0 ((((tabGet FORMSL w).getD Str.empty).length : Nat) : Int)).map fun k => m__law_argument (getS ((tabGet FORMSL w).getD Str.empty) k) (m__law_draws c 9) (1 + k) (c + k)) = _
    rw [e]
    rfl
  refine ⟨w, F, _, ⟨by rw [hx], hw, e, ?_⟩⟩
  rw [← List.map_id (sgn F), ← pr_map (F := F) id]
  refine paired_map fun k hk => ?_
  obtain ⟨h0, h1⟩ := rg_in hk
  refine arg_ao (hF _ ?_) _ _ _
  show getS F k ∈ sgn F
  rw [← sg_get h0 h1]
  exact getI_mem (at_in h0 (by rw [sgn_len]; exact h1))
end
structure LineOk (x : Str) (o : Option (Tpl PyData)) : Prop where
  n : x.length ≤ 1500
  no : 10 ∉ TL.tl x
  bl : o = none → m__parts x = []
  dd : ∀ d, o = some d → 0 < (m__parts x).length ∧ m__deed_in (m__parts x) = some d
theorem read_lines : ∀ {lines : List Str} {os : List (Option (Tpl PyData))}, Paired LineOk lines os → ∀ (acc : List (Tpl PyData)) (n : Int), runL m_read_script_6 acc (numb n lines) = .go (acc ++ os.filterMap id)
  | _, _, .nil, acc, n => by
    show Step.go acc = _
    rw [List.filterMap_nil, List.append_nil]
  | _, _, .cons (a := x) (b := o) (l₁ := lines) (l₂ := os) h t, acc, n => by
    cases o with
    | none =>
      have e : m_read_script_6 acc (n, x) = .go acc := by
        show m_read_script_4 acc (m__parts x) = _
        rw [h.bl rfl]
        rfl
      rw [show numb n (x :: lines) = (n, x) :: numb (n + 1) lines from rfl, runL_c e]
      exact read_lines t acc (n + 1)
    | some d =>
      obtain ⟨h0, h1⟩ := h.dd d rfl
      have e : m_read_script_6 acc (n, x) = .go (acc ++ [d]) := by
        show m_read_script_4 acc (m__parts x) = _
        unfold m_read_script_4
        rw [show decide ((0 : Int) < ((m__parts x).length : Int)) = true from decide_eq_true (by omega), h1]
        rfl
      rw [show numb n (x :: lines) = (n, x) :: numb (n + 1) lines from rfl, runL_c e]
      rw [read_lines t (acc ++ [d]) (n + 1), List.append_assoc]
      rfl
theorem nl_tl : TL.tl ("\n" : Str) = [10] := by decide +kernel
theorem paired_left {α β : Type} {F : α → β → Prop} : ∀ {l : List α} {m : List β}, Paired F l m → ∀ a ∈ l, ∃ b, F a b
  | _, _, .nil, _, h => by cases h
  | _, _, .cons h t, a, ha => by
    rcases List.mem_cons.mp ha with q | q
    · rw [q]; exact ⟨_, h⟩
    · exact paired_left t a q
theorem read_ok {lines : List Str} {os : List (Option (Tpl PyData))} (h : Paired LineOk lines os) (h0 : lines ≠ []) (h1 : lines.length ≤ 130) : PreR (Txt.join ("\n" : Str) lines) ∧ m_read_script (Txt.join ("\n" : Str) lines) = os.filterMap id := by
  have hs : Txt.split (Txt.join ("\n" : Str) lines) ("\n" : Str) = lines := TL.split_join nl_tl (by decide +kernel) h0 fun p hp => by
    obtain ⟨o, k⟩ := paired_left h p hp
    exact k.no
  refine ⟨⟨?_, ?_⟩, ?_⟩
  · exact Nat.le_trans (join_len' (n := 1500) (m := 130) (fun p hp => (paired_left h p hp).elim fun o k => k.n) h1 (by decide)) (by decide)
  · rw [hs]
    intro x hx
    obtain ⟨o, k⟩ := paired_left h x hx
    refine ⟨Nat.le_trans k.n (by decide), fun hp => ?_⟩
    cases o with
    | none => rw [k.bl rfl] at hp; exact absurd hp (by decide)
    | some d => rw [(k.dd d rfl).2]; rfl
  · show exitF (runL m_read_script_6 [] (numb 1 (Txt.split (Txt.join ("\n" : Str) lines) ("\n" : Str)))) m_read_script_7 = _
    rw [hs, read_lines h]
    rfl
theorem rep_sp : ∀ n : Nat, (List.replicate n [32]).flatten = List.replicate n 32
  | 0 => rfl
  | n + 1 => by
    rw [List.replicate_succ, List.flatten_cons, rep_sp n]
    rfl
theorem mul_sp (n : Int) : TL.tl (mulS (" " : Str) n) = List.replicate n.toNat 32 := by
  show (List.replicate n.toNat (TL.tl (" " : Str))).flatten = _
  rw [sp32, rep_sp]
def wideX (l : Str) (a b : Int) : Str := mulS (" " : Str) a ++ Txt.join ("   " : Str) (Txt.splitMax l (" " : Str) 1) ++ mulS (" " : Str) b
theorem body_tl (P : List Str) : bodyB (P.map fun p => (TL.tl p, 0)) = TL.tl (Txt.join (" " : Str) P) := (join_body P).symm
section
variable {d : Tpl PyData} {w F : Str} {as : List PyData}
theorem wide_tl (h : LDx d w F as) (a b : Int) : ∃ B : List (List Nat × Nat), (∀ p ∈ B, PartOk p.1) ∧ B.map (·.1) = (pr_ w F as).map TL.tl ∧ TL.tl (wideX (m__line_of d) a b) = List.replicate a.toNat 32 ++ (bodyB B ++ List.replicate b.toNat 32) := by
  have hw := words_pt w h.hw
  have hpt := pr_ok h
  rw [h.line]
  unfold wideX
  unfold pr_ at hpt ⊢
  cases e : wrsL as ((sgn F).map formOf) with
  | nil =>
    rw [e] at hpt
    refine ⟨[(TL.tl w, 0)], fun p hp => ?_, rfl, ?_⟩
    · rw [List.mem_singleton.mp hp]
      exact (hpt w (.head _)).1
    · rw [join_one, splitM_no hw.2.1, join_one, TL.tl_append, TL.tl_append, mul_sp, mul_sp, List.append_assoc]
      rfl
  | cons p r =>
    rw [e] at hpt
    refine ⟨(TL.tl w, 2) :: (p :: r).map (fun p => (TL.tl p, 0)), fun x hx => ?_, ?_, ?_⟩
    · rcases List.mem_cons.mp hx with q | q
      · rw [q]; exact (hpt w (.head _)).1
      · obtain ⟨y, hy, q⟩ := List.mem_map.mp q
        rw [← q]
        exact (hpt y (.tail _ hy)).1
    · rw [List.map_cons, List.map_map]
      rfl
    · rw [join_cons2, splitM_at hw.2.1, join_cons2, join_one, TL.tl_append, TL.tl_append, TL.tl_append, TL.tl_append, mul_sp, mul_sp, List.append_assoc, List.append_assoc]
      show _ ++ (TL.tl w ++ TL.tl ("   " : Str) ++ (TL.tl (Txt.join (" " : Str) (p :: r)) ++ _)) = _ ++ ((TL.tl w ++ (List.replicate 3 32 ++ bodyB ((p :: r).map fun p => (TL.tl p, 0)))) ++ _)
      rw [body_tl, show TL.tl ("   " : Str) = List.replicate 3 32 by decide +kernel]
      simp only [List.append_assoc]
theorem wide_len (h : LDx d w F as) {a b : Int} (ha : a ≤ 3) (hb : b ≤ 3) : (Txt.join ("   " : Str) (Txt.splitMax (m__line_of d) (" " : Str) 1)).length ≤ 1240 ∧ (wideX (m__line_of d) a b).length ≤ 1500 := by
  have hw := words_pt w h.hw
  have hl := h.len
  have k : (Txt.join ("   " : Str) (Txt.splitMax (m__line_of d) (" " : Str) 1)).length ≤ 1240 := by
    rw [h.line] at hl ⊢
    unfold pr_ at hl ⊢
    cases e : wrsL as ((sgn F).map formOf) with
    | nil =>
      rw [e, join_one] at hl
      rw [join_one, splitM_no hw.2.1, join_one]
      omega
    | cons p r =>
      rw [e, join_cons2, len_app, len_app] at hl
      rw [join_cons2, splitM_at hw.2.1, join_cons2, join_one, len_app, len_app, show ("   " : Str).length = 3 by decide +kernel]
      omega
  refine ⟨k, ?_⟩
  unfold wideX
  rw [len_app, len_app, mulS_len, mulS_len, show (" " : Str).length = 1 by decide]
  omega
theorem wide_ok (h : LDx d w F as) {a b : Int} (ha : a ≤ 3) (hb : b ≤ 3) : LineOk (wideX (m__line_of d) a b) (some d) := by
  obtain ⟨B, h1, h2, h3⟩ := wide_tl h a b
  have hp := parts_is h1 h2 h3
  have hB : ∀ B : List (List Nat × Nat), (∀ p ∈ B, 10 ∉ p.1) → 10 ∉ bodyB B := by
    intro B
    induction B with
    | nil => intro _ q; cases q
    | cons p r ih =>
      intro k q
      cases r with
      | nil => exact k p (.head _) q
      | cons x r =>
        rcases List.mem_append.mp (show 10 ∈ p.1 ++ (List.replicate (p.2 + 1) 32 ++ bodyB (x :: r)) from q) with q | q
        · exact k p (.head _) q
        · rcases List.mem_append.mp q with q | q
          · cases (List.mem_replicate.mp q).2
          · exact ih (fun y hy => k y (.tail _ hy)) q
  refine ⟨(wide_len h ha hb).2, fun q => ?_, (fun q => by cases q), fun d2 q => ?_⟩
  · rw [h3] at q
    rcases List.mem_append.mp q with q | q
    · cases (List.mem_replicate.mp q).2
    · rcases List.mem_append.mp q with q | q
      · refine hB B (fun p hp2 => ?_) q
        have : p.1 ∈ B.map (·.1) := List.mem_map.mpr ⟨p, hp2, rfl⟩
        rw [h2] at this
        obtain ⟨x, hx, e⟩ := List.mem_map.mp this
        rw [← e]
        exact (pr_ok h x hx).2.1
      · cases (List.mem_replicate.mp q).2
  · rw [hp]
    cases q
    exact ⟨Nat.succ_pos _, h.back⟩
theorem line_ok (h : LDx d w F as) : LineOk (m__line_of d) (some d) := by
  have hpt := pr_ok h
  have e : TL.tl (m__line_of d) = List.replicate 0 32 ++ (bodyB ((pr_ w F as).map fun p => (TL.tl p, 0)) ++ List.replicate 0 32) := by
    rw [h.line, join_body]
    show _ = [] ++ (_ ++ [])
    rw [List.append_nil]
    rfl
  have hp : m__parts (m__line_of d) = pr_ w F as := parts_is (B := (pr_ w F as).map fun p => (TL.tl p, 0)) (fun p hp => by
    obtain ⟨y, hy, q⟩ := List.mem_map.mp hp
    rw [← q]
    exact (hpt y hy).1) (by rw [List.map_map]; rfl) e
  refine ⟨Nat.le_trans h.len (by decide), fun q => ?_, (fun q => by cases q), fun d2 q => ?_⟩
  · rw [h.line] at q
    rcases join_mem q with q | ⟨p, hp, q⟩
    · rw [sp32] at q
      cases List.mem_singleton.mp q
    · exact (hpt p hp).2.1 q
  · rw [hp]
    cases q
    exact ⟨Nat.succ_pos _, h.back⟩
end
theorem blank_ok : ∀ x ∈ [("" : Str), ("   " : Str)], LineOk x none := by
  intro x hx
  have k : ∀ x ∈ [("" : Str), ("   " : Str)], x.length ≤ 1500 ∧ 10 ∉ TL.tl x ∧ m__parts x = [] := by decide +kernel
  obtain ⟨a, b, c⟩ := k x hx
  exact ⟨a, b, fun _ => c, fun d q => by cases q⟩
theorem paired_mapR {α β : Type} {R : β → α → Prop} {f : α → β} : ∀ {l : List α}, (∀ x ∈ l, R (f x) x) → Paired R (l.map f) l
  | [], _ => .nil
  | x :: l, h => .cons (h x (.head _)) (paired_mapR fun y hy => h y (.tail _ hy))
theorem fm_some {α : Type} : ∀ l : List α, (l.map some).filterMap id = l
  | [] => rfl
  | x :: l => by
    show x :: (l.map some).filterMap id = _
    rw [fm_some l]
theorem one_blank : PreR ("" : Str) ∧ m_read_script ("" : Str) = [] := by
  have h := read_ok (lines := [("" : Str)]) (os := [none]) (.cons (blank_ok _ (.head _)) .nil) (by intro z; cases z) (by decide)
  rw [join_one] at h
  exact h
theorem join_nil0 (y : Str) : Txt.join y [] = ("" : Str) := by
  rw [TL.join_eq]
  exact tl_inj (by rw [show TL.tl ("" : Str) = [] by decide +kernel]; rfl)

def m_law_1 (d_71 : (List Str)) : ((List Str)) := d_71
def m_law_2 (d_58 : (List Str)) (d_36 : Int) (d_60 : (List Str)) : ((List Str)) := (m_law_1 (d_58 ++ [(((mulS (" " : Str) (d_36 % (3 : Int))) ++ (Txt.join ("   " : Str) d_60)) ++ (mulS (" " : Str) (d_36 % (2 : Int))))]))
def m_law_3 (d_21 : (List Str)) (d_58 : (List Str)) (d_36 : Int) : ((List Str)) := (m_law_2 d_58 d_36 (Txt.splitMax (getI d_21 d_36) (" " : Str) (1 : Int)))
def m_law_4 (d_21 : (List Str)) (d_44 : (List Str)) (d_36 : Int) : ((List Str)) := (m_law_3 d_21 (d_44 ++ [(getI (("" : Str) :: (("   " : Str) :: ([] : List Str))) (d_36 % (2 : Int)))]) d_36)
def m_law_5 (d_92 : (List Str)) : ((List Str)) := d_92
def m_law_6 (d_44 : (List Str)) (d_36 : Int) (d_81 : (List Str)) : ((List Str)) := (m_law_5 (d_44 ++ [(((mulS (" " : Str) (d_36 % (3 : Int))) ++ (Txt.join ("   " : Str) d_81)) ++ (mulS (" " : Str) (d_36 % (2 : Int))))]))
def m_law_7 (d_script : Scr) (d_21 : (List Str)) (d_44 : (List Str)) (d_36 : Int) : ((List Str)) := (cond (eqB (((m__law_cell d_script (1 : Int)) / (d_36 + (1 : Int))) % (3 : Int)) (0 : Int)) (m_law_4 d_21 d_44 d_36) (m_law_6 d_44 d_36 (Txt.splitMax (getI d_21 d_36) (" " : Str) (1 : Int))))
def m_law_8 (d_script : Scr) (d_21 : (List Str)) (s : (List Str)) (d_36 : Int) : ((List Str)) := m_law_7 d_script d_21 s (d_36)
def m_law_9 (d_9 : (List (Tpl PyData))) (d_107 : (List (Tpl PyData))) : (Step (Unit) Bool) := (cond ((!true) || (!(m__law_same (Dat.d (Tpl.mk d_107)) (Dat.d (Tpl.mk d_9))))) (Step.ret false) (Step.go ()))
def m_law_10 (d_9 : (List (Tpl PyData))) (d_97 : Str) : (Step (Unit) Bool) := (m_law_9 d_9 (m_read_script d_97))
def m_law_11 (d_9 : (List (Tpl PyData))) (s : Unit) (d_97 : Str) : (Step (Unit) Bool) := m_law_10 d_9 (d_97)
def m_law_12 (d_121 : (Tpl PyData)) : (Step (Unit) Bool) := (cond (!eqB (m_is_deed (Dat.d d_121)) true) (Step.ret false) (Step.go ()))
def m_law_13  (s : Unit) (d_121 : (Tpl PyData)) : (Step (Unit) Bool) := m_law_12 (d_121)
def m_law_14  (s : Unit) : Bool := ((PyData.eqv (Dat.d (m_read_script ("" : Str))) (Dat.d ([] : List (Tpl PyData)))) && (eqB (m_write_script ([] : List (Tpl PyData))) ("" : Str)))
def m_law_15 (d_9 : (List (Tpl PyData))) (s : Unit) : Bool := (exitF (runL m_law_13 () d_9) m_law_14)
def m_law_16 (d_9 : (List (Tpl PyData))) (d_21 : (List Str)) (s : (List Str)) : Bool := (exitF (runL (m_law_11 d_9) () ((Tpl.mk ((Txt.join ("\n" : Str) d_21) :: ((Txt.join ("\n" : Str) s) :: ([] : List Str))))).l) (m_law_15 d_9))
def m_law_17 (d_script : Scr) (d_9 : (List (Tpl PyData))) (d_21 : (List Str)) (d_33 : (List Str)) : Bool := (m_law_16 d_9 d_21 (List.foldl (m_law_8 d_script d_21) d_33 (rgs 0 ((d_21).length : Int))))
def m_law_18 (d_script : Scr) (d_9 : (List (Tpl PyData))) (d_21 : (List Str)) : Bool := (cond (!eqB (m_write_script d_9) (Txt.join ("\n" : Str) d_21)) false (m_law_17 d_script d_9 d_21 ([] : List Str)))
def m_law_19 (d_script : Scr) (d_9 : (List (Tpl PyData))) : Bool := (m_law_18 d_script d_9 (List.map (fun d_15 => (m__law_line d_15)) d_9))
def m_law (d_script : Scr) : Bool := (m_law_19 d_script (List.map (fun d_1 => (m__law_any_deed (m__law_cell d_script ((2 : Int) + d_1)))) (rgs 0 ((m__law_cell d_script (0 : Int)) % (41 : Int)))))
abbrev p_law (K : PySem.W.Frag) : Sp := sp1 K (fun s => s.l.length ≤ 63) m_law
section
variable {ds : List (Tpl PyData)}
theorem lines_map (h : ∀ d ∈ ds, PreL d) : ds.map m__law_line = ds.map m__line_of := List.map_congr_left fun d hd => by
  obtain ⟨w, F, as, k⟩ := h d hd
  exact k.law
theorem first_ok (h : ∀ d ∈ ds, PreL d) (hn : ds.length ≤ 41) : PreR (Txt.join ("\n" : Str) (ds.map m__line_of)) ∧ m_read_script (Txt.join ("\n" : Str) (ds.map m__line_of)) = ds := by
  cases ds with
  | nil =>
    rw [List.map_nil, join_nil0]
    exact one_blank
  | cons d ds =>
    have k := read_ok (lines := (d :: ds).map m__line_of) (os := (d :: ds).map some) (paired_map fun d hd => (h d hd).elim fun w k => k.elim fun F k => k.elim fun as k => line_ok k) (by intro z; cases z) (by rw [List.length_map]; omega)
    rw [fm_some] at k
    exact k
/-! the wide lines -/
def WInv (ds : List (Tpl PyData)) (k : Nat) (s : List Str) : Prop := ∃ os, Paired LineOk s os ∧ os.filterMap id = ds.take k ∧ s.length ≤ 2 * k
theorem paired_app {α β : Type} {R : α → β → Prop} : ∀ {l1 l2 : List α} {m1 m2 : List β}, Paired R l1 m1 → Paired R l2 m2 → Paired R (l1 ++ l2) (m1 ++ m2)
  | _, _, _, _, .nil, h => h
  | _, _, _, _, .cons a t, h => .cons a (paired_app t h)
theorem w_step (h : ∀ d ∈ ds, PreL d) (sc : Scr) {k : Nat} {s : List Str} (hk : k < ds.length) (hi : WInv ds k s) : WInv ds (k + 1) (m_law_8 sc (ds.map m__line_of) s (k : Int)) := by
  obtain ⟨os, hp, hf, hl⟩ := hi
  obtain ⟨w, F, as, hd⟩ := h ds[k] (List.getElem_mem hk)
  have h3 : (k : Int) % 3 ≤ 3 := by omega
  have h2 : (k : Int) % 2 ≤ 3 := by omega
  have eg : getI (ds.map m__line_of) (k : Int) = m__line_of ds[k] := by
    rw [getI_nat (by omega) (by rw [List.length_map]; omega), List.getD_eq_getElem?_getD]
    show ((ds.map m__line_of)[((k : Nat) : Int).toNat]?).getD default = _
    rw [show ((k : Nat) : Int).toNat = k by omega, List.getElem?_map, List.getElem?_eq_getElem hk]
    rfl
  have ht : ds.take (k + 1) = ds.take k ++ [ds[k]] := by rw [List.take_succ_eq_append_getElem hk]
  have hx := wide_ok hd h3 h2
  show WInv ds (k + 1) (m_law_7 sc (ds.map m__line_of) s (k : Int))
  unfold m_law_7
  cases eqB (m__law_cell sc 1 / ((k : Int) + 1) % 3) 0 with
  | true =>
    show WInv ds (k + 1) (s ++ [getI (("" : Str) :: (("   " : Str) :: ([] : List Str))) ((k : Int) % 2)] ++ [wideX (getI (ds.map m__line_of) (k : Int)) ((k : Int) % 3) ((k : Int) % 2)])
    rw [eg]
    refine ⟨os ++ [none] ++ [some ds[k]], paired_app (paired_app hp (.cons (blank_ok _ (g_mem (l := [("" : Str), ("   " : Str)]) (by decide))) .nil)) (.cons hx .nil), ?_, ?_⟩
    · rw [List.filterMap_append, List.filterMap_append, hf, ht]
      show ds.take k ++ [] ++ [ds[k]] = _
      rw [List.append_nil]
    · rw [List.length_append, List.length_append]
      show s.length + 1 + 1 ≤ _
      omega
  | false =>
    show WInv ds (k + 1) (s ++ [wideX (getI (ds.map m__line_of) (k : Int)) ((k : Int) % 3) ((k : Int) % 2)])
    rw [eg]
    refine ⟨os ++ [some ds[k]], paired_app hp (.cons hx .nil), ?_, ?_⟩
    · rw [List.filterMap_append, hf, ht]
      rfl
    · rw [List.length_append]
      show s.length + 1 ≤ _
      omega
theorem rgs_s (n : Nat) : rgs 0 ((n + 1 : Nat) : Int) = rgs 0 (n : Int) ++ [(n : Int)] := by
  have h := rgs_snoc 0 n
  unfold rgs
  rw [show ((((n + 1 : Nat) : Int)) - 0).toNat = n + 1 by omega, show (((n : Nat) : Int) - 0).toNat = n by omega, h]
  congr 2
  omega
theorem w_fold (h : ∀ d ∈ ds, PreL d) (sc : Scr) : ∀ n : Nat, n ≤ ds.length → WInv ds n ((rgs 0 (n : Int)).foldl (m_law_8 sc (ds.map m__line_of)) [])
  | 0, _ => ⟨[], .nil, by rw [List.take_zero]; rfl, Nat.le_refl _⟩
  | n + 1, hn => by
    rw [rgs_s, List.foldl_append]
    exact w_step h sc (by omega) (w_fold h sc n (by omega))
theorem wide_read (h : ∀ d ∈ ds, PreL d) (hn : ds.length ≤ 41) {s : List Str} (hi : WInv ds ds.length s) : PreR (Txt.join ("\n" : Str) s) ∧ m_read_script (Txt.join ("\n" : Str) s) = ds := by
  obtain ⟨os, hp, hf, hl⟩ := hi
  rw [List.take_length] at hf
  cases s with
  | nil =>
    cases hp
    rw [← hf, join_nil0]
    exact one_blank
  | cons x s =>
    have k := read_ok hp (by intro z; cases z) (by omega)
    rw [hf] at k
    exact k
end
def dsL (s : Scr) : List (Tpl PyData) := (rgs 0 (m__law_cell s 0 % 41)).map fun k => m__law_any_deed (m__law_cell s (2 + k))
theorem ds_ok (s : Scr) : (∀ d ∈ dsL s, PreL d) ∧ (dsL s).length ≤ 41 := by
  refine ⟨fun d hd => ?_, ?_⟩
  · obtain ⟨k, _, e⟩ := List.mem_map.mp hd
    rw [← e]
    exact any_ld _
  · unfold dsL
    rw [List.length_map, rgs_len]
    have := Int.emod_lt_of_pos (m__law_cell s 0) (show (0 : Int) < 41 by decide)
    omega
theorem take_rgs {i n : Nat} (h : i ≤ n) : List.take i (rgs 0 (n : Int)) = rgs 0 (i : Int) := by
  unfold rgs
  rw [← List.map_take, List.take_range]
  congr 2
  omega
theorem w_pre {ds : List (Tpl PyData)} {ls s0 : List Str} {sc : Scr} {i : Nat} (h : (∀ d ∈ ds, PreL d) ∧ ds.length ≤ 41) (e : ls = ds.map m__line_of) (e0 : [] = s0) (hi : (i : Int) < (ls.length : Int)) : WInv ds i (List.foldl (m_law_8 sc ls) s0 (List.take i (rgs 0 (ls.length : Int)))) := by
  subst e
  rw [List.length_map] at hi ⊢
  rw [take_rgs (by omega), ← e0]
  exact w_fold h.1 sc i (by omega)
theorem w_end {ds : List (Tpl PyData)} {ls s0 s1 : List Str} {sc : Scr} (h : (∀ d ∈ ds, PreL d) ∧ ds.length ≤ 41) (e : ls = ds.map m__line_of) (e0 : [] = s0) (e1 : List.foldl (m_law_8 sc ls) s0 (rgs 0 (ls.length : Int)) = s1) : WInv ds ds.length s1 := by
  subst e
  rw [List.length_map] at e1
  rw [← e1, ← e0]
  exact w_fold h.1 sc _ (Nat.le_refl _)
theorem w_lens {ds : List (Tpl PyData)} {s : List Str} {k : Nat} (h : WInv ds k s) : s.length ≤ 2 * k ∧ ∀ x ∈ s, x.length ≤ 1500 := by
  obtain ⟨os, hp, _, hl⟩ := h
  exact ⟨hl, fun x hx => (paired_left hp x hx).elim fun o k => k.n⟩
theorem text_ok {ds : List (Tpl PyData)} {ls s1 : List Str} {t : Str} {i : Nat} (h : (∀ d ∈ ds, PreL d) ∧ ds.length ≤ 41) (e : ls = ds.map m__line_of) (hw : WInv ds ds.length s1) (hx : (Tpl.mk (Txt.join ("\n" : Str) ls :: (Txt.join ("\n" : Str) s1 :: ([] : List Str)))).l[i]? = some t) : PreR t ∧ m_read_script t = ds := by
  have hm := List.mem_of_getElem? hx
  rcases List.mem_cons.mp (show t ∈ [Txt.join ("\n" : Str) ls, Txt.join ("\n" : Str) s1] from hm) with q | q
  · rw [q, e]; exact first_ok h.1 h.2
  · rw [List.mem_singleton.mp q]; exact wide_read h.1 h.2 hw
theorem dat_deed {d : Tpl PyData} : (Dat.d d : PyData) = .tuple d.l := dat_tpl d.l
theorem pl_deed {d : Tpl PyData} (h : PreL d) : d.l.length ≤ 6 ∧ ∀ x ∈ d.l, Pl 1 x ∧ PreD x := by
  obtain ⟨w, F, as, k⟩ := h
  have o := w_ok k.ao
  rw [k.e]
  refine ⟨by rw [List.length_cons, o.l1]; have := k.five.1; omega, fun x hx => ?_⟩
  rcases List.mem_cons.mp hx with q | q
  · obtain ⟨_, _, _, _, e, f⟩ := words_pt w k.hw
    rw [q]
    exact ⟨atom_s f, Nat.le_trans e (by decide)⟩
  · exact ⟨(o.pl x q).1, Nat.le_trans (o.pl x q).2 (by decide)⟩
theorem is_side {d : Tpl PyData} (h : PreL d) : (tupD (Dat.d d)).length ≤ 4000 ∧ ∀ x ∈ tupD (Dat.d d), PreD x := by
  rw [dat_deed]
  have k := pl_deed h
  exact ⟨Nat.le_trans k.1 (by decide), fun x hx => (k.2 x hx).2⟩
theorem same_pre {a ds : List (Tpl PyData)} (e : a = ds) (h : (∀ d ∈ ds, PreL d) ∧ ds.length ≤ 41) : (Dat.d (Tpl.mk a) : PyData) = Dat.d (Tpl.mk ds) ∧ Pl 3 (Dat.d (Tpl.mk ds)) := by
  refine ⟨by rw [e], .inr ⟨ds.map Dat.d, rfl, by rw [List.length_map]; have := h.2; omega, fun x hx => ?_⟩⟩
  obtain ⟨d, hd, q⟩ := List.mem_map.mp hx
  have k := pl_deed (h.1 d hd)
  rw [← q, dat_deed]
  exact .inr ⟨_, rfl, by have := k.1; omega, fun x hx => (k.2 x hx).1⟩
theorem split_two {d : Tpl PyData} (h : PreL d) : (Txt.splitMax (m__line_of d) (" " : Str) 1).length ≤ 2 ∧ (Txt.join ("   " : Str) (Txt.splitMax (m__line_of d) (" " : Str) 1)).length ≤ 1240 := by
  obtain ⟨w, F, as, h⟩ := h
  refine ⟨?_, (wide_len h (a := 0) (b := 0) (by decide) (by decide)).1⟩
  have hw := words_pt w h.hw
  rw [h.line]
  unfold pr_
  cases wrsL as ((sgn F).map formOf) with
  | nil =>
    rw [join_one, splitM_no hw.2.1]
    exact Nat.le_succ _
  | cons p r =>
    rw [join_cons2, splitM_at hw.2.1]
    exact Nat.le_refl _
theorem get_line {ds : List (Tpl PyData)} {ls : List Str} {k : Int} (h : (∀ d ∈ ds, PreL d) ∧ ds.length ≤ 41) (e : ls = ds.map m__line_of) (h0 : 0 ≤ k) (h1 : k < (ls.length : Int)) : ∃ d, PreL d ∧ getI ls k = m__line_of d := by
  have hm := getI_mem (at_in h0 h1)
  rw [e] at hm
  obtain ⟨d, hd, q⟩ := List.mem_map.mp hm
  exact ⟨d, h.1 d hd, by rw [e]; exact q.symm⟩
theorem ws_ok {x : Str} {l : List Str} (h : ∃ d, PreL d ∧ x = m__line_of d) (e : Txt.splitMax x (" " : Str) 1 = l) : (List.map (fun x => x.length) l).sum + l.length * ("   " : Str).length ≤ 2000 ∧ (Txt.join ("   " : Str) l).length ≤ 1240 := by
  obtain ⟨d, h, q⟩ := h
  subst e
  rw [q]
  obtain ⟨h1, h2⟩ := split_two h
  refine ⟨?_, h2⟩
  rw [join_len] at h2
  rw [show ("   " : Str).length = 3 by decide +kernel] at h2 ⊢
  omega
theorem law_end : m_law_14 () = true := by decide +kernel
theorem law_true (ns : List Int) (_ : ns.length ≤ 63) : m_law ⟨ns⟩ = true := by
  generalize (⟨ns⟩ : Scr) = s
  show m_law_19 s (dsL s) = true
  obtain ⟨h, hn⟩ := ds_ok s
  generalize dsL s = ds at h hn
  unfold m_law_19
  show m_law_18 s ds (ds.map m__law_line) = true
  rw [lines_map h]
  unfold m_law_18
  rw [show eqB (m_write_script ds) (Txt.join ("\n" : Str) (ds.map m__line_of)) = true from decide_eq_true rfl]
  show m_law_16 ds (ds.map m__line_of) ((rgs 0 (((ds.map m__line_of).length : Nat) : Int)).foldl (m_law_8 s (ds.map m__line_of)) []) = true
  rw [List.length_map]
  have hw := wide_read h hn (w_fold h s ds.length (Nat.le_refl _))
  have hf := first_ok h hn
  generalize (rgs 0 ((ds.length : Nat) : Int)).foldl (m_law_8 s (ds.map m__line_of)) [] = wd at hw
  have one : ∀ t, m_read_script t = ds → m_law_11 ds () t = .go () := fun t e => by
    show m_law_9 ds (m_read_script t) = _
    rw [e]
    rfl
  unfold m_law_16
  rw [runL_all (l := (Tpl.mk (Txt.join ("\n" : Str) (ds.map m__line_of) :: (Txt.join ("\n" : Str) wd :: ([] : List Str)))).l) fun x hx => by
    rcases List.mem_cons.mp (show x ∈ [Txt.join ("\n" : Str) (ds.map m__line_of), Txt.join ("\n" : Str) wd] from hx) with q | q
    · rw [q]; exact one _ hf.2
    · rw [List.mem_singleton.mp q]; exact one _ hw.2]
  show m_law_15 ds () = true
  unfold m_law_15
  rw [runL_all fun d hd => by
    obtain ⟨w, F, as, k⟩ := h d hd
    show m_law_12 d = _
    unfold m_law_12
    rw [k.deed]
    rfl]
  exact law_end

theorem ok_law (T : Tx w K mg base A) : FnOk P w K mg base CX0 6 A.f_law A.d_law ["script"] (p_law K) := by
  refine T.F_law.ok sc_law (fun vs He Q E h => ?_) (fun cdv A0 outer s He vs Q E hr h => ⟨_, (pss_cons (ps_setLc (i := 1) (own := [("k", 4)]) (g := gName 4) (tt := tYes) rfl sc_law.nd rfl rfl (sw_true rfl rfl rfl (by decide +kernel)) (pi_range1 rfl T.n_range (pa_cons (pe_op op_mod (pe_call (ok__law_cell T) (hr.mono (by decide)) rfl T.g__law_cell T.F__law_cell.kp T.b__law_cell .nil pass0 (pa_cons (pv 0) (pa_cons pe_int pa_nil))) pe_int) pa_nil)) (blkOk_by (N := n_law) (sc := defScope s_law) (by decide +kernel)) (fun _ _ _ _ _ => pg_name (i := 4) sc_law.nd rfl (Or.inl rfl)) (fun _ _ _ _ _ => pts_nil) (fun _ _ _ _ _ => (pe_call (ok__law_any_deed T) (hr.mono (by decide)) rfl T.g__law_any_deed T.F__law_any_deed.kp T.b__law_any_deed .nil pass0 (pa_cons (pe_call (ok__law_cell T) (hr.mono (by decide)) rfl T.g__law_cell T.F__law_cell.kp T.b__law_cell .nil pass0 (pa_cons (pv 0) (pa_cons (pe_op op_add pe_int (pv 4)) pa_nil))) pa_nil)))) (pss_cons (ps_setLc (i := 2) (own := [("deed", 6)]) (g := gName 6) (tt := tYes) rfl sc_law.nd rfl rfl (sw_true rfl rfl rfl (by decide +kernel)) (pi_listK (K := K) (pv 1)) (blkOk_by (N := n_law) (sc := defScope s_law) (by decide +kernel)) (fun _ _ _ _ _ => pg_name (i := 6) sc_law.nd rfl (Or.inl rfl)) (fun _ _ _ _ _ => pts_nil) (fun _ _ _ _ _ => (pe_call (ok__law_line T) (hr.mono (by decide)) rfl T.g__law_line T.F__law_line.kp T.b__law_line .nil pass0 (pa_cons (pv 6) pa_nil)))) (pss_cons (ps_if (pt_cmpR op_ne (pe_call (ok_write_script T) (hr.mono (by decide)) rfl T.g_write_script T.F_write_script.kp T.b_write_script .nil pass0 (pa_cons (pe_callTy (call_listK (K := K)) rfl T.n_list boot_list (pa_cons (pv 1) pa_nil)) pa_nil)) (pe_joinK (K := K) pe_str (pv 2)) (nomark _)) (pss_one (ps_ret pe_bl)) pss_nil) (pss_cons (ps_set (i := 3) sc_law.nd rfl (Or.inl rfl) (pe_lst pa_nil)) (pss_cons (ps_for PassesOwn.never rfl (pi_range1 rfl T.n_range (pa_cons (pe_callB (call_lenK (K := K)) rfl T.n_len boot_len (pa_cons (pv 2) pa_nil)) pa_nil)) (pg_name (i := 4) sc_law.nd rfl (Or.inl rfl)) (pss_cons (ps_if (pt_cmpR op_eq (pe_op op_mod (pe_op op_fdiv (pe_call (ok__law_cell T) (hr.mono (by decide)) rfl T.g__law_cell T.F__law_cell.kp T.b__law_cell .nil pass0 (pa_cons (pv 0) (pa_cons pe_int pa_nil))) (pe_op op_add (pv 4) pe_int)) pe_int) pe_int (nomark _)) (pss_one (ps_expr (pe_bmK (K := K) PySem.F.plainAttrs_list PySem.F.slot_list_append PySem.F.type_list_append mt_append (pv 3) (pa_cons (pe_ix (ix_listK (K := K)) (pe_lst (pa_cons pe_str (pa_cons pe_str pa_nil))) (pe_op op_mod (pv 4) pe_int) fun _ _ => rfl) pa_nil)))) pss_nil) (pss_cons (ps_set (i := 7) sc_law.nd rfl (Or.inl rfl) (pe_bmK (K := K) PySem.F.plainAttrs_str PySem.F.slot_str_split PySem.F.type_str_split mt_splitMax (pe_ix (ix_listK (K := K)) (pv 2) (pv 4) fun _ _ => rfl) (pa_cons pe_str (pa_cons pe_int pa_nil)))) (pss_one (ps_expr (pe_bmK (K := K) PySem.F.plainAttrs_list PySem.F.slot_list_append PySem.F.type_list_append mt_append (pv 3) (pa_cons (pe_op op_add_str (pe_op op_add_str (pe_op op_repS pe_str (pe_op op_mod (pv 4) pe_int)) (pe_joinK (K := K) pe_str (pv 7))) (pe_op op_repS pe_str (pe_op op_mod (pv 4) pe_int))) pa_nil))))))) (pss_cons (ps_for PassesOwn.never rfl (pi_tupK (K := K) (pe_tup (pa_cons (pe_joinK (K := K) pe_str (pv 2)) (pa_cons (pe_joinK (K := K) pe_str (pv 3)) pa_nil)))) (pg_name (i := 5) sc_law.nd rfl (Or.inl rfl)) (pss_cons (ps_set (i := 8) sc_law.nd rfl (Or.inl rfl) (pe_call (ok_read_script T) (hr.mono (by decide)) rfl T.g_read_script T.F_read_script.kp T.b_read_script .nil pass0 (pa_cons (pv 5) pa_nil))) (pss_one (ps_if (PW.pt (pw_or (pt_not (pt_val (pe_callB (call_isiK (K := K)) rfl T.n_isinstance boot_isinstance (pa_cons (pv 8) (pa_cons (pe_bltn (v := .ty "list") rfl T.n_list (by decide +kernel) rfl) pa_nil))))) (pw_or1 (pt_not (pt_val (pe_call (ok__law_same T) (hr.mono (by decide)) rfl T.g__law_same T.F__law_same.kp T.b__law_same .nil pass0 (pa_cons (pe_callTy (call_tupleK (K := K)) rfl T.n_tuple boot_tuple (pa_cons (pv 8) pa_nil)) (pa_cons (pe_callTy (call_tupleK (K := K)) rfl T.n_tuple boot_tuple (pa_cons (pv 1) pa_nil)) pa_nil)))))))) (pss_one (ps_ret pe_bl)) pss_nil)))) (pss_cons (ps_for PassesOwn.never rfl (pi_listK (K := K) (pv 1)) (pg_name (i := 6) sc_law.nd rfl (Or.inl rfl)) (pss_one (ps_if (pt_cmpR op_isnot_bl (pe_call (ok_is_deed T) (hr.mono (by decide)) rfl T.g_is_deed T.F_is_deed.kp T.b_is_deed .nil pass0 (pa_cons (pv 6) pa_nil)) pe_bl (nomark _)) (pss_one (ps_ret pe_bl)) pss_nil))) (pss_one (ps_ret (pe_and (pe_cmpR (op_eqK (K := K) hr.units) (pe_call (ok_read_script T) (hr.mono (by decide)) rfl T.g_read_script T.F_read_script.kp T.b_read_script .nil pass0 (pa_cons pe_str pa_nil)) (pe_lst pa_nil) (nomark _)) (pe_one (pe_cmpR op_eq (pe_call (ok_write_script T) (hr.mono (by decide)) rfl T.g_write_script T.F_write_script.kp T.b_write_script .nil pass0 (pa_cons (pe_lst pa_nil) pa_nil)) pe_str (nomark _))))))))))))), ?_⟩)
  · obtain ⟨d_script, w_script, G, rfl, eG, h_script, hpre, hQ⟩ := h
    rfl
  · obtain ⟨d_script, w_script, G, rfl, eG, h_script, hpre, hQ⟩ := h
    have gr : Grow G He G He := Grow.refl eG
    obtain ⟨Ge, eGe⟩ : ∃ z, z = G := ⟨G, rfl⟩
    have gr : Grow Ge He G He := by rw [eGe]; exact gr
    rw [← eGe] at hQ
    clear eGe
    have hM : m_law d_script = (m_law_19 d_script (List.map (fun d_1 => (m__law_any_deed (m__law_cell d_script ((2 : Int) + d_1)))) (rgs 0 ((m__law_cell d_script (0 : Int)) % (41 : Int))))) := rfl
    refine q_asg (K := K) gr.s (ev_lcR1m (fun d_1 => (m__law_any_deed (m__law_cell d_script ((2 : Int) + d_1)))) (ev_mod (ev_call2 (ev_var rfl h_script) ev_int (by first | (first | exact lt_l fds.2 | exact fds.1 _ (by assumption) | exact ⟨Nat.le_trans fds.2 (by decide), fds.1⟩ | exact sum_side fll flb (by decide) (by decide) | exact ⟨by omega, by omega⟩ | omega | exact lt_l (Nat.le_trans fwl.1 (by omega)) (by decide : 1000 < sizeLine) | exact lt_l fw | exact at_m (Nat.succ_pos _) | exact ⟨by decide, by decide, by decide, by have := flb _ (getI_mem (at_in lo_0 hi_0)); exact Nat.le_trans (Nat.add_le_add_right this 2) (by decide)⟩ | exact mul_side (by decide) (by decide) | exact Nat.le_trans fws.1 (by decide) | exact Nat.le_trans (Nat.add_le_add (m3len _) fws.2) (by decide) | (rw [len_app]; exact Nat.le_trans (Nat.add_le_add (Nat.add_le_add (m3len _) fws.2) (m2len _)) (by decide)) | exact sum_side (m := 82) (Nat.le_trans fwe.1 (by have := fds.2; omega)) fwe.2 (by decide) (by decide) | exact ft.1 | exact same_pre ((by assumption : _ = _).symm.trans ft.2) fds | exact is_side fdd | exact one_blank.1 | exact ⟨by decide, fun d h => by cases h⟩) | (first | omega | decide))) ev_int (by first | (first | exact lt_l fds.2 | exact fds.1 _ (by assumption) | exact ⟨Nat.le_trans fds.2 (by decide), fds.1⟩ | exact sum_side fll flb (by decide) (by decide) | exact ⟨by omega, by omega⟩ | omega | exact lt_l (Nat.le_trans fwl.1 (by omega)) (by decide : 1000 < sizeLine) | exact lt_l fw | exact at_m (Nat.succ_pos _) | exact ⟨by decide, by decide, by decide, by have := flb _ (getI_mem (at_in lo_0 hi_0)); exact Nat.le_trans (Nat.add_le_add_right this 2) (by decide)⟩ | exact mul_side (by decide) (by decide) | exact Nat.le_trans fws.1 (by decide) | exact Nat.le_trans (Nat.add_le_add (m3len _) fws.2) (by decide) | (rw [len_app]; exact Nat.le_trans (Nat.add_le_add (Nat.add_le_add (m3len _) fws.2) (m2len _)) (by decide)) | exact sum_side (m := 82) (Nat.le_trans fwe.1 (by have := fds.2; omega)) fwe.2 (by decide) (by decide) | exact ft.1 | exact same_pre ((by assumption : _ = _).symm.trans ft.2) fds | exact is_side fdd | exact one_blank.1 | exact ⟨by decide, fun d h => by cases h⟩) | (first | omega | decide | (show _ ≤ sizeLine; decide) | (show _ < sizeLine; decide)))) (by first | (first | exact lt_l fds.2 | exact fds.1 _ (by assumption) | exact ⟨Nat.le_trans fds.2 (by decide), fds.1⟩ | exact sum_side fll flb (by decide) (by decide) | exact ⟨by omega, by omega⟩ | omega | exact lt_l (Nat.le_trans fwl.1 (by omega)) (by decide : 1000 < sizeLine) | exact lt_l fw | exact at_m (Nat.succ_pos _) | exact ⟨by decide, by decide, by decide, by have := flb _ (getI_mem (at_in lo_0 hi_0)); exact Nat.le_trans (Nat.add_le_add_right this 2) (by decide)⟩ | exact mul_side (by decide) (by decide) | exact Nat.le_trans fws.1 (by decide) | exact Nat.le_trans (Nat.add_le_add (m3len _) fws.2) (by decide) | (rw [len_app]; exact Nat.le_trans (Nat.add_le_add (Nat.add_le_add (m3len _) fws.2) (m2len _)) (by decide)) | exact sum_side (m := 82) (Nat.le_trans fwe.1 (by have := fds.2; omega)) fwe.2 (by decide) (by decide) | exact ft.1 | exact same_pre ((by assumption : _ = _).symm.trans ft.2) fds | exact is_side fdd | exact one_blank.1 | exact ⟨by decide, fun d h => by cases h⟩) | (first | omega | decide | (show _ ≤ sizeLine; decide) | (show _ < sizeLine; decide))) (fun d_1 G_ H_ lo7 hi8 sg4 sh_ P k => by have h_script := up sg4 h_script; have h_3 : rep K d_1 (V.int d_1) G_ := rfl; exact k _ rfl eb_yes (fun hc5 => (ev_call1 (ev_call2 (ev_var rfl h_script) (ev_add ev_int (ev_var rfl h_3)) (by first | (first | exact lt_l fds.2 | exact fds.1 _ (by assumption) | exact ⟨Nat.le_trans fds.2 (by decide), fds.1⟩ | exact sum_side fll flb (by decide) (by decide) | exact ⟨by omega, by omega⟩ | omega | exact lt_l (Nat.le_trans fwl.1 (by omega)) (by decide : 1000 < sizeLine) | exact lt_l fw | exact at_m (Nat.succ_pos _) | exact ⟨by decide, by decide, by decide, by have := flb _ (getI_mem (at_in lo_0 hi_0)); exact Nat.le_trans (Nat.add_le_add_right this 2) (by decide)⟩ | exact mul_side (by decide) (by decide) | exact Nat.le_trans fws.1 (by decide) | exact Nat.le_trans (Nat.add_le_add (m3len _) fws.2) (by decide) | (rw [len_app]; exact Nat.le_trans (Nat.add_le_add (Nat.add_le_add (m3len _) fws.2) (m2len _)) (by decide)) | exact sum_side (m := 82) (Nat.le_trans fwe.1 (by have := fds.2; omega)) fwe.2 (by decide) (by decide) | exact ft.1 | exact same_pre ((by assumption : _ = _).symm.trans ft.2) fds | exact is_side fdd | exact one_blank.1 | exact ⟨by decide, fun d h => by cases h⟩) | (first | omega | decide))) True.intro)))) fun w_10 G13 H14 g12 (h_11 : rep K (List.map (fun d_1 => (m__law_any_deed (m__law_cell d_script ((2 : Int) + d_1)))) (rgs 0 ((m__law_cell d_script (0 : Int)) % (41 : Int)))) w_10 G13) => ?_
    have h_script := up g12.g h_script
    have gr := gr.trans g12
    generalize ed_9 : (List.map (fun d_1 => (m__law_any_deed (m__law_cell d_script ((2 : Int) + d_1)))) (rgs 0 ((m__law_cell d_script (0 : Int)) % (41 : Int)))) = d_9 at h_11 hM
    unfold m_law_19 at hM
    have fds : (∀ d ∈ d_9, PreL d) ∧ d_9.length ≤ 41 := by rw [← ed_9]; exact ds_ok d_script
    refine q_asg (K := K) gr.s (ev_lcLm (fun d_15 => (m__law_line d_15)) (ev_var rfl h_11) (by first | (first | exact lt_l fds.2 | exact fds.1 _ (by assumption) | exact ⟨Nat.le_trans fds.2 (by decide), fds.1⟩ | exact sum_side fll flb (by decide) (by decide) | exact ⟨by omega, by omega⟩ | omega | exact lt_l (Nat.le_trans fwl.1 (by omega)) (by decide : 1000 < sizeLine) | exact lt_l fw | exact at_m (Nat.succ_pos _) | exact ⟨by decide, by decide, by decide, by have := flb _ (getI_mem (at_in lo_0 hi_0)); exact Nat.le_trans (Nat.add_le_add_right this 2) (by decide)⟩ | exact mul_side (by decide) (by decide) | exact Nat.le_trans fws.1 (by decide) | exact Nat.le_trans (Nat.add_le_add (m3len _) fws.2) (by decide) | (rw [len_app]; exact Nat.le_trans (Nat.add_le_add (Nat.add_le_add (m3len _) fws.2) (m2len _)) (by decide)) | exact sum_side (m := 82) (Nat.le_trans fwe.1 (by have := fds.2; omega)) fwe.2 (by decide) (by decide) | exact ft.1 | exact same_pre ((by assumption : _ = _).symm.trans ft.2) fds | exact is_side fdd | exact one_blank.1 | exact ⟨by decide, fun d h => by cases h⟩) | (first | omega | decide | (show _ ≤ sizeLine; decide) | (show _ < sizeLine; decide))) (fun d_15 w_16 G_ H_ sg18 sh_ hm20 h_17 P k => by exact k _ rfl eb_yes (fun hc19 => (ev_call1 (ev_var rfl h_17) (by first | (first | exact lt_l fds.2 | exact fds.1 _ (by assumption) | exact ⟨Nat.le_trans fds.2 (by decide), fds.1⟩ | exact sum_side fll flb (by decide) (by decide) | exact ⟨by omega, by omega⟩ | omega | exact lt_l (Nat.le_trans fwl.1 (by omega)) (by decide : 1000 < sizeLine) | exact lt_l fw | exact at_m (Nat.succ_pos _) | exact ⟨by decide, by decide, by decide, by have := flb _ (getI_mem (at_in lo_0 hi_0)); exact Nat.le_trans (Nat.add_le_add_right this 2) (by decide)⟩ | exact mul_side (by decide) (by decide) | exact Nat.le_trans fws.1 (by decide) | exact Nat.le_trans (Nat.add_le_add (m3len _) fws.2) (by decide) | (rw [len_app]; exact Nat.le_trans (Nat.add_le_add (Nat.add_le_add (m3len _) fws.2) (m2len _)) (by decide)) | exact sum_side (m := 82) (Nat.le_trans fwe.1 (by have := fds.2; omega)) fwe.2 (by decide) (by decide) | exact ft.1 | exact same_pre ((by assumption : _ = _).symm.trans ft.2) fds | exact is_side fdd | exact one_blank.1 | exact ⟨by decide, fun d h => by cases h⟩) | (first | omega | decide)))))) fun w_22 G25 H26 g24 (h_23 : rep K (List.map (fun d_15 => (m__law_line d_15)) d_9) w_22 G25) => ?_
    have h_script := up g24.g h_script
    have h_11 := up g24.g h_11
    have gr := gr.trans g24
    generalize ed_21 : (List.map (fun d_15 => (m__law_line d_15)) d_9) = d_21 at h_23 hM
    unfold m_law_18 at hM
    have fln : d_21 = d_9.map m__line_of := by rw [← ed_21]; exact lines_map fds.1
    have fll : d_21.length ≤ 41 := by rw [fln, List.length_map]; exact fds.2
    have flb : ∀ x ∈ d_21, x.length ≤ 1230 := by rw [fln]; exact mem_map_all fun d hd => pl_len (fds.1 d hd)
    refine q_if gr.s (et_test (ev_ne (ev_call1 (ev_listL (ev_var rfl h_11)) (by first | (first | exact lt_l fds.2 | exact fds.1 _ (by assumption) | exact ⟨Nat.le_trans fds.2 (by decide), fds.1⟩ | exact sum_side fll flb (by decide) (by decide) | exact ⟨by omega, by omega⟩ | omega | exact lt_l (Nat.le_trans fwl.1 (by omega)) (by decide : 1000 < sizeLine) | exact lt_l fw | exact at_m (Nat.succ_pos _) | exact ⟨by decide, by decide, by decide, by have := flb _ (getI_mem (at_in lo_0 hi_0)); exact Nat.le_trans (Nat.add_le_add_right this 2) (by decide)⟩ | exact mul_side (by decide) (by decide) | exact Nat.le_trans fws.1 (by decide) | exact Nat.le_trans (Nat.add_le_add (m3len _) fws.2) (by decide) | (rw [len_app]; exact Nat.le_trans (Nat.add_le_add (Nat.add_le_add (m3len _) fws.2) (m2len _)) (by decide)) | exact sum_side (m := 82) (Nat.le_trans fwe.1 (by have := fds.2; omega)) fwe.2 (by decide) (by decide) | exact ft.1 | exact same_pre ((by assumption : _ = _).symm.trans ft.2) fds | exact is_side fdd | exact one_blank.1 | exact ⟨by decide, fun d h => by cases h⟩) | (first | omega | decide))) (ev_join ev_str (ev_var rfl h_23) (by first | (first | exact lt_l fds.2 | exact fds.1 _ (by assumption) | exact ⟨Nat.le_trans fds.2 (by decide), fds.1⟩ | exact sum_side fll flb (by decide) (by decide) | exact ⟨by omega, by omega⟩ | omega | exact lt_l (Nat.le_trans fwl.1 (by omega)) (by decide : 1000 < sizeLine) | exact lt_l fw | exact at_m (Nat.succ_pos _) | exact ⟨by decide, by decide, by decide, by have := flb _ (getI_mem (at_in lo_0 hi_0)); exact Nat.le_trans (Nat.add_le_add_right this 2) (by decide)⟩ | exact mul_side (by decide) (by decide) | exact Nat.le_trans fws.1 (by decide) | exact Nat.le_trans (Nat.add_le_add (m3len _) fws.2) (by decide) | (rw [len_app]; exact Nat.le_trans (Nat.add_le_add (Nat.add_le_add (m3len _) fws.2) (m2len _)) (by decide)) | exact sum_side (m := 82) (Nat.le_trans fwe.1 (by have := fds.2; omega)) fwe.2 (by decide) (by decide) | exact ft.1 | exact same_pre ((by assumption : _ = _).symm.trans ft.2) fds | exact is_side fdd | exact one_blank.1 | exact ⟨by decide, fun d h => by cases h⟩) | (first | omega | decide | (show _ ≤ sizeLine; decide) | (show _ < sizeLine; decide)))))) ?_ ?_
    · intro hb28 G29 H30 g27
      have h_script := up g27.g h_script
      have h_11 := up g27.g h_11
      have h_23 := up g27.g h_23
      have gr := gr.trans g27
      replace hM := condT hM hb28
      refine s_ret (K := K) gr.s ev_bl fun u Gr Hr gq hu => ?_
      exact hQ u Gr Hr (gr.trans gq) (by rw [hM]; exact hu)
    · intro hb28 G31 H32 g27
      have h_script := up g27.g h_script
      have h_11 := up g27.g h_11
      have h_23 := up g27.g h_23
      have gr := gr.trans g27
      replace hM := condF hM hb28
      refine s_next ?_
      refine nx_mk ?_
      refine q_newF gr fun a35 H140 hF_35 hN_35 np35 hH_35 gr sm35 => ?_
      have h_34 := reps_nil (K := K) (α := Str) gr
      generalize ed_33 : ([] : List Str) = d_33 at h_34 hM
      unfold m_law_17 at hM
      refine q_forR1 (K := K) gr.s (ev_lenL (ev_var rfl h_23)) (by first | (first | exact lt_l fds.2 | exact fds.1 _ (by assumption) | exact ⟨Nat.le_trans fds.2 (by decide), fds.1⟩ | exact sum_side fll flb (by decide) (by decide) | exact ⟨by omega, by omega⟩ | omega | exact lt_l (Nat.le_trans fwl.1 (by omega)) (by decide : 1000 < sizeLine) | exact lt_l fw | exact at_m (Nat.succ_pos _) | exact ⟨by decide, by decide, by decide, by have := flb _ (getI_mem (at_in lo_0 hi_0)); exact Nat.le_trans (Nat.add_le_add_right this 2) (by decide)⟩ | exact mul_side (by decide) (by decide) | exact Nat.le_trans fws.1 (by decide) | exact Nat.le_trans (Nat.add_le_add (m3len _) fws.2) (by decide) | (rw [len_app]; exact Nat.le_trans (Nat.add_le_add (Nat.add_le_add (m3len _) fws.2) (m2len _)) (by decide)) | exact sum_side (m := 82) (Nat.le_trans fwe.1 (by have := fds.2; omega)) fwe.2 (by decide) (by decide) | exact ft.1 | exact same_pre ((by assumption : _ = _).symm.trans ft.2) fds | exact is_side fdd | exact one_blank.1 | exact ⟨by decide, fun d h => by cases h⟩) | (first | (constructor <;> omega) | (decide))) fun G39 H40 g42 => ?_
      have h_script := up g42.g h_script
      have h_11 := up g42.g h_11
      have h_23 := up g42.g h_23
      have hN_35 := g42.f _ _ hH_35 hN_35
      have hH_35 := g42.h.l hH_35
      have h_34 := Reps.up g42.g h_34
      have gr := gr.trans g42
      refine ⟨fun i_ σ_ H_ => ∃ (G139 : Hp) (o_47 : Option V) (o_48 : Option V), Grow Ge He G139 H_ ∧ Same G39 G139 ∧ σ_ = [some w_script, some w_10, some w_22, some (V.ref a35), o_48, none, none, o_47, none] ∧ (∃ zs, Reps K ((List.foldl (m_law_8 d_script d_21) d_33 (List.take i_ (rgs 0 ((d_21).length : Int)))) : (List Str)) zs G139 ∧ H_ a35 = some (.lst zs) ∧ G139 a35 = none), ⟨_, _, _, gr, Same.refl _, rfl, ⟨_, h_34, hH_35, hN_35⟩⟩, ?_, ?_⟩
      · rintro i_0 σ_0 H_0 hlt_0 ⟨G139, o_47, o_48, gr, sg0, rfl, ⟨zs_35, h_46, hH_35, hN_35⟩⟩
        obtain ⟨d_36, hx0_0, hx0, lo_0, hi_0⟩ := rgs_at0 hlt_0
        rw [hx0_0]
        have h_38 : rep K d_36 (V.int d_36) G139 := rfl
        generalize ew_37 : V.int d_36 = w_37 at h_38
        have h_script := up sg0 h_script
        have h_11 := up sg0 h_11
        have h_23 := up sg0 h_23
        have hMo0 := hM
        clear hM
        have hM : (List.foldl (m_law_8 d_script d_21) d_33 (List.take (i_0 + 1) (rgs 0 ((d_21).length : Int)))) = (m_law_8 d_script d_21) (List.foldl (m_law_8 d_script d_21) d_33 (List.take i_0 (rgs 0 ((d_21).length : Int)))) d_36 := by rw [take_snoc hx0, List.foldl_append]; rfl
        have fl_0 := w_pre (i := i_0) (sc := d_script) fds fln ed_33 hlt_0
        generalize (List.foldl (m_law_8 d_script d_21) d_33 (List.take i_0 (rgs 0 ((d_21).length : Int)))) = st_0 at h_46 fl_0 hM
        obtain ⟨d_44, est_0⟩ : ∃ z, z = st_0 := ⟨_, rfl⟩
        subst est_0
        conv at hM => rhs; unfold m_law_8; unfold m_law_7
        have fgl := get_line fds fln lo_0 hi_0
        have fwl := w_lens fl_0
        refine q_if gr.s (et_test (ev_eq (ev_mod (ev_fdiv (ev_call2 (ev_var rfl h_script) ev_int (by first | (first | exact lt_l fds.2 | exact fds.1 _ (by assumption) | exact ⟨Nat.le_trans fds.2 (by decide), fds.1⟩ | exact sum_side fll flb (by decide) (by decide) | exact ⟨by omega, by omega⟩ | omega | exact lt_l (Nat.le_trans fwl.1 (by omega)) (by decide : 1000 < sizeLine) | exact lt_l fw | exact at_m (Nat.succ_pos _) | exact ⟨by decide, by decide, by decide, by have := flb _ (getI_mem (at_in lo_0 hi_0)); exact Nat.le_trans (Nat.add_le_add_right this 2) (by decide)⟩ | exact mul_side (by decide) (by decide) | exact Nat.le_trans fws.1 (by decide) | exact Nat.le_trans (Nat.add_le_add (m3len _) fws.2) (by decide) | (rw [len_app]; exact Nat.le_trans (Nat.add_le_add (Nat.add_le_add (m3len _) fws.2) (m2len _)) (by decide)) | exact sum_side (m := 82) (Nat.le_trans fwe.1 (by have := fds.2; omega)) fwe.2 (by decide) (by decide) | exact ft.1 | exact same_pre ((by assumption : _ = _).symm.trans ft.2) fds | exact is_side fdd | exact one_blank.1 | exact ⟨by decide, fun d h => by cases h⟩) | (first | omega | decide))) (ev_add (ev_var rfl h_38) ev_int) ⟨(by first | (first | exact lt_l fds.2 | exact fds.1 _ (by assumption) | exact ⟨Nat.le_trans fds.2 (by decide), fds.1⟩ | exact sum_side fll flb (by decide) (by decide) | exact ⟨by omega, by omega⟩ | omega | exact lt_l (Nat.le_trans fwl.1 (by omega)) (by decide : 1000 < sizeLine) | exact lt_l fw | exact at_m (Nat.succ_pos _) | exact ⟨by decide, by decide, by decide, by have := flb _ (getI_mem (at_in lo_0 hi_0)); exact Nat.le_trans (Nat.add_le_add_right this 2) (by decide)⟩ | exact mul_side (by decide) (by decide) | exact Nat.le_trans fws.1 (by decide) | exact Nat.le_trans (Nat.add_le_add (m3len _) fws.2) (by decide) | (rw [len_app]; exact Nat.le_trans (Nat.add_le_add (Nat.add_le_add (m3len _) fws.2) (m2len _)) (by decide)) | exact sum_side (m := 82) (Nat.le_trans fwe.1 (by have := fds.2; omega)) fwe.2 (by decide) (by decide) | exact ft.1 | exact same_pre ((by assumption : _ = _).symm.trans ft.2) fds | exact is_side fdd | exact one_blank.1 | exact ⟨by decide, fun d h => by cases h⟩) | (first | omega | decide | (show _ ≤ sizeLine; decide) | (show _ < sizeLine; decide))), (by first | (first | exact lt_l fds.2 | exact fds.1 _ (by assumption) | exact ⟨Nat.le_trans fds.2 (by decide), fds.1⟩ | exact sum_side fll flb (by decide) (by decide) | exact ⟨by omega, by omega⟩ | omega | exact lt_l (Nat.le_trans fwl.1 (by omega)) (by decide : 1000 < sizeLine) | exact lt_l fw | exact at_m (Nat.succ_pos _) | exact ⟨by decide, by decide, by decide, by have := flb _ (getI_mem (at_in lo_0 hi_0)); exact Nat.le_trans (Nat.add_le_add_right this 2) (by decide)⟩ | exact mul_side (by decide) (by decide) | exact Nat.le_trans fws.1 (by decide) | exact Nat.le_trans (Nat.add_le_add (m3len _) fws.2) (by decide) | (rw [len_app]; exact Nat.le_trans (Nat.add_le_add (Nat.add_le_add (m3len _) fws.2) (m2len _)) (by decide)) | exact sum_side (m := 82) (Nat.le_trans fwe.1 (by have := fds.2; omega)) fwe.2 (by decide) (by decide) | exact ft.1 | exact same_pre ((by assumption : _ = _).symm.trans ft.2) fds | exact is_side fdd | exact one_blank.1 | exact ⟨by decide, fun d h => by cases h⟩) | (first | omega | decide | (show _ ≤ sizeLine; decide) | (show _ < sizeLine; decide)))⟩) ev_int (by first | (first | exact lt_l fds.2 | exact fds.1 _ (by assumption) | exact ⟨Nat.le_trans fds.2 (by decide), fds.1⟩ | exact sum_side fll flb (by decide) (by decide) | exact ⟨by omega, by omega⟩ | omega | exact lt_l (Nat.le_trans fwl.1 (by omega)) (by decide : 1000 < sizeLine) | exact lt_l fw | exact at_m (Nat.succ_pos _) | exact ⟨by decide, by decide, by decide, by have := flb _ (getI_mem (at_in lo_0 hi_0)); exact Nat.le_trans (Nat.add_le_add_right this 2) (by decide)⟩ | exact mul_side (by decide) (by decide) | exact Nat.le_trans fws.1 (by decide) | exact Nat.le_trans (Nat.add_le_add (m3len _) fws.2) (by decide) | (rw [len_app]; exact Nat.le_trans (Nat.add_le_add (Nat.add_le_add (m3len _) fws.2) (m2len _)) (by decide)) | exact sum_side (m := 82) (Nat.le_trans fwe.1 (by have := fds.2; omega)) fwe.2 (by decide) (by decide) | exact ft.1 | exact same_pre ((by assumption : _ = _).symm.trans ft.2) fds | exact is_side fdd | exact one_blank.1 | exact ⟨by decide, fun d h => by cases h⟩) | (first | omega | decide | (show _ ≤ sizeLine; decide) | (show _ < sizeLine; decide)))) ev_int)) ?_ ?_
        · intro hb50 G51 H52 g49
          have h_script := up g49.g h_script
          have h_11 := up g49.g h_11
          have h_23 := up g49.g h_23
          have hN_35 := g49.f _ _ hH_35 hN_35
          have hH_35 := g49.h.l hH_35
          have h_46 := Reps.up g49.g h_46
          have h_38 := up g49.g h_38
          have sg0 := sg0.trans g49.g
          have gr := gr.trans g49
          replace hM := condT hM hb50
          unfold m_law_4 at hM
          refine s_appF (K := K) gr hF_35 hN_35 rfl hH_35 h_46 (by first | (first | exact lt_l fds.2 | exact fds.1 _ (by assumption) | exact ⟨Nat.le_trans fds.2 (by decide), fds.1⟩ | exact sum_side fll flb (by decide) (by decide) | exact ⟨by omega, by omega⟩ | omega | exact lt_l (Nat.le_trans fwl.1 (by omega)) (by decide : 1000 < sizeLine) | exact lt_l fw | exact at_m (Nat.succ_pos _) | exact ⟨by decide, by decide, by decide, by have := flb _ (getI_mem (at_in lo_0 hi_0)); exact Nat.le_trans (Nat.add_le_add_right this 2) (by decide)⟩ | exact mul_side (by decide) (by decide) | exact Nat.le_trans fws.1 (by decide) | exact Nat.le_trans (Nat.add_le_add (m3len _) fws.2) (by decide) | (rw [len_app]; exact Nat.le_trans (Nat.add_le_add (Nat.add_le_add (m3len _) fws.2) (m2len _)) (by decide)) | exact sum_side (m := 82) (Nat.le_trans fwe.1 (by have := fds.2; omega)) fwe.2 (by decide) (by decide) | exact ft.1 | exact same_pre ((by assumption : _ = _).symm.trans ft.2) fds | exact is_side fdd | exact one_blank.1 | exact ⟨by decide, fun d h => by cases h⟩) | (fail)) (ev_ixL (ev_lst (ea_cons ev_str (ea_cons ev_str ea_nil)) (by first | (first | exact lt_l fds.2 | exact fds.1 _ (by assumption) | exact ⟨Nat.le_trans fds.2 (by decide), fds.1⟩ | exact sum_side fll flb (by decide) (by decide) | exact ⟨by omega, by omega⟩ | omega | exact lt_l (Nat.le_trans fwl.1 (by omega)) (by decide : 1000 < sizeLine) | exact lt_l fw | exact at_m (Nat.succ_pos _) | exact ⟨by decide, by decide, by decide, by have := flb _ (getI_mem (at_in lo_0 hi_0)); exact Nat.le_trans (Nat.add_le_add_right this 2) (by decide)⟩ | exact mul_side (by decide) (by decide) | exact Nat.le_trans fws.1 (by decide) | exact Nat.le_trans (Nat.add_le_add (m3len _) fws.2) (by decide) | (rw [len_app]; exact Nat.le_trans (Nat.add_le_add (Nat.add_le_add (m3len _) fws.2) (m2len _)) (by decide)) | exact sum_side (m := 82) (Nat.le_trans fwe.1 (by have := fds.2; omega)) fwe.2 (by decide) (by decide) | exact ft.1 | exact same_pre ((by assumption : _ = _).symm.trans ft.2) fds | exact is_side fdd | exact one_blank.1 | exact ⟨by decide, fun d h => by cases h⟩) | (first | (show _ ≤ sizeLine; decide) | (simp only [List.length_cons, List.length_nil, List.length_append, sizeLine_eq]; omega) | (fail)))) (ev_mod (ev_var rfl h_38) ev_int (by first | (first | exact lt_l fds.2 | exact fds.1 _ (by assumption) | exact ⟨Nat.le_trans fds.2 (by decide), fds.1⟩ | exact sum_side fll flb (by decide) (by decide) | exact ⟨by omega, by omega⟩ | omega | exact lt_l (Nat.le_trans fwl.1 (by omega)) (by decide : 1000 < sizeLine) | exact lt_l fw | exact at_m (Nat.succ_pos _) | exact ⟨by decide, by decide, by decide, by have := flb _ (getI_mem (at_in lo_0 hi_0)); exact Nat.le_trans (Nat.add_le_add_right this 2) (by decide)⟩ | exact mul_side (by decide) (by decide) | exact Nat.le_trans fws.1 (by decide) | exact Nat.le_trans (Nat.add_le_add (m3len _) fws.2) (by decide) | (rw [len_app]; exact Nat.le_trans (Nat.add_le_add (Nat.add_le_add (m3len _) fws.2) (m2len _)) (by decide)) | exact sum_side (m := 82) (Nat.le_trans fwe.1 (by have := fds.2; omega)) fwe.2 (by decide) (by decide) | exact ft.1 | exact same_pre ((by assumption : _ = _).symm.trans ft.2) fds | exact is_side fdd | exact one_blank.1 | exact ⟨by decide, fun d h => by cases h⟩) | (first | omega | decide | (show _ ≤ sizeLine; decide) | (show _ < sizeLine; decide)))) (atI_get (by first | (first | exact lt_l fds.2 | exact fds.1 _ (by assumption) | exact ⟨Nat.le_trans fds.2 (by decide), fds.1⟩ | exact sum_side fll flb (by decide) (by decide) | exact ⟨by omega, by omega⟩ | omega | exact lt_l (Nat.le_trans fwl.1 (by omega)) (by decide : 1000 < sizeLine) | exact lt_l fw | exact at_m (Nat.succ_pos _) | exact ⟨by decide, by decide, by decide, by have := flb _ (getI_mem (at_in lo_0 hi_0)); exact Nat.le_trans (Nat.add_le_add_right this 2) (by decide)⟩ | exact mul_side (by decide) (by decide) | exact Nat.le_trans fws.1 (by decide) | exact Nat.le_trans (Nat.add_le_add (m3len _) fws.2) (by decide) | (rw [len_app]; exact Nat.le_trans (Nat.add_le_add (Nat.add_le_add (m3len _) fws.2) (m2len _)) (by decide)) | exact sum_side (m := 82) (Nat.le_trans fwe.1 (by have := fds.2; omega)) fwe.2 (by decide) (by decide) | exact ft.1 | exact same_pre ((by assumption : _ = _).symm.trans ft.2) fds | exact is_side fdd | exact one_blank.1 | exact ⟨by decide, fun d h => by cases h⟩) | (first | decide | (refine at_in ?_ ?_ <;> omega) | (refine at_neg ?_ ?_ <;> omega))))) fun G54 H55 H78 zs76 g53 gr2 hN2 hH2 (h_59 : Reps K (d_44 ++ [(getI (("" : Str) :: (("   " : Str) :: ([] : List Str))) (d_36 % (2 : Int)))]) zs76 G54) bt77 => ?_
          have h_script := up g53.g h_script
          have h_11 := up g53.g h_11
          have h_23 := up g53.g h_23
          have hN_35 := g53.f _ _ hH_35 hN_35
          have hH_35 := g53.h.l hH_35
          have h_46 := Reps.up g53.g h_46
          have h_38 := up g53.g h_38
          have sg0 := sg0.trans g53.g
          have gr := gr2
          have hN_35 := hN2
          have hH_35 := hH2
          generalize ed_58 : (d_44 ++ [(getI (("" : Str) :: (("   " : Str) :: ([] : List Str))) (d_36 % (2 : Int)))]) = d_58 at h_59 hM
          unfold m_law_3 at hM
          try (have fw : d_58.length ≤ 100 := by rw [← ed_58, List.length_append, List.length_singleton]; have := fwl.1; omega)
          refine nx_mk ?_
          refine q_asg (K := K) gr.s (ev_splitM (k := (1 : Int)) (ev_ixL (ev_var rfl h_23) (ev_var rfl h_38) (atI_get (by first | (first | exact lt_l fds.2 | exact fds.1 _ (by assumption) | exact ⟨Nat.le_trans fds.2 (by decide), fds.1⟩ | exact sum_side fll flb (by decide) (by decide) | exact ⟨by omega, by omega⟩ | omega | exact lt_l (Nat.le_trans fwl.1 (by omega)) (by decide : 1000 < sizeLine) | exact lt_l fw | exact at_m (Nat.succ_pos _) | exact ⟨by decide, by decide, by decide, by have := flb _ (getI_mem (at_in lo_0 hi_0)); exact Nat.le_trans (Nat.add_le_add_right this 2) (by decide)⟩ | exact mul_side (by decide) (by decide) | exact Nat.le_trans fws.1 (by decide) | exact Nat.le_trans (Nat.add_le_add (m3len _) fws.2) (by decide) | (rw [len_app]; exact Nat.le_trans (Nat.add_le_add (Nat.add_le_add (m3len _) fws.2) (m2len _)) (by decide)) | exact sum_side (m := 82) (Nat.le_trans fwe.1 (by have := fds.2; omega)) fwe.2 (by decide) (by decide) | exact ft.1 | exact same_pre ((by assumption : _ = _).symm.trans ft.2) fds | exact is_side fdd | exact one_blank.1 | exact ⟨by decide, fun d h => by cases h⟩) | (first | decide | (refine at_in ?_ ?_ <;> omega) | (refine at_neg ?_ ?_ <;> omega))))) ev_str (by first | (first | exact lt_l fds.2 | exact fds.1 _ (by assumption) | exact ⟨Nat.le_trans fds.2 (by decide), fds.1⟩ | exact sum_side fll flb (by decide) (by decide) | exact ⟨by omega, by omega⟩ | omega | exact lt_l (Nat.le_trans fwl.1 (by omega)) (by decide : 1000 < sizeLine) | exact lt_l fw | exact at_m (Nat.succ_pos _) | exact ⟨by decide, by decide, by decide, by have := flb _ (getI_mem (at_in lo_0 hi_0)); exact Nat.le_trans (Nat.add_le_add_right this 2) (by decide)⟩ | exact mul_side (by decide) (by decide) | exact Nat.le_trans fws.1 (by decide) | exact Nat.le_trans (Nat.add_le_add (m3len _) fws.2) (by decide) | (rw [len_app]; exact Nat.le_trans (Nat.add_le_add (Nat.add_le_add (m3len _) fws.2) (m2len _)) (by decide)) | exact sum_side (m := 82) (Nat.le_trans fwe.1 (by have := fds.2; omega)) fwe.2 (by decide) (by decide) | exact ft.1 | exact same_pre ((by assumption : _ = _).symm.trans ft.2) fds | exact is_side fdd | exact one_blank.1 | exact ⟨by decide, fun d h => by cases h⟩) | (first | exact ⟨by decide, by decide, by decide, vcs⟩ | (first | omega | decide)))) fun w_61 G64 H65 g63 (h_62 : rep K (Txt.splitMax (getI d_21 d_36) (" " : Str) (1 : Int)) w_61 G64) => ?_
          have h_script := up g63.g h_script
          have h_11 := up g63.g h_11
          have h_23 := up g63.g h_23
          have hN_35 := g63.f _ _ hH_35 hN_35
          have hH_35 := g63.h.l hH_35
          have h_59 := Reps.up g63.g h_59
          have h_38 := up g63.g h_38
          have sg0 := sg0.trans g63.g
          have gr := gr.trans g63
          generalize ed_60 : (Txt.splitMax (getI d_21 d_36) (" " : Str) (1 : Int)) = d_60 at h_62 hM
          unfold m_law_2 at hM
          have fws := ws_ok fgl ed_60
          refine s_appF (K := K) gr hF_35 hN_35 rfl hH_35 h_59 (by first | (first | exact lt_l fds.2 | exact fds.1 _ (by assumption) | exact ⟨Nat.le_trans fds.2 (by decide), fds.1⟩ | exact sum_side fll flb (by decide) (by decide) | exact ⟨by omega, by omega⟩ | omega | exact lt_l (Nat.le_trans fwl.1 (by omega)) (by decide : 1000 < sizeLine) | exact lt_l fw | exact at_m (Nat.succ_pos _) | exact ⟨by decide, by decide, by decide, by have := flb _ (getI_mem (at_in lo_0 hi_0)); exact Nat.le_trans (Nat.add_le_add_right this 2) (by decide)⟩ | exact mul_side (by decide) (by decide) | exact Nat.le_trans fws.1 (by decide) | exact Nat.le_trans (Nat.add_le_add (m3len _) fws.2) (by decide) | (rw [len_app]; exact Nat.le_trans (Nat.add_le_add (Nat.add_le_add (m3len _) fws.2) (m2len _)) (by decide)) | exact sum_side (m := 82) (Nat.le_trans fwe.1 (by have := fds.2; omega)) fwe.2 (by decide) (by decide) | exact ft.1 | exact same_pre ((by assumption : _ = _).symm.trans ft.2) fds | exact is_side fdd | exact one_blank.1 | exact ⟨by decide, fun d h => by cases h⟩) | (fail)) (ev_addS (ev_addS (ev_repS ev_str (ev_mod (ev_var rfl h_38) ev_int (by first | (first | exact lt_l fds.2 | exact fds.1 _ (by assumption) | exact ⟨Nat.le_trans fds.2 (by decide), fds.1⟩ | exact sum_side fll flb (by decide) (by decide) | exact ⟨by omega, by omega⟩ | omega | exact lt_l (Nat.le_trans fwl.1 (by omega)) (by decide : 1000 < sizeLine) | exact lt_l fw | exact at_m (Nat.succ_pos _) | exact ⟨by decide, by decide, by decide, by have := flb _ (getI_mem (at_in lo_0 hi_0)); exact Nat.le_trans (Nat.add_le_add_right this 2) (by decide)⟩ | exact mul_side (by decide) (by decide) | exact Nat.le_trans fws.1 (by decide) | exact Nat.le_trans (Nat.add_le_add (m3len _) fws.2) (by decide) | (rw [len_app]; exact Nat.le_trans (Nat.add_le_add (Nat.add_le_add (m3len _) fws.2) (m2len _)) (by decide)) | exact sum_side (m := 82) (Nat.le_trans fwe.1 (by have := fds.2; omega)) fwe.2 (by decide) (by decide) | exact ft.1 | exact same_pre ((by assumption : _ = _).symm.trans ft.2) fds | exact is_side fdd | exact one_blank.1 | exact ⟨by decide, fun d h => by cases h⟩) | (first | omega | decide | (show _ ≤ sizeLine; decide) | (show _ < sizeLine; decide)))) (by first | (first | exact lt_l fds.2 | exact fds.1 _ (by assumption) | exact ⟨Nat.le_trans fds.2 (by decide), fds.1⟩ | exact sum_side fll flb (by decide) (by decide) | exact ⟨by omega, by omega⟩ | omega | exact lt_l (Nat.le_trans fwl.1 (by omega)) (by decide : 1000 < sizeLine) | exact lt_l fw | exact at_m (Nat.succ_pos _) | exact ⟨by decide, by decide, by decide, by have := flb _ (getI_mem (at_in lo_0 hi_0)); exact Nat.le_trans (Nat.add_le_add_right this 2) (by decide)⟩ | exact mul_side (by decide) (by decide) | exact Nat.le_trans fws.1 (by decide) | exact Nat.le_trans (Nat.add_le_add (m3len _) fws.2) (by decide) | (rw [len_app]; exact Nat.le_trans (Nat.add_le_add (Nat.add_le_add (m3len _) fws.2) (m2len _)) (by decide)) | exact sum_side (m := 82) (Nat.le_trans fwe.1 (by have := fds.2; omega)) fwe.2 (by decide) (by decide) | exact ft.1 | exact same_pre ((by assumption : _ = _).symm.trans ft.2) fds | exact is_side fdd | exact one_blank.1 | exact ⟨by decide, fun d h => by cases h⟩) | (first | omega | decide | (show _ ≤ sizeLine; decide) | (show _ < sizeLine; decide)))) (ev_join ev_str (ev_var rfl h_62) (by first | (first | exact lt_l fds.2 | exact fds.1 _ (by assumption) | exact ⟨Nat.le_trans fds.2 (by decide), fds.1⟩ | exact sum_side fll flb (by decide) (by decide) | exact ⟨by omega, by omega⟩ | omega | exact lt_l (Nat.le_trans fwl.1 (by omega)) (by decide : 1000 < sizeLine) | exact lt_l fw | exact at_m (Nat.succ_pos _) | exact ⟨by decide, by decide, by decide, by have := flb _ (getI_mem (at_in lo_0 hi_0)); exact Nat.le_trans (Nat.add_le_add_right this 2) (by decide)⟩ | exact mul_side (by decide) (by decide) | exact Nat.le_trans fws.1 (by decide) | exact Nat.le_trans (Nat.add_le_add (m3len _) fws.2) (by decide) | (rw [len_app]; exact Nat.le_trans (Nat.add_le_add (Nat.add_le_add (m3len _) fws.2) (m2len _)) (by decide)) | exact sum_side (m := 82) (Nat.le_trans fwe.1 (by have := fds.2; omega)) fwe.2 (by decide) (by decide) | exact ft.1 | exact same_pre ((by assumption : _ = _).symm.trans ft.2) fds | exact is_side fdd | exact one_blank.1 | exact ⟨by decide, fun d h => by cases h⟩) | (first | omega | decide | (show _ ≤ sizeLine; decide) | (show _ < sizeLine; decide)))) (by first | (first | exact lt_l fds.2 | exact fds.1 _ (by assumption) | exact ⟨Nat.le_trans fds.2 (by decide), fds.1⟩ | exact sum_side fll flb (by decide) (by decide) | exact ⟨by omega, by omega⟩ | omega | exact lt_l (Nat.le_trans fwl.1 (by omega)) (by decide : 1000 < sizeLine) | exact lt_l fw | exact at_m (Nat.succ_pos _) | exact ⟨by decide, by decide, by decide, by have := flb _ (getI_mem (at_in lo_0 hi_0)); exact Nat.le_trans (Nat.add_le_add_right this 2) (by decide)⟩ | exact mul_side (by decide) (by decide) | exact Nat.le_trans fws.1 (by decide) | exact Nat.le_trans (Nat.add_le_add (m3len _) fws.2) (by decide) | (rw [len_app]; exact Nat.le_trans (Nat.add_le_add (Nat.add_le_add (m3len _) fws.2) (m2len _)) (by decide)) | exact sum_side (m := 82) (Nat.le_trans fwe.1 (by have := fds.2; omega)) fwe.2 (by decide) (by decide) | exact ft.1 | exact same_pre ((by assumption : _ = _).symm.trans ft.2) fds | exact is_side fdd | exact one_blank.1 | exact ⟨by decide, fun d h => by cases h⟩) | (first | omega | decide | (show _ ≤ sizeLine; decide) | (show _ < sizeLine; decide)))) (ev_repS ev_str (ev_mod (ev_var rfl h_38) ev_int (by first | (first | exact lt_l fds.2 | exact fds.1 _ (by assumption) | exact ⟨Nat.le_trans fds.2 (by decide), fds.1⟩ | exact sum_side fll flb (by decide) (by decide) | exact ⟨by omega, by omega⟩ | omega | exact lt_l (Nat.le_trans fwl.1 (by omega)) (by decide : 1000 < sizeLine) | exact lt_l fw | exact at_m (Nat.succ_pos _) | exact ⟨by decide, by decide, by decide, by have := flb _ (getI_mem (at_in lo_0 hi_0)); exact Nat.le_trans (Nat.add_le_add_right this 2) (by decide)⟩ | exact mul_side (by decide) (by decide) | exact Nat.le_trans fws.1 (by decide) | exact Nat.le_trans (Nat.add_le_add (m3len _) fws.2) (by decide) | (rw [len_app]; exact Nat.le_trans (Nat.add_le_add (Nat.add_le_add (m3len _) fws.2) (m2len _)) (by decide)) | exact sum_side (m := 82) (Nat.le_trans fwe.1 (by have := fds.2; omega)) fwe.2 (by decide) (by decide) | exact ft.1 | exact same_pre ((by assumption : _ = _).symm.trans ft.2) fds | exact is_side fdd | exact one_blank.1 | exact ⟨by decide, fun d h => by cases h⟩) | (first | omega | decide | (show _ ≤ sizeLine; decide) | (show _ < sizeLine; decide)))) (by first | (first | exact lt_l fds.2 | exact fds.1 _ (by assumption) | exact ⟨Nat.le_trans fds.2 (by decide), fds.1⟩ | exact sum_side fll flb (by decide) (by decide) | exact ⟨by omega, by omega⟩ | omega | exact lt_l (Nat.le_trans fwl.1 (by omega)) (by decide : 1000 < sizeLine) | exact lt_l fw | exact at_m (Nat.succ_pos _) | exact ⟨by decide, by decide, by decide, by have := flb _ (getI_mem (at_in lo_0 hi_0)); exact Nat.le_trans (Nat.add_le_add_right this 2) (by decide)⟩ | exact mul_side (by decide) (by decide) | exact Nat.le_trans fws.1 (by decide) | exact Nat.le_trans (Nat.add_le_add (m3len _) fws.2) (by decide) | (rw [len_app]; exact Nat.le_trans (Nat.add_le_add (Nat.add_le_add (m3len _) fws.2) (m2len _)) (by decide)) | exact sum_side (m := 82) (Nat.le_trans fwe.1 (by have := fds.2; omega)) fwe.2 (by decide) (by decide) | exact ft.1 | exact same_pre ((by assumption : _ = _).symm.trans ft.2) fds | exact is_side fdd | exact one_blank.1 | exact ⟨by decide, fun d h => by cases h⟩) | (first | omega | decide | (show _ ≤ sizeLine; decide) | (show _ < sizeLine; decide)))) (by first | (first | exact lt_l fds.2 | exact fds.1 _ (by assumption) | exact ⟨Nat.le_trans fds.2 (by decide), fds.1⟩ | exact sum_side fll flb (by decide) (by decide) | exact ⟨by omega, by omega⟩ | omega | exact lt_l (Nat.le_trans fwl.1 (by omega)) (by decide : 1000 < sizeLine) | exact lt_l fw | exact at_m (Nat.succ_pos _) | exact ⟨by decide, by decide, by decide, by have := flb _ (getI_mem (at_in lo_0 hi_0)); exact Nat.le_trans (Nat.add_le_add_right this 2) (by decide)⟩ | exact mul_side (by decide) (by decide) | exact Nat.le_trans fws.1 (by decide) | exact Nat.le_trans (Nat.add_le_add (m3len _) fws.2) (by decide) | (rw [len_app]; exact Nat.le_trans (Nat.add_le_add (Nat.add_le_add (m3len _) fws.2) (m2len _)) (by decide)) | exact sum_side (m := 82) (Nat.le_trans fwe.1 (by have := fds.2; omega)) fwe.2 (by decide) (by decide) | exact ft.1 | exact same_pre ((by assumption : _ = _).symm.trans ft.2) fds | exact is_side fdd | exact one_blank.1 | exact ⟨by decide, fun d h => by cases h⟩) | (first | omega | decide | (show _ ≤ sizeLine; decide) | (show _ < sizeLine; decide)))) fun G67 H68 H75 zs73 g66 gr2 hN2 hH2 (h_72 : Reps K (d_58 ++ [(((mulS (" " : Str) (d_36 % (3 : Int))) ++ (Txt.join ("   " : Str) d_60)) ++ (mulS (" " : Str) (d_36 % (2 : Int))))]) zs73 G67) bt74 => ?_
          have h_script := up g66.g h_script
          have h_11 := up g66.g h_11
          have h_23 := up g66.g h_23
          have hN_35 := g66.f _ _ hH_35 hN_35
          have hH_35 := g66.h.l hH_35
          have h_59 := Reps.up g66.g h_59
          have h_38 := up g66.g h_38
          have h_62 := up g66.g h_62
          have sg0 := sg0.trans g66.g
          have gr := gr2
          have hN_35 := hN2
          have hH_35 := hH2
          generalize ed_71 : (d_58 ++ [(((mulS (" " : Str) (d_36 % (3 : Int))) ++ (Txt.join ("   " : Str) d_60)) ++ (mulS (" " : Str) (d_36 % (2 : Int))))]) = d_71 at h_72 hM
          unfold m_law_1 at hM
          try (have fw : d_71.length ≤ 100 := by rw [← ed_71, List.length_append, List.length_singleton]; have := fwl.1; omega)
          exact ⟨_, _, _, gr, sg0, rfl, ⟨_, (by rw [hM]; exact h_72), hH_35, hN_35⟩⟩
        · intro hb50 G79 H80 g49
          have h_script := up g49.g h_script
          have h_11 := up g49.g h_11
          have h_23 := up g49.g h_23
          have hN_35 := g49.f _ _ hH_35 hN_35
          have hH_35 := g49.h.l hH_35
          have h_46 := Reps.up g49.g h_46
          have h_38 := up g49.g h_38
          have sg0 := sg0.trans g49.g
          have gr := gr.trans g49
          replace hM := condF hM hb50
          refine s_next ?_
          refine nx_mk ?_
          refine q_asg (K := K) gr.s (ev_splitM (k := (1 : Int)) (ev_ixL (ev_var rfl h_23) (ev_var rfl h_38) (atI_get (by first | (first | exact lt_l fds.2 | exact fds.1 _ (by assumption) | exact ⟨Nat.le_trans fds.2 (by decide), fds.1⟩ | exact sum_side fll flb (by decide) (by decide) | exact ⟨by omega, by omega⟩ | omega | exact lt_l (Nat.le_trans fwl.1 (by omega)) (by decide : 1000 < sizeLine) | exact lt_l fw | exact at_m (Nat.succ_pos _) | exact ⟨by decide, by decide, by decide, by have := flb _ (getI_mem (at_in lo_0 hi_0)); exact Nat.le_trans (Nat.add_le_add_right this 2) (by decide)⟩ | exact mul_side (by decide) (by decide) | exact Nat.le_trans fws.1 (by decide) | exact Nat.le_trans (Nat.add_le_add (m3len _) fws.2) (by decide) | (rw [len_app]; exact Nat.le_trans (Nat.add_le_add (Nat.add_le_add (m3len _) fws.2) (m2len _)) (by decide)) | exact sum_side (m := 82) (Nat.le_trans fwe.1 (by have := fds.2; omega)) fwe.2 (by decide) (by decide) | exact ft.1 | exact same_pre ((by assumption : _ = _).symm.trans ft.2) fds | exact is_side fdd | exact one_blank.1 | exact ⟨by decide, fun d h => by cases h⟩) | (first | decide | (refine at_in ?_ ?_ <;> omega) | (refine at_neg ?_ ?_ <;> omega))))) ev_str (by first | (first | exact lt_l fds.2 | exact fds.1 _ (by assumption) | exact ⟨Nat.le_trans fds.2 (by decide), fds.1⟩ | exact sum_side fll flb (by decide) (by decide) | exact ⟨by omega, by omega⟩ | omega | exact lt_l (Nat.le_trans fwl.1 (by omega)) (by decide : 1000 < sizeLine) | exact lt_l fw | exact at_m (Nat.succ_pos _) | exact ⟨by decide, by decide, by decide, by have := flb _ (getI_mem (at_in lo_0 hi_0)); exact Nat.le_trans (Nat.add_le_add_right this 2) (by decide)⟩ | exact mul_side (by decide) (by decide) | exact Nat.le_trans fws.1 (by decide) | exact Nat.le_trans (Nat.add_le_add (m3len _) fws.2) (by decide) | (rw [len_app]; exact Nat.le_trans (Nat.add_le_add (Nat.add_le_add (m3len _) fws.2) (m2len _)) (by decide)) | exact sum_side (m := 82) (Nat.le_trans fwe.1 (by have := fds.2; omega)) fwe.2 (by decide) (by decide) | exact ft.1 | exact same_pre ((by assumption : _ = _).symm.trans ft.2) fds | exact is_side fdd | exact one_blank.1 | exact ⟨by decide, fun d h => by cases h⟩) | (first | exact ⟨by decide, by decide, by decide, vcs⟩ | (first | omega | decide)))) fun w_82 G85 H86 g84 (h_83 : rep K (Txt.splitMax (getI d_21 d_36) (" " : Str) (1 : Int)) w_82 G85) => ?_
          have h_script := up g84.g h_script
          have h_11 := up g84.g h_11
          have h_23 := up g84.g h_23
          have hN_35 := g84.f _ _ hH_35 hN_35
          have hH_35 := g84.h.l hH_35
          have h_46 := Reps.up g84.g h_46
          have h_38 := up g84.g h_38
          have sg0 := sg0.trans g84.g
          have gr := gr.trans g84
          generalize ed_81 : (Txt.splitMax (getI d_21 d_36) (" " : Str) (1 : Int)) = d_81 at h_83 hM
          unfold m_law_6 at hM
          have fws := ws_ok fgl ed_81
          refine s_appF (K := K) gr hF_35 hN_35 rfl hH_35 h_46 (by first | (first | exact lt_l fds.2 | exact fds.1 _ (by assumption) | exact ⟨Nat.le_trans fds.2 (by decide), fds.1⟩ | exact sum_side fll flb (by decide) (by decide) | exact ⟨by omega, by omega⟩ | omega | exact lt_l (Nat.le_trans fwl.1 (by omega)) (by decide : 1000 < sizeLine) | exact lt_l fw | exact at_m (Nat.succ_pos _) | exact ⟨by decide, by decide, by decide, by have := flb _ (getI_mem (at_in lo_0 hi_0)); exact Nat.le_trans (Nat.add_le_add_right this 2) (by decide)⟩ | exact mul_side (by decide) (by decide) | exact Nat.le_trans fws.1 (by decide) | exact Nat.le_trans (Nat.add_le_add (m3len _) fws.2) (by decide) | (rw [len_app]; exact Nat.le_trans (Nat.add_le_add (Nat.add_le_add (m3len _) fws.2) (m2len _)) (by decide)) | exact sum_side (m := 82) (Nat.le_trans fwe.1 (by have := fds.2; omega)) fwe.2 (by decide) (by decide) | exact ft.1 | exact same_pre ((by assumption : _ = _).symm.trans ft.2) fds | exact is_side fdd | exact one_blank.1 | exact ⟨by decide, fun d h => by cases h⟩) | (fail)) (ev_addS (ev_addS (ev_repS ev_str (ev_mod (ev_var rfl h_38) ev_int (by first | (first | exact lt_l fds.2 | exact fds.1 _ (by assumption) | exact ⟨Nat.le_trans fds.2 (by decide), fds.1⟩ | exact sum_side fll flb (by decide) (by decide) | exact ⟨by omega, by omega⟩ | omega | exact lt_l (Nat.le_trans fwl.1 (by omega)) (by decide : 1000 < sizeLine) | exact lt_l fw | exact at_m (Nat.succ_pos _) | exact ⟨by decide, by decide, by decide, by have := flb _ (getI_mem (at_in lo_0 hi_0)); exact Nat.le_trans (Nat.add_le_add_right this 2) (by decide)⟩ | exact mul_side (by decide) (by decide) | exact Nat.le_trans fws.1 (by decide) | exact Nat.le_trans (Nat.add_le_add (m3len _) fws.2) (by decide) | (rw [len_app]; exact Nat.le_trans (Nat.add_le_add (Nat.add_le_add (m3len _) fws.2) (m2len _)) (by decide)) | exact sum_side (m := 82) (Nat.le_trans fwe.1 (by have := fds.2; omega)) fwe.2 (by decide) (by decide) | exact ft.1 | exact same_pre ((by assumption : _ = _).symm.trans ft.2) fds | exact is_side fdd | exact one_blank.1 | exact ⟨by decide, fun d h => by cases h⟩) | (first | omega | decide | (show _ ≤ sizeLine; decide) | (show _ < sizeLine; decide)))) (by first | (first | exact lt_l fds.2 | exact fds.1 _ (by assumption) | exact ⟨Nat.le_trans fds.2 (by decide), fds.1⟩ | exact sum_side fll flb (by decide) (by decide) | exact ⟨by omega, by omega⟩ | omega | exact lt_l (Nat.le_trans fwl.1 (by omega)) (by decide : 1000 < sizeLine) | exact lt_l fw | exact at_m (Nat.succ_pos _) | exact ⟨by decide, by decide, by decide, by have := flb _ (getI_mem (at_in lo_0 hi_0)); exact Nat.le_trans (Nat.add_le_add_right this 2) (by decide)⟩ | exact mul_side (by decide) (by decide) | exact Nat.le_trans fws.1 (by decide) | exact Nat.le_trans (Nat.add_le_add (m3len _) fws.2) (by decide) | (rw [len_app]; exact Nat.le_trans (Nat.add_le_add (Nat.add_le_add (m3len _) fws.2) (m2len _)) (by decide)) | exact sum_side (m := 82) (Nat.le_trans fwe.1 (by have := fds.2; omega)) fwe.2 (by decide) (by decide) | exact ft.1 | exact same_pre ((by assumption : _ = _).symm.trans ft.2) fds | exact is_side fdd | exact one_blank.1 | exact ⟨by decide, fun d h => by cases h⟩) | (first | omega | decide | (show _ ≤ sizeLine; decide) | (show _ < sizeLine; decide)))) (ev_join ev_str (ev_var rfl h_83) (by first | (first | exact lt_l fds.2 | exact fds.1 _ (by assumption) | exact ⟨Nat.le_trans fds.2 (by decide), fds.1⟩ | exact sum_side fll flb (by decide) (by decide) | exact ⟨by omega, by omega⟩ | omega | exact lt_l (Nat.le_trans fwl.1 (by omega)) (by decide : 1000 < sizeLine) | exact lt_l fw | exact at_m (Nat.succ_pos _) | exact ⟨by decide, by decide, by decide, by have := flb _ (getI_mem (at_in lo_0 hi_0)); exact Nat.le_trans (Nat.add_le_add_right this 2) (by decide)⟩ | exact mul_side (by decide) (by decide) | exact Nat.le_trans fws.1 (by decide) | exact Nat.le_trans (Nat.add_le_add (m3len _) fws.2) (by decide) | (rw [len_app]; exact Nat.le_trans (Nat.add_le_add (Nat.add_le_add (m3len _) fws.2) (m2len _)) (by decide)) | exact sum_side (m := 82) (Nat.le_trans fwe.1 (by have := fds.2; omega)) fwe.2 (by decide) (by decide) | exact ft.1 | exact same_pre ((by assumption : _ = _).symm.trans ft.2) fds | exact is_side fdd | exact one_blank.1 | exact ⟨by decide, fun d h => by cases h⟩) | (first | omega | decide | (show _ ≤ sizeLine; decide) | (show _ < sizeLine; decide)))) (by first | (first | exact lt_l fds.2 | exact fds.1 _ (by assumption) | exact ⟨Nat.le_trans fds.2 (by decide), fds.1⟩ | exact sum_side fll flb (by decide) (by decide) | exact ⟨by omega, by omega⟩ | omega | exact lt_l (Nat.le_trans fwl.1 (by omega)) (by decide : 1000 < sizeLine) | exact lt_l fw | exact at_m (Nat.succ_pos _) | exact ⟨by decide, by decide, by decide, by have := flb _ (getI_mem (at_in lo_0 hi_0)); exact Nat.le_trans (Nat.add_le_add_right this 2) (by decide)⟩ | exact mul_side (by decide) (by decide) | exact Nat.le_trans fws.1 (by decide) | exact Nat.le_trans (Nat.add_le_add (m3len _) fws.2) (by decide) | (rw [len_app]; exact Nat.le_trans (Nat.add_le_add (Nat.add_le_add (m3len _) fws.2) (m2len _)) (by decide)) | exact sum_side (m := 82) (Nat.le_trans fwe.1 (by have := fds.2; omega)) fwe.2 (by decide) (by decide) | exact ft.1 | exact same_pre ((by assumption : _ = _).symm.trans ft.2) fds | exact is_side fdd | exact one_blank.1 | exact ⟨by decide, fun d h => by cases h⟩) | (first | omega | decide | (show _ ≤ sizeLine; decide) | (show _ < sizeLine; decide)))) (ev_repS ev_str (ev_mod (ev_var rfl h_38) ev_int (by first | (first | exact lt_l fds.2 | exact fds.1 _ (by assumption) | exact ⟨Nat.le_trans fds.2 (by decide), fds.1⟩ | exact sum_side fll flb (by decide) (by decide) | exact ⟨by omega, by omega⟩ | omega | exact lt_l (Nat.le_trans fwl.1 (by omega)) (by decide : 1000 < sizeLine) | exact lt_l fw | exact at_m (Nat.succ_pos _) | exact ⟨by decide, by decide, by decide, by have := flb _ (getI_mem (at_in lo_0 hi_0)); exact Nat.le_trans (Nat.add_le_add_right this 2) (by decide)⟩ | exact mul_side (by decide) (by decide) | exact Nat.le_trans fws.1 (by decide) | exact Nat.le_trans (Nat.add_le_add (m3len _) fws.2) (by decide) | (rw [len_app]; exact Nat.le_trans (Nat.add_le_add (Nat.add_le_add (m3len _) fws.2) (m2len _)) (by decide)) | exact sum_side (m := 82) (Nat.le_trans fwe.1 (by have := fds.2; omega)) fwe.2 (by decide) (by decide) | exact ft.1 | exact same_pre ((by assumption : _ = _).symm.trans ft.2) fds | exact is_side fdd | exact one_blank.1 | exact ⟨by decide, fun d h => by cases h⟩) | (first | omega | decide | (show _ ≤ sizeLine; decide) | (show _ < sizeLine; decide)))) (by first | (first | exact lt_l fds.2 | exact fds.1 _ (by assumption) | exact ⟨Nat.le_trans fds.2 (by decide), fds.1⟩ | exact sum_side fll flb (by decide) (by decide) | exact ⟨by omega, by omega⟩ | omega | exact lt_l (Nat.le_trans fwl.1 (by omega)) (by decide : 1000 < sizeLine) | exact lt_l fw | exact at_m (Nat.succ_pos _) | exact ⟨by decide, by decide, by decide, by have := flb _ (getI_mem (at_in lo_0 hi_0)); exact Nat.le_trans (Nat.add_le_add_right this 2) (by decide)⟩ | exact mul_side (by decide) (by decide) | exact Nat.le_trans fws.1 (by decide) | exact Nat.le_trans (Nat.add_le_add (m3len _) fws.2) (by decide) | (rw [len_app]; exact Nat.le_trans (Nat.add_le_add (Nat.add_le_add (m3len _) fws.2) (m2len _)) (by decide)) | exact sum_side (m := 82) (Nat.le_trans fwe.1 (by have := fds.2; omega)) fwe.2 (by decide) (by decide) | exact ft.1 | exact same_pre ((by assumption : _ = _).symm.trans ft.2) fds | exact is_side fdd | exact one_blank.1 | exact ⟨by decide, fun d h => by cases h⟩) | (first | omega | decide | (show _ ≤ sizeLine; decide) | (show _ < sizeLine; decide)))) (by first | (first | exact lt_l fds.2 | exact fds.1 _ (by assumption) | exact ⟨Nat.le_trans fds.2 (by decide), fds.1⟩ | exact sum_side fll flb (by decide) (by decide) | exact ⟨by omega, by omega⟩ | omega | exact lt_l (Nat.le_trans fwl.1 (by omega)) (by decide : 1000 < sizeLine) | exact lt_l fw | exact at_m (Nat.succ_pos _) | exact ⟨by decide, by decide, by decide, by have := flb _ (getI_mem (at_in lo_0 hi_0)); exact Nat.le_trans (Nat.add_le_add_right this 2) (by decide)⟩ | exact mul_side (by decide) (by decide) | exact Nat.le_trans fws.1 (by decide) | exact Nat.le_trans (Nat.add_le_add (m3len _) fws.2) (by decide) | (rw [len_app]; exact Nat.le_trans (Nat.add_le_add (Nat.add_le_add (m3len _) fws.2) (m2len _)) (by decide)) | exact sum_side (m := 82) (Nat.le_trans fwe.1 (by have := fds.2; omega)) fwe.2 (by decide) (by decide) | exact ft.1 | exact same_pre ((by assumption : _ = _).symm.trans ft.2) fds | exact is_side fdd | exact one_blank.1 | exact ⟨by decide, fun d h => by cases h⟩) | (first | omega | decide | (show _ ≤ sizeLine; decide) | (show _ < sizeLine; decide)))) fun G88 H89 H96 zs94 g87 gr2 hN2 hH2 (h_93 : Reps K (d_44 ++ [(((mulS (" " : Str) (d_36 % (3 : Int))) ++ (Txt.join ("   " : Str) d_81)) ++ (mulS (" " : Str) (d_36 % (2 : Int))))]) zs94 G88) bt95 => ?_
          have h_script := up g87.g h_script
          have h_11 := up g87.g h_11
          have h_23 := up g87.g h_23
          have hN_35 := g87.f _ _ hH_35 hN_35
          have hH_35 := g87.h.l hH_35
          have h_46 := Reps.up g87.g h_46
          have h_38 := up g87.g h_38
          have h_83 := up g87.g h_83
          have sg0 := sg0.trans g87.g
          have gr := gr2
          have hN_35 := hN2
          have hH_35 := hH2
          generalize ed_92 : (d_44 ++ [(((mulS (" " : Str) (d_36 % (3 : Int))) ++ (Txt.join ("   " : Str) d_81)) ++ (mulS (" " : Str) (d_36 % (2 : Int))))]) = d_92 at h_93 hM
          unfold m_law_5 at hM
          try (have fw : d_92.length ≤ 100 := by rw [← ed_92, List.length_append, List.length_singleton]; have := fwl.1; omega)
          exact ⟨_, _, _, gr, sg0, rfl, ⟨_, (by rw [hM]; exact h_93), hH_35, hN_35⟩⟩
      · rintro σ_0 H_0 ⟨G139, o_47, o_48, gr, sg0, rfl, ⟨zs_35, h_46, hH_35, hN_35⟩⟩
        have h_script := up sg0 h_script
        have h_11 := up sg0 h_11
        have h_23 := up sg0 h_23
        rw [rgs_take0] at h_46
        generalize est_0 : (List.foldl (m_law_8 d_script d_21) d_33 (rgs 0 ((d_21).length : Int))) = st_0 at h_46 hM
        obtain ⟨d_44, est2_0⟩ : ∃ z, z = st_0 := ⟨_, rfl⟩
        subst est2_0
        have h_script := up (same_upd (o := .lst zs_35) hN_35) h_script
        have h_11 := up (same_upd (o := .lst zs_35) hN_35) h_11
        have h_23 := up (same_upd (o := .lst zs_35) hN_35) h_23
        have h_46 := fix_rep h_46 hN_35
        have gr := gr.fix hF_35 hN_35 hH_35
        unfold m_law_16 at hM
        have fwd := w_end fds fln ed_33 est_0
        have fwe := w_lens fwd
        refine q_forT (K := K) gr.s (ev_tpl (ea_cons (ev_join ev_str (ev_var rfl h_23) (by first | (first | exact lt_l fds.2 | exact fds.1 _ (by assumption) | exact ⟨Nat.le_trans fds.2 (by decide), fds.1⟩ | exact sum_side fll flb (by decide) (by decide) | exact ⟨by omega, by omega⟩ | omega | exact lt_l (Nat.le_trans fwl.1 (by omega)) (by decide : 1000 < sizeLine) | exact lt_l fw | exact at_m (Nat.succ_pos _) | exact ⟨by decide, by decide, by decide, by have := flb _ (getI_mem (at_in lo_0 hi_0)); exact Nat.le_trans (Nat.add_le_add_right this 2) (by decide)⟩ | exact mul_side (by decide) (by decide) | exact Nat.le_trans fws.1 (by decide) | exact Nat.le_trans (Nat.add_le_add (m3len _) fws.2) (by decide) | (rw [len_app]; exact Nat.le_trans (Nat.add_le_add (Nat.add_le_add (m3len _) fws.2) (m2len _)) (by decide)) | exact sum_side (m := 82) (Nat.le_trans fwe.1 (by have := fds.2; omega)) fwe.2 (by decide) (by decide) | exact ft.1 | exact same_pre ((by assumption : _ = _).symm.trans ft.2) fds | exact is_side fdd | exact one_blank.1 | exact ⟨by decide, fun d h => by cases h⟩) | (first | omega | decide | (show _ ≤ sizeLine; decide) | (show _ < sizeLine; decide)))) (ea_cons (ev_join ev_str (ev_var rfl h_46) (by first | (first | exact lt_l fds.2 | exact fds.1 _ (by assumption) | exact ⟨Nat.le_trans fds.2 (by decide), fds.1⟩ | exact sum_side fll flb (by decide) (by decide) | exact ⟨by omega, by omega⟩ | omega | exact lt_l (Nat.le_trans fwl.1 (by omega)) (by decide : 1000 < sizeLine) | exact lt_l fw | exact at_m (Nat.succ_pos _) | exact ⟨by decide, by decide, by decide, by have := flb _ (getI_mem (at_in lo_0 hi_0)); exact Nat.le_trans (Nat.add_le_add_right this 2) (by decide)⟩ | exact mul_side (by decide) (by decide) | exact Nat.le_trans fws.1 (by decide) | exact Nat.le_trans (Nat.add_le_add (m3len _) fws.2) (by decide) | (rw [len_app]; exact Nat.le_trans (Nat.add_le_add (Nat.add_le_add (m3len _) fws.2) (m2len _)) (by decide)) | exact sum_side (m := 82) (Nat.le_trans fwe.1 (by have := fds.2; omega)) fwe.2 (by decide) (by decide) | exact ft.1 | exact same_pre ((by assumption : _ = _).symm.trans ft.2) fds | exact is_side fdd | exact one_blank.1 | exact ⟨by decide, fun d h => by cases h⟩) | (first | omega | decide | (show _ ≤ sizeLine; decide) | (show _ < sizeLine; decide)))) ea_nil)) (by first | (show _ ≤ sizeLine; decide) | (simp only [List.length_cons, List.length_nil, sizeLine_eq]; omega))) fun G100 H101 xs102 g103 rs104 => ?_
        have h_script := up g103.g h_script
        have h_11 := up g103.g h_11
        have h_23 := up g103.g h_23
        have h_46 := up g103.g h_46
        have gr := gr.trans g103
        refine ⟨fun i_ σ_ H_ => ∃ st_ : Unit, (runL (m_law_11 d_9) () (List.take i_ ((Tpl.mk ((Txt.join ("\n" : Str) d_21) :: ((Txt.join ("\n" : Str) d_44) :: ([] : List Str))))).l)) = Step.go st_ ∧ ∃ (G138 : Hp) (o_105 : Option V) (o_106 : Option V), Grow Ge He G138 H_ ∧ Same G100 G138 ∧ σ_ = [some w_script, some w_10, some w_22, some (V.ref a35), o_48, o_106, none, o_47, o_105], ⟨(), rfl, _, _, _, gr, Same.refl _, rfl⟩, ?_, ?_, ?_⟩
        · rintro i_ σ_ H_ ⟨st_, hgo_, G138, o_105, o_106, gr, sg0, rfl⟩
          exact un sg0 gr.s
        · rintro i_0 d_97 w_98 σ_0 H_0 hx0 h_99 ⟨st_0, hgo0, G138, o_105, o_106, gr, sg0, rfl⟩
          have h_script := up sg0 h_script
          have h_11 := up sg0 h_11
          have h_23 := up sg0 h_23
          have h_46 := up sg0 h_46
          have h_99 := up sg0 h_99
          have hMo0 := hM
          clear hM
          obtain ⟨⟩ := st_0
          have hM : (m_law_11 d_9) () d_97 = (m_law_11 d_9) () d_97 := rfl
          conv at hM => rhs; unfold m_law_11; unfold m_law_10
          have ft := text_ok fds fln fwd hx0
          refine q_asg (K := K) gr.s (ev_call1 (ev_var rfl h_99) (by first | (first | exact lt_l fds.2 | exact fds.1 _ (by assumption) | exact ⟨Nat.le_trans fds.2 (by decide), fds.1⟩ | exact sum_side fll flb (by decide) (by decide) | exact ⟨by omega, by omega⟩ | omega | exact lt_l (Nat.le_trans fwl.1 (by omega)) (by decide : 1000 < sizeLine) | exact lt_l fw | exact at_m (Nat.succ_pos _) | exact ⟨by decide, by decide, by decide, by have := flb _ (getI_mem (at_in lo_0 hi_0)); exact Nat.le_trans (Nat.add_le_add_right this 2) (by decide)⟩ | exact mul_side (by decide) (by decide) | exact Nat.le_trans fws.1 (by decide) | exact Nat.le_trans (Nat.add_le_add (m3len _) fws.2) (by decide) | (rw [len_app]; exact Nat.le_trans (Nat.add_le_add (Nat.add_le_add (m3len _) fws.2) (m2len _)) (by decide)) | exact sum_side (m := 82) (Nat.le_trans fwe.1 (by have := fds.2; omega)) fwe.2 (by decide) (by decide) | exact ft.1 | exact same_pre ((by assumption : _ = _).symm.trans ft.2) fds | exact is_side fdd | exact one_blank.1 | exact ⟨by decide, fun d h => by cases h⟩) | (first | omega | decide))) fun w_108 G111 H112 g110 (h_109 : rep K (m_read_script d_97) w_108 G111) => ?_
          have h_script := up g110.g h_script
          have h_11 := up g110.g h_11
          have h_23 := up g110.g h_23
          have h_46 := up g110.g h_46
          have h_99 := up g110.g h_99
          have sg0 := sg0.trans g110.g
          have gr := gr.trans g110
          generalize ed_107 : (m_read_script d_97) = d_107 at h_109 hM
          unfold m_law_9 at hM
          refine s_if gr.s (et_or (et_not (et_B (ev_isList (ev_var rfl h_109)))) (fun hb113 => (et_not (et_B (ev_call2 (ev_toD (ev_tupleL (ev_var rfl h_109))) (ev_toD (ev_tupleL (ev_var rfl h_11))) (by first | (first | exact lt_l fds.2 | exact fds.1 _ (by assumption) | exact ⟨Nat.le_trans fds.2 (by decide), fds.1⟩ | exact sum_side fll flb (by decide) (by decide) | exact ⟨by omega, by omega⟩ | omega | exact lt_l (Nat.le_trans fwl.1 (by omega)) (by decide : 1000 < sizeLine) | exact lt_l fw | exact at_m (Nat.succ_pos _) | exact ⟨by decide, by decide, by decide, by have := flb _ (getI_mem (at_in lo_0 hi_0)); exact Nat.le_trans (Nat.add_le_add_right this 2) (by decide)⟩ | exact mul_side (by decide) (by decide) | exact Nat.le_trans fws.1 (by decide) | exact Nat.le_trans (Nat.add_le_add (m3len _) fws.2) (by decide) | (rw [len_app]; exact Nat.le_trans (Nat.add_le_add (Nat.add_le_add (m3len _) fws.2) (m2len _)) (by decide)) | exact sum_side (m := 82) (Nat.le_trans fwe.1 (by have := fds.2; omega)) fwe.2 (by decide) (by decide) | exact ft.1 | exact same_pre ((by assumption : _ = _).symm.trans ft.2) fds | exact is_side fdd | exact one_blank.1 | exact ⟨by decide, fun d h => by cases h⟩) | (first | omega | decide))))))) ?_ ?_
          · intro hb116 G117 H118 g115
            have h_script := up g115.g h_script
            have h_11 := up g115.g h_11
            have h_23 := up g115.g h_23
            have h_46 := up g115.g h_46
            have h_99 := up g115.g h_99
            have h_109 := up g115.g h_109
            have sg0 := sg0.trans g115.g
            have gr := gr.trans g115
            replace hM := condT hM hb116
            refine s_ret (K := K) gr.s ev_bl fun u Gr Hr gq hu => ?_
            exact hQ u Gr Hr (gr.trans gq) (by rw [(exitF_ret hMo0 (runL_ret hgo0 hx0 hM))]; exact hu)
          · intro hb116 G119 H120 g115
            have h_script := up g115.g h_script
            have h_11 := up g115.g h_11
            have h_23 := up g115.g h_23
            have h_46 := up g115.g h_46
            have h_99 := up g115.g h_99
            have h_109 := up g115.g h_109
            have sg0 := sg0.trans g115.g
            have gr := gr.trans g115
            replace hM := condF hM hb116
            refine s_next ?_
            exact ⟨_, (runL_go hgo0 hx0 hM), _, _, _, gr, sg0, rfl⟩
        · rintro σ_0 H_0 ⟨st_0, hgo0, G138, o_105, o_106, gr, sg0, rfl⟩
          have h_script := up sg0 h_script
          have h_11 := up sg0 h_11
          have h_23 := up sg0 h_23
          have h_46 := up sg0 h_46
          rw [List.take_length] at hgo0
          rw [hgo0, exitF_go] at hM
          unfold m_law_15 at hM
          refine q_forL (K := K) gr.s (ev_var rfl h_11) fun G124 H125 xs126 g127 rs128 => ?_
          have h_script := up g127.g h_script
          have h_11 := up g127.g h_11
          have h_23 := up g127.g h_23
          have h_46 := up g127.g h_46
          have gr := gr.trans g127
          refine ⟨fun i_ σ_ H_ => ∃ st_ : Unit, (runL m_law_13 () (List.take i_ d_9)) = Step.go st_ ∧ ∃ (G137 : Hp) (o_129 : Option V), Grow Ge He G137 H_ ∧ Same G124 G137 ∧ σ_ = [some w_script, some w_10, some w_22, some (V.ref a35), o_48, o_106, o_129, o_47, o_105], ⟨(), rfl, _, _, gr, Same.refl _, rfl⟩, ?_, ?_, ?_⟩
          · rintro i_ σ_ H_ ⟨st_, hgo_, G137, o_129, gr, sg0, rfl⟩
            exact un sg0 gr.s
          · rintro i_0 d_121 w_122 σ_0 H_0 hx0 h_123 ⟨st_0, hgo0, G137, o_129, gr, sg0, rfl⟩
            have h_script := up sg0 h_script
            have h_11 := up sg0 h_11
            have h_23 := up sg0 h_23
            have h_46 := up sg0 h_46
            have h_123 := up sg0 h_123
            have hMo0 := hM
            clear hM
            obtain ⟨⟩ := st_0
            have hM : m_law_13 () d_121 = m_law_13 () d_121 := rfl
            conv at hM => rhs; unfold m_law_13; unfold m_law_12
            have fdd : PreL d_121 := fds.1 _ (List.mem_of_getElem? hx0)
            refine s_if gr.s (et_test (ev_isNB (ev_call1 (ev_toD (ev_var rfl h_123)) (by first | (first | exact lt_l fds.2 | exact fds.1 _ (by assumption) | exact ⟨Nat.le_trans fds.2 (by decide), fds.1⟩ | exact sum_side fll flb (by decide) (by decide) | exact ⟨by omega, by omega⟩ | omega | exact lt_l (Nat.le_trans fwl.1 (by omega)) (by decide : 1000 < sizeLine) | exact lt_l fw | exact at_m (Nat.succ_pos _) | exact ⟨by decide, by decide, by decide, by have := flb _ (getI_mem (at_in lo_0 hi_0)); exact Nat.le_trans (Nat.add_le_add_right this 2) (by decide)⟩ | exact mul_side (by decide) (by decide) | exact Nat.le_trans fws.1 (by decide) | exact Nat.le_trans (Nat.add_le_add (m3len _) fws.2) (by decide) | (rw [len_app]; exact Nat.le_trans (Nat.add_le_add (Nat.add_le_add (m3len _) fws.2) (m2len _)) (by decide)) | exact sum_side (m := 82) (Nat.le_trans fwe.1 (by have := fds.2; omega)) fwe.2 (by decide) (by decide) | exact ft.1 | exact same_pre ((by assumption : _ = _).symm.trans ft.2) fds | exact is_side fdd | exact one_blank.1 | exact ⟨by decide, fun d h => by cases h⟩) | (first | omega | decide))) ev_bl)) ?_ ?_
            · intro hb131 G132 H133 g130
              have h_script := up g130.g h_script
              have h_11 := up g130.g h_11
              have h_23 := up g130.g h_23
              have h_46 := up g130.g h_46
              have h_123 := up g130.g h_123
              have sg0 := sg0.trans g130.g
              have gr := gr.trans g130
              replace hM := condT hM hb131
              refine s_ret (K := K) gr.s ev_bl fun u Gr Hr gq hu => ?_
              exact hQ u Gr Hr (gr.trans gq) (by rw [(exitF_ret hMo0 (runL_ret hgo0 hx0 hM))]; exact hu)
            · intro hb131 G134 H135 g130
              have h_script := up g130.g h_script
              have h_11 := up g130.g h_11
              have h_23 := up g130.g h_23
              have h_46 := up g130.g h_46
              have h_123 := up g130.g h_123
              have sg0 := sg0.trans g130.g
              have gr := gr.trans g130
              replace hM := condF hM hb131
              refine s_next ?_
              exact ⟨_, (runL_go hgo0 hx0 hM), _, _, gr, sg0, rfl⟩
          · rintro σ_0 H_0 ⟨st_0, hgo0, G137, o_129, gr, sg0, rfl⟩
            have h_script := up sg0 h_script
            have h_11 := up sg0 h_11
            have h_23 := up sg0 h_23
            have h_46 := up sg0 h_46
            rw [List.take_length] at hgo0
            rw [hgo0, exitF_go] at hM
            unfold m_law_14 at hM
            refine s_ret (K := K) gr.s (ev_andV (ev_eqD (ev_call1 ev_str (by first | (first | exact lt_l fds.2 | exact fds.1 _ (by assumption) | exact ⟨Nat.le_trans fds.2 (by decide), fds.1⟩ | exact sum_side fll flb (by decide) (by decide) | exact ⟨by omega, by omega⟩ | omega | exact lt_l (Nat.le_trans fwl.1 (by omega)) (by decide : 1000 < sizeLine) | exact lt_l fw | exact at_m (Nat.succ_pos _) | exact ⟨by decide, by decide, by decide, by have := flb _ (getI_mem (at_in lo_0 hi_0)); exact Nat.le_trans (Nat.add_le_add_right this 2) (by decide)⟩ | exact mul_side (by decide) (by decide) | exact Nat.le_trans fws.1 (by decide) | exact Nat.le_trans (Nat.add_le_add (m3len _) fws.2) (by decide) | (rw [len_app]; exact Nat.le_trans (Nat.add_le_add (Nat.add_le_add (m3len _) fws.2) (m2len _)) (by decide)) | exact sum_side (m := 82) (Nat.le_trans fwe.1 (by have := fds.2; omega)) fwe.2 (by decide) (by decide) | exact ft.1 | exact same_pre ((by assumption : _ = _).symm.trans ft.2) fds | exact is_side fdd | exact one_blank.1 | exact ⟨by decide, fun d h => by cases h⟩) | (first | omega | decide))) (ev_lst (l := ([] : List (Tpl PyData))) ea_nil (by first | (first | exact lt_l fds.2 | exact fds.1 _ (by assumption) | exact ⟨Nat.le_trans fds.2 (by decide), fds.1⟩ | exact sum_side fll flb (by decide) (by decide) | exact ⟨by omega, by omega⟩ | omega | exact lt_l (Nat.le_trans fwl.1 (by omega)) (by decide : 1000 < sizeLine) | exact lt_l fw | exact at_m (Nat.succ_pos _) | exact ⟨by decide, by decide, by decide, by have := flb _ (getI_mem (at_in lo_0 hi_0)); exact Nat.le_trans (Nat.add_le_add_right this 2) (by decide)⟩ | exact mul_side (by decide) (by decide) | exact Nat.le_trans fws.1 (by decide) | exact Nat.le_trans (Nat.add_le_add (m3len _) fws.2) (by decide) | (rw [len_app]; exact Nat.le_trans (Nat.add_le_add (Nat.add_le_add (m3len _) fws.2) (m2len _)) (by decide)) | exact sum_side (m := 82) (Nat.le_trans fwe.1 (by have := fds.2; omega)) fwe.2 (by decide) (by decide) | exact ft.1 | exact same_pre ((by assumption : _ = _).symm.trans ft.2) fds | exact is_side fdd | exact one_blank.1 | exact ⟨by decide, fun d h => by cases h⟩) | (first | (show _ ≤ sizeLine; decide) | (simp only [List.length_cons, List.length_nil, List.length_append, sizeLine_eq]; omega) | (fail)))) (by first | (first | exact lt_l fds.2 | exact fds.1 _ (by assumption) | exact ⟨Nat.le_trans fds.2 (by decide), fds.1⟩ | exact sum_side fll flb (by decide) (by decide) | exact ⟨by omega, by omega⟩ | omega | exact lt_l (Nat.le_trans fwl.1 (by omega)) (by decide : 1000 < sizeLine) | exact lt_l fw | exact at_m (Nat.succ_pos _) | exact ⟨by decide, by decide, by decide, by have := flb _ (getI_mem (at_in lo_0 hi_0)); exact Nat.le_trans (Nat.add_le_add_right this 2) (by decide)⟩ | exact mul_side (by decide) (by decide) | exact Nat.le_trans fws.1 (by decide) | exact Nat.le_trans (Nat.add_le_add (m3len _) fws.2) (by decide) | (rw [len_app]; exact Nat.le_trans (Nat.add_le_add (Nat.add_le_add (m3len _) fws.2) (m2len _)) (by decide)) | exact sum_side (m := 82) (Nat.le_trans fwe.1 (by have := fds.2; omega)) fwe.2 (by decide) (by decide) | exact ft.1 | exact same_pre ((by assumption : _ = _).symm.trans ft.2) fds | exact is_side fdd | exact one_blank.1 | exact ⟨by decide, fun d h => by cases h⟩) | (first | omega | decide | (show _ ≤ sizeLine; decide) | (show _ < sizeLine; decide)))) (fun hb136 => (ev_eq (ev_call1 (ev_lst (l := ([] : List (Tpl PyData))) ea_nil (by first | (first | exact lt_l fds.2 | exact fds.1 _ (by assumption) | exact ⟨Nat.le_trans fds.2 (by decide), fds.1⟩ | exact sum_side fll flb (by decide) (by decide) | exact ⟨by omega, by omega⟩ | omega | exact lt_l (Nat.le_trans fwl.1 (by omega)) (by decide : 1000 < sizeLine) | exact lt_l fw | exact at_m (Nat.succ_pos _) | exact ⟨by decide, by decide, by decide, by have := flb _ (getI_mem (at_in lo_0 hi_0)); exact Nat.le_trans (Nat.add_le_add_right this 2) (by decide)⟩ | exact mul_side (by decide) (by decide) | exact Nat.le_trans fws.1 (by decide) | exact Nat.le_trans (Nat.add_le_add (m3len _) fws.2) (by decide) | (rw [len_app]; exact Nat.le_trans (Nat.add_le_add (Nat.add_le_add (m3len _) fws.2) (m2len _)) (by decide)) | exact sum_side (m := 82) (Nat.le_trans fwe.1 (by have := fds.2; omega)) fwe.2 (by decide) (by decide) | exact ft.1 | exact same_pre ((by assumption : _ = _).symm.trans ft.2) fds | exact is_side fdd | exact one_blank.1 | exact ⟨by decide, fun d h => by cases h⟩) | (first | (show _ ≤ sizeLine; decide) | (simp only [List.length_cons, List.length_nil, List.length_append, sizeLine_eq]; omega) | (fail)))) (by first | (first | exact lt_l fds.2 | exact fds.1 _ (by assumption) | exact ⟨Nat.le_trans fds.2 (by decide), fds.1⟩ | exact sum_side fll flb (by decide) (by decide) | exact ⟨by omega, by omega⟩ | omega | exact lt_l (Nat.le_trans fwl.1 (by omega)) (by decide : 1000 < sizeLine) | exact lt_l fw | exact at_m (Nat.succ_pos _) | exact ⟨by decide, by decide, by decide, by have := flb _ (getI_mem (at_in lo_0 hi_0)); exact Nat.le_trans (Nat.add_le_add_right this 2) (by decide)⟩ | exact mul_side (by decide) (by decide) | exact Nat.le_trans fws.1 (by decide) | exact Nat.le_trans (Nat.add_le_add (m3len _) fws.2) (by decide) | (rw [len_app]; exact Nat.le_trans (Nat.add_le_add (Nat.add_le_add (m3len _) fws.2) (m2len _)) (by decide)) | exact sum_side (m := 82) (Nat.le_trans fwe.1 (by have := fds.2; omega)) fwe.2 (by decide) (by decide) | exact ft.1 | exact same_pre ((by assumption : _ = _).symm.trans ft.2) fds | exact is_side fdd | exact one_blank.1 | exact ⟨by decide, fun d h => by cases h⟩) | (first | omega | decide))) ev_str))) fun u Gr Hr gq hu => ?_
            exact hQ u Gr Hr (gr.trans gq) (by rw [hM]; exact hu)
end
section
variable [Tb]

end
theorem all_mk {l : PySem.W.OpenLaw} {w : World} {K : PySem.W.Frag} {h : Heap} {mg : Str → Option Value} {fa : Addr} (X : K.In h) (G : h.Ns mainGlobals mg) (hfa : mg "law" = some (.ref fa))
    {f0 : Addr} {od0 an0 : Option Addr} {sl0 : Array (Option Value)} {oc0 kV0 dc0 pm0 cd0 ct0 : Value}
    {f1 : Addr} {od1 an1 : Option Addr} {sl1 : Array (Option Value)} {oc1 kV1 dc1 pm1 cd1 ct1 : Value}
    {f2 : Addr} {od2 an2 : Option Addr} {sl2 : Array (Option Value)} {oc2 kV2 dc2 pm2 cd2 ct2 : Value}
    {f3 : Addr} {od3 an3 : Option Addr} {sl3 : Array (Option Value)} {oc3 kV3 dc3 pm3 cd3 ct3 : Value}
    {f4 : Addr} {od4 an4 : Option Addr} {sl4 : Array (Option Value)} {oc4 kV4 dc4 pm4 cd4 ct4 : Value}
    {f5 : Addr} {od5 an5 : Option Addr} {sl5 : Array (Option Value)} {oc5 kV5 dc5 pm5 cd5 ct5 : Value}
    {f6 : Addr} {od6 an6 : Option Addr} {sl6 : Array (Option Value)} {oc6 kV6 dc6 pm6 cd6 ct6 : Value}
    {f7 : Addr} {od7 an7 : Option Addr} {sl7 : Array (Option Value)} {oc7 kV7 dc7 pm7 cd7 ct7 : Value}
    {f8 : Addr} {od8 an8 : Option Addr} {sl8 : Array (Option Value)} {oc8 kV8 dc8 pm8 cd8 ct8 : Value}
    {f9 : Addr} {od9 an9 : Option Addr} {sl9 : Array (Option Value)} {oc9 kV9 dc9 pm9 cd9 ct9 : Value}
    {f10 : Addr} {od10 an10 : Option Addr} {sl10 : Array (Option Value)} {oc10 kV10 dc10 pm10 cd10 ct10 : Value}
    {f11 : Addr} {od11 an11 : Option Addr} {sl11 : Array (Option Value)} {oc11 kV11 dc11 pm11 cd11 ct11 : Value}
    {f12 : Addr} {od12 an12 : Option Addr} {sl12 : Array (Option Value)} {oc12 kV12 dc12 pm12 cd12 ct12 : Value}
    {f13 : Addr} {od13 an13 : Option Addr} {sl13 : Array (Option Value)} {oc13 kV13 dc13 pm13 cd13 ct13 : Value}
    {f14 : Addr} {od14 an14 : Option Addr} {sl14 : Array (Option Value)} {oc14 kV14 dc14 pm14 cd14 ct14 : Value}
    {f15 : Addr} {od15 an15 : Option Addr} {sl15 : Array (Option Value)} {oc15 kV15 dc15 pm15 cd15 ct15 : Value}
    {f16 : Addr} {od16 an16 : Option Addr} {sl16 : Array (Option Value)} {oc16 kV16 dc16 pm16 cd16 ct16 : Value}
    {f17 : Addr} {od17 an17 : Option Addr} {sl17 : Array (Option Value)} {oc17 kV17 dc17 pm17 cd17 ct17 : Value}
    {f18 : Addr} {od18 an18 : Option Addr} {sl18 : Array (Option Value)} {oc18 kV18 dc18 pm18 cd18 ct18 : Value}
    {f19 : Addr} {od19 an19 : Option Addr} {sl19 : Array (Option Value)} {oc19 kV19 dc19 pm19 cd19 ct19 : Value}
    {f20 : Addr} {od20 an20 : Option Addr} {sl20 : Array (Option Value)} {oc20 kV20 dc20 pm20 cd20 ct20 : Value}
    {f21 : Addr} {od21 an21 : Option Addr} {sl21 : Array (Option Value)} {oc21 kV21 dc21 pm21 cd21 ct21 : Value}
    {f22 : Addr} {od22 an22 : Option Addr} {sl22 : Array (Option Value)} {oc22 kV22 dc22 pm22 cd22 ct22 : Value}
    {f23 : Addr} {od23 an23 : Option Addr} {sl23 : Array (Option Value)} {oc23 kV23 dc23 pm23 cd23 ct23 : Value}
    {f24 : Addr} {od24 an24 : Option Addr} {sl24 : Array (Option Value)} {oc24 kV24 dc24 pm24 cd24 ct24 : Value}
    {f25 : Addr} {od25 an25 : Option Addr} {sl25 : Array (Option Value)} {oc25 kV25 dc25 pm25 cd25 ct25 : Value}
    {q0 : Addr} {qd0 : Option Addr} {qi0 : Array Value} {qn0 : Nat} {qs0 : Array (Option Value)}
    {kq0 : Addr}
    {kq1 : Addr}
    {ci0 : Value}
    {ci1 : Value}
    {ci2 : Value}
    {ci3 : Value}
    {ci4 : Value}
    {ci5 : Value}
    {B0 : Addr}
    {X0 I0 N0 : Addr} {xn0 xq0 : Str} {xb0 : List Value} {xs0 : List Str} {xu0 : List Value} {xa0 : Bool} {xc0 : Option Bool} {xd0 : Option Addr} {m00 m10 m20 m30 m50 : Option Value}
    {iod0 ian0 : Option Addr} {isl0 : Array (Option Value)} {ioc0 ikV0 idc0 ipm0 icd0 ict0 : Value}
    (a0 : PySem.W.nsIn K mainGlobals "is_name" = some (some (.ref f0)))
    (l0 : K.lookup f0 = some ⟨oc0, od0, .func (PySem.W.fnOf "is_name" "is_name" (defArgs s_is_name) (defBody s_is_name) (defScope s_is_name) .none kV0 dc0 pm0 an0 cd0 ct0), sl0⟩)
    (c0 : PySem.W.codeIn K cd0 "is_name" = true)
    (k0 : PySem.W.keepIn K (.ref f0) = true)
    (a1 : PySem.W.nsIn K mainGlobals "is_label" = some (some (.ref f1)))
    (l1 : K.lookup f1 = some ⟨oc1, od1, .func (PySem.W.fnOf "is_label" "is_label" (defArgs s_is_label) (defBody s_is_label) (defScope s_is_label) .none kV1 dc1 pm1 an1 cd1 ct1), sl1⟩)
    (c1 : PySem.W.codeIn K cd1 "is_label" = true)
    (k1 : PySem.W.keepIn K (.ref f1) = true)
    (a2 : PySem.W.nsIn K mainGlobals "quoted" = some (some (.ref f2)))
    (l2 : K.lookup f2 = some ⟨oc2, od2, .func (PySem.W.fnOf "quoted" "quoted" (defArgs s_quoted) (defBody s_quoted) (defScope s_quoted) .none kV2 dc2 pm2 an2 cd2 ct2), sl2⟩)
    (c2 : PySem.W.codeIn K cd2 "quoted" = true)
    (k2 : PySem.W.keepIn K (.ref f2) = true)
    (a3 : PySem.W.nsIn K mainGlobals "text_in" = some (some (.ref f3)))
    (l3 : K.lookup f3 = some ⟨oc3, od3, .func (PySem.W.fnOf "text_in" "text_in" (defArgs s_text_in) (defBody s_text_in) (defScope s_text_in) .none kV3 dc3 pm3 an3 cd3 ct3), sl3⟩)
    (c3 : PySem.W.codeIn K cd3 "text_in" = true)
    (k3 : PySem.W.keepIn K (.ref f3) = true)
    (a4 : PySem.W.nsIn K mainGlobals "_is_number" = some (some (.ref f4)))
    (l4 : K.lookup f4 = some ⟨oc4, od4, .func (PySem.W.fnOf "_is_number" "_is_number" (defArgs s__is_number) (defBody s__is_number) (defScope s__is_number) .none kV4 dc4 pm4 an4 cd4 ct4), sl4⟩)
    (c4 : PySem.W.codeIn K cd4 "_is_number" = true)
    (k4 : PySem.W.keepIn K (.ref f4) = true)
    (a5 : PySem.W.nsIn K mainGlobals "_is_text" = some (some (.ref f5)))
    (l5 : K.lookup f5 = some ⟨oc5, od5, .func (PySem.W.fnOf "_is_text" "_is_text" (defArgs s__is_text) (defBody s__is_text) (defScope s__is_text) .none kV5 dc5 pm5 an5 cd5 ct5), sl5⟩)
    (c5 : PySem.W.codeIn K cd5 "_is_text" = true)
    (k5 : PySem.W.keepIn K (.ref f5) = true)
    (a6 : PySem.W.nsIn K mainGlobals "_has_form" = some (some (.ref f6)))
    (l6 : K.lookup f6 = some ⟨oc6, od6, .func (PySem.W.fnOf "_has_form" "_has_form" (defArgs s__has_form) (defBody s__has_form) (defScope s__has_form) .none kV6 dc6 pm6 an6 cd6 ct6), sl6⟩)
    (c6 : PySem.W.codeIn K cd6 "_has_form" = true)
    (k6 : PySem.W.keepIn K (.ref f6) = true)
    (a7 : PySem.W.nsIn K mainGlobals "is_deed" = some (some (.ref f7)))
    (l7 : K.lookup f7 = some ⟨oc7, od7, .func (PySem.W.fnOf "is_deed" "is_deed" (defArgs s_is_deed) (defBody s_is_deed) (defScope s_is_deed) .none kV7 dc7 pm7 an7 cd7 ct7), sl7⟩)
    (c7 : PySem.W.codeIn K cd7 "is_deed" = true)
    (k7 : PySem.W.keepIn K (.ref f7) = true)
    (a8 : PySem.W.nsIn K mainGlobals "_end_of_part" = some (some (.ref f8)))
    (l8 : K.lookup f8 = some ⟨oc8, od8, .func (PySem.W.fnOf "_end_of_part" "_end_of_part" (defArgs s__end_of_part) (defBody s__end_of_part) (defScope s__end_of_part) .none kV8 dc8 pm8 an8 cd8 ct8), sl8⟩)
    (c8 : PySem.W.codeIn K cd8 "_end_of_part" = true)
    (k8 : PySem.W.keepIn K (.ref f8) = true)
    (a9 : PySem.W.nsIn K mainGlobals "_parts" = some (some (.ref f9)))
    (l9 : K.lookup f9 = some ⟨oc9, od9, .func (PySem.W.fnOf "_parts" "_parts" (defArgs s__parts) (defBody s__parts) (defScope s__parts) .none kV9 dc9 pm9 an9 cd9 ct9), sl9⟩)
    (c9 : PySem.W.codeIn K cd9 "_parts" = true)
    (k9 : PySem.W.keepIn K (.ref f9) = true)
    (a10 : PySem.W.nsIn K mainGlobals "_number_in" = some (some (.ref f10)))
    (l10 : K.lookup f10 = some ⟨oc10, od10, .func (PySem.W.fnOf "_number_in" "_number_in" (defArgs s__number_in) (defBody s__number_in) (defScope s__number_in) .none kV10 dc10 pm10 an10 cd10 ct10), sl10⟩)
    (c10 : PySem.W.codeIn K cd10 "_number_in" = true)
    (k10 : PySem.W.keepIn K (.ref f10) = true)
    (a11 : PySem.W.nsIn K mainGlobals "_argument_in" = some (some (.ref f11)))
    (l11 : K.lookup f11 = some ⟨oc11, od11, .func (PySem.W.fnOf "_argument_in" "_argument_in" (defArgs s__argument_in) (defBody s__argument_in) (defScope s__argument_in) .none kV11 dc11 pm11 an11 cd11 ct11), sl11⟩)
    (c11 : PySem.W.codeIn K cd11 "_argument_in" = true)
    (k11 : PySem.W.keepIn K (.ref f11) = true)
    (a12 : PySem.W.nsIn K mainGlobals "_deed_in" = some (some (.ref f12)))
    (l12 : K.lookup f12 = some ⟨oc12, od12, .func (PySem.W.fnOf "_deed_in" "_deed_in" (defArgs s__deed_in) (defBody s__deed_in) (defScope s__deed_in) .none kV12 dc12 pm12 an12 cd12 ct12), sl12⟩)
    (c12 : PySem.W.codeIn K cd12 "_deed_in" = true)
    (k12 : PySem.W.keepIn K (.ref f12) = true)
    (a13 : PySem.W.nsIn K mainGlobals "read_script" = some (some (.ref f13)))
    (l13 : K.lookup f13 = some ⟨oc13, od13, .func (PySem.W.fnOf "read_script" "read_script" (defArgs s_read_script) (defBody s_read_script) (defScope s_read_script) .none kV13 dc13 pm13 an13 cd13 ct13), sl13⟩)
    (c13 : PySem.W.codeIn K cd13 "read_script" = true)
    (k13 : PySem.W.keepIn K (.ref f13) = true)
    (a14 : PySem.W.nsIn K mainGlobals "_written" = some (some (.ref f14)))
    (l14 : K.lookup f14 = some ⟨oc14, od14, .func (PySem.W.fnOf "_written" "_written" (defArgs s__written) (defBody s__written) (defScope s__written) .none kV14 dc14 pm14 an14 cd14 ct14), sl14⟩)
    (c14 : PySem.W.codeIn K cd14 "_written" = true)
    (k14 : PySem.W.keepIn K (.ref f14) = true)
    (a15 : PySem.W.nsIn K mainGlobals "_line_of" = some (some (.ref f15)))
    (l15 : K.lookup f15 = some ⟨oc15, od15, .func (PySem.W.fnOf "_line_of" "_line_of" (defArgs s__line_of) (defBody s__line_of) (defScope s__line_of) .none kV15 dc15 pm15 an15 cd15 ct15), sl15⟩)
    (c15 : PySem.W.codeIn K cd15 "_line_of" = true)
    (k15 : PySem.W.keepIn K (.ref f15) = true)
    (a16 : PySem.W.nsIn K mainGlobals "write_script" = some (some (.ref f16)))
    (l16 : K.lookup f16 = some ⟨oc16, od16, .func (PySem.W.fnOf "write_script" "write_script" (defArgs s_write_script) (defBody s_write_script) (defScope s_write_script) .none kV16 dc16 pm16 an16 cd16 ct16), sl16⟩)
    (c16 : PySem.W.codeIn K cd16 "write_script" = true)
    (k16 : PySem.W.keepIn K (.ref f16) = true)
    (a17 : PySem.W.nsIn K mainGlobals "_law_cell" = some (some (.ref f17)))
    (l17 : K.lookup f17 = some ⟨oc17, od17, .func (PySem.W.fnOf "_law_cell" "_law_cell" (defArgs s__law_cell) (defBody s__law_cell) (defScope s__law_cell) .none kV17 dc17 pm17 an17 cd17 ct17), sl17⟩)
    (c17 : PySem.W.codeIn K cd17 "_law_cell" = true)
    (k17 : PySem.W.keepIn K (.ref f17) = true)
    (a18 : PySem.W.nsIn K mainGlobals "_law_draws" = some (some (.ref f18)))
    (l18 : K.lookup f18 = some ⟨oc18, od18, .func (PySem.W.fnOf "_law_draws" "_law_draws" (defArgs s__law_draws) (defBody s__law_draws) (defScope s__law_draws) .none kV18 dc18 pm18 an18 cd18 ct18), sl18⟩)
    (c18 : PySem.W.codeIn K cd18 "_law_draws" = true)
    (k18 : PySem.W.keepIn K (.ref f18) = true)
    (a19 : PySem.W.nsIn K mainGlobals "_law_same" = some (some (.ref f19)))
    (l19 : K.lookup f19 = some ⟨oc19, od19, .func (PySem.W.fnOf "_law_same" "_law_same" (defArgs s__law_same) (defBody s__law_same) (defScope s__law_same) .none kV19 dc19 pm19 an19 cd19 ct19), sl19⟩)
    (c19 : PySem.W.codeIn K cd19 "_law_same" = true)
    (k19 : PySem.W.keepIn K (.ref f19) = true)
    (a20 : PySem.W.nsIn K mainGlobals "_law_text" = some (some (.ref f20)))
    (l20 : K.lookup f20 = some ⟨oc20, od20, .func (PySem.W.fnOf "_law_text" "_law_text" (defArgs s__law_text) (defBody s__law_text) (defScope s__law_text) .none kV20 dc20 pm20 an20 cd20 ct20), sl20⟩)
    (c20 : PySem.W.codeIn K cd20 "_law_text" = true)
    (k20 : PySem.W.keepIn K (.ref f20) = true)
    (a21 : PySem.W.nsIn K mainGlobals "_law_forms" = some (some (.ref f21)))
    (l21 : K.lookup f21 = some ⟨oc21, od21, .func (PySem.W.fnOf "_law_forms" "_law_forms" (defArgs s__law_forms) (defBody s__law_forms) (defScope s__law_forms) .none kV21 dc21 pm21 an21 cd21 ct21), sl21⟩)
    (c21 : PySem.W.codeIn K cd21 "_law_forms" = true)
    (k21 : PySem.W.keepIn K (.ref f21) = true)
    (a22 : PySem.W.nsIn K mainGlobals "_law_argument" = some (some (.ref f22)))
    (l22 : K.lookup f22 = some ⟨oc22, od22, .func (PySem.W.fnOf "_law_argument" "_law_argument" (defArgs s__law_argument) (defBody s__law_argument) (defScope s__law_argument) .none kV22 dc22 pm22 an22 cd22 ct22), sl22⟩)
    (c22 : PySem.W.codeIn K cd22 "_law_argument" = true)
    (k22 : PySem.W.keepIn K (.ref f22) = true)
    (a23 : PySem.W.nsIn K mainGlobals "_law_any_deed" = some (some (.ref f23)))
    (l23 : K.lookup f23 = some ⟨oc23, od23, .func (PySem.W.fnOf "_law_any_deed" "_law_any_deed" (defArgs s__law_any_deed) (defBody s__law_any_deed) (defScope s__law_any_deed) .none kV23 dc23 pm23 an23 cd23 ct23), sl23⟩)
    (c23 : PySem.W.codeIn K cd23 "_law_any_deed" = true)
    (k23 : PySem.W.keepIn K (.ref f23) = true)
    (a24 : PySem.W.nsIn K mainGlobals "_law_line" = some (some (.ref f24)))
    (l24 : K.lookup f24 = some ⟨oc24, od24, .func (PySem.W.fnOf "_law_line" "_law_line" (defArgs s__law_line) (defBody s__law_line) (defScope s__law_line) .none kV24 dc24 pm24 an24 cd24 ct24), sl24⟩)
    (c24 : PySem.W.codeIn K cd24 "_law_line" = true)
    (k24 : PySem.W.keepIn K (.ref f24) = true)
    (a25 : PySem.W.nsIn K mainGlobals "law" = some (some (.ref f25)))
    (l25 : K.lookup f25 = some ⟨oc25, od25, .func (PySem.W.fnOf "law" "law" (defArgs s_law) (defBody s_law) (defScope s_law) .none kV25 dc25 pm25 an25 cd25 ct25), sl25⟩)
    (c25 : PySem.W.codeIn K cd25 "law" = true)
    (k25 : PySem.W.keepIn K (.ref f25) = true)
    (qa0 : PySem.W.nsIn K mainGlobals "KINDS" = some (some (.ref q0)))
    (ql0 : K.lookup q0 = some ⟨.type "tuple", qd0, .seq qi0 qn0, qs0⟩)
    (qv0 : Vals ([V.str ("item" : Str), V.str ("container" : Str), V.str ("linear" : Str), V.str ("circular" : Str), V.str ("layer" : Str)] : List V) qi0.toList)
    (ka0 : PySem.W.nsIn K mainGlobals "FORMS" = some (some (.ref kq0)))
    (kd0 : KDs K w kq0 k_FORMS)
    (ka1 : PySem.W.nsIn K mainGlobals "_TONES" = some (some (.ref kq1)))
    (kd1 : KDs K w kq1 k__TONES)
    (ca0 : PySem.W.nsIn K mainGlobals "_NAME_CHARACTERS" = some (some ci0))
    (cv0 : RelV (.str ("abcdefghijklmnopqrstuvwxyz0123456789._-" : Str)) ci0)
    (ca1 : PySem.W.nsIn K mainGlobals "_LONGEST_NAME" = some (some ci1))
    (cv1 : RelV (.int 8) ci1)
    (ca2 : PySem.W.nsIn K mainGlobals "_LONGEST_LABEL" = some (some ci2))
    (cv2 : RelV (.int 40) ci2)
    (ca3 : PySem.W.nsIn K mainGlobals "_GREATEST_INDEX" = some (some ci3))
    (cv3 : RelV (.int 59) ci3)
    (ca4 : PySem.W.nsIn K mainGlobals "_GREATEST_NUMBER" = some (some ci4))
    (cv4 : RelV (.int 1000000) ci4)
    (ca5 : PySem.W.nsIn K mainGlobals "_LONGEST_TEXT" = some (some ci5))
    (cv5 : RelV (.int 100) ci5)
    (z0 : PySem.W.nsIn K mainGlobals "all" = some none)
    (z1 : PySem.W.nsIn K mainGlobals "bool" = some none)
    (z2 : PySem.W.nsIn K mainGlobals "enumerate" = some none)
    (z3 : PySem.W.nsIn K mainGlobals "int" = some none)
    (z4 : PySem.W.nsIn K mainGlobals "isinstance" = some none)
    (z5 : PySem.W.nsIn K mainGlobals "len" = some none)
    (z6 : PySem.W.nsIn K mainGlobals "list" = some none)
    (z7 : PySem.W.nsIn K mainGlobals "range" = some none)
    (z8 : PySem.W.nsIn K mainGlobals "sorted" = some none)
    (z9 : PySem.W.nsIn K mainGlobals "str" = some none)
    (z10 : PySem.W.nsIn K mainGlobals "tuple" = some none)
    (z11 : PySem.W.nsIn K mainGlobals "zip" = some none)
    (ba0 : PySem.W.nsIn K mainGlobals "FocusError" = some (some (.ref B0)))
    (br0 : PySem.W.readsIn K B0 (.type "type") = true)
    (bg0 : PySem.W.specialIn K (.ref B0) "__getattribute__" = some (some (.builtin "type.__getattribute__")))
    (bv0 : PySem.W.findCls K (.ref B0) (.type "type") "__init__" = some (.val (.builtin "ValueError.__init__")))
    (xna0 : PySem.W.nsIn K mainGlobals "BadScript" = some (some (.ref X0)))
    (xl0 : K.lookup X0 = some (excClassObj xn0 xq0 X0 N0 xb0 [.ref B0, .type "ValueError", .type "Exception", .type "BaseException", .type "object"] true xs0 xu0 xa0 xc0 xd0 m00 m10 m20 m30 m50 "ValueError.__new__"))
    (xsa0 : PySem.W.findIn K (.ref X0) "__setattr__" = some (some (.builtin "object.__setattr__")))
    (xga0 : PySem.W.findIn K (.ref X0) "__getattribute__" = some (some (.builtin "BaseException.__getattribute__")))
    (xgg0 : PySem.W.findIn K (.ref X0) "__getattr__" = some none)
    (xnb0 : PySem.W.findIn K (.ref X0) "line" = some none)
    (xii0 : PySem.W.findIn K (.ref X0) "__init__" = some (some (.ref I0)))
    (xkc0 : PySem.W.keepIn K (.ref X0) = true)
    (xec0 : PySem.W.subIn K (.ref X0) (.type "BaseException") = some true)
    (xtc0 : PySem.W.typeIn K (.ref X0) = some (.type "type"))
    (xhc0 : PySem.W.hasDictIn K X0 = true)
    (xsc0 : PySem.W.subIn K (.ref X0) (.ref X0) = some true)
    (it0 : PySem.W.typeIn K (.ref I0) = some (.type "function"))
    (il0 : K.lookup I0 = some ⟨ioc0, iod0, .func (PySem.W.fnOf "__init__" "BadScript.__init__" (defArgs s_init_BadScript) (defBody s_init_BadScript) (defScope s_init_BadScript) .none ikV0 idc0 ipm0 ian0 icd0 ict0), isl0⟩)
    (ic0 : PySem.W.codeIn K icd0 "BadScript.__init__" = true)
    (ik0 : PySem.W.keepIn K (.ref I0) = true)
    {tc0 tt0 : Addr} {q : Program}
    (tr0 : ∃ e, (recsOf q).find? (fun r => r.name == ("is_name" : Str)) = some e)
    (ti0 : PySem.W.tabIn K "is_name" = some (tc0, tt0))
    (tn0 : K.lookup tt0 = none)
    (tk0 : cd0 = .ref tc0)
    {tc1 tt1 : Addr}
    (tr1 : ∃ e, (recsOf q).find? (fun r => r.name == ("is_label" : Str)) = some e)
    (ti1 : PySem.W.tabIn K "is_label" = some (tc1, tt1))
    (tn1 : K.lookup tt1 = none)
    (tk1 : cd1 = .ref tc1)
    {tc2 tt2 : Addr}
    (tr2 : ∃ e, (recsOf q).find? (fun r => r.name == ("_is_text" : Str)) = some e)
    (ti2 : PySem.W.tabIn K "_is_text" = some (tc2, tt2))
    (tn2 : K.lookup tt2 = none)
    (tk2 : cd5 = .ref tc2)
    {tc3 tt3 : Addr}
    (tr3 : ∃ e, (recsOf q).find? (fun r => r.name == ("_number_in" : Str)) = some e)
    (ti3 : PySem.W.tabIn K "_number_in" = some (tc3, tt3))
    (tn3 : K.lookup tt3 = none)
    (tk3 : cd10 = .ref tc3)
    : ∃ (fd : FuncData) (cs : List (Addr × Addr)) (sp : Sp), (∀ p ∈ cs, ∃ x e, (recsOf q).find? (fun r => r.name == x) = some e ∧ PySem.W.tabIn K x = some p) ∧ (∀ p ∈ cs, K.lookup p.2 = none) ∧ (∀ (s : Shared) (u : Value), BindsTo s fd ⟨[u], []⟩ [("script", u)]) ∧
      (∀ (H : Hp) (a : Addr) (ns : List Int), ns.length ≤ 63 → (∀ p ∈ cs, H p.2 = some (.tbl #[])) → SqL K H a (ns.map V.int) → sp [.ref a] H (fun v _ => v = .bl true) fun _ _ _ => False) ∧
      ∀ base : Heap, K.In base → base.Ns mainGlobals mg → (∀ p ∈ cs, GxR.TabB base mg p.1 p.2) → FnOk l.prog w K mg base CX0 6 fa fd ["script"] sp := by
  letI tbI : Tb := ⟨[tt0, tt1, tt2, tt3]⟩
  have e := hfa.symm.trans (PySem.W.mg_of X G a25)
  cases e
  have F0 := fun_mk (st := s_is_name) l0 c0 k0
  have b0 := F0.binds (ps := ["thing"]) fun _ _ _ _ _ _ us hl => match us, hl with | [_], _ => rfl
  have F1 := fun_mk (st := s_is_label) l1 c1 k1
  have b1 := F1.binds (ps := ["thing"]) fun _ _ _ _ _ _ us hl => match us, hl with | [_], _ => rfl
  have F2 := fun_mk (st := s_quoted) l2 c2 k2
  have b2 := F2.binds (ps := ["label"]) fun _ _ _ _ _ _ us hl => match us, hl with | [_], _ => rfl
  have F3 := fun_mk (st := s_text_in) l3 c3 k3
  have b3 := F3.binds (ps := ["quotation"]) fun _ _ _ _ _ _ us hl => match us, hl with | [_], _ => rfl
  have F4 := fun_mk (st := s__is_number) l4 c4 k4
  have b4 := F4.binds (ps := ["thing", "greatest"]) fun _ _ _ _ _ _ us hl => match us, hl with | [_, _], _ => rfl
  have F5 := fun_mk (st := s__is_text) l5 c5 k5
  have b5 := F5.binds (ps := ["thing"]) fun _ _ _ _ _ _ us hl => match us, hl with | [_], _ => rfl
  have F6 := fun_mk (st := s__has_form) l6 c6 k6
  have b6 := F6.binds (ps := ["thing", "form"]) fun _ _ _ _ _ _ us hl => match us, hl with | [_, _], _ => rfl
  have F7 := fun_mk (st := s_is_deed) l7 c7 k7
  have b7 := F7.binds (ps := ["thing"]) fun _ _ _ _ _ _ us hl => match us, hl with | [_], _ => rfl
  have F8 := fun_mk (st := s__end_of_part) l8 c8 k8
  have b8 := F8.binds (ps := ["text"]) fun _ _ _ _ _ _ us hl => match us, hl with | [_], _ => rfl
  have F9 := fun_mk (st := s__parts) l9 c9 k9
  have b9 := F9.binds (ps := ["line"]) fun _ _ _ _ _ _ us hl => match us, hl with | [_], _ => rfl
  have F10 := fun_mk (st := s__number_in) l10 c10 k10
  have b10 := F10.binds (ps := ["part"]) fun _ _ _ _ _ _ us hl => match us, hl with | [_], _ => rfl
  have F11 := fun_mk (st := s__argument_in) l11 c11 k11
  have b11 := F11.binds (ps := ["part", "form"]) fun _ _ _ _ _ _ us hl => match us, hl with | [_, _], _ => rfl
  have F12 := fun_mk (st := s__deed_in) l12 c12 k12
  have b12 := F12.binds (ps := ["parts"]) fun _ _ _ _ _ _ us hl => match us, hl with | [_], _ => rfl
  have F13 := fun_mk (st := s_read_script) l13 c13 k13
  have b13 := F13.binds (ps := ["text"]) fun _ _ _ _ _ _ us hl => match us, hl with | [_], _ => rfl
  have F14 := fun_mk (st := s__written) l14 c14 k14
  have b14 := F14.binds (ps := ["argument", "form"]) fun _ _ _ _ _ _ us hl => match us, hl with | [_, _], _ => rfl
  have F15 := fun_mk (st := s__line_of) l15 c15 k15
  have b15 := F15.binds (ps := ["deed"]) fun _ _ _ _ _ _ us hl => match us, hl with | [_], _ => rfl
  have F16 := fun_mk (st := s_write_script) l16 c16 k16
  have b16 := F16.binds (ps := ["deeds"]) fun _ _ _ _ _ _ us hl => match us, hl with | [_], _ => rfl
  have F17 := fun_mk (st := s__law_cell) l17 c17 k17
  have b17 := F17.binds (ps := ["script", "k"]) fun _ _ _ _ _ _ us hl => match us, hl with | [_, _], _ => rfl
  have F18 := fun_mk (st := s__law_draws) l18 c18 k18
  have b18 := F18.binds (ps := ["cell", "count"]) fun _ _ _ _ _ _ us hl => match us, hl with | [_, _], _ => rfl
  have F19 := fun_mk (st := s__law_same) l19 c19 k19
  have b19 := F19.binds (ps := ["actual", "expected"]) fun _ _ _ _ _ _ us hl => match us, hl with | [_, _], _ => rfl
  have F20 := fun_mk (st := s__law_text) l20 c20 k20
  have b20 := F20.binds (ps := ["cell", "most"]) fun _ _ _ _ _ _ us hl => match us, hl with | [_, _], _ => rfl
  have F21 := fun_mk (st := s__law_forms) l21 c21 k21
  have b21 := F21.binds (ps := []) fun _ _ _ _ _ _ us hl => match us, hl with | [], _ => rfl
  have F22 := fun_mk (st := s__law_argument) l22 c22 k22
  have b22 := F22.binds (ps := ["form", "draws", "at", "cell"]) fun _ _ _ _ _ _ us hl => match us, hl with | [_, _, _, _], _ => rfl
  have F23 := fun_mk (st := s__law_any_deed) l23 c23 k23
  have b23 := F23.binds (ps := ["cell"]) fun _ _ _ _ _ _ us hl => match us, hl with | [_], _ => rfl
  have F24 := fun_mk (st := s__law_line) l24 c24 k24
  have b24 := F24.binds (ps := ["deed"]) fun _ _ _ _ _ _ us hl => match us, hl with | [_], _ => rfl
  have F25 := fun_mk (st := s_law) l25 c25 k25
  have b25 := F25.binds (ps := ["script"]) fun _ _ _ _ _ _ us hl => match us, hl with | [_], _ => rfl
  have E0 := fun_mk (st := s_init_BadScript) il0 ic0 ik0
  have eb0 := E0.binds (ps := ["self", "line"]) fun _ _ _ _ _ _ us hl => match us, hl with | [_, _], _ => rfl
  refine ⟨?fd, [(tc0, tt0), (tc1, tt1), (tc2, tt2), (tc3, tt3)], p_law K, (List.forall_mem_cons.mpr ⟨⟨_, tr0.choose, tr0.choose_spec, ti0⟩, (List.forall_mem_cons.mpr ⟨⟨_, tr1.choose, tr1.choose_spec, ti1⟩, (List.forall_mem_cons.mpr ⟨⟨_, tr2.choose, tr2.choose_spec, ti2⟩, (List.forall_mem_cons.mpr ⟨⟨_, tr3.choose, tr3.choose_spec, ti3⟩, (fun _ h => by cases h)⟩)⟩)⟩)⟩), (List.forall_mem_cons.mpr ⟨tn0, (List.forall_mem_cons.mpr ⟨tn1, (List.forall_mem_cons.mpr ⟨tn2, (List.forall_mem_cons.mpr ⟨tn3, (fun _ h => by cases h)⟩)⟩)⟩)⟩), ?hb, fun H a ns hl hT hS => ?hsp, fun base _ _ TB => ?hF⟩
  case hF =>
    have T : Tx w K mg base { f_is_name := f0, d_is_name := _, f_is_label := f1, d_is_label := _, f_quoted := f2, d_quoted := _, f_text_in := f3, d_text_in := _, f__is_number := f4, d__is_number := _, f__is_text := f5, d__is_text := _, f__has_form := f6, d__has_form := _, f_is_deed := f7, d_is_deed := _, f__end_of_part := f8, d__end_of_part := _, f__parts := f9, d__parts := _, f__number_in := f10, d__number_in := _, f__argument_in := f11, d__argument_in := _, f__deed_in := f12, d__deed_in := _, f_read_script := f13, d_read_script := _, f__written := f14, d__written := _, f__line_of := f15, d__line_of := _, f_write_script := f16, d_write_script := _, f__law_cell := f17, d__law_cell := _, f__law_draws := f18, d__law_draws := _, f__law_same := f19, d__law_same := _, f__law_text := f20, d__law_text := _, f__law_forms := f21, d__law_forms := _, f__law_argument := f22, d__law_argument := _, f__law_any_deed := f23, d__law_any_deed := _, f__law_line := f24, d__law_line := _, f_law := fa, d_law := _, k_KINDS := q0, k_FORMS := kq0, k__TONES := kq1, x_FocusError := B0, x_BadScript := X0, i_BadScript := I0, di_BadScript := _, c_is_name := tc0, t_is_name := tt0, c_is_label := tc1, t_is_label := tt1, c__is_text := tc2, t__is_text := tt2, c__number_in := tc3, t__number_in := tt3 } := { F_is_name := F0, b_is_name := b0, g_is_name := PySem.W.mg_of X G a0, F_is_label := F1, b_is_label := b1, g_is_label := PySem.W.mg_of X G a1, F_quoted := F2, b_quoted := b2, g_quoted := PySem.W.mg_of X G a2, F_text_in := F3, b_text_in := b3, g_text_in := PySem.W.mg_of X G a3, F__is_number := F4, b__is_number := b4, g__is_number := PySem.W.mg_of X G a4, F__is_text := F5, b__is_text := b5, g__is_text := PySem.W.mg_of X G a5, F__has_form := F6, b__has_form := b6, g__has_form := PySem.W.mg_of X G a6, F_is_deed := F7, b_is_deed := b7, g_is_deed := PySem.W.mg_of X G a7, F__end_of_part := F8, b__end_of_part := b8, g__end_of_part := PySem.W.mg_of X G a8, F__parts := F9, b__parts := b9, g__parts := PySem.W.mg_of X G a9, F__number_in := F10, b__number_in := b10, g__number_in := PySem.W.mg_of X G a10, F__argument_in := F11, b__argument_in := b11, g__argument_in := PySem.W.mg_of X G a11, F__deed_in := F12, b__deed_in := b12, g__deed_in := PySem.W.mg_of X G a12, F_read_script := F13, b_read_script := b13, g_read_script := PySem.W.mg_of X G a13, F__written := F14, b__written := b14, g__written := PySem.W.mg_of X G a14, F__line_of := F15, b__line_of := b15, g__line_of := PySem.W.mg_of X G a15, F_write_script := F16, b_write_script := b16, g_write_script := PySem.W.mg_of X G a16, F__law_cell := F17, b__law_cell := b17, g__law_cell := PySem.W.mg_of X G a17, F__law_draws := F18, b__law_draws := b18, g__law_draws := PySem.W.mg_of X G a18, F__law_same := F19, b__law_same := b19, g__law_same := PySem.W.mg_of X G a19, F__law_text := F20, b__law_text := b20, g__law_text := PySem.W.mg_of X G a20, F__law_forms := F21, b__law_forms := b21, g__law_forms := PySem.W.mg_of X G a21, F__law_argument := F22, b__law_argument := b22, g__law_argument := PySem.W.mg_of X G a22, F__law_any_deed := F23, b__law_any_deed := b23, g__law_any_deed := PySem.W.mg_of X G a23, F__law_line := F24, b__law_line := b24, g__law_line := PySem.W.mg_of X G a24, F_law := F25, b_law := b25, g_law := PySem.W.mg_of X G a25, c_KINDS := PySem.W.mg_of X G qa0, r_KINDS := fun G => tpl_written (ks := k_KINDS) ql0 qv0, c_FORMS := PySem.W.mg_of X G ka0, kd_FORMS := kd0, c__TONES := PySem.W.mg_of X G ka1, kd__TONES := kd1, c__NAME_CHARACTERS := ⟨_, PySem.W.mg_of X G ca0, cv0⟩, c__LONGEST_NAME := ⟨_, PySem.W.mg_of X G ca1, cv1⟩, c__LONGEST_LABEL := ⟨_, PySem.W.mg_of X G ca2, cv2⟩, c__GREATEST_INDEX := ⟨_, PySem.W.mg_of X G ca3, cv3⟩, c__GREATEST_NUMBER := ⟨_, PySem.W.mg_of X G ca4, cv4⟩, c__LONGEST_TEXT := ⟨_, PySem.W.mg_of X G ca5, cv5⟩, n_all := PySem.W.mg_none_of X G z0, n_bool := PySem.W.mg_none_of X G z1, n_enumerate := PySem.W.mg_none_of X G z2, n_int := PySem.W.mg_none_of X G z3, n_isinstance := PySem.W.mg_none_of X G z4, n_len := PySem.W.mg_none_of X G z5, n_list := PySem.W.mg_none_of X G z6, n_range := PySem.W.mg_none_of X G z7, n_sorted := PySem.W.mg_none_of X G z8, n_str := PySem.W.mg_none_of X G z9, n_tuple := PySem.W.mg_none_of X G z10, n_zip := PySem.W.mg_none_of X G z11, x_BadScript := { gC := PySem.W.mg_of X G xna0, gB := PySem.W.mg_of X G ba0, ox := { cls := ⟨_, _, _, _, _, _, _, _, _, _, _, _, _, _, _, xl0, rfl⟩, sa := xsa0, exC := xec0, tyC := xtc0, kC := xkc0 }, iC := xii0, tI := it0, rd := ⟨br0, bg0⟩, vB := bv0, nF := xnb0, xf := ⟨xga0, xgg0, xec0, xhc0⟩, te := PySem.W.exm_ref xec0 xhc0 xtc0 xsc0 }, FI_BadScript := E0, bi_BadScript := eb0, C_is_name := tk0, TB_is_name := TB _ List.mem_cons_self, TM_is_name := List.mem_cons_self, C_is_label := tk1, TB_is_label := TB _ (.tail _ List.mem_cons_self), TM_is_label := (.tail _ List.mem_cons_self), C__is_text := tk2, TB__is_text := TB _ (.tail _ (.tail _ List.mem_cons_self)), TM__is_text := (.tail _ (.tail _ List.mem_cons_self)), C__number_in := tk3, TB__number_in := TB _ (.tail _ (.tail _ (.tail _ List.mem_cons_self))), TM__number_in := (.tail _ (.tail _ (.tail _ List.mem_cons_self))) }
    exact ok_law T
  case hb => exact fun s v => .of_eq rfl
  case hsp =>
    obtain ⟨g1, g2⟩ := law_start (H := H) (List.forall_mem_cons.mpr ⟨hT _ List.mem_cons_self, (List.forall_mem_cons.mpr ⟨hT _ (.tail _ List.mem_cons_self), (List.forall_mem_cons.mpr ⟨hT _ (.tail _ (.tail _ List.mem_cons_self)), (List.forall_mem_cons.mpr ⟨hT _ (.tail _ (.tail _ (.tail _ List.mem_cons_self))), (fun _ h => by cases h)⟩)⟩)⟩)⟩) hS
    exact ⟨⟨ns⟩, .ref a, strip H, rfl, g1, g2, hl, fun u G2 H2 _ r => by rw [law_true ns hl] at r; exact r⟩

end RL
open PySem PySem.W PyProof.Rows in
set_option maxRecDepth 100000 in
set_option maxHeartbeats 0 in
theorem PySem.Challenge.cw_keyfocus_k10_scripts_holds : PySem.Challenge.rw_keyfocus_k10_scripts.Holds := by
  w_on; o_law; k_head; (case hw => w_witness2)
  k_fill
  refine RL.walk_tabs (l := PySem.Challenge.rw_keyfocus_k10_scripts) (lv := 6) (nm := 63) rfl (by decide) rfl ⟨rfl, by decide, by decide⟩ (fun w h Y => PySem.W.kIn_of Y) ?F
  case F =>
    intro w mg fa h KX G hmg
    refine' RL.all_mk KX G hmg ?a0 ?l0 ?c0 ?k0 ?a1 ?l1 ?c1 ?k1 ?a2 ?l2 ?c2 ?k2 ?a3 ?l3 ?c3 ?k3 ?a4 ?l4 ?c4 ?k4 ?a5 ?l5 ?c5 ?k5 ?a6 ?l6 ?c6 ?k6 ?a7 ?l7 ?c7 ?k7 ?a8 ?l8 ?c8 ?k8 ?a9 ?l9 ?c9 ?k9 ?a10 ?l10 ?c10 ?k10 ?a11 ?l11 ?c11 ?k11 ?a12 ?l12 ?c12 ?k12 ?a13 ?l13 ?c13 ?k13 ?a14 ?l14 ?c14 ?k14 ?a15 ?l15 ?c15 ?k15 ?a16 ?l16 ?c16 ?k16 ?a17 ?l17 ?c17 ?k17 ?a18 ?l18 ?c18 ?k18 ?a19 ?l19 ?c19 ?k19 ?a20 ?l20 ?c20 ?k20 ?a21 ?l21 ?c21 ?k21 ?a22 ?l22 ?c22 ?k22 ?a23 ?l23 ?c23 ?k23 ?a24 ?l24 ?c24 ?k24 ?a25 ?l25 ?c25 ?k25 ?qa0 ?ql0 ?qv0 ?ka0 ?kd0 ?ka1 ?kd1 ?ca0 ?cv0 ?ca1 ?cv1 ?ca2 ?cv2 ?ca3 ?cv3 ?ca4 ?cv4 ?ca5 ?cv5 ?z0 ?z1 ?z2 ?z3 ?z4 ?z5 ?z6 ?z7 ?z8 ?z9 ?z10 ?z11 ?ba0 ?br0 ?bg0 ?bv0 ?xna0 ?xl0 ?xsa0 ?xga0 ?xgg0 ?xnb0 ?xii0 ?xkc0 ?xec0 ?xtc0 ?xhc0 ?xsc0 ?it0 ?il0 ?ic0 ?ik0 ?tr0 ?ti0 ?tn0 ?tk0 ?tr1 ?ti1 ?tn1 ?tk1 ?tr2 ?ti2 ?tn2 ?tk2 ?tr3 ?ti3 ?tn3 ?tk3
    (case a0 => first | k_is | rfl)
    (case l0 => first | k_is | rfl)
    (case c0 => first | k_is | rfl)
    (case k0 => first | k_is | rfl)
    (case a1 => first | k_is | rfl)
    (case l1 => first | k_is | rfl)
    (case c1 => first | k_is | rfl)
    (case k1 => first | k_is | rfl)
    (case a2 => first | k_is | rfl)
    (case l2 => first | k_is | rfl)
    (case c2 => first | k_is | rfl)
    (case k2 => first | k_is | rfl)
    (case a3 => first | k_is | rfl)
    (case l3 => first | k_is | rfl)
    (case c3 => first | k_is | rfl)
    (case k3 => first | k_is | rfl)
    (case a4 => first | k_is | rfl)
    (case l4 => first | k_is | rfl)
    (case c4 => first | k_is | rfl)
    (case k4 => first | k_is | rfl)
    (case a5 => first | k_is | rfl)
    (case l5 => first | k_is | rfl)
    (case c5 => first | k_is | rfl)
    (case k5 => first | k_is | rfl)
    (case a6 => first | k_is | rfl)
    (case l6 => first | k_is | rfl)
    (case c6 => first | k_is | rfl)
    (case k6 => first | k_is | rfl)
    (case a7 => first | k_is | rfl)
    (case l7 => first | k_is | rfl)
    (case c7 => first | k_is | rfl)
    (case k7 => first | k_is | rfl)
    (case a8 => first | k_is | rfl)
    (case l8 => first | k_is | rfl)
    (case c8 => first | k_is | rfl)
    (case k8 => first | k_is | rfl)
    (case a9 => first | k_is | rfl)
    (case l9 => first | k_is | rfl)
    (case c9 => first | k_is | rfl)
    (case k9 => first | k_is | rfl)
    (case a10 => first | k_is | rfl)
    (case l10 => first | k_is | rfl)
    (case c10 => first | k_is | rfl)
    (case k10 => first | k_is | rfl)
    (case a11 => first | k_is | rfl)
    (case l11 => first | k_is | rfl)
    (case c11 => first | k_is | rfl)
    (case k11 => first | k_is | rfl)
    (case a12 => first | k_is | rfl)
    (case l12 => first | k_is | rfl)
    (case c12 => first | k_is | rfl)
    (case k12 => first | k_is | rfl)
    (case a13 => first | k_is | rfl)
    (case l13 => first | k_is | rfl)
    (case c13 => first | k_is | rfl)
    (case k13 => first | k_is | rfl)
    (case a14 => first | k_is | rfl)
    (case l14 => first | k_is | rfl)
    (case c14 => first | k_is | rfl)
    (case k14 => first | k_is | rfl)
    (case a15 => first | k_is | rfl)
    (case l15 => first | k_is | rfl)
    (case c15 => first | k_is | rfl)
    (case k15 => first | k_is | rfl)
    (case a16 => first | k_is | rfl)
    (case l16 => first | k_is | rfl)
    (case c16 => first | k_is | rfl)
    (case k16 => first | k_is | rfl)
    (case a17 => first | k_is | rfl)
    (case l17 => first | k_is | rfl)
    (case c17 => first | k_is | rfl)
    (case k17 => first | k_is | rfl)
    (case a18 => first | k_is | rfl)
    (case l18 => first | k_is | rfl)
    (case c18 => first | k_is | rfl)
    (case k18 => first | k_is | rfl)
    (case a19 => first | k_is | rfl)
    (case l19 => first | k_is | rfl)
    (case c19 => first | k_is | rfl)
    (case k19 => first | k_is | rfl)
    (case a20 => first | k_is | rfl)
    (case l20 => first | k_is | rfl)
    (case c20 => first | k_is | rfl)
    (case k20 => first | k_is | rfl)
    (case a21 => first | k_is | rfl)
    (case l21 => first | k_is | rfl)
    (case c21 => first | k_is | rfl)
    (case k21 => first | k_is | rfl)
    (case a22 => first | k_is | rfl)
    (case l22 => first | k_is | rfl)
    (case c22 => first | k_is | rfl)
    (case k22 => first | k_is | rfl)
    (case a23 => first | k_is | rfl)
    (case l23 => first | k_is | rfl)
    (case c23 => first | k_is | rfl)
    (case k23 => first | k_is | rfl)
    (case a24 => first | k_is | rfl)
    (case l24 => first | k_is | rfl)
    (case c24 => first | k_is | rfl)
    (case k24 => first | k_is | rfl)
    (case a25 => first | k_is | rfl)
    (case l25 => first | k_is | rfl)
    (case c25 => first | k_is | rfl)
    (case k25 => first | k_is | rfl)
    (case qa0 => first | k_is | rfl)
    (case ql0 => first | k_is | rfl)
    (case qv0 => exact (by repeat (first | exact PySem.Paired.nil | refine PySem.Paired.cons ⟨_, rfl⟩ ?_)))
    (case ka0 => first | k_is | rfl)
    (case kd0 => exact ⟨_, _, by k_is, by repeat (first | exact PySem.Paired.nil | refine PySem.Paired.cons ⟨⟨_, rfl⟩, rfl, .ref _, rfl, fun G => RL.tpl_written (by k_is) (by repeat (first | exact PySem.Paired.nil | refine PySem.Paired.cons ⟨_, rfl⟩ ?_))⟩ ?_), rfl⟩)
    (case ka1 => first | k_is | rfl)
    (case kd1 => exact ⟨_, _, by k_is, by repeat (first | exact PySem.Paired.nil | refine PySem.Paired.cons ⟨⟨_, rfl⟩, rfl, .bl _, rfl, fun G => rfl⟩ ?_), rfl⟩)
    (case ca0 => first | k_is | rfl)
    (case cv0 => exact ⟨_, rfl⟩)
    (case ca1 => first | k_is | rfl)
    (case cv1 => exact ⟨_, rfl⟩)
    (case ca2 => first | k_is | rfl)
    (case cv2 => exact ⟨_, rfl⟩)
    (case ca3 => first | k_is | rfl)
    (case cv3 => exact ⟨_, rfl⟩)
    (case ca4 => first | k_is | rfl)
    (case cv4 => exact ⟨_, rfl⟩)
    (case ca5 => first | k_is | rfl)
    (case cv5 => exact ⟨_, rfl⟩)
    (case z0 => first | k_is | rfl)
    (case z1 => first | k_is | rfl)
    (case z2 => first | k_is | rfl)
    (case z3 => first | k_is | rfl)
    (case z4 => first | k_is | rfl)
    (case z5 => first | k_is | rfl)
    (case z6 => first | k_is | rfl)
    (case z7 => first | k_is | rfl)
    (case z8 => first | k_is | rfl)
    (case z9 => first | k_is | rfl)
    (case z10 => first | k_is | rfl)
    (case z11 => first | k_is | rfl)
    (case ba0 => first | k_is | rfl)
    (case br0 => first | k_is | rfl)
    (case bg0 => first | k_is | rfl)
    (case bv0 => first | k_is | rfl)
    (case xna0 => first | k_is | rfl)
    (case xl0 => first | k_is | rfl)
    (case xsa0 => first | k_is | rfl)
    (case xga0 => first | k_is | rfl)
    (case xgg0 => first | k_is | rfl)
    (case xnb0 => first | k_is | rfl)
    (case xii0 => first | k_is | rfl)
    (case xkc0 => first | k_is | rfl)
    (case xec0 => first | k_is | rfl)
    (case xtc0 => first | k_is | rfl)
    (case xhc0 => first | k_is | rfl)
    (case xsc0 => first | k_is | rfl)
    (case it0 => first | k_is | rfl)
    (case il0 => first | k_is | rfl)
    (case ic0 => first | k_is | rfl)
    (case ik0 => first | k_is | rfl)
    (case tr0 => exact ⟨_, rfl⟩)
    (case ti0 => first | k_is | rfl)
    (case tn0 => first | k_is | rfl)
    (case tk0 => first | k_is | rfl)
    (case tr1 => exact ⟨_, rfl⟩)
    (case ti1 => first | k_is | rfl)
    (case tn1 => first | k_is | rfl)
    (case tk1 => first | k_is | rfl)
    (case tr2 => exact ⟨_, rfl⟩)
    (case ti2 => first | k_is | rfl)
    (case tn2 => first | k_is | rfl)
    (case tk2 => first | k_is | rfl)
    (case tr3 => exact ⟨_, rfl⟩)
    (case ti3 => first | k_is | rfl)
    (case tn3 => first | k_is | rfl)
    (case tk3 => first | k_is | rfl)
#print axioms PySem.Challenge.cw_keyfocus_k10_scripts_holds