import PyProof.Rows.All
import Wide.All
import OpenK.AllK
import Wide.FinOn
import PyProof.EqAt
import PyProof.EqKinds
import PyProof.TupleCall
import HandS.ForMost
import HandS.ForExc
import HandS.Star
import HandS.Style
import HandS.AnyAll
import HandS.Strs
import HandS.ExcInit
import HandS.ExcIs
import HandS.ExcField
import HandS.ClsMeth
import KE.KExcIs
import HandS.Codes
import PyProof.StrOps2
import HandS.Text
import HandS.TupAny
import HandS.TupLe
import HandS.IsInst
import HandS.EndTab
import HandS.ReplaceLit
import HandS.ReplaceDef
import HandS.FStr
import HandS.ReplaceList
import HandS.Walk
import HandS.Deep
import HandS.StrMore
import HandS.StrSplit
import HandS.RaiseMore
import HandS.More
import HandS.Zip
import PyProof.ZipIter
import HandS.Zip0
import PyProof.EnumMake
import HandS.Conv
import PyProof.Rows.StrCut
import PyProof.Rows.StrNews2
import PyProof.StrLawsOcc
import HandS.TryMany
import PyProof.PureStr
import PyProof.StrCalls6
import PyProof.Rows.StrSplitMax
import HandS.List
import PyProof.StrLawsTight
import PyProof.P3Eq
import PySem.Challenge.RW_keyfocus_k42_announcements
set_option Elab.async false
set_option linter.all false
set_option maxRecDepth 100000
set_option maxHeartbeats 2000000
/-! A layer of our own over HandS: what an expression is worth in typed data, told of a part G of the heap that never changes; the heap H at hand has G and what the def at hand may still change. -/
namespace RL
open PySem PySem.Spec PyProof.Rows L2

/-! ### heaps -/
theorem same_upd {H : Hp} {p : Addr} {o : HO} (h : H p = none) : Same H (upd H p o) := fun b u e => by
  rw [upd_ne (ne_of_none e h)]
  exact e
/-- the code objects' tables that may grow: their addresses -/
class Tb where
  ps : List Addr
/-- a part of the heap that stands still while the def at hand runs: the objects that it only reads -/
class Fz where
  X : Hp
def noTb (o : HO) : Prop := ∀ q, o ≠ .tbl q
theorem noTb_lst {xs : List V} : noTb (.lst xs) := fun q z => by cases z
theorem noTb_tup {xs : List V} : noTb (.tup xs) := fun q z => by cases z
section
variable [Tb] [Fz]
/-- G's objects stand in H, and H has the tables -/
structure Sub (G H : Hp) : Prop where
  m : ∀ a o, G a = some o → H a = some o ∧ noTb o
  t : ∀ P ∈ Tb.ps, GxR.TabG H P
  x : ∀ a o, Fz.X a = some o → H a = some o ∧ noTb o
  d : ∀ a o, G a = some o → Fz.X a = none
theorem Sub.get {G H : Hp} (s : Sub G H) : Same G H := fun a o h => (s.m a o h).1
instance {G H : Hp} : CoeFun (Sub G H) (fun _ => ∀ a o, G a = some o → H a = some o) := ⟨fun s => s.get⟩
theorem Sub.free {G H : Hp} (s : Sub G H) {a : Addr} (h : H a = none) : G a = none := s.get.free h
theorem un {G G' H : Hp} (a : Same G G') (s : Sub G' H) : Sub G H := ⟨fun b o h => s.m b o (a b o h), s.t, s.x, fun b o h => s.d b o (a b o h)⟩
/-- what is no table is kept -/
structure Kept (H H' : Hp) : Prop where
  k : ∀ a o, H a = some o → noTb o → H' a = some o
  fr : ∀ a, H' a = none → H a = none
theorem Kept.refl (H : Hp) : Kept H H := ⟨fun _ _ h _ => h, fun _ h => h⟩
theorem Kept.trans {H H1 H2 : Hp} (a : Kept H H1) (b : Kept H1 H2) : Kept H H2 := ⟨fun x o h n => b.k x o (a.k x o h n) n, fun x h => a.fr x (b.fr x h)⟩
theorem Kept.free {H H' : Hp} (k : Kept H H') {a : Addr} (h : H' a = none) : H a = none := k.fr a h
theorem Kept.l {H H' : Hp} (k : Kept H H') {a : Addr} {xs : List V} (h : H a = some (.lst xs)) : H' a = some (.lst xs) := k.k a _ h noTb_lst
theorem kept_upd {H : Hp} {p : Addr} {o : HO} (h : H p = none) : Kept H (upd H p o) := ⟨fun b u e _ => same_upd h b u e, fun b e => (same_upd h).free e⟩
theorem Kept.none {H H' : Hp} (k : Kept H H') {a : Addr} {o : HO} (h : H a = some o) : ∃ u, H' a = some u := by
  cases q : H' a with
  | none => rw [k.fr a q] at h; cases h
  | some u => exact ⟨u, rfl⟩
theorem tab_mut {H : Hp} {P p : Addr} {o : HO} (t : GxR.TabG H P) (hp : ∀ q, H p ≠ some (.tbl q)) : GxR.TabG (upd H p o) P := by
  obtain ⟨qs, e, k⟩ := t
  refine ⟨qs, ?_, k⟩
  rw [upd_ne fun z => hp qs (by rw [← z]; exact e)]
  exact e
theorem no_tab {H : Hp} {p : Addr} (h : H p = none) : ∀ q, H p ≠ some (.tbl q) := fun q z => by rw [h] at z; cases z
theorem Sub.keep {G H H' : Hp} (s : Sub G H) (k : Kept H H') (t : ∀ P ∈ Tb.ps, GxR.TabG H' P) : Sub G H' := ⟨fun a o h => ⟨k.k a o (s.m a o h).1 (s.m a o h).2, (s.m a o h).2⟩, t, fun a o h => ⟨k.k a o (s.x a o h).1 (s.x a o h).2, (s.x a o h).2⟩, s.d⟩
theorem Sub.freeX {G H : Hp} (s : Sub G H) {a : Addr} (h : H a = none) : Fz.X a = none := by
  cases q : (Fz.X a : Option HO) with
  | none => rfl
  | some o => rw [(s.x a o q).1] at h; cases h
theorem sub_upd2 {G H : Hp} {p : Addr} {o : HO} (e : Sub G H) (h : G p = none) (hx : Fz.X p = none) (hp : ∀ q, H p ≠ some (.tbl q)) : Sub G (upd H p o) := ⟨fun b u q => by
  rw [upd_ne (ne_of_none q h)]
  exact e.m b u q, fun P hP => tab_mut (e.t P hP) hp, fun b u q => by
  rw [upd_ne (ne_of_none q hx)]
  exact e.x b u q, e.d⟩
theorem sub_updB {G H : Hp} {p : Addr} {o : HO} (e : Sub G H) (hp : H p = none) (ho : noTb o) : Sub (upd G p o) (upd H p o) := ⟨fun b u q => by
  by_cases hb : b = p
  · subst hb
    rw [upd_same] at q ⊢
    cases q
    exact ⟨rfl, ho⟩
  · rw [upd_ne hb] at q ⊢
    exact e.m b u q, fun P hP => tab_mut (e.t P hP) (no_tab hp), fun b u q => by
  rw [upd_ne (ne_of_none q (e.freeX hp))]
  exact e.x b u q, fun b u q => by
  by_cases hb : b = p
  · rw [hb]; exact e.freeX hp
  · rw [upd_ne hb] at q
    exact e.d b u q⟩
structure Grow (G H G' H' : Hp) : Prop where
  g : Same G G'
  s : Sub G' H'
  h : Kept H H'
  f : ∀ a o, H a = some o → G a = none → G' a = none
  x : ∀ a o, Fz.X a = some o → H a = some o
theorem Grow.refl {G H : Hp} (e : Sub G H) : Grow G H G H := ⟨Same.refl _, e, Kept.refl _, fun _ _ _ h => h, fun a o h => (e.x a o h).1⟩
theorem Grow.trans {G H G1 H1 G2 H2 : Hp} (a : Grow G H G1 H1) (b : Grow G1 H1 G2 H2) : Grow G H G2 H2 :=
  ⟨a.g.trans b.g, b.s, a.h.trans b.h, fun x o h n => by
    obtain ⟨u, e⟩ := a.h.none h
    exact b.f x u e (a.f x o h n), a.x⟩
theorem Grow.freeX {Ge He G H : Hp} (a : Grow Ge He G H) {p : Addr} (h : He p = none) : Fz.X p = none := by
  cases q : (Fz.X p : Option HO) with
  | none => rfl
  | some o => rw [a.x p o q] at h; cases h
theorem Grow.new {G H : Hp} (e : Sub G H) {p : Addr} {o : HO} (hp : H p = none) (ho : noTb o := by intro q z; cases z) : Grow G H (upd G p o) (upd H p o) :=
  ⟨same_upd (e.free hp), sub_updB e hp ho, kept_upd hp, fun a u ha hg => by
    rw [upd_ne (ne_of_none ha hp)]
    exact hg, fun a o h => (e.x a o h).1⟩
/-- an object that the entry does not know is changed -/
theorem Grow.mut {Ge He G H : Hp} (a : Grow Ge He G H) {p : Addr} {o : HO} (h0 : He p = none) (hg : G p = none) (ht : ∀ q, H p ≠ some (.tbl q)) : Grow Ge He G (upd H p o) :=
  ⟨a.g, sub_upd2 a.s hg (a.freeX h0) ht, ⟨fun b u e n => by
    rw [upd_ne (ne_of_none e h0)]
    exact a.h.k b u e n, fun b e => by
    by_cases hb : b = p
    · rw [hb]; exact h0
    · rw [upd_ne hb] at e
      exact a.h.fr b e⟩, a.f, a.x⟩
theorem lst_no {H : Hp} {p : Addr} {xs : List V} (h : H p = some (.lst xs)) : ∀ q, H p ≠ some (.tbl q) := fun q z => by rw [h] at z; cases z
/-- such an object is from now on one of those that never change -/
theorem Grow.fix {Ge He G H : Hp} (a : Grow Ge He G H) {p : Addr} {o : HO} (h0 : He p = none) (hg : G p = none) (hp : H p = some o) (ho : noTb o := by intro q z; cases z) : Grow Ge He (upd G p o) H :=
  ⟨a.g.trans (same_upd hg), ⟨fun b u q => by
    by_cases hb : b = p
    · subst hb
      rw [upd_same] at q
      cases q
      exact ⟨hp, ho⟩
    · rw [upd_ne hb] at q
      exact a.s.m b u q, a.s.t, a.s.x, fun b u q => by
    by_cases hb : b = p
    · rw [hb]; exact a.freeX h0
    · rw [upd_ne hb] at q
      exact a.s.d b u q⟩, a.h, fun x u hx hn => by
    rw [upd_ne (ne_of_none hx h0)]
    exact a.f x u hx hn, a.x⟩
/-- a new object that may still change -/
theorem Grow.loose {Ge He G H : Hp} (a : Grow Ge He G H) {p : Addr} {o : HO} (hp : H p = none) : Grow Ge He G (upd H p o) :=
  ⟨a.g, sub_upd2 a.s (a.s.free hp) (a.s.freeX hp) (no_tab hp), a.h.trans (kept_upd hp), a.f, a.x⟩
/-- a table has grown -/
theorem Grow.tab {Ge He G H H' : Hp} (a : Grow Ge He G H) {P : Addr} (h : GxR.TabG H P) (t : GxR.Tabbed P H H') : Grow Ge He G H' := by
  obtain ⟨qs, eP, _⟩ := h
  refine ⟨a.g, ⟨fun b u q => ?_, fun R hR => ?_, fun b u q => ?_, a.s.d⟩, ⟨fun b u e n => ?_, fun b e => ?_⟩, a.f, a.x⟩
  · obtain ⟨q1, q2⟩ := a.s.m b u q
    refine ⟨?_, q2⟩
    rw [t.2 b fun z => by rw [z, eP] at q1; exact q2 qs (Option.some.inj q1).symm]
    exact q1
  · by_cases hr : R = P
    · rw [hr]; exact t.1
    · obtain ⟨rs, e, k⟩ := a.s.t R hR
      exact ⟨rs, by rw [t.2 R hr]; exact e, k⟩
  · obtain ⟨q1, q2⟩ := a.s.x b u q
    refine ⟨?_, q2⟩
    rw [t.2 b fun z => by rw [z, eP] at q1; exact q2 qs (Option.some.inj q1).symm]
    exact q1
  · have q1 := a.h.k b u e n
    rw [t.2 b fun z => by rw [z, eP] at q1; exact n qs (Option.some.inj q1).symm]
    exact q1
  · refine a.h.fr b ?_
    rw [← t.2 b fun z => by obtain ⟨rs, e2, _⟩ := t.1; rw [z, e2] at e; cases e]
    exact e
end
def jn (G1 G2 : Hp) : Hp := fun a => match G1 a with
  | some o => some o
  | none => G2 a
theorem jn_l (G1 G2 : Hp) : Same G1 (jn G1 G2) := fun b o e => by
  show (match G1 b with | some o => some o | none => G2 b) = some o
  rw [e]
theorem jn_r {G1 G2 H : Hp} (h1 : Same G1 H) (h2 : Same G2 H) : Same G2 (jn G1 G2) := fun b o e => by
  show (match G1 b with | some o => some o | none => G2 b) = some o
  cases q : G1 b with
  | none => exact e
  | some u =>
    have a := h1 b u q
    rw [h2 b o e] at a
    exact a.symm
theorem jn_s [Tb] [Fz] {G1 G2 H : Hp} (h1 : Sub G1 H) (h2 : Sub G2 H) : Sub (jn G1 G2) H := ⟨fun b o e => by
  have e' : (match G1 b with | some o => some o | none => G2 b) = some o := e
  cases q : G1 b with
  | none =>
    rw [q] at e'
    exact h2.m b o e'
  | some u =>
    rw [q] at e'
    rw [← Option.some.inj e']
    exact h1.m b u q, h1.t, h1.x, fun b o e => by
  have e' : (match G1 b with | some o => some o | none => G2 b) = some o := e
  cases q : G1 b with
  | none =>
    rw [q] at e'
    exact h2.d b o e'
  | some u => exact h1.d b u q⟩
theorem jn_none {G1 G2 : Hp} {b : Addr} (h1 : G1 b = none) (h2 : G2 b = none) : jn G1 G2 b = none := by
  show (match G1 b with | some o => some o | none => G2 b) = none
  rw [h1]
  exact h2
theorem same_none {G G' : Hp} (e : Same G G') {b : Addr} (h : G' b = none) : G b = none := e.free h
theorem rd_mono {G G' : Hp} {a : Addr} {u : HO} (e : Same G G') (h : Rd G a u) : Rd G' a u := by
  rcases h with h | ⟨o, h⟩
  · exact Or.inl (e a _ h)
  · exact Or.inr ⟨o, e a _ h⟩
theorem sqT_mono {K : PySem.W.Frag} {G G' : Hp} {a : Addr} {xs : List V} (e : Same G G') (h : SqT K G a xs) : SqT K G' a xs := by
  rcases h with h | h
  · exact Or.inl (rd_mono e h)
  · exact Or.inr h
theorem sqL_mono {K : PySem.W.Frag} {G G' : Hp} {a : Addr} {xs : List V} (e : Same G G') (h : SqL K G a xs) : SqL K G' a xs := by
  rcases h with h | h
  · exact Or.inl (rd_mono e h)
  · exact Or.inr h

/-! ### typed data: lists, tuples, what stands still -/
def dataO (o : HO) : Prop := match o with
  | .lst _ | .tup _ | .frz _ _ | .dK _ => True
  | _ => False
def SameD (G G' : Hp) : Prop := ∀ a o, G a = some o → dataO o → G' a = some o
theorem same_d {G G' : Hp} (e : Same G G') : SameD G G' := fun a o h _ => e a o h
theorem SameD.trans {G G1 G2 : Hp} (a : SameD G G1) (b : SameD G1 G2) : SameD G G2 := fun x o h d => b x o (a x o h d) d
theorem rd_monoD {G G' : Hp} {a : Addr} {u : HO} (d : dataO u) (e : SameD G G') (h : Rd G a u) : Rd G' a u := by
  rcases h with h | ⟨o, h⟩
  · exact Or.inl (e a _ h d)
  · exact Or.inr ⟨o, e a _ h trivial⟩
theorem sqT_monoD {K : PySem.W.Frag} {G G' : Hp} {a : Addr} {xs : List V} (e : SameD G G') (h : SqT K G a xs) : SqT K G' a xs := by
  rcases h with h | h
  · exact Or.inl (rd_monoD trivial e h)
  · exact Or.inr h
theorem sqL_monoD {K : PySem.W.Frag} {G G' : Hp} {a : Addr} {xs : List V} (e : SameD G G') (h : SqL K G a xs) : SqL K G' a xs := by
  rcases h with h | h
  · exact Or.inl (rd_monoD trivial e h)
  · exact Or.inr h
class Rep (α : Type) where
  rep : PySem.W.Frag → α → V → Hp → Prop
  mono : ∀ {K : PySem.W.Frag} {x : α} {v : V} {G G' : Hp}, SameD G G' → rep K x v G → rep K x v G'
open Rep (rep)
theorem upd' {α : Type} [Rep α] {K : PySem.W.Frag} {x : α} {v : V} {G G' : Hp} (e : SameD G G') (h : rep K x v G) : rep K x v G' := Rep.mono e h
theorem up {α : Type} [Rep α] {K : PySem.W.Frag} {x : α} {v : V} {G G' : Hp} (e : Same G G') (h : rep K x v G) : rep K x v G' := Rep.mono (same_d e) h
instance : Rep Int := ⟨fun _ x v _ => v = .int x, fun _ h => h⟩
instance : Rep Bool := ⟨fun _ x v _ => v = .bl x, fun _ h => h⟩
instance : Rep Str := ⟨fun _ x v _ => v = .str x, fun _ h => h⟩
instance : Rep Unit := ⟨fun _ _ v _ => v = .non, fun _ h => h⟩
def repO {α : Type} [Rep α] (K : PySem.W.Frag) (o : Option α) (v : V) (G : Hp) : Prop := match o with
  | none => v = .non
  | some x => rep K x v G
instance {α : Type} [Rep α] : Rep (Option α) := ⟨repO, fun {K x v G G'} e h => by
  cases x with
  | none => exact h
  | some y => exact upd' e (show rep K y v G from h)⟩
def repS {α β : Type} [Rep α] [Rep β] (K : PySem.W.Frag) (o : Sum α β) (v : V) (G : Hp) : Prop := match o with
  | .inl x => rep K x v G
  | .inr x => rep K x v G
instance {α β : Type} [Rep α] [Rep β] : Rep (Sum α β) := ⟨repS, fun {K x v G G'} e h => by
  cases x with
  | inl y => exact upd' e (show rep K y v G from h)
  | inr y => exact upd' e (show rep K y v G from h)⟩
abbrev Reps {α : Type} [Rep α] (K : PySem.W.Frag) (l : List α) (vs : List V) (G : Hp) : Prop := Paired (fun x v => rep K x v G) l vs
theorem Reps.upd {α : Type} [Rep α] {K : PySem.W.Frag} {l : List α} {vs : List V} {G G' : Hp} (e : SameD G G') (h : Reps K l vs G) : Reps K l vs G' := Paired.mapP h fun _ _ r => RL.upd' e r
theorem Reps.up {α : Type} [Rep α] {K : PySem.W.Frag} {l : List α} {vs : List V} {G G' : Hp} (e : Same G G') (h : Reps K l vs G) : Reps K l vs G' := Paired.mapP h fun _ _ r => RL.up e r
instance {α : Type} [Rep α] : Rep (List α) := ⟨fun K l v G => ∃ a xs, v = .ref a ∧ G a = some (.lst xs) ∧ Reps K l xs G, fun e ⟨a, xs, h1, h2, h3⟩ => ⟨a, xs, h1, e _ _ h2 trivial, h3.upd e⟩⟩
/-- the script -/
structure Scr where
  l : List Int
instance : Rep Scr := ⟨fun K s v G => ∃ a, v = .ref a ∧ SqL K G a (s.l.map V.int), fun e ⟨a, h1, h2⟩ => ⟨a, h1, sqL_monoD e h2⟩⟩
/-- a tuple of things of one kind -/
structure Tpl (α : Type) where
  l : List α
instance {α : Type} [Rep α] : Rep (Tpl α) := ⟨fun K t v G => ∃ a xs, v = .ref a ∧ SqT K G a xs ∧ Reps K t.l xs G, fun e ⟨a, xs, h1, h2, h3⟩ => ⟨a, xs, h1, sqT_monoD e h2, h3.upd e⟩⟩
instance {α β : Type} [Rep α] [Rep β] : Rep (α × β) := ⟨fun K p v G => ∃ a x y, v = .ref a ∧ SqT K G a [x, y] ∧ rep K p.1 x G ∧ rep K p.2 y G, fun e ⟨a, x, y, h1, h2, h3, h4⟩ => ⟨a, x, y, h1, sqT_monoD e h2, upd' e h3, upd' e h4⟩⟩
structure T3 (α β γ : Type) where
  a : α
  b : β
  c : γ
instance {α β γ : Type} [Rep α] [Rep β] [Rep γ] : Rep (T3 α β γ) := ⟨fun K p v G => ∃ a x y z, v = .ref a ∧ SqT K G a [x, y, z] ∧ rep K p.a x G ∧ rep K p.b y G ∧ rep K p.c z G,
  fun e ⟨a, x, y, z, h1, h2, h3, h4, h5⟩ => ⟨a, x, y, z, h1, sqT_monoD e h2, upd' e h3, upd' e h4, upd' e h5⟩⟩

/-- kinds whose things are told by their value alone -/
class Flat (α : Type) [Rep α] [DecidableEq α] where
  toV : α → V
  eq : ∀ {K : PySem.W.Frag} {x : α} {v : V} {G : Hp}, rep K x v G ↔ v = toV x
  flat : ∀ x : α, flatV (toV x) = true
  eqv : ∀ x y : α, eqV (toV x) (toV y) = decide (x = y)
  sc : ∀ x y : α, scal (toV x) (toV y) = true
  inj : ∀ x y : α, decide (toV x = toV y) = decide (x = y)
theorem inj_dec {α : Type} [DecidableEq α] {x y : α} {a b : V} (h : a = b ↔ x = y) : decide (a = b) = decide (x = y) := decide_eq_decide.mpr h
instance : Flat Int := ⟨V.int, Iff.rfl, fun _ => rfl, fun x y => by show (x == y) = _; exact Bool.beq_eq_decide_eq x y, fun _ _ => rfl, fun x y => inj_dec ⟨V.int.inj, congrArg _⟩⟩
instance : Flat Bool := ⟨V.bl, Iff.rfl, fun _ => rfl, fun x y => by show (x == y) = _; exact Bool.beq_eq_decide_eq x y, fun _ _ => rfl, fun x y => inj_dec ⟨V.bl.inj, congrArg _⟩⟩
instance : Flat Str := ⟨V.str, Iff.rfl, fun _ => rfl, fun x y => by show (x == y) = _; first | exact Bool.beq_eq_decide_eq x y | exact beq_eq_decide x y, fun _ _ => rfl, fun x y => inj_dec ⟨V.str.inj, congrArg _⟩⟩
def toVO : Option Str → V
  | none => .non
  | some x => .str x
instance : Flat (Option Str) := ⟨toVO, fun {K x v G} => by cases x <;> exact Iff.rfl, fun x => by cases x <;> rfl, fun x y => by
    cases x with
    | none =>
      cases y with
      | none => rfl
      | some y => exact (decide_eq_false (fun h => by cases h)).symm
    | some x =>
      cases y with
      | none => exact (decide_eq_false (fun h => by cases h)).symm
      | some y =>
        show eqV (.str x) (.str y) = _
        rw [show eqV (.str x) (.str y) = decide (x = y) from Flat.eqv x y]
        exact decide_eq_decide.mpr ⟨fun h => by rw [h], fun h => Option.some.inj h⟩, fun x y => by cases x <;> cases y <;> rfl, fun x y => inj_dec ⟨fun h => by
    cases x with
    | none =>
      cases y with
      | none => rfl
      | some y => cases h
    | some x =>
      cases y with
      | none => cases h
      | some y => exact congrArg some (V.str.inj h), fun h => by rw [h]⟩⟩
theorem reps_flat {α : Type} [Rep α] [DecidableEq α] [Flat α] {K : PySem.W.Frag} {G : Hp} : ∀ {l : List α} {vs : List V}, Reps K l vs G → vs = l.map Flat.toV
  | _, _, .nil => rfl
  | x :: l, v :: vs, .cons r t => by
    rw [List.map_cons, ← reps_flat t, (Flat.eq (x := x)).mp r]
theorem reps_of_flat {α : Type} [Rep α] [DecidableEq α] [Flat α] {K : PySem.W.Frag} {G : Hp} : ∀ (l : List α), Reps K l (l.map Flat.toV) G
  | [] => .nil
  | x :: l => .cons (Flat.eq.mpr rfl) (reps_of_flat l)
theorem paired_len {α β : Type} {F : α → β → Prop} : ∀ {l : List α} {m : List β}, Paired F l m → l.length = m.length
  | _, _, .nil => rfl
  | _, _, .cons _ t => congrArg (· + 1) (paired_len t)
theorem paired_get {α β : Type} {F : α → β → Prop} : ∀ {l : List α} {m : List β} {i : Nat} {b : β}, Paired F l m → m[i]? = some b → ∃ a, l[i]? = some a ∧ F a b
  | _, _, i, b, .nil, h => by simp at h
  | x :: l, y :: m, 0, b, .cons r t, h => ⟨x, rfl, by simp at h; rw [← h]; exact r⟩
  | x :: l, y :: m, i + 1, b, .cons r t, h => by
    have h' : m[i]? = some b := by simpa using h
    obtain ⟨a, e, f⟩ := paired_get t h'
    exact ⟨a, by simpa using e, f⟩
theorem paired_get' {α β : Type} {F : α → β → Prop} : ∀ {l : List α} {m : List β} {i : Nat} {a : α}, Paired F l m → l[i]? = some a → ∃ b, m[i]? = some b ∧ F a b
  | _, _, i, b, .nil, h => by simp at h
  | x :: l, y :: m, 0, b, .cons r t, h => ⟨y, rfl, by simp at h; rw [← h]; exact r⟩
  | x :: l, y :: m, i + 1, b, .cons r t, h => by
    have h' : l[i]? = some b := by simpa using h
    obtain ⟨a, e, f⟩ := paired_get' t h'
    exact ⟨a, by simpa using e, f⟩
theorem paired_append {α β : Type} {F : α → β → Prop} : ∀ {l l' : List α} {m m' : List β}, Paired F l m → Paired F l' m' → Paired F (l ++ l') (m ++ m')
  | _, _, _, _, .nil, s => s
  | _, _, _, _, .cons r t, s => .cons r (paired_append t s)
theorem paired_take {α β : Type} {F : α → β → Prop} : ∀ {l : List α} {m : List β} (n : Nat), Paired F l m → Paired F (l.take n) (m.take n)
  | _, _, 0, _ => .nil
  | _, _, _ + 1, .nil => .nil
  | _, _, n + 1, .cons r t => .cons r (paired_take n t)
theorem paired_drop {α β : Type} {F : α → β → Prop} : ∀ {l : List α} {m : List β} (n : Nat), Paired F l m → Paired F (l.drop n) (m.drop n)
  | _, _, 0, r => r
  | _, _, _ + 1, .nil => .nil
  | _, _, n + 1, .cons _ t => paired_drop n t
theorem paired_rev {α β : Type} {F : α → β → Prop} : ∀ {l : List α} {m : List β}, Paired F l m → Paired F l.reverse m.reverse
  | _, _, .nil => .nil
  | x :: l, y :: m, .cons r t => by
    rw [List.reverse_cons, List.reverse_cons]
    exact paired_append (paired_rev t) (.cons r .nil)
theorem atI_pair {α β : Type} {F : α → β → Prop} {l : List α} {m : List β} {i : Int} {a : α} (p : Paired F l m) (h : atI l i = some a) : ∃ b, atI m i = some b ∧ F a b := by
  unfold atI at h ⊢
  rw [← paired_len p]
  cases e : ixN l.length i with
  | none => rw [e] at h; cases h
  | some j =>
    rw [e] at h
    exact paired_get' p h

/-- the two questions, by one word each -/
def eqB {α : Type} [DecidableEq α] (x y : α) : Bool := decide (x = y)
def memB {α : Type} [DecidableEq α] (x : α) (l : List α) : Bool := decide (x ∈ l)
variable [Tb] [Fz]
/-! ### what an expression is worth -/
abbrev RP := V → Hp → Prop
def EvG (te : TE) (σ : L2.St) (G : Hp) (P : RP) : Prop := ∀ H, Sub G H → ∀ Q : VK, (∀ v G' H', Grow G H G' H' → P v G' → Q v H') → te σ H Q
def EvR {α : Type} [Rep α] (K : PySem.W.Frag) (te : TE) (σ : L2.St) (G : Hp) (x : α) : Prop := EvG te σ G (rep K x)
def EvB (tt : TT) (σ : L2.St) (G : Hp) (b : Bool) : Prop := ∀ H, Sub G H → ∀ Q : Bool → Hp → Prop, (∀ G' H', Grow G H G' H' → Q b H') → tt σ H Q
/-- arguments, items: told one by one -/
def EvA {α : Type} [Rep α] (K : PySem.W.Frag) (ta : TA) (σ : L2.St) (G : Hp) (l : List α) : Prop := ∀ H, Sub G H → ∀ Q : List V → Hp → Prop, (∀ vs G' H', Grow G H G' H' → Reps K l vs G' → Q vs H') → ta σ H Q
/-- nothing is made: the heap stands -/
theorem grow_up {G G' H G2 H2 : Hp} (a : Grow G H G2 H2) (e : Same G G') (s : Sub G' H) : Grow G' H (jn G2 G') H2 := by
  have s2 : Sub G' H2 := s.keep a.h a.s.t
  exact ⟨jn_r a.s.get s2.get, jn_s a.s s2, a.h, fun b o hb hn => jn_none (a.f b o hb (e.free hn)) hn, a.x⟩
section
variable {α β γ : Type} [Rep α] [Rep β] [Rep γ] {K : PySem.W.Frag} {σ : L2.St} {G G' : Hp} {te ta tb tc : TE} {tt tu : TT} {x : α} {y : β} {z : γ} {b c : Bool} {i : Nat} {v : V} {ts tr : TA}
theorem EvR.mono (h : EvR K te σ G x) (e : Same G G') : EvR K te σ G' x := fun H s Q q => h H (un e s) Q fun v G2 H2 gr r => q v _ H2 (grow_up gr e s) (up (jn_l G2 G') r)
theorem EvB.mono (h : EvB tt σ G b) (e : Same G G') : EvB tt σ G' b := fun H s Q q => h H (un e s) Q fun G2 H2 gr => q _ H2 (grow_up gr e s)
theorem EvA.mono {l : List α} (h : EvA K ts σ G l) (e : Same G G') : EvA K ts σ G' l := fun H s Q q => h H (un e s) Q fun v G2 H2 gr r => q v _ H2 (grow_up gr e s) (r.up (jn_l G2 G'))
theorem EvR.to {x' : α} (h : EvR K te σ G x) (e : x = x') : EvR K te σ G x' := e ▸ h
theorem EvB.to (h : EvB tt σ G b) (e : b = c) : EvB tt σ G c := e ▸ h
theorem ev_var (h : σ[i]? = some (some v)) (r : rep K x v G) : EvR K (tVar i) σ G x := fun H e Q q => ⟨v, h, q v G H (Grow.refl e) r⟩
theorem ev_c (r : rep K x v G) : EvR K (tC v) σ G x := fun H e Q q => q v G H (Grow.refl e) r
theorem ev_int {n : Int} : EvR K (tC (.int n)) σ G n := ev_c rfl
theorem ev_str {n : Str} : EvR K (tC (.str n)) σ G n := ev_c rfl
theorem ev_bl {n : Bool} : EvR K (tC (.bl n)) σ G n := ev_c rfl
theorem ev_non : EvR K (tC .non) σ G (none : Option α) := ev_c (show repO K (none : Option α) V.non G from rfl)
theorem ev_some (h : EvR K te σ G x) : EvR K te σ G (some x) := h
/-- two operands -/
theorem ev_op {r : R2} (ha : EvR K ta σ G x) (hb : EvR K tb σ G y)
    (hr : ∀ v w G1 H1, Same G G1 → Sub G1 H1 → rep K x v G1 → rep K y w G1 → ∀ Q : VK, (∀ u G2 H2, Grow G1 H1 G2 H2 → rep K z u G2 → Q u H2) → r v w H1 Q) : EvR K (tOp r ta tb) σ G z := fun H e Q q =>
  ha H e _ fun v G1 H1 g1 r1 => hb.mono g1.g H1 g1.s _ fun w G2 H2 g2 r2 => hr v w G2 H2 (g1.g.trans g2.g) g2.s (up g2.g r1) r2 Q fun u G3 H3 g3 r3 => q u G3 H3 ((g1.trans g2).trans g3) r3
theorem ev_I0 {g : Int → Int → Int} {m n : Int} (ha : EvR K ta σ G m) (hb : EvR K tb σ G n) : EvR K (tOp (rI0 fun i j => .int (g i j)) ta tb) σ G (g m n) :=
  ev_op ha hb fun v w G1 H1 _ s hv hw Q q => ⟨m, n, hv, hw, q _ G1 H1 (Grow.refl s) rfl⟩
theorem ev_B0 {g : Int → Int → Bool} {m n : Int} (ha : EvR K ta σ G m) (hb : EvR K tb σ G n) : EvR K (tOp (rI0 fun i j => .bl (g i j)) ta tb) σ G (g m n) :=
  ev_op ha hb fun v w G1 H1 _ s hv hw Q q => ⟨m, n, hv, hw, q _ G1 H1 (Grow.refl s) rfl⟩
theorem ev_I {C : Int → Int → Prop} {g : Int → Int → Int} {m n : Int} (ha : EvR K ta σ G m) (hb : EvR K tb σ G n) (hc : C m n) : EvR K (tOp (rI C fun i j => .int (g i j)) ta tb) σ G (g m n) :=
  ev_op ha hb fun v w G1 H1 _ s hv hw Q q => ⟨m, n, hv, hw, hc, q _ G1 H1 (Grow.refl s) rfl⟩
theorem ev_add {m n : Int} (ha : EvR K ta σ G m) (hb : EvR K tb σ G n) : EvR K (tOp (rI0 fun i j => .int (i + j)) ta tb) σ G (m + n) := ev_I0 (g := fun i j => i + j) ha hb
theorem ev_sub {m n : Int} (ha : EvR K ta σ G m) (hb : EvR K tb σ G n) : EvR K (tOp (rI0 fun i j => .int (i - j)) ta tb) σ G (m - n) := ev_I0 (g := fun i j => i - j) ha hb
theorem ev_mul {m n : Int} (ha : EvR K ta σ G m) (hb : EvR K tb σ G n) (hc : CMul m n) : EvR K (tOp (rI CMul fun i j => .int (i * j)) ta tb) σ G (m * n) := ev_I (g := fun i j => i * j) ha hb hc
theorem ev_mod {m n : Int} (ha : EvR K ta σ G m) (hb : EvR K tb σ G n) (hc : 0 < n) : EvR K (tOp (rI (fun _ j => 0 < j) fun i j => .int (i % j)) ta tb) σ G (m % n) := ev_I (g := fun i j => i % j) (C := fun _ j => 0 < j) ha hb hc
theorem ev_fdiv {m n : Int} (ha : EvR K ta σ G m) (hb : EvR K tb σ G n) (hc : CDiv m n) : EvR K (tOp (rI CDiv fun i j => .int (i / j)) ta tb) σ G (m / n) := ev_I (g := fun i j => i / j) ha hb hc
theorem ev_pow {m n : Int} (ha : EvR K ta σ G m) (hb : EvR K tb σ G n) (hc : CPow m n) : EvR K (tOp (rI CPow fun i j => .int (i ^ j.toNat)) ta tb) σ G (m ^ n.toNat) := ev_I (g := fun i j => i ^ j.toNat) ha hb hc
theorem ev_lt {m n : Int} (ha : EvR K ta σ G m) (hb : EvR K tb σ G n) : EvR K (tOp (rI0 fun i j => .bl (decide (i < j))) ta tb) σ G (decide (m < n)) := ev_B0 (g := fun i j => decide (i < j)) ha hb
theorem ev_le {m n : Int} (ha : EvR K ta σ G m) (hb : EvR K tb σ G n) : EvR K (tOp (rI0 fun i j => .bl (decide (i ≤ j))) ta tb) σ G (decide (m ≤ n)) := ev_B0 (g := fun i j => decide (i ≤ j)) ha hb
theorem ev_gt {m n : Int} (ha : EvR K ta σ G m) (hb : EvR K tb σ G n) : EvR K (tOp (rI0 fun i j => .bl (decide (j < i))) ta tb) σ G (decide (n < m)) := ev_B0 (g := fun i j => decide (j < i)) ha hb
theorem ev_ge {m n : Int} (ha : EvR K ta σ G m) (hb : EvR K tb σ G n) : EvR K (tOp (rI0 fun i j => .bl (decide (j ≤ i))) ta tb) σ G (decide (n ≤ m)) := ev_B0 (g := fun i j => decide (j ≤ i)) ha hb
theorem ev_neg {m : Int} (ha : EvR K ta σ G m) : EvR K (tUn (rU fun i => .int (-i)) ta) σ G (-m) := fun H e Q q => ha H e _ fun v G1 H1 g1 r1 => ⟨m, r1, q _ G1 H1 g1 rfl⟩
/-- == != of things told by their value -/
theorem ev_eq {δ : Type} [Rep δ] [DecidableEq δ] [Flat δ] {m n : δ} (ha : EvR K ta σ G m) (hb : EvR K tb σ G n) : EvR K (tOp rEq ta tb) σ G (eqB m n) :=
  ev_op ha hb fun v w G1 H1 _ s hv hw Q q => by
    rw [Flat.eq.mp hv, Flat.eq.mp hw]
    refine ⟨Flat.sc m n, q _ G1 H1 (Grow.refl s) ?_⟩
    rw [Flat.inj m n]
    rfl
theorem ev_ne {δ : Type} [Rep δ] [DecidableEq δ] [Flat δ] {m n : δ} (ha : EvR K ta σ G m) (hb : EvR K tb σ G n) : EvR K (tOp rNe ta tb) σ G (!eqB m n) :=
  ev_op ha hb fun v w G1 H1 _ s hv hw Q q => by
    rw [Flat.eq.mp hv, Flat.eq.mp hw]
    refine ⟨Flat.sc m n, q _ G1 H1 (Grow.refl s) ?_⟩
    rw [Flat.inj m n]
    rfl
theorem ev_isN {o : Option α} (hn : ∀ v G, (∃ x : α, rep K x v G) → v ≠ .non) (ha : EvR K ta σ G o) : EvR K (tOp (fun x y H Q => y = .non ∧ Q (.bl (decide (x = .non))) H) ta (tC .non)) σ G o.isNone := fun H e Q q =>
  ha H e _ fun v G1 H1 g1 r1 => ⟨rfl, q _ G1 H1 g1 (by
    cases o with
    | none =>
      have e : v = V.non := r1
      rw [e]
      rfl
    | some x => exact congrArg V.bl (decide_eq_false (hn v G1 ⟨x, r1⟩)))⟩
theorem ev_notN {o : Option α} (hn : ∀ v G, (∃ x : α, rep K x v G) → v ≠ .non) (ha : EvR K ta σ G o) : EvR K (tOp (fun x y H Q => y = .non ∧ Q (.bl (!decide (x = .non))) H) ta (tC .non)) σ G o.isSome := fun H e Q q =>
  ha H e _ fun v G1 H1 g1 r1 => ⟨rfl, q _ G1 H1 g1 (by
    cases o with
    | none =>
      have e : v = V.non := r1
      rw [e]
      rfl
    | some x => exact congrArg V.bl (by rw [decide_eq_false (hn v G1 ⟨x, r1⟩)]; rfl))⟩
omit [Tb] [Fz] in
theorem nn_str {K : PySem.W.Frag} : ∀ (v : V) (G : Hp), (∃ x : Str, rep K x v G) → v ≠ .non := fun v G ⟨x, h⟩ => by rw [show v = V.str x from h]; intro z; cases z
omit [Tb] [Fz] in
theorem nn_int {K : PySem.W.Frag} : ∀ (v : V) (G : Hp), (∃ x : Int, rep K x v G) → v ≠ .non := fun v G ⟨x, h⟩ => by rw [show v = V.int x from h]; intro z; cases z
omit [Tb] [Fz] in
theorem nn_pair {K : PySem.W.Frag} : ∀ (v : V) (G : Hp), (∃ x : α × β, rep K x v G) → v ≠ .non := fun v G ⟨x, a, y, w, h, _⟩ => by rw [h]; intro z; cases z
/-- texts -/
theorem ev_addS {m n : Str} (ha : EvR K ta σ G m) (hb : EvR K tb σ G n) (hl : m.length + n.length ≤ sizeLine) :
    EvR K (tOp (fun x y H Q => ∃ i j, x = .str i ∧ y = .str j ∧ i.length + j.length ≤ sizeLine ∧ Q (.str (i ++ j)) H) ta tb) σ G (m ++ n) :=
  ev_op ha hb fun v w G1 H1 _ s hv hw Q q => ⟨m, n, hv, hw, hl, q _ G1 H1 (Grow.refl s) rfl⟩
theorem ev_leS {m n : Str} (ha : EvR K ta σ G m) (hb : EvR K tb σ G n) :
    EvR K (tOp (fun x y H Q => ∃ i j, x = .str i ∧ y = .str j ∧ Q (.bl (!decide (j.cps.toList < i.cps.toList))) H) ta tb) σ G (!decide (n.cps.toList < m.cps.toList)) :=
  ev_op ha hb fun v w G1 H1 _ s hv hw Q q => ⟨m, n, hv, hw, q _ G1 H1 (Grow.refl s) rfl⟩
/-- a <= b <= c -/
theorem ev_chain {r r' : R2} {u : Bool} (ha : EvR K ta σ G x) (hb : EvR K tb σ G y) (hr : ∀ v w G1 H1, Same G G1 → Sub G1 H1 → rep K x v G1 → rep K y w G1 → ∀ Q : VK, (∀ G2 H2, Grow G1 H1 G2 H2 → Q (.bl b) H2) → r v w H1 Q)
    (hc : b = true → EvR K tc σ G z) (hr2 : ∀ v w G1 H1, Same G G1 → Sub G1 H1 → rep K y v G1 → rep K z w G1 → ∀ Q : VK, (∀ G2 H2, Grow G1 H1 G2 H2 → Q (.bl u) H2) → r' v w H1 Q) : EvR K (tChain r r' ta tb tc) σ G (b && u) := fun H e Q q =>
  ha H e _ fun v G1 H1 g1 r1 => hb.mono g1.g H1 g1.s _ fun w G2 H2 g2 r2 => hr v w G2 H2 (g1.g.trans g2.g) g2.s (up g2.g r1) r2 _ fun G3 H3 g3 => ⟨b, rfl, by
    cases b with
    | true =>
      refine iteT ?_
      have g := (g1.trans g2).trans g3
      refine (hc rfl).mono g.g H3 g.s _ fun w' G4 H4 g4 r4 => ?_
      exact hr2 w w' G4 H4 (g.g.trans g4.g) g4.s (up (g3.g.trans g4.g) r2) r4 Q fun G5 H5 g5 => q _ G5 H5 ((g.trans g4).trans g5) rfl
    | false =>
      refine iteF ?_
      exact q _ G3 H3 ((g1.trans g2).trans g3) rfl⟩
/-- tests -/
theorem et_test (h : EvR K te σ G b) : EvB (tTest te) σ G b := fun H e Q q => h H e _ fun v G1 H1 g1 r1 => ⟨b, r1, q G1 H1 g1⟩
theorem et_B (h : EvR K te σ G b) : EvB (tB te) σ G b := fun H e Q q => h H e _ fun v G1 H1 g1 r1 => ⟨b, r1, q G1 H1 g1⟩
theorem et_and (h1 : EvB tt σ G b) (h2 : b = true → EvB tu σ G c) : EvB (tAnd tt tu) σ G (b && c) := fun H e Q q => h1 H e _ fun G1 H1 g1 => by
  cases b with
  | true => exact iteT ((h2 rfl).mono g1.g H1 g1.s Q fun G2 H2 g2 => q G2 H2 (g1.trans g2))
  | false => exact iteF (q G1 H1 g1)
theorem et_or (h1 : EvB tt σ G b) (h2 : b = false → EvB tu σ G c) : EvB (tOr tt tu) σ G (b || c) := fun H e Q q => h1 H e _ fun G1 H1 g1 => by
  cases b with
  | true => exact iteT (q G1 H1 g1)
  | false => exact iteF ((h2 rfl).mono g1.g H1 g1.s Q fun G2 H2 g2 => q G2 H2 (g1.trans g2))
theorem et_not (h : EvB tt σ G b) : EvB (tNot tt) σ G (!b) := fun H e Q q => h H e _ q
theorem ev_andV (h1 : EvR K ta σ G b) (h2 : b = true → EvR K tb σ G c) : EvR K (tAndV ta tb) σ G (b && c) := fun H e Q q => h1 H e _ fun v G1 H1 g1 r1 => ⟨b, r1, by
  cases b with
  | true => exact iteT ((h2 rfl).mono g1.g H1 g1.s Q fun v G2 H2 g2 r2 => q v G2 H2 (g1.trans g2) r2)
  | false => exact iteF (q _ G1 H1 g1 rfl)⟩
theorem ev_orV (h1 : EvR K ta σ G b) (h2 : b = false → EvR K tb σ G c) : EvR K (tOrV ta tb) σ G (b || c) := fun H e Q q => h1 H e _ fun v G1 H1 g1 r1 => ⟨b, r1, by
  cases b with
  | true => exact iteT (q _ G1 H1 g1 rfl)
  | false => exact iteF ((h2 rfl).mono g1.g H1 g1.s Q fun v G2 H2 g2 r2 => q v G2 H2 (g1.trans g2) r2)⟩
theorem ev_notV (h1 : EvR K ta σ G b) : EvR K (tNotV ta) σ G (!b) := fun H e Q q => h1 H e _ fun v G1 H1 g1 r1 => ⟨b, r1, q _ G1 H1 g1 rfl⟩
theorem ev_if (h : EvB tt σ G b) {x' : α} (h1 : b = true → EvR K ta σ G x) (h2 : b = false → EvR K tb σ G x') : EvR K (tIf tt ta tb) σ G (cond b x x') := fun H e Q q => h H e _ fun G1 H1 g1 => by
  cases b with
  | true => exact iteT ((h1 rfl).mono g1.g H1 g1.s Q fun v G2 H2 g2 r2 => q v G2 H2 (g1.trans g2) r2)
  | false => exact iteF ((h2 rfl).mono g1.g H1 g1.s Q fun v G2 H2 g2 r2 => q v G2 H2 (g1.trans g2) r2)
/-- arguments -/
theorem ea_nil : EvA K tNil σ G ([] : List α) := fun H e Q q => q [] G H (Grow.refl e) .nil
theorem ea_cons {l : List α} (h : EvR K te σ G x) (hr : EvA K tr σ G l) : EvA K (tCons te tr) σ G (x :: l) := fun H e Q q =>
  h H e _ fun v G1 H1 g1 r1 => hr.mono g1.g H1 g1.s _ fun vs G2 H2 g2 r2 => q (v :: vs) G2 H2 (g1.trans g2) (.cons (up g2.g r1) r2)
theorem ea_star {l m : List α} (h : EvR K te σ G l) (hr : EvA K tr σ G m) : EvA K (StX.tStar K te tr) σ G (l ++ m) := fun H e Q q =>
  h H e _ fun v G1 H1 g1 ⟨a, xs, ev, ha, r1⟩ => ⟨a, xs, ev, .inr (SqL.of (g1.s _ _ ha)), hr.mono g1.g H1 g1.s _ fun vs G2 H2 g2 r2 => q (xs ++ vs) G2 H2 (g1.trans g2) (paired_append (r1.up g2.g) r2)⟩
theorem ev_lst {l : List α} (h : EvA K ts σ G l) (hl : l.length ≤ sizeLine) : EvR K (tLst ts) σ G l := fun H e Q q =>
  h H e _ fun vs G1 H1 g1 r1 => ⟨by rw [← paired_len r1]; exact hl, fun p hp => q _ _ _ (g1.trans (Grow.new g1.s hp)) ⟨p, vs, rfl, upd_same, r1.up (same_upd (g1.s.free hp))⟩⟩
theorem ev_tpl {l : List α} (h : EvA K ts σ G l) (hl : l.length ≤ sizeLine) : EvR K (tTup ts) σ G (Tpl.mk l) := fun H e Q q =>
  h H e _ fun vs G1 H1 g1 r1 => ⟨by rw [← paired_len r1]; exact hl, fun p hp => q _ _ _ (g1.trans (Grow.new g1.s hp)) ⟨p, vs, rfl, SqT.of upd_same, r1.up (same_upd (g1.s.free hp))⟩⟩
theorem ev_tup2 (ha : EvR K ta σ G x) (hb : EvR K tb σ G y) : EvR K (tTup (tCons ta (tCons tb tNil))) σ G (x, y) := fun H e Q q =>
  ha H e _ fun v G1 H1 g1 r1 => hb.mono g1.g H1 g1.s _ fun w G2 H2 g2 r2 => ⟨by show 2 ≤ sizeLine; decide, fun p hp => q _ _ _ ((g1.trans g2).trans (Grow.new g2.s hp))
    ⟨p, v, w, rfl, SqT.of upd_same, up (g2.g.trans (same_upd (g2.s.free hp))) r1, up (same_upd (g2.s.free hp)) r2⟩⟩
/-- items, slices -/
theorem ev_ixL {l : List α} {n : Int} (ha : EvR K ta σ G l) (hb : EvR K tb σ G n) (h : atI l n = some x) : EvR K (tOp (rIxL K) ta tb) σ G x :=
  ev_op ha hb fun v w G1 H1 _ s ⟨a, xs, ev, hA, r⟩ hw Q q => by
    obtain ⟨u, h1, h2⟩ := atI_pair r h
    exact ⟨a, xs, n, u, ev, hw, SqL.of (s _ _ hA), h1, q u G1 H1 (Grow.refl s) h2⟩
theorem ev_ixT {l : Tpl α} {n : Int} (ha : EvR K ta σ G l) (hb : EvR K tb σ G n) (h : atI l.l n = some x) : EvR K (tOp (rIxT K) ta tb) σ G x :=
  ev_op ha hb fun v w G1 H1 _ s ⟨a, xs, ev, hA, r⟩ hw Q q => by
    obtain ⟨u, h1, h2⟩ := atI_pair r h
    exact ⟨a, xs, n, u, ev, hw, sqT_mono s.get hA, h1, q u G1 H1 (Grow.refl s) h2⟩
theorem ev_ix20 {p : α × β} (ha : EvR K ta σ G p) : EvR K (tOp (rIxT K) ta (tC (.int 0))) σ G p.1 :=
  ev_op (y := (0 : Int)) ha ev_int fun v w G1 H1 _ s ⟨a, x, y, ev, hA, r1, r2⟩ hw Q q => ⟨a, [x, y], 0, x, ev, hw, sqT_mono s.get hA, rfl, q x G1 H1 (Grow.refl s) r1⟩
theorem ev_ix21 {p : α × β} (ha : EvR K ta σ G p) : EvR K (tOp (rIxT K) ta (tC (.int 1))) σ G p.2 :=
  ev_op (y := (1 : Int)) ha ev_int fun v w G1 H1 _ s ⟨a, x, y, ev, hA, r1, r2⟩ hw Q q => ⟨a, [x, y], 1, y, ev, hw, sqT_mono s.get hA, rfl, q y G1 H1 (Grow.refl s) r2⟩
theorem ev_ixS {z : Str} {n : Int} {c : Nat} (ha : EvR K ta σ G z) (hb : EvR K tb σ G n) (hl : z.length ≤ sizeLine) (h : atI z.cps.toList n = some c) : EvR K (tOp rIxS ta tb) σ G (Str.mk #[c]) :=
  ev_op ha hb fun v w G1 H1 _ s hv hw Q q => ⟨z, n, c, hv, hw, hl, h, q _ G1 H1 (Grow.refl s) rfl⟩
theorem ev_ixScr {z : Scr} {n m : Int} (ha : EvR K ta σ G z) (hb : EvR K tb σ G n) (h : atI z.l n = some m) : EvR K (tOp (rIxL K) ta tb) σ G m :=
  ev_op ha hb fun v w G1 H1 _ s ⟨a, ev, hA⟩ hw Q q => by
    have h2 : atI (z.l.map V.int) n = some (V.int m) := by
      unfold atI at h ⊢
      rw [List.length_map]
      cases e : ixN z.l.length n with
      | none => rw [e] at h; cases h
      | some j =>
        rw [e] at h
        show (z.l.map V.int)[j]? = some (V.int m)
        rw [List.getElem?_map, show z.l[j]? = some m from h]
        rfl
    exact ⟨a, _, n, _, ev, hw, sqL_mono s.get hA, h2, q _ G1 H1 (Grow.refl s) rfl⟩
def cutL {δ : Type} (xs : List δ) (lo hi : Option Int) : List δ := (xs.drop (HT.sIx xs.length 0 lo)).take (HT.sIx xs.length xs.length hi - HT.sIx xs.length 0 lo)
omit [Tb] [Fz] in
theorem cut_pair {δ ε : Type} {F : δ → ε → Prop} {l : List δ} {m : List ε} (lo hi : Option Int) (p : Paired F l m) : Paired F (cutL l lo hi) (cutL m lo hi) := by
  unfold cutL
  rw [← paired_len p]
  exact paired_take _ (paired_drop _ p)
def EvO (K : PySem.W.Frag) (to : TO) (σ : L2.St) (G : Hp) (o : Option Int) : Prop := ∀ H, Sub G H → ∀ Q : Option Int → Hp → Prop, (∀ G' H', Grow G H G' H' → Q o H') → to σ H Q
theorem eo_none : EvO K tNoPart σ G none := fun H e Q q => q G H (Grow.refl e)
theorem eo_some {n : Int} (h : EvR K te σ G n) : EvO K (tPart te) σ G (some n) := fun H e Q q => h H e _ fun v G1 H1 g1 r1 => ⟨n, r1, q G1 H1 g1⟩
theorem EvO.mono {to : TO} {o : Option Int} (h : EvO K to σ G o) (e : Same G G') : EvO K to σ G' o := fun H s Q q => h H (un e s) Q fun G2 H2 gr => q _ H2 (grow_up gr e s)
theorem ev_slL {l : List α} {tl th : TO} {lo hi : Option Int} (ha : EvR K ta σ G l) (hl : EvO K tl σ G lo) (hh : EvO K th σ G hi) : EvR K (tSl (rSlL K) ta tl th) σ G (cutL l lo hi) := fun H e Q q =>
  ha H e _ fun v G1 H1 g1 r1 => hl.mono g1.g H1 g1.s _ fun G2 H2 g2 => hh.mono (g1.g.trans g2.g) H2 g2.s _ fun G3 H3 g3 => by
    obtain ⟨a, xs, ev, hA, r⟩ := up (g2.g.trans g3.g) r1
    exact ⟨a, xs, ev, SqL.of (g3.s _ _ hA), fun p hp => q _ _ _ (((g1.trans g2).trans g3).trans (Grow.new g3.s hp)) ⟨p, cutL xs lo hi, rfl, upd_same, Reps.up (same_upd (g3.s.free hp)) (cut_pair lo hi r)⟩⟩
theorem ev_slS {l : Str} {tl th : TO} {lo hi : Option Int} (ha : EvR K ta σ G l) (hl : EvO K tl σ G lo) (hh : EvO K th σ G hi) (hz : l.length ≤ sizeLine) : EvR K (tSl rSlS ta tl th) σ G (cutS l lo hi) := fun H e Q q =>
  ha H e _ fun v G1 H1 g1 r1 => hl.mono g1.g H1 g1.s _ fun G2 H2 g2 => hh.mono (g1.g.trans g2.g) H2 g2.s _ fun G3 H3 g3 => ⟨l, r1, hz, q _ G3 H3 ((g1.trans g2).trans g3) rfl⟩
theorem ev_revL {l : List α} (ha : EvR K ta σ G l) : EvR K (L2.tRevL K ta) σ G l.reverse := fun H e Q q =>
  ha H e _ fun v G1 H1 g1 ⟨a, xs, ev, hA, r⟩ => ⟨a, xs, ev, SqL.of (g1.s _ _ hA), fun p hp => q _ _ _ (g1.trans (Grow.new g1.s hp)) ⟨p, xs.reverse, rfl, upd_same, Reps.up (same_upd (g1.s.free hp)) (paired_rev r)⟩⟩
theorem ev_cat {l m : List α} (ha : EvR K ta σ G l) (hb : EvR K tb σ G m) (hl : l.length + m.length ≤ sizeLine) : EvR K (tOp rCat ta tb) σ G (l ++ m) :=
  ev_op ha hb fun v w G1 H1 _ s ⟨a, xs, ev, hA, r⟩ ⟨b, ys, ew, hB, r'⟩ Q q => ⟨a, b, xs, ys, ev, ew, s _ _ hA, s _ _ hB, by rw [← paired_len r, ← paired_len r']; exact hl, fun p hp =>
    q _ _ _ (Grow.new s hp) ⟨p, xs ++ ys, rfl, upd_same, paired_append (r.up (same_upd (s.free hp))) (r'.up (same_upd (s.free hp)))⟩⟩
omit [Tb] [Fz] in
/-- in -/
theorem inV_flat {δ : Type} [Rep δ] [DecidableEq δ] [Flat δ] {x : δ} : ∀ {l : List δ}, inV (Flat.toV x) (l.map Flat.toV) = decide (x ∈ l)
  | [] => by simp [inV]
  | y :: l => by
    have ih := inV_flat (x := x) (l := l)
    unfold inV at ih ⊢
    rw [List.map_cons, List.any_cons, ih, Flat.eqv y x]
    by_cases h : y = x
    · subst h
      simp
    · have h' : x ≠ y := fun e => h e.symm
      simp [h, h']
omit [Tb] [Fz] in
theorem flat_all {δ : Type} [Rep δ] [DecidableEq δ] [Flat δ] {l : List δ} : (l.map Flat.toV).all flatV = true := by
  rw [List.all_map, List.all_eq_true]
  intro y _
  exact Flat.flat y
theorem ev_inL {δ : Type} [Rep δ] [DecidableEq δ] [Flat δ] {x : δ} {l : List δ} (ha : EvR K ta σ G x) (hb : EvR K tb σ G l) : EvR K (tOp (rIn K false) ta tb) σ G (memB x l) :=
  ev_op ha hb fun v w G1 H1 _ s hv ⟨b, ys, ew, hB, r⟩ Q q => by
    have e1 := Flat.eq.mp hv
    have e2 := reps_flat r
    subst e1
    subst e2
    refine ⟨b, _, ew, .inl (SqL.of (s _ _ hB)), Flat.flat x, flat_all, ?_⟩
    rw [if_neg Bool.false_ne_true, inV_flat]
    exact q _ G1 H1 (Grow.refl s) rfl
theorem ev_inT {δ : Type} [Rep δ] [DecidableEq δ] [Flat δ] {x : δ} {l : Tpl δ} (ha : EvR K ta σ G x) (hb : EvR K tb σ G l) : EvR K (tOp (rIn K false) ta tb) σ G (memB x l.l) :=
  ev_op ha hb fun v w G1 H1 _ s hv ⟨b, ys, ew, hB, r⟩ Q q => by
    have e1 := Flat.eq.mp hv
    have e2 := reps_flat r
    subst e1
    subst e2
    refine ⟨b, _, ew, .inr (sqT_mono s.get hB), Flat.flat x, flat_all, ?_⟩
    rw [if_neg Bool.false_ne_true, inV_flat]
    exact q _ G1 H1 (Grow.refl s) rfl
/-- len -/
theorem ev_len1 {r : List V → Hp → VK → Prop} {n : Nat} (ha : EvR K ta σ G x) (hr : ∀ v G1 H1, Sub G1 H1 → rep K x v G1 → ∀ Q : VK, Q (.int n) H1 → r [v] H1 Q) : EvR K (tCB r (tCons ta tNil)) σ G (n : Int) := fun H e Q q =>
  ha H e _ fun v G1 H1 g1 r1 => hr v G1 H1 g1.s r1 Q (q _ G1 H1 g1 rfl)
abbrev rLen (K : PySem.W.Frag) : List V → Hp → VK → Prop := fun xs H Q => ∃ x n, xs = [x] ∧ LenV K x H n ∧ Q (.int n) H
theorem ev_lenL {l : List α} (ha : EvR K ta σ G l) : EvR K (tCB (rLen K) (tCons ta tNil)) σ G (l.length : Int) :=
  ev_len1 ha fun v G1 H1 s ⟨a, xs, ev, hA, r⟩ Q q => ⟨v, l.length, rfl, by rw [ev]; exact .inl ⟨xs, SqL.of (s _ _ hA), paired_len r⟩, q⟩
theorem ev_lenT {l : Tpl α} (ha : EvR K ta σ G l) : EvR K (tCB (rLen K) (tCons ta tNil)) σ G (l.l.length : Int) :=
  ev_len1 ha fun v G1 H1 s ⟨a, xs, ev, hA, r⟩ Q q => ⟨v, l.l.length, rfl, by rw [ev]; exact .inr ⟨xs, sqT_mono s.get hA, paired_len r⟩, q⟩
theorem ev_lenScr {l : Scr} (ha : EvR K ta σ G l) : EvR K (tCB (rLen K) (tCons ta tNil)) σ G (l.l.length : Int) :=
  ev_len1 ha fun v G1 H1 s ⟨a, ev, hA⟩ Q q => ⟨v, l.l.length, rfl, by rw [ev]; exact .inl ⟨_, sqL_mono s.get hA, by rw [List.length_map]⟩, q⟩
theorem ev_lenS {l : Str} (ha : EvR K ta σ G l) (hl : l.length ≤ sizeLine) : EvR K (tCB (rLen K) (tCons ta tNil)) σ G (l.length : Int) :=
  ev_len1 ha fun v G1 H1 s hv Q q => ⟨v, l.length, rfl, by rw [show v = V.str l from hv]; exact ⟨hl, rfl⟩, q⟩
/-- int(n), str(n) -/
theorem ev_int1 {n : Int} (ha : EvR K ta σ G n) : EvR K (tCB (fun xs H Q => (∃ i, xs = [.int i] ∧ Q (.int i) H) ∨ ∃ k, xs = [.bl k] ∧ Q (.int (if k then 1 else 0)) H) (tCons ta tNil)) σ G n := fun H e Q q =>
  ha H e _ fun v G1 H1 g1 r1 => .inl ⟨n, by rw [show v = V.int n from r1], q _ G1 H1 g1 rfl⟩
theorem ev_strI {n : Int} (ha : EvR K ta σ G n) (hn : n.natAbs.log2 < 1920) : EvR K (tCB (fun xs H Q => ∃ i, xs = [.int i] ∧ i.natAbs.log2 < 1920 ∧ Q (.str (toString i)) H) (tCons ta tNil)) σ G (PySem.Str.ofString (toString n)) := fun H e Q q =>
  ha H e _ fun v G1 H1 g1 r1 => ⟨n, by rw [show v = V.int n from r1], hn, q _ G1 H1 g1 rfl⟩
theorem ev_listL {l : List α} (ha : EvR K ta σ G l) : EvR K (tCB (fun xs H Q => ∃ p ys, xs = [.ref p] ∧ (SqL K H p ys ∨ SqT K H p ys) ∧ ∀ l, H l = none → Q (.ref l) (upd H l (.lst ys))) (tCons ta tNil)) σ G l := fun H e Q q =>
  ha H e _ fun v G1 H1 g1 ⟨a, xs, ev, hA, r⟩ => ⟨a, xs, by rw [ev], .inl (SqL.of (g1.s _ _ hA)), fun p hp => q _ _ _ (g1.trans (Grow.new g1.s hp)) ⟨p, xs, rfl, upd_same, r.up (same_upd (g1.s.free hp))⟩⟩
/-- methods of texts -/
theorem ev_m0 {f : Str → Str} {C : Str → Prop} {s : Str} (ha : EvR K ta σ G s) (hc : C s) : EvR K (tM0 (fun x xs H Q => ∃ a, x = .str a ∧ xs = [] ∧ C a ∧ Q (.str (f a)) H) ta) σ G (f s) := fun H e Q q =>
  ha H e _ fun v G1 H1 g1 r1 => ⟨⟨s, r1⟩, s, r1, rfl, hc, q _ G1 H1 g1 rfl⟩
theorem ev_lower {s : Str} (ha : EvR K ta σ G s) (hc : s.length ≤ 5592405) : EvR K (tM0 (fun x xs H Q => ∃ a, x = .str a ∧ xs = [] ∧ a.length ≤ 5592405 ∧ Q (.str (Txt.lower a)) H) ta) σ G (Txt.lower s) := ev_m0 (f := Txt.lower) (C := fun a => a.length ≤ 5592405) ha hc
theorem ev_upper {s : Str} (ha : EvR K ta σ G s) (hc : s.length ≤ 5592405) : EvR K (tM0 (fun x xs H Q => ∃ a, x = .str a ∧ xs = [] ∧ a.length ≤ 5592405 ∧ Q (.str (Txt.upper a)) H) ta) σ G (Txt.upper s) := ev_m0 (f := Txt.upper) (C := fun a => a.length ≤ 5592405) ha hc
theorem ev_split {s t : Str} (ha : EvR K ta σ G s) (hb : EvR K tb σ G t) (h1 : (t.length == 0) = false) (h2 : s.length + 2 ≤ sizeLine) :
    EvR K (tM1 (fun x xs H Q => ∃ a b, x = .str a ∧ xs = [.str b] ∧ (b.length == 0) = false ∧ a.length + 2 ≤ sizeLine ∧ rNewStrs (Txt.split a b) H Q) ta tb) σ G (Txt.split s t) := fun H e Q q =>
  ha H e _ fun v G1 H1 g1 r1 => ⟨⟨s, r1⟩, hb.mono g1.g H1 g1.s _ fun w G2 H2 g2 r2 => ⟨s, t, r1, by rw [show w = V.str t from r2], h1, h2, fun p hp =>
    q _ _ _ ((g1.trans g2).trans (Grow.new g2.s hp)) ⟨p, _, rfl, upd_same, reps_of_flat (Txt.split s t)⟩⟩⟩
theorem ev_join {s : Str} {l : List Str} (ha : EvR K ta σ G s) (hb : EvR K tb σ G l) (h : (l.map (·.length)).sum + l.length * s.length ≤ 16777216) :
    EvR K (tM1 (fun x xs H Q => ∃ a p, ∃ ys : List Str, x = .str a ∧ xs = [.ref p] ∧ (SqL K H p (ys.map V.str) ∨ SqT K H p (ys.map V.str)) ∧ (ys.map (·.length)).sum + ys.length * a.length ≤ 16777216 ∧ Q (.str (Txt.join a ys)) H) ta tb) σ G (Txt.join s l) := fun H e Q q =>
  ha H e _ fun v G1 H1 g1 r1 => ⟨⟨s, r1⟩, hb.mono g1.g H1 g1.s _ fun w G2 H2 g2 ⟨a, xs, ev, hA, r2⟩ => ⟨s, a, l, r1, by rw [ev], .inl (by
    have e := reps_flat r2
    subst e
    exact SqL.of (g2.s _ _ hA)), h, q _ G2 H2 (g1.trans g2) rfl⟩⟩
end

/-! ### what a def keeps -/
section
variable {α β γ δ ρ : Type} [Rep α] [Rep β] [Rep γ] [Rep δ] [Rep ρ]
def sp1 (K : PySem.W.Frag) (pre : α → Prop) (f : α → ρ) : Sp := fun vs H Q _ => ∃ x v G, vs = [v] ∧ Sub G H ∧ rep K x v G ∧ pre x ∧ ∀ u G' H', Grow G H G' H' → rep K (f x) u G' → Q u H'
def sp2 (K : PySem.W.Frag) (pre : α → β → Prop) (f : α → β → ρ) : Sp := fun vs H Q _ => ∃ x y v w G, vs = [v, w] ∧ Sub G H ∧ rep K x v G ∧ rep K y w G ∧ pre x y ∧ ∀ u G' H', Grow G H G' H' → rep K (f x y) u G' → Q u H'
def sp3 (K : PySem.W.Frag) (pre : α → β → γ → Prop) (f : α → β → γ → ρ) : Sp := fun vs H Q _ => ∃ x y z v w u G, vs = [v, w, u] ∧ Sub G H ∧ rep K x v G ∧ rep K y w G ∧ rep K z u G ∧ pre x y z ∧ ∀ r G' H', Grow G H G' H' → rep K (f x y z) r G' → Q r H'
def sp0 (K : PySem.W.Frag) (f : ρ) : Sp := fun vs H Q _ => vs = [] ∧ ∃ G, Sub G H ∧ ∀ u G' H', Grow G H G' H' → rep K f u G' → Q u H'
variable {K : PySem.W.Frag} {σ : L2.St} {G : Hp} {ta tb tc : TE} {E : XK}
theorem ev_call1 {x : α} {pre : α → Prop} {f : α → ρ} (ha : EvR K ta σ G x) (hp : pre x) : EvR K (tCall (sp1 K pre f) [] E (tCons ta tNil)) σ G (f x) := fun H e Q q =>
  ha H e _ fun v G1 H1 g1 r1 => ⟨x, v, G1, rfl, g1.s, r1, hp, fun u G2 H2 g2 r2 => q u G2 H2 (g1.trans g2) r2⟩
theorem ev_call2 {x : α} {y : β} {pre : α → β → Prop} {f : α → β → ρ} (ha : EvR K ta σ G x) (hb : EvR K tb σ G y) (hp : pre x y) : EvR K (tCall (sp2 K pre f) [] E (tCons ta (tCons tb tNil))) σ G (f x y) := fun H e Q q =>
  ha H e _ fun v G1 H1 g1 r1 => hb.mono g1.g H1 g1.s _ fun w G2 H2 g2 r2 => ⟨x, y, v, w, G2, rfl, g2.s, up g2.g r1, r2, hp, fun u G3 H3 g3 r3 => q u G3 H3 ((g1.trans g2).trans g3) r3⟩
theorem ev_call3 {x : α} {y : β} {z : γ} {pre : α → β → γ → Prop} {f : α → β → γ → ρ} (ha : EvR K ta σ G x) (hb : EvR K tb σ G y) (hc : EvR K tc σ G z) (hp : pre x y z) :
    EvR K (tCall (sp3 K pre f) [] E (tCons ta (tCons tb (tCons tc tNil)))) σ G (f x y z) := fun H e Q q =>
  ha H e _ fun v G1 H1 g1 r1 => hb.mono g1.g H1 g1.s _ fun w G2 H2 g2 r2 => hc.mono (g1.g.trans g2.g) H2 g2.s _ fun u G3 H3 g3 r3 =>
    ⟨x, y, z, v, w, u, G3, rfl, g3.s, up (g2.g.trans g3.g) r1, up g3.g r2, r3, hp, fun u G4 H4 g4 r4 => q u G4 H4 (((g1.trans g2).trans g3).trans g4) r4⟩
theorem ev_call0 {f : ρ} : EvR K (tCall (sp0 K f) [] E tNil) σ G f := fun H e Q q => ⟨rfl, G, e, fun u G' H' g r => q u G' H' g r⟩
end

/-! ### statements -/
section
variable {α β : Type} [Rep α] [Rep β] {K : PySem.W.Frag} {σ : L2.St} {G H : Hp} {te ta tl : TE} {tt : TT} {t u tb : TS} {D : Ends} {x : α} {b : Bool} {i j : Nat} {a : Addr}
theorem s_seq (h : t { D with nx := u D } σ H) : tSeq t u D σ H := h
theorem s_next (h : D.nx σ H) : tNext D σ H := h
theorem s_asg (e : Sub G H) (h : EvR K te σ G x) (k : ∀ v G' H', Grow G H G' H' → rep K x v G' → D.nx (σ.set i (some v)) H') : tAsg te (gName i) D σ H := h H e _ k
theorem s_drop (e : Sub G H) (h : EvR K te σ G x) (k : ∀ G' H', Grow G H G' H' → D.nx σ H') : tDrop te D σ H := h H e _ fun _ G' H' g _ => k G' H' g
theorem s_ret (e : Sub G H) (h : EvR K te σ G x) (k : ∀ v G' H', Grow G H G' H' → rep K x v G' → D.rt v H') : tRet te D σ H := h H e _ k
theorem s_if (e : Sub G H) (h : EvB tt σ G b) (k1 : b = true → ∀ G' H', Grow G H G' H' → t D σ H') (k2 : b = false → ∀ G' H', Grow G H G' H' → u D σ H') : tIfS tt t u D σ H := h H e _ fun G' H' g => by
  cases b with
  | true => exact iteT (k1 rfl G' H' g)
  | false => exact iteF (k2 rfl G' H' g)
/-- a new list that is still to be filled -/
theorem s_new (k : ∀ p, H p = none → D.nx (σ.set i (some (.ref p))) (upd H p (.lst []))) : tAsg (tLst tNil) (gName i) D σ H := ⟨Nat.zero_le _, fun p hp => k p hp⟩
theorem s_app {xs : List V} (e : Sub G H) (hi : σ[i]? = some (some (.ref a))) (ha : H a = some (.lst xs)) (hz : xs.length < sizeLine) (h : EvR K te σ G x)
    (k : ∀ v G' H', Grow G H G' H' → rep K x v G' → D.nx σ (upd H' a (.lst (xs ++ [v])))) : tDrop (tBM K "list" rAppend (tVar i) (tCons te tNil)) D σ H :=
  ⟨.ref a, hi, .inl ⟨rfl, xs, SqL.of ha⟩, h H e _ fun v G' H' g r => ⟨a, xs, v, rfl, rfl, g.h.l ha, hz, k v G' H' g r⟩⟩
/-- the same, told of the def's entry -/
theorem s_newF {Ge He : Hp} (gr : Grow Ge He G H) (k : ∀ p H2, He p = none → G p = none → H p = none → H2 p = some (.lst []) → Grow Ge He G H2 → Kept H H2 → D.nx (σ.set i (some (.ref p))) H2) : tAsg (tLst tNil) (gName i) D σ H :=
  s_new fun p hp => k p _ (gr.h.free hp) (gr.s.free hp) hp upd_same (gr.loose hp) (kept_upd hp)
theorem s_appF {Ge He : Hp} {xs : List V} {l : List α} (gr : Grow Ge He G H) (hF : He a = none) (hN : G a = none) (hi : σ[i]? = some (some (.ref a))) (ha : H a = some (.lst xs)) (hl : Reps K l xs G) (hz : l.length < sizeLine) (h : EvR K te σ G x)
    (k : ∀ G' H' H2 zs, Grow G H G' H' → Grow Ge He G' H2 → G' a = none → H2 a = some (.lst zs) → Reps K (l ++ [x]) zs G' → (∀ b, b ≠ a → H2 b = H' b) → D.nx σ H2) : tDrop (tBM K "list" rAppend (tVar i) (tCons te tNil)) D σ H :=
  s_app gr.s hi ha (by rw [← paired_len hl]; exact hz) h fun v G' H' g r => k G' H' _ _ g ((gr.trans g).mut hF (g.f _ _ ha hN) (lst_no (g.h.l ha))) (g.f _ _ ha hN) upd_same (paired_append (hl.up g.g) (.cons r .nil)) fun b hb => upd_ne hb
omit [Tb] [Fz] in
theorem fix_rep {zs : List V} {l : List α} (r : Reps K l zs G) (n : G a = none) : rep K l (V.ref a) (upd G a (.lst zs)) := ⟨a, zs, rfl, upd_same, Reps.up (same_upd n) r⟩
/-- loops -/
theorem s_forL {l : List α} {g : TG} (e : Sub G H) (h : EvR K tl σ G l) (k : ∀ G1 H1 xs, Grow G H G1 H1 → Reps K l xs G1 → ∃ Pv : Nat → L2.St → Hp → Prop, Pv 0 σ H1 ∧ (∀ i σ' H', Pv i σ' H' → Sub G1 H') ∧
    (∀ i x v σ' H', l[i]? = some x → rep K x v G1 → Pv i σ' H' → g v σ' H' fun σ2 H2 => tb { D with nx := Pv (i + 1), ct := Pv (i + 1), bk := D.nx } σ2 H2) ∧ ∀ σ' H', Pv l.length σ' H' → D.nx σ' H') : tFor (iList K tl) g tb D σ H :=
  h H e _ fun v G1 H1 g1 ⟨a, xs, ev, hA, r⟩ => by
    obtain ⟨Pv, p0, ps, pt, pe⟩ := k G1 H1 xs g1 r
    refine ⟨a, ev, ⟨xs, SqL.of (g1.s _ _ hA)⟩, for_list (K := K) (a := a) (xs := xs) Pv p0 (fun i σ' H' _ p => SqL.of (ps i σ' H' p _ _ hA)) (fun i v σ' H' hi p => ?_) fun σ' H' p => pe σ' H' (by rw [paired_len r]; exact p)⟩
    obtain ⟨x, hx, rx⟩ := paired_get r hi
    exact pt i x v σ' H' hx rx p
theorem s_forT {l : Tpl α} {g : TG} (e : Sub G H) (h : EvR K tl σ G l) (k : ∀ G1 H1 xs, Grow G H G1 H1 → Reps K l.l xs G1 → ∃ Pv : Nat → L2.St → Hp → Prop, Pv 0 σ H1 ∧ (∀ i σ' H', Pv i σ' H' → Sub G1 H') ∧
    (∀ i x v σ' H', l.l[i]? = some x → rep K x v G1 → Pv i σ' H' → g v σ' H' fun σ2 H2 => tb { D with nx := Pv (i + 1), ct := Pv (i + 1), bk := D.nx } σ2 H2) ∧ ∀ σ' H', Pv l.l.length σ' H' → D.nx σ' H') : tFor (iTup K tl) g tb D σ H :=
  h H e _ fun v G1 H1 g1 ⟨a, xs, ev, hA, r⟩ => by
    obtain ⟨Pv, p0, ps, pt, pe⟩ := k G1 H1 xs g1 r
    refine ⟨a, ev, ⟨xs, sqT_mono g1.s.get hA⟩, for_tup (K := K) (a := a) (xs := xs) Pv p0 (fun i σ' H' _ p => sqT_mono (ps i σ' H' p).get hA) (fun i v σ' H' hi p => ?_) fun σ' H' p => pe σ' H' (by rw [paired_len r]; exact p)⟩
    obtain ⟨x, hx, rx⟩ := paired_get r hi
    exact pt i x v σ' H' hx rx p
theorem s_forR1 {n : Int} (e : Sub G H) (h : EvR K te σ G n) (hn : -(2 ^ 62) ≤ n ∧ n < 2 ^ 62) (k : ∀ G1 H1, Grow G H G1 H1 → ∃ Pv : Nat → L2.St → Hp → Prop, Pv 0 σ H1 ∧
    (∀ (i : Nat) σ' H', (i : Int) < n → Pv i σ' H' → tb { D with nx := Pv (i + 1), ct := Pv (i + 1), bk := D.nx } (σ'.set j (some (.int (i : Int)))) H') ∧ ∀ σ' H', Pv n.toNat σ' H' → D.nx σ' H') : tFor (iRng1 (tCons te tNil)) (gName j) tb D σ H :=
  h H e _ fun v G1 H1 g1 r => by
    obtain ⟨Pv, p0, pt, pe⟩ := k G1 H1 g1
    refine ⟨n, by rw [show v = V.int n from r], hn.1, hn.2, for_range (lo := 0) (n := n.toNat) Pv p0 (fun i σ' H' hi p => ?_) pe⟩
    show tb _ (σ'.set j (some (.int (0 + (i : Int))))) H'
    rw [Int.zero_add]
    exact pt i σ' H' (by omega) p
theorem s_forR2 {m n : Int} (e : Sub G H) (h : EvR K ta σ G m) (h2 : EvR K te σ G n) (hn : -(2 ^ 62) ≤ m ∧ m < 2 ^ 62 ∧ -(2 ^ 62) ≤ n ∧ n < 2 ^ 62) (k : ∀ G1 H1, Grow G H G1 H1 → ∃ Pv : Nat → L2.St → Hp → Prop, Pv 0 σ H1 ∧
    (∀ (i : Nat) σ' H', m + (i : Int) < n → Pv i σ' H' → tb { D with nx := Pv (i + 1), ct := Pv (i + 1), bk := D.nx } (σ'.set j (some (.int (m + (i : Int))))) H') ∧ ∀ σ' H', Pv (n - m).toNat σ' H' → D.nx σ' H') : tFor (iRng2 (tCons ta (tCons te tNil))) (gName j) tb D σ H :=
  h H e _ fun v G1 H1 g1 r => (h2.mono g1.g) H1 g1.s _ fun v2 G2 H2 g2 r2 => by
    obtain ⟨Pv, p0, pt, pe⟩ := k G2 H2 (g1.trans g2)
    refine ⟨m, n, by rw [show v = V.int m from r, show v2 = V.int n from r2], hn, for_range (lo := m) (n := (n - m).toNat) Pv p0 (fun i σ' H' hi p => pt i σ' H' (by omega) p) pe⟩
end

/-! ### comprehensions -/
section
variable {α β : Type} [Rep α] [Rep β] {K : PySem.W.Frag} {σ : L2.St} {G H : Hp} {te tl ta : TE} {tt : TT} {j : Nat} {vs : List Nat}
/-- the list at Dl while it is filled -/
def Lc (K : PySem.W.Frag) (G1 H1 : Hp) (Dl : Addr) (ys : List β) (H' : Hp) : Prop := ∃ G' zs, Grow G1 H1 G' H' ∧ G' Dl = none ∧ H' Dl = some (.lst zs) ∧ Reps K ys zs G'
theorem lc_start {G1 H1 : Hp} {Dl : Addr} (s : Sub G1 H1) (h : H1 Dl = none) : Lc (β := β) K G1 H1 Dl [] (upd H1 Dl (.lst [])) := ⟨G1, [], (Grow.refl s).loose h, s.free h, upd_same, .nil⟩
theorem lc_end {G1 H1 H' : Hp} {Dl : Addr} {ys : List β} (h : H1 Dl = none) (p : Lc K G1 H1 Dl ys H') : ∃ G', Grow G1 H1 G' H' ∧ rep K ys (V.ref Dl) G' := by
  obtain ⟨G', zs, g, n, e, r⟩ := p
  exact ⟨upd G' Dl (.lst zs), g.fix h n e, Dl, zs, rfl, upd_same, r.up (same_upd n)⟩
theorem lc_turn {G1 H1 H' : Hp} {Dl : Addr} {ys : List β} {σ2 : L2.St} {b : Bool} {y : β} (h : H1 Dl = none) (p : Lc K G1 H1 Dl ys H') (hl : ys.length < sizeLine) (ht : EvB tt σ2 G1 b) (he : b = true → EvR K te σ2 G1 y) {N : Hp → Prop}
    (hN : ∀ H2, Lc K G1 H1 Dl (cond b (ys ++ [y]) ys) H2 → N H2) :
    tt σ2 H' fun b H3 => if b = true then te σ2 H3 fun y H4 => ∃ acc, H4 Dl = some (.lst acc) ∧ acc.length < sizeLine ∧ N (upd H4 Dl (.lst (acc ++ [y]))) else N H3 := by
  obtain ⟨G', zs, g, n, e, r⟩ := p
  refine ht.mono g.g H' g.s _ fun G3 H3 g3 => ?_
  have g13 := g.trans g3
  have n3 : G3 Dl = none := g3.f _ _ e n
  cases b with
  | true =>
    refine iteT ?_
    refine (he rfl).mono g13.g H3 g13.s _ fun v G4 H4 g4 r4 => ?_
    have e4 := g4.h.l (g3.h.l e)
    have n4 : G4 Dl = none := g4.f _ _ (g3.h.l e) n3
    exact ⟨zs, e4, by rw [← paired_len r]; exact hl, hN _ ⟨G4, zs ++ [v], (g13.trans g4).mut h n4 (lst_no e4), n4, upd_same, paired_append (r.up (g3.g.trans g4.g)) (.cons r4 .nil)⟩⟩
  | false =>
    refine iteF (hN _ ⟨G3, zs, g13, n3, g3.h.l e, r.up g3.g⟩)
omit [Tb] [Fz] in
theorem take_snoc {α : Type} {l : List α} {i : Nat} {x : α} (h : l[i]? = some x) : l.take (i + 1) = l.take i ++ [x] := by
  rw [List.take_add_one, h]
  rfl
omit [Tb] [Fz] in
theorem filt_snoc {α β : Type} (f : α → Bool) (g : α → β) (l : List α) (x : α) : ((l ++ [x]).filter f).map g = cond (f x) ((l.filter f).map g ++ [g x]) ((l.filter f).map g) := by
  rw [List.filter_append, List.map_append]
  cases h : f x with
  | true => simp [h]
  | false => simp [h]
theorem ev_lcL {l : List α} {g : TG} (f : α → Bool) (h : α → β) (hl : EvR K tl σ G l) (hz : l.length < sizeLine)
    (ht : ∀ x v G' H', Same G G' → Sub G' H' → x ∈ l → rep K x v G' → ∀ (P : L2.St → Hp → Prop), (∀ σ2, wipe σ2 vs = wipe σ vs → EvB tt σ2 G' (f x) → (f x = true → EvR K te σ2 G' (h x)) → P σ2 H') → g v (wipe σ vs) H' P) :
    EvR K (tLc (iList K tl) g tt te vs) σ G ((l.filter f).map h) := fun H e Q q =>
  hl H e _ fun v G1 H1 g1 ⟨a, xs, ev, hA, r⟩ => ⟨a, ev, ⟨xs, SqL.of (g1.s _ _ hA)⟩, fun Dl hD =>
    lc_list (K := K) (a := a) (xs := xs) (fun i H' => Lc K G1 H1 Dl (((l.take i).filter f).map h) H') (lc_start g1.s hD) (fun i H' _ ⟨G', zs, g, _, _, _⟩ => SqL.of (g.s _ _ (g.g _ _ hA))) (fun i v H' hi p => by
      obtain ⟨x, hx, rx⟩ := paired_get r hi
      obtain ⟨G', zs, g', n', e', r'⟩ := id p
      refine ht x v G1 H' g1.g (un g'.g g'.s) (List.mem_of_getElem? hx) rx _ fun σ2 hw hb he => ⟨hw, ?_⟩
      refine lc_turn hD p ?_ hb he fun H2 p2 => ?_
      · rw [List.length_map]
        exact Nat.lt_of_le_of_lt (Nat.le_trans (List.length_filter_le _ _) (by rw [List.length_take]; exact Nat.min_le_right _ _)) hz
      · rw [take_snoc hx, filt_snoc]
        exact p2) fun H' p => by
      obtain ⟨G', g', r'⟩ := lc_end hD p
      refine q _ G' H' (g1.trans g') ?_
      rw [show l = l.take xs.length by rw [← paired_len r, List.take_length]]
      exact r'⟩
theorem ev_lcT {l : Tpl α} {g : TG} (f : α → Bool) (h : α → β) (hl : EvR K tl σ G l) (hz : l.l.length < sizeLine)
    (ht : ∀ x v G' H', Same G G' → Sub G' H' → x ∈ l.l → rep K x v G' → ∀ (P : L2.St → Hp → Prop), (∀ σ2, wipe σ2 vs = wipe σ vs → EvB tt σ2 G' (f x) → (f x = true → EvR K te σ2 G' (h x)) → P σ2 H') → g v (wipe σ vs) H' P) :
    EvR K (tLc (iTup K tl) g tt te vs) σ G ((l.l.filter f).map h) := fun H e Q q =>
  hl H e _ fun v G1 H1 g1 ⟨a, xs, ev, hA, r⟩ => ⟨a, ev, ⟨xs, sqT_mono g1.s.get hA⟩, fun Dl hD =>
    lc_tup (K := K) (a := a) (xs := xs) (fun i H' => Lc K G1 H1 Dl (((l.l.take i).filter f).map h) H') (lc_start g1.s hD) (fun i H' _ ⟨G', zs, g, _, _, _⟩ => sqT_mono (un g.g g.s).get hA) (fun i v H' hi p => by
      obtain ⟨x, hx, rx⟩ := paired_get r hi
      obtain ⟨G', zs, g', n', e', r'⟩ := id p
      refine ht x v G1 H' g1.g (un g'.g g'.s) (List.mem_of_getElem? hx) rx _ fun σ2 hw hb he => ⟨hw, ?_⟩
      refine lc_turn hD p ?_ hb he fun H2 p2 => ?_
      · rw [List.length_map]
        exact Nat.lt_of_le_of_lt (Nat.le_trans (List.length_filter_le _ _) (by rw [List.length_take]; exact Nat.min_le_right _ _)) hz
      · rw [take_snoc hx, filt_snoc]
        exact p2) fun H' p => by
      obtain ⟨G', g', r'⟩ := lc_end hD p
      refine q _ G' H' (g1.trans g') ?_
      rw [show l.l = l.l.take xs.length by rw [← paired_len r, List.take_length]]
      exact r'⟩
/-- the ints of range(n), of range(m, n) -/
def rgs (m n : Int) : List Int := (List.range (n - m).toNat).map fun (i : Nat) => m + (i : Int)
omit [Tb] [Fz] in
theorem rgs_snoc (m : Int) (i : Nat) : ((List.range (i + 1)).map fun (i : Nat) => m + (i : Int)) = ((List.range i).map fun (i : Nat) => m + (i : Int)) ++ [m + (i : Int)] := by
  rw [List.range_succ, List.map_append]
  rfl
omit [Tb] [Fz] in
theorem mem_rgs {m n x : Int} : x ∈ rgs m n ↔ m ≤ x ∧ x < n := by
  unfold rgs
  rw [List.mem_map]
  constructor
  · rintro ⟨i, hi, rfl⟩
    have := List.mem_range.mp hi
    omega
  · intro h
    exact ⟨(x - m).toNat, List.mem_range.mpr (by omega), by omega⟩
theorem lc_rgs {G1 H1 : Hp} {σ : L2.St} {g : TG} {Dl : Addr} {m n : Int} (f : Int → Bool) (h : Int → β) (hs : Sub G1 H1) (hD : H1 Dl = none) (hz : (n - m).toNat < sizeLine) {Qd : Hp → Prop}
    (ht : ∀ x H', m ≤ x → x < n → Sub G1 H' → ∀ (P : L2.St → Hp → Prop), (∀ σ2, wipe σ2 vs = wipe σ vs → EvB tt σ2 G1 (f x) → (f x = true → EvR K te σ2 G1 (h x)) → P σ2 H') → g (.int x) (wipe σ vs) H' P)
    (hd : ∀ G' H', Grow G1 H1 G' H' → rep K (((rgs m n).filter f).map h) (V.ref Dl) G' → Qd H') :
    ∃ W : Nat → Nat → Hp → Prop, (∃ m, W 0 m (upd H1 Dl (.lst []))) ∧ ∀ i k H, W i k H →
      ((Itr m (n - m).toNat).stop i H ∧ Qd H) ∨ ((Itr m (n - m).toNat).go i H ∧ ∃ Nx : Hp → Prop, (∀ H', Nx H' → ∃ m', m' < k ∧ W (i + 1) m' H') ∧ ∀ x H', (Itr m (n - m).toNat).yld i H x H' → g x (wipe σ vs) H' fun σ2 H2 => wipe σ2 vs = wipe σ vs ∧ tt σ2 H2 fun b H3 =>
        if b = true then te σ2 H3 fun y H4 => ∃ acc, H4 Dl = some (.lst acc) ∧ acc.length < sizeLine ∧ Nx (upd H4 Dl (.lst (acc ++ [y]))) else Nx H3) :=
  lc_range (lo := m) (n := (n - m).toNat) (fun i H' => Lc K G1 H1 Dl ((((List.range i).map fun (i : Nat) => m + (i : Int)).filter f).map h) H') (lc_start hs hD) (fun i H' hi p => by
      obtain ⟨G', zs, g', n', e', r'⟩ := id p
      refine ht (m + (i : Int)) H' (by omega) (by omega) (un g'.g g'.s) _ fun σ2 hw hb he => ⟨hw, ?_⟩
      refine lc_turn hD p ?_ hb he fun H2 p2 => ?_
      · rw [List.length_map]
        exact Nat.lt_of_le_of_lt (Nat.le_trans (List.length_filter_le _ _) (by rw [List.length_map, List.length_range]; omega)) hz
      · rw [rgs_snoc, filt_snoc]
        exact p2) fun H' p => by
      obtain ⟨G', g', r'⟩ := lc_end hD p
      exact hd G' H' g' r'
theorem ev_lcR1 {n : Int} {g : TG} (f : Int → Bool) (h : Int → β) (hl : EvR K te σ G n) (hn : n < 16777216 ∧ -16777216 < n) {tf : TE}
    (ht : ∀ x G' H', 0 ≤ x → x < n → Same G G' → Sub G' H' → ∀ (P : L2.St → Hp → Prop), (∀ σ2, wipe σ2 vs = wipe σ vs → EvB tt σ2 G' (f x) → (f x = true → EvR K tf σ2 G' (h x)) → P σ2 H') → g (.int x) (wipe σ vs) H' P) :
    EvR K (tLc (iRng1 (tCons te tNil)) g tt tf vs) σ G (((rgs 0 n).filter f).map h) := fun H e Q q =>
  hl H e _ fun v G1 H1 g1 r => ⟨n, by rw [show v = V.int n from r], by omega, by omega, fun Dl hD => by
    have hh := lc_rgs (K := K) (tt := tt) (te := tf) (vs := vs) (σ := σ) (g := g) (m := 0) (n := n) f h g1.s hD (by rw [sizeLine_eq]; omega) (Qd := fun H' => Q (.ref Dl) H') (fun x H' h1 h2 s P k => ht x G1 H' h1 h2 g1.g s P k) (fun G' H' g' r' => q _ G' H' (g1.trans g') r')
    rw [Int.sub_zero] at hh
    exact hh⟩
theorem ev_lcR2 {m n : Int} {g : TG} (f : Int → Bool) (h : Int → β) (hl : EvR K ta σ G m) (hh : EvR K te σ G n) (hn : -16777216 < m ∧ m < 16777216 ∧ n < 16777216 ∧ -16777216 < n ∧ n - m < 16777216) {tf : TE}
    (ht : ∀ x G' H', m ≤ x → x < n → Same G G' → Sub G' H' → ∀ (P : L2.St → Hp → Prop), (∀ σ2, wipe σ2 vs = wipe σ vs → EvB tt σ2 G' (f x) → (f x = true → EvR K tf σ2 G' (h x)) → P σ2 H') → g (.int x) (wipe σ vs) H' P) :
    EvR K (tLc (iRng2 (tCons ta (tCons te tNil))) g tt tf vs) σ G (((rgs m n).filter f).map h) := fun H e Q q =>
  hl H e _ fun v G1 H1 g1 r => hh.mono g1.g H1 g1.s _ fun v2 G2 H2 g2 r2 => ⟨m, n, by rw [show v = V.int m from r, show v2 = V.int n from r2], by omega, fun Dl hD =>
    lc_rgs (K := K) (tt := tt) (te := tf) (vs := vs) (σ := σ) (g := g) (m := m) (n := n) f h g2.s hD (by rw [sizeLine_eq]; omega) (Qd := fun H' => Q (.ref Dl) H') (fun x H' h1 h2 s P k => ht x G2 H' h1 h2 (g1.g.trans g2.g) s P k) (fun G' H' g' r' => q _ G' H' ((g1.trans g2).trans g') r')⟩
theorem eb_yes : EvB tYes σ G true := fun H e Q q => q G H (Grow.refl e)
end
end RL

set_option Elab.async false
set_option linter.all false
set_option maxRecDepth 100000
set_option maxHeartbeats 4000000
namespace RL
open PySem PySem.Spec PyProof.Rows L2
open Rep (rep)
/-! ### set(l), l a list of texts, of any length below the scan's bound; its size -/
/-- each text once -/
def once : List Str → List Str
  | [] => []
  | x :: l => if x ∈ l then once l else x :: once l
theorem once_mem {y : Str} : ∀ {l : List Str}, y ∈ once l ↔ y ∈ l
  | [] => Iff.rfl
  | x :: l => by
    unfold once
    by_cases h : x ∈ l
    · rw [if_pos h, once_mem (l := l), List.mem_cons]
      exact ⟨.inr, fun e => e.elim (fun q => q ▸ h) id⟩
    · rw [if_neg h, List.mem_cons, List.mem_cons, once_mem (l := l)]
theorem once_le : ∀ l : List Str, (once l).length ≤ l.length
  | [] => Nat.le_refl _
  | x :: l => by
    unfold once
    have := once_le l
    by_cases h : x ∈ l
    · rw [if_pos h, List.length_cons]; omega
    · rw [if_neg h, List.length_cons, List.length_cons]; omega
theorem once_lt : ∀ {l : List Str}, (once l).length < l.length ↔ ¬ l.Nodup
  | [] => by simp [once]
  | x :: l => by
    unfold once
    have h0 := once_le l
    rw [List.nodup_cons]
    by_cases h : x ∈ l
    · rw [if_pos h, List.length_cons]
      exact ⟨fun _ q => q.1 h, fun _ => by omega⟩
    · rw [if_neg h, List.length_cons, List.length_cons]
      have ih := once_lt (l := l)
      constructor
      · intro q r
        exact ih.mp (by omega) r.2
      · intro q
        have : ¬ l.Nodup := fun r => q ⟨h, r⟩
        have := ih.mpr this
        omega
/-- read from the left: the count behind i items -/
def onceN (l : List Str) (i : Nat) : Nat := (once (l.take i).reverse).length
theorem onceN_zero (l : List Str) : onceN l 0 = 0 := by simp [onceN, once]
theorem onceN_succ {l : List Str} {i : Nat} {x : Str} (h : l[i]? = some x) : onceN l (i + 1) = if decide (x ∈ l.take i) = true then onceN l i else onceN l i + 1 := by
  unfold onceN
  rw [take_snoc h, List.reverse_append, List.reverse_cons, List.reverse_nil, List.nil_append, List.singleton_append]
  by_cases q : x ∈ l.take i
  · rw [if_pos (decide_eq_true q)]
    show (if x ∈ (l.take i).reverse then _ else _ : List Str).length = _
    rw [if_pos (List.mem_reverse.mpr q)]
  · rw [if_neg (by simpa using q)]
    show (if x ∈ (l.take i).reverse then _ else _ : List Str).length = _
    rw [if_neg (fun z => q (List.mem_reverse.mp z))]
    rfl
theorem onceN_le (l : List Str) (i : Nat) : onceN l i ≤ i := by
  have h := once_le (l.take i).reverse
  rw [List.length_reverse, List.length_take] at h
  unfold onceN
  omega
theorem onceN_all {l : List Str} : onceN l l.length < l.length ↔ ¬ l.Nodup := by
  unfold onceN
  rw [List.take_length]
  have h := once_lt (l := l.reverse)
  rw [List.length_reverse] at h
  have e : l.reverse.Nodup ↔ l.Nodup := by
    unfold List.Nodup
    rw [List.pairwise_reverse]
    exact ⟨fun q => q.imp fun z => Ne.symm z, fun q => q.imp fun z => Ne.symm z⟩
  rw [e] at h
  exact h
section
variable {prog : Program} {w : World} {A : Around} {R : Result → Shared → Prop} {it : Addr} {seen made : List Addr} {G : Array GenState → Array GenState → Prop} {n : Nat} {P : Nat → Value → Prop} {St : Nat → Shared → Prop}
theorem set_at {h h' : Heap} {a : Addr} {S : Str → Bool} {c : Nat} (q : h.SetOf (PySem.strKind prog w) a S c) (k : ∀ o, h.get? a = some o → h'.get? a = some o) : h'.SetOf (PySem.strKind prog w) a S c := by
  obtain ⟨o, es, ep, t, ho, r⟩ := q
  exact ⟨o, es, ep, t, k o ho, r⟩
/-- the loop that puts the texts in, from the i-th on -/
theorem set_fill (W : WalksS prog w A.in1 it seen made G n P St) (b : Addr) (hb : b ∉ seen) (l : List Str) (hn : l.length = n) (room : n + 1 < scanBound) (val : ∀ i v, P i v → ∃ x t, l[i]? = some x ∧ v = .str x t) (m : Nat) : ∀ (i : Nat) (s : Shared), n - i = m → i ≤ n → St i s →
      s.heap.SetOf (PySem.strKind prog w) b (fun y => decide (y ∈ l.take i)) (onceN l i) →
      (∀ s', Moved (b :: made) G s s' → s'.heap.SetOf (PySem.strKind prog w) b (fun y => decide (y ∈ l.take n)) (onceN l n) → R (.ok (.ret .none)) s') →
      codeAny (model prog w) A (.builtin "set.update.loop" ⟨[.ref b, .ref it], []⟩) R s := by
  have b_made : b ∉ made := fun z => hb (W.sub _ z)
  have more : ∀ c ∈ made, c ∈ b :: made := fun _ z => .tail _ z
  induction m with
  | zero =>
    intro i s em hi st hset fin
    obtain rfl : i = n := by omega
    refine codeAny_builtin F.entry_set_update_loop ?_; rw [Around.under_plainId F.plain_set_update_loop _]
    show wpAny _ A.in1 (pyNext (.ref it) >>= _) _ _ s; refine wpAny_bind (W.done s _ _ st fun s1 mv => ?_)
    show wpAny _ A.in1 (ret Value.none) _ _ s1; exact wpAny_pure (fin s1 (mv.mono more) (set_at hset fun o e => mv.heap b o b_made e))
  | succ m ih =>
    intro i s em hi st hset fin
    have lt : i < n := by omega
    refine codeAny_builtin F.entry_set_update_loop ?_; rw [Around.under_plainId F.plain_set_update_loop _]
    show wpAny _ A.in1 (pyNext (.ref it) >>= _) _ _ s; refine wpAny_bind (W.item i s _ _ lt st fun v s1 pv st1 mv => ?_)
    obtain ⟨x, t, hx, rfl⟩ := val i v pv
    have hset1 := set_at hset fun o e => mv.heap b o b_made e
    show wpAny _ A.in1 (holding [Value.str x t] (setAdd b (.str x t)) >>= _) _ _ s1
    refine wpAny_bind (wpAny_holding ?_); unfold setAdd; refine wpAny_holding (wpAny_bind ((PySem.strKind prog w).pyHash (k := x) (strKind_is _ _ _ _) ?_))
    have le := onceN_le l i
    refine wpAny_setAddHashed_of (knd := PySem.strKind prog w) (s := { s1 with toks := s1.toks + 1 }) (strKind_is _ _ _ _) rfl hset1 (by omega) fun h2 only hset2 => ?_
    have hset3 : h2.SetOf (PySem.strKind prog w) b (fun y => decide (y ∈ l.take (i + 1))) (onceN l (i + 1)) := by
      rw [onceN_succ hx]
      refine PyProof.Rows.SetOf_congr hset2 (fun y => ?_) rfl
      rw [take_snoc hx]
      by_cases e : y = x
      · simp [e]
      · simp [e]
    refine wpAny_pure ⟨plainId_quiet F.plain_set_update_loop _, ih (i + 1) _ (by omega) lt (W.frame _ s1 _ _ st1 (Nat.le_succ _) fun c hc o e => (only.2 c (fun z : c = b => hb (z ▸ hc))).trans e) hset3 fun s3 mv3 hset4 => ?_⟩
    exact fin s3 (Moved.trans W.gtrans ((mv.mono more).then_heap (Nat.le_succ _) fun c o hc e => (only.2 c (fun z : c = b => hc (z ▸ List.mem_cons_self))).trans e) mv3) hset4
end
section
variable {prog : Program} {w : World} {A : Around} {E : Value → Shared → Prop} {s : Shared}
set_option maxHeartbeats 3200000 in
theorem call_set_texts {l : Addr} {items : Array Value} {xs : List Str} {Q : Value → Shared → Prop} (calm : A.handled = none) (hl : s.heap.IsList l items) (hi : StrsAre items.toList xs) (room : xs.length + 1 < scanBound)
    (fin : ∀ (h' : Heap) (tk : Nat), h'.SetOf (PySem.strKind prog w) s.heap.objs.size (fun y => decide (y ∈ xs)) (onceN xs xs.length) → (∀ b o, b < s.heap.objs.size → s.heap.get? b = some o → h'.get? b = some o) →
      Q (.ref s.heap.objs.size) { s with heap := h', toks := tk }) : wpAny (model prog w) A (call (.type "set") [.ref l]) Q E s := by
  have size : xs.length = items.size := by rw [← PyProof.Rows.StrsAre.len_eq hi, Array.length_toList]
  obtain ⟨c, tl, hmro⟩ := PySem.F.called_set.mro; have hmade := PySem.F.called_set.made; have hsub := PySem.F.called_set.sub
  refine wpAny_call (codeAny_of_tree ?_); show wpAny _ _ (callAny (.type "set") _) _ _ _
  refine wpAny_pure ⟨Code.quiet_builtin _ (by decide +kernel), codeAny_builtin PySem.F.entry_type_call ?_⟩; rw [Around.under_plain (weight_type_call_type "set" [.ref l] []) rfl]
  have k1 := PySem.F.called_set.notType; have k2 := PySem.F.called_set.canCreate; have k3 := PySem.F.typeCall_set_1 (.ref l)
  repeat (any_goals (first | assumption | wp_step))
  obtain ⟨o0, e0⟩ : ∃ o0 : Bool → Obj, o0 = fun led => { cls := .type "set", dict := none, data := .set #[] 0 (.fresh 0 0 led) } := ⟨_, rfl⟩
  refine codeAny_mono (code_set_new_1 (.ref l) (E := E) (Q₁ := fun v s1 => ∃ led : Bool, v = .ref s.heap.objs.size ∧ s1 = { s with heap := s.heap.push { cls := .type "set", dict := none, data := .set #[] 0 (.fresh 0 0 led) } }) fun led => ⟨led, rfl, rfl⟩) fun r s1 hr => ?_
  cases r with
  | error e => exact hr
  | ok fl =>
    cases fl with
    | ret v =>
      obtain ⟨led, rfl, rfl⟩ := hr
      have hnew : (s.heap.push { cls := .type "set", dict := none, data := .set #[] 0 (.fresh 0 0 led) }).get? s.heap.objs.size = some { cls := .type "set", dict := none, data := .set #[] 0 (.fresh 0 0 led) } := Heap.get?_push_size _ rfl
      have hty : Shared.TypeIs { s with heap := s.heap.push { cls := .type "set", dict := none, data := .set #[] 0 (.fresh 0 0 led) } } (.ref s.heap.objs.size) "set" := ⟨_, hnew, rfl⟩
      have k4 := PySem.F.called_set.init.lookup; have k5 := PySem.F.called_set.init.bind (.ref s.heap.objs.size)
      repeat (any_goals (first | assumption | wp_step))
      refine codeAny_mono (codeAny_call_builtin (R := wants (fun r s2 => r = .none ∧ ∃ h' tk, s2 = { s with heap := h', toks := tk } ∧ h'.SetOf (PySem.strKind prog w) s.heap.objs.size (fun y => decide (y ∈ xs)) (onceN xs xs.length) ∧
          (∀ b o, b < s.heap.objs.size → s.heap.get? b = some o → h'.get? b = some o)) E) PySem.F.called_set.init.plain PySem.F.entry_set_init (check_set_init_1 hty ?_)) fun r2 s2 hr2 => ?_
      · obtain ⟨⟨oc, od, oda, osl⟩, ho, hc, nl, hd⟩ := hl
        simp only at hc hd; subst hc hd
        have ho2 : (s.heap.push { cls := .type "set", dict := none, data := .set #[] 0 (.fresh 0 0 led) }).get? l = some { cls := .type "list", dict := od, data := .seq items nl, slots := osl } := Heap.get?_push_of_some _ ho
        have k6 := PySem.F.sub_list_set; have k7 := PySem.F.sub_list_frozenset; have k8 : (Value.type "list" == Value.type "dict") = false := by decide
        have hl2 : (s.heap.push { cls := .type "set", dict := none, data := .set #[] 0 (.fresh 0 0 led) }).IsList l items := ⟨_, ho2, rfl, nl, rfl⟩
        unfold Builtin.«set.__init__» noKeywords Builtin.Frozenset.updateFrom; generalize hpi : pyIter = PI; wp_walk; subst hpi
        refine wpAny_pyIter_list hl2 (wpAny_bind (wpAny_runValue ?_))
        have hlt : l < s.heap.objs.size := Heap.lt_size ho
        have h3 : A.in1.in1.in1.handled = none := by simp [calm]
        have n1 : l ≠ (s.heap.push { cls := .type "set", dict := none, data := .set #[] 0 (.fresh 0 0 led) }).objs.size := by rw [Heap.size_push]; exact Nat.ne_of_lt (Nat.lt_succ_of_lt hlt)
        have n2 : s.heap.objs.size ∉ [(s.heap.push { cls := .type "set", dict := none, data := .set #[] 0 (.fresh 0 0 led) }).objs.size, l] := by
          rw [Heap.size_push]; simp only [List.mem_cons, List.not_mem_nil, or_false, not_or]; exact ⟨Nat.ne_of_lt (Nat.lt_succ_self _), Nat.ne_of_gt hlt⟩
        refine set_fill ((Walks.list h3 _ l n1 items).toS) s.heap.objs.size n2 xs size (by omega) (fun i v hv => ?_) (items.size - 0) 0 _ (by omega) (Nat.zero_le _) ⟨⟨_, Heap.get?_push_size _ rfl, rfl, rfl⟩, (hl2.push _)⟩ ?z0 ?zR
        · have hv2 : items[i]? = some v := hv
          have hlt2 : i < items.size := by
            rw [Array.getElem?_eq_some_iff] at hv2
            exact hv2.1
          obtain ⟨t, et⟩ := SS.strs_at hi i v (by rw [Array.getElem?_toList]; exact hv2)
          refine ⟨xs.getD i Str.empty, t, ?_, et⟩
          rw [List.getD_eq_getElem?_getD, List.getElem?_eq_getElem (by omega : i < xs.length)]
          rfl
        case z0 =>
          have hg : ((s.heap.push { cls := .type "set", dict := none, data := .set #[] 0 (.fresh 0 0 led) }).push { cls := .type "list_iterator", data := .fields #[.ref l, .int 0 0] }).get? s.heap.objs.size = some { cls := .type "set", dict := none, data := .set #[] 0 (.fresh 0 0 led) } := Heap.get?_push_of_some _ hnew
          exact PyProof.Rows.SetOf_congr ((PyProof.Rows.setObjOf_fresh (knd := PySem.strKind prog w) led).setOf hg (by unfold scanBound; omega)) (fun y => by simp) (onceN_zero xs).symm
        case zR =>
          intro s3 mv hset
          rw [← size, List.take_length] at hset
          obtain ⟨h3', g3, d3, t3, os3⟩ := s3
          obtain rfl : g3 = s.gens := mv.gens
          obtain rfl : d3 = s.drawn := mv.drawn
          obtain rfl : os3 = s.os := mv.os
          show wpAny _ _ _ _ _ _; refine wpAny_pure ?_; show wpAny _ _ (ret Value.none) _ _ _
          refine wpAny_pure ⟨rfl, h3', t3, rfl, hset, fun b o hb e => mv.heap b o ?_ (Heap.get?_push_of_some _ (Heap.get?_push_of_some _ e))⟩
          rw [Heap.size_push]; simp only [List.mem_cons, List.not_mem_nil, or_false, not_or]; exact ⟨Nat.ne_of_lt hb, Nat.ne_of_lt (Nat.lt_succ_of_lt hb)⟩
      · cases r2 with
        | error e => exact hr2
        | ok fl2 =>
          cases fl2 with
          | ret r =>
            obtain ⟨rfl, h', tk, rfl, hset, hk⟩ := hr2
            repeat (any_goals (first | assumption | wp_step))
            exact fin _ _ hset hk
          | _ => exact hr2.elim
    | _ => exact hr.elim
end
/-- len(set(xs)), xs a list of texts -/
def tLenSetS (K : PySem.W.Frag) (ta : TE) : TE := fun σ H Q => ta σ H fun x H1 => ∃ l, ∃ xs : List Str, x = .ref l ∧ SqL K H1 l (xs.map V.str) ∧ xs.length + 1 < scanBound ∧ Q (.int (onceN xs xs.length : Nat)) H1
theorem pe_lenSetS {X : Cx} {a : Expr} {ta : TE} {p p2 q pos : Pos} (hc : X.calm = true) (hg : Gl X "len") (hm : X.mg "len" = none) (hg2 : Gl X "set") (hm2 : X.mg "set" = none) (ha : PE X a ta)
    (na : starEach [a] X.env = (false, eval a X.env) :: starEach [] X.env := by rfl) : PE X (.Call (.Name "len" p) [.Call (.Name "set" p2) [a] [] q] [] pos) (tLenSetS X.K ta) := by
  refine ⟨fun pins s σ H Q I h => Call_ (ld_blt I hg hm boot_len (PyProof.Rows.callWith_builtin1 (PyProof.Rows.args_cons (Call_ (ld_blt I hg2 hm2 boot_set ?_)) rfl) rfl rfl))⟩
  refine PyProof.Rows.callWith_type1 (PyProof.Rows.args_cons (thn (ha.run pins s σ H _ I h) fun v s1 ⟨x, H1, I1, r1, l, xs, ex, hq, room, q1⟩ => PyProof.Rows.args_nil ?_) na) na rfl
  subst ex
  cases r1
  obtain ⟨its, r, pl, hz⟩ := I1.list hq
  refine call_set_texts (I1.ok.hd hc) pl.isList (by simpa using strsAre_of r) room fun h' tk hset hk => PyProof.Rows.args_nil ?_
  obtain ⟨o, es, ep, t, ho, hex, hd, _, _, _, hf, hn⟩ := hset
  have I2 : Inv X pins σ H1 { s1 with heap := h', toks := tk } := I1.kept fun b o e => hk b o (Heap.lt_size e) e
  have le := onceN_le xs xs.length
  refine call_len_set ho hex hd hf (by rw [hn]; unfold scanBound at room; omega) ⟨.int (onceN xs xs.length : Nat), H1, I2.tok _, ⟨_, by rw [hn]⟩, q1⟩
theorem ev_lenSetS [Tb] [Fz] {K : PySem.W.Frag} {σ : L2.St} {G : Hp} {ta : TE} {l : List Str} (ha : EvR K ta σ G l) (hl : l.length + 1 < scanBound) : EvR K (tLenSetS K ta) σ G (onceN l l.length : Int) := fun H e Q q =>
  ha H e _ fun v G1 H1 g1 ⟨a, xs, ev, hA, r⟩ => ⟨a, l, ev, by
    have e2 := reps_flat r
    subst e2
    exact SqL.of (g1.s _ _ hA), hl, q _ G1 H1 g1 rfl⟩
end RL

set_option Elab.async false
set_option linter.all false
set_option maxRecDepth 100000
set_option maxHeartbeats 4000000
namespace RL
open PySem PySem.Spec PyProof.Rows L2
open Rep (rep)
/-! ### own errors: class B(ValueError): pass; class C(B) with an __init__ that calls B.__init__ and stores one field -/
section
variable {X : Cx} {e : Expr} {es : List Expr} {ta : TA} {p p1 p2 pos : Pos}
/-- B.__init__(self, ..), B an own class over ValueError that has none itself -/
theorem pe_baseInit {x : Str} {B : Addr} {mc : Value} {pl : Sem Bool} (hg : Gl X x) (hm : X.mg x = some (.ref B)) (rd : ClX.CRead X.K B mc) (vB : PySem.W.findCls X.K (.ref B) mc "__init__" = some (.val (.builtin "ValueError.__init__"))) (ha : PA X (e :: es) ta)
    (hc : eval (.Call (.Attribute (.Name x p1) "__init__" p2) (e :: es) [] pos) X.env = (do
      let ov ← eval (.Name x p1) X.env
      standAt p2.atName
      let (f, first) ← holding [ov] (getMethod ov "__init__" pl)
      callWith pos f first (backTo pos (starEach (e :: es) X.env)) (backToKw pos (keywordEach [] X.env))) := by rfl)
    (he : starEach (e :: es) X.env = (false, eval e X.env) :: starEach es X.env := by rfl) (hpl : (backTo pos (starEach es X.env)).any (·.1) = false := by rfl) (hdb : (x == ("__debug__" : Str)) = false := by decide) :
    PE X (.Call (.Attribute (.Name x p1) "__init__" p2) (e :: es) [] pos) (tVeI X.K ta) := by
  refine ⟨fun pins s σ H Q I h => PySem.W.methodCall_KW (ld_glob I hg hm ?_ hdb) hc⟩
  refine PySem.W.method_cls I.kIn rd.ga (PySem.W.cls_value I.kIn rd.rd vB rfl ?_)
  show wpAny _ _ (callWith pos (Value.builtin "ValueError.__init__") [] (backTo pos (starEach (e :: es) X.env)) []) _ _ _
  refine PyProof.Rows.callWith_method1 (thn (ha.run pos pins _ σ H _ (I.tok _) h) fun us s1 ⟨vs, H1, I1, r1, a, C, ws, ev, hl, T, ea, q⟩ => ?_) he hpl
  subst ev
  cases r1 with
  | @cons _ u0 _ ur ra rw' =>
    obtain rfl : u0 = Value.ref a := ra
    have room : ur.length ≤ sizeLine := by rw [← Paired.length rw', sizeLine_eq]; omega
    exact oinit_ok T I1 ea room fun s2 J => ⟨.non, H1, J, rfl, q⟩
end
/-- what the written part says of such a class: at C, named n; its base at B, named b; its __init__ at fI; its field f -/
structure ErrTxt (K : PySem.W.Frag) (mg : Str → Option Value) (n b f : Str) (C B fI : Addr) : Prop where
  gC : mg n = some (.ref C)
  gB : mg b = some (.ref B)
  ox : OexC K C
  iC : PySem.W.findIn K (.ref C) "__init__" = some (some (.ref fI))
  tI : PySem.W.typeIn K (.ref fI) = some (.type "function")
  rd : ClX.CRead K B (.type "type")
  vB : PySem.W.findCls K (.ref B) (.type "type") "__init__" = some (.val (.builtin "ValueError.__init__"))
  nF : PySem.W.findIn K (.ref C) f = some none
  xf : XfC K C
  te : PySem.W.exmOne K (.ref C) (.ref C) = some true
/-- what __init__(self, x) keeps: the field alone is stored -/
def spErr (C : Addr) (f : Str) (ok : V → Prop) : Sp := fun vs H Q _ => ∃ a v, vs = [.ref a, v] ∧ ok v ∧ H a = some (exo a C none) ∧ ∀ d, H d = none → d ≠ a → Q .non (upd (upd H d (exd d [(f, v)])) a (exo a C (some d)))
/-- an error of the class at C with the field f = v leaves -/
def ErrAt [Tb] [Fz] (C : Addr) (f : Str) (v : V) (H : Hp) (E : XK) : Prop := ∀ d H', Kept H H' → (∀ P ∈ Tb.ps, GxR.TabG H' P) → H d = none → H' d = some (.xd [(f, v)]) → E (.ref C) (some d) H'
theorem err_made [Tb] [Fz] {C : Addr} {f : Str} {ok : V → Prop} {v : V} {te : TE} {σ : L2.St} {G H : Hp} {E : XK} {α : Type} [Rep α] {K : PySem.W.Frag} {x : α} (e : Sub G H) (h : EvR K te σ G x) (hv : ∀ w G, rep K x w G → w = v) (hok : ok v) (k : ErrAt C f v H E) :
    tMkO C (spErr C f ok) [] (tCons te tNil) σ H (fun cls d H' => E cls d H') := h H e _ fun w G1 H1 g1 r1 => by
  obtain rfl := hv w G1 r1
  refine ⟨by show 1 ≤ 1000; decide, fun a ha => ⟨a, w, rfl, hok, upd_same, fun d hd hne => ⟨rfl, d, [(f, w)], upd_same, ?_, ?_, ?_⟩⟩⟩
  · rw [upd_ne hne, upd_same]
  · rw [upd_ne hne] at hd
    exact hd
  · rw [upd_ne hne] at hd
    refine k d _ ⟨fun b o q nt => ?_, fun b q => ?_⟩ (fun P hP => ?_) (g1.h.free hd) upd_same
    · have q1 := g1.h.k b o q nt
      have nb : b ≠ d := ne_of_none q1 hd
      have na : b ≠ a := ne_of_none q1 ha
      rw [upd_ne nb, del_ne na, upd_ne na, upd_ne nb, upd_ne na]
      exact q1
    · by_cases nb : b = d
      · rw [nb]
        exact g1.h.free hd
      · by_cases na : b = a
        · rw [na]
          exact g1.h.free ha
        · rw [upd_ne nb, del_ne na, upd_ne na, upd_ne nb, upd_ne na] at q
          exact g1.h.free q
    · obtain ⟨qs, e1, e2⟩ := g1.s.t P hP
      have nb : P ≠ d := ne_of_none e1 hd
      have na : P ≠ a := ne_of_none e1 ha
      refine ⟨qs, ?_, e2⟩
      rw [upd_ne nb, del_ne na, upd_ne na, upd_ne nb, upd_ne na]
      exact e1
/-- isinstance(e, c), e the caught exception that stands at a, of the class cls, with the dict d -/
def rIsX (K : PySem.W.Frag) (a : Addr) (cls : Value) (d : Option Addr) : List V → Hp → VK → Prop := fun xs H Q => ∃ (D dd : Addr) (c : V) (cv : Value) (b : Bool) (fs : List (Str × V)), xs = [.ref a, c] ∧ cls = .ref D ∧ d = some dd ∧ ExcC K D ∧ (∀ u, RelV c u → u = cv) ∧
  PySem.W.kitOne K (.ref D) cv = some b ∧ H dd = some (.xd fs) ∧ Q (.bl b) H
theorem call_isX {X : Cx} {a : Addr} {cls : Value} {d : Option Addr} {oe : Obj} {pn : List (Addr × Obj)} (hz : Zc cls d oe) (hf : ∃ vs, oe.data = .fields vs) : CallR (X.suite a ((a, oe) :: pn)) (.builtin "isinstance") (rIsX X.K a cls d) := by
  intro pins s σ H xs us Q I r h
  obtain ⟨D, dd, c, cv, b, fs, rfl, rfl, rfl, C, hcv, e, hd, q⟩ := h
  cases r with
  | cons rx rr =>
    cases rr with
    | cons rt rr =>
      cases rr
      cases rx
      obtain rfl := hcv _ rt
      obtain ⟨hget, _⟩ := I.pin (a, oe) (List.mem_append.mpr (.inl List.mem_cons_self))
      obtain ⟨vs, hv⟩ := hf
      obtain ⟨mA, hns, _⟩ : ∃ mA, s.heap.Ns1 dd mA ∧ ∀ f, RelO (fs.lookup f) (mA f) := I.hok dd _ hd
      obtain ⟨od, ho, hl⟩ := lookIn_ns hns
      have J : PySem.W.InstAt s.heap a oe D (some od) := ⟨hget, hz.1, by unfold PySem.W.notCls; rw [hv] <;> rfl, by rw [hz.2]; exact ho⟩
      have hcl : (PySem.W.clsIn X.K D).isSome = true := by
        obtain ⟨cd, hc, _⟩ := PySem.W.any_some C.hd
        rw [hc]
        rfl
      exact PySem.W.kia_one (PySem.W.kitx_exc hcl C.hg C.hk C.hs C.ha C.hn C.ht C.hm) I.kIn J e (fun z => nomatch z) fun tk => ⟨.bl b, H, I.kept (t' := tk) fun _ _ z => z, rfl, q⟩
end RL

set_option Elab.async false
set_option linter.all false
set_option maxRecDepth 100000
set_option maxHeartbeats 4000000
namespace RL
open PySem PySem.Spec PyProof.Rows L2
open Rep (rep)
/-! ### items -/
def getI {α : Type} [Inhabited α] (l : List α) (n : Int) : α := (atI l n).getD default
def getS (z : Str) (n : Int) : Str := ⟨#[getI z.cps.toList n]⟩
theorem atI_get {α : Type} [Inhabited α] {l : List α} {n : Int} (h : (atI l n).isSome = true) : atI l n = some (getI l n) := by
  unfold getI
  cases e : atI l n with
  | none => rw [e] at h; cases h
  | some x => rfl
theorem at_in {α : Type} {l : List α} {n : Int} (h0 : 0 ≤ n) (h1 : n < l.length) : (atI l n).isSome = true := by
  have e : ixN l.length n = some n.toNat := by unfold ixN; rw [if_pos h0, if_pos h1]
  unfold atI
  rw [e]
  show (l[n.toNat]?).isSome = true
  rw [List.getElem?_eq_getElem (by omega : n.toNat < l.length)]
  rfl
theorem at_neg {α : Type} {l : List α} {n : Int} (h0 : n < 0) (h1 : -(l.length : Int) ≤ n) : (atI l n).isSome = true := by
  have e : ixN l.length n = some (n + l.length).toNat := by unfold ixN; rw [if_neg (by omega), if_pos h1]
  unfold atI
  rw [e]
  show (l[(n + l.length).toNat]?).isSome = true
  rw [List.getElem?_eq_getElem (by omega)]
  rfl
theorem getI_nat {α : Type} [Inhabited α] {l : List α} {n : Int} (h0 : 0 ≤ n) (h1 : n < l.length) : getI l n = l.getD n.toNat default := by
  have e : ixN l.length n = some n.toNat := by unfold ixN; rw [if_pos h0, if_pos h1]
  unfold getI atI
  rw [e]
  show (l[n.toNat]?).getD default = _
  rw [List.getD_eq_getElem?_getD]
theorem getI_mem {α : Type} [Inhabited α] {l : List α} {n : Int} (h : (atI l n).isSome = true) : getI l n ∈ l := by
  have e := atI_get h
  unfold atI at e
  cases q : ixN l.length n with
  | none => rw [q] at e; cases e
  | some j =>
    rw [q] at e
    exact List.mem_of_getElem? e

/-! ### loops that may be left -/
inductive Step (σ ρ : Type) where
  | go (s : σ)
  | ret (r : ρ)
  | brk (s : σ)
def runL {σ ρ α : Type} (f : σ → α → Step σ ρ) (s : σ) : List α → Step σ ρ
  | [] => .go s
  | x :: l => match f s x with
    | .go s' => runL f s' l
    | .ret r => .ret r
    | .brk s' => .brk s'
theorem runL_append {σ ρ α : Type} (f : σ → α → Step σ ρ) : ∀ (l m : List α) (s s' : σ), runL f s l = .go s' → runL f s (l ++ m) = runL f s' m
  | [], m, s, s', h => by
    have e : Step.go s = Step.go s' := h
    cases e
    rfl
  | x :: l, m, s, s', h => by
    show (match f s x with | .go s' => runL f s' (l ++ m) | .ret r => .ret r | .brk s' => .brk s') = _
    have h' : (match f s x with | .go s' => runL f s' l | .ret r => .ret r | .brk s' => .brk s') = Step.go s' := h
    cases e : f s x with
    | go a =>
      rw [e] at h'
      exact runL_append f l m a s' h'
    | ret r => rw [e] at h'; cases h'
    | brk a => rw [e] at h'; cases h'
theorem runL_go {σ ρ α : Type} {f : σ → α → Step σ ρ} {l : List α} {s st s' : σ} {i : Nat} {x : α} (h : runL f s (l.take i) = .go st) (hx : l[i]? = some x) (e : f st x = .go s') : runL f s (l.take (i + 1)) = .go s' := by
  rw [take_snoc hx, runL_append f _ _ _ _ h]
  show (match f st x with | .go s' => runL f s' [] | .ret r => .ret r | .brk s' => .brk s') = _
  rw [e]
  rfl
theorem split_at {α : Type} {l : List α} {i : Nat} {x : α} (hx : l[i]? = some x) : l = l.take i ++ x :: l.drop (i + 1) := by
  obtain ⟨h, e⟩ := List.getElem?_eq_some_iff.mp hx
  rw [← e, ← List.drop_eq_getElem_cons h, List.take_append_drop]
theorem runL_ret {σ ρ α : Type} {f : σ → α → Step σ ρ} {l : List α} {s st : σ} {i : Nat} {x : α} {r : ρ} (h : runL f s (l.take i) = .go st) (hx : l[i]? = some x) (e : f st x = .ret r) : runL f s l = .ret r := by
  rw [split_at hx, runL_append f _ _ _ _ h]
  show (match f st x with | .go s' => runL f s' _ | .ret r => .ret r | .brk s' => .brk s') = _
  rw [e]
def exitF {σ ρ : Type} (a : Step σ ρ) (k : σ → ρ) : ρ := match a with
  | .go s => k s
  | .ret r => r
  | .brk s => k s
def exitS {σ σ' ρ : Type} (a : Step σ ρ) (k : σ → Step σ' ρ) : Step σ' ρ := match a with
  | .go s => k s
  | .ret r => .ret r
  | .brk s => k s
theorem exitF_go {σ ρ : Type} {s : σ} {k : σ → ρ} : exitF (.go s) k = k s := rfl
theorem exitS_go {σ σ' ρ : Type} {s : σ} {k : σ → Step σ' ρ} : exitS (.go s) k = k s := rfl
theorem exitF_ret {σ ρ : Type} {m r : ρ} {a : Step σ ρ} {k : σ → ρ} (h : m = exitF a k) (e : a = .ret r) : m = r := by rw [h, e]; rfl
theorem exitS_ret {σ σ' ρ : Type} {m : Step σ' ρ} {r : ρ} {a : Step σ ρ} {k : σ → Step σ' ρ} (h : m = exitS a k) (e : a = .ret r) : m = .ret r := by rw [h, e]; rfl
theorem rgs_at {m n : Int} {i : Nat} (h : m + (i : Int) < n) : ∃ d, m + (i : Int) = d ∧ (rgs m n)[i]? = some d ∧ m ≤ d ∧ d < n := by
  refine ⟨m + (i : Int), rfl, ?_, by omega, h⟩
  unfold rgs
  rw [List.getElem?_map, List.getElem?_range (by omega)]
  rfl
theorem rgs_at0 {n : Int} {i : Nat} (h : (i : Int) < n) : ∃ d, (i : Int) = d ∧ (rgs 0 n)[i]? = some d ∧ 0 ≤ d ∧ d < n := by
  obtain ⟨d, e1, e2, e3, e4⟩ := rgs_at (m := 0) (n := n) (i := i) (by omega)
  exact ⟨d, by omega, e2, e3, e4⟩
theorem rgs_len (m n : Int) : (rgs m n).length = (n - m).toNat := by unfold rgs; rw [List.length_map, List.length_range]
theorem rgs_take (m n : Int) : List.take (n - m).toNat (rgs m n) = rgs m n := by rw [← rgs_len m n, List.take_length]
theorem rgs_take0 (n : Int) : List.take n.toNat (rgs 0 n) = rgs 0 n := by
  have h := rgs_take 0 n
  rw [Int.sub_zero] at h
  exact h

/-! ### chains, comprehensions without if -/
/-- a list of texts or None that has no None -/
def texts (l : List (Option Str)) : List Str := l.filterMap id
theorem texts_map {l : List (Option Str)} (h : none ∉ l) : (texts l).map some = l := by
  unfold texts
  induction l with
  | nil => rfl
  | cons o l ih =>
    cases o with
    | none => exact absurd List.mem_cons_self h
    | some x =>
      show (x :: List.filterMap id l).map some = some x :: l
      rw [List.map_cons, ih fun q => h (.tail _ q)]
section
variable [Tb] [Fz] {α β γ : Type} [Rep α] [Rep β] [Rep γ] {K : PySem.W.Frag} {σ : L2.St} {G : Hp} {te ta tb tl : TE} {x : α} {y : β} {vs : List Nat}
theorem rv_le {G : Hp} {m n : Int} : ∀ v w G1 H1, Same G G1 → Sub G1 H1 → rep K m v G1 → rep K n w G1 → ∀ Q : VK, (∀ G2 H2, Grow G1 H1 G2 H2 → Q (.bl (decide (m ≤ n))) H2) → (rI0 fun i j => .bl (decide (i ≤ j))) v w H1 Q :=
  fun v w G1 H1 _ s hv hw Q q => ⟨m, n, hv, hw, q G1 H1 (Grow.refl s)⟩
theorem rv_lt {G : Hp} {m n : Int} : ∀ v w G1 H1, Same G G1 → Sub G1 H1 → rep K m v G1 → rep K n w G1 → ∀ Q : VK, (∀ G2 H2, Grow G1 H1 G2 H2 → Q (.bl (decide (m < n))) H2) → (rI0 fun i j => .bl (decide (i < j))) v w H1 Q :=
  fun v w G1 H1 _ s hv hw Q q => ⟨m, n, hv, hw, q G1 H1 (Grow.refl s)⟩
theorem rv_leS {G : Hp} {m n : Str} : ∀ v w G1 H1, Same G G1 → Sub G1 H1 → rep K m v G1 → rep K n w G1 → ∀ Q : VK, (∀ G2 H2, Grow G1 H1 G2 H2 → Q (.bl (!decide (n.cps.toList < m.cps.toList))) H2) →
    (fun x y H Q => ∃ i j, x = V.str i ∧ y = V.str j ∧ Q (V.bl (!decide (j.cps.toList < i.cps.toList))) H : R2) v w H1 Q :=
  fun v w G1 H1 _ s hv hw Q q => ⟨m, n, hv, hw, q G1 H1 (Grow.refl s)⟩
theorem filt_true {α : Type} (l : List α) : l.filter (fun _ => true) = l := by
  induction l with
  | nil => rfl
  | cons a l ih => rw [List.filter_cons_of_pos rfl, ih]
theorem ev_lcLm {l : List α} {g : TG} (h : α → β) (hl : EvR K tl σ G l) (hz : l.length < sizeLine)
    (ht : ∀ x v G' H', Same G G' → Sub G' H' → x ∈ l → rep K x v G' → ∀ (P : L2.St → Hp → Prop), (∀ σ2, wipe σ2 vs = wipe σ vs → EvB tYes σ2 G' true → (true = true → EvR K te σ2 G' (h x)) → P σ2 H') → g v (wipe σ vs) H' P) :
    EvR K (tLc (iList K tl) g tYes te vs) σ G (l.map h) := (ev_lcL (fun _ => true) h hl hz ht).to (by rw [filt_true])
theorem ev_lcTm {l : Tpl α} {g : TG} (h : α → β) (hl : EvR K tl σ G l) (hz : l.l.length < sizeLine)
    (ht : ∀ x v G' H', Same G G' → Sub G' H' → x ∈ l.l → rep K x v G' → ∀ (P : L2.St → Hp → Prop), (∀ σ2, wipe σ2 vs = wipe σ vs → EvB tYes σ2 G' true → (true = true → EvR K te σ2 G' (h x)) → P σ2 H') → g v (wipe σ vs) H' P) :
    EvR K (tLc (iTup K tl) g tYes te vs) σ G (l.l.map h) := (ev_lcT (fun _ => true) h hl hz ht).to (by rw [filt_true])
theorem ev_lcR1m {n : Int} {g : TG} (h : Int → β) (hl : EvR K te σ G n) (hn : n < 16777216 ∧ -16777216 < n) {tf : TE}
    (ht : ∀ x G' H', 0 ≤ x → x < n → Same G G' → Sub G' H' → ∀ (P : L2.St → Hp → Prop), (∀ σ2, wipe σ2 vs = wipe σ vs → EvB tYes σ2 G' true → (true = true → EvR K tf σ2 G' (h x)) → P σ2 H') → g (.int x) (wipe σ vs) H' P) :
    EvR K (tLc (iRng1 (tCons te tNil)) g tYes tf vs) σ G ((rgs 0 n).map h) := (ev_lcR1 (fun _ => true) h hl hn ht).to (by rw [filt_true])
theorem ev_lcR2m {m n : Int} {g : TG} (h : Int → β) (hl : EvR K ta σ G m) (hh : EvR K te σ G n) (hn : -16777216 < m ∧ m < 16777216 ∧ n < 16777216 ∧ -16777216 < n ∧ n - m < 16777216) {tf : TE}
    (ht : ∀ x G' H', m ≤ x → x < n → Same G G' → Sub G' H' → ∀ (P : L2.St → Hp → Prop), (∀ σ2, wipe σ2 vs = wipe σ vs → EvB tYes σ2 G' true → (true = true → EvR K tf σ2 G' (h x)) → P σ2 H') → g (.int x) (wipe σ vs) H' P) :
    EvR K (tLc (iRng2 (tCons ta (tCons te tNil))) g tYes tf vs) σ G ((rgs m n).map h) := (ev_lcR2 (fun _ => true) h hl hh hn ht).to (by rw [filt_true])
theorem ev_texts {l : List (Option Str)} (h : EvR K te σ G l) (hn : none ∉ l) : EvR K te σ G (texts l) := fun H e Q q => h H e Q fun v G1 H1 g1 ⟨a, xs, ev, hA, r⟩ => q v G1 H1 g1 ⟨a, xs, ev, hA, by
  have e1 := reps_flat r
  have e2 : xs = (texts l).map V.str := by
    rw [e1]
    conv => lhs; rw [← texts_map hn]
    rw [List.map_map]
    rfl
  rw [e2]
  exact reps_of_flat (texts l)⟩
end
/-! ### list.count of texts -/
theorem countP_eqU {x : V} : ∀ {xs : List V} {us : List Value}, Vals xs us → xs.all flatV = true → us.countP (eqU x) = xs.countP fun y => eqV y x
  | _, _, .nil, _ => rfl
  | y :: xs, u :: us, .cons r t, f => by
    rw [List.all_cons, Bool.and_eq_true] at f
    rw [List.countP_cons, List.countP_cons, eqU_of r f.1, countP_eqU t f.2]
def rCntV (K : PySem.W.Frag) : V → List V → Hp → VK → Prop := fun x args H Q => ∃ (p : Addr) (xs : List V) (y : V), x = .ref p ∧ args = [y] ∧ SqL K H p xs ∧ flatV y = true ∧ xs.all flatV = true ∧ Q (.int (xs.countP (fun z => eqV z y) : Nat)) H
theorem mt_countS {X : Cx} : MtR X "list.count" (rCntV X.K) := fun pins s σ H x args v us Q I rx rv ⟨p, xs, y, ex, ea, hs, fy, fx, q⟩ => by
  subst ex ea
  obtain rfl : v = Value.ref p := rx
  obtain ⟨u, rfl, ru⟩ := rv.one
  obtain ⟨its, ri, ⟨⟨cls, dd, data, sl⟩, n, ho, hc, hdn, hd⟩, hlen⟩ := I.list hs
  simp only at hc hd
  subst hc hd
  refine call_meets PySem.F.slot_list_count ⟨_, ho, rfl⟩ PySem.F.entry_list_count (PySem.F.args_list_count_2 _ _) (SeqAt.list_countAt p its.toArray n dd sl u (eqU y)) ⟨ho, fun z hz => mem_eqAt ru fy ri fx z (by simpa using hz), ?_⟩
  have e : its.toArray.toList.countP (eqU y) = xs.countP fun z => eqV z y := by
    rw [List.toList_toArray]
    exact countP_eqU ri fx
  rw [e]
  exact ⟨.int (xs.countP (fun z => eqV z y) : Nat), H, I.tok _, ⟨s.toks, rfl⟩, q⟩
theorem ev_countS [Tb] [Fz] {K : PySem.W.Frag} {σ : L2.St} {G : Hp} {ta tb : TE} {l : List Str} {x : Str} (ha : EvR K ta σ G l) (hb : EvR K tb σ G x) : EvR K (tBM K "list" (rCntV K) ta (tCons tb tNil)) σ G ((List.count x l : Nat) : Int) := fun H e Q q =>
  ha H e _ fun v G1 H1 g1 r1 => by
    obtain ⟨a, xs, ev, hA, r⟩ := id r1
    refine ⟨by rw [ev]; exact .inl ⟨rfl, xs, SqL.of (g1.s _ _ hA)⟩, hb.mono g1.g H1 g1.s _ fun w G2 H2 g2 r2 => ?_⟩
    have ex := reps_flat r
    subst ex
    refine ⟨a, _, w, ev, rfl, SqL.of (g2.h.l (g1.s _ _ hA)), by rw [show w = V.str x from r2]; rfl, flat_all, ?_⟩
    have e2 : (l.map Flat.toV).countP (fun z => eqV z w) = List.count x l := by
      rw [List.countP_map, show w = Flat.toV x from r2, List.count]
      refine List.countP_congr fun z _ => ?_
      rw [Function.comp, Flat.eqv z x]
      simp
    rw [e2]
    exact q _ G2 H2 (g1.trans g2) rfl
/-! ### text * n -/
def mulS (x : Str) (n : Int) : Str := ⟨(List.replicate n.toNat x.cps.toList).flatten.toArray⟩
theorem fold_cps : ∀ (n : Nat) (a b : Array Nat), ((List.replicate n a).foldl (· ++ ·) b).toList = b.toList ++ (List.replicate n a.toList).flatten
  | 0, a, b => by simp
  | n + 1, a, b => by
    rw [List.replicate_succ, List.foldl_cons, fold_cps n a (b ++ a), List.replicate_succ, List.flatten_cons, Array.toList_append, List.append_assoc]
/-! ### what a def keeps that may raise an error of the class at C with the text field f -/
section
variable [Tb] [Fz] {α β ρ : Type} [Rep α] [Rep β] [Rep ρ]
def spx1 (K : PySem.W.Frag) (C : Addr) (f : Str) (pre : α → Prop) (m : α → Except Str ρ) : Sp := fun vs H Q E => ∃ x v G, vs = [v] ∧ Sub G H ∧ rep K x v G ∧ pre x ∧
  (∀ y, m x = .ok y → ∀ u G' H', Grow G H G' H' → rep K y u G' → Q u H') ∧ ∀ s, m x = .error s → ErrAt C f (.str s) H E
end
theorem tpl_written {K : PySem.W.Frag} {q : Addr} {qd : Option Addr} {qi : Array Value} {qn : Nat} {qs : Array (Option Value)} {ks : List Str} (l : K.lookup q = some ⟨.type "tuple", qd, .seq qi qn, qs⟩) (v : Vals (ks.map V.str) qi.toList) (hz : ks.length ≤ 1000 := by decide) {G : Hp} : rep K (Tpl.mk ks) (V.ref q) G := by
  refine ⟨q, ks.map V.str, rfl, .inr ⟨_, qi, qn, l, rfl, rfl, ?_, v⟩, reps_of_flat ks⟩
  have e : (ks.map V.str).length = qi.toList.length := Vals.length v
  have e2 : qi.toList.length = qi.size := Array.length_toList
  rw [List.length_map] at e
  rw [← e2, ← e, sizeLine_eq]
  omega
end RL
namespace RL
open PySem PySem.Spec PyProof.Rows L2
open Rep (rep)
/-! ### the rules that name the written part, with it told: they hold within a comprehension as well -/
section
variable {X : Cx} {K : PySem.W.Frag}
theorem op_inK (h : X.K = K := by rfl) : OpR X (compareOp .In) (rIn K false) := by subst h; exact op_in_seq
theorem op_notInK (h : X.K = K := by rfl) : OpR X (compareOp .NotIn) (rIn K true) := by subst h; exact op_notIn_seq
theorem ix_listK (h : X.K = K := by rfl) : IxR X (rIxL K) := by subst h; exact ix_list
theorem ix_tupK (h : X.K = K := by rfl) : IxR X (rIxT K) := by subst h; exact ix_tup
theorem sl_listK (h : X.K = K := by rfl) : SlR X (rSlL K) := by subst h; exact sl_list
theorem call_lenK (h : X.K = K := by rfl) : CallR X (.builtin "len") (rLen K) := by subst h; exact call_len
theorem call_listK (h : X.K = K := by rfl) : CallR X (.type "list") (fun xs H Q => ∃ p ys, xs = [.ref p] ∧ (SqL K H p ys ∨ SqT K H p ys) ∧ ∀ l, H l = none → Q (.ref l) (upd H l (.lst ys))) := by subst h; exact call_list_of
theorem mt_countK (h : X.K = K := by rfl) : MtR X "list.count" (rCntV K) := by subst h; exact mt_countS
variable {a e o : Expr} {ta te to : TE} {tg : Expr} {k : Nat} {p1 p2 p3 pos p q apos cpos : Pos} {es : List Expr} {t : TA}
theorem pe_revK (he : PE X e te) (h : X.K = K := by rfl) : PE X (.Subscript e (.Slice none none (some (.UnaryOp .USub (.Constant (.int 1) k p1) p2)) p3) pos) (tRevL K te) := by subst h; exact pe_revL he
theorem pi_listK (he : PE X e te) (h : X.K = K := by rfl) : PI X tg e (iList K te) := by subst h; exact pi_list he
theorem pi_tupK (he : PE X e te) (h : X.K = K := by rfl) : PI X tg e (iTup K te) := by subst h; exact pi_tup he
theorem pe_lenSetK (hc : X.calm = true) (hg : Gl X "len") (hm : X.mg "len" = none) (hg2 : Gl X "set") (hm2 : X.mg "set" = none) (ha : PE X a ta)
    (na : starEach [a] X.env = (false, eval a X.env) :: starEach [] X.env := by rfl) (h : X.K = K := by rfl) : PE X (.Call (.Name "len" p) [.Call (.Name "set" p2) [a] [] q] [] pos) (tLenSetS K ta) := by subst h; exact pe_lenSetS hc hg hm hg2 hm2 ha na
theorem pa_starK (he : PE X e te) (hr : PA X es t) (hs : starEach (.Starred e p :: es) X.env = (true, eval e X.env) :: starEach es X.env := by rfl) (h : X.K = K := by rfl) : PA X (.Starred e p :: es) (StX.tStar K te t) := by subst h; exact StX.pa_star he hr hs
end
end RL
namespace RL
open PySem PySem.Spec PyProof.Rows L2
section
variable {X : Cx} {K : PySem.W.Frag} {e o : Expr} {te to : TE} {apos cpos pos : Pos}
theorem pe_joinK (ho : PE X o to) (he : PE X e te) (hs : starEach [e] X.env = [(false, eval e X.env)] := by rfl) (hbase : attributeBase o "join" X.env (eval o X.env) = eval o X.env := by rfl) (hline : (apos.endLine == pos.line) = true := by rfl) (h : X.K = K := by rfl) :
    PE X (.Call (.Attribute o "join" apos) [e] [] pos) (tM1 (fun x xs H Q => ∃ a p, ∃ ys : List Str, x = .str a ∧ xs = [.ref p] ∧ (SqL K H p (ys.map V.str) ∨ SqT K H p (ys.map V.str)) ∧
      (ys.map (·.length)).sum + ys.length * a.length ≤ 16777216 ∧ Q (.str (Txt.join a ys)) H) to te) := by subst h; exact pe_join ho he hs hbase hline
theorem pe_bmK {es : List Expr} {t : TA} {name : Str} {T id : String} {r : V → List V → Hp → VK → Prop} (pa : PlainAttrs T) (slot : Slot T name id) (hty : typeOf (.builtin id) = pure (.type "method_descriptor")) (hm : MtR X id r) (ho : PE X o to) (ha : PA X (e :: es) t)
    (hbase : attributeBase o name X.env (eval o X.env) = eval o X.env := by rfl)
    (hfew : ((backTo cpos (starEach (e :: es) X.env)).all (fun x => !x.1) && (backToKw cpos (keywordEach [] X.env)).all (fun x => x.1.isSome)
      && decide ((e :: es).length + ([] : List Keyword).length + (if ([] : List Keyword).isEmpty then 0 else 1) < 30)) = true := by rfl)
    (hline : (apos.endLine == cpos.line) = true := by rfl) (hs : starEach (e :: es) X.env = (false, eval e X.env) :: starEach es X.env := by rfl) (hplain : (backTo cpos (starEach es X.env)).any (·.1) = false := by rfl) (h : X.K = K := by rfl) :
    PE X (.Call (.Attribute o name apos) (e :: es) [] cpos) (tBM K T r to t) := by subst h; exact pe_bm pa slot hty hm ho ha hbase hfew hline hs hplain
end
end RL
namespace RL
open PySem PySem.Spec PyProof.Rows L2
open Rep (rep)
/-! ### the statements, something behind -/
section
variable [Tb] [Fz] {α : Type} [Rep α] {K : PySem.W.Frag} {σ : L2.St} {G H : Hp} {te tl ta : TE} {tt : TT} {t u tb tz : TS} {D : Ends} {x : α} {b : Bool} {i j : Nat} {a : Addr}
theorem nx_mk {nx : L2.St → Hp → Prop} {rt : VK} {bk ct : L2.St → Hp → Prop} (h : nx σ H) : Ends.nx ⟨nx, rt, bk, ct⟩ σ H := h
theorem reps_nil {Ge He : Hp} (g : Grow Ge He G H) : Reps K ([] : List α) [] G := .nil
theorem q_asg (e : Sub G H) (h : EvR K te σ G x) (k : ∀ v G' H', Grow G H G' H' → rep K x v G' → tz D (σ.set i (some v)) H') : tSeq (tAsg te (gName i)) tz D σ H := s_asg (D := { D with nx := tz D }) e h k
theorem q_drop (e : Sub G H) (h : EvR K te σ G x) (k : ∀ G' H', Grow G H G' H' → tz D σ H') : tSeq (tDrop te) tz D σ H := s_drop (D := { D with nx := tz D }) e h k
theorem q_if (e : Sub G H) (h : EvB tt σ G b) (k1 : b = true → ∀ G' H', Grow G H G' H' → t { D with nx := tz D } σ H') (k2 : b = false → ∀ G' H', Grow G H G' H' → u { D with nx := tz D } σ H') : tSeq (tIfS tt t u) tz D σ H := s_if (D := { D with nx := tz D }) e h k1 k2
theorem q_new (k : ∀ p, H p = none → tz D (σ.set i (some (.ref p))) (upd H p (.lst []))) : tSeq (tAsg (tLst tNil) (gName i)) tz D σ H := s_new (D := { D with nx := tz D }) k
theorem q_app {xs : List V} (e : Sub G H) (hi : σ[i]? = some (some (.ref a))) (ha : H a = some (.lst xs)) (hz : xs.length < sizeLine) (h : EvR K te σ G x)
    (k : ∀ v G' H', Grow G H G' H' → rep K x v G' → tz D σ (upd H' a (.lst (xs ++ [v])))) : tSeq (tDrop (tBM K "list" rAppend (tVar i) (tCons te tNil))) tz D σ H := s_app (D := { D with nx := tz D }) e hi ha hz h k
theorem q_newF {Ge He : Hp} (gr : Grow Ge He G H) (k : ∀ p H2, He p = none → G p = none → H p = none → H2 p = some (.lst []) → Grow Ge He G H2 → Kept H H2 → tz D (σ.set i (some (.ref p))) H2) : tSeq (tAsg (tLst tNil) (gName i)) tz D σ H := s_newF (D := { D with nx := tz D }) gr k
theorem q_appF {Ge He : Hp} {xs : List V} {l : List α} (gr : Grow Ge He G H) (hF : He a = none) (hN : G a = none) (hi : σ[i]? = some (some (.ref a))) (ha : H a = some (.lst xs)) (hl : Reps K l xs G) (hz : l.length < sizeLine) (h : EvR K te σ G x)
    (k : ∀ G' H' H2 zs, Grow G H G' H' → Grow Ge He G' H2 → G' a = none → H2 a = some (.lst zs) → Reps K (l ++ [x]) zs G' → (∀ b, b ≠ a → H2 b = H' b) → tz D σ H2) : tSeq (tDrop (tBM K "list" rAppend (tVar i) (tCons te tNil))) tz D σ H := s_appF (D := { D with nx := tz D }) gr hF hN hi ha hl hz h k
theorem q_forL {l : List α} {g : TG} (e : Sub G H) (h : EvR K tl σ G l) (k : ∀ G1 H1 xs, Grow G H G1 H1 → Reps K l xs G1 → ∃ Pv : Nat → L2.St → Hp → Prop, Pv 0 σ H1 ∧ (∀ i σ' H', Pv i σ' H' → Sub G1 H') ∧
    (∀ i x v σ' H', l[i]? = some x → rep K x v G1 → Pv i σ' H' → g v σ' H' fun σ2 H2 => tb { D with nx := Pv (i + 1), ct := Pv (i + 1), bk := tz D } σ2 H2) ∧ ∀ σ' H', Pv l.length σ' H' → tz D σ' H') : tSeq (tFor (iList K tl) g tb) tz D σ H :=
  s_forL (D := { D with nx := tz D }) e h k
theorem q_forT {l : Tpl α} {g : TG} (e : Sub G H) (h : EvR K tl σ G l) (k : ∀ G1 H1 xs, Grow G H G1 H1 → Reps K l.l xs G1 → ∃ Pv : Nat → L2.St → Hp → Prop, Pv 0 σ H1 ∧ (∀ i σ' H', Pv i σ' H' → Sub G1 H') ∧
    (∀ i x v σ' H', l.l[i]? = some x → rep K x v G1 → Pv i σ' H' → g v σ' H' fun σ2 H2 => tb { D with nx := Pv (i + 1), ct := Pv (i + 1), bk := tz D } σ2 H2) ∧ ∀ σ' H', Pv l.l.length σ' H' → tz D σ' H') : tSeq (tFor (iTup K tl) g tb) tz D σ H :=
  s_forT (D := { D with nx := tz D }) e h k
theorem q_forR1 {n : Int} (e : Sub G H) (h : EvR K te σ G n) (hn : -(2 ^ 62) ≤ n ∧ n < 2 ^ 62) (k : ∀ G1 H1, Grow G H G1 H1 → ∃ Pv : Nat → L2.St → Hp → Prop, Pv 0 σ H1 ∧
    (∀ (i : Nat) σ' H', (i : Int) < n → Pv i σ' H' → tb { D with nx := Pv (i + 1), ct := Pv (i + 1), bk := tz D } (σ'.set j (some (.int (i : Int)))) H') ∧ ∀ σ' H', Pv n.toNat σ' H' → tz D σ' H') : tSeq (tFor (iRng1 (tCons te tNil)) (gName j) tb) tz D σ H :=
  s_forR1 (D := { D with nx := tz D }) e h hn k
theorem q_forR2 {m n : Int} (e : Sub G H) (h : EvR K ta σ G m) (h2 : EvR K te σ G n) (hn : -(2 ^ 62) ≤ m ∧ m < 2 ^ 62 ∧ -(2 ^ 62) ≤ n ∧ n < 2 ^ 62) (k : ∀ G1 H1, Grow G H G1 H1 → ∃ Pv : Nat → L2.St → Hp → Prop, Pv 0 σ H1 ∧
    (∀ (i : Nat) σ' H', m + (i : Int) < n → Pv i σ' H' → tb { D with nx := Pv (i + 1), ct := Pv (i + 1), bk := tz D } (σ'.set j (some (.int (m + (i : Int))))) H') ∧ ∀ σ' H', Pv (n - m).toNat σ' H' → tz D σ' H') : tSeq (tFor (iRng2 (tCons ta (tCons te tNil))) (gName j) tb) tz D σ H :=
  s_forR2 (D := { D with nx := tz D }) e h h2 hn k
end
theorem un_some {α : Type} [Rep α] {K : PySem.W.Frag} {x : α} {v : V} {G : Hp} (h : rep K (some x) v G) : rep K x v G := h
theorem condT {α : Type} {c : Bool} {a b m : α} (h : m = cond c a b) (e : c = true) : m = a := by rw [h, e]; rfl
theorem condF {α : Type} {c : Bool} {a b m : α} (h : m = cond c a b) (e : c = false) : m = b := by rw [h, e]; rfl
end RL

set_option Elab.async false
set_option linter.all false
set_option maxRecDepth 100000
set_option maxHeartbeats 1000000
/-! texts, lists: plain mathematics for the laws -/
namespace RL
open PySem PySem.Spec PyProof.Rows L2 TL
theorem len_tl (x : Str) : x.length = (tl x).length := by simp [Str.length, tl]
theorem len_app (x y : Str) : (x ++ y).length = x.length + y.length := by rw [len_tl, len_tl, len_tl, tl_append, List.length_append]
theorem join_len (y : Str) : ∀ l : List Str, (Txt.join y l).length = (l.map (·.length)).sum + (l.length - 1) * y.length
  | [] => by rw [join_eq]; simp [Str.join, Str.empty, Str.length]
  | [x] => by rw [join_eq]; show x.length = x.length + 0 + 0 * y.length; omega
  | x :: z :: r => by
    have ih := join_len y (z :: r)
    rw [join_eq] at ih ⊢
    show (x ++ y ++ Str.join y (z :: r)).length = _
    rw [len_app, len_app, ih]
    simp only [List.map_cons, List.sum_cons, List.length_cons, Nat.add_sub_cancel]
    have : (r.length + 1) * y.length = r.length * y.length + y.length := by rw [Nat.add_mul, Nat.one_mul]
    omega
theorem split_ne {x y : Str} (hy : 1 ≤ y.length) : Txt.split x y ≠ [] := fun h => by
  have e := StrLaws.join_split x y
  rw [h] at e
  have e2 : x = Str.empty := e.symm
  subst e2
  unfold Txt.split at h
  have : (decide (Str.empty.length < y.length) || decide (Builtin.Str.strKind Str.empty < Builtin.Str.strKind y)) = true := by
    have : decide (Str.empty.length < y.length) = true := decide_eq_true (by show 0 < y.length; omega)
    rw [this]; rfl
  rw [if_pos this] at h
  cases h
theorem sum_mem {l : List Str} {p : Str} (h : p ∈ l) : p.length ≤ (l.map (·.length)).sum := by
  induction l with
  | nil => cases h
  | cons a l ih =>
    rw [List.map_cons, List.sum_cons]
    rcases List.mem_cons.mp h with e | e
    · subst e; omega
    · have := ih e; omega
theorem split_sum {x y : Str} : ((Txt.split x y).map (·.length)).sum + ((Txt.split x y).length - 1) * y.length = x.length := by
  rw [← join_len y (Txt.split x y), join_eq, StrLaws.join_split]
theorem split_part {x y p : Str} (h : p ∈ Txt.split x y) : p.length ≤ x.length := by
  have h1 := sum_mem h
  have h2 := split_sum (x := x) (y := y)
  omega
theorem split_count {x y : Str} (hy : 1 ≤ y.length) : (Txt.split x y).length ≤ x.length + 1 := by
  have h2 := split_sum (x := x) (y := y)
  have h3 : (Txt.split x y).length - 1 ≤ ((Txt.split x y).length - 1) * y.length := Nat.le_mul_of_pos_right _ hy
  omega
theorem sum_le {l : List Str} {n : Nat} (h : ∀ p ∈ l, p.length ≤ n) : (l.map (·.length)).sum ≤ l.length * n := by
  induction l with
  | nil => simp
  | cons a l ih =>
    rw [List.map_cons, List.sum_cons, List.length_cons, Nat.add_mul, Nat.one_mul]
    have := h a List.mem_cons_self
    have := ih fun p hp => h p (.tail _ hp)
    omega
theorem sum_sub {l m : List Str} (h : l.Sublist m) : (l.map (·.length)).sum ≤ (m.map (·.length)).sum := by
  induction h with
  | slnil => exact Nat.le_refl _
  | cons a _ ih => rw [List.map_cons, List.sum_cons]; omega
  | cons_cons a _ ih => rw [List.map_cons, List.map_cons, List.sum_cons, List.sum_cons]; omega
/-! ### last, all but the last -/
theorem at_last {α : Type} {l : List α} (h : l ≠ []) : (atI l (-1)).isSome = true := at_neg (by omega) (by have := List.length_pos_iff.mpr h; omega)
theorem get_last {α : Type} [Inhabited α] {l : List α} (h : l ≠ []) : getI l (-1) = l.getLast h := by
  have e := atI_get (at_last h)
  have hp := List.length_pos_iff.mpr h
  have e2 : ixN l.length (-1) = some (l.length - 1) := by
    unfold ixN
    rw [if_neg (by omega), if_pos (by omega)]
    congr 1
    omega
  unfold atI at e
  rw [e2] at e
  have e3 : l[l.length - 1]? = some (getI l (-1)) := e
  rw [← List.getLast?_eq_getElem?, List.getLast?_eq_some_getLast h] at e3
  exact (Option.some.inj e3).symm
theorem cut_init {α : Type} (l : List α) : cutL l none (some (-1)) = l.dropLast := by
  unfold cutL
  rw [HT.sIx_none]
  have e : HT.sIx l.length l.length (some (-1)) = l.length - 1 := by
    show (if (-1 : Int) < 0 then (-1 + (l.length : Int)).toNat else min (-1 : Int).toNat l.length) = _
    rw [if_pos (by omega)]
    omega
  rw [e, List.drop_zero, Nat.sub_zero, List.dropLast_eq_take]
theorem cut_from {α : Type} (l : List α) {n : Int} (h : 0 ≤ n) : cutL l (some n) none = l.drop n.toNat := by
  unfold cutL
  rw [HT.sIx_none]
  have e : HT.sIx l.length 0 (some n) = min n.toNat l.length := by
    show (if n < 0 then _ else min n.toNat l.length) = _
    rw [if_neg (by omega)]
  rw [e, List.take_of_length_le (by rw [List.length_drop]; omega)]
  by_cases q : n.toNat ≤ l.length
  · rw [Nat.min_eq_left q]
  · rw [Nat.min_eq_right (by omega), List.drop_length, List.drop_eq_nil_of_le (by omega)]
theorem cut_to {α : Type} (l : List α) {n : Int} (h : 0 ≤ n) : cutL l none (some n) = l.take n.toNat := by
  unfold cutL
  rw [HT.sIx_none]
  have e : HT.sIx l.length l.length (some n) = min n.toNat l.length := by
    show (if n < 0 then _ else min n.toNat l.length) = _
    rw [if_neg (by omega)]
  rw [e, List.drop_zero, Nat.sub_zero]
  by_cases q : n.toNat ≤ l.length
  · rw [Nat.min_eq_left q]
  · rw [Nat.min_eq_right (by omega), List.take_length, List.take_of_length_le (by omega)]
theorem cut_le {α : Type} (l : List α) (a b : Option Int) : (cutL l a b).length ≤ l.length := by
  unfold cutL
  rw [List.length_take, List.length_drop]
  omega
theorem cut_sub {α : Type} (l : List α) (a b : Option Int) : (cutL l a b).Sublist l := (List.take_sublist _ _).trans (List.drop_sublist _ _)
theorem cut_mem {α : Type} {l : List α} {a b : Option Int} {x : α} (h : x ∈ cutL l a b) : x ∈ l := List.mem_of_mem_drop (List.mem_of_mem_take h)
/-! ### a list in which one thing answers a question -/
theorem filter_find {α β : Type} [DecidableEq β] (f : α → β) (y : β) : ∀ {l : List α}, (l.map f).Nodup → l.filter (fun a => decide (f a = y)) = (l.find? fun a => decide (f a = y)).toList
  | [], _ => rfl
  | a :: l, h => by
    rw [List.map_cons, List.nodup_cons] at h
    by_cases e : f a = y
    · rw [List.filter_cons_of_pos (by simpa using e), List.find?_cons_of_pos (by simpa using e)]
      have : l.filter (fun a => decide (f a = y)) = [] := by
        rw [List.filter_eq_nil_iff]
        intro b hb q
        have q' : f b = y := by simpa using q
        exact h.1 (e ▸ q' ▸ List.mem_map_of_mem hb)
      rw [this]
      rfl
    · rw [List.filter_cons_of_neg (by simpa using e), List.find?_cons_of_neg (by simpa using e), filter_find f y h.2]
/-! ### ASCII texts -/
def Asc (x : Str) : Prop := ∀ c ∈ tl x, c < 128
theorem lower_tl {x : Str} (h : Asc x) : tl (Txt.lower x) = (tl x).map lo1 := by
  rw [lower_ascii h]
  simp [tl]
theorem upper_tl {x : Str} (h : Asc x) : tl (Txt.upper x) = (tl x).map up1 := by
  rw [upper_ascii h]
  simp [tl]
theorem tl_inj {x y : Str} (h : tl x = tl y) : x = y := by
  rw [← mk_tl x, ← mk_tl y, h]
end RL
namespace RL
open PySem PySem.Spec PyProof.Rows L2 TL
/-! ### sizes that are small -/
def PreT (t : Str) : Prop := t.length ≤ 1000
def NN (l : List Int) : Prop := ∀ x ∈ l, 0 ≤ x
theorem pre_low {t : Str} (h : PreT t) : t.length ≤ 5592405 := Nat.le_trans h (by decide)
theorem pre_line {t : Str} (h : PreT t) : t.length ≤ sizeLine := Nat.le_trans h (by decide)
theorem pre_line2 {t : Str} (h : PreT t) : t.length + 2 ≤ sizeLine := Nat.le_trans (Nat.add_le_add_right h 2) (by decide)
theorem lt_line {n : Nat} (h : n ≤ 100000) : n < sizeLine := Nat.lt_of_le_of_lt h (by decide)
theorem le_line {n : Nat} (h : n ≤ 100000) : n ≤ sizeLine := Nat.le_trans h (by decide)
theorem le_low {n : Nat} (h : n ≤ 100000) : n ≤ 5592405 := Nat.le_trans h (by decide)
theorem pos_of {n : Nat} (h : decide ((0 : Int) < (n : Int)) = true) : (0 : Int) < (n : Int) := of_decide_eq_true h
theorem of_memB {α : Type} [DecidableEq α] {x : α} {l : List α} (h : memB x l = false) : x ∉ l := of_decide_eq_false h
theorem memB_of {α : Type} [DecidableEq α] {x : α} {l : List α} (h : memB x l = true) : x ∈ l := of_decide_eq_true h
theorem memB_in {α : Type} [DecidableEq α] {x : α} {l : List α} (h : x ∈ l) : memB x l = true := decide_eq_true h
theorem memB_no {α : Type} [DecidableEq α] {x : α} {l : List α} (h : x ∉ l) : memB x l = false := decide_eq_false h
theorem memB_iff {α β : Type} [DecidableEq α] [DecidableEq β] {x : α} {l : List α} {y : β} {m : List β} (h : x ∈ l ↔ y ∈ m) : memB x l = memB y m := decide_eq_decide.mpr h
theorem eqB_of {α : Type} [DecidableEq α] {x y : α} (h : eqB x y = true) : x = y := of_decide_eq_true h
theorem ne_eqB {α : Type} [DecidableEq α] {x y : α} (h : eqB x y = false) : x ≠ y := of_decide_eq_false h
theorem eqB_self {α : Type} [DecidableEq α] (x : α) : eqB x x = true := decide_eq_true rfl
theorem texts_le (l : List (Option Str)) : (texts l).length ≤ l.length := List.length_filterMap_le _ _
/-- a short list of short texts, joined by one sign -/
theorem join_fits {l : List Str} {m n : Nat} (hn : l.length ≤ n) (hl : ∀ p ∈ l, p.length ≤ m) {s : Str} (hs : s.length ≤ 1) (hb : n * (m + 1) ≤ 16777216) : (l.map (·.length)).sum + l.length * s.length ≤ 16777216 := by
  have h1 := sum_le hl
  have h2 : l.length * m ≤ n * m := Nat.mul_le_mul_right m hn
  have h3 : l.length * s.length ≤ n * 1 := Nat.mul_le_mul hn hs
  have h4 : n * (m + 1) = n * m + n := by rw [Nat.mul_add, Nat.mul_one]
  omega
theorem join_short {l : List Str} {m n : Nat} (hn : l.length ≤ n) (hl : ∀ p ∈ l, p.length ≤ m) {s : Str} (hs : s.length ≤ 1) : (Txt.join s l).length ≤ n * m + n := by
  rw [join_len]
  have h1 := sum_le hl
  have h2 : l.length * m ≤ n * m := Nat.mul_le_mul_right m hn
  have h3 : (l.length - 1) * s.length ≤ n * 1 := Nat.mul_le_mul (by omega) hs
  omega
theorem runL_all {σ ρ α : Type} {f : σ → α → Step σ ρ} {s : σ} : ∀ {l : List α}, (∀ x ∈ l, f s x = .go s) → runL f s l = .go s
  | [], _ => rfl
  | x :: l, h => by
    show (match f s x with | .go s' => runL f s' l | .ret r => .ret r | .brk s' => .brk s') = _
    rw [h x List.mem_cons_self]
    exact runL_all fun y hy => h y (.tail _ hy)
theorem runL_find {α : Type} (p : α → Bool) : ∀ l : List α, runL (fun (_ : Unit) x => cond (p x) (Step.ret (some x)) (Step.go ())) () l = (match l.find? p with | some x => Step.ret (some x) | none => Step.go ())
  | [] => rfl
  | x :: l => by
    have ih := runL_find p l
    cases h : p x with
    | true => rw [List.find?_cons_of_pos h]; simp only [runL, h]; rfl
    | false =>
      rw [List.find?_cons_of_neg (by rw [h]; decide), ← ih]
      simp only [runL, h]
      rfl
/-! ### a law's draws -/
theorem log_small {n : Int} (h0 : 0 ≤ n) (h : n ≤ 100000) : n.natAbs.log2 < 1920 := by
  have h1 : n.natAbs ≤ 100000 := by omega
  have h2 : n.natAbs.log2 ≤ n.natAbs := Nat.log2_le_self _
  by_cases z : n.natAbs = 0
  · rw [z]; decide
  · have := (Nat.log2_lt z (k := 17)).mpr (by omega)
    omega
end RL
namespace RL
open PySem PySem.Spec PyProof.Rows L2 TL
theorem at_mod {α : Type} {l : List α} {n : Int} (h : 0 < (l.length : Int)) : (atI l (n % (l.length : Int))).isSome = true := at_in (Int.emod_nonneg _ (by omega)) (Int.emod_lt_of_pos _ h)
theorem at_modS {z : Str} {n : Int} (h : 0 < (z.length : Int)) : (atI z.cps.toList (n % (z.length : Int))).isSome = true := by
  have e : z.cps.toList.length = z.length := (len_tl z).symm
  rw [← e] at h ⊢
  exact at_mod h
theorem at_S {z : Str} {n : Int} (h0 : 0 ≤ n) (h : n < (z.length : Int)) : (atI z.cps.toList n).isSome = true := at_in h0 (by
  have e : z.cps.toList.length = z.length := (len_tl z).symm
  rw [e]; exact h)
theorem at_3 {α : Type} {a b c : α} {n : Int} : (atI [a, b, c] (n % 3)).isSome = true := at_in (Int.emod_nonneg _ (by decide)) (Int.emod_lt_of_pos n (by decide))
theorem getI_3 {α : Type} [Inhabited α] {a b c : α} {n : Int} (P : α → Prop) (ha : P a) (hb : P b) (hc : P c) : P (getI [a, b, c] (n % 3)) := by
  have h := getI_mem (at_3 (a := a) (b := b) (c := c) (n := n))
  rcases List.mem_cons.mp h with e | h
  · rw [e]; exact ha
  · rcases List.mem_cons.mp h with e | h
    · rw [e]; exact hb
    · rw [List.mem_singleton.mp h]; exact hc
theorem asc_one {c : Nat} (h : c < 128) : Asc ⟨#[c]⟩ := fun d hd => by
  have e : d = c := List.mem_singleton.mp hd
  rw [e]; exact h
theorem lower_one {c : Nat} (h : c < 128) : Txt.lower ⟨#[c]⟩ = ⟨#[lo1 c]⟩ := tl_inj (lower_tl (asc_one h))
theorem upper_one {c : Nat} (h : c < 128) : Txt.upper ⟨#[c]⟩ = ⟨#[up1 c]⟩ := tl_inj (upper_tl (asc_one h))
theorem rot_perm {α : Type} (l : List α) {a : Int} (h : 0 ≤ a) : (cutL l (some a) none ++ cutL l none (some a)).Perm l := by
  rw [cut_from l h, cut_to l h]
  refine (List.perm_append_comm).trans ?_
  rw [List.take_append_drop]
/-- what a list of a comprehension's items keeps -/
theorem mem_map_all {α β : Type} {f : α → β} {l : List α} {P : β → Prop} (h : ∀ x ∈ l, P (f x)) : ∀ y ∈ l.map f, P y := fun y hy => by
  obtain ⟨x, hx, e⟩ := List.mem_map.mp hy
  rw [← e]; exact h x hx
end RL

set_option Elab.async false
set_option linter.all false
set_option maxRecDepth 100000
set_option maxHeartbeats 4000000
namespace RL
open PySem PySem.Spec PyProof.Rows L2
open Rep (rep)
/-! ### tuples: parts, sums, ==, tuple(..) of a list; texts times a number; isinstance; is True -/
section
variable {X : Cx} {K : PySem.W.Frag}
theorem sl_tupK (h : X.K = K := by rfl) : SlR X (rSlA K) := by subst h; exact sl_tupA
theorem op_catTK (h : X.K = K := by rfl) : OpR X (binaryOp .Add) (rCatA K) := by subst h; exact op_catA
theorem op_eqK (hu : X.A.units + 64 < cLine) (h : X.K = K := by rfl) : OpR X (compareOp .Eq) (rEqD K) := by subst h; exact op_eqD hu
theorem op_neK (hu : X.A.units + 64 < cLine) (h : X.K = K := by rfl) : OpR X (compareOp .NotEq) (rNeD K) := by subst h; exact op_neD hu
theorem call_tupleK (h : X.K = K := by rfl) : CallR X (.type "tuple") (fun xs H Q => ∃ p ys, xs = [.ref p] ∧ ((SqL K H p ys ∧ ∀ l, H l = none → Q (.ref l) (upd H l (.tup ys))) ∨ (SqT K H p ys ∧ Q (.ref p) H))) := by subst h; exact call_tuple_of
theorem call_isiK (h : X.K = K := by rfl) : CallR X (.builtin "isinstance") (rIsi K) := by subst h; exact call_isi
def rMulS : R2 := fun x y H Q => ∃ i n, x = .str i ∧ y = .int n ∧ 0 ≤ n ∧ n < 16777216 ∧ i.length * n.toNat ≤ sizeLine ∧ Q (.str (mulS i n)) H
theorem mulS_one {x : Str} : mulS x 1 = x := by
  obtain ⟨⟨l⟩⟩ := x
  show Str.mk (List.replicate 1 l).flatten.toArray = _
  rw [List.replicate_succ, List.replicate_zero, List.flatten_cons, List.flatten_nil, List.append_nil]
theorem mulS_nil {x : Str} {n : Int} (h : (x.length == 0) = true) : mulS x n = x := by
  obtain ⟨⟨l⟩⟩ := x
  have e : l.length = 0 := by
    have : (Str.mk ⟨l⟩).length = l.length := rfl
    rw [this] at h
    exact beq_iff_eq.mp h
  have e2 : l = [] := List.eq_nil_of_length_eq_zero e
  subst e2
  show Str.mk (List.replicate n.toNat []).flatten.toArray = _
  have : (List.replicate n.toNat ([] : List Nat)).flatten = [] := by
    induction n.toNat with
    | zero => rfl
    | succ k ih => rw [List.replicate_succ, List.flatten_cons, ih]; rfl
  rw [this]
theorem mulS_zero {x : Str} {n : Int} (h : n < 1) : mulS x n = Str.empty := by
  show Str.mk (List.replicate n.toNat x.cps.toList).flatten.toArray = _
  rw [show n.toNat = 0 by omega]
  rfl
theorem mulS_fold {x : Str} {n : Int} : mulS x n = ⟨(List.replicate n.toNat x.cps).foldl (· ++ ·) #[]⟩ := by
  have h := fold_cps n.toNat x.cps #[]
  show Str.mk (List.replicate n.toNat x.cps.toList).flatten.toArray = _
  rw [← Array.toArray_toList (xs := (List.replicate n.toNat x.cps).foldl (· ++ ·) #[]), h]
  rfl
theorem mulS_len (x : Str) (n : Int) : (mulS x n).length = x.length * n.toNat := by
  obtain ⟨⟨l⟩⟩ := x
  show (List.replicate n.toNat l).flatten.toArray.size = l.length * n.toNat
  rw [List.size_toArray]
  induction n.toNat with
  | zero => rfl
  | succ k ih => rw [List.replicate_succ, List.flatten_cons, List.length_append, ih, Nat.mul_succ]; omega
theorem op_repS : OpR X (binaryOp .Mult) rMulS := by
  intro pins s σ H x y v u Q I rx ry h
  obtain ⟨i, n, rfl, rfl, hn, hn2, hz, q⟩ := h
  obtain ⟨t, rfl⟩ := rx
  obtain ⟨t', rfl⟩ := ry
  have f1 : ¬ n < -(2 ^ 63 : Int) := by omega
  have f2 : ¬ n ≥ 2 ^ 63 := by omega
  refine P.mul_str (by rw [decide_eq_false f1, decide_eq_false f2]; rfl) (fun h1 _ => ?_) (fun _ _ => decide_eq_false (by omega)) ?_
  · have hp : 0 < n := by omega
    have h2 : (i.length : Int) * n ≤ (sizeLine : Int) := by
      have e : ((i.length * n.toNat : Nat) : Int) = (i.length : Int) * n := by
        rw [Int.natCast_mul, Int.toNat_of_nonneg hn]
      rw [← e]
      exact Int.ofNat_le.mpr hz
    intro z
    have h3 : ((2 ^ 63 - 1 : Int) / n + 1) * n > 2 ^ 63 - 1 := by
      have := Int.lt_ediv_add_one_mul_self (2 ^ 63 - 1 : Int) hp
      exact this
    have h4 : ((2 ^ 63 - 1 : Int) / n + 1) * n ≤ (i.length : Int) * n := Int.mul_le_mul_of_nonneg_right (by omega) hn
    rw [sizeLine_eq] at h2
    omega
  · by_cases h1 : n < 1
    · rw [if_pos h1]
      rw [mulS_zero h1] at q
      exact ⟨by decide, ⟨.str Str.empty, H, I.tok _, ⟨_, rfl⟩, q⟩⟩
    · rw [if_neg h1]
      by_cases h2 : (n == 1 || i.length == 0) = true
      · rw [if_pos h2]
        have e : mulS i n = i := by
          rcases Bool.or_eq_true_iff.mp h2 with a | a
          · rw [show n = 1 from beq_iff_eq.mp a]; exact mulS_one
          · exact mulS_nil a
        rw [e] at q
        exact ⟨.str i, H, I, ⟨_, rfl⟩, q⟩
      · rw [if_neg h2]
        rw [mulS_fold] at q
        exact ⟨by rw [← mulS_fold]; exact Nat.le_trans (Nat.le_of_eq (mulS_len i n)) hz, ⟨.str _, H, I.tok _, ⟨_, rfl⟩, q⟩⟩
end
section
variable [Tb] [Fz] {α β γ : Type} [Rep α] [Rep β] [Rep γ] {K : PySem.W.Frag} {σ : L2.St} {G G' : Hp} {te ta tb tc : TE} {tt tu : TT} {x : α} {y : β} {z : γ} {b c : Bool} {i : Nat} {v : V} {ts tr : TA}
theorem ev_repS {s : Str} {n : Int} (ha : EvR K ta σ G s) (hb : EvR K tb σ G n) (h : 0 ≤ n ∧ n < 16777216 ∧ s.length * n.toNat ≤ sizeLine) : EvR K (tOp rMulS ta tb) σ G (mulS s n) :=
  ev_op ha hb fun v w G1 H1 _ s hv hw Q q => ⟨_, n, hv, hw, h.1, h.2.1, h.2.2, q _ G1 H1 (Grow.refl s) rfl⟩
theorem ev_slT {l : Tpl α} {tl th : TO} {lo hi : Option Int} (ha : EvR K ta σ G l) (hl : EvO K tl σ G lo) (hh : EvO K th σ G hi) : EvR K (tSl (rSlA K) ta tl th) σ G (Tpl.mk (cutL l.l lo hi)) := fun H e Q q =>
  ha H e _ fun v G1 H1 g1 r1 => hl.mono g1.g H1 g1.s _ fun G2 H2 g2 => hh.mono (g1.g.trans g2.g) H2 g2.s _ fun G3 H3 g3 => by
    obtain ⟨a, xs, ev, hA, r⟩ := up (g2.g.trans g3.g) r1
    refine ⟨a, xs, ev, sqT_mono g3.s.get hA, fun hw => ?_, fun hw p hp => ?_⟩
    · have e1 : cutL l.l lo hi = l.l := by
        unfold cutL
        rw [paired_len r, hw.1, hw.2, Nat.sub_zero, List.drop_zero, ← paired_len r, List.take_length]
      exact q _ _ _ ((g1.trans g2).trans g3) ⟨a, xs, rfl, hA, by show Reps K (cutL l.l lo hi) xs G3; rw [e1]; exact r⟩
    · exact q _ _ _ (((g1.trans g2).trans g3).trans (Grow.new g3.s hp)) ⟨p, cutL xs lo hi, rfl, SqT.of upd_same, Reps.up (same_upd (g3.s.free hp)) (cut_pair lo hi r)⟩
theorem ev_catT {l m : Tpl α} (ha : EvR K ta σ G l) (hb : EvR K tb σ G m) (hl : l.l.length + m.l.length ≤ sizeLine) : EvR K (tOp (rCatA K) ta tb) σ G (Tpl.mk (l.l ++ m.l)) :=
  ev_op ha hb fun v w G1 H1 _ s ⟨a, xs, ev, hA, r⟩ ⟨b, ys, ew, hB, r'⟩ Q q => by
    refine ⟨a, b, xs, ys, ev, ew, sqT_mono s.get hA, sqT_mono s.get hB, by rw [← paired_len r, ← paired_len r']; exact hl, fun hx => ?_, fun _ hy => ?_, fun _ _ p hp => ?_⟩
    · subst hx
      have e : l.l = [] := List.eq_nil_of_length_eq_zero (paired_len r)
      exact q _ G1 H1 (Grow.refl s) ⟨b, ys, rfl, hB, by show Reps K (l.l ++ m.l) ys G1; rw [e]; exact r'⟩
    · subst hy
      have e : m.l = [] := List.eq_nil_of_length_eq_zero (paired_len r')
      exact q _ G1 H1 (Grow.refl s) ⟨a, xs, rfl, hA, by show Reps K (l.l ++ m.l) xs G1; rw [e, List.append_nil]; exact r⟩
    · exact q _ _ _ (Grow.new s hp) ⟨p, xs ++ ys, rfl, SqT.of upd_same, paired_append (r.up (same_upd (s.free hp))) (r'.up (same_upd (s.free hp)))⟩
theorem ev_tupleL {l : List α} (ha : EvR K ta σ G l) : EvR K (tCB (fun xs H Q => ∃ p ys, xs = [.ref p] ∧ ((SqL K H p ys ∧ ∀ l, H l = none → Q (.ref l) (upd H l (.tup ys))) ∨ (SqT K H p ys ∧ Q (.ref p) H))) (tCons ta tNil)) σ G (Tpl.mk l) := fun H e Q q =>
  ha H e _ fun v G1 H1 g1 ⟨a, xs, ev, hA, r⟩ => ⟨a, xs, by rw [ev], .inl ⟨SqL.of (g1.s _ _ hA), fun p hp => q _ _ _ (g1.trans (Grow.new g1.s hp)) ⟨p, xs, rfl, SqT.of upd_same, r.up (same_upd (g1.s.free hp))⟩⟩⟩
/-- texts that may be laid -/
def TOk (l : List Str) : Prop := ∀ p ∈ l, PyData.strOk p = true
theorem dp_texts {H : Hp} : ∀ (l : List Str), DpAll K H (l.map Flat.toV) (l.map PyData.str)
  | [] => .nil
  | x :: l => .cons (.str x) (dp_texts l)
theorem lay_texts : ∀ (l : List Str), TOk l → PyData.canLayAll0 (l.map PyData.str) = true
  | [], _ => rfl
  | x :: l, h => by
    show (PyData.canLay0 (.str x) && PyData.canLayAll0 (l.map PyData.str)) = true
    rw [lay_texts l fun p hp => h p (.tail _ hp), Bool.and_true]
    exact h x List.mem_cons_self
theorem depth_texts : ∀ (l : List Str), PyData.depthAll (l.map PyData.str) = 0
  | [] => rfl
  | x :: l => by
    show max (PyData.depth (.str x)) (PyData.depthAll (l.map PyData.str)) = 0
    rw [depth_texts l]
    rfl
theorem shaped_texts {l : List Str} (h : TOk l) : SeqAt.shaped (.tuple (l.map PyData.str)) = true := by
  unfold SeqAt.shaped
  rw [show PyData.canLay0 (.tuple (l.map PyData.str)) = PyData.canLayAll0 (l.map PyData.str) from rfl, lay_texts l h,
    show PyData.depth (.tuple (l.map PyData.str)) = PyData.depthAll (l.map PyData.str) + 1 from rfl, depth_texts l]
  rfl
theorem eqv_texts : ∀ (l m : List Str), PyData.eqvAll (l.map PyData.str) (m.map PyData.str) = decide (l = m)
  | [], [] => rfl
  | [], _ :: _ => rfl
  | _ :: _, [] => rfl
  | x :: l, y :: m => by
    show (PyData.eqv (.str x) (.str y) && PyData.eqvAll (l.map PyData.str) (m.map PyData.str)) = _
    rw [eqv_texts l m, show PyData.eqv (.str x) (.str y) = decide (x = y) from Flat.eqv x y, ← Bool.decide_and]
    exact decide_eq_decide.mpr ⟨fun h => by rw [h.1, h.2], fun h => by cases h; exact ⟨rfl, rfl⟩⟩
theorem dp_tpl {H : Hp} {t : Tpl Str} {v : V} (s : Sub G H) (h : rep K t v G) : Dp K H v (.tuple (t.l.map PyData.str)) := by
  obtain ⟨a, xs, ev, hA, r⟩ := h
  have e := reps_flat r
  subst e
  rw [ev]
  exact .tup (sqT_mono s.get hA) (dp_texts t.l)
theorem ev_eqT {l m : Tpl Str} (ha : EvR K ta σ G l) (hb : EvR K tb σ G m) (hl : TOk l.l ∧ TOk m.l) : EvR K (tOp (rEqD K) ta tb) σ G (eqB l.l m.l) :=
  ev_op ha hb fun v w G1 H1 _ s hv hw Q q => ⟨_, _, dp_tpl s hv, dp_tpl s hw, shaped_texts hl.1, shaped_texts hl.2, by
    rw [show PyData.eqv (.tuple (l.l.map PyData.str)) (.tuple (m.l.map PyData.str)) = PyData.eqvAll (l.l.map PyData.str) (m.l.map PyData.str) from rfl, eqv_texts]
    exact q _ G1 H1 (Grow.refl s) rfl⟩
theorem ev_neT {l m : Tpl Str} (ha : EvR K ta σ G l) (hb : EvR K tb σ G m) (hl : TOk l.l ∧ TOk m.l) : EvR K (tOp (rNeD K) ta tb) σ G (!eqB l.l m.l) :=
  ev_op ha hb fun v w G1 H1 _ s hv hw Q q => ⟨_, _, dp_tpl s hv, dp_tpl s hw, shaped_texts hl.1, shaped_texts hl.2, by
    rw [show PyData.eqv (.tuple (l.l.map PyData.str)) (.tuple (m.l.map PyData.str)) = PyData.eqvAll (l.l.map PyData.str) (m.l.map PyData.str) from rfl, eqv_texts]
    exact q _ G1 H1 (Grow.refl s) rfl⟩
/-- x is True, x is not False -/
abbrev rIsB : R2 := fun x y H Q => ∃ a b, x = .bl a ∧ y = .bl b ∧ Q (.bl (decide (a = b))) H
abbrev rIsNB : R2 := fun x y H Q => ∃ a b, x = .bl a ∧ y = .bl b ∧ Q (.bl (!decide (a = b))) H
theorem ev_isB (ha : EvR K ta σ G b) (hb : EvR K tb σ G c) : EvR K (tOp rIsB ta tb) σ G (eqB b c) :=
  ev_op ha hb fun v w G1 H1 _ s hv hw Q q => ⟨b, c, hv, hw, q _ G1 H1 (Grow.refl s) rfl⟩
theorem ev_isNB (ha : EvR K ta σ G b) (hb : EvR K tb σ G c) : EvR K (tOp rIsNB ta tb) σ G (!eqB b c) :=
  ev_op ha hb fun v w G1 H1 _ s hv hw Q q => ⟨b, c, hv, hw, q _ G1 H1 (Grow.refl s) rfl⟩
theorem tyX_tup {H : Hp} {a : Addr} {xs : List V} (h : SqT K H a xs) : TyX K H (.ref a) (.type "tuple") := by
  rcases h with h | ⟨o, _, _, h, hc, _⟩
  · rcases h with h | ⟨o, h⟩
    · exact .base (.tup h)
    · exact .fTuple h
  · exact .kTuple h hc
theorem ev_isTup {l : Tpl α} (ha : EvR K ta σ G l) : EvR K (tCB (rIsi K) (tCons ta (tCons (tC (.ty "tuple")) tNil))) σ G true := fun H e Q q =>
  ha H e _ fun v G1 H1 g1 ⟨a, xs, ev, hA, r⟩ => ⟨v, .ty "tuple", .type "tuple", .type "tuple", true, rfl, .ty _, by rw [ev]; exact tyX_tup (sqT_mono g1.s.get hA), kit_ty (by decide +kernel), q _ G1 H1 g1 rfl⟩
theorem ev_isBool (ha : EvR K ta σ G b) : EvR K (tCB (rIsi K) (tCons ta (tCons (tC (.ty "bool")) tNil))) σ G true := fun H e Q q =>
  ha H e _ fun v G1 H1 g1 r => ⟨v, .ty "bool", .type "bool", .type "bool", true, rfl, .ty _, by rw [show v = V.bl b from r]; exact .base (.bl b), kit_ty (by decide +kernel), q _ G1 H1 g1 rfl⟩
theorem ev_joinT {s : Str} {l : Tpl Str} (ha : EvR K ta σ G s) (hb : EvR K tb σ G l) (h : (l.l.map (·.length)).sum + l.l.length * s.length ≤ 16777216) :
    EvR K (tM1 (fun x xs H Q => ∃ a p, ∃ ys : List Str, x = .str a ∧ xs = [.ref p] ∧ (SqL K H p (ys.map V.str) ∨ SqT K H p (ys.map V.str)) ∧ (ys.map (·.length)).sum + ys.length * a.length ≤ 16777216 ∧ Q (.str (Txt.join a ys)) H) ta tb) σ G (Txt.join s l.l) := fun H e Q q =>
  ha H e _ fun v G1 H1 g1 r1 => ⟨⟨s, r1⟩, hb.mono g1.g H1 g1.s _ fun w G2 H2 g2 ⟨a, xs, ev, hA, r2⟩ => ⟨s, a, l.l, r1, by rw [ev], .inr (by
    have e := reps_flat r2
    subst e
    exact sqT_mono g2.s.get hA), h, q _ G2 H2 (g1.trans g2) rfl⟩⟩
/-! ### one of two kinds -/
def getL [Inhabited α] (s : Sum α β) : α := match s with
  | .inl x => x
  | .inr _ => default
def getR [Inhabited β] (s : Sum α β) : β := match s with
  | .inl _ => default
  | .inr x => x
theorem ev_inl [Inhabited α] {s : Sum α β} (h : EvR K te σ G s) (hs : s.isLeft = true) : EvR K te σ G (getL s) := by
  cases s with
  | inl x => exact h
  | inr x => cases hs
theorem ev_inr [Inhabited β] {s : Sum α β} (h : EvR K te σ G s) (hs : s.isRight = true) : EvR K te σ G (getR s) := by
  cases s with
  | inl x => cases hs
  | inr x => exact h
instance : Inhabited (Tpl α) := ⟨⟨[]⟩⟩
/-- for a, b in pairs: the pair taken apart -/
theorem pair_apart {p : α × β} {σ' : L2.St} {H : Hp} {Q : L2.St → Hp → Prop} {i j : Nat} {v : V} (r : rep K p v G) (s : Sub G H) (k : ∀ u w, rep K p.1 u G → rep K p.2 w G → Q ((σ'.set i (some u)).set j (some w)) H) :
    gTup K 2 (gCons (gName i) (gCons (gName j) gNil)) v σ' H Q := by
  obtain ⟨a, u, w, ev, hA, r1, r2⟩ := r
  exact ⟨a, [u, w], ev, sqT_mono s.get hA, rfl, u, [w], rfl, w, [], rfl, rfl, k u w r1 r2⟩
end
/-! ### words with spaces between -/
section
open TL
variable {t w l : Str} {L : List Str} {n : Int}
theorem s_assoc (a b c : Str) : a ++ b ++ c = a ++ (b ++ c) := tl_inj (by rw [tl_append, tl_append, tl_append, tl_append, List.append_assoc])
theorem s_nil (a : Str) : a ++ ("" : Str) = a := tl_inj (by rw [tl_append, show tl ("" : Str) = [] by decide +kernel, List.append_nil])
theorem s_nil0 (a : Str) : ("" : Str) ++ a = a := tl_inj (by rw [tl_append, show tl ("" : Str) = [] by decide +kernel, List.nil_append])
theorem s_empty : (Str.empty : Str) = ("" : Str) := by decide +kernel
theorem join_cons2 (y x z : Str) (r : List Str) : Txt.join y (x :: z :: r) = x ++ y ++ Txt.join y (z :: r) := by rw [join_eq, join_eq]; rfl
theorem join_one (y x : Str) : Txt.join y [x] = x := by rw [join_eq]; rfl
theorem join_snoc (y : Str) : ∀ (l : List Str) (a m : Str), Txt.join y (l ++ [a] ++ [m]) = Txt.join y (l ++ [a]) ++ y ++ m
  | [], a, m => by
    show Txt.join y [a, m] = Txt.join y [a] ++ y ++ m
    rw [join_cons2, join_one, join_one]
  | [x], a, m => by
    show Txt.join y [x, a, m] = Txt.join y [x, a] ++ y ++ m
    rw [join_cons2, join_cons2, join_cons2, join_one, join_one]
    simp only [s_assoc]
  | x :: z :: r, a, m => by
    show Txt.join y (x :: z :: (r ++ [a] ++ [m])) = Txt.join y (x :: z :: (r ++ [a])) ++ y ++ m
    rw [join_cons2, join_cons2, show z :: (r ++ [a] ++ [m]) = (z :: r) ++ [a] ++ [m] from rfl, join_snoc y (z :: r) a m, show z :: (r ++ [a]) = (z :: r) ++ [a] from rfl]
    simp only [s_assoc]
theorem join_last (y : Str) (w : Str) : ∀ (l : List Str) (a : Str), Txt.join y (l ++ [a]) ++ w = Txt.join y (l ++ [a ++ w])
  | [], a => by
    show Txt.join y [a] ++ w = Txt.join y [a ++ w]
    rw [join_one, join_one]
  | [x], a => by
    show Txt.join y [x, a] ++ w = Txt.join y [x, a ++ w]
    rw [join_cons2, join_cons2, join_one, join_one, s_assoc]
  | x :: z :: r, a => by
    show Txt.join y (x :: z :: (r ++ [a])) ++ w = Txt.join y (x :: z :: (r ++ [a ++ w]))
    rw [join_cons2, join_cons2, s_assoc, show z :: (r ++ [a]) = (z :: r) ++ [a] from rfl, join_last y w (z :: r) a]
    rfl
theorem tl_sp : tl (" " : Str) = [32] := by decide +kernel
/-- the text's parts between single spaces: L, the last one l -/
structure Pt (t : Str) (L : List Str) (l : Str) : Prop where
  eq : t = Txt.join (" " : Str) (L ++ [l])
  no : ∀ p ∈ L ++ [l], 32 ∉ tl p
theorem Pt.split (h : Pt t L l) : Txt.split t (" " : Str) = L ++ [l] := by
  rw [h.eq]
  exact split_join tl_sp (by decide +kernel) (by simp) h.no
theorem pt_nil : Pt ("" : Str) [] ("" : Str) := ⟨by decide +kernel, fun p hp => by rw [List.mem_singleton.mp hp]; decide +kernel⟩
theorem Pt.sp (h : Pt t L l) : Pt (t ++ (" " : Str)) (L ++ [l]) ("" : Str) := ⟨by rw [join_snoc, s_nil, h.eq], fun p hp => by
  rcases List.mem_append.mp hp with q | q
  · exact h.no p q
  · rw [List.mem_singleton.mp q]; decide +kernel⟩
theorem Pt.word (h : Pt t L l) (hw : 32 ∉ tl w) : Pt (t ++ w) L (l ++ w) := ⟨by rw [h.eq, join_last], fun p hp => by
  rcases List.mem_append.mp hp with q | q
  · exact h.no p (List.mem_append_left _ q)
  · rw [List.mem_singleton.mp q, tl_append]
    intro z
    rcases List.mem_append.mp z with z | z
    · exact h.no l (List.mem_append_right _ List.mem_cons_self) z
    · exact hw z⟩
/-- the parts that are not empty -/
def wds (l : List Str) : List Str := l.filter fun p => !eqB p ("" : Str)
theorem wds_snoc (l : List Str) (x : Str) (h : x ≠ ("" : Str)) : wds (l ++ [x]) = wds l ++ [x] := by
  unfold wds
  rw [List.filter_append, List.filter_cons_of_pos (by rw [show eqB x ("" : Str) = false from decide_eq_false h]; rfl)]
  rfl
theorem wds_nil (l : List Str) : wds (l ++ [("" : Str)]) = wds l := by
  unfold wds
  rw [List.filter_append, List.filter_cons_of_neg (by rw [eqB_self]; decide)]
  rw [List.filter_nil, List.append_nil]
theorem mulS_succ (x : Str) (k : Nat) : mulS x ((k + 1 : Nat) : Int) = mulS x (k : Int) ++ x := by
  refine tl_inj ?_
  rw [tl_append]
  show (List.replicate ((k + 1 : Nat) : Int).toNat x.cps.toList).flatten = (List.replicate ((k : Nat) : Int).toNat x.cps.toList).flatten ++ x.cps.toList
  rw [Int.toNat_natCast, Int.toNat_natCast, List.replicate_succ', List.flatten_append]
  simp
theorem Pt.sps : ∀ (k : Nat), Pt t L l → ∃ L' l', Pt (t ++ mulS (" " : Str) (k : Int)) L' l' ∧ wds (L' ++ [l']) = wds (L ++ [l]) ∧ ((1 ≤ k ∨ l = ("" : Str)) → l' = ("" : Str)) ∧ ∀ p ∈ L ++ [l], p ∈ L' ++ [l']
  | 0, h => ⟨L, l, by rw [mulS_zero (by decide), s_empty, s_nil]; exact h, rfl, fun q => q.elim (fun z => absurd z (by decide)) id, fun _ q => q⟩
  | k + 1, h => by
    obtain ⟨L', l', h1, h2, _, h4⟩ := Pt.sps k h
    refine ⟨L' ++ [l'], ("" : Str), ?_, by rw [wds_nil, h2], fun _ => rfl, fun p hp => List.mem_append_left _ (h4 p hp)⟩
    rw [mulS_succ, ← s_assoc]
    exact h1.sp
theorem Pt.spI (h0 : 0 ≤ n) (h : Pt t L l) : ∃ L' l', Pt (t ++ mulS (" " : Str) n) L' l' ∧ wds (L' ++ [l']) = wds (L ++ [l]) ∧ ((1 ≤ n ∨ l = ("" : Str)) → l' = ("" : Str)) ∧ ∀ p ∈ L ++ [l], p ∈ L' ++ [l'] := by
  obtain ⟨L', l', h1, h2, h3, h4⟩ := Pt.sps n.toNat h
  rw [Int.toNat_of_nonneg h0] at h1
  exact ⟨L', l', h1, h2, fun q => h3 (q.imp (fun z => by omega) id), h4⟩
end
end RL

set_option Elab.async false
set_option linter.all false
set_option maxRecDepth 100000
set_option maxHeartbeats 4000000
namespace RL
open PySem PySem.Spec PyProof.Rows L2 GxR
open Rep (rep)
/-! ### all(test for c in text): the test may name the module's names too -/
/-- the test of one sign, wherever the module's names stand as mg says and the built-in ones as they are -/
def EltM (pg : Program) (wd : World) (mg : Str → Option Value) (sc : Scope) (c : Str) (tst : Expr) (pb : Nat → Bool) : Prop :=
  ∀ (en : Env) (B : Around) (Z : Value → Shared → Prop) (k : Nat) (tk : Tok) (sh : Shared) (lm : Str → Option Value),
    en.scope = sc → en.globals = mainGlobals → sh.heap.Ns mainGlobals mg → sh.heap.Ns en.locals lm → lm c = some (.str ⟨#[k]⟩ tk) →
      wpAny (model pg wd) B (eval tst en) (fun u s3 => u = .bool (pb k) ∧ Keeps sh s3) Z sh
section
variable {X : Cx} {pins : List (Addr × Obj)} {σ : L2.St} {H : Hp} {s : Shared}
theorem gen_text {cd T : Addr} {tst src : Expr} {c : Str} {p1 p2 : Pos} {sc : Scope} {pb : Nat → Bool} {te : TE} {lv : Nat} {Z : Value → Shared → Prop} {R : Str → Hp → Prop}
    (room : Room lv X.A) (tb : TabB X.base X.mg cd T) (hcd : X.env.code = .ref cd) (gs : GenS X.env sc c) (hsrc : PE X src te)
    (htst : EltM X.prog X.w X.mg sc c tst pb) (hfold : ∀ u, genFold src X.env u = pure u) (I : Inv X pins σ H s)
    (start : te σ H fun v H1 => ∃ z : Str, v = .str z ∧ TabG H1 T ∧ R z H1)
    (fin : ∀ z H1 g s5, R z H1 → Ready X pins σ H1 T z pb g s5 → Z (.ref g) s5) :
    wpAny (model X.prog X.w) X.A (eval (.GeneratorExp tst [⟨.Name c p1, src, [], 0⟩] sc p2) X.env) Z X.xe s := by
  have hdepth : X.A.depth + 5 < recursionLimit := by
    have := room.dp
    omega
  refine wpAny_GeneratorExp_walksQ room.hd gs.co (closure_ok gs.free) gs.cell gs.dot gs.loc gs.kind (by have := room.dp; omega)
    (thn (hsrc.run pins s σ H _ I start) fun vx sa ⟨v, HA, IA, rv, ⟨z, ez, ⟨ps, eT, trs⟩, hR⟩⟩ => ?_) hfold
  subst ez
  obtain ⟨tz, rfl⟩ := _root_.id rv
  refine wpAny_pyIter_str fun nw St W st0 => ?_
  -- the table, ahead of the iterator and behind it
  have tA : sa.heap.get? T = some { cls := .none, data := .fields ps } := IA.hok T _ eT
  have tB : (sa.heap.push nw).get? T = some { cls := .none, data := .fields ps } := Heap.get?_push_of_some _ tA
  have ltT : T < sa.heap.objs.size := Heap.lt_size tA
  have cdB : PySem.W.CodeHd (sa.heap.push nw) cd T := tb.code.keeps fun b u q => Heap.get?_push_of_some _ (IA.bk b u q)
  have limB : (sa.heap.push nw).NoLimit := IA.nolimit.push nw
  have sizeB : (sa.heap.push nw).objs.size = sa.heap.objs.size + 1 := Heap.size_push ..
  obtain ⟨nsS, ltS⟩ : cStatics ≠ T ∧ cStatics < sa.heap.objs.size := by
    obtain ⟨m0, n0, _⟩ := IA.nolimit
    refine ⟨fun q => ?_, n0.lt⟩
    obtain ⟨o0, es0, ep0, g0, d0, _⟩ := n0
    rw [q, tA] at g0
    cases g0
    cases d0
  -- from the state in which the code object is there
  have onward : ∀ (cv : Value) (hp : Heap) (k : Nat) (qs : Array Value), Heap.ExtBut T (sa.heap.push nw) hp →
      (sa.heap.push nw).objs.size ≤ hp.objs.size → hp.get? T = some { cls := .none, data := .fields qs } → (∃ more, qs = ps ++ more) → TriplesOk qs.toList →
      wpAny (model X.prog X.w) X.A (builtinsFor X.env.globals X.env.builtins)
        (fun bi s4 => ∃ Ia fp wr n₀ Pf St₀ pz F, Value.ref sa.heap.objs.size = .ref Ia ∧ (∀ A' : Around, A'.handled = none → Walks X.prog X.w A' Ia fp wr n₀ Pf St₀) ∧
          St₀ 0 s4.heap ∧ (∀ b ∈ fp, b < s4.heap.objs.size) ∧ s4.heap.NoLimit ∧ cStatics ∉ wr ∧
          (∀ ref : Heap, (∀ b o, s4.heap.get? b = some o → ref.get? b = some o) →
            QuietGen X.prog X.w (genEnv sc (cloFrom X.env.cells sc.names []) s4.heap.objs.size cv bi X.env) c [] tst (List.range s4.heap.objs.size) wr Pf pz F ref) ∧
          (∀ ga h5 tk gn, gn.bare = true → s4.heap.objs.size < ga → h5.objs.size = ga + 1 → (∀ b o, s4.heap.get? b = some o → h5.get? b = some o) →
            WalksS X.prog X.w X.A.in4 ga (ga :: s4.heap.objs.size :: List.range s4.heap.objs.size) (s4.heap.objs.size :: wr) (GenOnlyQ s4.gens.size) (passing pz n₀ 0).length
              (fun j y => ∃ i, (passing pz n₀ 0)[j]? = some i ∧ F i y)
              (GenAt X.prog X.w X.A.in4 ga s4.gens.size s4.heap.objs.size (List.range s4.heap.objs.size) wr pz n₀ F) →
            GenAt X.prog X.w X.A.in4 ga s4.gens.size s4.heap.objs.size (List.range s4.heap.objs.size) wr pz n₀ F 0 { s4 with gens := s4.gens.push gn, toks := tk, heap := h5 } →
            Z (.ref ga) { s4 with gens := s4.gens.push gn, toks := tk, heap := h5 }))
        X.xe { sa with heap := hp, toks := k } := by
    intro cv hp k qs ext grown tC ⟨more, em⟩ trC
    have keepC : ∀ b u, b ≠ T → sa.heap.get? b = some u → hp.get? b = some u := fun b u nb q => ext b u nb (Heap.get?_push_of_some _ q)
    obtain ⟨bm, ob, b1, b2, b3, b4, b5, b6, b7, b8⟩ := tb.bm
    have globC : hp.Ns mainGlobals X.mg := ((IA.mod.glob.keeps IA.bk).push nw).extBut ext tb.gP
    refine wpAny_builtinsFor (m := X.mg) (by rw [IA.ok.glob]; exact globC) b1 b2 (keepC _ _ b4 (IA.bk _ _ b5)) b6 b7 b8 ?_
    refine ⟨sa.heap.objs.size, [sa.heap.objs.size], [sa.heap.objs.size], z.cps.size, SignAt z, St, fun _ => true,
      fun i y => ∃ k', z.cps[i]? = some k' ∧ y = .bool (pb k'), rfl, W, ?_, fun b hb => ?_, limB.extBut ext nsS, fun q => ?_, ?_, ?_⟩
    · refine (W X.A room.hd).frame _ _ _ st0 fun b hb u q => ext b u (fun q2 => ?_) q
      rw [List.mem_singleton] at hb
      rw [hb] at q2
      exact Nat.ne_of_lt ltT q2.symm
    · rw [List.mem_singleton] at hb
      rw [hb]
      show sa.heap.objs.size < hp.objs.size
      omega
    · rw [List.mem_singleton] at q
      exact Nat.ne_of_lt ltS q
    · intro ref href
      refine ⟨fun B E2 i v s2 m2 _ _ _ _ _ => ?_, fun B E2 i v s2 m2 _ hsign _ hns hmc hkeep => ?_⟩
      · rw [List.forIn_nil]
        exact wpAny_pure ⟨rfl, keeps_refl _⟩
      · obtain ⟨k', tk', hk', rfl⟩ := hsign
        have glob2 : s2.heap.Ns mainGlobals X.mg := by
          obtain ⟨o1, es1, ep1, g1, rest⟩ := globC
          refine ⟨o1, es1, ep1, hkeep mainGlobals ?_ ?_ o1 (href _ _ g1), rest⟩
          · exact List.mem_range.mpr (Heap.lt_size g1)
          · intro q
            rw [List.mem_singleton] at q
            have g2 := IA.mod.glob.keeps IA.bk
            obtain ⟨o3, _, _, g3, _⟩ := g2
            have := Heap.lt_size g3
            rw [q] at this
            exact Nat.lt_irrefl _ this
        exact wpAny_mono (htst _ B E2 k' tk' s2 m2 rfl IA.ok.glob glob2 hns hmc) (fun y s3 r => ⟨⟨k', hk', r.1⟩, r.2⟩) fun _ _ q => q
    · intro ga h5 tk5 gn bareN ltG sz5 keep5 walk5 at5
      simp only [GxR.passing_true, List.length_range] at walk5
      refine fin z HA ga _ hR ⟨_, _, _, _, _, walk5.in4_1, at5, ?_, fun s' mv => ?_⟩
      · intro j y sj Qj Ej hy hQj
        obtain ⟨i, hij, k', hk', rfl⟩ := hy
        obtain ⟨hj, ej⟩ := List.getElem?_eq_some_iff.mp hij
        rw [List.getElem_range] at ej
        subst ej
        have hkl : z.cps.toList[j]? = some k' := by
          rw [Array.getElem?_toList]
          exact hk'
        have hQ2 : Qj (trF pb z.cps.toList j) sj := hQj
        rw [trF_some hkl] at hQ2
        exact wpAny_truthy_bool hQ2
      · have apart : ∀ b u, sa.heap.get? b = some u → b ∉ hp.objs.size :: [sa.heap.objs.size] := fun b u q hb => by
          have lt := Heap.lt_size q
          have : sa.heap.objs.size < hp.objs.size := by omega
          rcases List.mem_cons.mp hb with e | e
          · rw [e] at lt
            exact Nat.lt_asymm this lt
          · rw [List.mem_singleton.mp e] at lt
            exact Nat.lt_irrefl _ lt
        have J := inv_tab (more := more) (h' := s'.heap) (g' := s'.gens) (d' := s'.drawn) (t' := s'.toks) IA eT
          (fun b u nb q => mv.heap b u (apart b u q) (keep5 b u (keepC b u nb q)))
          (by rw [← em]; exact mv.heap T _ (apart T _ tA) (keep5 T _ tC)) (AllBare.movedS (IA.bare.push bareN) mv)
        rw [sh_eta sa s' mv.os] at J
        exact ⟨upd HA T (.tbl (ps ++ more)), ⟨⟨ps ++ more, upd_same, by rw [← em]; exact trC⟩, fun b nb => upd_ne nb⟩, J⟩
  refine ⟨limB, ?_⟩
  cases hf : codeAmong p2 ps.toList with
  | none =>
    refine wpAny_genexprCodeX hcd (cdB.code tB trs) (cdB.tab tB) hf fun cv hp tk ext ge lt co _ tab _ => ?_
    obtain ⟨_, _, _, _, _, _, _, _, _, _, _, _, _, _, _, _, _, _, _, trC, _⟩ := co
    exact onward _ hp tk _ ext (Nat.le_trans ge (Nat.le_of_lt lt)) tab.2 ⟨_, rfl⟩ trC
  | some cv =>
    refine wpAny_genexprCode_hit hcd (cdB.code tB trs) hf ?_
    exact onward cv (sa.heap.push nw) sa.toks ps (Heap.ExtBut.refl _ _) (Nat.le_refl _) tB ⟨#[], by simp⟩ trs
end
end RL
namespace RL
open PySem PySem.Spec PyProof.Rows L2 GxR
open Rep (rep)
section
variable {X : Cx} {pins : List (Addr × Obj)} {σ : L2.St} {H : Hp} {s : Shared}
theorem pe_allM {cd T : Addr} {tst src : Expr} {c : Str} {p1 p2 p3 pos : Pos} {sc : Scope} {pb : Nat → Bool} {te : TE} {lv : Nat}
    (room : Room lv X.A) (hg : Gl X "all") (hm : X.mg "all" = none) (hb : bootBuiltins "all" = some (.builtin "all")) (tb : TabB X.base X.mg cd T) (hcd : X.env.code = .ref cd) (gs : GenS X.env sc c) (hsrc : PE X src te)
    (htst : EltM X.prog X.w X.mg sc c tst pb) (hfold : ∀ u, genFold src X.env u = pure u)
    (hst : starEach [.GeneratorExp tst [⟨.Name c p1, src, [], 0⟩] sc p2] X.env = (false, eval (.GeneratorExp tst [⟨.Name c p1, src, [], 0⟩] sc p2) X.env) :: starEach [] X.env := by rfl) :
    PE X (.Call (.Name "all" p3) [.GeneratorExp tst [⟨.Name c p1, src, [], 0⟩] sc p2] [] pos) (tAllS T pb te) := by
  constructor
  intro pins s σ H Q I start
  refine wpAny_Call_Name_kw (ld_blt I hg hm hb (PyProof.Rows.callWith_builtin1 ?_ hst (by rfl)))
  rw [hst]
  show wpAny _ _ (spliced (_ :: backTo pos (starEach [] X.env))) _ _ s
  refine Calls.spliced_cons (gen_text (R := fun z H1 => ∀ H2, Tabbed T H1 H2 → Q (.bl (z.cps.toList.all pb)) H2) room tb hcd gs hsrc htst hfold I start fun z H1 g s5 hR ready => ?_)
  obtain ⟨fp, wr, G, F, St, W, at0, truth, back⟩ := ready
  refine Calls.spliced_nil (call_all_walkS (W.self 0 _ _ _ at0 ⟨g, fp, wr, G, _, F, St, _, rfl, W, at0, truth, fun s' mv => ?_⟩))
  obtain ⟨H2, t2, J⟩ := back s' mv
  exact ⟨.bl _, H2, J, rfl, by rw [all_signs z pb]; exact hR H2 t2⟩
end
section
variable [Tb] [Fz] {K : PySem.W.Frag} {σ : L2.St} {G : Hp} {te : TE}
theorem ev_isStr {z : Str} (ha : EvR K te σ G z) : EvR K (tCB (rIsi K) (tCons te (tCons (tC (.ty "str")) tNil))) σ G true := fun H e Q q =>
  ha H e _ fun v G1 H1 g1 r => ⟨v, .ty "str", .type "str", .type "str", true, rfl, .ty _, by rw [show v = V.str z from r]; exact .base (.str z), kit_ty (by decide +kernel), q _ G1 H1 g1 rfl⟩
theorem genS_of {env : Env} {sc : Scope} {x : Str} (h1 : sc.kind = .function) (h2 : sc.isCoroutine = false) (h3 : ∀ y ∈ sc.names, y.2 ≠ .cell) (h4 : sc.names.lookup (".0" : Str) = some NameKind.local) (h5 : sc.names.lookup x = some .local) (h6 : ∀ y ∈ sc.names, y.2 ≠ .free) : GenS env sc x :=
  ⟨h1, h2, h3, h4, h5, fun y hy h => absurd h (h6 y hy)⟩
theorem ev_all {T : Addr} {pb : Nat → Bool} {z : Str} (hT : T ∈ Tb.ps) (h : EvR K te σ G z) : EvR K (tAllS T pb te) σ G (z.cps.toList.all pb) := fun H e Q q =>
  h H e _ fun v G1 H1 g1 r1 => ⟨z, r1, g1.s.t T hT, fun H2 t2 => q _ G1 H2 (g1.tab (g1.s.t T hT) t2) rfl⟩
end
/-! tests of a sign -/
section
variable {pg : Program} {wd : World} {mg : Str → Option Value} {sc : Scope} {c : Str}
theorem kp (s : Shared) (k : Nat) : Keeps s { s with toks := k } := keeps_tok s k
/-- c in NAME, a text that the module names -/
theorem elt_inG {x t : Str} {p1 p2 p3 : Pos} (hk : sc.kind = .function) (hl : sc.names.lookup c = some .local) (hx : sc.names.lookup x = some .globalImplicit) (hm : ∃ u, mg x = some u ∧ RelV (.str t) u)
    (hd : (c == ("__debug__" : Str)) = false := by decide) (hd2 : (x == ("__debug__" : Str)) = false := by decide) :
    EltM pg wd mg sc c (.Compare (.Name c p1) [.In] [.Name x p2] p3) (fun k => !(Builtin.Str.occurrences t ⟨#[k]⟩ 0 t.length 1).isEmpty) := by
  intro en B Z k tk sh lm e1 e2 hg hn hc
  obtain ⟨u, hu, tu, eu⟩ := hm
  subst eu
  subst e1
  refine wpAny_Compare1 (wpAny_Name (wpAny_loadName_local hk hl hn hc ?_) hd) (by rfl)
  refine Calls.Name_function_global hk hx (Calls.loadGlobal_global (by rw [e2]; exact hg) hu ?_) hd2
  exact PySem.P.in_str ⟨rfl, keeps_refl _⟩
/-- 'a' <= c <= 'z' -/
theorem elt_range {a b : Str} {j j2 : Nat} {p1 p2 p3 p4 : Pos} (hk : sc.kind = .function) (hl : sc.names.lookup c = some .local) (hd : (c == ("__debug__" : Str)) = false := by decide) :
    EltM pg wd mg sc c (.Compare (.Constant (.str a) j p1) [.LtE, .LtE] [.Name c p2, .Constant (.str b) j2 p3] p4) (fun k => !decide ([k] < a.cps.toList) && !decide (b.cps.toList < [k])) := by
  intro en B Z k tk sh lm e1 e2 hg hn hc
  subst e1
  refine Compare_chain (Calls.Constant_str ?_)
  refine chain_link (wpAny_Name (wpAny_loadName_local hk hl (show _ from hn) hc ?_) hd)
  refine PySem.P.le_str (wpAny_truthy_bool ?_)
  cases q : (!decide ([k] < a.cps.toList)) with
  | false =>
    refine ite_ff ⟨?_, kp _ _⟩
    show Value.bool false = Value.bool (!decide ([k] < a.cps.toList) && !decide (b.cps.toList < [k]))
    rw [q, Bool.false_and]
  | true =>
    refine ite_tt (chain_last (Calls.Constant_str (PySem.P.le_str ⟨?_, ?_⟩)))
    · show Value.bool (!decide (b.cps.toList < [k])) = Value.bool (!decide ([k] < a.cps.toList) && !decide (b.cps.toList < [k]))
      rw [q, Bool.true_and]
    · exact kp _ _
end
end RL
namespace RL
open PySem PySem.Spec PyProof.Rows L2 GxR
open Rep (rep)
/-! ### a def whose code object is known; the end of a row with such tables -/
theorem okC {P : Program} {w : World} {K : PySem.W.Frag} {mg : Str → Option Value} {base : Heap} {x qual : Str} {st : Stmt} {f c : Addr} {fd : FuncData} {N ps : List Str} {k : Nat} {sp : Sp} (F : Fun K x qual st f fd) (hc : fd.code = .ref c) (S : FnScope N ps (defScope st))
    (len : ∀ vs H Q E, sp vs H Q E → vs.length = ps.length)
    (body : ∀ (A : Around) (outer : List Env) (s : Shared) (H : Hp) (vs : List V) (Q : VK) (E : XK), Room k (A.deeper (envOfC qual (defScope st) s.heap.objs.size f (.ref c))) → sp vs H Q E →
      ∃ t, PSs (cxOf CX0 P w K mg base N qual (defScope st) f (.ref c) A outer s H E).nox (defBody st) t ∧ t { nx := fun _ H' => Q .non H', rt := Q } (start N vs) H) :
    FnOk P w K mg base CX0 (k + 1) f fd ps sp := by
  obtain ⟨oc, od, kV, doc, pm, an, cdv, ct, osl, e, lk, hcd⟩ := F.ex
  subst e
  have e2 : cdv = .ref c := hc
  subst e2
  refine fn_of lk hcd S len fun A outer s H vs Q E hr hs => ?_
  obtain ⟨t, h, q⟩ := body A outer s H vs Q E hr hs
  exact ⟨t, h.nox, q⟩
/-- H without the tables -/
def strip (H : Hp) : Hp := fun a => match H a with
  | some (.tbl _) => none
  | o => o
theorem strip_some {H : Hp} {a : Addr} {o : HO} (h : H a = some o) (n : noTb o) : strip H a = some o := by
  unfold strip
  rw [h]
  cases o with
  | tbl q => exact absurd rfl (n q)
  | _ => rfl
theorem strip_get {H : Hp} {a : Addr} {o : HO} (h : strip H a = some o) : H a = some o ∧ noTb o := by
  unfold strip at h
  cases q : H a with
  | none => rw [q] at h; cases h
  | some u =>
    rw [q] at h
    cases u with
    | tbl z => cases h
    | _ =>
      cases h
      exact ⟨rfl, fun z e => by cases e⟩
theorem law_start [Tb] [Fz] {K : PySem.W.Frag} {H : Hp} {a : Addr} {ns : List Int} (hX : ∀ a, Fz.X a = none) (hT : ∀ P ∈ Tb.ps, H P = some (.tbl #[])) (hS : SqL K H a (ns.map V.int)) : Sub (strip H) H ∧ rep K (Scr.mk ns) (V.ref a) (strip H) := by
  refine ⟨⟨fun b o h => strip_get h, fun P hP => ⟨#[], hT P hP, by trivial⟩, (fun b o h => by rw [hX b] at h; exact nomatch h), fun b _ _ => hX b⟩, a, rfl, ?_⟩
  rcases hS with (h | ⟨o, h⟩) | h
  · exact .inl (.inl (strip_some h fun q z => by cases z))
  · exact .inl (.inr ⟨o, strip_some h fun q z => by cases z⟩)
  · exact .inr h
theorem walk_tabs {l : PySem.W.OpenLaw} {q : Program} {loose : List Str} {XP : (Str → Option Value) → Heap → Prop} {YP : World → Heap → Prop} {d : DefRec} {K : Params → PySem.W.Frag} {lv nm : Nat}
    (hn : l.most = some nm) (hn2 : nm ≤ sizeLine) (hdf : d.params.defaults = []) (hr : Room lv callerA) (hY : ∀ (w : World) (h : Heap), YP w h → (K w.params).In h)
    (F : ∀ (w : World) (mg : Str → Option Value) (fa : Addr) (h : Heap), (K w.params).In h → h.Ns mainGlobals mg → mg d.name = some (.ref fa) →
      ∃ (fd : FuncData) (cs : List (Addr × Addr)) (sp : Sp), (∀ p ∈ cs, ∃ x e, (recsOf q).find? (fun r => r.name == x) = some e ∧ PySem.W.tabIn (K w.params) x = some p) ∧ (∀ p ∈ cs, (K w.params).lookup p.2 = none) ∧
        (∀ (s : Shared) (u : Value), BindsTo s fd ⟨[u], []⟩ [("script", u)]) ∧
        (∀ (H : Hp) (a : Addr) (ns : List Int), ns.length ≤ nm → (∀ p ∈ cs, H p.2 = some (.tbl #[])) → SqL (K w.params) H a (ns.map V.int) → sp [.ref a] H (fun v _ => v = .bl true) fun _ _ _ => False) ∧
        ∀ base : Heap, (K w.params).In base → base.Ns mainGlobals mg → (∀ p ∈ cs, TabB base mg p.1 p.2) → FnOk l.prog w (K w.params) mg base CX0 lv fa fd ["script"] sp) :
    PySem.W.WalkO q loose XP YP l.row.toRowW d [] (fun f vs => PySem.call f vs) := by
  refine Att.attach_callB hn hdf fun w s0 s1 mg mb fa o pm cd doc a vs ns G Y ho hd hcd hmg hobj hints hlen hbits hg => ?_
  have KX := hY w _ Y
  obtain ⟨fd, cs, sp, hx, nT, hb, hsp, hF⟩ := F w mg fa _ KX G.T.g hmg
  have tabs : ∀ p ∈ cs, PySem.W.CodeHd s1.heap p.1 p.2 ∧ s1.heap.get? p.2 = some { cls := .none, data := .fields #[] } := fun p hp => by
    obtain ⟨x, e, h1, h2⟩ := hx p hp
    exact PySem.W.tab_of G.T KX h1 h2
  exact LamX.law_callTs KX G.T.g G.T.b G.T.builtins G.T.nolimit hg (fun p hp => (tabs p hp).2) nT (fun p hp => (tabs p hp).1) G.T.bmain hobj hints (Nat.le_trans hlen hn2) hr (CX := CX0) (fun base b1 b2 b3 => hF base b1 b2 fun p hp => ⟨(b3 p hp).code, (b3 p hp).bm, (b3 p hp).gP⟩) hb
    (fun H hH hS => hsp H a ns hlen hH hS) fun H e s' z => z
end RL

set_option Elab.async false
set_option linter.all false
set_option maxRecDepth 100000
set_option maxHeartbeats 4000000
namespace RL
open PySem PySem.Spec PyProof.Rows L2 CwR
open Rep (rep)
/-! ### replace, f-strings, partition; data that may be None or a pair -/
section
variable [Tb] [Fz] {K : PySem.W.Frag} {σ : L2.St} {G : Hp} {te ta tb : TE} {x y z : Str}
theorem ev_replC (h : EvR K te σ G x) (hz : x.length + (x.length + 1) * z.length ≤ 16777216) : EvR K (tReplC te y z) σ G (Txt.replace x y z) := fun H e Q q =>
  h H e _ fun v G1 H1 g1 r1 => ⟨x, r1, hz, q _ G1 H1 g1 rfl⟩
/-- the parts of an f-string: told one by one -/
def EvJ (ts : List TE) (acc : Str) (σ : L2.St) (G : Hp) (out : Str) : Prop := ∀ H, Sub G H → ∀ Q : Str → Hp → Prop, (∀ G2 H2, Grow G H G2 H2 → Q out H2) → tJs ts acc σ H Q
theorem ej_nil {acc : Str} : EvJ [] acc σ G acc := fun H e Q q => q G H (Grow.refl e)
theorem EvJ.mono {ts : List TE} {acc out : Str} {G2 : Hp} (h : EvJ ts acc σ G out) (e : Same G G2) : EvJ ts acc σ G2 out := fun H s Q q => h H (un e s) Q fun G3 H3 g => q _ H3 (grow_up g e s)
theorem ej_cons {ts : List TE} {acc out : Str} (h : EvR K te σ G x) (hz : (acc ++ x).length ≤ sizeLine) (r : EvJ ts (acc ++ x) σ G out) : EvJ (te :: ts) acc σ G out := fun H e Q q =>
  h H e _ fun v G1 H1 g1 r1 => ⟨x, r1, hz, (r.mono g1.g) H1 g1.s Q fun G2 H2 g2 => q G2 H2 (g1.trans g2)⟩
theorem ev_fmt (h : EvR K te σ G x) (hz : x.length ≤ sizeLine) : EvR K (tFmt te) σ G x := fun H e Q q => h H e _ fun v G1 H1 g1 r1 => .inl ⟨x, r1, hz, q _ G1 H1 g1 rfl⟩
theorem ev_joined {ts : List TE} {out : Str} (h : EvJ ts Str.empty σ G out) : EvR K (fun σ H Q => tJs ts Str.empty σ H fun out H1 => Q (.str out) H1) σ G out := fun H e Q q => h H e _ fun G1 H1 g1 => q _ G1 H1 g1 rfl
theorem ev_partition (ha : EvR K ta σ G x) (hb : EvR K tb σ G y) (h1 : (y.length == 0) = false) (h2 : x.length ≤ sizeLine) :
    EvR K (tM1 (fun x xs H Q => ∃ a b, x = .str a ∧ xs = [.str b] ∧ (b.length == 0) = false ∧ a.length ≤ sizeLine ∧
      ∀ p, H p = none → Q (.ref p) (upd H p (.tup [.str (Txt.partition a b).1, .str (Txt.partition a b).2.1, .str (Txt.partition a b).2.2]))) ta tb) σ G (T3.mk (Txt.partition x y).1 (Txt.partition x y).2.1 (Txt.partition x y).2.2) := fun H e Q q =>
  ha H e _ fun v G1 H1 g1 r1 => ⟨⟨x, r1⟩, hb.mono g1.g H1 g1.s _ fun w G2 H2 g2 r2 => ⟨x, y, r1, by rw [show w = V.str y from r2], h1, h2, fun p hp =>
    q _ _ _ ((g1.trans g2).trans (Grow.new g2.s hp)) ⟨p, _, _, _, rfl, SqT.of upd_same, rfl, rfl, rfl⟩⟩⟩
end
/-- name = value, a token out -/
theorem pst_asg {X : Cx} {i : Nat} {x : Str} {e : Expr} {te : TE} {p q : Pos} (nd : X.N.Nodup) (at_ : X.N[i]? = some x) (loc : Loc X.env.scope x) (val : PET X e te) (sw : swapsWith e (some (.Name x q)) p.line X.env = pure false := by rfl) (hf : X.fn x = true ∨ X.env.scope.names.lookup x = some .local := by first | exact .inl rfl | exact .inr rfl | assumption) :
    PST X (.Assign [.Name x q] e p) (tAsg te (gName i)) := fun pins s σ H D one I h =>
  wpAny_Assign_Name (thn (val pins s σ H _ one I h) fun _ s1 ⟨_, H1, I1, r1, q1⟩ => store_ok I1 nd at_ loc r1 (fun s2 I2 => ⟨_, H1, I2, q1⟩) hf) sw
/-- a def that begins with a token out -/
theorem okT {P : Program} {w : World} {K : PySem.W.Frag} {mg : Str → Option Value} {base : Heap} {x qual : Str} {st : Stmt} {f : Addr} {fd : FuncData} {N ps : List Str} {k : Nat} {sp : Sp} (F : Fun K x qual st f fd) (S : FnScope N ps (defScope st))
    (hnc : ∀ y ∈ (defScope st).names, y.2 ≠ .cell) (hps : 1 ≤ ps.length) (len : ∀ vs H Q E, sp vs H Q E → vs.length = ps.length)
    (body : ∀ (cdv : Value) (A : Around) (outer : List Env) (s : Shared) (H : Hp) (vs : List V) (Q : VK) (E : XK), Room k (A.deeper (envOfC qual (defScope st) s.heap.objs.size f cdv)) → sp vs H Q E →
      ∃ t, PSsT (cxOf CX0 P w K mg base N qual (defScope st) f cdv A outer s H E) (defBody st) t ∧ t { nx := fun _ H' => Q .non H', rt := Q } (start N vs) H) :
    FnOk P w K mg base CX0 (k + 1) f fd ps sp := by
  obtain ⟨oc, od, kV, doc, pm, an, cdv, ct, osl, e, lk, hcd⟩ := F.ex
  subst e
  exact fn_ofT lk hcd S hnc hps len fun A outer s H vs Q E hr hs => body cdv A outer s H vs Q E hr hs
section
variable [Tb] [Fz] {α β γ : Type} [Rep α] [Rep β] [Rep γ] {K : PySem.W.Frag} {σ : L2.St} {G H : Hp} {te : TE} {D : Ends} {tz : TS} {i j k : Nat}
/-- a, b, c = a tuple of three -/
theorem s_asg3 {x : T3 α β γ} (e : Sub G H) (h : EvR K te σ G x) (n : ∀ u v w G2 H2, Grow G H G2 H2 → rep K x.a u G2 → rep K x.b v G2 → rep K x.c w G2 → D.nx (((σ.set i (some u)).set j (some v)).set k (some w)) H2) :
    tAsg te (gTup K 3 (gCons (gName i) (gCons (gName j) (gCons (gName k) gNil)))) D σ H :=
  h H e _ fun t G1 H1 g1 ⟨a, u, v, w, et, hA, r1, r2, r3⟩ => ⟨a, [u, v, w], et, sqT_mono g1.s.get hA, rfl, u, [v, w], rfl, v, [w], rfl, w, [], rfl, rfl, n u v w G1 H1 g1 r1 r2 r3⟩
theorem q_asg3 {x : T3 α β γ} (e : Sub G H) (h : EvR K te σ G x) (n : ∀ u v w G2 H2, Grow G H G2 H2 → rep K x.a u G2 → rep K x.b v G2 → rep K x.c w G2 → tz D (((σ.set i (some u)).set j (some v)).set k (some w)) H2) :
    tSeq (tAsg te (gTup K 3 (gCons (gName i) (gCons (gName j) (gCons (gName k) gNil))))) tz D σ H := s_asg3 (D := { D with nx := tz D }) e h n
end
/-! data as the library's own kind of it: None, texts, pairs -/
class Dat (α : Type) [Rep α] where
  d : α → PyData
  dp : ∀ {K : PySem.W.Frag} {H : Hp} {x : α} {v : V} {G : Hp}, Same G H → rep K x v G → Dp K H v (d x)
instance : Dat Str := ⟨PyData.str, fun {K H x v G} s h => by rw [show v = V.str x from h]; exact .str x⟩
instance : Dat Int := ⟨PyData.int, fun {K H x v G} s h => by rw [show v = V.int x from h]; exact .int x⟩
instance : Dat Bool := ⟨PyData.bool, fun {K H x v G} s h => by rw [show v = V.bl x from h]; exact .bl x⟩
def datO {α : Type} [Rep α] [Dat α] (o : Option α) : PyData := match o with
  | none => .none
  | some x => Dat.d x
instance {α : Type} [Rep α] [Dat α] : Dat (Option α) := ⟨datO, fun {K H x v G} s h => by
  cases x with
  | none => rw [show v = V.non from h]; exact .non
  | some y => exact Dat.dp s (show rep K y v G from h)⟩
instance {α β : Type} [Rep α] [Rep β] [Dat α] [Dat β] : Dat (α × β) := ⟨fun p => .tuple [Dat.d p.1, Dat.d p.2], fun {K H x v G} s h => by
  obtain ⟨a, u, w, ev, hA, r1, r2⟩ := h
  rw [ev]
  exact .tup (sqT_mono s hA) (.cons (Dat.dp s r1) (.cons (Dat.dp s r2) .nil))⟩
section
variable [Tb] [Fz] {α β : Type} [Rep α] [Rep β] [Dat α] [Dat β] {K : PySem.W.Frag} {σ : L2.St} {G : Hp} {ta tb : TE} {x : α} {y : β}
theorem ev_eqD (ha : EvR K ta σ G x) (hb : EvR K tb σ G y) (h : SeqAt.shaped (Dat.d x) = true ∧ SeqAt.shaped (Dat.d y) = true) : EvR K (tOp (rEqD K) ta tb) σ G (PyData.eqv (Dat.d x) (Dat.d y)) :=
  ev_op ha hb fun v w G1 H1 _ s hv hw Q q => ⟨_, _, Dat.dp s.get hv, Dat.dp s.get hw, h.1, h.2, q _ G1 H1 (Grow.refl s) rfl⟩
theorem ev_neD (ha : EvR K ta σ G x) (hb : EvR K tb σ G y) (h : SeqAt.shaped (Dat.d x) = true ∧ SeqAt.shaped (Dat.d y) = true) : EvR K (tOp (rNeD K) ta tb) σ G (!PyData.eqv (Dat.d x) (Dat.d y)) :=
  ev_op ha hb fun v w G1 H1 _ s hv hw Q q => ⟨_, _, Dat.dp s.get hv, Dat.dp s.get hw, h.1, h.2, q _ G1 H1 (Grow.refl s) rfl⟩
end
end RL

set_option Elab.async false
set_option linter.all false
set_option maxRecDepth 100000
set_option maxHeartbeats 1000000
/-! quoting by two replacements, and back -/
namespace RL
open PySem PySem.Spec PyProof.Rows L2 TL
theorem tl_rep {x y z : Str} (hy : 1 ≤ y.length) : tl (Txt.replace x y z) = StrLaws.replL (tl y) (tl z) (tl x) := StrLaws.replace_list hy
def esc (q : Nat) (z : List Nat) (l : List Nat) : List Nat := l.flatMap fun c => if c = q then z else [c]
theorem esc_cons (q : Nat) (z : List Nat) (c : Nat) (r : List Nat) : esc q z (c :: r) = (if c = q then z else [c]) ++ esc q z r := by
  unfold esc
  rw [List.flatMap_cons]
theorem rep_esc (q : Nat) (z : List Nat) : ∀ l : List Nat, StrLaws.replL [q] z l = esc q z l
  | [] => StrLaws.replL_nil
  | c :: r => by
    rw [esc_cons]
    by_cases h : c = q
    · rw [if_pos h, StrLaws.replL_hit (by simp) (by subst h; rfl)]
      show z ++ StrLaws.replL [q] z r = _
      rw [rep_esc q z r]
    · rw [if_neg h, StrLaws.replL_miss (by
        intro e
        have e2 : [c] = [q] := e
        exact h (List.cons.inj e2).1), rep_esc q z r]
      rfl
abbrev E1 (l : List Nat) := esc 92 [92, 92] l
abbrev E2 (l : List Nat) := esc 34 [92, 34] l
theorem e2_app (a b : List Nat) : E2 (a ++ b) = E2 a ++ E2 b := by unfold E2 esc; rw [List.flatMap_append]
theorem e2_head : ∀ l : List Nat, (E2 l).head? ≠ some 34
  | [] => by intro h; cases h
  | c :: r => by
    rw [show E2 (c :: r) = (if c = 34 then [92, 34] else [c]) ++ E2 r from esc_cons ..]
    by_cases h : c = 34
    · rw [if_pos h]; intro e; cases e
    · rw [if_neg h]
      intro e
      exact h (Option.some.inj e)
theorem miss34 {r : List Nat} (h : r.head? ≠ some 34) : ¬ (92 :: r).take ([92, 34] : List Nat).length = [92, 34] := by
  cases r with
  | nil => intro e; cases e
  | cons c r =>
    intro e
    have e2 : [92, c] = [92, 34] := e
    have e3 : c = 34 := (List.cons.inj (List.cons.inj e2).2).1
    exact h (by rw [e3]; rfl)
theorem missC {a b c : Nat} {r : List Nat} (h : c ≠ a) : ¬ (c :: r).take ([a, b] : List Nat).length = [a, b] := by
  intro e
  cases r with
  | nil => cases e
  | cons d r =>
    have e2 : [c, d] = [a, b] := e
    exact h (List.cons.inj e2).1
theorem un1 : ∀ l : List Nat, StrLaws.replL [92, 34] [34] (E2 (E1 l)) = E1 l
  | [] => StrLaws.replL_nil
  | c :: r => by
    rw [show E1 (c :: r) = (if c = 92 then [92, 92] else [c]) ++ E1 r from esc_cons .., e2_app]
    by_cases h : c = 92
    · rw [if_pos h]
      show StrLaws.replL [92, 34] [34] (92 :: 92 :: E2 (E1 r)) = 92 :: 92 :: E1 r
      rw [StrLaws.replL_miss (miss34 (by intro e; cases e)), StrLaws.replL_miss (miss34 (e2_head _)), un1 r]
    · rw [if_neg h]
      by_cases h2 : c = 34
      · subst h2
        show StrLaws.replL [92, 34] [34] (92 :: 34 :: E2 (E1 r)) = 34 :: E1 r
        rw [StrLaws.replL_hit (by simp) rfl]
        show 34 :: StrLaws.replL [92, 34] [34] (E2 (E1 r)) = _
        rw [un1 r]
      · have e : E2 [c] = [c] := by
          rw [show E2 [c] = (if c = 34 then [92, 34] else [c]) ++ E2 [] from esc_cons .., if_neg h2]
          rfl
        rw [e]
        show StrLaws.replL [92, 34] [34] (c :: E2 (E1 r)) = c :: E1 r
        rw [StrLaws.replL_miss (missC h), un1 r]
theorem un2 : ∀ l : List Nat, StrLaws.replL [92, 92] [92] (E1 l) = l
  | [] => StrLaws.replL_nil
  | c :: r => by
    rw [show E1 (c :: r) = (if c = 92 then [92, 92] else [c]) ++ E1 r from esc_cons ..]
    by_cases h : c = 92
    · rw [if_pos h]
      subst h
      show StrLaws.replL [92, 92] [92] (92 :: 92 :: E1 r) = 92 :: r
      rw [StrLaws.replL_hit (by simp) rfl]
      show 92 :: StrLaws.replL [92, 92] [92] (E1 r) = _
      rw [un2 r]
    · rw [if_neg h]
      show StrLaws.replL [92, 92] [92] (c :: E1 r) = c :: r
      rw [StrLaws.replL_miss (missC h), un2 r]
theorem tl_bs : tl ("\\" : Str) = [92] := by decide +kernel
theorem tl_bs2 : tl ("\\\\" : Str) = [92, 92] := by decide +kernel
theorem tl_q : tl ("\"" : Str) = [34] := by decide +kernel
theorem tl_bq : tl ("\\\"" : Str) = [92, 34] := by decide +kernel
theorem esc_is (x : Str) : tl (Txt.replace (Txt.replace x ("\\" : Str) ("\\\\" : Str)) ("\"" : Str) ("\\\"" : Str)) = E2 (E1 (tl x)) := by
  rw [tl_rep (by decide), tl_rep (by decide), tl_bs, tl_bs2, tl_q, tl_bq, rep_esc, rep_esc]
theorem unesc_is (x : Str) (l : List Nat) (h : tl x = E2 (E1 l)) : tl (Txt.replace (Txt.replace x ("\\\"" : Str) ("\"" : Str)) ("\\\\" : Str) ("\\" : Str)) = l := by
  rw [tl_rep (by decide), tl_rep (by decide), tl_bs, tl_bs2, tl_q, tl_bq, h, un1, un2]
theorem cut_mid {α : Type} (a b : α) (m : List α) : cutL (a :: (m ++ [b])) (some 1) (some (-1)) = m := by
  unfold cutL
  have hl : (a :: (m ++ [b])).length = m.length + 2 := by simp
  rw [hl]
  have e1 : HT.sIx (m.length + 2) 0 (some 1) = 1 := by
    unfold HT.sIx
    simp
    try omega
  have e2 : HT.sIx (m.length + 2) (m.length + 2) (some (-1)) = m.length + 1 := by
    unfold HT.sIx
    simp
    try omega
  rw [e1, e2]
  show ((m ++ [b]).take (m.length + 1 - 1)) = m
  rw [Nat.add_sub_cancel, List.take_left]
end RL

set_option Elab.async false
set_option linter.all false
set_option maxRecDepth 100000
set_option maxHeartbeats 4000000
namespace RL
open PySem PySem.Spec PyProof.Rows L2 CwR
open Rep (rep)
/-! ### a text sign by sign; while; things of several kinds; x in l over data -/
def sgn (z : Str) : List Str := z.cps.toList.map fun c => ⟨#[c]⟩
theorem sgn_len (z : Str) : (sgn z).length = z.cps.size := by
  unfold sgn
  rw [List.length_map, Array.length_toList]
theorem sgn_at {z : Str} {i c : Nat} (h : z.cps[i]? = some c) : (sgn z)[i]? = some ⟨#[c]⟩ := by
  unfold sgn
  rw [List.getElem?_map, Array.getElem?_toList, h]
  rfl
section
variable [Tb] [Fz] {α β : Type} [Rep α] [Rep β] {K : PySem.W.Frag} {σ : L2.St} {G H : Hp} {te ta tl : TE} {tt : TT} {t u tb tz : TS} {D : Ends} {x : α} {b : Bool} {i j : Nat} {a : Addr}
theorem s_forS {l : Str} {g : TG} (e : Sub G H) (h : EvR K tl σ G l) (k : ∀ G1 H1 xs, Grow G H G1 H1 → Reps K (sgn l) xs G1 → ∃ Pv : Nat → L2.St → Hp → Prop, Pv 0 σ H1 ∧ (∀ i σ' H', Pv i σ' H' → Sub G1 H') ∧
    (∀ i x v σ' H', (sgn l)[i]? = some x → rep K x v G1 → Pv i σ' H' → g v σ' H' fun σ2 H2 => tb { D with nx := Pv (i + 1), ct := Pv (i + 1), bk := D.nx } σ2 H2) ∧ ∀ σ' H', Pv (sgn l).length σ' H' → D.nx σ' H') : tFor (iStr tl) g tb D σ H :=
  h H e _ fun v G1 H1 g1 r => by
    obtain ⟨Pv, p0, ps, pt, pe⟩ := k G1 H1 _ g1 (reps_of_flat (sgn l))
    refine ⟨l, r, for_it walk_str Pv p0 (fun _ _ _ _ _ => trivial) (fun i x σ' H' H2 hi p y => ?_) fun σ' H' p => pe σ' H' (by rw [sgn_len]; exact p)⟩
    obtain ⟨e2, c, hc, ex⟩ := y
    subst e2
    exact pt i ⟨#[c]⟩ x σ' H2 (sgn_at hc) ex p
theorem q_forS {l : Str} {g : TG} (e : Sub G H) (h : EvR K tl σ G l) (k : ∀ G1 H1 xs, Grow G H G1 H1 → Reps K (sgn l) xs G1 → ∃ Pv : Nat → L2.St → Hp → Prop, Pv 0 σ H1 ∧ (∀ i σ' H', Pv i σ' H' → Sub G1 H') ∧
    (∀ i x v σ' H', (sgn l)[i]? = some x → rep K x v G1 → Pv i σ' H' → g v σ' H' fun σ2 H2 => tb { D with nx := Pv (i + 1), ct := Pv (i + 1), bk := tz D } σ2 H2) ∧ ∀ σ' H', Pv (sgn l).length σ' H' → tz D σ' H') : tSeq (tFor (iStr tl) g tb) tz D σ H :=
  s_forS (D := { D with nx := tz D }) e h k
end
/-! while -/
def whl {S : Type} (c : S → Bool) (f : S → S) : Nat → S → S
  | 0, s => s
  | n + 1, s => cond (c s) (whl c f n (f s)) s
theorem whl_stop {S : Type} {c : S → Bool} {f : S → S} {s : S} (h : c s = false) : ∀ n, whl c f n s = s
  | 0 => rfl
  | n + 1 => by show cond (c s) _ s = s; rw [h]; rfl
theorem whl_fuel {S : Type} {c : S → Bool} {f : S → S} {I : S → Prop} {μ : S → Nat} (hd : ∀ s, I s → c s = true → I (f s) ∧ μ (f s) < μ s) : ∀ (m n : Nat) (s : S), n ≤ m → I s → μ s ≤ n → whl c f n s = whl c f (μ s) s
  | 0, n, s, hn, hi, h => by
    have e1 : n = 0 := by omega
    have e2 : μ s = 0 := by omega
    rw [e1, e2]
  | m + 1, n, s, hn, hi, h => by
    cases q : c s with
    | false => rw [whl_stop q, whl_stop q]
    | true =>
      obtain ⟨i2, l⟩ := hd s hi q
      obtain ⟨k, ek⟩ : ∃ k, μ s = k + 1 := ⟨μ s - 1, by omega⟩
      obtain ⟨k2, ek2⟩ : ∃ k, n = k + 1 := ⟨n - 1, by omega⟩
      rw [ek, ek2]
      show cond (c s) (whl c f k2 (f s)) s = cond (c s) (whl c f k (f s)) s
      rw [q]
      show whl c f k2 (f s) = whl c f k (f s)
      rw [whl_fuel hd m k2 (f s) (by omega) i2 (by omega), whl_fuel hd m k (f s) (by omega) i2 (by omega)]
theorem whl_turn {S : Type} {c : S → Bool} {f : S → S} {I : S → Prop} {μ : S → Nat} (hd : ∀ s, I s → c s = true → I (f s) ∧ μ (f s) < μ s) {s : S} (hi : I s) (h : c s = true) : whl c f (μ s) s = whl c f (μ (f s)) (f s) := by
  obtain ⟨i2, l⟩ := hd s hi h
  obtain ⟨k, ek⟩ : ∃ k, μ s = k + 1 := ⟨μ s - 1, by omega⟩
  rw [ek]
  show cond (c s) (whl c f k (f s)) s = _
  rw [h]
  exact whl_fuel hd k k (f s) (Nat.le_refl _) i2 (by omega)
section
variable [Tb] [Fz] {K : PySem.W.Frag} {σ : L2.St} {G H : Hp} {tt : TT} {tb tz : TS} {D : Ends}
theorem s_whl {S : Type} (c : S → Bool) (f : S → S) (I : S → Prop) (μ : S → Nat) (s0 : S) (i0 : I s0) (hd : ∀ s, I s → c s = true → I (f s) ∧ μ (f s) < μ s) (e : Sub G H)
    (k : ∀ G1 H1, Grow G H G1 H1 → ∃ Pv : S → L2.St → Hp → Prop, Pv s0 σ H1 ∧ ∀ s σ' H', I s → Pv s σ' H' → ∃ G', Sub G' H' ∧ EvB tt σ' G' (c s) ∧
      (c s = true → ∀ G2 H2, Grow G' H' G2 H2 → tb { D with nx := Pv (f s), ct := Pv (f s), bk := D.nx } σ' H2) ∧ (c s = false → ∀ G2 H2, Grow G' H' G2 H2 → s = whl c f (μ s0) s0 → D.nx σ' H2)) : tWhile tt tb D σ H := by
  obtain ⟨Pv, p0, pt⟩ := k G H (Grow.refl e)
  refine ⟨fun m σ' H' => ∃ s, I s ∧ m = μ s ∧ whl c f (μ s) s = whl c f (μ s0) s0 ∧ Pv s σ' H', ⟨_, s0, i0, rfl, rfl, p0⟩, ?_⟩
  rintro m σ' H' ⟨s, hi, rfl, hw, p⟩
  obtain ⟨G', e', hc, h1, h2⟩ := pt s σ' H' hi p
  refine hc H' e' _ fun G2 H2 g2 => ?_
  cases q : c s with
  | true =>
    refine iteT ⟨Pv (f s), fun σ3 H3 p3 => ?_, h1 q G2 H2 g2⟩
    obtain ⟨i2, l⟩ := hd s hi q
    exact ⟨_, l, f s, i2, rfl, by rw [← hw, whl_turn hd hi q], p3⟩
  | false => exact iteF (h2 q G2 H2 g2 (by rw [← hw, whl_stop q]))
theorem q_whl {S : Type} (c : S → Bool) (f : S → S) (I : S → Prop) (μ : S → Nat) (s0 : S) (i0 : I s0) (hd : ∀ s, I s → c s = true → I (f s) ∧ μ (f s) < μ s) (e : Sub G H)
    (k : ∀ G1 H1, Grow G H G1 H1 → ∃ Pv : S → L2.St → Hp → Prop, Pv s0 σ H1 ∧ ∀ s σ' H', I s → Pv s σ' H' → ∃ G', Sub G' H' ∧ EvB tt σ' G' (c s) ∧
      (c s = true → ∀ G2 H2, Grow G' H' G2 H2 → tb { D with nx := Pv (f s), ct := Pv (f s), bk := tz D } σ' H2) ∧ (c s = false → ∀ G2 H2, Grow G' H' G2 H2 → s = whl c f (μ s0) s0 → tz D σ' H2)) : tSeq (tWhile tt tb) tz D σ H :=
  s_whl (D := { D with nx := tz D }) c f I μ s0 i0 hd e k
end
/-! data -/
section
variable {α β : Type} [Rep α] [Rep β]
theorem _root_.L2.Room.units1 {k : Nat} {A : Around} (r : Room k A) : A.units + 65 < cLine := by have := r.un; omega
instance : Dat Unit := ⟨fun _ => .none, fun {K H x v G} s h => by rw [show v = V.non from h]; exact .non⟩
def datS {α β : Type} [Rep α] [Rep β] [Dat α] [Dat β] (o : Sum α β) : PyData := match o with
  | .inl x => Dat.d x
  | .inr x => Dat.d x
instance [Dat α] [Dat β] : Dat (Sum α β) := ⟨datS, fun {K H x v G} s h => by
  cases x with
  | inl y => exact Dat.dp s (show rep K y v G from h)
  | inr y => exact Dat.dp s (show rep K y v G from h)⟩
theorem dps {K : PySem.W.Frag} {G H : Hp} [Dat α] {s : Same G H} : ∀ {l : List α} {vs : List V}, Reps K l vs G → DpAll K H vs (l.map Dat.d)
  | _, _, .nil => .nil
  | _, _, .cons r t => .cons (Dat.dp s r) (dps (s := s) t)
instance [Dat α] : Dat (Tpl α) := ⟨fun t => .tuple (t.l.map Dat.d), fun {K H x v G} s h => by
  obtain ⟨a, xs, ev, hA, r⟩ := h
  rw [ev]
  exact .tup (sqT_mono s hA) (dps (s := s) r)⟩
instance [Dat α] : Dat (List α) := ⟨fun t => .list (t.map Dat.d), fun {K H x v G} s h => by
  obtain ⟨a, xs, ev, hA, r⟩ := h
  rw [ev]
  exact .lst (SqL.of (s _ _ hA)) (dps (s := s) r)⟩
def memD [Dat α] (x : α) (l : List α) : Bool := (l.map Dat.d).any fun z => PyData.eqv z (Dat.d x)
end
/-! things of several kinds -/
instance {α β : Type} [Inhabited α] : Inhabited (Sum α β) := ⟨Sum.inl default⟩
class NoS (α : Type) [Rep α] where
  ty : ∀ [Tb] [Fz] {K : PySem.W.Frag} {x : α} {v : V} {G H : Hp}, Sub G H → rep K x v G → ∃ t, TyX K H v (.type t) ∧ PySem.W.kitOne K (.type t) (.type "str") = some false
instance : NoS Int := ⟨fun {_ _ K x v G H} s r => ⟨"int", by rw [show v = V.int x from r]; exact .base (.int x), kit_ty (by decide +kernel)⟩⟩
instance : NoS Bool := ⟨fun {_ _ K x v G H} s r => ⟨"bool", by rw [show v = V.bl x from r]; exact .base (.bl x), kit_ty (by decide +kernel)⟩⟩
instance : NoS Unit := ⟨fun {_ _ K x v G H} s r => ⟨"NoneType", by rw [show v = V.non from r]; exact .base .non, kit_ty (by decide +kernel)⟩⟩
instance {α : Type} [Rep α] : NoS (Tpl α) := ⟨fun {_ _ K x v G H} s r => by
  obtain ⟨a, xs, ev, hA, _⟩ := r
  exact ⟨"tuple", by rw [ev]; exact tyX_tup (sqT_mono s.get hA), kit_ty (by decide +kernel)⟩⟩
instance {α β : Type} [Rep α] [Rep β] [NoS α] [NoS β] : NoS (Sum α β) := ⟨fun {_ _ K x v G H} s r => by
  cases x with
  | inl x => exact NoS.ty s (show rep K x v G from r)
  | inr x => exact NoS.ty s (show rep K x v G from r)⟩
section
variable [Tb] [Fz] {α β : Type} [Rep α] [Rep β] {K : PySem.W.Frag} {σ : L2.St} {G H : Hp} {te ta tb : TE}
theorem ev_Inl {x : α} (h : EvR K te σ G x) : EvR K te σ G (Sum.inl x : Sum α β) := h
theorem ev_Inr {x : β} (h : EvR K te σ G x) : EvR K te σ G (Sum.inr x : Sum α β) := h
theorem ev_isStrS [NoS β] {z : Sum Str β} (ha : EvR K te σ G z) : EvR K (tCB (rIsi K) (tCons te (tCons (tC (.ty "str")) tNil))) σ G z.isLeft := fun H e Q q =>
  ha H e _ fun v G1 H1 g1 r => by
    cases z with
    | inl x => exact ⟨v, .ty "str", .type "str", .type "str", true, rfl, .ty _, by rw [show v = V.str x from r]; exact .base (.str x), kit_ty (by decide +kernel), q _ G1 H1 g1 rfl⟩
    | inr x =>
      obtain ⟨t, h1, h2⟩ := NoS.ty g1.s (show rep K x v G1 from r)
      exact ⟨v, .ty "str", .type t, .type "str", false, rfl, .ty _, h1, h2, q _ G1 H1 g1 rfl⟩
theorem un_inl [Inhabited α] {z : Sum α β} {v : V} (r : rep K z v G) (h : z.isLeft = true) : rep K (getL z) v G := by
  cases z with
  | inl x => exact r
  | inr x => cases h
theorem getL_inl [Inhabited α] {x : α} : getL (Sum.inl x : Sum α β) = x := rfl
theorem not_f {b : Bool} (h : (!b) = false) : b = true := by cases b <;> simp_all
theorem l_inl {x : α} {v : V} (r : rep K (Sum.inl x : Sum α β) v G) : rep K x v G := r
theorem ev_inD [Dat α] {x : α} {l : List α} (ha : EvR K ta σ G x) (hb : EvR K tb σ G l) (h : SeqAt.shaped (Dat.d x) = true ∧ SeqAt.shaped (Dat.d l) = true) : EvR K (tOp (rInD K) ta tb) σ G (memD x l) :=
  ev_op ha hb fun v w G1 H1 _ s hv hw Q q => ⟨_, _, Dat.dp s.get hv, Dat.dp s.get hw, h.1, h.2, q _ G1 H1 (Grow.refl s) rfl⟩
end
theorem op_inDK {X : Cx} {K : PySem.W.Frag} (hu : X.A.units + 65 < cLine) (h : X.K = K := by rfl) : OpR X (compareOp .In) (rInD K) := by subst h; exact op_inD hu
end RL

set_option Elab.async false
set_option linter.all false
set_option maxRecDepth 100000
set_option maxHeartbeats 4000000
namespace RL
open PySem PySem.Spec PyProof.Rows L2 CwR
open Rep (rep)
/-! ### what may be no text -/
theorem un_someD {α : Type} [Rep α] [Inhabited α] {K : PySem.W.Frag} {G : Hp} {z : Option α} {v : V} (r : rep K z v G) (h : z.isSome = true) : rep K (Option.getD z default) v G := by
  cases z with
  | none => cases h
  | some x => exact r
theorem ev_isStrO [Tb] [Fz] {K : PySem.W.Frag} {σ : L2.St} {G : Hp} {te : TE} {z : Option Str} (ha : EvR K te σ G z) : EvR K (tCB (rIsi K) (tCons te (tCons (tC (.ty "str")) tNil))) σ G z.isSome := fun H e Q q =>
  ha H e _ fun v G1 H1 g1 r => by
    cases z with
    | some x => exact ⟨v, .ty "str", .type "str", .type "str", true, rfl, .ty _, by rw [show v = V.str x from r]; exact .base (.str x), kit_ty (by decide +kernel), q _ G1 H1 g1 rfl⟩
    | none => exact ⟨v, .ty "str", .type "NoneType", .type "str", false, rfl, .ty _, by rw [show v = V.non from r]; exact .base .non, kit_ty (by decide +kernel), q _ G1 H1 g1 rfl⟩
theorem not_fA {b : Bool} (h : (!b) = false) : b = true := by cases b <;> simp_all
def optAny (o : Option Str) : Sum Str (Sum Int (Sum Unit (Sum Bool (Tpl Str)))) := match o with
  | none => .inr (.inr (.inl ()))
  | some s => .inl s
theorem ev_optAny [Tb] [Fz] {K : PySem.W.Frag} {σ : L2.St} {G : Hp} {te : TE} {z : Option Str} (ha : EvR K te σ G z) : EvR K te σ G (optAny z) := fun H e Q q =>
  ha H e _ fun v G1 H1 g1 r => by
    cases z with
    | some x => exact q _ G1 H1 g1 r
    | none => exact q _ G1 H1 g1 r
end RL

set_option Elab.async false
set_option linter.all false
set_option maxRecDepth 100000
set_option maxHeartbeats 4000000
namespace RL
open PySem PySem.Spec PyProof.Rows L2 CwR
open Rep (rep)
/-! ### data of any kind -/
mutual
theorem dp_mono {K : PySem.W.Frag} {G G' : Hp} (e : SameD G G') : ∀ (d : PyData) (v : V), Dp K G v d → Dp K G' v d
  | .none, _, h => by cases h; exact .non
  | .bool b, _, h => by cases h; exact .bl b
  | .int i, _, h => by cases h; exact .int i
  | .str x, _, h => by cases h; exact .str x
  | .list ds, _, h => by
    cases h with
    | lst hs ha => exact .lst (sqL_monoD e hs) (dpAll_mono e ds _ ha)
  | .tuple ds, _, h => by
    cases h with
    | tup hs ha => exact .tup (sqT_monoD e hs) (dpAll_mono e ds _ ha)
  | .dict _, _, h => by cases h
theorem dpAll_mono {K : PySem.W.Frag} {G G' : Hp} (e : SameD G G') : ∀ (ds : List PyData) (vs : List V), DpAll K G vs ds → DpAll K G' vs ds
  | [], _, h => by cases h; exact .nil
  | d :: ds, _, h => by
    cases h with
    | cons h1 h2 => exact .cons (dp_mono e d _ h1) (dpAll_mono e ds _ h2)
end
instance : Rep PyData := ⟨fun K d v G => Dp K G v d, fun e h => dp_mono e _ _ h⟩
instance : Dat PyData := ⟨fun d => d, fun s h => dp_mono (same_d s) _ _ h⟩
instance : Inhabited PyData := ⟨.none⟩
theorem dpAll_reps {K : PySem.W.Frag} {G : Hp} : ∀ {ds : List PyData} {vs : List V}, DpAll K G vs ds → Reps K ds vs G
  | [], _, h => by cases h; exact .nil
  | d :: ds, _, h => by
    cases h with
    | cons h1 h2 => exact .cons h1 (dpAll_reps h2)
theorem reps_dpAll {K : PySem.W.Frag} {G : Hp} : ∀ {ds : List PyData} {vs : List V}, Reps K ds vs G → DpAll K G vs ds
  | _, _, .nil => .nil
  | _, _, .cons h t => .cons h (reps_dpAll t)
def isStrD : PyData → Bool
  | .str _ => true
  | _ => false
def isBoolD : PyData → Bool
  | .bool _ => true
  | _ => false
def isNumD : PyData → Bool
  | .int _ => true
  | _ => false
def isIntD : PyData → Bool
  | .int _ => true
  | .bool _ => true
  | _ => false
def isTupD : PyData → Bool
  | .tuple _ => true
  | _ => false
def isListD : PyData → Bool
  | .list _ => true
  | _ => false
def isNonD : PyData → Bool
  | .none => true
  | _ => false
def strD : PyData → Str
  | .str s => s
  | _ => Str.empty
def intD : PyData → Int
  | .int i => i
  | _ => 0
def boolD : PyData → Bool
  | .bool b => b
  | _ => false
def tupD : PyData → List PyData
  | .tuple ds => ds
  | _ => []
theorem num_of {d : PyData} (h1 : isIntD d = true) (h2 : (!isBoolD d) = true) : isNumD d = true := by
  cases d <;> simp_all [isIntD, isBoolD, isNumD]
theorem or_l {a b : Bool} (h : ((!a) || b) = false) : a = true := by cases a <;> simp_all
theorem or_r {a b : Bool} (h : (a || b) = false) : b = false := by cases a <;> simp_all
section
variable {K : PySem.W.Frag} {d : PyData} {v : V} {G : Hp}
theorem un_strD (r : rep K d v G) (h : isStrD d = true) : rep K (strD d) v G := by
  cases d <;> first | cases h | skip
  have r : Dp K G v (.str _) := r
  cases r
  rfl
theorem un_intD (r : rep K d v G) (h : isNumD d = true) : rep K (intD d) v G := by
  cases d <;> first | cases h | skip
  have r : Dp K G v (.int _) := r
  cases r
  rfl
theorem un_boolD (r : rep K d v G) (h : isBoolD d = true) : rep K (boolD d) v G := by
  cases d <;> first | cases h | skip
  have r : Dp K G v (.bool _) := r
  cases r
  rfl
theorem un_tupD (r : rep K d v G) (h : isTupD d = true) : rep K (Tpl.mk (tupD d)) v G := by
  cases d <;> first | cases h | skip
  have r : Dp K G v (.tuple _) := r
  cases r with
  | tup hs ha => exact ⟨_, _, rfl, hs, dpAll_reps ha⟩
end
def tyD : PyData → String
  | .none => "NoneType"
  | .bool _ => "bool"
  | .int _ => "int"
  | .str _ => "str"
  | .list _ => "list"
  | .tuple _ => "tuple"
  | .dict _ => "dict"
theorem tyX_lst {K : PySem.W.Frag} {H : Hp} {a : Addr} {xs : List V} (h : SqL K H a xs) : TyX K H (.ref a) (.type "list") := by
  rcases h with h | ⟨o, _, _, h, hc, _⟩
  · rcases h with h | ⟨o, h⟩
    · exact .base (.lst h)
    · exact .base (.frz h)
  · exact .kList h hc
section
variable [Tb] [Fz] {α β : Type} [Rep α] [Rep β] {K : PySem.W.Frag} {σ : L2.St} {G H : Hp} {te ta tb tl : TE} {d : PyData}
theorem ty_dp {H : Hp} {v : V} : ∀ {d : PyData}, Dp K H v d → TyX K H v (.type (tyD d))
  | .none, h => by cases h; exact .base .non
  | .bool b, h => by cases h; exact .base (.bl b)
  | .int b, h => by cases h; exact .base (.int b)
  | .str b, h => by cases h; exact .base (.str b)
  | .list b, h => by
    cases h with
    | lst hs _ => exact tyX_lst hs
  | .tuple b, h => by
    cases h with
    | tup hs _ => exact tyX_tup hs
  | .dict b, h => by cases h
theorem ev_toD [Dat α] {x : α} (h : EvR K te σ G x) : EvR K te σ G (Dat.d x : PyData) := fun H e Q q => h H e Q fun v G1 H1 g1 r => q v G1 H1 g1 (Dat.dp (Same.refl _) r)
theorem ev_asStr (h : EvR K te σ G d) (hs : isStrD d = true) : EvR K te σ G (strD d) := fun H e Q q => h H e Q fun v G1 H1 g1 r => q v G1 H1 g1 (un_strD r hs)
theorem ev_asInt (h : EvR K te σ G d) (hs : isNumD d = true) : EvR K te σ G (intD d) := fun H e Q q => h H e Q fun v G1 H1 g1 r => q v G1 H1 g1 (un_intD r hs)
theorem ev_asBool (h : EvR K te σ G d) (hs : isBoolD d = true) : EvR K te σ G (boolD d) := fun H e Q q => h H e Q fun v G1 H1 g1 r => q v G1 H1 g1 (un_boolD r hs)
theorem ev_asTup (h : EvR K te σ G d) (hs : isTupD d = true) : EvR K te σ G (Tpl.mk (tupD d)) := fun H e Q q => h H e Q fun v G1 H1 g1 r => q v G1 H1 g1 (un_tupD r hs)
theorem ev_isD {t : String} {f : PyData → Bool} (hk : ∀ d, isNonD d = isNonD d → PySem.W.kitOne K (.type (tyD d)) (.type t) = some (f d)) (ha : EvR K te σ G d) : EvR K (tCB (rIsi K) (tCons te (tCons (tC (.ty t)) tNil))) σ G (f d) := fun H e Q q =>
  ha H e _ fun v G1 H1 g1 r => ⟨v, .ty t, .type (tyD d), .type t, f d, rfl, .ty _, ty_dp (dp_mono (same_d g1.s.get) _ _ r), hk d rfl, q _ G1 H1 g1 rfl⟩
theorem ev_isStrD (ha : EvR K te σ G d) : EvR K (tCB (rIsi K) (tCons te (tCons (tC (.ty "str")) tNil))) σ G (isStrD d) := ev_isD (fun d _ => match d with
  | .none => kit_ty (show kitB "NoneType" "str" = some false by decide +kernel)
  | .bool _ => kit_ty (show kitB "bool" "str" = some false by decide +kernel)
  | .int _ => kit_ty (show kitB "int" "str" = some false by decide +kernel)
  | .str _ => kit_ty (show kitB "str" "str" = some true by decide +kernel)
  | .list _ => kit_ty (show kitB "list" "str" = some false by decide +kernel)
  | .tuple _ => kit_ty (show kitB "tuple" "str" = some false by decide +kernel)
  | .dict _ => kit_ty (show kitB "dict" "str" = some false by decide +kernel)) ha
theorem ev_isIntD (ha : EvR K te σ G d) : EvR K (tCB (rIsi K) (tCons te (tCons (tC (.ty "int")) tNil))) σ G (isIntD d) := ev_isD (fun d _ => match d with
  | .none => kit_ty (show kitB "NoneType" "int" = some false by decide +kernel)
  | .bool _ => kit_ty (show kitB "bool" "int" = some true by decide +kernel)
  | .int _ => kit_ty (show kitB "int" "int" = some true by decide +kernel)
  | .str _ => kit_ty (show kitB "str" "int" = some false by decide +kernel)
  | .list _ => kit_ty (show kitB "list" "int" = some false by decide +kernel)
  | .tuple _ => kit_ty (show kitB "tuple" "int" = some false by decide +kernel)
  | .dict _ => kit_ty (show kitB "dict" "int" = some false by decide +kernel)) ha
theorem ev_isBoolD (ha : EvR K te σ G d) : EvR K (tCB (rIsi K) (tCons te (tCons (tC (.ty "bool")) tNil))) σ G (isBoolD d) := ev_isD (fun d _ => match d with
  | .none => kit_ty (show kitB "NoneType" "bool" = some false by decide +kernel)
  | .bool _ => kit_ty (show kitB "bool" "bool" = some true by decide +kernel)
  | .int _ => kit_ty (show kitB "int" "bool" = some false by decide +kernel)
  | .str _ => kit_ty (show kitB "str" "bool" = some false by decide +kernel)
  | .list _ => kit_ty (show kitB "list" "bool" = some false by decide +kernel)
  | .tuple _ => kit_ty (show kitB "tuple" "bool" = some false by decide +kernel)
  | .dict _ => kit_ty (show kitB "dict" "bool" = some false by decide +kernel)) ha
theorem ev_isTupD (ha : EvR K te σ G d) : EvR K (tCB (rIsi K) (tCons te (tCons (tC (.ty "tuple")) tNil))) σ G (isTupD d) := ev_isD (fun d _ => match d with
  | .none => kit_ty (show kitB "NoneType" "tuple" = some false by decide +kernel)
  | .bool _ => kit_ty (show kitB "bool" "tuple" = some false by decide +kernel)
  | .int _ => kit_ty (show kitB "int" "tuple" = some false by decide +kernel)
  | .str _ => kit_ty (show kitB "str" "tuple" = some false by decide +kernel)
  | .list _ => kit_ty (show kitB "list" "tuple" = some false by decide +kernel)
  | .tuple _ => kit_ty (show kitB "tuple" "tuple" = some true by decide +kernel)
  | .dict _ => kit_ty (show kitB "dict" "tuple" = some false by decide +kernel)) ha
theorem ev_isList {l : List α} (ha : EvR K te σ G l) : EvR K (tCB (rIsi K) (tCons te (tCons (tC (.ty "list")) tNil))) σ G true := fun H e Q q =>
  ha H e _ fun v G1 H1 g1 ⟨a, xs, ev, hA, r⟩ => ⟨v, .ty "list", .type "list", .type "list", true, rfl, .ty _, by rw [ev]; exact tyX_lst (SqL.of (g1.s _ _ hA)), kit_ty (by decide +kernel), q _ G1 H1 g1 rfl⟩
/-- methods of texts, with more arguments -/
theorem ev_stripC {s c : Str} (ha : EvR K ta σ G s) (hb : EvR K tb σ G c) (h : s.length ≤ sizeLine) : EvR K (tM1 (fun x xs H Q => ∃ a b, x = .str a ∧ xs = [.str b] ∧ a.length ≤ sizeLine ∧ Q (.str (Txt.stripChars a b)) H) ta tb) σ G (Txt.stripChars s c) := fun H e Q q =>
  ha H e _ fun v G1 H1 g1 r1 => ⟨⟨s, r1⟩, hb.mono g1.g H1 g1.s _ fun w G2 H2 g2 r2 => ⟨s, c, r1, by rw [show w = V.str c from r2], h, q _ G2 H2 (g1.trans g2) rfl⟩⟩
theorem ev_lstripC {s c : Str} (ha : EvR K ta σ G s) (hb : EvR K tb σ G c) (h : s.length ≤ sizeLine) : EvR K (tM1 (fun x xs H Q => ∃ a b, x = .str a ∧ xs = [.str b] ∧ a.length ≤ sizeLine ∧ Q (.str (Txt.lstripChars a b)) H) ta tb) σ G (Txt.lstripChars s c) := fun H e Q q =>
  ha H e _ fun v G1 H1 g1 r1 => ⟨⟨s, r1⟩, hb.mono g1.g H1 g1.s _ fun w G2 H2 g2 r2 => ⟨s, c, r1, by rw [show w = V.str c from r2], h, q _ G2 H2 (g1.trans g2) rfl⟩⟩
/-- int(text), int(bool), str(text or number) -/
theorem ev_intS {s : Str} {n : Int} (ha : EvR K ta σ G s) (h : PySem.intText? s = some n ∧ s.length ≤ 640) : EvR K (tCB (fun xs H Q => ∃ a n, xs = [.str a] ∧ PySem.intText? a = some n ∧ a.length ≤ 640 ∧ Q (.int n) H) (tCons ta tNil)) σ G n := fun H e Q q =>
  ha H e _ fun v G1 H1 g1 r1 => ⟨s, n, by rw [show v = V.str s from r1], h.1, h.2, q _ G1 H1 g1 rfl⟩
theorem ev_intB {b : Bool} (ha : EvR K ta σ G b) : EvR K (tCB (fun xs H Q => (∃ i, xs = [.int i] ∧ Q (.int i) H) ∨ ∃ k, xs = [.bl k] ∧ Q (.int (if k then 1 else 0)) H) (tCons ta tNil)) σ G (if b = true then (1 : Int) else 0) := fun H e Q q =>
  ha H e _ fun v G1 H1 g1 r1 => .inr ⟨b, by rw [show v = V.bl b from r1], q _ G1 H1 g1 rfl⟩
def strOfD : PyData → Str
  | .str s => s
  | .int i => PySem.Str.ofString (toString i)
  | _ => Str.empty
def rStrA : List V → Hp → VK → Prop := fun xs H Q => (∃ a, xs = [.str a] ∧ Q (.str a) H) ∨ ∃ i, xs = [.int i] ∧ i.natAbs.log2 < 1920 ∧ Q (.str (toString i)) H
theorem call_strA {X : Cx} : CallR X (.type "str") rStrA := CallR.or SkE.call_str_str call_str_int
theorem ev_strD (ha : EvR K ta σ G d) (h : isStrD d = true ∨ isNumD d = true ∧ (intD d).natAbs.log2 < 1920) : EvR K (tCB rStrA (tCons ta tNil)) σ G (strOfD d) := fun H e Q q =>
  ha H e _ fun v G1 H1 g1 r1 => by
    have r1 : Dp K G1 v d := r1
    cases d with
    | str s => cases r1; exact .inl ⟨s, rfl, q _ G1 H1 g1 rfl⟩
    | int i =>
      cases r1
      refine .inr ⟨i, rfl, ?_, q _ G1 H1 g1 rfl⟩
      rcases h with h | h
      · cases h
      · exact h.2
    | none => rcases h with h | ⟨h, _⟩ <;> exact Bool.noConfusion h
    | bool _ => rcases h with h | ⟨h, _⟩ <;> exact Bool.noConfusion h
    | list _ => rcases h with h | ⟨h, _⟩ <;> exact Bool.noConfusion h
    | tuple _ => rcases h with h | ⟨h, _⟩ <;> exact Bool.noConfusion h
    | dict _ => rcases h with h | ⟨h, _⟩ <;> exact Bool.noConfusion h
/-- all(list of bools) -/
theorem ev_allL {l : List Bool} (ha : EvR K ta σ G l) : EvR K (tCB (rAll K) (tCons ta tNil)) σ G (l.all id) := fun H e Q q =>
  ha H e _ fun v G1 H1 g1 ⟨a, xs, ev, hA, r⟩ => ⟨a, l, by rw [ev], by
    have e := reps_flat r
    subst e
    exact SqL.of (g1.s _ _ hA), q _ G1 H1 g1 rfl⟩
/-- a test of a bool that is of data -/
theorem et_BD {t : TE} {tt : TT} {b : Bool} (h : EvR K te σ G b) : EvR K te σ G b := h
end
theorem cr_allK {X : Cx} {K : PySem.W.Frag} (hc : X.calm = true) (h : X.K = K := by rfl) : CallR X (.builtin "all") (rAll K) := by subst h; exact cr_all hc
/-! ### tables with texts as keys -/
section
variable {α : Type} [Rep α] {K : PySem.W.Frag} {w : World}
def Ent (K : PySem.W.Frag) (w : World) (p : Str × α) (e : DictEntry) : Prop := (∃ t, e.key = .str p.1 t) ∧ e.hash = PyData.keyHash w.params p.1 ∧ ∃ v, RelV v e.val ∧ ∀ G, rep K p.2 v G
def KDs (K : PySem.W.Frag) (w : World) (a : Addr) (tab : List (Str × α)) : Prop := ∃ es n, K.lookup a = some ⟨.type "dict", none, .dict es n, #[]⟩ ∧ Paired (Ent K w) tab es.toList ∧ (a == sysModules) = false
def tabGet (tab : List (Str × α)) (z : Str) : Option α := (tab.find? fun p => decide (p.1 = z)).map (·.2)
theorem ent_lit : ∀ {tab : List (Str × α)} {l : List DictEntry}, Paired (Ent K w) tab l → PySem.W.KeysLit w.params l
  | _, _, .nil => trivial
  | _, _, .cons ⟨⟨t, h1⟩, h2, _⟩ r => ⟨⟨_, t, h1, h2⟩, ent_lit r⟩
theorem isStr_str (x z : Str) (t : Tok) : (Value.str x t).isStr z = decide (x = z) := by
  first | rfl | (show (x == z) = _; exact beq_eq_decide x z) | (unfold Value.isStr; exact beq_eq_decide x z)
theorem ent_find {z : Str} : ∀ {tab : List (Str × α)} {l : List DictEntry}, Paired (Ent K w) tab l → ∀ {o}, tabGet tab z = o →
    (match o with
      | some x => ∃ e v, l.find? (·.key.isStr z) = some e ∧ RelV v e.val ∧ ∀ G, rep K x v G
      | none => l.find? (·.key.isStr z) = none ∧ l.any (·.refKey) = false)
  | _, _, .nil, o, h => by
    have : o = none := h.symm
    subst this
    exact ⟨rfl, rfl⟩
  | p :: tab, e :: l, .cons ⟨⟨t, h1⟩, h2, v, h3, h4⟩ r, o, h => by
    have ek : e.key.isStr z = decide (p.1 = z) := by rw [h1]; exact isStr_str _ _ _
    by_cases q : p.1 = z
    · have eo : o = some p.2 := by
        rw [← h]
        unfold tabGet
        rw [List.find?_cons, decide_eq_true q]
        rfl
      subst eo
      refine ⟨e, v, ?_, h3, h4⟩
      rw [List.find?_cons, ek, decide_eq_true q]
    · have h' : tabGet tab z = o := by
        rw [← h]
        unfold tabGet
        rw [List.find?_cons, decide_eq_false q]
      have ih := ent_find r h'
      have ef : (e :: l).find? (·.key.isStr z) = l.find? (·.key.isStr z) := by rw [List.find?_cons, ek, decide_eq_false q]
      cases o with
      | some x =>
        obtain ⟨e2, v2, a1, a2, a3⟩ := ih
        exact ⟨e2, v2, ef.trans a1, a2, a3⟩
      | none =>
        refine ⟨ef.trans ih.1, ?_⟩
        rw [List.any_cons, ih.2]
        have : e.refKey = false := by
          unfold DictEntry.refKey
          rw [h1]
        rw [this]
        rfl
end
end RL

set_option Elab.async false
set_option linter.all false
set_option maxRecDepth 100000
set_option maxHeartbeats 4000000
namespace RL
open PySem PySem.Spec PyProof.Rows L2 CwR
open Rep (rep)
/-! ### a written table: in, not in, item, get -/
def KD (K : PySem.W.Frag) (w : World) (p : Addr) : Prop := ∃ es n, KDict K w p es n
def rInKD (K : PySem.W.Frag) (w : World) (neg : Bool) : R2 := fun x y H Q => ∃ p z r, x = .str z ∧ y = .ref p ∧ KD K w p ∧ PySem.W.nsIn K p z = some r ∧ Q (.bl (if neg then !r.isSome else r.isSome)) H
section
variable {X : Cx} {K : PySem.W.Frag} {w : World}
theorem op_inKD (h : X.K = K := by rfl) (hw : X.w = w := by rfl) : OpR X (compareOp .In) (rInKD K w false) := by
  subst h hw
  intro pins s σ H x y v u Q I rx ry ⟨p, z, r, ex, ey, ⟨es, n, D⟩, e, q⟩
  exact op_in_kd D pins s σ H x y v u Q I rx ry ⟨z, r, ex, ey, e, q⟩
theorem op_ninKD (h : X.K = K := by rfl) (hw : X.w = w := by rfl) : OpR X (compareOp .NotIn) (rInKD K w true) := by
  subst h hw
  intro pins s σ H x y v u Q I rx ry ⟨p, z, r, ex, ey, ⟨es, n, D⟩, e, q⟩
  exact op_notIn_kd D pins s σ H x y v u Q I rx ry ⟨z, r, ex, ey, e, q⟩
theorem ix_KD (h : X.K = K := by rfl) (hw : X.w = w := by rfl) : IxR X (rIxD K w) := by subst h hw; exact ix_kdict
/-- get -/
def tKG1 (K : PySem.W.Frag) (w : World) (td ty : TE) : TE := fun σ H Q => td σ H fun x H1 => ∃ a, x = .ref a ∧ KD K w a ∧ ty σ H1 fun y H2 => ∃ z r v, y = .str z ∧ PySem.W.nsIn K a z = some r ∧ (match r with | some u => RelV v u | none => v = .non) ∧ Q v H2
def tKG2 (K : PySem.W.Frag) (w : World) (td ty tx : TE) : TE := fun σ H Q => td σ H fun x H1 => ∃ a, x = .ref a ∧ KD K w a ∧ ty σ H1 fun y H2 => tx σ H2 fun d H3 => ∃ z r v, y = .str z ∧ PySem.W.nsIn K a z = some r ∧ (match r with | some u => RelV v u | none => v = d) ∧ Q v H3
theorem kd_at {pins : List (Addr × Obj)} {σ : L2.St} {H : Hp} {s : Shared} {a : Addr} {es : Array DictEntry} {n : Nat} (I : Inv X pins σ H s) (D : KDict X.K X.w a es n) :
    s.TypeIs (.ref a) "dict" ∧ (∀ b, Value.ref a = .ref b → ∃ ob, s.heap.get? b = some ob ∧ ob.dict = none) :=
  ⟨(PySem.W.mapOf_K (prog := X.prog) (w := X.w) I.kIn D.at_ D.lit).typeIs, fun b q => by cases q; exact ⟨_, I.kIn _ _ D.at_, rfl⟩⟩
theorem pe_kget1 {o e : Expr} {apos cpos : Pos} {td ty : TE} (ho : PE X o td) (he : PE X e ty) (m : M1 X o "get" apos e cpos) (h : X.K = K := by rfl) (hw : X.w = w := by rfl) : PE X (.Call (.Attribute o "get" apos) [e] [] cpos) (tKG1 K w td ty) := by
  subst h hw
  refine ⟨fun pins s σ H Q I h => ?_⟩
  refine wpAny_Call_method m.base m.few m.line PySem.F.plainAttrs_dict PySem.F.slot_dict_get PySem.F.type_dict_get (thn (ho.run pins s σ H _ I h) fun u s1 ⟨x, H1, I1, rx, a, ex, ⟨es, n, D⟩, q1⟩ => ?_)
  subst ex
  obtain rfl : u = Value.ref a := rx
  obtain ⟨t1, t2⟩ := kd_at I1 D
  refine ⟨t1, t2, ?_⟩
  rw [m.trees]
  refine Calls.callWith_builtin rfl (Calls.evalArgs_plain (Calls.spliced_cons (thn (he.run pins s1 σ H1 _ I1 q1) fun iv s2 ⟨y, H2, I2, ry, z, r, v, ey, en, ev, q2⟩ => Calls.spliced_nil ?_)))
  subst ey
  obtain ⟨tk, rfl⟩ := ry
  have hm := PySem.W.mapOf_K (prog := X.prog) (w := X.w) I2.kIn D.at_ D.lit
  refine call_meetsIn PySem.F.slot_dict_get hm.typeIs PySem.F.entry_dict_get (PySem.F.args_dict_get_2 _ _) (meets_dict_get (strKind X.prog X.w) a (PySem.strKind_is X.prog X.w z tk) D.low) ⟨_, hm, ⟨v, H2, I2.tok _, ?_, q2⟩⟩
  rw [PySem.W.find_K D.at_ en]
  cases r with
  | some u => exact ev
  | none => rw [ev]; rfl
theorem pe_kget2 {o e f : Expr} {apos cpos : Pos} {td ty tx : TE} (ho : PE X o td) (he : PE X e ty) (hf : PE X f tx) (m : M2 X o "get" apos e f cpos) (h : X.K = K := by rfl) (hw : X.w = w := by rfl) : PE X (.Call (.Attribute o "get" apos) [e, f] [] cpos) (tKG2 K w td ty tx) := by
  subst h hw
  refine ⟨fun pins s σ H Q I h => ?_⟩
  refine wpAny_Call_method m.base m.few m.line PySem.F.plainAttrs_dict PySem.F.slot_dict_get PySem.F.type_dict_get (thn (ho.run pins s σ H _ I h) fun u s1 ⟨x, H1, I1, rx, a, ex, ⟨es, n, D⟩, q1⟩ => ?_)
  subst ex
  obtain rfl : u = Value.ref a := rx
  obtain ⟨t1, t2⟩ := kd_at I1 D
  refine ⟨t1, t2, ?_⟩
  rw [m.trees]
  refine Calls.callWith_builtin rfl (Calls.evalArgs_plain (Calls.spliced_cons (thn (he.run pins s1 σ H1 _ I1 q1) fun iv s2 ⟨y, H2, I2, ry, q2⟩ =>
    Calls.spliced_cons (thn (hf.run pins s2 σ H2 _ I2 q2) fun fv s3 ⟨d, H3, I3, rd, z, r, v, ey, en, ev, q3⟩ => Calls.spliced_nil ?_))))
  subst ey
  obtain ⟨tk, rfl⟩ := ry
  have hm := PySem.W.mapOf_K (prog := X.prog) (w := X.w) I3.kIn D.at_ D.lit
  refine call_meetsIn PySem.F.slot_dict_get hm.typeIs PySem.F.entry_dict_get (PySem.F.args_dict_get_3 _ _ _) (meets_dict_get_default (strKind X.prog X.w) a (PySem.strKind_is X.prog X.w z tk) D.low fv) ⟨_, hm, ⟨v, H3, I3.tok _, ?_, q3⟩⟩
  rw [PySem.W.find_K D.at_ en]
  cases r with
  | some u => exact ev
  | none => rw [ev]; exact rd
end
section
variable [Tb] [Fz] {α β : Type} [Rep α] [Rep β] {K : PySem.W.Frag} {w : World} {σ : L2.St} {G H : Hp} {te ta tb tl : TE} {a : Addr} {tab : List (Str × α)} {z : Str}
omit [Tb] [Fz] in
theorem KDs.kd (h : KDs K w a tab) : KD K w a := by
  obtain ⟨es, n, hl, hp, hs⟩ := h
  exact ⟨es, n, hl, ent_lit hp, hs⟩
omit [Tb] [Fz] in
theorem KDs.ns (h : KDs K w a tab) (z : Str) : ∃ r, PySem.W.nsIn K a z = some r ∧ r.isSome = (tabGet tab z).isSome ∧ ∀ x, tabGet tab z = some x → ∃ u v, r = some u ∧ RelV v u ∧ ∀ G, rep K x v G := by
  obtain ⟨es, n, hl, hp, hs⟩ := h
  have f := ent_find (z := z) hp (o := tabGet tab z) rfl
  unfold PySem.W.nsIn
  rw [hl]
  cases q : tabGet tab z with
  | some x =>
    rw [q] at f
    obtain ⟨e, v, a1, a2, a3⟩ := f
    refine ⟨some e.val, ?_, rfl, fun y ey => by cases ey; exact ⟨e.val, v, rfl, a2, a3⟩⟩
    show (match es.toList.find? (·.key.isStr z) with | some e => some (some e.val) | none => if es.toList.any (·.refKey) then none else some none) = _
    rw [a1]
  | none =>
    rw [q] at f
    obtain ⟨a1, a2⟩ := f
    refine ⟨none, ?_, rfl, fun y ey => by cases ey⟩
    show (match es.toList.find? (·.key.isStr z) with | some e => some (some e.val) | none => if es.toList.any (·.refKey) then none else some none) = _
    rw [a1, a2]
    rfl
theorem ev_inKD (hk : KDs K w a tab) (ha : EvR K ta σ G z) : EvR K (tOp (rInKD K w false) ta (tC (.ref a))) σ G (tabGet tab z).isSome := fun H e Q q =>
  ha H e _ fun v G1 H1 g1 r1 => by
    obtain ⟨r, e1, e2, _⟩ := hk.ns z
    exact ⟨a, z, r, r1, rfl, hk.kd, e1, by rw [e2]; exact q _ G1 H1 g1 rfl⟩
theorem ev_ninKD (hk : KDs K w a tab) (ha : EvR K ta σ G z) : EvR K (tOp (rInKD K w true) ta (tC (.ref a))) σ G (!(tabGet tab z).isSome) := fun H e Q q =>
  ha H e _ fun v G1 H1 g1 r1 => by
    obtain ⟨r, e1, e2, _⟩ := hk.ns z
    exact ⟨a, z, r, r1, rfl, hk.kd, e1, by rw [e2]; exact q _ G1 H1 g1 rfl⟩
theorem ev_ixKD (hk : KDs K w a tab) (ha : EvR K ta σ G z) {d : α} (h : (tabGet tab z).isSome = true) : EvR K (tOp (rIxD K w) (tC (.ref a)) ta) σ G ((tabGet tab z).getD d) := fun H e Q q =>
  ha H e _ fun v G1 H1 g1 r1 => by
    obtain ⟨x, ex⟩ := Option.isSome_iff_exists.mp h
    obtain ⟨r, e1, e2, e3⟩ := hk.ns z
    obtain ⟨u, v2, er, rv, rp⟩ := e3 x ex
    obtain ⟨es, n, D⟩ := hk.kd
    refine ⟨a, z, v2, rfl, r1, ⟨es, n, u, D.at_, D.lit, by rw [e1, er], rv⟩, q _ G1 H1 g1 ?_⟩
    rw [ex]
    exact rp G1
theorem ev_kget1 (hk : KDs K w a tab) (ha : EvR K ta σ G z) : EvR K (tKG1 K w (tC (.ref a)) ta) σ G (tabGet tab z) := fun H e Q q =>
  ⟨a, rfl, hk.kd, ha H e _ fun v G1 H1 g1 r1 => by
    obtain ⟨r, e1, e2, e3⟩ := hk.ns z
    cases ex : tabGet tab z with
    | some x =>
      obtain ⟨u, v2, er, rv, rp⟩ := e3 x ex
      refine ⟨z, r, v2, r1, e1, by rw [er]; exact rv, q _ G1 H1 g1 ?_⟩
      rw [ex]
      exact rp G1
    | none =>
      have er : r = none := by rw [ex] at e2; exact Option.isSome_eq_false_iff.mp e2 |> fun h => by cases r with | none => rfl | some _ => cases e2
      refine ⟨z, r, .non, r1, e1, by rw [er], q _ G1 H1 g1 ?_⟩
      rw [ex]
      rfl⟩
theorem ev_kget2 (hk : KDs K w a tab) (ha : EvR K ta σ G z) {d : α} (hd : EvR K tb σ G d) : EvR K (tKG2 K w (tC (.ref a)) ta tb) σ G ((tabGet tab z).getD d) := fun H e Q q =>
  ⟨a, rfl, hk.kd, ha H e _ fun v G1 H1 g1 r1 => hd.mono g1.g H1 g1.s _ fun w2 G2 H2 g2 r2 => by
    obtain ⟨r, e1, e2, e3⟩ := hk.ns z
    cases ex : tabGet tab z with
    | some x =>
      obtain ⟨u, v2, er, rv, rp⟩ := e3 x ex
      refine ⟨z, r, v2, r1, e1, by rw [er]; exact rv, q _ G2 H2 (g1.trans g2) ?_⟩
      rw [ex]
      exact rp G2
    | none =>
      have er : r = none := by rw [ex] at e2; cases r with | none => rfl | some _ => cases e2
      refine ⟨z, r, w2, r1, e1, by rw [er], q _ G2 H2 (g1.trans g2) ?_⟩
      rw [ex]
      exact r2⟩
end
end RL

set_option Elab.async false
set_option linter.all false
set_option maxRecDepth 100000
set_option maxHeartbeats 4000000
/-! ### zip of a list and a tuple, at the level of the model -/
namespace RZL
open PySem
section
variable {prog : Program} {w : World} {A : Around} {E : Value → Shared → Prop} {s : Shared} {z TI TO i1 i2 l1 l2 : Addr} {k1 k2 : Nat} {xs ys : Array Value} {x y a b : Value}
/-- what stands of such a zip between two turns -/
structure Zs (h : Heap) (z TI TO i1 i2 l1 l2 : Addr) (k1 k2 : Nat) (a b : Value) : Prop where
  zz : IsZip h z TI TO .none
  ti : IsPair h TI (.ref i1) (.ref i2)
  to : IsPair h TO a b
  h1 : h.IsListIter i1 l1 k1
  h2 : h.IsTupleIter i2 l2 k2
theorem lt_item {Q : Value → Shared → Prop} (D : ZipApart z TI TO i1 i2 l1 l2) (Z : Zs s.heap z TI TO i1 i2 l1 l2 k1 k2 a b) (hl1 : s.heap.IsList l1 xs) (hl2 : s.heap.IsTuple l2 ys) (hx : xs[k1]? = some x) (hy : ys[k2]? = some y)
    (hQ : ∀ h', IsZip h' z TI TO (rawInt s.heap.objs.size) → IsPair h' TO x y → h'.IsListIter i1 l1 (k1 + 1) → h'.IsTupleIter i2 l2 (k2 + 1) → IsPair h' s.heap.objs.size x y → h'.objs.size = s.heap.objs.size + 1 → (∀ c o, c ≠ z → c ≠ TO → c ≠ i1 → c ≠ i2 → s.heap.get? c = some o → h'.get? c = some o) → Q (.ref s.heap.objs.size) { s with heap := h' }) :
    wpAny (model prog w) A (Builtin.«zip.__next__» ⟨[.ref z], []⟩) (fun fin s' => ∃ v, fin = .done (.ret v) ∧ Q v s') E s := by
  obtain ⟨hz, hTI, hTO, h1, h2⟩ := Z
  show wpAny _ _ (field (.ref z) 2 >>= _) _ _ _; refine wpAny_bind (wpAny_field hz rfl (x := .bool false) rfl ?_)
  show wpAny _ _ (field (.ref z) 3 >>= _) _ _ _; refine wpAny_bind (wpAny_field hz rfl (x := .ref TI) rfl ?_); refine wpAny_bind (wpAny_seqItems hTI rfl ?_)
  show wpAny _ _ (Builtin.SmallTypes.ownedTupleIsFree (.ref z) >>= _) _ _ _; refine wpAny_bind ?_; unfold Builtin.SmallTypes.ownedTupleIsFree
  refine wpAny_bind (wpAny_field hz rfl (x := .none) rfl (wpAny_pure ?_)); simp only [if_true]
  refine wpAny_bind (wpAny_rule ?_); refine wpAny_bind (wpAny_field hz rfl (x := .ref TO) rfl ?_)
  refine wpAny_bind (wpAny_setField_rec hz (by simp) fun g₁ hz₁ s₁ => ?_); replace hz₁ : IsZip g₁ z TI TO .ellipsis := hz₁
  refine wpAny_bind ?_; simp only [List.zipIdx_cons, List.zipIdx_nil, List.forIn_cons, List.forIn_nil]
  refine wpAny_bind (wpAny_bind (wpAny_onRaise ?_)); show wpAny _ _ (Builtin.SmallTypes.nextOf (.ref i1) >>= _) _ _ _
  refine wpAny_bind (wpAny_nextOf_list_item (h1.extBut s₁.extBut D.i1z) (hl1.extBut s₁.extBut D.l1z) hx fun g₂ h1₂ s₂ => wpAny_pure ?_)
  have hTO₂ : IsPair g₂ TO a b := s₂.extBut _ _ D.TOi1 (s₁.extBut _ _ D.TOz hTO)
  refine wpAny_bind (wpAny_seqItems hTO₂ rfl ?_); refine wpAny_bind (wpAny_updateSeq_pair hTO₂ fun g₃ hTO₃ s₃ => ?_)
  replace hTO₃ : IsPair g₃ TO x b := hTO₃
  refine wpAny_bind (wpAny_letGo (wpAny_pure ?_)); refine wpAny_bind (wpAny_bind (wpAny_onRaise ?_)); show wpAny _ _ (Builtin.SmallTypes.nextOf (.ref i2) >>= _) _ _ _
  refine wpAny_bind (RZ.nextOf_tuple_item (((h2.extBut s₁.extBut D.i2z).extBut s₂.extBut D.i12.symm).extBut s₃.extBut D.TOi2.symm) (((hl2.extBut s₁.extBut D.l2z).extBut s₂.extBut D.l2i1).extBut s₃.extBut D.l2TO) hy fun g₄ h2₄ s₄ => wpAny_pure ?_)
  have hTO₄ : IsPair g₄ TO x b := s₄.extBut _ _ D.TOi2 hTO₃
  refine wpAny_bind (wpAny_seqItems hTO₄ rfl ?_); refine wpAny_bind (wpAny_updateSeq_pair hTO₄ fun g₅ hTO₅ s₅ => ?_)
  replace hTO₅ : IsPair g₅ TO x y := hTO₅
  refine wpAny_bind (wpAny_letGo (wpAny_pure (wpAny_pure ?_))); refine wpAny_bind (wpAny_seqItems hTO₅ rfl ?_); refine wpAny_bind (wpAny_newTuple ?_)
  have sz : g₅.objs.size = s.heap.objs.size := by rw [s₅.1, s₄.1, s₃.1, s₂.1, s₁.1]
  have zz : IsZip g₅ z TI TO .ellipsis := s₅.extBut _ _ D.TOz.symm (s₄.extBut _ _ D.i2z.symm (s₃.extBut _ _ D.TOz.symm (s₂.extBut _ _ D.i1z.symm hz₁)))
  have kk : ∀ c o, c ≠ z → c ≠ TO → c ≠ i1 → c ≠ i2 → s.heap.get? c = some o → g₅.get? c = some o := fun c o c1 c2 c3 c4 e => s₅.extBut _ _ c2 (s₄.extBut _ _ c4 (s₃.extBut _ _ c2 (s₂.extBut _ _ c3 (s₁.extBut _ _ c1 e))))
  have j1 : g₅.IsListIter i1 l1 (k1 + 1) := ((h1₂.extBut s₃.extBut D.TOi1.symm).extBut s₄.extBut D.i12).extBut s₅.extBut D.TOi1.symm
  have j2 : g₅.IsTupleIter i2 l2 (k2 + 1) := h2₄.extBut s₅.extBut D.TOi2.symm
  have zl : z < g₅.objs.size := Heap.lt_size zz
  show wpAny _ _ (Builtin.SmallTypes.ownedTupleHandOut (.ref z) (.ref g₅.objs.size) >>= _) _ _ _; refine wpAny_bind ?_; unfold Builtin.SmallTypes.ownedTupleHandOut
  have z₆ : IsZip (g₅.push { cls := .type "tuple", data := .seq #[x, y] }) z TI TO .ellipsis := Heap.get?_push_of_some _ zz
  refine wpAny_bind (wpAny_setField_rec z₆ (by simp) fun g₇ z₇ s₇ => ?_); replace z₇ : IsZip g₇ z TI TO (rawInt g₅.objs.size) := z₇
  refine wpAny_setField_rec z₇ (by simp) fun g₈ z₈ s₈ => ?_; replace z₈ : IsZip g₈ z TI TO (rawInt g₅.objs.size) := z₈
  have up : ∀ c o, c ≠ z → g₅.get? c = some o → g₈.get? c = some o := fun c o c1 e => s₈.extBut _ _ c1 (s₇.extBut _ _ c1 (Heap.get?_push_of_some _ e))
  have T₈ : IsPair g₈ g₅.objs.size x y := s₈.extBut _ _ (Nat.ne_of_gt zl) (s₇.extBut _ _ (Nat.ne_of_gt zl) (Heap.get?_push_size _ rfl))
  have n₈ : g₈.objs.size = g₅.objs.size + 1 := by rw [s₈.1, s₇.1, Heap.size_push]
  rw [sz] at z₈ T₈ n₈
  refine wpAny_pure ⟨_, rfl, ?_⟩; show Q (.ref g₅.objs.size) _; rw [sz]
  exact hQ g₈ z₈ (up _ _ D.TOz hTO₅) (j1.at fun o e => up _ o D.i1z e) (j2.at fun o e => up _ o D.i2z e) T₈ n₈ fun c o c1 c2 c3 c4 e => up c o c1 (kk c o c1 c2 c3 c4 e)
theorem lt_end {Q : Fin → Shared → Prop} (hh : A.handled = none) (D : ZipApart z TI TO i1 i2 l1 l2) (Z : Zs s.heap z TI TO i1 i2 l1 l2 k1 k2 a b) (hl1 : s.heap.IsList l1 xs) (hl2 : s.heap.IsTuple l2 ys) (hend : xs[k1]? = none ∨ ys[k2]? = none)
    (hE : ∀ h' e, (∀ c o, c ≠ z → c ≠ TO → c ≠ i1 → c ≠ i2 → s.heap.get? c = some o → h'.get? c = some o) → (∃ o, h'.get? e = some o ∧ o.cls = .type "StopIteration") → E (.ref e) { s with heap := h' }) :
    wpAny (model prog w) A (Builtin.«zip.__next__» ⟨[.ref z], []⟩) Q E s := by
  obtain ⟨hz, hTI, hTO, h1, h2⟩ := Z
  show wpAny _ _ (field (.ref z) 2 >>= _) _ _ _; refine wpAny_bind (wpAny_field hz rfl (x := .bool false) rfl ?_)
  show wpAny _ _ (field (.ref z) 3 >>= _) _ _ _; refine wpAny_bind (wpAny_field hz rfl (x := .ref TI) rfl ?_); refine wpAny_bind (wpAny_seqItems hTI rfl ?_)
  show wpAny _ _ (Builtin.SmallTypes.ownedTupleIsFree (.ref z) >>= _) _ _ _; refine wpAny_bind ?_; unfold Builtin.SmallTypes.ownedTupleIsFree
  refine wpAny_bind (wpAny_field hz rfl (x := .none) rfl (wpAny_pure ?_)); simp only [if_true]
  refine wpAny_bind (wpAny_rule ?_); refine wpAny_bind (wpAny_field hz rfl (x := .ref TO) rfl ?_)
  refine wpAny_bind (wpAny_setField_rec hz (by simp) fun g₁ hz₁ s₁ => ?_); replace hz₁ : IsZip g₁ z TI TO .ellipsis := hz₁
  refine wpAny_bind ?_; simp only [List.zipIdx_cons, List.zipIdx_nil, List.forIn_cons, List.forIn_nil]
  refine wpAny_bind (wpAny_bind (wpAny_onRaise ?_)); show wpAny _ _ (Builtin.SmallTypes.nextOf (.ref i1) >>= _) _ _ _
  cases hx : xs[k1]? with
  | none =>
    refine wpAny_bind (wpAny_nextOf_list_end hh (h1.extBut s₁.extBut D.i1z) (hl1.extBut s₁.extBut D.l1z) hx fun g₂ e s₂ ⟨oe, hoe, hce⟩ => ?_)
    have z₂ : IsZip g₂ z TI TO .ellipsis := s₂ _ _ D.i1z.symm hz₁
    have ez : e ≠ z := fun q => by subst q; rw [z₂] at hoe; cases hoe; simp at hce
    refine wpAny_setField_rec z₂ (by simp) fun g₃ _ s₃ => hE g₃ e (fun c o c1 _ c3 _ q => s₃.extBut _ _ c1 (s₂ _ _ c3 (s₁.extBut _ _ c1 q))) ⟨oe, s₃.extBut _ _ ez hoe, hce⟩
  | some x =>
    have hy : ys[k2]? = none := hend.elim (fun q => by rw [hx] at q; cases q) id
    refine wpAny_bind (wpAny_nextOf_list_item (h1.extBut s₁.extBut D.i1z) (hl1.extBut s₁.extBut D.l1z) hx fun g₂ h1₂ s₂ => wpAny_pure ?_)
    have hTO₂ : IsPair g₂ TO a b := s₂.extBut _ _ D.TOi1 (s₁.extBut _ _ D.TOz hTO)
    refine wpAny_bind (wpAny_seqItems hTO₂ rfl ?_); refine wpAny_bind (wpAny_updateSeq_pair hTO₂ fun g₃ hTO₃ s₃ => ?_); refine wpAny_bind (wpAny_letGo (wpAny_pure ?_))
    refine wpAny_bind (wpAny_bind (wpAny_onRaise ?_)); show wpAny _ _ (Builtin.SmallTypes.nextOf (.ref i2) >>= _) _ _ _
    refine wpAny_bind (RZ.nextOf_tuple_end hh (((h2.extBut s₁.extBut D.i2z).extBut s₂.extBut D.i12.symm).extBut s₃.extBut D.TOi2.symm) (((hl2.extBut s₁.extBut D.l2z).extBut s₂.extBut D.l2i1).extBut s₃.extBut D.l2TO) hy fun g₄ e s₄ ⟨oe, hoe, hce⟩ => ?_)
    have z₄ : IsZip g₄ z TI TO .ellipsis := s₄ _ _ D.i2z.symm (s₃.extBut _ _ D.TOz.symm (s₂.extBut _ _ D.i1z.symm hz₁))
    have ez : e ≠ z := fun q => by subst q; rw [z₄] at hoe; cases hoe; simp at hce
    refine wpAny_setField_rec z₄ (by simp) fun g₅ _ s₅ => hE g₅ e (fun c o c1 c2 c3 c4 q => s₅.extBut _ _ c1 (s₄ _ _ c4 (s₃.extBut _ _ c2 (s₂.extBut _ _ c3 (s₁.extBut _ _ c1 q))))) ⟨oe, s₅.extBut _ _ ez hoe, hce⟩
theorem nx_item {Q : Option Value → Shared → Prop} (D : ZipApart z TI TO i1 i2 l1 l2) (Z : Zs s.heap z TI TO i1 i2 l1 l2 k1 k2 a b) (hl1 : s.heap.IsList l1 xs) (hl2 : s.heap.IsTuple l2 ys) (hx : xs[k1]? = some x) (hy : ys[k2]? = some y)
    (hQ : ∀ h', IsZip h' z TI TO (rawInt s.heap.objs.size) → IsPair h' TO x y → h'.IsListIter i1 l1 (k1 + 1) → h'.IsTupleIter i2 l2 (k2 + 1) → IsPair h' s.heap.objs.size x y → h'.objs.size = s.heap.objs.size + 1 → (∀ c o, c ≠ z → c ≠ TO → c ≠ i1 → c ≠ i2 → s.heap.get? c = some o → h'.get? c = some o) → Q (some (.ref s.heap.objs.size)) { s with heap := h' }) :
    wpAny (model prog w) A (pyNext (.ref z)) Q E s := by
  have hT : s.TypeIs (.ref z) "zip" := ⟨_, Z.zz, rfl⟩
  unfold pyNext; exact wpAny_bind (wpAny_attempt (wpAny_callSpecial?_slot (name := Str.ofString "__next__") hT F.slot_zip_next (wpAny_call_entry F.slot_zip_next hT F.entry_zip_next (lt_item D Z hl1 hl2 hx hy fun h' p1 p2 p3 p4 p5 p6 p7 => wpAny_pure (hQ h' p1 p2 p3 p4 p5 p6 p7)) (F.args_zip_next_1 _))))
theorem nx_end {Q : Option Value → Shared → Prop} (hh : A.handled = none) (D : ZipApart z TI TO i1 i2 l1 l2) (Z : Zs s.heap z TI TO i1 i2 l1 l2 k1 k2 a b) (hl1 : s.heap.IsList l1 xs) (hl2 : s.heap.IsTuple l2 ys) (hend : xs[k1]? = none ∨ ys[k2]? = none)
    (hQ : ∀ h', (∀ c o, c ≠ z → c ≠ TO → c ≠ i1 → c ≠ i2 → s.heap.get? c = some o → h'.get? c = some o) → Q none { s with heap := h' }) : wpAny (model prog w) A (pyNext (.ref z)) Q E s := by
  have hT : s.TypeIs (.ref z) "zip" := ⟨_, Z.zz, rfl⟩
  unfold pyNext; refine wpAny_bind (wpAny_attempt (wpAny_callSpecial?_slot (name := Str.ofString "__next__") hT F.slot_zip_next (wpAny_call_entry F.slot_zip_next hT F.entry_zip_next (lt_end hh D Z hl1 hl2 hend fun h' e hk ⟨o, ho, hc⟩ => ?_) (F.args_zip_next_1 _))))
  exact wpAny_bind (wpAny_isInstance (T := "StopIteration") (b := true) ⟨o, ho, hc⟩ isSubtype_stop (wpAny_pure (hQ _ hk)))
end
abbrev H1 (h : Heap) (l1 : Addr) : Heap := h.push { cls := .type "list_iterator", data := .fields #[.ref l1, .int 0 0] }
abbrev H2 (h : Heap) (l1 l2 : Addr) : Heap := (H1 h l1).push { cls := .type "tuple_iterator", data := .fields #[.ref l2, .int 0 0] }
abbrev H3 (h : Heap) (l1 l2 : Addr) : Heap := (H2 h l1 l2).push { cls := .type "tuple", data := .seq #[.ref h.objs.size, .ref (H1 h l1).objs.size] }
abbrev H4 (h : Heap) (l1 l2 : Addr) : Heap := (H3 h l1 l2).push { cls := .type "tuple", data := .seq #[.none, .none] }
abbrev H5 (h : Heap) (l1 l2 : Addr) : Heap := (H4 h l1 l2).push { cls := .type "zip", data := .fields #[.none, .bool false, .bool false, .ref (H2 h l1 l2).objs.size, .ref (H3 h l1 l2).objs.size] }
theorem new_zip (l1 l2 : Addr) (xs ys : Array Value) :
    Meets (Builtin.«zip.__new__» ⟨[.type "zip", .ref l1, .ref l2], []⟩) (fun _ R s => s.heap.IsList l1 xs ∧ s.heap.IsTuple l2 ys ∧ R (.ok (.ret (.ref (H4 s.heap l1 l2).objs.size))) { s with heap := H5 s.heap l1 l2 }) :=
  .of_wp fun prog w A R s h => by
    obtain ⟨hp, g, d, tk, os⟩ := s
    obtain ⟨hl1, hl2, h⟩ := h
    have hsub := sub_zip
    have e1 : Heap.IsList (Shared.heap ⟨hp, g, d, tk, os⟩) l1 xs := hl1
    have e2 : Heap.IsTuple (Shared.heap ⟨hp.push { cls := .type "list_iterator", data := .fields #[.ref l1, .int 0 0] }, g, d, tk, os⟩) l2 ys := Heap.IsTuple.push hl2 _
    wp_walk using wpAny_pyIter_list e1, wpAny_pyIter_tuple e2
    exact ⟨_, rfl, h⟩
section
variable {prog : Program} {w : World} {A : Around} {E : Value → Shared → Prop} {s : Shared} {l1 l2 : Addr} {xs ys : Array Value}
theorem call_zip {Q : Value → Shared → Prop} (hl1 : s.heap.IsList l1 xs) (hl2 : s.heap.IsTuple l2 ys)
    (h : ∀ h', Zs h' (s.heap.objs.size + 4) (s.heap.objs.size + 2) (s.heap.objs.size + 3) s.heap.objs.size (s.heap.objs.size + 1) l1 l2 0 0 .none .none → (∀ c o, s.heap.get? c = some o → h'.get? c = some o) → Q (.ref (s.heap.objs.size + 4)) { s with heap := h' }) :
    wpAny (model prog w) A (call (.type "zip") [.ref l1, .ref l2]) Q E s := by
  refine callType_new F.called_zip (by decide) (F.typeCall_zip_2 _ _) (F.newCall_zip_2 _ _) (fun obj => F.args_object_init_3 obj _ _) F.entry_zip_new (new_zip l1 l2 xs ys) ⟨hl1, hl2, ?_⟩
  have z1 : (H1 s.heap l1).objs.size = s.heap.objs.size + 1 := Heap.size_push ..
  have z2 : (H2 s.heap l1 l2).objs.size = s.heap.objs.size + 2 := by rw [Heap.size_push, z1]
  have z3 : (H3 s.heap l1 l2).objs.size = s.heap.objs.size + 3 := by rw [Heap.size_push, z2]
  have z4 : (H4 s.heap l1 l2).objs.size = s.heap.objs.size + 4 := by rw [Heap.size_push, z3]
  have g5 : (H5 s.heap l1 l2).get? (H4 s.heap l1 l2).objs.size = some _ := Heap.get?_push_size _ rfl
  have g4 : (H5 s.heap l1 l2).get? (H3 s.heap l1 l2).objs.size = some _ := Heap.get?_push_of_some _ (Heap.get?_push_size _ rfl)
  have g3 : (H5 s.heap l1 l2).get? (H2 s.heap l1 l2).objs.size = some _ := Heap.get?_push_of_some _ (Heap.get?_push_of_some _ (Heap.get?_push_size _ rfl))
  have g2 : (H5 s.heap l1 l2).get? (H1 s.heap l1).objs.size = some _ := Heap.get?_push_of_some _ (Heap.get?_push_of_some _ (Heap.get?_push_of_some _ (Heap.get?_push_size _ rfl)))
  have g1 : (H5 s.heap l1 l2).get? s.heap.objs.size = some _ := Heap.get?_push_of_some _ (Heap.get?_push_of_some _ (Heap.get?_push_of_some _ (Heap.get?_push_of_some _ (Heap.get?_push_size _ rfl))))
  show _ ∧ _
  rw [z2, z3, z4] at g5; rw [z1, z2] at g3; rw [z3] at g4; rw [z1] at g2; rw [z4]
  exact ⟨⟨_, g5, rfl⟩, h _ ⟨g5, g3, g4, ⟨_, g1, rfl, rfl⟩, ⟨_, g2, rfl, rfl⟩⟩ fun c o x => Heap.get?_push_of_some _ (Heap.get?_push_of_some _ (Heap.get?_push_of_some _ (Heap.get?_push_of_some _ (Heap.get?_push_of_some _ x))))⟩
end
open PySem.Spec PyProof.Rows L2
/-- the list at a and the tuple at b as they stand at each turn, the items in new pairs -/
def Itm (K : PySem.W.Frag) (a b : Addr) : It :=
  ⟨fun i H => ∃ (xs ys : List V) (x y : V), SqL K H a xs ∧ SqT K H b ys ∧ xs[i]? = some x ∧ ys[i]? = some y,
    fun i H v H' => ∃ T x y, v = .ref T ∧ H T = none ∧ H' = upd H T (.tup [x, y]) ∧ (∀ xs, SqL K H a xs → xs[i]? = some x) ∧ ∀ ys, SqT K H b ys → ys[i]? = some y,
    fun i H => ∃ xs ys : List V, SqL K H a xs ∧ SqT K H b ys ∧ (xs.length ≤ i ∨ ys.length ≤ i)⟩
def Tn (z TI TO i1 i2 a b : Addr) (i : Nat) (h : Heap) : Prop := ∃ x y, Zs h z TI TO i1 i2 a b i i x y
theorem five {z TI TO i1 i2 c : Addr} (h : c ∈ [z, TI, TO, i1, i2]) : c = z ∨ c = TI ∨ c = TO ∨ c = i1 ∨ c = i2 := by simpa using h
theorem turn {P : Program} {w : World} {K : PySem.W.Frag} {elts : List Expr} {kk : Nat} {tpos : Pos} {a b z TI TO i1 i2 : Addr} (D : ZipApart z TI TO i1 i2 a b) :
    Turn P w K (.Tuple elts kk tpos) (Itm K a b) [z, TI, TO, i1, i2] z (Tn z TI TO i1 i2 a b) where
  mem := .head _
  obj := fun i h st c hc => by
    obtain ⟨x, y, hz, hTI, hTO, ⟨o1, e1, _, d1⟩, ⟨o2, e2, _, d2⟩⟩ := st
    rcases five hc with q | q | q | q | q <;> rw [q]
    · exact ⟨_, hz, fun v q => nomatch q⟩
    · exact ⟨_, hTI, fun v q => nomatch q⟩
    · exact ⟨_, hTO, fun v q => nomatch q⟩
    · exact ⟨o1, e1, fun v q => by rw [d1] at q; cases q⟩
    · exact ⟨o2, e2, fun v q => by rw [d2] at q; cases q⟩
  keep := fun i h h' ⟨x, y, hz, hTI, hTO, h1, h2⟩ k => ⟨x, y, k z (by simp) _ hz, k TI (by simp) _ hTI, k TO (by simp) _ hTO, h1.at fun o q => k i1 (by simp) o q, h2.at fun o q => k i2 (by simp) o q⟩
  item := by
    intro X hP hw hK hc i pins s σ H E I hf st ⟨xs, ys, x, y, hqx, hqy, hx, hy⟩
    subst hP hw hK
    obtain ⟨x0, y0, Z⟩ := st
    obtain ⟨its, rv, p, _⟩ := I.list hqx
    obtain ⟨its2, rv2, p2, _⟩ := I.tuple hqy
    obtain ⟨u, hu, ru⟩ := rv.get hx
    obtain ⟨u2, hu2, ru2⟩ := rv2.get hy
    have zl : z < s.heap.objs.size := Heap.lt_size Z.zz
    refine nx_item D Z p.isList p2 (x := u) (y := u2) (by simpa using hu) (by simpa using hu2) fun h' z' TO' h1' h2' hT hsz hk => ?_
    refine ⟨_, rfl, wpAny_letOwnedTupleGo_zip (s := { s with heap := h' }) z' fun h'' z'' sb => ?_⟩
    have hT2 : h''.get? s.heap.objs.size = some { cls := .type "tuple", data := .seq #[u, u2] } := (sb.2 _ (Nat.ne_of_gt zl)).trans hT
    have new : ObjOk X.prog X.w (upd H s.heap.objs.size (.tup [x, y])) h'' s.heap.objs.size (.tup [x, y]) := ⟨by show 2 ≤ sizeLine; decide, [u, u2], .cons ru (.cons ru2 .nil), ⟨_, hT2, rfl, _, rfl⟩⟩
    have I1 : Inv X pins σ (upd H s.heap.objs.size (.tup [x, y])) { s with heap := h'' } := I.turnedNew (t' := s.toks) (ch := [z, TI, TO, i1, i2]) (fun c o hb q => (sb.2 c (fun r => hb (by simp [r]))).trans (hk c o (fun r => hb (by simp [r])) (fun r => hb (by simp [r])) (fun r => hb (by simp [r])) (fun r => hb (by simp [r])) q)) hf (Nat.le_refl _) new
    refine ⟨.ref s.heap.objs.size, _, I1, rfl, ⟨_, x, y, rfl, I.hok.fresh (Nat.le_refl _), rfl, fun l hl => by rw [I.list_inj hl hqx]; exact hx, fun l hl => by rw [I.tuple_inj hl hqy]; exact hy⟩, ⟨u, u2, z'', (sb.2 _ D.TIz).trans (hk _ _ D.TIz D.TITO D.TIi1 D.TIi2 Z.ti), (sb.2 _ D.TOz).trans TO', h1'.at fun o q => (sb.2 _ D.i1z).trans q, h2'.at fun o q => (sb.2 _ D.i2z).trans q⟩, fun c hcm => ?_⟩
    have hlt : c < s.heap.objs.size := by
      rcases five hcm with q | q | q | q | q <;> rw [q]
      · exact zl
      · exact Heap.lt_size Z.ti
      · exact Heap.lt_size Z.to
      · obtain ⟨_, e1, _⟩ := Z.h1; exact Heap.lt_size e1
      · obtain ⟨_, e1, _⟩ := Z.h2; exact Heap.lt_size e1
    rw [upd_ne (Nat.ne_of_lt hlt)]; exact (hf c hcm).1
  done := by
    intro X hP hw hK hc i pins s σ H E I hf st ⟨xs, ys, hqx, hqy, hend⟩
    subst hP hw hK
    obtain ⟨x0, y0, Z⟩ := st
    obtain ⟨its, rv, p, _⟩ := I.list hqx
    obtain ⟨its2, rv2, p2, _⟩ := I.tuple hqy
    have m1 := rv.length
    have m2 := rv2.length
    exact nx_end (I.ok.hd hc) D Z p.isList p2 (hend.elim (fun q => .inl (by simp; omega)) fun q => .inr (by simp; omega)) fun h' hk => ⟨rfl, I.turnedL (t' := s.toks) (ch := [z, TI, TO, i1, i2]) (fun c o hb q => hk c o (fun r => hb (by simp [r])) (fun r => hb (by simp [r])) (fun r => hb (by simp [r])) (fun r => hb (by simp [r])) q) hf⟩
  self := fun A i s Q E ⟨_, _, Z⟩ h => wpAny_pyIter_zip Z.zz h
def iZipM (K : PySem.W.Frag) (ta : TA) : TI := fun σ H R => ta σ H fun vs H1 => ∃ a b xs ys, vs = [.ref a, .ref b] ∧ SqL K H1 a xs ∧ SqT K H1 b ys ∧ R (Itm K a b) H1
theorem pi_zipM {X : Cx} {K : PySem.W.Frag} {e e2 : Expr} {ta : TA} {p pos tpos : Pos} {elts : List Expr} {kk : Nat} (hg : Gl X "zip") (hm : X.mg "zip" = none) (ha : PA X [e, e2] ta)
    (hs : starEach [e, e2] X.env = (false, eval e X.env) :: starEach [e2] X.env := by rfl) (hpl : (backTo pos (starEach [e2] X.env)).any (·.1) = false := by rfl) (hK : X.K = K := by rfl) :
    PI X (.Tuple elts kk tpos) (.Call (.Name "zip" p) [e, e2] [] pos) (iZipM K ta) := by
  subst hK
  refine ⟨fun pins s σ H R I h => Call_ (ld_blt I hg hm PyProof.Rows.boot_zip (PyProof.Rows.callWith_type1 (thn (ha.run pos pins s σ H _ I h) fun us s1 ⟨vs, H1, I1, r1, a, b, xs, ys, ex, hqx, hqy, q⟩ => ?_) hs hpl))⟩
  subst ex
  cases r1 with
  | cons r rr =>
    cases rr with
    | cons r' rr =>
      cases rr
      cases r
      cases r'
      obtain ⟨its, rv, p1, _⟩ := I1.list hqx
      obtain ⟨its2, rv2, p2, _⟩ := I1.tuple hqy
      obtain ⟨o2, ho2, _⟩ := id p2
      refine call_zip p1.isList (show s1.heap.IsTuple b its2.toArray from p2) fun h' Z hk => wpAny_pyIter_zip Z.zz ?_
      have I2 : Inv X pins σ H1 { s1 with heap := h' } := I1.kept (t' := s1.toks) hk
      refine ⟨s1.heap.objs.size + 4, [s1.heap.objs.size + 4, s1.heap.objs.size + 2, s1.heap.objs.size + 3, s1.heap.objs.size, s1.heap.objs.size + 1], _, _, H1, rfl, I2, turn (PySem.W.ktu_apart s1.heap.objs.size a b p1.lt (Heap.lt_size ho2)), ⟨_, _, Z⟩, fun c hcm => ?_, q⟩
      have hle : s1.heap.objs.size ≤ c := by rcases five hcm with z | z | z | z | z <;> rw [z] <;> first | exact Nat.le_add_right _ _ | exact Nat.le_refl _
      exact I1.fpOk hle (I1.hok.fresh hle)
end RZL

set_option Elab.async false
set_option linter.all false
set_option maxRecDepth 100000
set_option maxHeartbeats 4000000
/-! ### enumerate of a list from a number on -/
namespace REN
open PySem
section
variable {prog : Program} {w : World} {A : Around} {E : Value → Shared → Prop} {s : Shared} {e it l : Addr} {i : Nat} {n : Int} {items : Array Value} {x old : Value}
theorem en_item {Q : Value → Shared → Prop} (he : IsEnum s.heap e it n old) (hit : s.heap.IsListIter it l i) (hl : s.heap.IsList l items) (hx : items[i]? = some x) (hne : e ≠ it)
    (hQ : ∀ h', IsEnumOut h' e it (n + 1) x s.heap.objs.size → h'.IsListIter it l (i + 1) → h'.get? s.heap.objs.size = some { cls := .type "tuple", data := .seq #[.int n s.toks, x] } → h'.objs.size = s.heap.objs.size + 1 → (∀ b o, b ≠ e → b ≠ it → s.heap.get? b = some o → h'.get? b = some o) → Q (.ref s.heap.objs.size) { s with heap := h', toks := s.toks + 1 }) :
    wpAny (model prog w) A (Builtin.«enumerate.__next__» ⟨[.ref e], []⟩) (fun fin s' => ∃ v, fin = .done (.ret v) ∧ Q v s') E s := by
  obtain ⟨hp, g, d, tk, os⟩ := s
  have ni := Ne.symm hne
  show wpAny _ _ (field (.ref e) 2 >>= _) _ _ _; refine wpAny_bind (wpAny_field he rfl (x := .ref it) rfl ?_)
  refine wpAny_bind (wpAny_nextOf_list_item hit hl hx fun g₁ it₁ s₁ => ?_); replace s₁ : Heap.SameBut it hp g₁ := s₁
  have e₁ : IsEnum g₁ e it n old := (s₁.2 e hne).trans he
  show wpAny _ _ (field (.ref e) 3 >>= _) _ _ ⟨g₁, g, d, tk, os⟩; refine wpAny_bind (wpAny_field e₁ rfl (x := rawInt n) rfl ?_)
  show wpAny _ _ (field (.ref e) 4 >>= _) _ _ ⟨g₁, g, d, tk, os⟩; refine wpAny_bind (wpAny_field e₁ rfl (x := .none) rfl ?_)
  show wpAny _ _ (mkInt n >>= _) _ _ ⟨g₁, g, d, tk, os⟩; refine wpAny_bind (wpAny_mkInt ?_)
  show wpAny _ _ (setField (.ref e) 3 (rawInt (n + 1)) >>= _) _ _ ⟨g₁, g, d, tk + 1, os⟩
  refine wpAny_bind (wpAny_setField_rec e₁ (by simp) fun g₂ e₂ s₂ => ?_); replace s₂ : Heap.SameBut e g₁ g₂ := s₂; replace e₂ : IsEnum g₂ e it (n + 1) old := e₂
  show wpAny _ _ (setField (.ref e) 4 .none >>= _) _ _ ⟨g₂, g, d, tk + 1, os⟩
  refine wpAny_bind (wpAny_setField_rec e₂ (by simp) fun g₃ e₃ s₃ => ?_); replace s₃ : Heap.SameBut e g₂ g₃ := s₃; replace e₃ : IsEnum g₃ e it (n + 1) old := e₃
  show wpAny _ _ (newTuple [.int n tk, x] >>= _) _ _ ⟨g₃, g, d, tk + 1, os⟩; refine wpAny_bind (wpAny_newTuple ?_)
  have e₄ : IsEnum (g₃.push { cls := .type "tuple", data := .seq #[.int n tk, x] }) e it (n + 1) old := Heap.get?_push_of_some _ e₃
  generalize q₄ : g₃.push { cls := .type "tuple", data := .seq #[.int n tk, x] } = g₄ at e₄
  have sz : g₃.objs.size = hp.objs.size := by rw [s₃.1, s₂.1, s₁.1]
  have el : e < hp.objs.size := Heap.lt_size he
  have t₄ : g₄.get? hp.objs.size = some { cls := .type "tuple", data := .seq #[.int n tk, x] } := by rw [← q₄, ← sz]; exact Heap.get?_push_size _ rfl
  have z₄ : g₄.objs.size = hp.objs.size + 1 := by rw [← q₄, Heap.size_push, sz]
  have k₄ : ∀ b o, b ≠ e → b ≠ it → hp.get? b = some o → g₄.get? b = some o := fun b o be bi hb => by rw [← q₄]; exact Heap.get?_push_of_some _ (s₃.extBut b o be (s₂.extBut b o be (s₁.extBut b o bi hb)))
  have j₄ : g₄.IsListIter it l (i + 1) := by rw [← q₄]; obtain ⟨o, ho, r⟩ := (it₁.extBut s₂.extBut ni).extBut s₃.extBut ni; exact ⟨o, Heap.get?_push_of_some _ ho, r⟩
  show wpAny _ _ (Builtin.SmallTypes.ownedTupleIsFree (.ref e) >>= _) _ _ ⟨g₄, g, d, tk + 1, os⟩
  rw [sz]
  clear q₄ e₃ s₃ e₂ s₂ e₁ s₁ it₁ sz g₃ g₂ g₁
  refine wpAny_bind ?_; unfold Builtin.SmallTypes.ownedTupleIsFree
  refine wpAny_bind (wpAny_field e₄ rfl (x := .none) rfl (wpAny_pure ?_)); simp only [if_true]
  refine wpAny_bind (wpAny_rule ?_); refine wpAny_bind (wpAny_field e₄ rfl (x := old) rfl ?_)
  refine wpAny_bind (wpAny_setField_rec e₄ (by simp) fun g₅ e₅ s₅ => ?_); replace s₅ : Heap.SameBut e g₄ g₅ := s₅; replace e₅ : IsEnum g₅ e it (n + 1) x := e₅
  show wpAny _ _ (Builtin.SmallTypes.ownedTupleHandOut (.ref e) (.ref hp.objs.size) >>= _) _ _ ⟨g₅, g, d, tk + 1, os⟩
  refine wpAny_bind ?_; unfold Builtin.SmallTypes.ownedTupleHandOut
  refine wpAny_bind (wpAny_setField_rec e₅ (by simp) fun g₆ e₆ s₆ => ?_); replace s₆ : Heap.SameBut e g₅ g₆ := s₆; replace e₆ : IsEnumOut g₆ e it (n + 1) x hp.objs.size := e₆
  refine wpAny_setField_rec e₆ (by simp) fun g₇ e₇ s₇ => ?_; replace s₇ : Heap.SameBut e g₆ g₇ := s₇; replace e₇ : IsEnumOut g₇ e it (n + 1) x hp.objs.size := e₇
  have nl := Nat.ne_of_gt el
  exact wpAny_bind (wpAny_letGo (wpAny_pure ⟨_, rfl, hQ g₇ e₇ (((j₄.extBut s₅.extBut ni).extBut s₆.extBut ni).extBut s₇.extBut ni) (s₇.extBut _ _ nl (s₆.extBut _ _ nl (s₅.extBut _ _ nl t₄))) (by rw [s₇.1, s₆.1, s₅.1, z₄]) fun b o be bi hb => s₇.extBut b o be (s₆.extBut b o be (s₅.extBut b o be (k₄ b o be bi hb)))⟩))
theorem en_next {Q : Option Value → Shared → Prop} (he : IsEnum s.heap e it n old) (hit : s.heap.IsListIter it l i) (hl : s.heap.IsList l items) (hx : items[i]? = some x) (hne : e ≠ it)
    (hQ : ∀ h', IsEnumOut h' e it (n + 1) x s.heap.objs.size → h'.IsListIter it l (i + 1) → h'.get? s.heap.objs.size = some { cls := .type "tuple", data := .seq #[.int n s.toks, x] } → h'.objs.size = s.heap.objs.size + 1 → (∀ b o, b ≠ e → b ≠ it → s.heap.get? b = some o → h'.get? b = some o) → Q (some (.ref s.heap.objs.size)) { s with heap := h', toks := s.toks + 1 }) :
    wpAny (model prog w) A (pyNext (.ref e)) Q E s := by
  have hT : s.TypeIs (.ref e) "enumerate" := ⟨_, he, rfl⟩
  unfold pyNext; exact wpAny_bind (wpAny_attempt (wpAny_callSpecial?_slot (name := Str.ofString "__next__") hT F.slot_enumerate_next (wpAny_call_entry F.slot_enumerate_next hT F.entry_enumerate_next (en_item he hit hl hx hne fun h' a b c d k => wpAny_pure (hQ h' a b c d k)) (F.args_enumerate_next_1 _))))
theorem en_end {Q : Option Value → Shared → Prop} (hh : A.handled = none) (he : IsEnum s.heap e it n old) (hit : s.heap.IsListIter it l i) (hl : s.heap.IsList l items) (hx : items[i]? = none)
    (hQ : ∀ h', Heap.ExtBut it s.heap h' → Q none { s with heap := h' }) : wpAny (model prog w) A (pyNext (.ref e)) Q E s := by
  have hT : s.TypeIs (.ref e) "enumerate" := ⟨_, he, rfl⟩
  unfold pyNext; refine wpAny_bind (wpAny_attempt (wpAny_callSpecial?_slot (name := Str.ofString "__next__") hT F.slot_enumerate_next (wpAny_call_entry F.slot_enumerate_next hT F.entry_enumerate_next ?_ (F.args_enumerate_next_1 _))))
  show wpAny _ _ (field (.ref e) 2 >>= _) _ _ _; refine wpAny_bind (wpAny_field he rfl (x := .ref it) rfl ?_)
  refine wpAny_bind (wpAny_nextOf_list_end hh hit hl hx fun h' x he' ⟨o, ho, hc⟩ => ?_)
  exact wpAny_bind (wpAny_isInstance (T := "StopIteration") (b := true) ⟨o, ho, hc⟩ isSubtype_stop (wpAny_pure (hQ _ he')))
end
theorem ty2 (a b : Value) : checkTypeCall "enumerate" ⟨[a, b], []⟩ = pure () := by kernel_rfl
theorem nw2 (a b : Value) : checkBuiltinCall "enumerate.__new__" ⟨[.type "enumerate", a, b], []⟩ = pure () := by kernel_rfl
abbrev J1 (h : Heap) (l : Addr) : Heap := h.push { cls := .type "list_iterator", data := .fields #[.ref l, .int 0 0] }
abbrev J2 (h : Heap) (l : Addr) (n : Int) : Heap := (J1 h l).push { cls := .type "enumerate", data := .fields #[.none, .bool false, .ref h.objs.size, rawInt n, .none, .none] }
theorem new_enum (l : Addr) (items : Array Value) (m : Nat) (dct : Option Addr) (sl : Array (Option Value)) (t : Tok) :
    Meets (Builtin.«enumerate.__new__» ⟨[.type "enumerate", .ref l, .int 1 t], []⟩) (fun _ R s => s.heap.get? l = some { cls := .type "list", dict := dct, data := .seq items m, slots := sl } ∧ R (.ok (.ret (.ref (J1 s.heap l).objs.size))) { s with heap := J2 s.heap l 1 }) :=
  .of_wp fun prog w A R s h => by
    obtain ⟨hp, g, d, tk, os⟩ := s
    obtain ⟨hl, h⟩ := h
    have hsub := sub_enumerate
    have hL : Heap.IsList (Shared.heap ⟨hp, g, d, tk, os⟩) l items := ⟨_, hl, rfl, m, rfl⟩
    wp_walk using wpAny_loadPart' hl
    refine wpAny_stack_any fun st => wpAny_pure ?_
    split
    · rename_i c _ _ _ _ _
      cases (c == Value.type "enumerate") <;> (wp_walk using wpAny_loadPart' hl, wpAny_pyIter_list hL; exact ⟨_, rfl, h⟩)
    · wp_walk using wpAny_loadPart' hl, wpAny_pyIter_list hL; exact ⟨_, rfl, h⟩
section
variable {prog : Program} {w : World} {A : Around} {E : Value → Shared → Prop} {s : Shared} {l : Addr} {items : Array Value}
theorem call_enum {t : Tok} {Q : Value → Shared → Prop} (hL : s.heap.IsList l items)
    (h : ∀ h', IsEnum h' (s.heap.objs.size + 1) s.heap.objs.size 1 .none → h'.IsListIter s.heap.objs.size l 0 → (∀ b o, s.heap.get? b = some o → h'.get? b = some o) → Q (.ref (s.heap.objs.size + 1)) { s with heap := h' }) :
    wpAny (model prog w) A (call (.type "enumerate") [.ref l, .int 1 t]) Q E s := by
  obtain ⟨⟨c, dct, dt, sl⟩, hl, hc, m, hd⟩ := hL
  obtain rfl : c = .type "list" := hc
  obtain rfl : dt = .seq items m := hd
  refine callType_new F.called_enumerate (by decide) (ty2 _ _) (nw2 _ _) (fun obj => F.args_object_init_3 obj _ _) F.entry_enumerate_new (new_enum l items m dct sl t) ⟨hl, ?_⟩
  have hz : (J1 s.heap l).objs.size = s.heap.objs.size + 1 := Heap.size_push ..
  have g2 : (J2 s.heap l 1).get? (J1 s.heap l).objs.size = some _ := Heap.get?_push_size _ rfl
  have g1 : (J2 s.heap l 1).get? s.heap.objs.size = some _ := Heap.get?_push_of_some _ (Heap.get?_push_size _ rfl)
  show _ ∧ _
  rw [hz] at g2
  rw [hz]
  exact ⟨⟨_, g2, rfl⟩, h _ g2 ⟨_, g1, rfl, rfl⟩ fun b o q => Heap.get?_push_of_some _ (Heap.get?_push_of_some _ q)⟩
end
open PySem.Spec PyProof.Rows L2
/-- the list at a as it stands at each turn, each item in a new pair with its number, from 1 on -/
def It1 (K : PySem.W.Frag) (a : Addr) : It :=
  ⟨fun i H => ∃ (xs : List V) (x : V), SqL K H a xs ∧ xs[i]? = some x,
    fun i H v H' => ∃ T x, v = .ref T ∧ H T = none ∧ H' = upd H T (.tup [.int ((i : Int) + 1), x]) ∧ ∀ xs, SqL K H a xs → xs[i]? = some x,
    fun i H => ∃ xs : List V, SqL K H a xs ∧ xs.length ≤ i⟩
def Te (e it a : Addr) (i : Nat) (h : Heap) : Prop := ∃ old, IsEnum h e it ((i : Int) + 1) old ∧ h.IsListIter it a i ∧ e ≠ it
theorem two {e it c : Addr} (h : c ∈ [e, it]) : c = e ∨ c = it := by simpa using h
theorem turn {P : Program} {w : World} {K : PySem.W.Frag} {elts : List Expr} {kk : Nat} {tpos : Pos} (a e it : Addr) : Turn P w K (.Tuple elts kk tpos) (It1 K a) [e, it] e (Te e it a) where
  mem := .head _
  obj := fun i h ⟨old, he, ⟨o, ho, hc, hd⟩, _⟩ b hb => by
    rcases two hb with z | z <;> rw [z]
    · exact ⟨_, he, fun v q => nomatch q⟩
    · exact ⟨o, ho, fun v q => by rw [hd] at q; cases q⟩
  keep := fun i h h' ⟨old, he, hi, hne⟩ k => ⟨old, k e (by simp) _ he, hi.at fun o q => k it (by simp) o q, hne⟩
  item := by
    intro X hP hw hK hc i pins s σ H E I hf ⟨old, he, hit, hne⟩ ⟨xs, x, hq, hx⟩
    subst hP hw hK
    obtain ⟨its, rv, p, hz⟩ := I.list hq
    obtain ⟨u, hu, ru⟩ := rv.get hx
    have el : e < s.heap.objs.size := Heap.lt_size he
    have il : it < s.heap.objs.size := by obtain ⟨_, q, _⟩ := hit; exact Heap.lt_size q
    refine en_next he hit p.isList (x := u) (by simpa using hu) hne fun h' ho hit' hT hsz hk => ⟨_, rfl, wpAny_letOwnedTupleGo_enum (s := { s with heap := h', toks := s.toks + 1 }) ho fun h'' he' sb => ?_⟩
    have hT2 : h''.get? s.heap.objs.size = some { cls := .type "tuple", data := .seq #[.int ((i : Int) + 1) s.toks, u] } := (sb.2 _ (Nat.ne_of_gt el)).trans hT
    have new : ObjOk X.prog X.w (upd H s.heap.objs.size (.tup [.int ((i : Int) + 1), x])) h'' s.heap.objs.size (.tup [.int ((i : Int) + 1), x]) := ⟨by show 2 ≤ sizeLine; decide, [.int ((i : Int) + 1) s.toks, u], .cons ⟨_, rfl⟩ (.cons ru .nil), ⟨_, hT2, rfl, _, rfl⟩⟩
    have I1 : Inv X pins σ (upd H s.heap.objs.size (.tup [.int ((i : Int) + 1), x])) { s with heap := h'', toks := s.toks + 1 } := I.turnedNew (ch := [e, it]) (fun b ob hb q => (sb.2 b (fun z => hb (by simp [z]))).trans (hk b ob (fun z => hb (by simp [z])) (fun z => hb (by simp [z])) q)) hf (Nat.le_refl _) new
    refine ⟨.ref s.heap.objs.size, _, I1, rfl, ⟨_, x, rfl, I.hok.fresh (Nat.le_refl _), rfl, fun ys hy => by rw [I.list_inj hy hq]; exact hx⟩, ⟨u, ?_, hit'.at fun o q => (sb.2 it (Ne.symm hne)).trans q, hne⟩, fun b hb => ?_⟩
    · rw [show ((i + 1 : Nat) : Int) + 1 = (i : Int) + 1 + 1 by omega]; exact he'
    · have hb' : b < s.heap.objs.size := by rcases two hb with z | z <;> rw [z] <;> first | exact el | exact il
      rw [upd_ne (Nat.ne_of_lt hb')]; exact (hf b hb).1
  done := by
    intro X hP hw hK hc i pins s σ H E I hf ⟨old, he, hit, hne⟩ ⟨xs, hq, hx⟩
    subst hP hw hK
    obtain ⟨its, rv, p, hz⟩ := I.list hq
    obtain ⟨f0, f1, f2, f3, f4, f5⟩ := hf it (by simp)
    have hl := rv.length
    exact en_end (I.ok.hd hc) he hit p.isList (by simp; omega) fun h' eb => ⟨rfl, I.turned (t' := s.toks) (fun b o hb q => eb b o hb q) f0 f1 f3 f4 f5⟩
  self := fun A i s Q E ⟨_, he, _⟩ h => wpAny_pyIter_enum he h
def iEnum1 (K : PySem.W.Frag) (ta : TA) : TI := fun σ H R => ta σ H fun vs H1 => ∃ a xs, vs = [.ref a, .int 1] ∧ SqL K H1 a xs ∧ R (It1 K a) H1
theorem pi_enum1 {X : Cx} {K : PySem.W.Frag} {e e2 : Expr} {ta : TA} {p pos tpos : Pos} {elts : List Expr} {kk : Nat} (hg : Gl X "enumerate") (hm : X.mg "enumerate" = none) (ha : PA X [e, e2] ta)
    (hs : starEach [e, e2] X.env = (false, eval e X.env) :: starEach [e2] X.env := by rfl) (hpl : (backTo pos (starEach [e2] X.env)).any (·.1) = false := by rfl) (hK : X.K = K := by rfl) :
    PI X (.Tuple elts kk tpos) (.Call (.Name "enumerate" p) [e, e2] [] pos) (iEnum1 K ta) := by
  subst hK
  refine ⟨fun pins s σ H R I h => Call_ (ld_blt I hg hm boot_enumerate (PyProof.Rows.callWith_type1 (thn (ha.run pos pins s σ H _ I h) fun us s1 ⟨vs, H1, I1, r1, a, xs, ex, hq, q⟩ => ?_) hs hpl))⟩
  subst ex
  cases r1 with
  | cons r rr =>
    cases rr with
    | cons r' rr =>
      cases rr
      cases r
      obtain ⟨t, rfl⟩ := r'
      obtain ⟨its, rv, p', hz⟩ := I1.list hq
      refine call_enum p'.isList fun h' he hit hk => wpAny_pyIter_enum he ?_
      have I2 : Inv X pins σ H1 { s1 with heap := h' } := I1.kept (t' := s1.toks) hk
      refine ⟨s1.heap.objs.size + 1, [s1.heap.objs.size + 1, s1.heap.objs.size], _, _, H1, rfl, I2, turn a (s1.heap.objs.size + 1) s1.heap.objs.size, ⟨.none, he, hit, Nat.succ_ne_self _⟩, fun b hb => ?_, q⟩
      have hle : s1.heap.objs.size ≤ b := by rcases two hb with z | z <;> rw [z] <;> first | exact Nat.le_succ _ | exact Nat.le_refl _
      exact I1.fpOk hle (I1.hok.fresh hle)
end REN

set_option Elab.async false
set_option linter.all false
set_option maxRecDepth 100000
set_option maxHeartbeats 4000000
namespace RL
open PySem PySem.Spec PyProof.Rows L2 CwR
open Rep (rep)
/-! ### walks over zip and enumerate -/
section
variable {K : PySem.W.Frag} {a b : Addr} {xs ys : List V}
theorem walk_zipT {n : Nat} (hn : n = min xs.length ys.length) : Walk (RZ.ItzT K a b) n (fun H => SqT K H a xs ∧ SqT K H b ys) (YPair (fun i => xs[i]?) (fun i => ys[i]?)) := by
  subst hn
  refine ⟨fun i _ hi q => ⟨xs, ys, xs[i]'(by omega), ys[i]'(by omega), q.1, q.2, by rw [List.getElem?_eq_getElem], by rw [List.getElem?_eq_getElem]⟩, fun _ q => ⟨xs, ys, q.1, q.2, by omega⟩, fun i H v H' _ q ⟨T, x, z, h1, h2, h3, h4, h5⟩ => ⟨T, x, z, h1, h2, h3, h4 xs q.1, h5 ys q.2⟩⟩
theorem walk_zipM {n : Nat} (hn : n = min xs.length ys.length) : Walk (RZL.Itm K a b) n (fun H => SqL K H a xs ∧ SqT K H b ys) (YPair (fun i => xs[i]?) (fun i => ys[i]?)) := by
  subst hn
  refine ⟨fun i _ hi q => ⟨xs, ys, xs[i]'(by omega), ys[i]'(by omega), q.1, q.2, by rw [List.getElem?_eq_getElem], by rw [List.getElem?_eq_getElem]⟩, fun _ q => ⟨xs, ys, q.1, q.2, by omega⟩, fun i H v H' _ q ⟨T, x, z, h1, h2, h3, h4, h5⟩ => ⟨T, x, z, h1, h2, h3, h4 xs q.1, h5 ys q.2⟩⟩
theorem walk_en1 : Walk (REN.It1 K a) xs.length (fun H => SqL K H a xs) (YPair (fun i => some (.int ((i : Int) + 1))) (fun i => xs[i]?)) :=
  ⟨fun i _ hi q => ⟨xs, xs[i], q, by rw [List.getElem?_eq_getElem hi]⟩, fun _ q => ⟨xs, q, Nat.le_refl _⟩, fun i H v H' _ q ⟨T, x, h1, h2, h3, h4⟩ => ⟨T, _, x, h1, h2, h3, rfl, h4 xs q⟩⟩
end
def numb {α : Type} : Int → List α → List (Int × α)
  | _, [] => []
  | n, x :: l => (n, x) :: numb (n + 1) l
theorem numb_len {α : Type} : ∀ (n : Int) (l : List α), (numb n l).length = l.length
  | _, [] => rfl
  | n, x :: l => congrArg (· + 1) (numb_len (n + 1) l)
theorem numb_get {α : Type} : ∀ (n : Int) (l : List α) (i : Nat) {x : α}, l[i]? = some x → (numb n l)[i]? = some (n + (i : Int), x)
  | _, [], i, _, h => by simp at h
  | n, y :: l, 0, x, h => by
    have e : y = x := by simpa using h
    subst e
    show some (n, y) = _
    rw [show n + ((0 : Nat) : Int) = n by omega]
  | n, y :: l, i + 1, x, h => by
    have h' : l[i]? = some x := by simpa using h
    have := numb_get (n + 1) l i h'
    show (numb (n + 1) l)[i]? = _
    rw [this, show n + 1 + (i : Int) = n + ((i + 1 : Nat) : Int) by omega]
section
variable [Tb] [Fz] {α β γ : Type} [Rep α] [Rep β] [Rep γ] {K : PySem.W.Frag} {σ : L2.St} {G H : Hp} {te tl tm ta : TE} {tt : TT} {t u tb tz : TS} {D : Ends} {vs : List Nat}
theorem lc_turn2 {G1 H1 H' G' : Hp} {Dl : Addr} {zs : List V} {ys : List γ} {σ2 : L2.St} {b : Bool} {y : γ} (h : H1 Dl = none) (g : Grow G1 H1 G' H') (n : G' Dl = none) (e : H' Dl = some (.lst zs)) (r : Reps K ys zs G') (hl : ys.length < sizeLine) (ht : EvB tt σ2 G' b) (he : b = true → EvR K te σ2 G' y) {N : Hp → Prop}
    (hN : ∀ H2, Lc K G1 H1 Dl (cond b (ys ++ [y]) ys) H2 → N H2) :
    tt σ2 H' fun b H3 => if b = true then te σ2 H3 fun y H4 => ∃ acc, H4 Dl = some (.lst acc) ∧ acc.length < sizeLine ∧ N (upd H4 Dl (.lst (acc ++ [y]))) else N H3 := by
  refine ht H' g.s _ fun G3 H3 g3 => ?_
  have g13 := g.trans g3
  have n3 : G3 Dl = none := g3.f _ _ e n
  cases b with
  | true =>
    refine iteT ((he rfl).mono g3.g H3 g13.s _ fun v G4 H4 g4 r4 => ?_)
    have e4 := g4.h.l (g3.h.l e)
    have n4 : G4 Dl = none := g4.f _ _ (g3.h.l e) n3
    exact ⟨zs, e4, by rw [← paired_len r]; exact hl, hN _ ⟨G4, zs ++ [v], (g13.trans g4).mut h n4 (lst_no e4), n4, upd_same, paired_append (r.up (g3.g.trans g4.g)) (.cons r4 .nil)⟩⟩
  | false => exact iteF (hN _ ⟨G3, zs, g13, n3, g3.h.l e, r.up g3.g⟩)
omit [Tb] [Fz] in
theorem zip_get {l : List α} {m : List β} {xs ys : List V} {G1 : Hp} {i : Nat} {x y : V} (rl : Reps K l xs G1) (rm : Reps K m ys G1) (hx : xs[i]? = some x) (hy : ys[i]? = some y) : ∃ p : α × β, (List.zip l m)[i]? = some p ∧ rep K p.1 x G1 ∧ rep K p.2 y G1 := by
  obtain ⟨p, hp, rp⟩ := paired_get rl hx
  obtain ⟨q, hq, rq⟩ := paired_get rm hy
  exact ⟨(p, q), by rw [List.getElem?_zip_eq_some]; exact ⟨hp, hq⟩, rp, rq⟩
theorem zip_turn {ps : List (α × β)} {g : TG} (f : α × β → Bool) (h : α × β → γ) (hz : ps.length < sizeLine)
    (ht : ∀ p v G' H', Same G G' → Sub G' H' → p ∈ ps → rep K p v G' → ∀ (P : L2.St → Hp → Prop), (∀ σ2, wipe σ2 vs = wipe σ vs → EvB tt σ2 G' (f p) → (f p = true → EvR K te σ2 G' (h p)) → P σ2 H') → g v (wipe σ vs) H' P)
    {G1 H1 H' : Hp} {Dl T : Addr} {i : Nat} {p : α × β} {x y : V} (gg : Same G G1) (hD : H1 Dl = none) (pv : Lc K G1 H1 Dl (((ps.take i).filter f).map h) H') (hp : ps[i]? = some p) (hT : H' T = none) (rx : rep K p.1 x G1) (ry : rep K p.2 y G1) :
    g (.ref T) (wipe σ vs) (upd H' T (.tup [x, y])) fun σ2 H2 => wipe σ2 vs = wipe σ vs ∧ tt σ2 H2 fun b H3 =>
      if b = true then te σ2 H3 fun y H4 => ∃ acc, H4 Dl = some (.lst acc) ∧ acc.length < sizeLine ∧ Lc K G1 H1 Dl (((ps.take (i + 1)).filter f).map h) (upd H4 Dl (.lst (acc ++ [y]))) else Lc K G1 H1 Dl (((ps.take (i + 1)).filter f).map h) H3 := by
  obtain ⟨G', zs, g', n', e', r'⟩ := pv
  have gn := g'.trans (Grow.new g'.s hT (o := .tup [x, y]))
  have hG : G' T = none := g'.s.free hT
  have nt : T ≠ Dl := fun q => by rw [q, e'] at hT; cases hT
  have sm := g'.g.trans (same_upd hG (o := .tup [x, y]))
  refine ht p (.ref T) _ _ (gg.trans sm) gn.s (List.mem_of_getElem? hp) ⟨T, x, y, rfl, SqT.of upd_same, up sm rx, up sm ry⟩ _ fun σ2 hw hb he => ⟨hw, ?_⟩
  refine lc_turn2 hD gn (by rw [upd_ne nt.symm]; exact n') (by rw [upd_ne nt.symm]; exact e') (r'.up (same_upd hG)) ?_ hb he fun H2 p2 => ?_
  · rw [List.length_map]
    exact Nat.lt_of_le_of_lt (Nat.le_trans (List.length_filter_le _ _) (by rw [List.length_take]; exact Nat.min_le_right _ _)) hz
  · rw [take_snoc hp, filt_snoc]
    exact p2
theorem ev_lcZ {l : Tpl α} {m : Tpl β} {g : TG} (f : α × β → Bool) (h : α × β → γ) (hl : EvR K tl σ G l) (hm : EvR K tm σ G m) (hz : (List.zip l.l m.l).length < sizeLine)
    (ht : ∀ p v G' H', Same G G' → Sub G' H' → p ∈ List.zip l.l m.l → rep K p v G' → ∀ (P : L2.St → Hp → Prop), (∀ σ2, wipe σ2 vs = wipe σ vs → EvB tt σ2 G' (f p) → (f p = true → EvR K te σ2 G' (h p)) → P σ2 H') → g v (wipe σ vs) H' P) :
    EvR K (tLc (RZ.iZipA K (tCons tl (tCons tm tNil))) g tt te vs) σ G (((List.zip l.l m.l).filter f).map h) := fun H e Q q =>
  hl H e _ fun v G1 H1 g1 r1 => hm.mono g1.g H1 g1.s _ fun w G2 H2 g2 r2 => by
    obtain ⟨a, xs, ev, hA, rl⟩ := up g2.g r1
    obtain ⟨b, ys, ew, hB, rm⟩ := r2
    refine ⟨a, b, xs, ys, by rw [ev, ew], .inr ⟨sqT_mono g2.s.get hA, sqT_mono g2.s.get hB, fun Dl hD => ?_⟩⟩
    have hn : min xs.length ys.length = (List.zip l.l m.l).length := by rw [List.length_zip, paired_len rl, paired_len rm]
    refine lc_it (walk_zipT (K := K) (a := a) (b := b) (xs := xs) (ys := ys) rfl) (fun i H' => Lc K G2 H2 Dl ((((List.zip l.l m.l).take i).filter f).map h) H') (lc_start g2.s hD) (fun i H' _ ⟨G', zs, g, _, _, _⟩ => ⟨sqT_mono (un g.g g.s).get hA, sqT_mono (un g.g g.s).get hB⟩) (fun i v H' H'' _ p ⟨T, x, y, ev2, hT, eH, hx, hy⟩ => ?_) fun H' p => ?_
    · subst ev2 eH
      obtain ⟨pr, hp, rx, ry⟩ := zip_get rl rm hx hy
      exact zip_turn f h hz ht (g1.g.trans g2.g) hD p hp hT rx ry
    · obtain ⟨G', g', r'⟩ := lc_end hD p
      refine q _ G' H' ((g1.trans g2).trans g') ?_
      rw [hn, List.take_length] at r'
      exact r'
theorem ev_lcM {l : List α} {m : Tpl β} {g : TG} (f : α × β → Bool) (h : α × β → γ) (hl : EvR K tl σ G l) (hm : EvR K tm σ G m) (hz : (List.zip l m.l).length < sizeLine)
    (ht : ∀ p v G' H', Same G G' → Sub G' H' → p ∈ List.zip l m.l → rep K p v G' → ∀ (P : L2.St → Hp → Prop), (∀ σ2, wipe σ2 vs = wipe σ vs → EvB tt σ2 G' (f p) → (f p = true → EvR K te σ2 G' (h p)) → P σ2 H') → g v (wipe σ vs) H' P) :
    EvR K (tLc (RZL.iZipM K (tCons tl (tCons tm tNil))) g tt te vs) σ G (((List.zip l m.l).filter f).map h) := fun H e Q q =>
  hl H e _ fun v G1 H1 g1 r1 => hm.mono g1.g H1 g1.s _ fun w G2 H2 g2 r2 => by
    obtain ⟨a, xs, ev, hA, rl⟩ := up g2.g r1
    obtain ⟨b, ys, ew, hB, rm⟩ := r2
    refine ⟨a, b, xs, ys, by rw [ev, ew], SqL.of (g2.s _ _ hA), sqT_mono g2.s.get hB, fun Dl hD => ?_⟩
    have hn : min xs.length ys.length = (List.zip l m.l).length := by rw [List.length_zip, paired_len rl, paired_len rm]
    refine lc_it (walk_zipM (K := K) (a := a) (b := b) (xs := xs) (ys := ys) rfl) (fun i H' => Lc K G2 H2 Dl ((((List.zip l m.l).take i).filter f).map h) H') (lc_start g2.s hD) (fun i H' _ ⟨G', zs, g, _, _, _⟩ => ⟨SqL.of (g.s _ _ (g.g _ _ hA)), sqT_mono (un g.g g.s).get hB⟩) (fun i v H' H'' _ p ⟨T, x, y, ev2, hT, eH, hx, hy⟩ => ?_) fun H' p => ?_
    · subst ev2 eH
      obtain ⟨pr, hp, rx, ry⟩ := zip_get rl rm hx hy
      exact zip_turn f h hz ht (g1.g.trans g2.g) hD p hp hT rx ry
    · obtain ⟨G', g', r'⟩ := lc_end hD p
      refine q _ G' H' ((g1.trans g2).trans g') ?_
      rw [hn, List.take_length] at r'
      exact r'
theorem ev_lcZm {l : Tpl α} {m : Tpl β} {g : TG} (h : α × β → γ) (hl : EvR K tl σ G l) (hm : EvR K tm σ G m) (hz : (List.zip l.l m.l).length < sizeLine)
    (ht : ∀ p v G' H', Same G G' → Sub G' H' → p ∈ List.zip l.l m.l → rep K p v G' → ∀ (P : L2.St → Hp → Prop), (∀ σ2, wipe σ2 vs = wipe σ vs → EvB tYes σ2 G' true → (true = true → EvR K te σ2 G' (h p)) → P σ2 H') → g v (wipe σ vs) H' P) :
    EvR K (tLc (RZ.iZipA K (tCons tl (tCons tm tNil))) g tYes te vs) σ G ((List.zip l.l m.l).map h) := (ev_lcZ (fun _ => true) h hl hm hz ht).to (by rw [filt_true])
theorem ev_lcMm {l : List α} {m : Tpl β} {g : TG} (h : α × β → γ) (hl : EvR K tl σ G l) (hm : EvR K tm σ G m) (hz : (List.zip l m.l).length < sizeLine)
    (ht : ∀ p v G' H', Same G G' → Sub G' H' → p ∈ List.zip l m.l → rep K p v G' → ∀ (P : L2.St → Hp → Prop), (∀ σ2, wipe σ2 vs = wipe σ vs → EvB tYes σ2 G' true → (true = true → EvR K te σ2 G' (h p)) → P σ2 H') → g v (wipe σ vs) H' P) :
    EvR K (tLc (RZL.iZipM K (tCons tl (tCons tm tNil))) g tYes te vs) σ G ((List.zip l m.l).map h) := (ev_lcM (fun _ => true) h hl hm hz ht).to (by rw [filt_true])
/-- for n, x in enumerate(l, 1) -/
theorem s_forE {l : List α} {g : TG} (e : Sub G H) (h : EvR K tl σ G l) (k : ∀ G1 H1 xs, Grow G H G1 H1 → Reps K l xs G1 → ∃ Pv : Nat → L2.St → Hp → Prop, Pv 0 σ H1 ∧ (∀ i σ' H', Pv i σ' H' → Sub G1 H') ∧
    (∀ i x v σ' H' T, (numb 1 l)[i]? = some x → rep K x.2 v G1 → Pv i σ' H' → H' T = none → g (.ref T) σ' (upd H' T (.tup [.int x.1, v])) fun σ2 H2 => tb { D with nx := Pv (i + 1), ct := Pv (i + 1), bk := D.nx } σ2 H2) ∧ ∀ σ' H', Pv (numb 1 l).length σ' H' → D.nx σ' H') : tFor (REN.iEnum1 K (tCons tl (tCons (tC (.int 1)) tNil))) g tb D σ H :=
  h H e _ fun v G1 H1 g1 ⟨a, xs, ev, hA, r⟩ => by
    obtain ⟨Pv, p0, ps, pt, pe⟩ := k G1 H1 xs g1 r
    refine ⟨a, xs, by rw [ev], SqL.of (g1.s _ _ hA), for_it (walk_en1 (K := K) (a := a) (xs := xs)) Pv p0 (fun i σ' H' _ p => SqL.of (ps i σ' H' p _ _ hA)) (fun i v σ' H' H'' _ p ⟨T, n, x, ev2, hT, eH, hn, hx⟩ => ?_) fun σ' H' p => pe σ' H' (by rw [numb_len, paired_len r]; exact p)⟩
    subst ev2 eH
    obtain ⟨y, hy, ry⟩ := paired_get r hx
    have en : n = .int (1 + (i : Int)) := by rw [Int.add_comm]; exact (Option.some.inj hn).symm
    rw [en]
    exact pt i (1 + (i : Int), y) x σ' H' T (numb_get 1 l i hy) ry p hT
theorem q_forE {l : List α} {g : TG} (e : Sub G H) (h : EvR K tl σ G l) (k : ∀ G1 H1 xs, Grow G H G1 H1 → Reps K l xs G1 → ∃ Pv : Nat → L2.St → Hp → Prop, Pv 0 σ H1 ∧ (∀ i σ' H', Pv i σ' H' → Sub G1 H') ∧
    (∀ i x v σ' H' T, (numb 1 l)[i]? = some x → rep K x.2 v G1 → Pv i σ' H' → H' T = none → g (.ref T) σ' (upd H' T (.tup [.int x.1, v])) fun σ2 H2 => tb { D with nx := Pv (i + 1), ct := Pv (i + 1), bk := tz D } σ2 H2) ∧ ∀ σ' H', Pv (numb 1 l).length σ' H' → tz D σ' H') : tSeq (tFor (REN.iEnum1 K (tCons tl (tCons (tC (.int 1)) tNil))) g tb) tz D σ H :=
  s_forE (D := { D with nx := tz D }) e h k
end
end RL

set_option Elab.async false
set_option linter.all false
set_option maxRecDepth 100000
set_option maxHeartbeats 4000000
namespace RL
open PySem PySem.Spec PyProof.Rows L2 CwR
open Rep (rep)
/-! ### a dict of texts by texts, as data -/
structure Dct where
  l : List (Str × Str)
def kvsD (l : List (Str × Str)) : List (Key × V) := l.map fun p => (Sum.inr p.1, V.str p.2)
instance : Rep Dct := ⟨fun _ t v G => ∃ a, v = .ref a ∧ G a = some (.dK (kvsD t.l)), fun e ⟨a, h1, h2⟩ => ⟨a, h1, e _ _ h2 trivial⟩⟩
instance : Inhabited Dct := ⟨⟨[]⟩⟩
theorem valD_get {z : Str} : ∀ l : List (Str × Str), valV (kvsD l) (Sum.inr z) = (tabGet l z).map V.str
  | [] => rfl
  | p :: l => by
    by_cases q : p.1 = z
    · have q2 : (Sum.inr p.1 : Key) = Sum.inr z := congrArg _ q
      show valV ((Sum.inr p.1, V.str p.2) :: kvsD l) (Sum.inr z) = _
      rw [valV_pos (p := ((Sum.inr p.1 : Key), V.str p.2)) q2]
      unfold tabGet
      rw [List.find?_cons, decide_eq_true q]
      rfl
    · have q2 : ¬ (Sum.inr p.1 : Key) = Sum.inr z := fun h => q (Sum.inr.inj h)
      show valV ((Sum.inr p.1, V.str p.2) :: kvsD l) (Sum.inr z) = _
      rw [valV_neg (p := ((Sum.inr p.1 : Key), V.str p.2)) q2, valD_get l]
      unfold tabGet
      rw [List.find?_cons, decide_eq_false q]
def rnC (ys : List Str) : Prop := sortedS ys = true
theorem ltCps_irr : ∀ a : List Nat, ltCps a a = false
  | [] => rfl
  | a :: r => by
    show (decide (a < a) || (a == a && ltCps r r)) = false
    rw [ltCps_irr r, Bool.and_false, Bool.or_false]
    exact decide_eq_false (Nat.lt_irrefl a)
theorem ltCps_total : ∀ a b : List Nat, ltCps a b = false → ltCps b a = false → a = b
  | [], [], _, _ => rfl
  | [], _ :: _, h, _ => by cases h
  | _ :: _, [], _, h => by cases h
  | a :: r, b :: t, h, k => by
    have h : (decide (a < b) || (a == b && ltCps r t)) = false := h
    have k : (decide (b < a) || (b == a && ltCps t r)) = false := k
    obtain ⟨h1, h2⟩ := Bool.or_eq_false_iff.mp h
    obtain ⟨k1, k2⟩ := Bool.or_eq_false_iff.mp k
    have h1 := of_decide_eq_false h1
    have k1 := of_decide_eq_false k1
    have e : a = b := by omega
    subst e
    have eb : (a == a) = true := beq_self_eq_true a
    rw [eb, Bool.true_and] at h2 k2
    rw [ltCps_total r t h2 k2]
theorem ltCps_trans : ∀ a b c : List Nat, ltCps b a = false → ltCps c b = false → ltCps c a = false
  | [], _, [], _, _ => rfl
  | _ :: _, [], [], h, k => by cases h
  | _ :: _, _ :: _, [], h, k => by cases k
  | [], b, z :: u, h, k => rfl
  | x :: r, [], z :: u, h, k => by cases h
  | x :: r, y :: t, z :: u, h, k => by
    have h : (decide (y < x) || (y == x && ltCps t r)) = false := h
    have k : (decide (z < y) || (z == y && ltCps u t)) = false := k
    obtain ⟨h1, h2⟩ := Bool.or_eq_false_iff.mp h
    obtain ⟨k1, k2⟩ := Bool.or_eq_false_iff.mp k
    have h1 := of_decide_eq_false h1
    have k1 := of_decide_eq_false k1
    show (decide (z < x) || (z == x && ltCps u r)) = false
    refine Bool.or_eq_false_iff.mpr ⟨decide_eq_false (by omega), ?_⟩
    cases q : (z == x) with
    | false => rfl
    | true =>
      have e : z = x := eq_of_beq q
      have e2 : y = x := by omega
      have b1 : (y == x) = true := by rw [e2]; exact beq_self_eq_true x
      have b2 : (z == y) = true := by rw [e, e2]; exact beq_self_eq_true x
      rw [b1, Bool.true_and] at h2
      rw [b2, Bool.true_and] at k2
      rw [Bool.true_and]
      exact ltCps_trans r t u h2 k2
def leT (a b : Str) : Prop := ltCps b.cps.toList a.cps.toList = false
theorem rising_pw : ∀ (l : List Str) (p : Str), risingS p l = true → (p :: l).Pairwise leT
  | [], p, _ => List.pairwise_singleton _ _
  | x :: r, p, h => by
    have h : (!ltCps x.cps.toList p.cps.toList && risingS x r) = true := h
    obtain ⟨h1, h2⟩ := Bool.and_eq_true_iff.mp h
    have ih := rising_pw r x h2
    have h1' : leT p x := by unfold leT; revert h1; cases ltCps x.cps.toList p.cps.toList <;> simp
    refine List.pairwise_cons.mpr ⟨fun y hy => ?_, ih⟩
    rcases List.mem_cons.mp hy with e | hy
    · rw [e]; exact h1'
    · exact ltCps_trans _ _ _ h1' ((List.pairwise_cons.mp ih).1 y hy)
theorem sorted_pw : ∀ {l : List Str}, sortedS l = true → l.Pairwise leT
  | [], _ => .nil
  | x :: r, h => rising_pw r x h
theorem leT_anti {a b : Str} (h : leT a b) (k : leT b a) : a = b := by
  obtain ⟨⟨x⟩⟩ := a
  obtain ⟨⟨y⟩⟩ := b
  have e : y = x := ltCps_total y x h k
  rw [e]
theorem perm_pw {α : Type} {le : α → α → Prop} (anti : ∀ a b, le a b → le b a → a = b) : ∀ {l m : List α}, l.Perm m → l.Pairwise le → m.Pairwise le → l = m
  | [], m, p, _, _ => (List.nil_perm.mp p).symm
  | x :: l, [], p, _, _ => by cases List.Perm.length_eq p
  | x :: l, y :: m, p, h, k => by
    obtain ⟨h1, h2⟩ := List.pairwise_cons.mp h
    obtain ⟨k1, k2⟩ := List.pairwise_cons.mp k
    have e : x = y := by
      rcases List.mem_cons.mp (p.mem_iff.mp (List.mem_cons_self (a := x) (l := l))) with q | q
      · exact q
      · rcases List.mem_cons.mp (p.symm.mem_iff.mp (List.mem_cons_self (a := y) (l := m))) with z | z
        · exact z.symm
        · exact anti _ _ (h1 y z) (k1 x q)
    subst e
    rw [perm_pw anti (p.cons_inv) h2 k2]
theorem sorted_one {l m : List Str} (p : l.Perm m) (h : sortedS l = true) (k : sortedS m = true) : l = m := perm_pw (fun _ _ => leT_anti) p (sorted_pw h) (sorted_pw k)
section
variable [Tb] [Fz] {α β : Type} [Rep α] [Rep β] {K : PySem.W.Frag} {σ : L2.St} {G H : Hp} {te ta tb : TE} {t u tz : TS} {D : Ends} {i : Nat}
theorem ev_dctGet {d : Dct} {z : Str} (ha : EvR K ta σ G d) (hb : EvR K tb σ G z) (h : (tabGet d.l z).isSome = true) : EvR K (tDGet ta tb) σ G ((tabGet d.l z).getD Str.empty) := fun H e Q q =>
  ha H e _ fun v G1 H1 g1 r1 => hb.mono g1.g H1 g1.s _ fun w G2 H2 g2 r2 => by
    obtain ⟨a, ev, hA⟩ := up g2.g r1
    obtain ⟨x, ex⟩ := Option.isSome_iff_exists.mp h
    refine ⟨a, .str x, ev, ?_, ?_⟩
    · rw [show w = V.str z from r2]
      have := DGet.k (k := Sum.inr z) (g2.s _ _ hA)
      rw [valD_get, ex] at this
      exact this
    · refine q _ G2 H2 (g1.trans g2) ?_
      rw [ex]
      rfl
theorem ev_dctKeys {d : Dct} (ha : EvR K ta σ G d) : EvR K (tCB rListD (tCons ta tNil)) σ G (d.l.map (·.1)) := fun H e Q q =>
  ha H e _ fun v G1 H1 g1 ⟨a, ev, hA⟩ => ⟨a, kvsD d.l, by rw [ev], g1.s _ _ hA, fun p hp => q _ _ _ (g1.trans (Grow.new g1.s hp)) ⟨p, _, rfl, upd_same, by
    have e : (kvsD d.l).map (fun kv => kV kv.1) = (d.l.map (·.1)).map Flat.toV := by
      unfold kvsD
      rw [List.map_map, List.map_map]
      rfl
    rw [e]
    exact reps_of_flat _⟩⟩
theorem ev_sortS {l zs : List Str} (ha : EvR K ta σ G l) (h : zs.Perm l ∧ sortedS zs = true ∧ l.length < 64) : EvR K (tCB (rSortedS K) (tCons ta tNil)) σ G zs := fun H e Q q =>
  ha H e _ fun v G1 H1 g1 ⟨a, xs, ev, hA, r⟩ => ⟨a, l, by rw [ev], by
    have e := reps_flat r
    subst e
    exact SqL.of (g1.s _ _ hA), h.2.2, fun ys p hp hs hn => by
    have e : ys = zs := sorted_one (hp.trans h.1.symm) hs h.2.1
    subst e
    exact q _ _ _ (g1.trans (Grow.new g1.s hn)) ⟨p, _, rfl, upd_same, reps_of_flat ys⟩⟩
def inS (a b : Str) : Bool := !(Builtin.Str.occurrences b a 0 b.length 1).isEmpty
theorem ev_inS {a b : Str} (ha : EvR K ta σ G a) (hb : EvR K tb σ G b) : EvR K (tOp (fun x y H Q => ∃ i j, x = .str i ∧ y = .str j ∧ Q (.bl (!(Builtin.Str.occurrences j i 0 j.length 1).isEmpty)) H) ta tb) σ G (inS a b) :=
  ev_op ha hb fun v w G1 H1 _ s hv hw Q q => ⟨a, b, hv, hw, q _ G1 H1 (Grow.refl s) rfl⟩
theorem ev_ninL {δ : Type} [Rep δ] [DecidableEq δ] [Flat δ] {x : δ} {l : List δ} (ha : EvR K ta σ G x) (hb : EvR K tb σ G l) : EvR K (tOp (rIn K true) ta tb) σ G (!memB x l) :=
  ev_op ha hb fun v w G1 H1 _ s hv ⟨a, xs, ev, hA, r⟩ Q q => by
    have e := reps_flat r
    subst e
    refine ⟨a, _, ev, .inl (SqL.of (s _ _ hA)), by rw [show v = Flat.toV x from Flat.eq.mp hv]; exact Flat.flat x, flat_all, ?_⟩
    rw [if_pos rfl]
    refine q _ G1 H1 (Grow.refl s) ?_
    have : inV v (l.map Flat.toV) = memB x l := by
      rw [show v = Flat.toV x from Flat.eq.mp hv]
      unfold inV memB
      rw [List.any_map]
      apply Bool.eq_iff_iff.mpr
      rw [List.any_eq_true, decide_eq_true_iff]
      constructor
      · rintro ⟨y, hy, h⟩
        rw [Function.comp, Flat.eqv] at h
        rw [← of_decide_eq_true h]
        exact hy
      · intro h
        exact ⟨x, h, by rw [Function.comp, Flat.eqv]; exact decide_eq_true rfl⟩
    rw [this]
    rfl
theorem ev_splitM {s c : Str} {k : Int} (ha : EvR K ta σ G s) (hb : EvR K tb σ G c) (h : (c.length == 0) = false ∧ -(2 ^ 63) ≤ k ∧ k < 2 ^ 63 ∧ s.length + 2 ≤ sizeLine) :
    EvR K (tBM K "str" (fun x xs H Q => ∃ (a b : Str) (k : Int), x = .str a ∧ xs = [.str b, .int k] ∧ (b.length == 0) = false ∧ -(2 ^ 63) ≤ k ∧ k < 2 ^ 63 ∧ a.length + 2 ≤ sizeLine ∧ rNewStrs (Txt.splitMax a b k) H Q) ta (tCons tb (tCons (tC (.int k)) tNil))) σ G (Txt.splitMax s c k) := fun H e Q q =>
  ha H e _ fun v G1 H1 g1 r1 => ⟨by rw [show v = V.str s from r1]; rfl, hb.mono g1.g H1 g1.s _ fun w G2 H2 g2 r2 => ⟨s, c, k, r1, by rw [show w = V.str c from r2], h.1, h.2.1, h.2.2.1, h.2.2.2, fun p hp =>
    q _ _ _ ((g1.trans g2).trans (Grow.new g2.s hp)) ⟨p, _, rfl, upd_same, reps_of_flat _⟩⟩⟩
theorem ev_fmtI {n : Int} (h : EvR K te σ G n) (hz : n.natAbs.log2 < 1920) : EvR K (tFmt te) σ G (PySem.Str.ofString (toString n)) := fun H e Q q => h H e _ fun v G1 H1 g1 r1 => .inr ⟨n, r1, hz, q _ G1 H1 g1 rfl⟩
/-- x += n -/
theorem s_aug {n m : Int} {v : V} (e : Sub G H) (hi : σ[i]? = some (some v)) (hv : rep K n v G) (h : EvR K te σ G m) (k : ∀ v G2 H2, Grow G H G2 H2 → rep K (n + m) v G2 → D.nx (σ.set i (some v)) H2) : tAug i te (ipI fun i j => i + j) D σ H :=
  ⟨v, hi, h H e _ fun w G1 H1 g1 r1 => ⟨n, m, hv, r1, k _ G1 H1 g1 rfl⟩⟩
theorem q_aug {n m : Int} {v : V} (e : Sub G H) (hi : σ[i]? = some (some v)) (hv : rep K n v G) (h : EvR K te σ G m) (k : ∀ v G2 H2, Grow G H G2 H2 → rep K (n + m) v G2 → tz D (σ.set i (some v)) H2) : tSeq (tAug i te (ipI fun i j => i + j)) tz D σ H :=
  s_aug (D := { D with nx := tz D }) e hi hv h k
/-- contracts that may raise an error with a number -/
def spy1 {α ρ : Type} [Rep α] [Rep ρ] (K : PySem.W.Frag) (C : Addr) (f : Str) (pre : α → Prop) (m : α → Except Int ρ) : Sp := fun vs H Q E => ∃ x v G, vs = [v] ∧ Sub G H ∧ rep K x v G ∧ pre x ∧
  (∀ y, m x = .ok y → ∀ u G' H', Grow G H G' H' → rep K y u G' → Q u H') ∧ ∀ s, m x = .error s → ErrAt C f (.int s) H E
end
theorem cr_sortedSK {X : Cx} {K : PySem.W.Frag} (h : X.K = K := by rfl) : CallR X (.builtin "sorted") (rSortedS K) := by subst h; exact cr_sortedS
theorem op_ninK {X : Cx} {K : PySem.W.Frag} (h : X.K = K := by rfl) : OpR X (compareOp .NotIn) (rIn K true) := by subst h; exact op_notIn_seq
theorem pi_zipAK {X : Cx} {K : PySem.W.Frag} {e e2 : Expr} {ta : TA} {p pos tpos : Pos} {elts : List Expr} {kk : Nat} (hg : Gl X "zip") (hm : X.mg "zip" = none) (ha : PA X [e, e2] ta)
    (hs : starEach [e, e2] X.env = (false, eval e X.env) :: starEach [e2] X.env := by rfl) (hpl : (backTo pos (starEach [e2] X.env)).any (·.1) = false := by rfl) (hK : X.K = K := by rfl) :
    PI X (.Tuple elts kk tpos) (.Call (.Name "zip" p) [e, e2] [] pos) (RZ.iZipA K ta) := by subst hK; exact RZ.pi_zipA hg hm ha hs hpl
theorem hu_ofU {k : Nat} {A : Around} (r : Room k A) : A.units + 1 < cLine := by have := r.un; omega
def intT (s : Str) : Int := (PySem.intText? s).getD 0
end RL
namespace RL
open PySem PySem.Spec PyProof.Rows L2 CwR
open Rep (rep)
section
variable [Tb] [Fz] {α : Type} [Rep α] {K : PySem.W.Frag} {σ : L2.St} {G H Ge He : Hp} {ts : TA} {D : Ends} {i : Nat} {tz : TS}
/-- a new list with some items, that is still to be filled -/
theorem s_newG {l : List α} (gr : Grow Ge He G H) (h : EvA K ts σ G l) (hl : l.length ≤ sizeLine) (k : ∀ G' H' p H2 xs, Grow G H G' H' → He p = none → G' p = none → H2 p = some (.lst xs) → Reps K l xs G' → Grow Ge He G' H2 → Kept H H2 → D.nx (σ.set i (some (.ref p))) H2) : tAsg (tLst ts) (gName i) D σ H :=
  h H gr.s _ fun vs G1 H1 g1 r1 => ⟨by rw [← paired_len r1]; exact hl, fun p hp => k G1 H1 p _ vs g1 ((gr.trans g1).h.free hp) (g1.s.free hp) upd_same r1 ((gr.trans g1).loose hp) (g1.h.trans (kept_upd hp))⟩
theorem q_newG {l : List α} (gr : Grow Ge He G H) (h : EvA K ts σ G l) (hl : l.length ≤ sizeLine) (k : ∀ G' H' p H2 xs, Grow G H G' H' → He p = none → G' p = none → H2 p = some (.lst xs) → Reps K l xs G' → Grow Ge He G' H2 → Kept H H2 → tz D (σ.set i (some (.ref p))) H2) : tSeq (tAsg (tLst ts) (gName i)) tz D σ H :=
  s_newG (D := { D with nx := tz D }) gr h hl k
/-- what is never reached -/
theorem ps_dead {X : Cx} {st : Stmt} : PS X st (fun _ _ _ => False) := ⟨fun _ _ _ _ _ _ h => h.elim⟩
omit [Tb] [Fz] in
theorem nn_tpl {α : Type} [Rep α] {K : PySem.W.Frag} : ∀ v G, (∃ x : Tpl α, rep K x v G) → v ≠ .non := fun v G ⟨x, a, xs, e, _⟩ z => by rw [e] at z; cases z
end
end RL
namespace RL
open PySem PySem.Spec PyProof.Rows L2 CwR GxR
open Rep (rep)
section
variable {pg : Program} {wd : World} {mg : Str → Option Value} {sc : Scope} {c : Str}
theorem elt_inC {t : Str} {j : Nat} {p1 p2 p3 : Pos} (hk : sc.kind = .function) (hl : sc.names.lookup c = some .local) (hd : (c == ("__debug__" : Str)) = false := by decide) :
    EltM pg wd mg sc c (.Compare (.Name c p1) [.In] [.Constant (.str t) j p2] p3) (fun k => !(Builtin.Str.occurrences t ⟨#[k]⟩ 0 t.length 1).isEmpty) := by
  intro en B Z k tk sh lm e1 e2 hg hn hc
  subst e1
  refine wpAny_Compare1 (wpAny_Name (wpAny_loadName_local hk hl (show _ from hn) hc (Calls.Constant_str ?_)) hd) (by rfl)
  exact PySem.P.in_str ⟨rfl, kp _ _⟩
end
/-- a written text ahead: what wants a token out has one -/
theorem pe_cop {X : Cx} {c : Str} {f : Expr} {tf : TE} {j : Nat} {cp pos : Pos} {op : Operator} {r : R2} (ho : OpR X (binaryOp op) r) (hb : PET X f tf) : PE X (.BinOp (.Constant (.str c) j cp) op f pos) (tOp r (tC (.str c)) tf) :=
  ⟨fun pins s σ H Q I h => wpAny_BinOp (Calls.Constant_str (thn (hb pins _ σ H _ (Nat.le_add_left 1 s.toks) (I.tok (s.toks + 1)) h) fun u s2 ⟨y, H2, I2, r2, q2⟩ => ho pins s2 σ H2 (.str c) y _ u Q I2 ⟨s.toks, rfl⟩ r2 q2))⟩
section
variable [Tb] [Fz] {α β γ δ ρ : Type} [Rep α] [Rep β] [Rep γ] [Rep δ] [Rep ρ] {K : PySem.W.Frag} {σ : L2.St} {G : Hp} {ta tb tc td : TE} {E : XK}
def sp4 (K : PySem.W.Frag) (pre : α → β → γ → δ → Prop) (f : α → β → γ → δ → ρ) : Sp := fun vs H Q _ => ∃ x y z a v w u t G, vs = [v, w, u, t] ∧ Sub G H ∧ rep K x v G ∧ rep K y w G ∧ rep K z u G ∧ rep K a t G ∧ pre x y z a ∧ ∀ r G' H', Grow G H G' H' → rep K (f x y z a) r G' → Q r H'
theorem ev_call4 {x : α} {y : β} {z : γ} {a : δ} {pre : α → β → γ → δ → Prop} {f : α → β → γ → δ → ρ} (ha : EvR K ta σ G x) (hb : EvR K tb σ G y) (hc : EvR K tc σ G z) (hd : EvR K td σ G a) (hp : pre x y z a) :
    EvR K (tCall (sp4 K pre f) [] E (tCons ta (tCons tb (tCons tc (tCons td tNil))))) σ G (f x y z a) := fun H e Q q =>
  ha H e _ fun v G1 H1 g1 r1 => hb.mono g1.g H1 g1.s _ fun w G2 H2 g2 r2 => hc.mono (g1.g.trans g2.g) H2 g2.s _ fun u G3 H3 g3 r3 => hd.mono ((g1.g.trans g2.g).trans g3.g) H3 g3.s _ fun t G4 H4 g4 r4 =>
    ⟨x, y, z, a, v, w, u, t, G4, rfl, g4.s, up ((g2.g.trans g3.g).trans g4.g) r1, up (g3.g.trans g4.g) r2, up g4.g r3, r4, hp, fun u G5 H5 g5 r5 => q u G5 H5 ((((g1.trans g2).trans g3).trans g4).trans g5) r5⟩
end
end RL
namespace RL
open PySem PySem.Spec PyProof.Rows L2 CwR
open Rep (rep)
section
variable [Tb] [Fz] {K : PySem.W.Frag} {σ : L2.St} {G : Hp} {ta : TE}
theorem isNon_rep {d : PyData} {v : V} {G : Hp} (r : rep K d v G) : decide (v = .non) = isNonD d := by
  have r : Dp K G v d := r
  cases r <;> first | rfl | exact decide_eq_false (fun z => by cases z)
theorem ev_isND {d : PyData} (ha : EvR K ta σ G d) : EvR K (tOp (fun x y H Q => y = .non ∧ Q (.bl (decide (x = .non))) H) ta (tC .non)) σ G (isNonD d) := fun H e Q q =>
  ha H e _ fun v G1 H1 g1 r1 => ⟨rfl, q _ G1 H1 g1 (congrArg V.bl (isNon_rep r1))⟩
theorem ev_notND {d : PyData} (ha : EvR K ta σ G d) : EvR K (tOp (fun x y H Q => y = .non ∧ Q (.bl (!decide (x = .non))) H) ta (tC .non)) σ G (!isNonD d) := fun H e Q q =>
  ha H e _ fun v G1 H1 g1 r1 => ⟨rfl, q _ G1 H1 g1 (congrArg V.bl (congrArg not (isNon_rep r1)))⟩
theorem pss_dead {X : Cx} {st : List Stmt} : PSs X st (fun _ _ _ => False) := ⟨fun _ _ _ _ _ _ h => h.elim⟩
end
end RL

set_option Elab.async false
set_option linter.all false
set_option maxRecDepth 100000
set_option maxHeartbeats 4000000
namespace RL
open PySem PySem.Spec PyProof.Rows L2 CwR
/-! ### texts: spaces taken off, parts between spaces, parts in quotes -/
theorem sp32 : TL.tl (" " : Str) = [32] := by decide +kernel
theorem has_sp : (" " : Str).cps.contains = fun c : Nat => c == 32 := by
  funext c
  have e : (" " : Str).cps = #[32] := by decide +kernel
  rw [e]
  show (#[32] : Array Nat).contains c = _
  rw [← Array.contains_toList]
  show List.contains [32] c = _
  rw [List.contains_cons]
  show (c == 32 || false) = _
  rw [Bool.or_false]
theorem drop_tw {α : Type} (p : α → Bool) (l : List α) : l.drop (l.takeWhile p).length = l.dropWhile p := by
  conv => lhs; rhs; rw [← List.takeWhile_append_dropWhile (p := p) (l := l)]
  exact List.drop_left
theorem lstrip_tl (x : Str) : TL.tl (Txt.lstripChars x (" " : Str)) = (TL.tl x).dropWhile (· == 32) := by
  unfold Txt.lstripChars
  rw [stripBy_eq, has_sp]
  show TL.tl (Builtin.Str.strSub x (((TL.tl x).takeWhile (· == 32)).length) x.length) = _
  rw [TL.tl_strSub_end, drop_tw]
theorem take_tw {α : Type} (p : α → Bool) (l : List α) : l.take (l.length - (l.reverse.takeWhile p).length) = (l.reverse.dropWhile p).reverse := by
  have h := drop_tw p l.reverse
  rw [← h, List.reverse_drop, List.reverse_reverse, List.length_reverse]
theorem strip_tl (x : Str) : TL.tl (Txt.stripChars x (" " : Str)) = (((TL.tl x).dropWhile (· == 32)).reverse.dropWhile (· == 32)).reverse := by
  unfold Txt.stripChars
  rw [stripBy_eq, has_sp]
  show TL.tl (Builtin.Str.strSub x (((TL.tl x).takeWhile (· == 32)).length) (x.length - (((TL.tl x).drop ((TL.tl x).takeWhile (· == 32)).length).reverse.takeWhile (· == 32)).length)) = _
  rw [TL.tl_strSub, drop_tw, ← take_tw]
  congr 1
  have h1 : ((TL.tl x).dropWhile (· == 32)).length = (TL.tl x).length - ((TL.tl x).takeWhile (· == 32)).length := by rw [← drop_tw, List.length_drop]
  rw [TL.len_tl x, h1]
  omega
theorem dw_rep (n : Nat) (l : List Nat) (h : l.head? ≠ some 32) : (List.replicate n 32 ++ l).dropWhile (· == 32) = l := by
  induction n with
  | zero =>
    cases l with
    | nil => rfl
    | cons c r =>
      show (c :: r).dropWhile (· == 32) = c :: r
      rw [List.dropWhile_cons, if_neg (by intro z; exact h (by rw [eq_of_beq z]; rfl))]
  | succ n ih =>
    rw [List.replicate_succ, List.cons_append, List.dropWhile_cons, if_pos (by decide)]
    exact ih
theorem strip_mid {x : Str} {a b : Nat} {m : List Nat} (h : TL.tl x = List.replicate a 32 ++ (m ++ List.replicate b 32)) (h1 : m.head? ≠ some 32) (h2 : m.getLast? ≠ some 32) : TL.tl (Txt.stripChars x (" " : Str)) = m := by
  rw [strip_tl, h]
  cases m with
  | nil =>
    have e : (List.replicate a 32 ++ ([] ++ List.replicate b 32)).dropWhile (· == 32) = [] := by
      rw [List.nil_append, List.replicate_append_replicate, ← List.append_nil (List.replicate (a + b) 32)]
      exact dw_rep (a + b) [] (fun z => by cases z)
    rw [e]
    rfl
  | cons c r =>
    rw [dw_rep a _ (by exact h1), List.reverse_append, List.reverse_replicate, dw_rep b _ (by rw [List.head?_reverse]; exact h2), List.reverse_reverse]
/-! parts in quotes: how far a part goes -/
def flp (b : Bool) (c : Nat) : Bool := if c = 34 then !b else b
def scn : Bool → List Nat → Nat
  | _, [] => 0
  | b, [c] => if b = false ∧ c = 32 then 0 else if flp b c = true ∧ c = 92 then 2 else 1
  | b, c :: d :: r => if b = false ∧ c = 32 then 0 else if flp b c = true ∧ c = 92 then 2 + scn (flp b c) r else 1 + scn (flp b c) (d :: r)
theorem scn_c (b : Bool) (c : Nat) (r : List Nat) : scn b (c :: r) = if b = false ∧ c = 32 then 0 else if flp b c = true ∧ c = 92 then 2 + scn (flp b c) r.tail else 1 + scn (flp b c) r := by
  cases r with
  | nil => rfl
  | cons d r => rfl
theorem scn_stop {r : List Nat} (h : r = [] ∨ r.head? = some 32) : scn false r = 0 := by
  rcases h with h | h
  · rw [h]; rfl
  · cases r with
    | nil => rfl
    | cons c q =>
      have e : c = 32 := Option.some.inj h
      rw [scn_c, if_pos ⟨rfl, e⟩]
theorem scn_plain : ∀ (p r : List Nat), 32 ∉ p → 34 ∉ p → (r = [] ∨ r.head? = some 32) → scn false (p ++ r) = p.length
  | [], r, _, _, h => scn_stop h
  | c :: p, r, h1, h2, h => by
    have n1 : c ≠ 32 := fun z => h1 (by rw [z]; exact .head _)
    have n2 : c ≠ 34 := fun z => h2 (by rw [z]; exact .head _)
    have ih := scn_plain p r (fun z => h1 (.tail _ z)) (fun z => h2 (.tail _ z)) h
    have e : flp false c = false := if_neg n2
    rw [List.cons_append, scn_c, if_neg (fun z => n1 z.2), e, if_neg (fun z => Bool.noConfusion z.1), ih, List.length_cons]
    omega
def escC (c : Nat) : List Nat := if c = 34 ∨ c = 92 then [92, c] else [c]
theorem scn_in : ∀ (l r : List Nat), (r = [] ∨ r.head? = some 32) → scn true (l.flatMap escC ++ 34 :: r) = (l.flatMap escC).length + 1
  | [], r, h => by
    show scn true (34 :: r) = 0 + 1
    rw [scn_c, if_neg (by decide), if_neg (by decide)]
    show 1 + scn false r = _
    rw [scn_stop h]
  | c :: l, r, h => by
    have ih := scn_in l r h
    rw [List.flatMap_cons, List.length_append]
    by_cases q : c = 34 ∨ c = 92
    · have e : escC c = [92, c] := if_pos q
      rw [e]
      show scn true (92 :: (c :: (l.flatMap escC ++ 34 :: r))) = 2 + (l.flatMap escC).length + 1
      rw [scn_c, if_neg (by decide), if_pos (by decide)]
      show 2 + scn true (l.flatMap escC ++ 34 :: r) = _
      rw [ih]
      omega
    · have e : escC c = [c] := if_neg q
      rw [e]
      show scn true (c :: (l.flatMap escC ++ 34 :: r)) = 1 + (l.flatMap escC).length + 1
      have e2 : flp true c = true := if_neg fun z => q (.inl z)
      rw [scn_c, if_neg (fun z => Bool.noConfusion z.1), e2, if_neg (fun z => q (.inr z.2)), ih]
      omega
theorem scn_quote (l r : List Nat) (h : r = [] ∨ r.head? = some 32) : scn false (34 :: (l.flatMap escC ++ [34]) ++ r) = (34 :: (l.flatMap escC ++ [34])).length := by
  have e : 34 :: (l.flatMap escC ++ [34]) ++ r = 34 :: (l.flatMap escC ++ 34 :: r) := by rw [List.cons_append, List.append_assoc]; rfl
  rw [e, scn_c, if_neg (by decide), if_neg (by decide)]
  show 1 + scn true (l.flatMap escC ++ 34 :: r) = _
  rw [scn_in l r h, List.length_cons, List.length_append]
  show 1 + (_ + 1) = _ + 1 + 1
  omega
theorem scn_le : ∀ (b : Bool) (l : List Nat), scn b l ≤ l.length + 1
  | _, [] => Nat.zero_le _
  | b, [c] => by
    rw [scn_c]
    show (if b = false ∧ c = 32 then 0 else if flp b c = true ∧ c = 92 then 2 + 0 else 1 + 0) ≤ 2
    split
    · omega
    · split <;> omega
  | b, c :: d :: r => by
    have h1 := scn_le (flp b c) (d :: r)
    have h2 := scn_le (flp b c) r
    rw [scn_c]
    show (if b = false ∧ c = 32 then 0 else if flp b c = true ∧ c = 92 then 2 + scn (flp b c) r else 1 + scn (flp b c) (d :: r)) ≤ (d :: r).length + 1 + 1
    rw [List.length_cons] at h1 ⊢
    split
    · omega
    · split <;> omega
theorem scn_pos {l : List Nat} (h0 : l ≠ []) (h : l.head? ≠ some 32) : 1 ≤ scn false l := by
  cases l with
  | nil => exact absurd rfl h0
  | cons c r =>
    have n : c ≠ 32 := fun z => h (by rw [z]; rfl)
    rw [scn_c, if_neg (fun z => n z.2)]
    split <;> omega
/-! a line: parts with spaces between -/
def bodyB : List (List Nat × Nat) → List Nat
  | [] => []
  | [p] => p.1
  | p :: q :: r => p.1 ++ (List.replicate (p.2 + 1) 32 ++ bodyB (q :: r))
structure PartOk (p : List Nat) : Prop where
  ne : p ≠ []
  hd : p.head? ≠ some 32
  la : p.getLast? ≠ some 32
  sc : ∀ r, (r = [] ∨ r.head? = some 32) → scn false (p ++ r) = p.length
theorem body_head : ∀ {B : List (List Nat × Nat)}, (∀ p ∈ B, PartOk p.1) → (bodyB B).head? ≠ some 32
  | [], _ => fun z => by cases z
  | [p], h => (h p (.head _)).hd
  | p :: q :: r, h => by
    have k := h p (.head _)
    show (p.1 ++ _).head? ≠ some 32
    rw [List.head?_append]
    cases e : p.1 with
    | nil => exact absurd e k.ne
    | cons c s =>
      have := k.hd
      rw [e] at this
      exact this
theorem body_ne : ∀ {B : List (List Nat × Nat)}, B ≠ [] → (∀ p ∈ B, PartOk p.1) → bodyB B ≠ []
  | [], h, _ => absurd rfl h
  | [p], _, h => (h p (.head _)).ne
  | p :: q :: r, _, h => fun z => (h p (.head _)).ne (List.append_eq_nil_iff.mp z).1
theorem body_last : ∀ {B : List (List Nat × Nat)}, (∀ p ∈ B, PartOk p.1) → (bodyB B).getLast? ≠ some 32
  | [], _ => fun z => by cases z
  | [p], h => (h p (.head _)).la
  | p :: q :: r, h => by
    have k := body_last (B := q :: r) fun x hx => h x (.tail _ hx)
    have ne := body_ne (B := q :: r) (by intro z; cases z) fun x hx => h x (.tail _ hx)
    show (p.1 ++ (List.replicate (p.2 + 1) 32 ++ bodyB (q :: r))).getLast? ≠ some 32
    rw [List.getLast?_append, List.getLast?_append]
    cases e : (bodyB (q :: r)).getLast? with
    | none => exact absurd (List.getLast?_eq_none_iff.mp e) ne
    | some c => rw [e] at k; exact k
theorem body_len : ∀ {B : List (List Nat × Nat)}, (∀ p ∈ B, PartOk p.1) → B.length ≤ (bodyB B).length
  | [], _ => Nat.zero_le _
  | [p], h => by
    have := (h p (.head _)).ne
    show 1 ≤ p.1.length
    cases e : p.1 with
    | nil => exact absurd e this
    | cons _ _ => exact Nat.le_add_left _ _
  | p :: q :: r, h => by
    have ih := body_len (B := q :: r) fun x hx => h x (.tail _ hx)
    show _ ≤ (p.1 ++ (List.replicate (p.2 + 1) 32 ++ bodyB (q :: r))).length
    rw [List.length_append, List.length_append, List.length_replicate]
    rw [show (p :: q :: r).length = (q :: r).length + 1 from rfl]
    omega
theorem joinL_body (S : List Nat) : ∀ (P : List (List Nat)) , TL.joinL [32] P = bodyB (P.map fun p => (p, 0))
  | [] => rfl
  | [p] => rfl
  | p :: q :: r => by
    show p ++ ([32] ++ TL.joinL [32] (q :: r)) = p ++ (List.replicate 1 32 ++ bodyB ((q :: r).map fun p => (p, 0)))
    rw [joinL_body S (q :: r)]
    rfl
theorem join_body (P : List Str) : TL.tl (Txt.join (" " : Str) P) = bodyB (P.map fun p => (TL.tl p, 0)) := by
  rw [TL.join_eq, TL.tl_join, sp32, joinL_body []]
  rw [List.map_map]
  rfl
/-! the first space -/
theorem splitM_no {x : Str} (h : 32 ∉ TL.tl x) : Txt.splitMax x (" " : Str) 1 = [x] := by
  have hp := TL.partition_none (y := (" " : Str)) sp32 h
  unfold Txt.splitMax
  split
  · rfl
  · unfold Txt.partition at hp
    show (if (Builtin.Str.occurrences x (" " : Str) 0 x.length 1).isEmpty = true then _ else _) = _
    cases e : Builtin.Str.occurrences x (" " : Str) 0 x.length 1 with
    | nil => rfl
    | cons i r =>
      rw [e] at hp
      have h2 := (Prod.mk.inj (Prod.mk.inj hp).2).1
      exact absurd h2 (by decide +kernel)
theorem splitM_at {w y : Str} (h : 32 ∉ TL.tl w) : Txt.splitMax (w ++ (" " : Str) ++ y) (" " : Str) 1 = [w, y] := by
  have hp := TL.partition_app (y := (" " : Str)) (b := y) sp32 h
  have hl : (w ++ (" " : Str) ++ y).length = w.length + 1 + y.length := by rw [len_app, len_app]; rfl
  unfold Txt.splitMax
  have c1 : decide ((w ++ (" " : Str) ++ y).length < (" " : Str).length) = false := decide_eq_false (by rw [hl, show (" " : Str).length = 1 by decide]; omega)
  have c2 : decide (Builtin.Str.strKind (w ++ (" " : Str) ++ y) < Builtin.Str.strKind (" " : Str)) = false := decide_eq_false (TL.kind_ok (by decide +kernel))
  rw [c1, c2]
  show (if (Builtin.Str.occurrences (w ++ (" " : Str) ++ y) (" " : Str) 0 (w ++ (" " : Str) ++ y).length 1).isEmpty = true then _ else Builtin.Str.partsBetween _ (Builtin.Str.occurrences (w ++ (" " : Str) ++ y) (" " : Str) 0 (w ++ (" " : Str) ++ y).length 1) _) = _
  generalize (w ++ (" " : Str) ++ y) = x at hp
  have hle := StrLaws.occ_length_le x (" " : Str) 0 x.length 1
  unfold Txt.partition at hp
  cases e : Builtin.Str.occurrences x (" " : Str) 0 x.length 1 with
  | nil =>
    rw [e] at hp
    have h2 := (Prod.mk.inj (Prod.mk.inj hp).2).1
    exact absurd h2 (by decide +kernel)
  | cons i r =>
    rw [e] at hp hle
    have hr : r = [] := List.eq_nil_of_length_eq_zero (by rw [List.length_cons] at hle; omega)
    subst hr
    obtain ⟨h1, h2⟩ := Prod.mk.inj hp
    obtain ⟨_, h3⟩ := Prod.mk.inj h2
    show [Builtin.Str.strSub x 0 i, Builtin.Str.strSub x (i + (" " : Str).length) x.length] = [w, y]
    rw [h1, h3]
/-! digits -/
theorem eq1 {c k : Nat} {s : Str} (h : TL.tl s = [k]) : eqB (⟨#[c]⟩ : Str) s = decide (c = k) := by
  refine decide_eq_decide.mpr ⟨fun e => ?_, fun e => ?_⟩
  · have := congrArg TL.tl e
    rw [h] at this
    exact (List.cons.inj this).1
  · subst e
    exact tl_inj h.symm
end RL

set_option Elab.async false
set_option linter.all false
set_option maxRecDepth 100000
set_option maxHeartbeats 4000000
namespace RL
open PySem PySem.Spec PyProof.Rows L2 CwR
open Rep (rep)
/-! ### tuples of three to five; objects of own classes -/
instance {α β γ : Type} [Rep α] [Rep β] [Rep γ] [Dat α] [Dat β] [Dat γ] : Dat (T3 α β γ) := ⟨fun t => .tuple [Dat.d t.a, Dat.d t.b, Dat.d t.c], fun {K H t v G} s h => by
  obtain ⟨i, x, y, z, ev, hA, ka, kb, kc⟩ := h
  rw [ev]
  exact .tup (sqT_mono s hA) (.cons (Dat.dp s ka) (.cons (Dat.dp s kb) (.cons (Dat.dp s kc) .nil)))⟩
section
variable [Tb] [Fz] {α β γ : Type} [Rep α] [Rep β] [Rep γ] {K : PySem.W.Frag} {σ : L2.St} {G : Hp} {te tx ty tz : TE}
theorem ev_tup3 {x : α} {y : β} {z : γ} (hx : EvR K tx σ G x) (hy : EvR K ty σ G y) (hz : EvR K tz σ G z) : EvR K (tTup (tCons tx (tCons ty (tCons tz tNil)))) σ G (T3.mk x y z) := fun H e Q q =>
  hx H e _ fun vx G1 H1 g1 rx => (hy.mono g1.g) H1 g1.s _ fun vy G2 H2 g2 ry => (hz.mono (g1.g.trans g2.g)) H2 g2.s _ fun vz G3 H3 g3 rz => ⟨by show 3 ≤ sizeLine; decide, fun p hp => q _ _ _ (((g1.trans g2).trans g3).trans (Grow.new g3.s hp)) ⟨p, vx, vy, vz, rfl, SqT.of upd_same, (up (same_upd (g3.s.free hp)) (up g3.g (up g2.g rx))), (up (same_upd (g3.s.free hp)) (up g3.g ry)), (up (same_upd (g3.s.free hp)) rz)⟩⟩
theorem ev_ix30 {t : T3 α β γ} (ha : EvR K te σ G t) : EvR K (tOp (rIxT K) te (tC (.int 0))) σ G t.a :=
  ev_op (y := (0 : Int)) ha ev_int fun v w G1 H1 _ s ⟨i, x, y, z, ev, hA, ka, kb, kc⟩ hw Q q => ⟨i, [x, y, z], 0, x, ev, hw, sqT_mono s.get hA, rfl, q x G1 H1 (Grow.refl s) ka⟩
theorem ev_ix31 {t : T3 α β γ} (ha : EvR K te σ G t) : EvR K (tOp (rIxT K) te (tC (.int 1))) σ G t.b :=
  ev_op (y := (1 : Int)) ha ev_int fun v w G1 H1 _ s ⟨i, x, y, z, ev, hA, ka, kb, kc⟩ hw Q q => ⟨i, [x, y, z], 1, y, ev, hw, sqT_mono s.get hA, rfl, q y G1 H1 (Grow.refl s) kb⟩
theorem ev_ix32 {t : T3 α β γ} (ha : EvR K te σ G t) : EvR K (tOp (rIxT K) te (tC (.int 2))) σ G t.c :=
  ev_op (y := (2 : Int)) ha ev_int fun v w G1 H1 _ s ⟨i, x, y, z, ev, hA, ka, kb, kc⟩ hw Q q => ⟨i, [x, y, z], 2, z, ev, hw, sqT_mono s.get hA, rfl, q z G1 H1 (Grow.refl s) kc⟩
end
structure T4 (α β γ δ : Type) where
  a : α
  b : β
  c : γ
  d : δ
instance {α β γ δ : Type} [Rep α] [Rep β] [Rep γ] [Rep δ] : Rep (T4 α β γ δ) := ⟨fun K t v G => ∃ i x y z u, v = .ref i ∧ SqT K G i [x, y, z, u] ∧ rep K t.a x G ∧ rep K t.b y G ∧ rep K t.c z G ∧ rep K t.d u G,
  fun e ⟨i, x, y, z, u, h0, h1, ka, kb, kc, kd⟩ => ⟨i, x, y, z, u, h0, sqT_monoD e h1, upd' e ka, upd' e kb, upd' e kc, upd' e kd⟩⟩
instance {α β γ δ : Type} [Rep α] [Rep β] [Rep γ] [Rep δ] [Dat α] [Dat β] [Dat γ] [Dat δ] : Dat (T4 α β γ δ) := ⟨fun t => .tuple [Dat.d t.a, Dat.d t.b, Dat.d t.c, Dat.d t.d], fun {K H t v G} s h => by
  obtain ⟨i, x, y, z, u, ev, hA, ka, kb, kc, kd⟩ := h
  rw [ev]
  exact .tup (sqT_mono s hA) (.cons (Dat.dp s ka) (.cons (Dat.dp s kb) (.cons (Dat.dp s kc) (.cons (Dat.dp s kd) .nil))))⟩
section
variable [Tb] [Fz] {α β γ δ : Type} [Rep α] [Rep β] [Rep γ] [Rep δ] {K : PySem.W.Frag} {σ : L2.St} {G : Hp} {te tx ty tz tu : TE}
theorem ev_tup4 {x : α} {y : β} {z : γ} {u : δ} (hx : EvR K tx σ G x) (hy : EvR K ty σ G y) (hz : EvR K tz σ G z) (hu : EvR K tu σ G u) : EvR K (tTup (tCons tx (tCons ty (tCons tz (tCons tu tNil))))) σ G (T4.mk x y z u) := fun H e Q q =>
  hx H e _ fun vx G1 H1 g1 rx => (hy.mono g1.g) H1 g1.s _ fun vy G2 H2 g2 ry => (hz.mono (g1.g.trans g2.g)) H2 g2.s _ fun vz G3 H3 g3 rz => (hu.mono ((g1.g.trans g2.g).trans g3.g)) H3 g3.s _ fun vu G4 H4 g4 ru => ⟨by show 4 ≤ sizeLine; decide, fun p hp => q _ _ _ ((((g1.trans g2).trans g3).trans g4).trans (Grow.new g4.s hp)) ⟨p, vx, vy, vz, vu, rfl, SqT.of upd_same, (up (same_upd (g4.s.free hp)) (up g4.g (up g3.g (up g2.g rx)))), (up (same_upd (g4.s.free hp)) (up g4.g (up g3.g ry))), (up (same_upd (g4.s.free hp)) (up g4.g rz)), (up (same_upd (g4.s.free hp)) ru)⟩⟩
theorem ev_ix40 {t : T4 α β γ δ} (ha : EvR K te σ G t) : EvR K (tOp (rIxT K) te (tC (.int 0))) σ G t.a :=
  ev_op (y := (0 : Int)) ha ev_int fun v w G1 H1 _ s ⟨i, x, y, z, u, ev, hA, ka, kb, kc, kd⟩ hw Q q => ⟨i, [x, y, z, u], 0, x, ev, hw, sqT_mono s.get hA, rfl, q x G1 H1 (Grow.refl s) ka⟩
theorem ev_ix41 {t : T4 α β γ δ} (ha : EvR K te σ G t) : EvR K (tOp (rIxT K) te (tC (.int 1))) σ G t.b :=
  ev_op (y := (1 : Int)) ha ev_int fun v w G1 H1 _ s ⟨i, x, y, z, u, ev, hA, ka, kb, kc, kd⟩ hw Q q => ⟨i, [x, y, z, u], 1, y, ev, hw, sqT_mono s.get hA, rfl, q y G1 H1 (Grow.refl s) kb⟩
theorem ev_ix42 {t : T4 α β γ δ} (ha : EvR K te σ G t) : EvR K (tOp (rIxT K) te (tC (.int 2))) σ G t.c :=
  ev_op (y := (2 : Int)) ha ev_int fun v w G1 H1 _ s ⟨i, x, y, z, u, ev, hA, ka, kb, kc, kd⟩ hw Q q => ⟨i, [x, y, z, u], 2, z, ev, hw, sqT_mono s.get hA, rfl, q z G1 H1 (Grow.refl s) kc⟩
theorem ev_ix43 {t : T4 α β γ δ} (ha : EvR K te σ G t) : EvR K (tOp (rIxT K) te (tC (.int 3))) σ G t.d :=
  ev_op (y := (3 : Int)) ha ev_int fun v w G1 H1 _ s ⟨i, x, y, z, u, ev, hA, ka, kb, kc, kd⟩ hw Q q => ⟨i, [x, y, z, u], 3, u, ev, hw, sqT_mono s.get hA, rfl, q u G1 H1 (Grow.refl s) kd⟩
end
structure T5 (α β γ δ ε : Type) where
  a : α
  b : β
  c : γ
  d : δ
  e : ε
instance {α β γ δ ε : Type} [Rep α] [Rep β] [Rep γ] [Rep δ] [Rep ε] : Rep (T5 α β γ δ ε) := ⟨fun K t v G => ∃ i x y z u w, v = .ref i ∧ SqT K G i [x, y, z, u, w] ∧ rep K t.a x G ∧ rep K t.b y G ∧ rep K t.c z G ∧ rep K t.d u G ∧ rep K t.e w G,
  fun e ⟨i, x, y, z, u, w, h0, h1, ka, kb, kc, kd, ke⟩ => ⟨i, x, y, z, u, w, h0, sqT_monoD e h1, upd' e ka, upd' e kb, upd' e kc, upd' e kd, upd' e ke⟩⟩
instance {α β γ δ ε : Type} [Rep α] [Rep β] [Rep γ] [Rep δ] [Rep ε] [Dat α] [Dat β] [Dat γ] [Dat δ] [Dat ε] : Dat (T5 α β γ δ ε) := ⟨fun t => .tuple [Dat.d t.a, Dat.d t.b, Dat.d t.c, Dat.d t.d, Dat.d t.e], fun {K H t v G} s h => by
  obtain ⟨i, x, y, z, u, w, ev, hA, ka, kb, kc, kd, ke⟩ := h
  rw [ev]
  exact .tup (sqT_mono s hA) (.cons (Dat.dp s ka) (.cons (Dat.dp s kb) (.cons (Dat.dp s kc) (.cons (Dat.dp s kd) (.cons (Dat.dp s ke) .nil)))))⟩
section
variable [Tb] [Fz] {α β γ δ ε : Type} [Rep α] [Rep β] [Rep γ] [Rep δ] [Rep ε] {K : PySem.W.Frag} {σ : L2.St} {G : Hp} {te tx ty tz tu tw : TE}
theorem ev_tup5 {x : α} {y : β} {z : γ} {u : δ} {w : ε} (hx : EvR K tx σ G x) (hy : EvR K ty σ G y) (hz : EvR K tz σ G z) (hu : EvR K tu σ G u) (hw : EvR K tw σ G w) : EvR K (tTup (tCons tx (tCons ty (tCons tz (tCons tu (tCons tw tNil)))))) σ G (T5.mk x y z u w) := fun H e Q q =>
  hx H e _ fun vx G1 H1 g1 rx => (hy.mono g1.g) H1 g1.s _ fun vy G2 H2 g2 ry => (hz.mono (g1.g.trans g2.g)) H2 g2.s _ fun vz G3 H3 g3 rz => (hu.mono ((g1.g.trans g2.g).trans g3.g)) H3 g3.s _ fun vu G4 H4 g4 ru => (hw.mono (((g1.g.trans g2.g).trans g3.g).trans g4.g)) H4 g4.s _ fun vw G5 H5 g5 rw => ⟨by show 5 ≤ sizeLine; decide, fun p hp => q _ _ _ (((((g1.trans g2).trans g3).trans g4).trans g5).trans (Grow.new g5.s hp)) ⟨p, vx, vy, vz, vu, vw, rfl, SqT.of upd_same, (up (same_upd (g5.s.free hp)) (up g5.g (up g4.g (up g3.g (up g2.g rx))))), (up (same_upd (g5.s.free hp)) (up g5.g (up g4.g (up g3.g ry)))), (up (same_upd (g5.s.free hp)) (up g5.g (up g4.g rz))), (up (same_upd (g5.s.free hp)) (up g5.g ru)), (up (same_upd (g5.s.free hp)) rw)⟩⟩
theorem ev_ix50 {t : T5 α β γ δ ε} (ha : EvR K te σ G t) : EvR K (tOp (rIxT K) te (tC (.int 0))) σ G t.a :=
  ev_op (y := (0 : Int)) ha ev_int fun v w G1 H1 _ s ⟨i, x, y, z, u, w, ev, hA, ka, kb, kc, kd, ke⟩ hw Q q => ⟨i, [x, y, z, u, w], 0, x, ev, hw, sqT_mono s.get hA, rfl, q x G1 H1 (Grow.refl s) ka⟩
theorem ev_ix51 {t : T5 α β γ δ ε} (ha : EvR K te σ G t) : EvR K (tOp (rIxT K) te (tC (.int 1))) σ G t.b :=
  ev_op (y := (1 : Int)) ha ev_int fun v w G1 H1 _ s ⟨i, x, y, z, u, w, ev, hA, ka, kb, kc, kd, ke⟩ hw Q q => ⟨i, [x, y, z, u, w], 1, y, ev, hw, sqT_mono s.get hA, rfl, q y G1 H1 (Grow.refl s) kb⟩
theorem ev_ix52 {t : T5 α β γ δ ε} (ha : EvR K te σ G t) : EvR K (tOp (rIxT K) te (tC (.int 2))) σ G t.c :=
  ev_op (y := (2 : Int)) ha ev_int fun v w G1 H1 _ s ⟨i, x, y, z, u, w, ev, hA, ka, kb, kc, kd, ke⟩ hw Q q => ⟨i, [x, y, z, u, w], 2, z, ev, hw, sqT_mono s.get hA, rfl, q z G1 H1 (Grow.refl s) kc⟩
theorem ev_ix53 {t : T5 α β γ δ ε} (ha : EvR K te σ G t) : EvR K (tOp (rIxT K) te (tC (.int 3))) σ G t.d :=
  ev_op (y := (3 : Int)) ha ev_int fun v w G1 H1 _ s ⟨i, x, y, z, u, w, ev, hA, ka, kb, kc, kd, ke⟩ hw Q q => ⟨i, [x, y, z, u, w], 3, u, ev, hw, sqT_mono s.get hA, rfl, q u G1 H1 (Grow.refl s) kd⟩
theorem ev_ix54 {t : T5 α β γ δ ε} (ha : EvR K te σ G t) : EvR K (tOp (rIxT K) te (tC (.int 4))) σ G t.e :=
  ev_op (y := (4 : Int)) ha ev_int fun v w G1 H1 _ s ⟨i, x, y, z, u, w, ev, hA, ka, kb, kc, kd, ke⟩ hw Q q => ⟨i, [x, y, z, u, w], 4, w, ev, hw, sqT_mono s.get hA, rfl, q w G1 H1 (Grow.refl s) ke⟩
end
/-! ### objects: what is told of the instance at a may be replaced -/
theorem nd_ins {C dx : Addr} {fs : List (Str × V)} : ¬ dataO (.ins C dx fs) := fun h => h
theorem nt_ins {C dx : Addr} {fs : List (Str × V)} : noTb (.ins C dx fs) := fun q z => by cases z
theorem nt_own {a : Addr} : noTb (.own a) := fun q z => by cases z
section
variable [Tb] [Fz]
structure GrowM (a : Addr) (G H G' H' : Hp) : Prop where
  g : ∀ b o, G b = some o → b ≠ a → G' b = some o
  d : SameD G G'
  s : Sub G' H'
  k : ∀ b o, H b = some o → noTb o → b ≠ a → H' b = some o
  fr : ∀ b, H' b = none → H b = none
  f : ∀ b o, H b = some o → G b = none → G' b = none
  x : ∀ a o, Fz.X a = some o → H a = some o
variable {a : Addr} {G H G' H' G1 H1 G2 H2 Ge He : Hp}
theorem Grow.toM (g : Grow G H G' H') : GrowM a G H G' H' := ⟨fun b o h _ => g.g b o h, same_d g.g, g.s, fun b o h n _ => g.h.k b o h n, g.h.fr, g.f, g.x⟩
theorem GrowM.none (m : GrowM a G H G' H') {b : Addr} {o : HO} (h : H b = some o) : ∃ u, H' b = some u := by
  cases q : H' b with
  | none => rw [m.fr b q] at h; cases h
  | some u => exact ⟨u, rfl⟩
theorem GrowM.next (m : GrowM a G H G1 H1) (k : GrowM a G1 H1 G2 H2) : GrowM a G H G2 H2 :=
  ⟨fun b o h n => k.g b o (m.g b o h n) n, m.d.trans k.d, k.s, fun b o h t n => k.k b o (m.k b o h t n) t n, fun b h => m.fr b (k.fr b h), fun b o h n => by
    obtain ⟨u, e⟩ := m.none h
    exact k.f b u e (m.f b o h n), m.x⟩
theorem GrowM.trans (m : GrowM a G H G1 H1) (g : Grow G1 H1 G2 H2) : GrowM a G H G2 H2 := m.next g.toM
theorem Grow.m (g : Grow G H G1 H1) (k : GrowM a G1 H1 G2 H2) : GrowM a G H G2 H2 := (g.toM (a := a)).next k
/-- the instance is not known to the def's entry -/
theorem Grow.mutM (gr : Grow Ge He G H) (hF : He a = none) (hE : Ge a = none) (m : GrowM a G H G' H') : Grow Ge He G' H' :=
  ⟨fun b o h => m.g b o (gr.g b o h) (ne_of_none h hE), m.s, ⟨fun b o h n => m.k b o (gr.h.k b o h n) n (ne_of_none h hF), fun b h => gr.h.fr b (m.fr b h)⟩, fun b o h n => by
    obtain ⟨u, e⟩ := gr.h.none h
    exact m.f b u e (gr.f b o h n), gr.x⟩
theorem wr_own {o o' : HO} (s : Sub G H) (h : G a = some o) (nd : ¬ dataO o) (nt : noTb o') : GrowM a G H (upd G a o') (upd H a o') := by
  have hH := s.m a o h
  refine ⟨fun b u e n => by rw [upd_ne n]; exact e, fun b u e d => ?_, ⟨fun b u e => ?_, fun P hP => tab_mut (s.t P hP) fun q z => ?_, fun b u e => ?_, fun b u e => ?_⟩, fun b u e _ n => by rw [upd_ne n]; exact e, fun b e => ?_, fun b u e n => ?_, fun b u e => (s.x b u e).1⟩
  · by_cases hb : b = a
    · rw [hb, h] at e
      cases e
      exact absurd d nd
    · rw [upd_ne hb]; exact e
  · by_cases hb : b = a
    · subst hb
      rw [upd_same] at e ⊢
      cases e
      exact ⟨rfl, nt⟩
    · rw [upd_ne hb] at e ⊢
      exact s.m b u e
  · rw [hH.1] at z
    cases z
    exact hH.2 q rfl
  · rw [upd_ne (ne_of_none e (s.d a o h))]
    exact s.x b u e
  · by_cases hb : b = a
    · rw [hb]; exact s.d a o h
    · rw [upd_ne hb] at e
      exact s.d b u e
  · by_cases hb : b = a
    · rw [hb, upd_same] at e
      cases e
    · rw [upd_ne hb] at e
      exact e
  · by_cases hb : b = a
    · rw [hb, h] at n
      cases n
    · rw [upd_ne hb]; exact n
/-- a new instance: its dict and itself -/
theorem new_ins {C x dx : Addr} (e : Sub G H) (hx : H x = none) (hd : H dx = none) (ne : dx ≠ x) : Grow G H (upd (upd G dx (.own x)) x (.ins C dx [])) (upd (upd H dx (.own x)) x (.ins C dx [])) :=
  (Grow.new e hd nt_own).trans (Grow.new (sub_updB e hd nt_own) (by rw [upd_ne (Ne.symm ne)]; exact hx) nt_ins)
end
/-! ### reading and writing a field, making, methods -/
section
variable [Tb] [Fz] {α β γ ρ S : Type} [Rep α] [Rep β] [Rep γ] [Rep ρ] {K : PySem.W.Frag} {σ : L2.St} {G H : Hp} {te ta tb tc : TE} {D : Ends} {tz : TS} {x : α} {y : β} {i j : Nat} {a dx C : Addr} {fs : List (Str × V)} {f m : Str} {w : V} {E : XK} {s : S} {Q : VK}
theorem ev_fld (hi : σ[i]? = some (some (.ref a))) (hG : G a = some (.ins C dx fs)) (c : Cls K C) (n : NoAttr K C f) (l : fs.lookup f = some w) (r : rep K x w G) : EvR K (tFld K (tVar i) f) σ G x := fun H e Q q =>
  ⟨_, hi, a, C, dx, fs, w, rfl, e _ _ hG, c, n, l, q w G H (Grow.refl e) r⟩
theorem s_fld (e : Sub G H) (h : EvR K te σ G x) (hi : σ[i]? = some (some (.ref a))) (hG : G a = some (.ins C dx fs)) (c : Cls K C) (n : NoAttr K C f) (l : fs.length < 1000)
    (k : ∀ w G1 H1, Grow G H G1 H1 → rep K x w G1 → ∀ G2 H2, GrowM a G1 H1 G2 H2 → G2 a = some (.ins C dx (putF f w fs)) → rep K x w G2 → D.nx σ H2) : sFld K (tVar i) te f D σ H :=
  h H e _ fun w G1 H1 g1 r1 => by
    have hG1 := g1.g _ _ hG
    have gm : GrowM a G1 H1 (upd G1 a (.ins C dx (putF f w fs))) (upd H1 a (.ins C dx (putF f w fs))) := wr_own g1.s hG1 nd_ins nt_ins
    exact ⟨_, hi, a, C, dx, fs, rfl, g1.s _ _ hG1, c, n, l, k w G1 H1 g1 r1 _ _ gm upd_same (upd' gm.d r1)⟩
theorem q_fld (e : Sub G H) (h : EvR K te σ G x) (hi : σ[i]? = some (some (.ref a))) (hG : G a = some (.ins C dx fs)) (c : Cls K C) (n : NoAttr K C f) (l : fs.length < 1000)
    (k : ∀ w G1 H1, Grow G H G1 H1 → rep K x w G1 → ∀ G2 H2, GrowM a G1 H1 G2 H2 → G2 a = some (.ins C dx (putF f w fs)) → rep K x w G2 → tz D σ H2) : tSeq (sFld K (tVar i) te f) tz D σ H :=
  s_fld (D := { D with nx := tz D }) e h hi hG c n l k
/-- what a kind of objects is known by: the fields' values stand in G -/
structure ObP (C : Addr) (Ob : S → Addr → Addr → Hp → Prop) : Prop where
  up : ∀ {s a dx G G'}, Same G G' → Ob s a dx G → Ob s a dx G'
  ins : ∀ {s a dx G}, Ob s a dx G → ∃ fs, G a = some (.ins C dx fs)
def spi0 (Ob : S → Addr → Addr → Hp → Prop) (C : Addr) (s : S) : Sp := fun vs H Q _ => ∃ a dx G, vs = [.ref a] ∧ Sub G H ∧ G a = some (.ins C dx []) ∧ G dx = some (.own a) ∧ ∀ G' H', GrowM a G H G' H' → Ob s a dx G' → Q .non H'
def spi1 (K : PySem.W.Frag) (Ob : S → Addr → Addr → Hp → Prop) (C : Addr) (pre : α → Prop) (f : α → S) : Sp := fun vs H Q _ => ∃ a dx x w G, vs = [.ref a, w] ∧ Sub G H ∧ G a = some (.ins C dx []) ∧ G dx = some (.own a) ∧ rep K x w G ∧ pre x ∧ ∀ G' H', GrowM a G H G' H' → Ob (f x) a dx G' → Q .non H'
def spr0 (K : PySem.W.Frag) (Ob : S → Addr → Addr → Hp → Prop) (pre : S → Prop) (f : S → ρ) : Sp := fun vs H Q _ => ∃ s a dx G, vs = [.ref a] ∧ Sub G H ∧ Ob s a dx G ∧ pre s ∧ ∀ u G' H', Grow G H G' H' → rep K (f s) u G' → Q u H'
def spr1 (K : PySem.W.Frag) (Ob : S → Addr → Addr → Hp → Prop) (pre : S → α → Prop) (f : S → α → ρ) : Sp := fun vs H Q _ => ∃ s a dx x w G, vs = [.ref a, w] ∧ Sub G H ∧ Ob s a dx G ∧ rep K x w G ∧ pre s x ∧ ∀ u G' H', Grow G H G' H' → rep K (f s x) u G' → Q u H'
def spm0 (K : PySem.W.Frag) (Ob : S → Addr → Addr → Hp → Prop) (pre : S → Prop) (f : S → ρ × S) : Sp := fun vs H Q _ => ∃ s a dx G, vs = [.ref a] ∧ Sub G H ∧ Ob s a dx G ∧ pre s ∧ ∀ u G' H', GrowM a G H G' H' → Ob (f s).2 a dx G' → rep K (f s).1 u G' → Q u H'
def spm1 (K : PySem.W.Frag) (Ob : S → Addr → Addr → Hp → Prop) (pre : S → α → Prop) (f : S → α → ρ × S) : Sp := fun vs H Q _ => ∃ s a dx x w G, vs = [.ref a, w] ∧ Sub G H ∧ Ob s a dx G ∧ rep K x w G ∧ pre s x ∧ ∀ u G' H', GrowM a G H G' H' → Ob (f s x).2 a dx G' → rep K (f s x).1 u G' → Q u H'
def spm2 (K : PySem.W.Frag) (Ob : S → Addr → Addr → Hp → Prop) (pre : S → α → β → Prop) (f : S → α → β → ρ × S) : Sp := fun vs H Q _ => ∃ s a dx x y w v G, vs = [.ref a, w, v] ∧ Sub G H ∧ Ob s a dx G ∧ rep K x w G ∧ rep K y v G ∧ pre s x y ∧ ∀ u G' H', GrowM a G H G' H' → Ob (f s x y).2 a dx G' → rep K (f s x y).1 u G' → Q u H'
/-- .. that may raise the error of the class at X, with the field what; the object is as it was then -/
def spmx1 (K : PySem.W.Frag) (X : Addr) (fl : Str) (Ob : S → Addr → Addr → Hp → Prop) (pre : S → α → Prop) (f : S → α → Except Str (ρ × S)) : Sp := fun vs H Q E => ∃ s a dx x w G, vs = [.ref a, w] ∧ Sub G H ∧ Ob s a dx G ∧ rep K x w G ∧ pre s x ∧
  (∀ y, f s x = .ok y → ∀ u G' H', GrowM a G H G' H' → Ob y.2 a dx G' → rep K y.1 u G' → Q u H') ∧ ∀ z, f s x = .error z → ErrAt X fl (.str z) H E
def spmx2 (K : PySem.W.Frag) (X : Addr) (fl : Str) (Ob : S → Addr → Addr → Hp → Prop) (pre : S → α → β → Prop) (f : S → α → β → Except Str (ρ × S)) : Sp := fun vs H Q E => ∃ s a dx x y w v G, vs = [.ref a, w, v] ∧ Sub G H ∧ Ob s a dx G ∧ rep K x w G ∧ rep K y v G ∧ pre s x y ∧
  (∀ r, f s x y = .ok r → ∀ u G' H', GrowM a G H G' H' → Ob r.2 a dx G' → rep K r.1 u G' → Q u H') ∧ ∀ z, f s x y = .error z → ErrAt X fl (.str z) H E
/-- x = C() -/
theorem s_make0 {Ob : S → Addr → Addr → Hp → Prop} {Ge He : Hp} (gr : Grow Ge He G H) (k : ∀ a dx G' H', He a = none → Ge a = none → Grow Ge He G' H' → Grow G H G' H' → Ob s a dx G' → D.nx (σ.set i (some (.ref a))) H') : tAsg (tMake C (spi0 Ob C s) [] E tNil) (gName i) D σ H := by
  intro x dx hx hd ne
  have g1 := new_ins (C := C) gr.s hx hd ne
  refine ⟨x, dx, _, rfl, g1.s, upd_same, by rw [upd_ne ne, upd_same], fun G' H' gm ob => ⟨rfl, ?_⟩⟩
  have hF : He x = none := gr.h.free hx
  have hE : Ge x = none := by
    cases q : Ge x with
    | none => rfl
    | some o =>
      have := gr.s _ _ (gr.g _ _ q)
      rw [hx] at this
      cases this
  exact k x dx G' H' hF hE ((gr.trans g1).mutM hF hE gm) (g1.mutM hx (gr.s.free hx) gm) ob
theorem q_make0 {Ob : S → Addr → Addr → Hp → Prop} {Ge He : Hp} (gr : Grow Ge He G H) (k : ∀ a dx G' H', He a = none → Ge a = none → Grow Ge He G' H' → Grow G H G' H' → Ob s a dx G' → tz D (σ.set i (some (.ref a))) H') : tSeq (tAsg (tMake C (spi0 Ob C s) [] E tNil) (gName i)) tz D σ H :=
  s_make0 (D := { D with nx := tz D }) gr k
/-- o.m(), o.m(e): the object stays -/
theorem ev_methR0 {Ob : S → Addr → Addr → Hp → Prop} {pre : S → Prop} {f : S → ρ} (hi : σ[i]? = some (some (.ref a))) (P : ObP C Ob) (ob : Ob s a dx G) (hm : ∀ fs, G a = some (.ins C dx fs) → fs.lookup m = none) (hp : pre s) : EvR K (tMeth C m (spr0 K Ob pre f) [] E (tVar i) tNil) σ G (f s) := fun H e Q q => by
  obtain ⟨fs, hG⟩ := P.ins ob
  exact ⟨_, hi, a, dx, fs, rfl, e _ _ hG, hm fs hG, s, a, dx, G, rfl, e, ob, hp, q⟩
theorem ev_methR1 {Ob : S → Addr → Addr → Hp → Prop} {pre : S → α → Prop} {f : S → α → ρ} (hi : σ[i]? = some (some (.ref a))) (P : ObP C Ob) (ob : Ob s a dx G) (hm : ∀ fs, G a = some (.ins C dx fs) → fs.lookup m = none) (ha : EvR K ta σ G x) (hp : pre s x) : EvR K (tMeth C m (spr1 K Ob pre f) [] E (tVar i) (tCons ta tNil)) σ G (f s x) := fun H e Q q => by
  obtain ⟨fs, hG⟩ := P.ins ob
  exact ⟨_, hi, a, dx, fs, rfl, e _ _ hG, hm fs hG, ha H e _ fun v G1 H1 g1 r1 => ⟨s, a, dx, x, v, G1, rfl, g1.s, P.up g1.g ob, r1, hp, fun u G2 H2 g2 r2 => q u G2 H2 (g1.trans g2) r2⟩⟩
/-- f(o, e): the object may change -/
theorem x_callM1 {Ob : S → Addr → Addr → Hp → Prop} {pre : S → α → Prop} {f : S → α → ρ × S} (e : Sub G H) (hi : σ[i]? = some (some (.ref a))) (up : ∀ {G G' : Hp}, Same G G' → Ob s a dx G → Ob s a dx G') (ob : Ob s a dx G) (ha : EvR K ta σ G x) (hp : pre s x)
    (k : ∀ u G' H', GrowM a G H G' H' → Ob (f s x).2 a dx G' → rep K (f s x).1 u G' → Q u H') : tCall (spm1 K Ob pre f) [] E (tCons (tVar i) (tCons ta tNil)) σ H Q :=
  ⟨_, hi, ha H e _ fun v G1 H1 g1 r1 => ⟨s, a, dx, x, v, G1, rfl, g1.s, up g1.g ob, r1, hp, fun u G2 H2 g2 o2 r2 => k u G2 H2 (g1.m g2) o2 r2⟩⟩
/-- an if whose test may change objects -/
theorem s_ifX {tt : TT} {t u : TS} (h : tt σ H fun b H2 => if b = true then t D σ H2 else u D σ H2) : tIfS tt t u D σ H := h
theorem q_ifX {tt : TT} {t u : TS} (h : tt σ H fun b H2 => if b = true then t { D with nx := tz D } σ H2 else u { D with nx := tz D } σ H2) : tSeq (tIfS tt t u) tz D σ H := h
theorem x_or {t u : TT} {Qt : Bool → Hp → Prop} (h : t σ H fun c H2 => if c = true then Qt true H2 else u σ H2 Qt) : tOr t u σ H Qt := h
theorem xT {b : Bool} {A B : Prop} (hb : b = true) (h : A) : if b = true then A else B := by
  rw [if_pos hb]
  exact h
theorem xF {b : Bool} {A B : Prop} (hb : b = false) (h : B) : if b = true then A else B := by
  rw [hb]
  exact h
/-- f(o, e) != d -/
theorem x_neM1 {δ : Type} [Rep δ] [DecidableEq δ] [Flat δ] {Ob : S → Addr → Addr → Hp → Prop} {pre : S → α → Prop} {f : S → α → δ × S} {Qt : Bool → Hp → Prop} (e : Sub G H) (hi : σ[i]? = some (some (.ref a))) (up : ∀ {G G' : Hp}, Same G G' → Ob s a dx G → Ob s a dx G') (ob : Ob s a dx G) (ha : EvR K ta σ G x) (hp : pre s x)
    (k : ∀ u G2 H2, GrowM a G H G2 H2 → Ob (f s x).2 a dx G2 → rep K (f s x).1 u G2 → ∃ q : δ, rep K (f s x).1 u G2 ∧ EvR K tb σ G2 q ∧ ∀ G3 H3, Grow G2 H2 G3 H3 → Qt (!eqB (f s x).1 q) H3) :
    tTest (tOp rNe (tCall (spm1 K Ob pre f) [] E (tCons (tVar i) (tCons ta tNil))) tb) σ H Qt :=
  x_callM1 e hi up ob ha hp fun u G2 H2 gm o2 r2 => by
    obtain ⟨q, rv, ev, kk⟩ := k u G2 H2 gm o2 r2
    refine ev H2 gm.s _ fun v G3 H3 g3 rq => ?_
    rw [Flat.eq.mp rv, Flat.eq.mp rq]
    refine ⟨Flat.sc _ q, _, rfl, ?_⟩
    rw [Flat.inj _ q]
    exact kk G3 H3 g3
/-- x, y = e -/
theorem s_asg2 {x : α × β} (e : Sub G H) (h : EvR K te σ G x) (n : ∀ u v G2 H2, Grow G H G2 H2 → rep K x.1 u G2 → rep K x.2 v G2 → D.nx ((σ.set i (some u)).set j (some v)) H2) : tAsg te (gTup K 2 (gCons (gName i) (gCons (gName j) gNil))) D σ H :=
  h H e _ fun t G1 H1 g1 ⟨b, u, v, et, hA, r1, r2⟩ => ⟨b, [u, v], et, sqT_mono g1.s.get hA, rfl, u, [v], rfl, v, [], rfl, rfl, n u v G1 H1 g1 r1 r2⟩
theorem q_asg2 {x : α × β} (e : Sub G H) (h : EvR K te σ G x) (n : ∀ u v G2 H2, Grow G H G2 H2 → rep K x.1 u G2 → rep K x.2 v G2 → tz D ((σ.set i (some u)).set j (some v)) H2) : tSeq (tAsg te (gTup K 2 (gCons (gName i) (gCons (gName j) gNil)))) tz D σ H :=
  s_asg2 (D := { D with nx := tz D }) e h n
/-- x, y = d, e: the pair itself is not tracked -/
theorem s_par (e : Sub G H) (ha : EvR K ta σ G x) (hb : EvR K tb σ G y) (n : ∀ u v G2 H2, Grow G H G2 H2 → rep K x u G2 → rep K y v G2 → D.nx ((σ.set i (some u)).set j (some v)) H2) : tPar i j (tCons ta (tCons tb tNil)) D σ H :=
  ha H e _ fun u G1 H1 g1 r1 => (hb.mono g1.g) H1 g1.s _ fun v G2 H2 g2 r2 => ⟨u, v, rfl, n u v G2 H2 (g1.trans g2) (up g2.g r1) r2⟩
theorem q_par (e : Sub G H) (ha : EvR K ta σ G x) (hb : EvR K tb σ G y) (n : ∀ u v G2 H2, Grow G H G2 H2 → rep K x u G2 → rep K y v G2 → tz D ((σ.set i (some u)).set j (some v)) H2) : tSeq (tPar i j (tCons ta (tCons tb tNil))) tz D σ H :=
  s_par (D := { D with nx := tz D }) e ha hb n
/-- == of lists of texts -/
theorem dp_lst {l : List Str} {v : V} (e : Sub G H) (h : rep K l v G) : Dp K H v (.list (l.map PyData.str)) := by
  obtain ⟨b, xs, ev, hA, r⟩ := h
  have e1 := reps_flat r
  subst e1
  rw [ev]
  exact .lst (SqL.of (e _ _ hA)) (dp_texts l)
theorem shaped_list {l : List Str} (h : TOk l) : SeqAt.shaped (.list (l.map PyData.str)) = true := shaped_texts h
theorem ev_eqLS {l n : List Str} (ha : EvR K ta σ G l) (hb : EvR K tb σ G n) (hl : TOk l ∧ TOk n) : EvR K (tOp (rEqD K) ta tb) σ G (eqB l n) :=
  ev_op ha hb fun v w G1 H1 _ e hv hw Q q => ⟨_, _, dp_lst e hv, dp_lst e hw, shaped_list hl.1, shaped_list hl.2, by
    rw [show PyData.eqv (.list (l.map PyData.str)) (.list (n.map PyData.str)) = PyData.eqvAll (l.map PyData.str) (n.map PyData.str) from rfl, eqv_texts]
    exact q _ G1 H1 (Grow.refl e) rfl⟩
theorem ev_neLS {l n : List Str} (ha : EvR K ta σ G l) (hb : EvR K tb σ G n) (hl : TOk l ∧ TOk n) : EvR K (tOp (rNeD K) ta tb) σ G (!eqB l n) :=
  ev_op ha hb fun v w G1 H1 _ e hv hw Q q => ⟨_, _, dp_lst e hv, dp_lst e hw, shaped_list hl.1, shaped_list hl.2, by
    rw [show PyData.eqv (.list (l.map PyData.str)) (.list (n.map PyData.str)) = PyData.eqvAll (l.map PyData.str) (n.map PyData.str) from rfl, eqv_texts]
    exact q _ G1 H1 (Grow.refl e) rfl⟩
end
/-! a method of an instance, called in the suite of a try: its error is wished for at the slots -/
def tMethT (C : Addr) (m : Str) (sp : Sp) (E : L2.St → XK) (to : TE) (ts : TA) : TE := fun σ H Q =>
  to σ H fun o H1 => ∃ b d fl, o = .ref b ∧ H1 b = some (.ins C d fl) ∧ fl.lookup m = none ∧ ts σ H1 fun ws H2 => sp (o :: ws) H2 Q (E σ)
theorem pe_methT {X : Cx} {CX : CXT} {lv : Nat} {fa C : Addr} {fd : FuncData} {ps : List Str} {sp : Sp} {E : L2.St → XK} {m : Str} {p0 p1 : Pos} {ob ar : Expr} {more : List Expr} {to : TE} {ts : TA} {pl : Sem Bool}
    (ho : PE X ob to) (cl : Cls X.K C) (me : Meth X.K C m fa) (F : FnOk X.prog X.w X.K X.mg X.base CX lv fa fd ps sp) (room : Room lv X.A) (bi : Binds X.K fd ps []) (pass : ∀ σ, PassesAt CX X σ (E σ)) (hargs : PA X (ar :: more) ts)
    (st1 : starEach (ar :: more) X.env = (false, eval ar X.env) :: starEach more X.env := by rfl) (st2 : (backTo p0 (starEach more X.env)).any (·.1) = false := by rfl)
    (how : eval (.Call (.Attribute ob m p1) (ar :: more) [] p0) X.env = (do
      let o ← eval ob X.env
      standAt p1.atName
      let (g, pre) ← holding [o] (getMethod o m pl)
      callWith p0 g pre (backTo p0 (starEach (ar :: more) X.env)) (backToKw p0 (keywordEach [] X.env))) := by rfl) :
    PE X (.Call (.Attribute ob m p1) (ar :: more) [] p0) (tMethT C m sp E to ts) := by
  constructor
  intro pins s σ H Q I h
  refine PySem.W.methodCall_KW (pl := pl) (thn (ho.run pins s σ H _ I h) ?_) how
  rintro v s1 ⟨o, H1, I1, ro, b, d, fl, eo, hb, hl, q⟩
  subst eo
  obtain rfl : v = Value.ref b := ro
  refine getmeth_ok I1 hb cl me hl (PySem.W.callWith_K (first := [.ref b]) (h₀ := X.base) I.ok.mod.kin me.kp (thn (hargs.run p0 pins s1 σ H1 _ I1 q) ?_) st1 st2)
  rintro vs s2 ⟨ws, H2, I2, rs, q2⟩
  exact ⟨I2.kIn, run_fnS (us := .ref b :: vs) (vs := .ref b :: ws) F room bi (pass σ) I2 (.cons rfl rs) q2⟩
end RL

set_option Elab.async false
set_option linter.all false
set_option maxRecDepth 100000
set_option maxHeartbeats 4000000
namespace RL
open PySem PySem.Spec PyProof.Rows L2 CwR
open Rep (rep)
section
variable [Tb] [Fz] {α β : Type} [Rep α] [Rep β] {K : PySem.W.Frag} {σ : L2.St} {G H : Hp} {te tl : TE} {tt : TT} {vs : List Nat}
/-- a list made of a text's signs -/
theorem ev_lcS {l : Str} {g : TG} (f : Str → Bool) (h : Str → β) (hl : EvR K tl σ G l) (hz : (sgn l).length < sizeLine)
    (ht : ∀ x v G' H', Same G G' → Sub G' H' → x ∈ sgn l → rep K x v G' → ∀ (P : L2.St → Hp → Prop), (∀ σ2, wipe σ2 vs = wipe σ vs → EvB tt σ2 G' (f x) → (f x = true → EvR K te σ2 G' (h x)) → P σ2 H') → g v (wipe σ vs) H' P) :
    EvR K (tLc (iStr tl) g tt te vs) σ G (((sgn l).filter f).map h) := fun H e Q q =>
  hl H e _ fun v G1 H1 g1 r1 => ⟨l, r1, fun Dl hD =>
    lc_it walk_str (fun i H' => Lc K G1 H1 Dl ((((sgn l).take i).filter f).map h) H') (lc_start g1.s hD) (fun i H' _ _ => trivial) (fun i v H' H'' hi p y => by
      obtain ⟨e2, c, hc, ex⟩ := y
      subst e2
      subst ex
      have hx := sgn_at hc
      obtain ⟨G', zs, g', n', e', r'⟩ := id p
      refine ht _ _ G' H'' (g1.g.trans g'.g) g'.s (List.mem_of_getElem? hx) rfl _ fun σ2 hw hb he => ⟨hw, ?_⟩
      refine lc_turn2 hD g' n' e' r' ?_ hb he fun H2 p2 => ?_
      · rw [List.length_map]
        exact Nat.lt_of_le_of_lt (Nat.le_trans (List.length_filter_le _ _) (by rw [List.length_take]; exact Nat.min_le_right _ _)) hz
      · rw [take_snoc hx, filt_snoc]
        exact p2) fun H' p => by
      obtain ⟨G', g', r'⟩ := lc_end hD p
      refine q _ G' H' (g1.trans g') ?_
      rw [← sgn_len, List.take_length] at r'
      exact r'⟩

theorem ev_lcSm {l : Str} {g : TG} (h : Str → β) (hl : EvR K tl σ G l) (hz : (sgn l).length < sizeLine)
    (ht : ∀ x v G' H', Same G G' → Sub G' H' → x ∈ sgn l → rep K x v G' → ∀ (P : L2.St → Hp → Prop), (∀ σ2, wipe σ2 vs = wipe σ vs → EvB tYes σ2 G' true → (true = true → EvR K te σ2 G' (h x)) → P σ2 H') → g v (wipe σ vs) H' P) :
    EvR K (tLc (iStr tl) g tYes te vs) σ G ((sgn l).map h) := (ev_lcS (fun _ => true) h hl hz ht).to (by rw [filt_true])
theorem ev_ninS {ta tb : TE} {a b : Str} (ha : EvR K ta σ G a) (hb : EvR K tb σ G b) : EvR K (tOp (fun x y H Q => ∃ i j, x = .str i ∧ y = .str j ∧ Q (.bl (!(!(Builtin.Str.occurrences j i 0 j.length 1).isEmpty))) H) ta tb) σ G (!inS a b) :=
  ev_op ha hb fun v w G1 H1 _ s hv hw Q q => ⟨a, b, hv, hw, q _ G1 H1 (Grow.refl s) rfl⟩
/-- a list, its items seen as data -/
theorem reps_toD [Dat α] {G : Hp} : ∀ {l : List α} {xs : List V}, Reps K l xs G → Reps K (l.map (fun x => (Dat.d x : PyData))) xs G
  | _, _, .nil => .nil
  | _, _, .cons h t => .cons (Dat.dp (Same.refl _) h) (reps_toD t)
theorem ev_toDL [Dat α] {l : List α} (h : EvR K te σ G l) : EvR K te σ G (l.map (fun x => (Dat.d x : PyData))) := fun H e Q q => h H e Q fun v G1 H1 g1 ⟨a, xs, ev, hA, r⟩ => q v G1 H1 g1 ⟨a, xs, ev, hA, reps_toD r⟩
theorem ev_ninD [Dat α] {ta tb : TE} {x : α} {l : List α} (ha : EvR K ta σ G x) (hb : EvR K tb σ G l) (h : SeqAt.shaped (Dat.d x) = true ∧ SeqAt.shaped (Dat.d l) = true) : EvR K (tOp (rNotInD K) ta tb) σ G (!memD x l) :=
  ev_op ha hb fun v w G1 H1 _ s hv hw Q q => ⟨_, _, Dat.dp s.get hv, Dat.dp s.get hw, h.1, h.2, q _ G1 H1 (Grow.refl s) rfl⟩
theorem op_ninDK {X : Cx} {K : PySem.W.Frag} (hu : X.A.units + 65 < cLine) (h : X.K = K := by rfl) : OpR X (compareOp .NotIn) (rNotInD K) := by subst h; exact op_notInD hu
end

theorem nn_lst {α : Type} [Rep α] {K : PySem.W.Frag} : ∀ v G, (∃ x : List α, rep K x v G) → v ≠ .non := fun v G ⟨x, a, xs, e, _⟩ z => by rw [e] at z; cases z
theorem isN_f {α : Type} {o : Option α} (h : o.isNone = false) : o.isSome = true := by cases o <;> simp_all

/-! a display of texts and bools, asked once -/
def kvB (l : List (Str × Bool)) : List (Key × V) := l.map fun p => (Sum.inr p.1, V.bl p.2)
theorem valB_get (l : List (Str × Bool)) (z : Str) : valV (kvB l) (Sum.inr z) = (tabGet l z).map V.bl := by
  unfold valV kvB tabGet
  induction l with
  | nil => rfl
  | cons p l ih =>
    rw [List.map_cons, List.find?_cons, List.find?_cons]
    by_cases q : p.1 = z
    · rw [decide_eq_true q, decide_eq_true (show (Sum.inr p.1 : Key) = Sum.inr z from congrArg _ q)]
      rfl
    · rw [decide_eq_false q, decide_eq_false (show ¬ (Sum.inr p.1 : Key) = Sum.inr z from fun e => q (Sum.inr.inj e))]
      exact ih
section
variable [Tb] [Fz] {K : PySem.W.Frag} {σ : L2.St} {G H : Hp}
theorem ev_dispGet {tx : TE} {a b s : Str} {x y : Bool} (hm : mergeK [] [((Sum.inr a : Key), V.bl x), (Sum.inr b, V.bl y)] = kvB [(a, x), (b, y)]) (hs : EvR K tx σ G s) :
    EvR K (tDGet1 (tDisp [(tC (.str a), tC (.bl x)), (tC (.str b), tC (.bl y))]) tx) σ G (tabGet [(a, x), (b, y)] s) := fun H e Q q => by
  intro p hp
  refine ⟨upd_same, [(Sum.inr a, V.bl x), (Sum.inr b, V.bl y)], rfl, (by show 2 ≤ 15; decide), p, rfl, .inl ⟨_, .inl upd_same⟩, ?_⟩
  rw [hm]
  have hg := e.free hp
  have gr : Grow G H G (upd (upd H p (.dK [])) p (.dK (kvB [(a, x), (b, y)]))) := ((Grow.refl e).loose (o := .dK []) hp).mut hp hg (fun q z => by rw [upd_same] at z; cases z)
  have hp1 : (upd (upd H p (.dK [])) p (.dK (kvB [(a, x), (b, y)]))) p = some (.dK (kvB [(a, x), (b, y)])) := upd_same
  generalize upd (upd H p (.dK [])) p (.dK (kvB [(a, x), (b, y)])) = H1 at gr hp1
  refine hs H1 gr.s _ fun w G2 H2 g2 r2 => ?_
  have ew : w = V.str s := r2
  subst ew
  have hp2 := g2.h.k p _ hp1 (fun q z => by cases z)
  refine ⟨_, DGet.k (k := Sum.inr s) hp2, ?_⟩
  rw [valB_get]
  refine q _ G2 H2 (gr.trans g2) ?_
  cases tabGet [(a, x), (b, y)] s with
  | none => exact rfl
  | some b => exact rfl
end
end RL

set_option Elab.async false
set_option linter.all false
set_option maxRecDepth 100000
set_option maxHeartbeats 4000000
namespace PySem
open Builtin Builtin.Str
namespace Txt
/-- replace, the first place alone -/
def repl1 (x y z : Str) : Str :=
  if ((occurrences x y 0 x.length (limitOf x 1)).isEmpty || (y.length == 0 && z.length == 0)) = true then x
  else glued z (partsBetween x (occurrences x y 0 x.length (limitOf x 1)) y.length)
end Txt
theorem gives_repl1 (x y z : Str) (t u v k : Tok)
    (hf : ((occurrences x y 0 x.length (limitOf x 1)).isEmpty || (y.length == 0 && z.length == 0)) = false →
      (u == 0 || v == 0) = false ∧ (u == v) = false ∧ (y == z) = false ∧ tooLong (x.length + (occurrences x y 0 x.length (limitOf x 1)).length * z.length) = false) :
    Gives («str.replace» ⟨[.str x t, .str y u, .str z v, .int 1 k], []⟩) (if ((occurrences x y 0 x.length (limitOf x 1)).isEmpty || (y.length == 0 && z.length == 0)) = true then .val (.str x t) else .str (glued z (partsBetween x (occurrences x y 0 x.length (limitOf x 1)) y.length))) := by
  have e : «str.replace» ⟨[.str x t, .str y u, .str z v, .int 1 k], []⟩ = (if ((occurrences x y 0 x.length (limitOf x 1)).isEmpty || (y.length == 0 && z.length == 0)) = true then (do rule "str.replace.nothing"; ret (.str x t)) else
          (do let same ← isSame (.str y u) (.str z v)
              if same = true then (do rule "str.replace.old-is-new"; ret (.str x t)) else
              if tooLong (x.length + (occurrences x y 0 x.length (limitOf x 1)).length * z.length) = true then unsupported "str.replace:memory" else
              retStr (glued z (partsBetween x (occurrences x y 0 x.length (limitOf x 1)) y.length)))) := by
    show (do let limit ← countLimit "str.replace" (some (.int 1 k)) (x.length + 1); _) = _
    rw [countLimit_int "str.replace" 1 k (x.length + 1) (by decide)]
    rfl
  rw [e]
  cases hc : ((occurrences x y 0 x.length (limitOf x 1)).isEmpty || (y.length == 0 && z.length == 0))
  · obtain ⟨h0, huv, hyz, hl⟩ := hf hc
    rw [isSame_str_other y z u v h0 huv hyz, hl]
    exact .of_eq rfl
  · exact .rule (.of_eq rfl)
theorem fits_repl1 {x z : Str} (y : Str) (hb : x.length + z.length ≤ 16777216) : (glued z (partsBetween x (occurrences x y 0 x.length (limitOf x 1)) y.length)).length ≤ sizeLine := by
  have h1 := StrLaws.occ_length_le x y 0 x.length (limitOf x 1)
  have e1 : limitOf x 1 = 1 := rfl
  have hy : (glued y (partsBetween x (occurrences x y 0 x.length (limitOf x 1)) y.length)).length = x.length := by rw [StrLaws.glued_between_self]
  rw [size_glued, length_partsBetween, Nat.add_sub_cancel] at hy
  rw [size_glued, length_partsBetween, Nat.add_sub_cancel, sizeLine_eq]
  rw [e1] at h1 hy ⊢
  have h2 : (occurrences x y 0 x.length 1).length * z.length ≤ 1 * z.length := Nat.mul_le_mul_right _ h1
  omega
theorem len_repl1 {x y z : Str} : (Txt.repl1 x y z).length ≤ x.length + z.length := by
  unfold Txt.repl1
  split
  · omega
  · have h1 := StrLaws.occ_length_le x y 0 x.length (limitOf x 1)
    have e1 : limitOf x 1 = 1 := rfl
    have hy : (glued y (partsBetween x (occurrences x y 0 x.length (limitOf x 1)) y.length)).length = x.length := by rw [StrLaws.glued_between_self]
    rw [size_glued, length_partsBetween, Nat.add_sub_cancel] at hy
    rw [size_glued, length_partsBetween, Nat.add_sub_cancel]
    rw [e1] at h1 hy ⊢
    have h2 : (occurrences x y 0 x.length 1).length * z.length ≤ 1 * z.length := Nat.mul_le_mul_right _ h1
    omega
theorem Call_method3R {prog : Program} {w : World} {A : Around} {E : Value → Shared → Prop} {s : Shared} {env : Env} {o e₁ e₂ e₃ : Expr} {name : Str} {apos pos : Pos} {Q : Value → Shared → Prop}
    (hbase : attributeBase o name env (eval o env) = eval o env) (hs : starEach [e₁, e₂, e₃] env = [(false, eval e₁ env), (false, eval e₂ env), (false, eval e₃ env)]) (hline : (apos.endLine == pos.line) = true)
    (h : wpAny (model prog w) A (eval o env) (fun ov s₁ => MethodOnS prog w A E name ov pos [(false, eval e₁ env), (false, eval e₂ env), (false, eval e₃ env)] Q s₁) E s) :
    wpAny (model prog w) A (eval (.Call (.Attribute o name apos) [e₁, e₂, e₃] [] pos) env) Q E s := by
  refine wpAny_Call_method_lateS hbase (by rw [hs]; rfl) hline ?_
  rw [hs]; exact h
section
variable {prog : Program} {w : World} {A : Around} {E : Value → Shared → Prop} {s : Shared} {x y z : Str} {t u v k : Tok} {Q : Value → Shared → Prop}
theorem call_repl1 (hu : u ≠ 0) (hv : v ≠ 0) (huv : u ≠ v) (hyz : (y == z) = false) (hb : x.length + z.length ≤ 16777216)
    (hq : ∀ t' k, Q (.str (Txt.repl1 x y z) t') { s with toks := k }) : wpAny (model prog w) A (call (.builtin "str.replace") [.str x t, .str y u, .str z v, .int 1 k]) Q E s := by
  have hl : tooLong (x.length + (occurrences x y 0 x.length (limitOf x 1)).length * z.length) = false := by
    have h1 := StrLaws.occ_length_le x y 0 x.length (limitOf x 1)
    have e1 : limitOf x 1 = 1 := rfl
    rw [e1] at h1 ⊢
    have h2 : (occurrences x y 0 x.length 1).length * z.length ≤ 1 * z.length := Nat.mul_le_mul_right _ h1
    unfold tooLong sizeLine
    exact decide_eq_false (by omega)
  refine call_gives F.slot_str_replace (typeIs_str _ _ _) F.entry_str_replace (F.args_str_replace_4 _ _ _ _)
    (gives_repl1 x y z t u v k fun _ => ⟨by simp [hu, hv], by simp [huv], hyz, hl⟩) ?_
  have hq' := hq
  unfold Txt.repl1 at hq'
  cases hc : ((occurrences x y 0 x.length (limitOf x 1)).isEmpty || (y.length == 0 && z.length == 0))
  · rw [hc] at hq'
    simp only [Bool.false_eq_true, if_false] at hq' ⊢
    exact ⟨fits_repl1 y hb, hq' _ _⟩
  · rw [hc] at hq'
    simp only [if_true] at hq' ⊢
    exact hq' t s.toks
end
end PySem
namespace RL
open PySem PySem.Spec PyProof.Rows L2 CwR
def tRepl1 (to : TE) (y z : Str) : TE := fun σ H Q => to σ H fun v H1 => ∃ x, v = .str x ∧ x.length + z.length ≤ 16777216 ∧ Q (.str (Txt.repl1 x y z)) H1
section
variable {X : Cx} {o : Expr} {to : TE} {y z : Str} {j k : Nat} {c0 c1 c2 apos pos : Pos}
theorem pet_repl1 (ho : PE X o to) (hyz : (y == z) = false := by decide)
    (hst : starEach [.Constant (.str y) j c0, .Constant (.str z) k c1, .Constant (.int 1) m c2] X.env = [(false, eval (.Constant (.str y) j c0) X.env), (false, eval (.Constant (.str z) k c1) X.env), (false, eval (.Constant (.int 1) m c2) X.env)] := by rfl)
    (hbase : attributeBase o "replace" X.env (eval o X.env) = eval o X.env := by rfl) (hline : (apos.endLine == pos.line) = true := by rfl) :
    PET X (.Call (.Attribute o "replace" apos) [.Constant (.str y) j c0, .Constant (.str z) k c1, .Constant (.int 1) m c2] [] pos) (tRepl1 to y z) := by
  intro pins s σ H Q h0 I h
  refine PySem.Call_method3R hbase hst hline (wpAny_mono (PySem.wpAny_toks (ho.run pins s σ H _ I h)) (fun v s1 q => ?_) fun _ _ z => z.2)
  obtain ⟨hk, v', H1, I1, r1, x, e1, hb, q⟩ := q
  subst e1
  obtain ⟨tx, e2⟩ := r1
  subst e2
  refine ⟨"str", _, PySem.F.plainAttrs_str, PySem.F.slot_str_replace, PySem.F.type_str_replace, typeIs_str _ _ _, (fun _ e => nomatch e), Calls.callWith_builtin rfl (Calls.evalArgs_plain (Calls.spliced_cons ?_))⟩
  refine Calls.Constant_str (Calls.spliced_cons (Calls.Constant_str (Calls.spliced_cons (wpAny_Constant_int (Calls.spliced_nil ?_)))))
  exact PySem.call_repl1 (by show s1.toks ≠ 0; omega) (by show s1.toks + 1 ≠ 0; omega) (by show s1.toks ≠ s1.toks + 1; omega) hyz hb fun t' k => ⟨.str (Txt.repl1 x y z), H1, I1.tok k, ⟨t', rfl⟩, q⟩
end
theorem ev_repl1 [Tb] [Fz] {K : PySem.W.Frag} {σ : L2.St} {G : Hp} {te : TE} {x y z : Str} (h : EvR K te σ G x) (hz : x.length + z.length ≤ 16777216) : EvR K (tRepl1 te y z) σ G (Txt.repl1 x y z) := fun H e Q q =>
  h H e _ fun v G1 H1 g1 r1 => ⟨x, r1, hz, q _ G1 H1 g1 rfl⟩

/-! a list copied, then one item changed -/
section
open Rep (rep)
variable [Tb] [Fz] {K : PySem.W.Frag} {σ : L2.St} {G H Ge He : Hp} {D : Ends} {tz : TS} {ta te tk : TE} {i : Nat}
theorem set_reps {l : List Str} {xs : List V} {G G2 : Hp} {s : Str} {j : Nat} (h : Reps K l xs G) : Reps K (l.set j s) (xs.set j (V.str s)) G2 := by
  have e := reps_flat h
  subst e
  have : (l.map Flat.toV).set j (V.str s) = (l.set j s).map Flat.toV := by
    rw [List.map_set]
    rfl
  rw [this]
  exact reps_of_flat _
theorem s_listSet {l : List Str} {n : Int} {s : Str} (e : Sub G H) (hl : EvR K ta σ G l) (hi : ∀ v : V, (σ.set i (some v))[i]? = some (some v))
    (hv : ∀ a G1, Same G G1 → rep K l (.ref a) G1 → EvR K te (σ.set i (some (.ref a))) G1 s) (hk : ∀ a G1, Same G G1 → rep K l (.ref a) G1 → EvR K tk (σ.set i (some (.ref a))) G1 n) (hn : 0 ≤ n ∧ n < (l.length : Int))
    (k : ∀ v G' H', Grow G H G' H' → rep K (l.set n.toNat s) v G' → tz D (σ.set i (some v)) H') :
    tSeq (tAsg (tCB (fun xs H Q => ∃ p ys, xs = [.ref p] ∧ (SqL K H p ys ∨ SqT K H p ys) ∧ ∀ l, H l = none → Q (.ref l) (upd H l (.lst ys))) (tCons ta tNil)) (gName i)) (tSeq (tAsg te (gSub (tVar i) tk rSetL)) tz) D σ H :=
  hl H e _ fun v G1 H1 g1 ⟨b, xs, ev, hA, r⟩ => ⟨b, xs, by rw [ev], .inl (SqL.of (g1.s _ _ hA)), fun a ha => by
    have hg : G1 a = none := g1.s.free ha
    have h0 : H a = none := by
      cases q : H a with
      | none => rfl
      | some o =>
        obtain ⟨u, eu⟩ := g1.h.none q
        rw [ha] at eu
        cases eu
    have gp := Grow.new (o := .lst xs) g1.s ha
    have rl : rep K l (.ref a) (upd G1 a (.lst xs)) := ⟨a, xs, rfl, upd_same, r.up (same_upd hg)⟩
    have gA : Grow G H G1 (upd H1 a (.lst xs)) := g1.loose (o := .lst xs) ha
    have sA : Same G (upd G1 a (.lst xs)) := g1.g.trans (same_upd hg)
    have hB : (upd G1 a (.lst xs)) a = some (.lst xs) := upd_same
    refine hv a _ sA rl (upd H1 a (.lst xs)) gp.s _ fun w G2 H2 g2 r2 => ?_
    have ew : w = V.str s := r2
    subst ew
    refine ⟨.ref a, hi _, hk a _ (sA.trans g2.g) (up g2.g rl) H2 g2.s _ fun m G3 H3 g3 r3 => ?_⟩
    have em : m = V.int n := r3
    subst em
    have hl2 : xs.length = l.length := (paired_len r).symm
    have h3 : H3 a = some (.lst xs) := g3.s _ _ (g3.g _ _ (g2.g _ _ hB))
    refine ⟨a, xs, n, n.toNat, rfl, rfl, h3, ?_, ?_⟩
    · unfold ixN
      rw [if_pos hn.1, if_pos (by omega)]
    have g23 := g2.trans g3
    have gB : Grow G H G1 H3 := ⟨gA.g, un ((same_upd hg).trans g23.g) g23.s, gA.h.trans g23.h, gA.f, gA.x⟩
    have gC : Grow G H G1 (upd H3 a (.lst (xs.set n.toNat (V.str s)))) := gB.mut (o := .lst (xs.set n.toNat (V.str s))) h0 hg (fun q z => by rw [h3] at z; cases z)
    have gD := gC.fix (o := .lst (xs.set n.toNat (V.str s))) h0 hg upd_same (fun q z => by cases z)
    exact k _ _ _ gD ⟨a, _, rfl, upd_same, set_reps r⟩⟩
theorem q_listSet {l : List Str} {n : Int} {s : Str} (e : Sub G H) (hl : EvR K ta σ G l) (hi : ∀ v : V, (σ.set i (some v))[i]? = some (some v))
    (hv : ∀ a G1, Same G G1 → rep K l (.ref a) G1 → EvR K te (σ.set i (some (.ref a))) G1 s) (hk : ∀ a G1, Same G G1 → rep K l (.ref a) G1 → EvR K tk (σ.set i (some (.ref a))) G1 n) (hn : 0 ≤ n ∧ n < (l.length : Int))
    (k : ∀ v G' H', Grow G H G' H' → rep K (l.set n.toNat s) v G' → tz D (σ.set i (some v)) H') :
    tSeq (tAsg (tCB (fun xs H Q => ∃ p ys, xs = [.ref p] ∧ (SqL K H p ys ∨ SqT K H p ys) ∧ ∀ l, H l = none → Q (.ref l) (upd H l (.lst ys))) (tCons ta tNil)) (gName i)) (tSeq (tAsg te (gSub (tVar i) tk rSetL)) tz) D σ H := s_listSet e hl hi hv hk hn k
end

/-! try, with a def that may raise, an error with an int -/
section
open Rep (rep)
variable [Tb] [Fz] {α ρ : Type} [Rep α] [Rep ρ] {K : PySem.W.Frag} {σ : L2.St} {G H Ge He : Hp} {ta te : TE} {i j : Nat}
theorem grow_err {H1 : Hp} {d : Addr} {fs : List (Str × V)} (e : Sub G H) (sm : Kept H H1) (hn : ∀ P ∈ Tb.ps, GxR.TabG H1 P) (h0 : H d = none) (h1 : H1 d = some (.xd fs)) : Grow G H (upd G d (.xd fs)) H1 :=
  (show Grow G H G H1 from ⟨Same.refl _, e.keep sm hn, sm, fun _ _ _ h => h, fun a o h => (e.x a o h).1⟩).fix (o := .xd fs) h0 (e.free h0) h1 (fun q z => by cases z)
theorem s_tryY {C : Addr} {c : Value} {f : Str} {pre : α → Prop} {m : α → Except Int ρ} {x : α} {D : Ends} {tz tb2 : TS} {ts : Addr → Value → Option Addr → TS} {Wout : WX} (e : Sub G H) (ha : EvR K ta σ G x) (hp : pre x) (hte : PySem.W.exmOne K (.ref C) c = some true)
    (k1 : ∀ y, m x = .ok y → ∀ v G' H', Grow G H G' H' → rep K y v G' → tb2 { D with nx := tz D } (σ.set j (some v)) H')
    (k2 : ∀ z, m x = .error z → ∀ a d G' H', Grow G H G' H' → G' d = some (.xd [(f, V.int z)]) → ts a (.ref C) (some d) { nx := fun σ' H' => tz D (σ'.set i none) H', rt := D.rt, bk := fun σ' H' => D.bk (σ'.set i none) H', ct := fun σ' H' => D.ct (σ'.set i none) H' } (σ.set i (some (.ref a))) H') :
    tSeq (fun D σ H => (fun W => tSeq (tAsg (tCallS (spy1 K C f pre m) (WE W) (tCons ta tNil)) (gName j)) tb2) (wAs K c i ts Wout D) D σ H) tz D σ H :=
  ha H e _ fun v G1 H1 g1 r1 => ⟨x, v, G1, rfl, g1.s, r1, hp, fun y ey u G' H' g r => k1 y ey u G' H' (g1.trans g) r, fun z ez d H2 sm hn h0 hd => ⟨true, hte, fun _ a _ => by
    exact k2 z ez a d _ H2 (g1.trans (grow_err g1.s sm hn h0 hd)) upd_same, fun q => nomatch q⟩⟩
/-- e.line, e the caught error -/
theorem ev_xf {a C d : Addr} {f : Str} {z : Int} {te : TE} (hv : ∀ H, Sub G H → ∀ Q : VK, Q (.ref a) H → te σ H Q) (hd : G d = some (.xd [(f, V.int z)])) : EvR K (tXf a (.ref C) (some d) C f te) σ G z := fun H e Q q =>
  hv H e _ ⟨rfl, rfl, d, _, V.int z, rfl, e.get _ _ hd, by show List.lookup f [(f, V.int z)] = _; rw [List.lookup_cons, beq_self_eq_true], q _ G H (Grow.refl e) rfl⟩
theorem ev_isXB {a C d : Addr} {c : V} {cv : Value} {b : Bool} {te : TE} {fs : List (Str × V)} (hv : ∀ H, Sub G H → ∀ Q : VK, Q (.ref a) H → te σ H Q) (hx : ExcC K C) (hc : ∀ u, RelV c u → u = cv) (hk : PySem.W.kitOne K (.ref C) cv = some b) (hd : G d = some (.xd fs)) :
    EvR K (tCB (rIsX K a (.ref C) (some d)) (tCons te (tCons (tC c) tNil))) σ G b := fun H e Q q =>
  hv H e _ ⟨C, d, c, cv, b, fs, rfl, rfl, rfl, hx, hc, hk, e.get _ _ hd, q _ G H (Grow.refl e) rfl⟩
end

/-! an expression behind which a token is out -/
section
variable {X : Cx} {o e : Expr} {to te : TE} {th : TO} {y z : Str} {j k : Nat} {c0 c1 apos pos p2 : Pos} {hi : Option Expr} {n : Int}
def PE1 (X : Cx) (e : Expr) (te : TE) : Prop := ∀ (pins : List (Addr × Obj)) (s : Shared) (σ : L2.St) (H : Hp) (Q : VK), Inv X pins σ H s → te σ H Q → wpAny (model X.prog X.w) X.A (eval e X.env) (fun v s1 => 1 ≤ s1.toks ∧ EP X pins σ Q v s1) X.xe s
theorem PE1.pe (h : PE1 X e te) : PE X e te := ⟨fun pins s σ H Q I q => wpAny_mono (h pins s σ H Q I q) (fun _ _ z => z.2) fun _ _ z => z⟩
theorem pe1_slI {r : V → Option Int → Option Int → Hp → VK → Prop} (hr : SlR X r) (he : PE X e te) (hu : PO X hi th) : PE1 X (.Subscript e (.Slice (some (.Constant (.int n) j c0)) hi none p2) pos) (tSl r te (tPart (tC (.int n))) th) := by
  intro pins s σ H Q I h
  refine Subscript_ (thn (he.run pins s σ H _ I h) fun v s1 ⟨x, H1, I1, r1, q1⟩ => ?_)
  refine wpAny_Slice ?_
  rw [evalPart_some]
  refine wpAny_Constant_int ?_
  obtain ⟨i, ei, q2⟩ := q1
  cases ei
  refine wpAny_mono (wpAny_toks_of (n := 1) (by show 1 ≤ s1.toks + 1; omega) (hu.run pins _ σ H1 _ (I1.tok (s1.toks + 1)) q2)) (fun vu s3 ⟨h1, u, H3, I3, pu, q3⟩ => ?_) fun _ _ z => z.2
  rw [evalPart_none]
  refine wpAny_pure ?_
  have I4 : Inv X pins σ H3 { s3 with heap := s3.heap.push { cls := .type "slice", data := .fields #[.int n s1.toks, vu, .none] } } := I3.kept (t' := s3.toks) fun b ob q => Heap.get?_push_of_some _ q
  obtain ⟨T, id, hT, ht, hg⟩ := hr pins { s3 with heap := s3.heap.push { cls := .type "slice", data := .fields #[.int n s1.toks, vu, .none] } } σ H3 x v (.int n s1.toks) vu (some n) u s3.heap.objs.size Q I4 r1 (Heap.IsSliceOf.new ..) (.int ..) pu q3
  show wpAny (model X.prog X.w) X.A (subscriptTail e (.Slice (some (.Constant (.int n) j c0)) hi none p2) v (.ref s3.heap.objs.size)) _ X.xe { s3 with heap := s3.heap.push { cls := .type "slice", data := .fields #[.int n s1.toks, vu, .none] } }
  exact wpAny_mono (wpAny_toks_of (n := 1) h1 (tail_any (ops := [.ref s3.heap.objs.size, v]) ht hT hg (by with_unfolding_all rfl))) (fun _ _ z => z) fun _ _ z => z.2
theorem pe1_repl (ho : PE1 X o to) (hyz : (y == z) = false := by decide)
    (hst : starEach [.Constant (.str y) j c0, .Constant (.str z) k c1] X.env = [(false, eval (.Constant (.str y) j c0) X.env), (false, eval (.Constant (.str z) k c1) X.env)] := by rfl)
    (hbase : attributeBase o "replace" X.env (eval o X.env) = eval o X.env := by rfl) (hline : (apos.endLine == pos.line) = true := by rfl) :
    PE1 X (.Call (.Attribute o "replace" apos) [.Constant (.str y) j c0, .Constant (.str z) k c1] [] pos) (tReplC to y z) := by
  intro pins s σ H Q I h
  refine PySem.Call_method2 hbase hst hline (wpAny_mono (ho pins s σ H _ I h) (fun v s1 q => ?_) fun _ _ z => z)
  obtain ⟨hk, v', H1, I1, r1, x, e1, hb, q⟩ := q
  subst e1
  obtain ⟨tx, e2⟩ := r1
  subst e2
  refine ⟨"str", _, PySem.F.plainAttrs_str, PySem.F.slot_str_replace, PySem.F.type_str_replace, typeIs_str _ _ _, (fun _ e => nomatch e), Calls.callWith_builtin rfl (Calls.evalArgs_plain (Calls.spliced_cons ?_))⟩
  refine Calls.Constant_str (Calls.spliced_cons (Calls.Constant_str (Calls.spliced_nil ?_)))
  exact wpAny_mono (wpAny_toks_of (n := 1) (by show 1 ≤ s1.toks + 1 + 1; omega) (PySem.SC.replace (by show s1.toks ≠ 0; omega) (by show s1.toks + 1 ≠ 0; omega) (by show s1.toks ≠ s1.toks + 1; omega) hyz hb fun t' k => (⟨.str (Txt.replace x y z), H1, I1.tok k, ⟨t', rfl⟩, q⟩ : EP X pins σ Q _ _))) (fun _ _ z => z) fun _ _ z => z.2
end

section
open Rep (rep)
variable [Tb] [Fz] {K : PySem.W.Frag} {σ : L2.St} {G : Hp}
theorem ev_nonD : EvR K (tC .non) σ G PyData.none := fun H e Q q => q .non G H (Grow.refl e) (show Dp K G .non .none from .non)
theorem rv_eq {G : Hp} {m n : Int} : ∀ v w G1 H1, Same G G1 → Sub G1 H1 → rep K m v G1 → rep K n w G1 → ∀ Q : VK, (∀ G2 H2, Grow G1 H1 G2 H2 → Q (.bl (eqB m n)) H2) → rEq v w H1 Q :=
  fun v w G1 H1 _ s hv hw Q q => by
    rw [Flat.eq.mp hv, Flat.eq.mp hw]
    refine ⟨Flat.sc m n, ?_⟩
    rw [Flat.inj m n]
    exact q G1 H1 (Grow.refl s)
end
end RL

set_option Elab.async false
set_option linter.all false
set_option maxRecDepth 100000
set_option maxHeartbeats 4000000
namespace RL
open PySem PySem.Spec PyProof.Rows L2 CwR
open Rep (rep)
/-! ### cells: what may change, told one by one; all other objects stand -/
abbrev Cells := List (Addr × HO)
/-- the objects at some addresses, as a heap -/
def hpOf (cs : Cells) : Hp := fun a => cs.lookup a
theorem hpOf_some {cs : Cells} {a : Addr} {o : HO} (h : hpOf cs a = some o) : (a, o) ∈ cs := by
  unfold hpOf at h
  induction cs with
  | nil => cases h
  | cons c cs ih =>
    rw [List.lookup_cons] at h
    by_cases q : (a == c.1) = true
    · rw [q] at h
      have e1 := LawfulBEq.eq_of_beq q
      have e2 : c.2 = o := Option.some.inj h
      rw [e1, ← e2]
      exact .head _
    · rw [Bool.not_eq_true] at q
      rw [q] at h
      exact .tail _ (ih h)
theorem hpOf_mem {cs : Cells} (nd : (cs.map Prod.fst).Nodup) {a : Addr} {o : HO} (h : (a, o) ∈ cs) : hpOf cs a = some o := by
  unfold hpOf
  induction cs with
  | nil => cases h
  | cons c cs ih =>
    rw [List.map_cons, List.nodup_cons] at nd
    rw [List.lookup_cons]
    cases h with
    | head => rw [beq_self_eq_true]
    | tail _ h =>
      have ne : (a == c.1) = false := by
        rw [beq_eq_false_iff_ne]
        intro z
        exact nd.1 (by rw [← z]; exact List.mem_map.mpr ⟨_, h, rfl⟩)
      rw [ne]
      exact ih nd.2 h
section
variable [Tb] [Fz]
structure Own (cs : Cells) (G H : Hp) : Prop where
  nd : (cs.map Prod.fst).Nodup
  a : ∀ c ∈ cs, H c.1 = some c.2 ∧ noTb c.2
  g : ∀ c ∈ cs, G c.1 = none
  x : ∀ c ∈ cs, Fz.X c.1 = none
/-- objects of F may have changed; F is not known to G -/
structure GrowC (F : List Addr) (G H G' H' : Hp) : Prop where
  g : Same G G'
  s : Sub G' H'
  k : ∀ b o, H b = some o → noTb o → b ∉ F → H' b = some o
  fr : ∀ b, H' b = none → H b = none
  f : ∀ b o, H b = some o → G b = none → G' b = none
  x : ∀ a o, Fz.X a = some o → H a = some o
variable {F F2 : List Addr} {G H G' H' G1 H1 G2 H2 Ge He : Hp} {cs cs' r : Cells} {p : Addr} {o o' : HO}
theorem Grow.toC (g : Grow G H G' H') : GrowC F G H G' H' := ⟨g.g, g.s, fun b o h n _ => g.h.k b o h n, g.h.fr, g.f, g.x⟩
theorem GrowC.toG (g : GrowC [] G H G' H') : Grow G H G' H' := ⟨g.g, g.s, ⟨fun b o h n => g.k b o h n (fun z => (nomatch z)), g.fr⟩, g.f, g.x⟩
theorem GrowC.some (m : GrowC F G H G' H') {b : Addr} {o : HO} (h : H b = some o) : ∃ u, H' b = some u := by
  cases q : H' b with
  | none => rw [m.fr b q] at h; cases h
  | some u => exact ⟨u, rfl⟩
theorem GrowC.trans (m : GrowC F G H G1 H1) (k : GrowC F2 G1 H1 G2 H2) (hF : ∀ b ∈ F2, b ∈ F ∨ H b = none) : GrowC F G H G2 H2 :=
  ⟨m.g.trans k.g, k.s, fun b o h t n => k.k b o (m.k b o h t n) t fun z => (hF b z).elim n fun e => (by rw [h] at e; cases e), fun b h => m.fr b (k.fr b h), fun b o h n => by
    obtain ⟨u, e⟩ := m.some h
    exact k.f b u e (m.f b o h n), m.x⟩
theorem GrowC.freeX (m : GrowC F G H G' H') {p : Addr} (h : H p = none) : Fz.X p = none := by
  cases q : (Fz.X p : Option HO) with
  | none => rfl
  | some o => rw [m.x p o q] at h; cases h
/-- where a def stands: what has become of the entry's heap, and the cells at hand -/
structure St (F : List Addr) (Ge He : Hp) (cs : Cells) (G H : Hp) : Prop where
  gr : GrowC F Ge He G H
  own : Own cs G H
  fr : ∀ c ∈ cs, c.1 ∈ F ∨ He c.1 = none
abbrev adr (cs : Cells) : List Addr := cs.map Prod.fst
theorem Own.grow (w : Own cs G H) (g : Grow G H G' H') : Own cs G' H' :=
  ⟨w.nd, fun c h => ⟨g.h.k _ _ (w.a c h).1 (w.a c h).2, (w.a c h).2⟩, fun c h => g.f _ _ (w.a c h).1 (w.g c h), w.x⟩
theorem Own.sub (w : Own cs G H) (h : ∀ c ∈ cs', c ∈ cs) (nd : (adr cs').Nodup) : Own cs' G H := ⟨nd, fun c q => w.a c (h c q), fun c q => w.g c (h c q), fun c q => w.x c (h c q)⟩
theorem Own.left (w : Own (cs ++ r) G H) : Own cs G H := w.sub (fun c q => List.mem_append_left _ q) (by have := w.nd; rw [List.map_append] at this; exact (List.nodup_append.mp this).1)
theorem St.s (t : St F Ge He cs G H) : Sub G H := t.gr.s
theorem St.grow (t : St F Ge He cs G H) (g : Grow G H G' H') : St F Ge He cs G' H' :=
  ⟨t.gr.trans (g.toC (F := [])) (fun _ z => (nomatch z)), t.own.grow g, t.fr⟩
theorem St.enter (s : Sub G H) (w : Own cs G H) : St (adr cs) G H cs G H := ⟨(Grow.refl s).toC, w, fun c h => .inl (List.mem_map.mpr ⟨c, h, rfl⟩)⟩
theorem St.nil (s : Sub G H) : St [] G H [] G H := ⟨(Grow.refl s).toC, ⟨List.nodup_nil, fun _ z => (nomatch z), fun _ z => (nomatch z), fun _ z => (nomatch z)⟩, fun _ z => (nomatch z)⟩
theorem St.perm (t : St F Ge He cs G H) (h : cs.Perm cs') : St F Ge He cs' G H :=
  ⟨t.gr, t.own.sub (fun c q => h.mem_iff.mpr q) ((h.map Prod.fst).nodup_iff.mp t.own.nd), fun c q => t.fr c (h.mem_iff.mpr q)⟩
theorem St.sub (t : St F Ge He cs G H) (h : cs'.Sublist cs) : St F Ge He cs' G H :=
  ⟨t.gr, t.own.sub (fun c q => h.subset q) (t.own.nd.sublist (h.map Prod.fst)), fun c q => t.fr c (h.subset q)⟩
theorem St.at1 (t : St F Ge He ((p, o) :: cs) G H) : H p = some o := (t.own.a _ (.head _)).1
theorem St.no1 (t : St F Ge He ((p, o) :: cs) G H) : G p = none := t.own.g _ (.head _)
theorem St.at_ (t : St F Ge He cs G H) (h : (p, o) ∈ cs) : H p = some o := (t.own.a _ h).1
/-- a cell is written -/
theorem St.write (t : St F Ge He ((p, o) :: cs) G H) (nt : noTb o') : St F Ge He ((p, o') :: cs) G (upd H p o') := by
  obtain ⟨hp, np⟩ := t.own.a _ (.head _)
  have gp := t.own.g _ (.head _)
  have xp := t.own.x _ (.head _)
  have nd := t.own.nd
  rw [List.map_cons, List.nodup_cons] at nd
  refine ⟨t.gr.trans (F2 := [p]) ⟨Same.refl _, sub_upd2 t.s gp xp fun q z => ?_, fun b u h _ nb => ?_, fun b h => ?_, fun _ _ _ h => h, fun a u h => (t.s.x a u h).1⟩ fun b hb => ?_, ⟨t.own.nd, fun c hc => ?_, fun c hc => ?_, fun c hc => ?_⟩, fun c hc => ?_⟩
  · have hp : H p = some o := hp
    rw [hp] at z
    exact np q (Option.some.inj z)
  · rw [upd_ne fun z => nb (by rw [z]; exact .head _)]
    exact h
  · by_cases hb : b = p
    · rw [hb, upd_same] at h; cases h
    · rw [upd_ne hb] at h; exact h
  · rw [List.mem_singleton.mp hb]
    exact t.fr (p, o) (.head _)
  · cases hc with
    | head => exact ⟨upd_same, nt⟩
    | tail _ hc =>
      have ne : c.1 ≠ p := fun z => nd.1 (by rw [← z]; exact List.mem_map.mpr ⟨c, hc, rfl⟩)
      rw [upd_ne ne]
      exact t.own.a c (.tail _ hc)
  · cases hc with
    | head => exact gp
    | tail _ hc => exact t.own.g c (.tail _ hc)
  · cases hc with
    | head => exact xp
    | tail _ hc => exact t.own.x c (.tail _ hc)
  · cases hc with
    | head => exact t.fr (p, o) (.head _)
    | tail _ hc => exact t.fr c (.tail _ hc)
theorem St.put {l : Cells} (t : St F Ge He (l ++ (p, o) :: r) G H) (nt : noTb o') : St F Ge He (l ++ (p, o') :: r) G (upd H p o') :=
  ((t.perm List.perm_middle).write nt).perm List.perm_middle.symm
/-- a new cell -/
theorem St.new (t : St F Ge He cs G H) (h : H p = .none) (nt : noTb o) : St F Ge He ((p, o) :: cs) G (upd H p o) := by
  have g : Grow G H G (upd H p o) := (Grow.refl t.s).loose h
  have t2 := t.grow g
  refine ⟨t2.gr, ⟨?_, fun c hc => ?_, fun c hc => ?_, fun c hc => ?_⟩, fun c hc => ?_⟩
  · rw [List.map_cons, List.nodup_cons]
    refine ⟨fun z => ?_, t.own.nd⟩
    obtain ⟨c, hc, e⟩ := List.mem_map.mp z
    have := (t.own.a c hc).1
    rw [e, h] at this
    cases this
  · cases hc with
    | head => exact ⟨upd_same, nt⟩
    | tail _ hc => exact t2.own.a c hc
  · cases hc with
    | head => exact t.s.free h
    | tail _ hc => exact t.own.g c hc
  · cases hc with
    | head => exact t.s.freeX h
    | tail _ hc => exact t.own.x c hc
  · cases hc with
    | head => exact .inr (t.gr.fr p h)
    | tail _ hc => exact t.fr c hc
/-- a fresh cell never changes from now on -/
theorem St.fix (t : St F Ge He ((p, o) :: cs) G H) (hp : He p = .none) : St F Ge He cs (upd G p o) H := by
  obtain ⟨ha, nt⟩ := t.own.a _ (.head _)
  have gp : G p = .none := t.own.g _ (.head _)
  have xp := t.own.x _ (.head _)
  have nd := t.own.nd
  rw [List.map_cons, List.nodup_cons] at nd
  have ne : ∀ c ∈ cs, c.1 ≠ p := fun c hc z => nd.1 (by rw [← z]; exact List.mem_map.mpr ⟨c, hc, rfl⟩)
  refine ⟨⟨t.gr.g.trans (same_upd gp), ⟨fun b u q => ?_, t.s.t, t.s.x, fun b u q => ?_⟩, t.gr.k, t.gr.fr, fun b u h hn => ?_, t.gr.x⟩, ⟨nd.2, fun c hc => t.own.a c (.tail _ hc), fun c hc => ?_, fun c hc => t.own.x c (.tail _ hc)⟩, fun c hc => t.fr c (.tail _ hc)⟩
  · by_cases hb : b = p
    · subst hb
      rw [upd_same] at q
      cases q
      exact ⟨ha, nt⟩
    · rw [upd_ne hb] at q
      exact t.s.m b u q
  · by_cases hb : b = p
    · rw [hb]; exact xp
    · rw [upd_ne hb] at q
      exact t.s.d b u q
  · rw [upd_ne (ne_of_none h hp)]
    exact t.gr.f b u h hn
  · rw [upd_ne (ne c hc)]
    exact t.own.g c (.tail _ hc)
/-- another def has done its work on some cells -/
theorem St.call (t : St F Ge He (cs ++ r) G H) (k : St (adr cs) G H cs' G' H') : St F Ge He (cs' ++ r) G' H' := by
  have nd := t.own.nd
  rw [List.map_append] at nd
  have dj : ∀ c ∈ r, c.1 ∉ adr cs := fun c hc z => (List.nodup_append.mp nd).2.2 _ z _ (List.mem_map.mpr ⟨c, hc, rfl⟩) rfl
  have hr : ∀ c ∈ r, H c.1 = some c.2 ∧ noTb c.2 := fun c hc => t.own.a c (List.mem_append_right _ hc)
  refine ⟨t.gr.trans k.gr fun b hb => ?_, ⟨?_, fun c hc => ?_, fun c hc => ?_, fun c hc => ?_⟩, fun c hc => ?_⟩
  · obtain ⟨c, hc, e⟩ := List.mem_map.mp hb
    rw [← e]
    exact t.fr c (List.mem_append_left _ hc)
  · rw [List.map_append]
    refine List.nodup_append.mpr ⟨k.own.nd, (List.nodup_append.mp nd).2.1, fun a ha b hb e => ?_⟩
    obtain ⟨c, hc, e1⟩ := List.mem_map.mp ha
    obtain ⟨d, hd, e2⟩ := List.mem_map.mp hb
    have e3 : c.1 = d.1 := by rw [e1, e2, e]
    rcases k.fr c hc with z | z
    · exact dj d hd (by rw [← e3]; exact z)
    · rw [e3, (hr d hd).1] at z
      cases z
  · rcases List.mem_append.mp hc with hc | hc
    · exact k.own.a c hc
    · exact ⟨k.gr.k _ _ (hr c hc).1 (hr c hc).2 (dj c hc), (hr c hc).2⟩
  · rcases List.mem_append.mp hc with hc | hc
    · exact k.own.g c hc
    · exact k.gr.f _ _ (hr c hc).1 (t.own.g c (List.mem_append_right _ hc))
  · rcases List.mem_append.mp hc with hc | hc
    · exact k.own.x c hc
    · exact t.own.x c (List.mem_append_right _ hc)
  · rcases List.mem_append.mp hc with hc | hc
    · rcases k.fr c hc with z | z
      · obtain ⟨d, hd, e⟩ := List.mem_map.mp z
        have e : d.1 = c.1 := e
        rw [← e]
        exact t.fr d (List.mem_append_left _ hd)
      · exact .inr (t.gr.fr _ z)
    · exact t.fr c (List.mem_append_right _ hc)
theorem St.toG (t : St [] Ge He cs G H) : Grow Ge He G H := t.gr.toG
/-- something ran that changed no object: G stays -/
theorem St.back (t : St F Ge He cs G H) (k : Kept H H') (ts : ∀ P ∈ Tb.ps, GxR.TabG H' P) : St F Ge He cs G H' :=
  t.grow ⟨Same.refl _, t.s.keep k ts, k, fun _ _ _ h => h, fun a o h => (t.s.x a o h).1⟩
end
/-! ### reading: cells stand still meanwhile -/
section
variable [Tb]
/-- more of the heap stands still -/
abbrev fzj (X : Hp) (cs : Cells) : Fz := ⟨jn X (hpOf cs)⟩
theorem jn_l' {G1 G2 : Hp} {b : Addr} {o : HO} (h : G1 b = some o) : jn G1 G2 b = some o := jn_l G1 G2 b o h
theorem jn_r' {G1 G2 : Hp} {b : Addr} (h : G1 b = none) : jn G1 G2 b = G2 b := by
  show (match G1 b with | some o => some o | none => G2 b) = G2 b
  rw [h]
theorem jn_or {G1 G2 : Hp} {b : Addr} {o : HO} (h : jn G1 G2 b = some o) : G1 b = some o ∨ (G1 b = none ∧ G2 b = some o) := by
  cases q : G1 b with
  | some u => rw [jn_l' q] at h; exact .inl h
  | none => rw [jn_r' q] at h; exact .inr ⟨rfl, h⟩
theorem frz_sub {f : Fz} {cs : Cells} {G H : Hp} (s : @Sub _ f G H) (w : @Own f cs G H) : @Sub _ (fzj f.X cs) G H :=
  @Sub.mk _ (fzj f.X cs) G H (@Sub.m _ f _ _ s) (@Sub.t _ f _ _ s) (fun a o h => (jn_or h).elim (fun q => @Sub.x _ f _ _ s a o q) fun q => (@Own.a f _ _ _ w _ (hpOf_some q.2))) (fun a o h => by
    show jn f.X (hpOf cs) a = none
    rw [jn_r' (@Sub.d _ f _ _ s a o h)]
    cases q : hpOf cs a with
    | none => rfl
    | some u =>
      have := @Own.g f _ _ _ w _ (hpOf_some q)
      rw [h] at this
      cases this)
theorem frz_back {f : Fz} {cs : Cells} {G H G' H' : Hp} (s : @Sub _ f G H) (g : @Grow _ (fzj f.X cs) G H G' H') : @Grow _ f G H G' H' :=
  @Grow.mk _ f G H G' H' (@Grow.g _ (fzj f.X cs) _ _ _ _ g) (@Sub.mk _ f G' H' (@Sub.m _ (fzj f.X cs) _ _ (@Grow.s _ (fzj f.X cs) _ _ _ _ g)) (@Sub.t _ (fzj f.X cs) _ _ (@Grow.s _ (fzj f.X cs) _ _ _ _ g)) (fun a o h => @Sub.x _ (fzj f.X cs) _ _ (@Grow.s _ (fzj f.X cs) _ _ _ _ g) a o (jn_l' h)) fun a o h => by
    cases q : f.X a with
    | none => rfl
    | some u =>
      have := @Sub.d _ (fzj f.X cs) _ _ (@Grow.s _ (fzj f.X cs) _ _ _ _ g) a o h
      rw [show (fzj f.X cs).X a = some u from jn_l' q] at this
      cases this) (@Grow.h _ (fzj f.X cs) _ _ _ _ g) (@Grow.f _ (fzj f.X cs) _ _ _ _ g) (fun a o h => (@Sub.x _ f _ _ s a o h).1)
theorem frz_at {f : Fz} {cs : Cells} {G H : Hp} (w : @Own f cs G H) {a : Addr} {o : HO} (h : (a, o) ∈ cs) : (fzj f.X cs).X a = some o := by
  show jn f.X (hpOf cs) a = some o
  rw [jn_r' (@Own.x f _ _ _ w _ h)]
  exact hpOf_mem (@Own.nd f _ _ _ w) h
end
/-- a list that stands still -/
structure XL (α : Type) where
  l : List α
instance repXL [Fz] {α : Type} [Rep α] : Rep (XL α) := ⟨fun K t v G => ∃ a xs, v = .ref a ∧ Fz.X a = some (.lst xs) ∧ Reps K t.l xs G, fun e ⟨a, xs, h1, h2, h3⟩ => ⟨a, xs, h1, h2, h3.upd e⟩⟩
section
variable [Tb] [Fz] {α β : Type} [Rep α] [Rep β] {K : PySem.W.Frag} {σ : L2.St} {G H : Hp} {te tl ta tb : TE} {tt : TT} {vs : List Nat}
theorem ev_lcX {l : XL α} {g : TG} (f : α → Bool) (h : α → β) (hl : EvR K tl σ G l) (hz : l.l.length < sizeLine)
    (ht : ∀ x v G' H', Same G G' → Sub G' H' → x ∈ l.l → rep K x v G' → ∀ (P : L2.St → Hp → Prop), (∀ σ2, wipe σ2 vs = wipe σ vs → EvB tt σ2 G' (f x) → (f x = true → EvR K te σ2 G' (h x)) → P σ2 H') → g v (wipe σ vs) H' P) :
    EvR K (tLc (iList K tl) g tt te vs) σ G ((l.l.filter f).map h) := fun H e Q q =>
  hl H e _ fun v G1 H1 g1 ⟨a, xs, ev, hA, r⟩ => ⟨a, ev, ⟨xs, SqL.of (g1.s.x _ _ hA).1⟩, fun Dl hD =>
    lc_list (K := K) (a := a) (xs := xs) (fun i H' => Lc K G1 H1 Dl (((l.l.take i).filter f).map h) H') (lc_start g1.s hD) (fun i H' _ ⟨G', zs, g, _, _, _⟩ => SqL.of (g.s.x _ _ hA).1) (fun i v H' hi p => by
      obtain ⟨x, hx, rx⟩ := paired_get r hi
      obtain ⟨G', zs, g', n', e', r'⟩ := id p
      refine ht x v G1 H' g1.g (un g'.g g'.s) (List.mem_of_getElem? hx) rx _ fun σ2 hw hb he => ⟨hw, ?_⟩
      refine lc_turn hD p ?_ hb he fun H2 p2 => ?_
      · rw [List.length_map]
        exact Nat.lt_of_le_of_lt (Nat.le_trans (List.length_filter_le _ _) (by rw [List.length_take]; exact Nat.min_le_right _ _)) hz
      · rw [take_snoc hx, filt_snoc]
        exact p2) fun H' p => by
      obtain ⟨G', g', r'⟩ := lc_end hD p
      refine q _ G' H' (g1.trans g') ?_
      rw [show l.l = l.l.take xs.length by rw [← paired_len r, List.take_length]]
      exact r'⟩
theorem ev_lcXm {l : XL α} {g : TG} (h : α → β) (hl : EvR K tl σ G l) (hz : l.l.length < sizeLine)
    (ht : ∀ x v G' H', Same G G' → Sub G' H' → x ∈ l.l → rep K x v G' → ∀ (P : L2.St → Hp → Prop), (∀ σ2, wipe σ2 vs = wipe σ vs → EvB tYes σ2 G' true → (true = true → EvR K te σ2 G' (h x)) → P σ2 H') → g v (wipe σ vs) H' P) :
    EvR K (tLc (iList K tl) g tYes te vs) σ G (l.l.map h) :=
  (ev_lcX (fun _ => true) h hl hz ht).to (by rw [List.filter_eq_self.mpr (fun _ _ => rfl)])
theorem ev_lenX {l : XL α} (ha : EvR K ta σ G l) : EvR K (tCB (rLen K) (tCons ta tNil)) σ G (l.l.length : Int) :=
  ev_len1 ha fun v G1 H1 s ⟨a, xs, ev, hA, r⟩ Q q => ⟨v, l.l.length, rfl, by rw [ev]; exact .inl ⟨xs, SqL.of (s.x _ _ hA).1, paired_len r⟩, q⟩
theorem ev_ixX {l : XL α} {n : Int} {x : α} (ha : EvR K ta σ G l) (hb : EvR K tb σ G n) (h : atI l.l n = some x) : EvR K (tOp (rIxL K) ta tb) σ G x :=
  ev_op ha hb fun v w G1 H1 _ s ⟨a, xs, ev, hA, r⟩ hw Q q => by
    obtain ⟨u, h1, h2⟩ := atI_pair r h
    exact ⟨a, xs, n, u, ev, hw, SqL.of (s.x _ _ hA).1, h1, q u G1 H1 (Grow.refl s) h2⟩
theorem ev_listX {l : XL α} (ha : EvR K ta σ G l) : EvR K (tCB (fun xs H Q => ∃ p ys, xs = [.ref p] ∧ (SqL K H p ys ∨ SqT K H p ys) ∧ ∀ l, H l = none → Q (.ref l) (upd H l (.lst ys))) (tCons ta tNil)) σ G l.l := fun H e Q q =>
  ha H e _ fun v G1 H1 g1 ⟨a, xs, ev, hA, r⟩ => ⟨a, xs, by rw [ev], .inl (SqL.of (g1.s.x _ _ hA).1), fun p hp => q _ _ _ (g1.trans (Grow.new g1.s hp)) ⟨p, xs, rfl, upd_same, r.up (same_upd (g1.s.free hp))⟩⟩
/-- a field of an object that stands still -/
theorem ev_fldX {x : α} {i : Nat} {a dx C : Addr} {fs : List (Str × V)} {f : Str} {w : V} (hi : σ[i]? = some (some (.ref a))) (hG : Fz.X a = some (.ins C dx fs)) (c : Cls K C) (n : NoAttr K C f) (l : fs.lookup f = some w) (r : rep K x w G) : EvR K (tFld K (tVar i) f) σ G x := fun H e Q q =>
  ⟨_, hi, a, C, dx, fs, w, rfl, (e.x _ _ hG).1, c, n, l, q w G H (Grow.refl e) r⟩
theorem s_forX {D : Ends} {tb : TS} {l : XL α} {g : TG} (e : Sub G H) (h : EvR K tl σ G l) (k : ∀ G1 H1 xs, Grow G H G1 H1 → Reps K l.l xs G1 → ∃ Pv : Nat → L2.St → Hp → Prop, Pv 0 σ H1 ∧ (∀ i σ' H', Pv i σ' H' → Sub G1 H') ∧
    (∀ i x v σ' H', l.l[i]? = some x → rep K x v G1 → Pv i σ' H' → g v σ' H' fun σ2 H2 => tb { D with nx := Pv (i + 1), ct := Pv (i + 1), bk := D.nx } σ2 H2) ∧ ∀ σ' H', Pv l.l.length σ' H' → D.nx σ' H') : tFor (iList K tl) g tb D σ H :=
  h H e _ fun v G1 H1 g1 ⟨a, xs, ev, hA, r⟩ => by
    obtain ⟨Pv, p0, ps, pt, pe⟩ := k G1 H1 xs g1 r
    refine ⟨a, ev, ⟨xs, SqL.of (g1.s.x _ _ hA).1⟩, for_list (K := K) (a := a) (xs := xs) Pv p0 (fun i σ' H' _ p => SqL.of ((ps i σ' H' p).x _ _ hA).1) (fun i v σ' H' hi p => ?_) fun σ' H' p => pe σ' H' (by rw [paired_len r]; exact p)⟩
    obtain ⟨x, hx, rx⟩ := paired_get r hi
    exact pt i x v σ' H' hx rx p
end
end RL

set_option Elab.async false
set_option linter.all false
set_option maxRecDepth 100000
set_option maxHeartbeats 4000000
namespace RL
open PySem PySem.Spec PyProof.Rows L2 CwR
open Rep (rep)
/-! ### data: tuples and lists of texts, taking apart -/
def strsD (ds : List PyData) : List Str := ds.map strD
def lstD : PyData → List PyData
  | .list ds => ds
  | _ => []
def isTplS (d : PyData) : Bool := isTupD d && (tupD d).all isStrD
def isLstS (d : PyData) : Bool := isListD d && (lstD d).all isStrD
/-- a list that is only read -/
structure Lq (α : Type) where
  l : List α
instance {α : Type} [Rep α] : Rep (Lq α) := ⟨fun K t v G => ∃ a xs, v = .ref a ∧ SqL K G a xs ∧ Reps K t.l xs G, fun e ⟨a, xs, h1, h2, h3⟩ => ⟨a, xs, h1, sqL_monoD e h2, h3.upd e⟩⟩
section
variable {K : PySem.W.Frag} {d : PyData} {v : V} {G : Hp}
theorem un_listD (r : rep K d v G) (h : isListD d = true) : rep K (Lq.mk (lstD d)) v G := by
  cases d <;> first | cases h | skip
  have r : Dp K G v (.list _) := r
  cases r with
  | lst hs ha => exact ⟨_, _, rfl, hs, dpAll_reps ha⟩
theorem reps_strs : ∀ {ds : List PyData} {vs : List V}, Reps K ds vs G → ds.all isStrD = true → Reps K (strsD ds) vs G
  | _, _, .nil, _ => .nil
  | d :: ds, _, .cons r t, h => by
    rw [List.all_cons, Bool.and_eq_true] at h
    exact .cons (un_strD r h.1) (reps_strs t h.2)
theorem un_tplS (r : rep K d v G) (h : isTplS d = true) : rep K (Tpl.mk (strsD (tupD d))) v G := by
  unfold isTplS at h
  rw [Bool.and_eq_true] at h
  obtain ⟨a, xs, e1, e2, e3⟩ := un_tupD r h.1
  exact ⟨a, xs, e1, e2, reps_strs e3 h.2⟩
theorem un_lstS (r : rep K d v G) (h : isLstS d = true) : rep K (Lq.mk (strsD (lstD d))) v G := by
  unfold isLstS at h
  rw [Bool.and_eq_true] at h
  obtain ⟨a, xs, e1, e2, e3⟩ := un_listD r h.1
  exact ⟨a, xs, e1, e2, reps_strs e3 h.2⟩
end
section
variable [Tb] [Fz] {α β γ : Type} [Rep α] [Rep β] [Rep γ] {K : PySem.W.Frag} {σ : L2.St} {G H Ge He : Hp} {te ta tb tc : TE} {D : Ends} {tz : TS} {d : PyData} {i j k l : Nat}
theorem ev_asTplS (h : EvR K te σ G d) (hs : isTplS d = true) : EvR K te σ G (Tpl.mk (strsD (tupD d))) := fun H e Q q => h H e Q fun v G1 H1 g1 r => q v G1 H1 g1 (un_tplS r hs)
theorem ev_asLstS (h : EvR K te σ G d) (hs : isLstS d = true) : EvR K te σ G (Lq.mk (strsD (lstD d))) := fun H e Q q => h H e Q fun v G1 H1 g1 r => q v G1 H1 g1 (un_lstS r hs)
theorem ev_lenQ {l : Lq α} (ha : EvR K ta σ G l) : EvR K (tCB (rLen K) (tCons ta tNil)) σ G (l.l.length : Int) :=
  ev_len1 ha fun v G1 H1 s ⟨a, xs, ev, hA, r⟩ Q q => ⟨v, l.l.length, rfl, by rw [ev]; exact .inl ⟨xs, sqL_mono s.get hA, paired_len r⟩, q⟩
theorem ev_ixQ {l : Lq α} {n : Int} {x : α} (ha : EvR K ta σ G l) (hb : EvR K tb σ G n) (h : atI l.l n = some x) : EvR K (tOp (rIxL K) ta tb) σ G x :=
  ev_op ha hb fun v w G1 H1 _ s ⟨a, xs, ev, hA, r⟩ hw Q q => by
    obtain ⟨u, h1, h2⟩ := atI_pair r h
    exact ⟨a, xs, n, u, ev, hw, sqL_mono s.get hA, h1, q u G1 H1 (Grow.refl s) h2⟩
/-- min(a, b) -/
def minI (a b : Int) : Int := if b < a then b else a
def maxI (a b : Int) : Int := if b > a then b else a
theorem ev_min2 {m n : Int} (ha : EvR K ta σ G m) (hb : EvR K tb σ G n) : EvR K (tCB (fun xs H Q => ∃ i j, xs = [.int i, .int j] ∧ Q (.int (if j < i then j else i)) H) (tCons ta (tCons tb tNil))) σ G (minI m n) := fun H e Q q =>
  ha H e _ fun v G1 H1 g1 r1 => hb.mono g1.g H1 g1.s _ fun w G2 H2 g2 r2 => ⟨m, n, by rw [show v = V.int m from r1, show w = V.int n from r2], q _ G2 H2 (g1.trans g2) rfl⟩
theorem ev_max2 {m n : Int} (ha : EvR K ta σ G m) (hb : EvR K tb σ G n) : EvR K (tCB (fun xs H Q => ∃ i j, xs = [.int i, .int j] ∧ Q (.int (if j > i then j else i)) H) (tCons ta (tCons tb tNil))) σ G (maxI m n) := fun H e Q q =>
  ha H e _ fun v G1 H1 g1 r1 => hb.mono g1.g H1 g1.s _ fun w G2 H2 g2 r2 => ⟨m, n, by rw [show v = V.int m from r1, show w = V.int n from r2], q _ G2 H2 (g1.trans g2) rfl⟩
/-- a, b, c = x, y, z -/
theorem s_par3 {x : α} {y : β} {z : γ} (e : Sub G H) (ha : EvR K ta σ G x) (hb : EvR K tb σ G y) (hc : EvR K tc σ G z) (n : ∀ u v w G2 H2, Grow G H G2 H2 → rep K x u G2 → rep K y v G2 → rep K z w G2 → D.nx (((σ.set i (some u)).set j (some v)).set l (some w)) H2) : tPar3 i j l (tCons ta (tCons tb (tCons tc tNil))) D σ H :=
  ha H e _ fun u G1 H1 g1 r1 => (hb.mono g1.g) H1 g1.s _ fun v G2 H2 g2 r2 => (hc.mono (g1.g.trans g2.g)) H2 g2.s _ fun w G3 H3 g3 r3 => ⟨u, v, w, rfl, n u v w G3 H3 ((g1.trans g2).trans g3) (up (g2.g.trans g3.g) r1) (up g3.g r2) r3⟩
theorem q_par3 {x : α} {y : β} {z : γ} (e : Sub G H) (ha : EvR K ta σ G x) (hb : EvR K tb σ G y) (hc : EvR K tc σ G z) (n : ∀ u v w G2 H2, Grow G H G2 H2 → rep K x u G2 → rep K y v G2 → rep K z w G2 → tz D (((σ.set i (some u)).set j (some v)).set l (some w)) H2) : tSeq (tPar3 i j l (tCons ta (tCons tb (tCons tc tNil)))) tz D σ H :=
  s_par3 (D := { D with nx := tz D }) e ha hb hc n
/-- a, b, c, d = a tuple of four, data -/
theorem pick4 {ds : List PyData} (h : ds.length = 4) : ∃ x y z w, ds = [x, y, z, w] := by
  match ds, h with
  | [x, y, z, w], _ => exact ⟨x, y, z, w, rfl⟩
theorem pick3 {ds : List PyData} (h : ds.length = 3) : ∃ x y z, ds = [x, y, z] := by
  match ds, h with
  | [x, y, z], _ => exact ⟨x, y, z, rfl⟩
theorem s_asg4D {x : Tpl PyData} (hl : x.l.length = 4) (e : Sub G H) (h : EvR K te σ G x) (n : ∀ u v w z G2 H2, Grow G H G2 H2 → rep K (getI x.l 0) u G2 → rep K (getI x.l 1) v G2 → rep K (getI x.l 2) w G2 → rep K (getI x.l 3) z G2 → D.nx ((((σ.set i (some u)).set j (some v)).set k (some w)).set l (some z)) H2) :
    tAsg te (gTup K 4 (gCons (gName i) (gCons (gName j) (gCons (gName k) (gCons (gName l) gNil))))) D σ H :=
  h H e _ fun t G1 H1 g1 ⟨a, xs, et, hA, r⟩ => by
    obtain ⟨x0, x1, x2, x3, ex⟩ := pick4 hl
    rw [ex] at r n
    cases r with
    | cons r0 r => cases r with
      | cons r1 r => cases r with
        | cons r2 r => cases r with
          | cons r3 r =>
            cases r
            exact ⟨a, _, et, sqT_mono g1.s.get hA, rfl, _, _, rfl, _, _, rfl, _, _, rfl, _, [], rfl, rfl, n _ _ _ _ G1 H1 g1 r0 r1 r2 r3⟩
theorem q_asg4D {x : Tpl PyData} (hl : x.l.length = 4) (e : Sub G H) (h : EvR K te σ G x) (n : ∀ u v w z G2 H2, Grow G H G2 H2 → rep K (getI x.l 0) u G2 → rep K (getI x.l 1) v G2 → rep K (getI x.l 2) w G2 → rep K (getI x.l 3) z G2 → tz D ((((σ.set i (some u)).set j (some v)).set k (some w)).set l (some z)) H2) :
    tSeq (tAsg te (gTup K 4 (gCons (gName i) (gCons (gName j) (gCons (gName k) (gCons (gName l) gNil)))))) tz D σ H := s_asg4D (D := { D with nx := tz D }) hl e h n
theorem s_asg3D {x : Tpl PyData} (hl : x.l.length = 3) (e : Sub G H) (h : EvR K te σ G x) (n : ∀ u v w G2 H2, Grow G H G2 H2 → rep K (getI x.l 0) u G2 → rep K (getI x.l 1) v G2 → rep K (getI x.l 2) w G2 → D.nx (((σ.set i (some u)).set j (some v)).set k (some w)) H2) :
    tAsg te (gTup K 3 (gCons (gName i) (gCons (gName j) (gCons (gName k) gNil)))) D σ H :=
  h H e _ fun t G1 H1 g1 ⟨a, xs, et, hA, r⟩ => by
    obtain ⟨x0, x1, x2, ex⟩ := pick3 hl
    rw [ex] at r n
    cases r with
    | cons r0 r => cases r with
      | cons r1 r => cases r with
        | cons r2 r =>
          cases r
          exact ⟨a, _, et, sqT_mono g1.s.get hA, rfl, _, _, rfl, _, _, rfl, _, [], rfl, rfl, n _ _ _ G1 H1 g1 r0 r1 r2⟩
theorem q_asg3D {x : Tpl PyData} (hl : x.l.length = 3) (e : Sub G H) (h : EvR K te σ G x) (n : ∀ u v w G2 H2, Grow G H G2 H2 → rep K (getI x.l 0) u G2 → rep K (getI x.l 1) v G2 → rep K (getI x.l 2) w G2 → tz D (((σ.set i (some u)).set j (some v)).set k (some w)) H2) :
    tSeq (tAsg te (gTup K 3 (gCons (gName i) (gCons (gName j) (gCons (gName k) gNil))))) tz D σ H := s_asg3D (D := { D with nx := tz D }) hl e h n
/-- a list that is filled from now on, begun by a cut of another -/
theorem s_newSl {l : List α} {tl th : TO} {lo hi : Option Int} (gr : Grow Ge He G H) (ha : EvR K ta σ G l) (hl : EvO K tl σ G lo) (hh : EvO K th σ G hi)
    (k : ∀ G' H' p H2 xs, Grow G H G' H' → He p = none → G' p = none → H2 p = some (.lst xs) → Reps K (cutL l lo hi) xs G' → Grow Ge He G' H2 → Kept H H2 → D.nx (σ.set i (some (.ref p))) H2) : tAsg (tSl (rSlL K) ta tl th) (gName i) D σ H :=
  ha H gr.s _ fun v G1 H1 g1 r1 => hl.mono g1.g H1 g1.s _ fun G2 H2 g2 => hh.mono (g1.g.trans g2.g) H2 g2.s _ fun G3 H3 g3 => by
    obtain ⟨a, xs, ev, hA, r⟩ := up (g2.g.trans g3.g) r1
    have gg := (g1.trans g2).trans g3
    exact ⟨a, xs, ev, SqL.of (g3.s _ _ hA), fun p hp => k G3 H3 p _ _ gg ((gr.trans gg).h.free hp) (g3.s.free hp) upd_same (cut_pair lo hi r) ((gr.trans gg).loose hp) (gg.h.trans (kept_upd hp))⟩
theorem q_newSl {l : List α} {tl th : TO} {lo hi : Option Int} (gr : Grow Ge He G H) (ha : EvR K ta σ G l) (hl : EvO K tl σ G lo) (hh : EvO K th σ G hi)
    (k : ∀ G' H' p H2 xs, Grow G H G' H' → He p = none → G' p = none → H2 p = some (.lst xs) → Reps K (cutL l lo hi) xs G' → Grow Ge He G' H2 → Kept H H2 → tz D (σ.set i (some (.ref p))) H2) : tSeq (tAsg (tSl (rSlL K) ta tl th) (gName i)) tz D σ H :=
  s_newSl (D := { D with nx := tz D }) gr ha hl hh k
end
end RL

set_option Elab.async false
set_option linter.all false
set_option maxRecDepth 100000
set_option maxHeartbeats 4000000
namespace RL
open PySem PySem.Spec PyProof.Rows L2 CwR
open Rep (rep)
theorem q_asgX {te : TE} {tz : TS} {D : Ends} {σ : L2.St} {H : Hp} {i : Nat} (h : te σ H fun v H1 => tz D (σ.set i (some v)) H1) : tSeq (tAsg te (gName i)) tz D σ H := h
theorem s_asgX {te : TE} {D : Ends} {σ : L2.St} {H : Hp} {i : Nat} (h : te σ H fun v H1 => D.nx (σ.set i (some v)) H1) : tAsg te (gName i) D σ H := h
theorem q_dropX {te : TE} {tz : TS} {D : Ends} {σ : L2.St} {H : Hp} (h : te σ H fun _ H1 => tz D σ H1) : tSeq (tDrop te) tz D σ H := h
theorem s_dropX {te : TE} {D : Ends} {σ : L2.St} {H : Hp} (h : te σ H fun _ H1 => D.nx σ H1) : tDrop te D σ H := h
theorem s_retX {te : TE} {D : Ends} {σ : L2.St} {H : Hp} (h : te σ H D.rt) : tRet te D σ H := h
/-- a statement, then the rest: what holds between them -/
theorem seqP {t u : TS} {D : Ends} {σ : L2.St} {H : Hp} (P : L2.St → Hp → Prop) (h : ∀ σ H, P σ H → u D σ H) (k : (∀ σ H, P σ H → u D σ H) → t { D with nx := u D } σ H) : tSeq t u D σ H := k h
theorem q_fldR {K : PySem.W.Frag} {tv : TE} {tz : TS} {D : Ends} {σ : L2.St} {H : Hp} {i : Nat} {f : Str} (h : tv σ H fun y H1 => tVar i σ H1 fun x H2 => ∃ a C dx fs, x = .ref a ∧ H2 a = some (.ins C dx fs) ∧ Cls K C ∧ NoAttr K C f ∧ fs.length < 1000 ∧ tz D σ (upd H2 a (.ins C dx (putF f y fs)))) : tSeq (sFld K (tVar i) tv f) tz D σ H := h
theorem x_op {r : R2} {ta tb : TE} {σ : L2.St} {H : Hp} {Q : VK} (h : ta σ H fun x H1 => tb σ H1 fun y H2 => r x y H2 Q) : tOp r ta tb σ H Q := h
theorem x_ev {α : Type} [Tb] [Fz] [Rep α] {x : α} {G H : Hp} {K : PySem.W.Frag} {te : TE} {σ : L2.St} {Q : VK} (h : EvR K te σ G x) (s : Sub G H) (k : ∀ v G' H', Grow G H G' H' → rep K x v G' → Q v H') : te σ H Q := h H s Q k
theorem q_fldE {α : Type} [Tb] [Fz] [Rep α] {x : α} {G : Hp} {K : PySem.W.Frag} {tv : TE} {tz : TS} {D : Ends} {σ : L2.St} {H : Hp} {i : Nat} {a C dx : Addr} {f : Str} (e : Sub G H) (hv : EvR K tv σ G x) (hi : σ[i]? = some (some (.ref a))) (c : Cls K C) (n : NoAttr K C f)
    (k : ∀ y G1 H1, Grow G H G1 H1 → rep K x y G1 → ∃ fs, H1 a = some (.ins C dx fs) ∧ fs.length < 1000 ∧ tz D σ (upd H1 a (.ins C dx (putF f y fs)))) : tSeq (sFld K (tVar i) tv f) tz D σ H :=
  hv H e _ fun v G1 H1 g1 r1 => by
    obtain ⟨fs, h1, h2, h3⟩ := k v G1 H1 g1 r1
    exact ⟨_, hi, a, C, dx, fs, rfl, h1, c, n, h2, h3⟩
theorem s_fldE {α : Type} [Tb] [Fz] [Rep α] {x : α} {G : Hp} {K : PySem.W.Frag} {tv : TE} {D : Ends} {σ : L2.St} {H : Hp} {i : Nat} {a C dx : Addr} {f : Str} (e : Sub G H) (hv : EvR K tv σ G x) (hi : σ[i]? = some (some (.ref a))) (c : Cls K C) (n : NoAttr K C f)
    (k : ∀ y G1 H1, Grow G H G1 H1 → rep K x y G1 → ∃ fs, H1 a = some (.ins C dx fs) ∧ fs.length < 1000 ∧ D.nx σ (upd H1 a (.ins C dx (putF f y fs)))) : sFld K (tVar i) tv f D σ H :=
  hv H e _ fun v G1 H1 g1 r1 => by
    obtain ⟨fs, h1, h2, h3⟩ := k v G1 H1 g1 r1
    exact ⟨_, hi, a, C, dx, fs, rfl, h1, c, n, h2, h3⟩
/-- o.f = [] -/
theorem q_fldN {K : PySem.W.Frag} {tz : TS} {D : Ends} {σ : L2.St} {H : Hp} {i : Nat} {a C dx : Addr} {f : Str} (hi : σ[i]? = some (some (.ref a))) (c : Cls K C) (n : NoAttr K C f)
    (k : ∀ p, H p = none → ∃ fs, upd H p (.lst []) a = some (.ins C dx fs) ∧ fs.length < 1000 ∧ tz D σ (upd (upd H p (.lst [])) a (.ins C dx (putF f (.ref p) fs)))) : tSeq (sFld K (tVar i) (tLst tNil) f) tz D σ H :=
  ⟨by show 0 ≤ sizeLine; decide, fun p hp => by
    obtain ⟨fs, h1, h2, h3⟩ := k p hp
    exact ⟨_, hi, a, C, dx, fs, rfl, h1, c, n, h2, h3⟩⟩
theorem s_fldN {K : PySem.W.Frag} {D : Ends} {σ : L2.St} {H : Hp} {i : Nat} {a C dx : Addr} {f : Str} (hi : σ[i]? = some (some (.ref a))) (c : Cls K C) (n : NoAttr K C f)
    (k : ∀ p, H p = none → ∃ fs, upd H p (.lst []) a = some (.ins C dx fs) ∧ fs.length < 1000 ∧ D.nx σ (upd (upd H p (.lst [])) a (.ins C dx (putF f (.ref p) fs)))) : sFld K (tVar i) (tLst tNil) f D σ H :=
  ⟨by show 0 ≤ sizeLine; decide, fun p hp => by
    obtain ⟨fs, h1, h2, h3⟩ := k p hp
    exact ⟨_, hi, a, C, dx, fs, rfl, h1, c, n, h2, h3⟩⟩
section
variable {X : Cx} {K : PySem.W.Frag} {o : Expr} {to : TE} {name : Str} {apos cpos : Pos} {T id : String} {r : V → List V → Hp → VK → Prop}
theorem pe_bm0K (pa : PlainAttrs T) (slot : Slot T name id) (hty : typeOf (.builtin id) = pure (.type "method_descriptor")) (hm : MtR X id r) (ho : PE X o to)
    (hbase : attributeBase o name X.env (eval o X.env) = eval o X.env := by rfl) (hline : (apos.endLine == cpos.line) = true := by rfl) (h : X.K = K := by rfl) : PE X (.Call (.Attribute o name apos) [] [] cpos) (tBM0 K T r to) := by subst h; exact pe_bm0 pa slot hty hm ho hbase hline
end
/-! ### where cells may change: expressions that only read -/
section
variable [Tb] {f : Fz} {F : List Addr} {G H Ge He : Hp} {cs : Cells} {K : PySem.W.Frag} {σ : L2.St} {te : TE} {tt : TT} {t u tz : TS} {D : Ends} {b : Bool} {i : Nat}
theorem evF {α : Type} [Rep α] {x : α} {Q : VK} (st : @St _ f F Ge He cs G H) (h : @EvR _ (fzj f.X cs) α _ K te σ G x) (k : ∀ v G' H', @St _ f F Ge He cs G' H' → @Grow _ f G H G' H' → rep K x v G' → Q v H') : te σ H Q :=
  h H (frz_sub (@St.s _ f _ _ _ _ _ _ st) (@St.own _ f _ _ _ _ _ _ st)) Q fun v G' H' g r =>
    have g' := frz_back (@St.s _ f _ _ _ _ _ _ st) g
    k v G' H' (@St.grow _ f _ _ _ _ _ _ _ _ st g') g' r
theorem etF {Q : Bool → Hp → Prop} (st : @St _ f F Ge He cs G H) (h : @EvB _ (fzj f.X cs) tt σ G b) (k : ∀ G' H', @St _ f F Ge He cs G' H' → @Grow _ f G H G' H' → Q b H') : tt σ H Q :=
  h H (frz_sub (@St.s _ f _ _ _ _ _ _ st) (@St.own _ f _ _ _ _ _ _ st)) Q fun G' H' g =>
    have g' := frz_back (@St.s _ f _ _ _ _ _ _ st) g
    k G' H' (@St.grow _ f _ _ _ _ _ _ _ _ st g') g'
theorem q_ifF (st : @St _ f F Ge He cs G H) (h : @EvB _ (fzj f.X cs) tt σ G b) (k1 : b = true → ∀ G' H', @St _ f F Ge He cs G' H' → @Grow _ f G H G' H' → t { D with nx := tz D } σ H') (k2 : b = false → ∀ G' H', @St _ f F Ge He cs G' H' → @Grow _ f G H G' H' → u { D with nx := tz D } σ H') : tSeq (tIfS tt t u) tz D σ H :=
  etF st h fun G' H' st' g => by
    cases b with
    | true => exact iteT (k1 rfl G' H' st' g)
    | false => exact iteF (k2 rfl G' H' st' g)
theorem s_ifF (st : @St _ f F Ge He cs G H) (h : @EvB _ (fzj f.X cs) tt σ G b) (k1 : b = true → ∀ G' H', @St _ f F Ge He cs G' H' → @Grow _ f G H G' H' → t D σ H') (k2 : b = false → ∀ G' H', @St _ f F Ge He cs G' H' → @Grow _ f G H G' H' → u D σ H') : tIfS tt t u D σ H :=
  etF st h fun G' H' st' g => by
    cases b with
    | true => exact iteT (k1 rfl G' H' st' g)
    | false => exact iteF (k2 rfl G' H' st' g)
theorem q_asgF {α : Type} [Rep α] {x : α} (st : @St _ f F Ge He cs G H) (h : @EvR _ (fzj f.X cs) α _ K te σ G x) (k : ∀ v G' H', @St _ f F Ge He cs G' H' → @Grow _ f G H G' H' → rep K x v G' → tz D (σ.set i (some v)) H') : tSeq (tAsg te (gName i)) tz D σ H := evF st h k
theorem s_retF {α : Type} [Rep α] {x : α} (st : @St _ f F Ge He cs G H) (h : @EvR _ (fzj f.X cs) α _ K te σ G x) (k : ∀ v G' H', @St _ f F Ge He cs G' H' → @Grow _ f G H G' H' → rep K x v G' → D.rt v H') : tRet te D σ H := evF st h k
end
/-! ### contracts of methods whose object stands in cells of its own -/
section
variable [Tb] [Fz] {S α β γ ρ : Type} [Rep α] [Rep β] [Rep γ] [Rep ρ]
abbrev ObT (S : Type) := S → Addr → Cells → Hp → Prop
structure ObC (C : Addr) (Ob : ObT S) : Prop where
  up : ∀ {s a cs G G'}, Same G G' → Ob s a cs G → Ob s a cs G'
  ins : ∀ {s a cs G}, Ob s a cs G → ∃ dx fs, (a, HO.ins C dx fs) ∈ cs
/-- readers -/
def spR0 (K : PySem.W.Frag) (Ob : ObT S) (pre : S → Prop) (f : S → ρ) : Sp := fun vs H Q _ => ∃ s a cs G, vs = [.ref a] ∧ Sub G H ∧ Own cs G H ∧ Ob s a cs G ∧ pre s ∧ ∀ u G' H', Grow G H G' H' → rep K (f s) u G' → Q u H'
/-- changers -/
def spC0 (K : PySem.W.Frag) (Ob : ObT S) (pre : S → Prop) (f : S → ρ × S) : Sp := fun vs H Q _ => ∃ s a cs G, vs = [.ref a] ∧ Sub G H ∧ Own cs G H ∧ Ob s a cs G ∧ pre s ∧ ∀ u G' H' cs', St (adr cs) G H cs' G' H' → Ob (f s).2 a cs' G' → rep K (f s).1 u G' → Q u H'
def spC2 (K : PySem.W.Frag) (Ob : ObT S) (pre : S → α → β → Prop) (f : S → α → β → ρ × S) : Sp := fun vs H Q _ => ∃ s a cs x y w v G, vs = [.ref a, w, v] ∧ Sub G H ∧ Own cs G H ∧ Ob s a cs G ∧ rep K x w G ∧ rep K y v G ∧ pre s x y ∧ ∀ u G' H' cs', St (adr cs) G H cs' G' H' → Ob (f s x y).2 a cs' G' → rep K (f s x y).1 u G' → Q u H'
def spC3 (K : PySem.W.Frag) (Ob : ObT S) (pre : S → α → β → γ → Prop) (f : S → α → β → γ → ρ × S) : Sp := fun vs H Q _ => ∃ s a cs x y z w v r G, vs = [.ref a, w, v, r] ∧ Sub G H ∧ Own cs G H ∧ Ob s a cs G ∧ rep K x w G ∧ rep K y v G ∧ rep K z r G ∧ pre s x y z ∧ ∀ u G' H' cs', St (adr cs) G H cs' G' H' → Ob (f s x y z).2 a cs' G' → rep K (f s x y z).1 u G' → Q u H'
def spX2 (K : PySem.W.Frag) (X : Addr) (fl : Str) (Ob : ObT S) (pre : S → α → β → Prop) (f : S → α → β → Except Str (ρ × S)) : Sp := fun vs H Q E => ∃ s a cs x y w v G, vs = [.ref a, w, v] ∧ Sub G H ∧ Own cs G H ∧ Ob s a cs G ∧ rep K x w G ∧ rep K y v G ∧ pre s x y ∧
  (∀ r, f s x y = .ok r → ∀ u G' H' cs', St (adr cs) G H cs' G' H' → Ob r.2 a cs' G' → rep K r.1 u G' → Q u H') ∧ ∀ z, f s x y = .error z → ErrAt X fl (.str z) H E
/-- __init__ of an object that is new: its instance and its dict are cells -/
def spI0 (Ob : ObT S) (C : Addr) (s : S) : Sp := fun vs H Q _ => ∃ a dx G, vs = [.ref a] ∧ Sub G H ∧ Own [(a, .ins C dx []), (dx, .own a)] G H ∧ ∀ G' H' cs', St [a, dx] G H cs' G' H' → Ob s a cs' G' → Q .non H'
/-- x = C() -/
theorem make0 {Ob : ObT S} {C : Addr} {s : S} {F : List Addr} {Ge He G H : Hp} {cs : Cells} {σ : L2.St} {E : XK} {Q : VK} (st : St F Ge He cs G H)
    (k : ∀ a G' H' cs', St F Ge He (cs' ++ cs) G' H' → Ob s a cs' G' → Same G G' → Q (.ref a) H') : tMake C (spI0 Ob C s) [] E tNil σ H Q := by
  intro x dx hx hd ne
  have st1 := (st.new (o := .own x) hd nt_own).new (p := x) (o := .ins C dx []) (by rw [upd_ne (Ne.symm ne)]; exact hx) nt_ins
  refine ⟨x, dx, G, rfl, st1.s, st1.own.sub (cs' := [(x, .ins C dx []), (dx, .own x)]) (fun c hc => ?_) ?_, fun G' H' cs' sc ob => ⟨rfl, ?_⟩⟩
  · rcases List.mem_cons.mp hc with e | hc
    · rw [e]; exact .head _
    · rw [List.mem_singleton.mp hc]; exact .tail _ (.head _)
  · have := st1.own.nd
    rw [List.map_cons, List.map_cons, List.nodup_cons, List.nodup_cons] at this
    refine List.nodup_cons.mpr ⟨fun z => this.1 ?_, List.nodup_cons.mpr ⟨fun z => (nomatch z), List.nodup_nil⟩⟩
    rw [List.mem_singleton.mp z]
    exact .head _
  · exact k x G' H' cs' (St.call (cs := [(x, .ins C dx []), (dx, .own x)]) st1 sc) ob sc.gr.g
end
end RL
namespace RL
open PySem PySem.Spec PyProof.Rows L2 CwR
open Rep (rep)
/-- a contract that is kept whatever stands still meanwhile -/
def anyF (sp : Fz → Sp) : Sp := fun vs H Q E => ∃ f, sp f vs H Q E
section
variable [Tb] [fz : Fz] {α β γ ρ : Type} {rα : Fz → Rep α} {rβ : Fz → Rep β} {rγ : Fz → Rep γ} {rρ : Fz → Rep ρ} {K : PySem.W.Frag} {σ : L2.St} {G : Hp} {ta tb tc : TE} {E : XK}
theorem ev_call0A {f : ρ} : @EvR _ fz _ (rρ fz) K (tCall (anyF fun z => @sp0 _ z ρ (rρ z) K f) [] E tNil) σ G f := fun H e Q q => ⟨fz, rfl, G, e, fun u G' H' g r => q u G' H' g r⟩
theorem ev_call1A {x : α} {pre : α → Prop} {f : α → ρ} (ha : @EvR _ fz _ (rα fz) K ta σ G x) (hp : pre x) : @EvR _ fz _ (rρ fz) K (tCall (anyF fun z => @sp1 _ z α ρ (rα z) (rρ z) K pre f) [] E (tCons ta tNil)) σ G (f x) := fun H e Q q =>
  ha H e _ fun v G1 H1 g1 r1 => ⟨fz, x, v, G1, rfl, g1.s, r1, hp, fun u G2 H2 g2 r2 => q u G2 H2 (g1.trans g2) r2⟩
theorem ev_call2A {x : α} {y : β} {pre : α → β → Prop} {f : α → β → ρ} (ha : @EvR _ fz _ (rα fz) K ta σ G x) (hb : @EvR _ fz _ (rβ fz) K tb σ G y) (hp : pre x y) : @EvR _ fz _ (rρ fz) K (tCall (anyF fun z => @sp2 _ z α β ρ (rα z) (rβ z) (rρ z) K pre f) [] E (tCons ta (tCons tb tNil))) σ G (f x y) := fun H e Q q =>
  ha H e _ fun v G1 H1 g1 r1 => @EvR.mono _ fz β (rβ fz) _ _ _ _ _ _ hb g1.g H1 g1.s _ fun w G2 H2 g2 r2 => ⟨fz, x, y, v, w, G2, rfl, g2.s, @up _ (rα fz) _ _ _ _ _ g2.g r1, r2, hp, fun u G3 H3 g3 r3 => q u G3 H3 ((g1.trans g2).trans g3) r3⟩
theorem ev_call3A {x : α} {y : β} {z : γ} {pre : α → β → γ → Prop} {f : α → β → γ → ρ} (ha : @EvR _ fz _ (rα fz) K ta σ G x) (hb : @EvR _ fz _ (rβ fz) K tb σ G y) (hc : @EvR _ fz _ (rγ fz) K tc σ G z) (hp : pre x y z) :
    @EvR _ fz _ (rρ fz) K (tCall (anyF fun q => @sp3 _ q α β γ ρ (rα q) (rβ q) (rγ q) (rρ q) K pre f) [] E (tCons ta (tCons tb (tCons tc tNil)))) σ G (f x y z) := fun H e Q q =>
  ha H e _ fun v G1 H1 g1 r1 => @EvR.mono _ fz β (rβ fz) _ _ _ _ _ _ hb g1.g H1 g1.s _ fun w G2 H2 g2 r2 => @EvR.mono _ fz γ (rγ fz) _ _ _ _ _ _ hc (g1.g.trans g2.g) H2 g2.s _ fun u G3 H3 g3 r3 =>
    ⟨fz, x, y, z, v, w, u, G3, rfl, g3.s, @up _ (rα fz) _ _ _ _ _ (g2.g.trans g3.g) r1, @up _ (rβ fz) _ _ _ _ _ g3.g r2, r3, hp, fun u G4 H4 g4 r4 => q u G4 H4 (((g1.trans g2).trans g3).trans g4) r4⟩
end
end RL
namespace RL
open PySem PySem.Spec PyProof.Rows L2 CwR
open Rep (rep)
theorem passN {P : Program} {w : World} {X : Cx} : Passes (L2.CX P w) X E0 := fun _ _ _ _ _ _ _ ⟨_, _, _, _, _, _, _, _, _, _, _, _, h⟩ => h.elim
section
variable [Tb]
theorem frz_own {f : Fz} {cs : Cells} {G0 H0 G H : Hp} (w : @Own f cs G0 H0) (s : @Sub _ (fzj f.X cs) G H) : @Own f cs G H :=
  @Own.mk f cs G H (@Own.nd f _ _ _ w) (fun c h => @Sub.x _ (fzj f.X cs) _ _ s c.1 c.2 (frz_at w h)) (fun c h => by
    cases q : G c.1 with
    | none => rfl
    | some o =>
      have := @Sub.d _ (fzj f.X cs) _ _ s c.1 o q
      rw [frz_at w h] at this
      cases this) (@Own.x f _ _ _ w)
theorem frz_subf {f : Fz} {cs : Cells} {G H : Hp} (s : @Sub _ (fzj f.X cs) G H) : @Sub _ f G H :=
  @Sub.mk _ f G H (@Sub.m _ (fzj f.X cs) _ _ s) (@Sub.t _ (fzj f.X cs) _ _ s) (fun a o h => @Sub.x _ (fzj f.X cs) _ _ s a o (jn_l' h)) fun a o h => by
    cases q : f.X a with
    | none => rfl
    | some u =>
      have := @Sub.d _ (fzj f.X cs) _ _ s a o h
      rw [show (fzj f.X cs).X a = some u from jn_l' q] at this
      cases this
theorem frz_up {f : Fz} {cs : Cells} {G H G' H' : Hp} (s : @Sub _ (fzj f.X cs) G H) (g : @Grow _ f G H G' H') : @Grow _ (fzj f.X cs) G H G' H' := by
  have gs := @Grow.s _ f _ _ _ _ g
  have gh := @Grow.h _ f _ _ _ _ g
  have gf := @Grow.f _ f _ _ _ _ g
  refine @Grow.mk _ (fzj f.X cs) G H G' H' (@Grow.g _ f _ _ _ _ g) (@Sub.mk _ (fzj f.X cs) G' H' (@Sub.m _ f _ _ gs) (@Sub.t _ f _ _ gs) (fun a o h => ?_) fun a o h => ?_) gh gf (fun a o h => (@Sub.x _ (fzj f.X cs) _ _ s a o h).1)
  · have q := @Sub.x _ (fzj f.X cs) _ _ s a o h
    exact ⟨gh.k a o q.1 q.2, q.2⟩
  · cases q : ((fzj f.X cs).X a : Option HO) with
    | none => rfl
    | some u =>
      have q1 := @Sub.x _ (fzj f.X cs) _ _ s a u q
      have q2 : G a = none := by
        cases z : G a with
        | none => rfl
        | some v =>
          have := @Sub.d _ (fzj f.X cs) _ _ s a v z
          rw [q] at this
          cases this
      rw [gf a u q1.1 q2] at h
      cases h
/-- a reader is called while its object stands still -/
theorem ev_methF0 {S ρ : Type} [Rep ρ] {f : Fz} {cs cs1 : Cells} {G0 H0 G : Hp} {K : PySem.W.Frag} {σ : L2.St} {C a dx : Addr} {m : Str} {E : XK} {i : Nat} {Ob : ObT S} {pre : S → Prop} {g : S → ρ} {s : S} {fs : List (Str × V)}
    (w : @Own f cs G0 H0) (hi : σ[i]? = some (some (.ref a))) (ob : Ob s a cs1 G) (up : ∀ {G G'}, Same G G' → Ob s a cs1 G → Ob s a cs1 G') (hm : ∀ c ∈ cs1, c ∈ cs) (hn : (adr cs1).Nodup) (hin : (a, HO.ins C dx fs) ∈ cs) (hl : fs.lookup m = none) (hp : pre s) :
    @EvR _ (fzj f.X cs) ρ _ K (tMeth C m (anyF fun z => @spR0 _ z S ρ _ K Ob pre g) [] E (tVar i) tNil) σ G (g s) := fun H e Q q =>
  have w2 := frz_own w e
  ⟨_, hi, a, dx, fs, rfl, (@Own.a f _ _ _ w2 _ hin).1, hl, f, s, a, cs1, G, rfl, frz_subf e, (letI := f; Own.sub w2 hm hn), ob, hp, fun u G' H' gr r => q u G' H' (frz_up e gr) r⟩
theorem make0A [fz : Fz] {S : Type} {Ob : S → Addr → Addr → Hp → Prop} {C : Addr} {s : S} {G H : Hp} {σ : L2.St} {E : XK} {Q : VK} (e : Sub G H)
    (k : ∀ a dx G' H', H a = none → G a = none → Grow G H G' H' → Ob s a dx G' → Q (.ref a) H') : tMake C (anyF fun z => @spi0 _ z S Ob C s) [] E tNil σ H Q := by
  intro x dx hx hd ne
  have g1 := new_ins (C := C) e hx hd ne
  refine ⟨fz, x, dx, _, rfl, g1.s, upd_same, by rw [upd_ne ne, upd_same], fun G' H' gm ob => ⟨rfl, ?_⟩⟩
  exact k x dx G' H' hx (e.free hx) (g1.mutM hx (e.free hx) gm) ob
theorem make0B [fz : Fz] {S : Type} {Ob : ObT S} {C : Addr} {s : S} {F : List Addr} {Ge He G H : Hp} {cs : Cells} {σ : L2.St} {E : XK} {Q : VK} (st : St F Ge He cs G H)
    (k : ∀ a G' H' cs', St F Ge He (cs' ++ cs) G' H' → Ob s a cs' G' → Same G G' → Q (.ref a) H') : tMake C (anyF fun z => @spI0 _ z S Ob C s) [] E tNil σ H Q := by
  intro x dx hx hd ne
  exact ⟨fz, make0 (E := E) (σ := σ) st k x dx hx hd ne⟩
theorem ev_methR0A [fz : Fz] {S ρ : Type} [Rep ρ] {K : PySem.W.Frag} {σ : L2.St} {G : Hp} {C a dx : Addr} {m : Str} {E : XK} {i : Nat} {s : S} {Ob : S → Addr → Addr → Hp → Prop} {pre : S → Prop} {f : S → ρ} (hi : σ[i]? = some (some (.ref a))) (P : ObP C Ob) (ob : Ob s a dx G) (hm : ∀ fs, G a = some (.ins C dx fs) → fs.lookup m = none) (hp : pre s) : EvR K (tMeth C m (anyF fun z => @spr0 _ z ρ S _ K Ob pre f) [] E (tVar i) tNil) σ G (f s) := fun H e Q q => by
  obtain ⟨fs, hG⟩ := P.ins ob
  exact ⟨_, hi, a, dx, fs, rfl, e _ _ hG, hm fs hG, fz, s, a, dx, G, rfl, e, ob, hp, q⟩
/-- an object of the other kind (its instance stands in G) changes -/
theorem St.growM [Fz] {F : List Addr} {Ge He G H G' H' : Hp} {cs : Cells} {b : Addr} {o : HO} (t : St F Ge He cs G H) (m : GrowM b G H G' H') (hb : G b = some o) (hE : Ge b = none) (hH : He b = none) : St F Ge He cs G' H' := by
  have ne : ∀ c ∈ cs, c.1 ≠ b := fun c hc z => by
    have := t.own.g c hc
    rw [z, hb] at this
    cases this
  refine ⟨⟨fun a o h => m.g a o (t.gr.g a o h) (ne_of_none h hE), m.s, fun a o h n nf => m.k a o (t.gr.k a o h n nf) n (ne_of_none h hH), fun a h => t.gr.fr a (m.fr a h), fun a o h n => ?_, t.gr.x⟩, ⟨t.own.nd, fun c hc => ⟨m.k _ _ (t.own.a c hc).1 (t.own.a c hc).2 (ne c hc), (t.own.a c hc).2⟩, fun c hc => m.f _ _ (t.own.a c hc).1 (t.own.g c hc), t.own.x⟩, t.fr⟩
  obtain ⟨u, e⟩ := t.gr.some h
  exact m.f a u e (t.gr.f a o h n)
end
end RL
namespace RL
open PySem PySem.Spec PyProof.Rows L2 CwR
open Rep (rep)
theorem x_cons {ta : TE} {tr : TA} {σ : L2.St} {H : Hp} {Q : List V → Hp → Prop} (h : ta σ H fun v H1 => tr σ H1 fun vs H2 => Q (v :: vs) H2) : tCons ta tr σ H Q := h
section
variable [Tb] {f : Fz} {F : List Addr} {G H Ge He : Hp} {cs : Cells} {K : PySem.W.Frag} {σ : L2.St} {tl : TE} {tb : TS} {D : Ends}
theorem s_forF {α : Type} [Rep α] {l : List α} {g : TG} (st : @St _ f F Ge He cs G H) (h : @EvR _ (fzj f.X cs) _ _ K tl σ G l) (k : ∀ G1 H1 xs, @St _ f F Ge He cs G1 H1 → @Grow _ f G H G1 H1 → Reps K l xs G1 → ∃ Pv : Nat → L2.St → Hp → Prop, Pv 0 σ H1 ∧ (∀ i σ' H', Pv i σ' H' → @Sub _ f G1 H') ∧
    (∀ i x v σ' H', l[i]? = some x → rep K x v G1 → Pv i σ' H' → g v σ' H' fun σ2 H2 => tb { D with nx := Pv (i + 1), ct := Pv (i + 1), bk := D.nx } σ2 H2) ∧ ∀ σ' H', Pv l.length σ' H' → D.nx σ' H') : tFor (iList K tl) g tb D σ H :=
  evF st h fun v G1 H1 st1 g1 ⟨a, xs, ev, hA, r⟩ => by
    obtain ⟨Pv, p0, ps, pt, pe⟩ := k G1 H1 xs st1 g1 r
    refine ⟨a, ev, ⟨xs, SqL.of (@Sub.m _ f _ _ (@St.s _ f _ _ _ _ _ _ st1) _ _ hA).1⟩, for_list (K := K) (a := a) (xs := xs) Pv p0 (fun i σ' H' _ p => SqL.of (@Sub.m _ f _ _ (ps i σ' H' p) _ _ hA).1) (fun i v σ' H' hi p => ?_) fun σ' H' p => pe σ' H' (by rw [paired_len r]; exact p)⟩
    obtain ⟨x, hx, rx⟩ := paired_get r hi
    exact pt i x v σ' H' hx rx p
theorem s_forFD {α : Type} [Rep α] {l : List α} {g : TG} (st : @St _ f F Ge He cs G H) (h : @EvR _ (fzj f.X cs) _ _ K tl σ G l) (k : ∀ G1 H1 xs, @St _ f F Ge He cs G1 H1 → @Grow _ f G H G1 H1 → Reps K l xs G1 → ∃ Pv : Nat → L2.St → Hp → Prop, Pv 0 σ H1 ∧ (∀ i σ' H', Pv i σ' H' → SameD G1 H') ∧
    (∀ i x v σ' H', l[i]? = some x → rep K x v G1 → Pv i σ' H' → g v σ' H' fun σ2 H2 => tb { D with nx := Pv (i + 1), ct := Pv (i + 1), bk := D.nx } σ2 H2) ∧ ∀ σ' H', Pv l.length σ' H' → D.nx σ' H') : tFor (iList K tl) g tb D σ H :=
  evF st h fun v G1 H1 st1 g1 ⟨a, xs, ev, hA, r⟩ => by
    obtain ⟨Pv, p0, ps, pt, pe⟩ := k G1 H1 xs st1 g1 r
    refine ⟨a, ev, ⟨xs, SqL.of (@Sub.m _ f _ _ (@St.s _ f _ _ _ _ _ _ st1) _ _ hA).1⟩, for_list (K := K) (a := a) (xs := xs) Pv p0 (fun i σ' H' _ p => SqL.of (ps i σ' H' p _ _ hA trivial)) (fun i v σ' H' hi p => ?_) fun σ' H' p => pe σ' H' (by rw [paired_len r]; exact p)⟩
    obtain ⟨x, hx, rx⟩ := paired_get r hi
    exact pt i x v σ' H' hx rx p
theorem q_forF {α : Type} [Rep α] {l : List α} {g : TG} {tz : TS} (st : @St _ f F Ge He cs G H) (h : @EvR _ (fzj f.X cs) _ _ K tl σ G l) (k : ∀ G1 H1 xs, @St _ f F Ge He cs G1 H1 → @Grow _ f G H G1 H1 → Reps K l xs G1 → ∃ Pv : Nat → L2.St → Hp → Prop, Pv 0 σ H1 ∧ (∀ i σ' H', Pv i σ' H' → @Sub _ f G1 H') ∧
    (∀ i x v σ' H', l[i]? = some x → rep K x v G1 → Pv i σ' H' → g v σ' H' fun σ2 H2 => tb { nx := Pv (i + 1), ct := Pv (i + 1), bk := tz D, rt := D.rt } σ2 H2) ∧ ∀ σ' H', Pv l.length σ' H' → tz D σ' H') : tSeq (tFor (iList K tl) g tb) tz D σ H :=
  s_forF (D := { D with nx := tz D }) st h k
theorem q_forFD {α : Type} [Rep α] {l : List α} {g : TG} {tz : TS} (st : @St _ f F Ge He cs G H) (h : @EvR _ (fzj f.X cs) _ _ K tl σ G l) (k : ∀ G1 H1 xs, @St _ f F Ge He cs G1 H1 → @Grow _ f G H G1 H1 → Reps K l xs G1 → ∃ Pv : Nat → L2.St → Hp → Prop, Pv 0 σ H1 ∧ (∀ i σ' H', Pv i σ' H' → SameD G1 H') ∧
    (∀ i x v σ' H', l[i]? = some x → rep K x v G1 → Pv i σ' H' → g v σ' H' fun σ2 H2 => tb { nx := Pv (i + 1), ct := Pv (i + 1), bk := tz D, rt := D.rt } σ2 H2) ∧ ∀ σ' H', Pv l.length σ' H' → tz D σ' H') : tSeq (tFor (iList K tl) g tb) tz D σ H :=
  s_forFD (D := { D with nx := tz D }) st h k
end
end RL
namespace RL
open L2
theorem x_call {sp : Sp} {dvs : List V} {E : XK} {t : TA} {σ : L2.St} {H : Hp} {Q : VK} (h : t σ H fun vs H1 => sp (vs ++ dvs) H1 Q E) : tCall sp dvs E t σ H Q := h
end RL

set_option Elab.async false
set_option linter.all false
set_option maxRecDepth 100000
set_option maxHeartbeats 4000000
namespace RL
open PySem PySem.Spec PyProof.Rows L2
open Rep (rep)
open CwR


def PreB (t : Str) : Prop := t.length ≤ 100000
def PreO (t : Option Str) : Prop := ∀ s, t = some s → PreB s
theorem preO_len {t : Option Str} (h : PreO t) : (Option.getD t default).length ≤ 16000000 := by
  cases t with
  | none => exact Nat.zero_le _
  | some s => exact Nat.le_trans (h s rfl) (by decide)
theorem preB {t : Str} (h : PreT t) : PreB t := Nat.le_trans h (by decide)
theorem repl_len (x y z : Str) : (Txt.replace x y z).length ≤ x.length + (x.length + 1) * z.length := TK.replace_len x y z
theorem rl2 {x y z : Str} {n : Nat} (h : x.length ≤ n) (hz : z.length ≤ 2) : (Txt.replace x y z).length ≤ n + (n + 1) * 2 :=
  Nat.le_trans (repl_len x y z) (Nat.add_le_add h (Nat.mul_le_mul (Nat.succ_le_succ h) hz))
theorem rs2 {x z : Str} {n : Nat} (h : x.length ≤ n) (hz : z.length ≤ 2) (hn : n + (n + 1) * 2 ≤ 16777216) : x.length + (x.length + 1) * z.length ≤ 16777216 :=
  Nat.le_trans (Nat.add_le_add h (Nat.mul_le_mul (Nat.succ_le_succ h) hz)) hn
theorem b_line {x : Str} {n : Nat} (h : x.length ≤ n) (hn : n ≤ 16000000 := by decide) : x.length ≤ sizeLine := Nat.le_trans h (Nat.le_trans hn (by decide))
theorem app_line {x y : Str} {n : Nat} (h : x.length + y.length ≤ n) (hn : n ≤ 16000000 := by decide) : (x ++ y).length ≤ sizeLine := by rw [len_app]; exact Nat.le_trans h (Nat.le_trans hn (by decide))

theorem q_line1 {x : Str} (h : x.length ≤ 900008) : (Str.empty ++ ("\"" : Str) ++ x).length ≤ sizeLine := by
  rw [len_app, len_app, show Str.empty.length = 0 by decide, show ("\"" : Str).length = 1 by decide]
  exact Nat.le_trans (Nat.add_le_add_left h _) (by decide)
theorem q_line2 {x : Str} (h : x.length ≤ 900008) : (Str.empty ++ ("\"" : Str) ++ x ++ ("\"" : Str)).length ≤ sizeLine := by
  rw [len_app, len_app, len_app, show Str.empty.length = 0 by decide, show ("\"" : Str).length = 1 by decide]
  exact Nat.le_trans (Nat.add_le_add_right (Nat.add_le_add_left h _) _) (by decide)
theorem q_line3 {x : Str} (h : x.length ≤ 900008) : ("\"" : Str).length + x.length ≤ sizeLine := by
  rw [show ("\"" : Str).length = 1 by decide]
  exact Nat.le_trans (Nat.add_le_add_left h _) (by decide)
theorem q_line4 {x : Str} (h : x.length ≤ 900008) : (("\"" : Str) ++ x).length + ("\"" : Str).length ≤ sizeLine := by
  rw [len_app, show ("\"" : Str).length = 1 by decide]
  exact Nat.le_trans (Nat.add_le_add_right (Nat.add_le_add_left h _) _) (by decide)

/-! data of bounded depth whose texts may be laid -/
def Sh (n : Nat) (d : PyData) : Prop := d.canLay0 = true ∧ d.depth ≤ n
theorem lay_all : ∀ {ds : List PyData}, (∀ x ∈ ds, x.canLay0 = true) → PyData.canLayAll0 ds = true
  | [], _ => rfl
  | d :: ds, h => by
    show (d.canLay0 && PyData.canLayAll0 ds) = true
    rw [h d (.head _), lay_all fun x hx => h x (.tail _ hx)]
    rfl
theorem dep_all {n : Nat} : ∀ {ds : List PyData}, (∀ x ∈ ds, x.depth ≤ n) → PyData.depthAll ds ≤ n
  | [], _ => Nat.zero_le _
  | d :: ds, h => by
    show max d.depth (PyData.depthAll ds) ≤ n
    exact Nat.max_le.mpr ⟨h d (.head _), dep_all fun x hx => h x (.tail _ hx)⟩
theorem Sh.tup {n : Nat} {ds : List PyData} (h : ∀ x ∈ ds, Sh n x) : Sh (n + 1) (.tuple ds) :=
  ⟨lay_all fun x hx => (h x hx).1, by show PyData.depthAll ds + 1 ≤ n + 1; exact Nat.succ_le_succ (dep_all fun x hx => (h x hx).2)⟩
theorem Sh.lst {n : Nat} {ds : List PyData} (h : ∀ x ∈ ds, Sh n x) : Sh (n + 1) (.list ds) :=
  ⟨lay_all fun x hx => (h x hx).1, by show PyData.depthAll ds + 1 ≤ n + 1; exact Nat.succ_le_succ (dep_all fun x hx => (h x hx).2)⟩
theorem Sh.str {n : Nat} {s : Str} (h : PyData.strOk s = true) : Sh n (.str s) := ⟨h, Nat.zero_le _⟩
theorem Sh.int {n : Nat} {i : Int} : Sh n (.int i) := ⟨rfl, Nat.zero_le _⟩
theorem Sh.bool {n : Nat} {b : Bool} : Sh n (.bool b) := ⟨rfl, Nat.zero_le _⟩
theorem Sh.up {m n : Nat} {d : PyData} (h : Sh m d) (k : m ≤ n) : Sh n d := ⟨h.1, Nat.le_trans h.2 k⟩
theorem Sh.sh {n : Nat} {d : PyData} (h : Sh n d) (k : n ≤ 64) : SeqAt.shaped d = true := by
  unfold SeqAt.shaped
  rw [h.1, decide_eq_true (Nat.le_trans h.2 k)]
  rfl
theorem fa2 {P : PyData → Prop} {a b : PyData} (ha : P a) (hb : P b) : ∀ x ∈ [a, b], P x := fun x hx => by
  rcases List.mem_cons.mp hx with e | hx
  · rw [e]; exact ha
  · rw [List.mem_singleton.mp hx]; exact hb
theorem fa3 {P : PyData → Prop} {a b c : PyData} (ha : P a) (hb : P b) (hc : P c) : ∀ x ∈ [a, b, c], P x := fun x hx => by
  rcases List.mem_cons.mp hx with e | hx
  · rw [e]; exact ha
  · exact fa2 hb hc x hx
theorem fa4 {P : PyData → Prop} {a b c d : PyData} (ha : P a) (hb : P b) (hc : P c) (hd : P d) : ∀ x ∈ [a, b, c, d], P x := fun x hx => by
  rcases List.mem_cons.mp hx with e | hx
  · rw [e]; exact ha
  · exact fa3 hb hc hd x hx
theorem sh_strs {n : Nat} {l : List Str} (h : TOk l) : ∀ x ∈ l.map PyData.str, Sh n x := fun x hx => by
  obtain ⟨s, hs, e⟩ := List.mem_map.mp hx
  rw [← e]
  exact .str (h s hs)
/-! the queue's entries, as the program keeps them, as the law keeps them, as they are told -/
def tS (l : List Str) : PyData := .tuple (l.map PyData.str)
def lS (l : List Str) : PyData := .list (l.map PyData.str)
def msgE (t : Str) (b : Bool) : PyData := .tuple [.str "message", .str t, .bool b]
def pathE (o n : List Str) (st : List PyData) : PyData := .tuple [.str "path", tS o, tS n, .tuple st]
def turnE (o n : List Str) (st : List PyData) : PyData := .tuple [.str "turn", lS o, lS n, .tuple st]
inductive En where
  | msg (t : Str) (b : Bool)
  | path (o n : List Str) (st : List PyData)
def En.p : En → PyData
  | .msg t b => msgE t b
  | .path o n st => pathE o n st
def En.r : En → PyData
  | .msg t b => msgE t b
  | .path o n st => turnE o n st
def En.isMsg : En → Bool
  | .msg _ _ => true
  | .path _ _ _ => false
def En.loud : En → Bool
  | .msg _ b => b
  | .path _ _ _ => false
def sameN : List Str → List Str → Nat
  | a :: l, b :: m => if a = b then sameN l m + 1 else 0
  | _, _ => 0
def pathA (n : Int) (st : List PyData) : PyData := .tuple [.str "path", .int n, .tuple st]
def annE (o n : List Str) (st : List PyData) : PyData := pathA ((o.length : Int) - (sameN o n : Int)) (st.drop (sameN o n))
def En.a : En → PyData
  | .msg t b => msgE t b
  | .path o n st => annE o n st
/-- a step begins with its name -/
def stepOf (x : Str) (d : PyData) : Prop := ∃ ds, d = .tuple (.str x :: ds) ∧ Sh 1 d ∧ ds.length ≤ 10
/-- steps for names -/
def StepsOf (n : List Str) (st : List PyData) : Prop := Paired stepOf n st
structure PathOk (o n : List Str) (st : List PyData) : Prop where
  ok1 : TOk o ∧ o.length ≤ 4
  ok2 : TOk n ∧ n.length ≤ 4
  st : StepsOf n st
def En.ok : En → Prop
  | .msg t _ => PyData.strOk t = true
  | .path o n st => PathOk o n st
theorem strs_map (l : List Str) : strsD (l.map PyData.str) = l := by
  unfold strsD
  rw [List.map_map]
  exact List.map_id l
theorem all_str (l : List Str) : (l.map PyData.str).all isStrD = true := by
  rw [List.all_map, List.all_eq_true]
  intro x _
  rfl
theorem tS_is (l : List Str) : isTplS (tS l) = true := by
  show (true && (l.map PyData.str).all isStrD) = true
  rw [all_str]
  rfl
theorem lS_is (l : List Str) : isLstS (lS l) = true := by
  show (true && (l.map PyData.str).all isStrD) = true
  rw [all_str]
  rfl
theorem tag_eq {x y : Str} : PyData.eqv (.str x) (.str y) = decide (x = y) := Flat.eqv x y
section
variable {d : PyData}
abbrev IsP (d : PyData) : Prop := ∃ e : En, d = e.p ∧ e.ok
abbrev IsR (d : PyData) : Prop := ∃ e : En, d = e.r ∧ e.ok
theorem p_tup (h : IsP d) : isTupD d = true := by obtain ⟨e, rfl, _⟩ := h; cases e <;> rfl
theorem r_tup (h : IsR d) : isTupD d = true := by obtain ⟨e, rfl, _⟩ := h; cases e <;> rfl
theorem p_pos (h : IsP d) : (0 : Int) < ((Tpl.mk (tupD d)).l.length : Int) := by obtain ⟨e, rfl, _⟩ := h; cases e <;> first | exact (by decide : (0 : Int) < 3) | exact (by decide : (0 : Int) < 4)
theorem r_pos (h : IsR d) : (0 : Int) < ((Tpl.mk (tupD d)).l.length : Int) := by obtain ⟨e, rfl, _⟩ := h; cases e <;> first | exact (by decide : (0 : Int) < 3) | exact (by decide : (0 : Int) < 4)
theorem p_tag (h : IsP d) (s : Str) (hs : PyData.strOk s = true) : SeqAt.shaped (Dat.d (getI (Tpl.mk (tupD d)).l (0 : Int))) = true ∧ SeqAt.shaped (Dat.d (PyData.str s)) = true := by
  obtain ⟨e, rfl, _⟩ := h
  refine ⟨?_, (Sh.str (n := 0) hs).sh (by decide)⟩
  cases e <;> exact (Sh.str (n := 0) (by decide +kernel)).sh (by decide)
theorem r_tag (h : IsR d) (s : Str) (hs : PyData.strOk s = true) : SeqAt.shaped (Dat.d (getI (Tpl.mk (tupD d)).l (0 : Int))) = true ∧ SeqAt.shaped (Dat.d (PyData.str s)) = true := by
  obtain ⟨e, rfl, _⟩ := h
  refine ⟨?_, (Sh.str (n := 0) hs).sh (by decide)⟩
  cases e <;> exact (Sh.str (n := 0) (by decide +kernel)).sh (by decide)
theorem p_path (h : IsP d) (k : PyData.eqv (Dat.d (getI (Tpl.mk (tupD d)).l (0 : Int))) (Dat.d (PyData.str ("message" : Str))) = false) : ∃ o n st, d = pathE o n st ∧ PathOk o n st := by
  obtain ⟨e, rfl, hk⟩ := h
  cases e with
  | msg t b => exact absurd k (by show PyData.eqv (.str ("message" : Str)) (.str ("message" : Str)) ≠ false; rw [tag_eq]; decide)
  | path o n st => exact ⟨o, n, st, rfl, hk⟩
theorem r_path (h : IsR d) (k : PyData.eqv (Dat.d (getI (Tpl.mk (tupD d)).l (0 : Int))) (Dat.d (PyData.str ("message" : Str))) = false) : ∃ o n st, d = turnE o n st ∧ PathOk o n st := by
  obtain ⟨e, rfl, hk⟩ := h
  cases e with
  | msg t b => exact absurd k (by show PyData.eqv (.str ("message" : Str)) (.str ("message" : Str)) ≠ false; rw [tag_eq]; decide)
  | path o n st => exact ⟨o, n, st, rfl, hk⟩
end
theorem sameN_le : ∀ (o n : List Str), sameN o n ≤ o.length ∧ sameN o n ≤ n.length
  | [], [] => ⟨Nat.zero_le _, Nat.zero_le _⟩
  | [], _ :: _ => ⟨Nat.zero_le _, Nat.zero_le _⟩
  | _ :: _, [] => ⟨Nat.zero_le _, Nat.zero_le _⟩
  | a :: l, b :: m => by
    have := sameN_le l m
    unfold sameN
    split
    · exact ⟨Nat.succ_le_succ this.1, Nat.succ_le_succ this.2⟩
    · exact ⟨Nat.zero_le _, Nat.zero_le _⟩
/-- where two lists part, found step by step -/
theorem sameN_at : ∀ (o n : List Str) (k : Nat), o.take k = n.take k → k ≤ o.length → k ≤ n.length → (o[k]? = n[k]? → o[k]? = none) → sameN o n = k
  | [], n, k, _, h, _, _ => by
    have : k = 0 := Nat.le_zero.mp h
    rw [this]
    cases n <;> rfl
  | a :: l, [], k, _, _, h, _ => by
    have : k = 0 := Nat.le_zero.mp h
    rw [this]
    rfl
  | a :: l, b :: m, 0, _, _, _, h => by
    unfold sameN
    rw [if_neg]
    intro e
    have := h (by rw [e]; rfl)
    cases this
  | a :: l, b :: m, k + 1, ht, h1, h2, h => by
    rw [List.take_succ_cons, List.take_succ_cons] at ht
    obtain ⟨e1, e2⟩ := List.cons.inj ht
    unfold sameN
    rw [if_pos e1, sameN_at l m k e2 (Nat.le_of_succ_le_succ h1) (Nat.le_of_succ_le_succ h2) (by simpa using h)]
theorem minI_nat (a b : Nat) : minI (a : Int) (b : Int) = ((min a b : Nat) : Int) := by
  unfold minI
  split <;> omega
theorem getI_natS {l : List Str} {k : Nat} (h : k < l.length) : getI l (k : Int) = l[k] := by
  unfold getI atI ixN
  rw [if_pos (by omega), if_pos (by omega), Int.toNat_natCast]
  show (l[k]?).getD default = l[k]
  rw [List.getElem?_eq_getElem h]
  rfl
theorem lt_minl {a b c : Int} (h : decide (a < minI b c) = true) : a < b := by
  have := of_decide_eq_true h
  unfold minI at this
  split at this <;> omega
theorem lt_minr {a b c : Int} (h : decide (a < minI b c) = true) : a < c := by
  have := of_decide_eq_true h
  unfold minI at this
  split at this <;> omega
theorem whl_up {c : Int → Bool} {f : Int → Int} (hf : ∀ s, f s = s + 1) {n : Nat} (hc : ∀ s, c s = true → s < (n : Int)) : ∀ s, 0 ≤ s → c s = true → 0 ≤ f s ∧ n - (f s).toNat < n - s.toNat := fun s h0 h1 => by
  have := hc s h1
  rw [hf s]
  omega
/-- the loop that looks for the place where two lists part -/
theorem whl_same {c : Int → Bool} {f : Int → Int} {o n : List Str} (hf : ∀ s, f s = s + 1) (hc : ∀ k : Nat, c (k : Int) = decide (k < o.length ∧ k < n.length ∧ o[k]? = n[k]?)) : ∀ (m k : Nat), o.take k = n.take k → k ≤ o.length → k ≤ n.length → o.length - k ≤ m → whl c f m (k : Int) = (sameN o n : Int)
  | 0, k, ht, h1, h2, hm => by
    show (k : Int) = _
    have e : k = o.length := by omega
    rw [sameN_at o n k ht h1 h2 (fun _ => List.getElem?_eq_none (by omega))]
  | m + 1, k, ht, h1, h2, hm => by
    show cond (c (k : Int)) (whl c f m (f (k : Int))) (k : Int) = _
    rw [hc k]
    by_cases q : k < o.length ∧ k < n.length ∧ o[k]? = n[k]?
    · rw [decide_eq_true q]
      show whl c f m (f (k : Int)) = _
      rw [hf, show (k : Int) + 1 = ((k + 1 : Nat) : Int) by omega]
      refine whl_same hf hc m (k + 1) ?_ (by omega) (by omega) (by omega)
      rw [List.take_add_one, List.take_add_one, ht, q.2.2]
    · rw [decide_eq_false q]
      show (k : Int) = _
      rw [sameN_at o n k ht h1 h2 fun e => ?_]
      rw [List.getElem?_eq_none]
      by_cases h3 : k < o.length
      · by_cases h4 : k < n.length
        · exact absurd ⟨h3, h4, e⟩ q
        · rw [List.getElem?_eq_none (Nat.le_of_not_lt h4), List.getElem?_eq_getElem h3] at e
          cases e
      · omega
theorem get_eq {o n : List Str} {k : Nat} (h1 : k < o.length) (h2 : k < n.length) : eqB (getI o (k : Int)) (getI n (k : Int)) = decide (o[k]? = n[k]?) := by
  rw [getI_natS h1, getI_natS h2, List.getElem?_eq_getElem h1, List.getElem?_eq_getElem h2]
  unfold eqB
  exact decide_eq_decide.mpr ⟨fun h => by rw [h], fun h => Option.some.inj h⟩
theorem cut_drop {α : Type} {l : List α} {k : Nat} (h : k ≤ l.length) : cutL l (some (k : Int)) none = l.drop k := by
  unfold cutL
  rw [HT.sIx_nat, show HT.sIx l.length l.length none = l.length from rfl, Nat.min_eq_left h]
  exact List.take_of_length_le (by rw [List.length_drop]; omega)
theorem paired_len2 {n : List Str} {st : List PyData} (h : StepsOf n st) : n.length = st.length := paired_len h
/-- an announcement that a tracker may follow -/
def AnnOk (d : PyData) : Prop := (∃ t b, d = msgE t b ∧ PyData.strOk t = true) ∨ ∃ n st, d = pathA n st ∧ (∀ x ∈ st, ∃ a, stepOf a x ∧ PyData.strOk a = true) ∧ st.length ≤ 4
theorem ao_tup {d : PyData} (h : AnnOk d) : isTupD d = true := by
  rcases h with ⟨_, _, e, _⟩ | ⟨_, _, e, _⟩ <;> (rw [e]; rfl)
theorem ao_pos {d : PyData} (h : AnnOk d) : (0 : Int) < ((Tpl.mk (tupD d)).l.length : Int) := by
  rcases h with ⟨_, _, e, _⟩ | ⟨_, _, e, _⟩ <;> (rw [e]; exact (by decide : (0 : Int) < 3))
theorem ao_len {d : PyData} (h : AnnOk d) : (Tpl.mk (tupD d)).l.length = 3 := by
  rcases h with ⟨_, _, e, _⟩ | ⟨_, _, e, _⟩ <;> (rw [e]; rfl)
theorem ao_tag {d : PyData} (h : AnnOk d) (s : Str) (hs : PyData.strOk s = true) : SeqAt.shaped (Dat.d (getI (Tpl.mk (tupD d)).l (0 : Int))) = true ∧ SeqAt.shaped (Dat.d (PyData.str s)) = true := by
  refine ⟨?_, (Sh.str (n := 0) hs).sh (by decide)⟩
  rcases h with ⟨_, _, e, _⟩ | ⟨_, _, e, _⟩ <;> (rw [e]; exact (Sh.str (n := 0) (by decide +kernel)).sh (by decide))
theorem ao_path {d : PyData} (h : AnnOk d) (k : PyData.eqv (Dat.d (getI (Tpl.mk (tupD d)).l (0 : Int))) (Dat.d (PyData.str ("message" : Str))) = false) : ∃ n st, d = pathA n st ∧ (∀ x ∈ st, ∃ a, stepOf a x ∧ PyData.strOk a = true) ∧ st.length ≤ 4 := by
  rcases h with ⟨t, b, rfl, _⟩ | h
  · exact absurd k (by show PyData.eqv (.str ("message" : Str)) (.str ("message" : Str)) ≠ false; rw [tag_eq]; decide)
  · exact h
theorem so_tup {a : Str} {d : PyData} (h : stepOf a d) : isTupD d = true := by
  obtain ⟨ds, e, _⟩ := h
  rw [e]; rfl
theorem so_pos {a : Str} {d : PyData} (h : stepOf a d) : (atI (Tpl.mk (tupD d)).l (0 : Int)).isSome = true := by
  obtain ⟨ds, e, _⟩ := h
  rw [e]
  exact at_in (Int.le_refl 0) (by show (0 : Int) < (((PyData.str a :: ds).length : Nat) : Int); rw [List.length_cons]; omega)
theorem so_val {a : Str} {d : PyData} (h : stepOf a d) : getI (Tpl.mk (tupD d)).l (0 : Int) = .str a := by
  obtain ⟨ds, e, _⟩ := h
  rw [e]
  unfold getI atI ixN
  rw [if_pos (Int.le_refl 0), if_pos (by show (0 : Int) < (((PyData.str a :: ds).length : Nat) : Int); rw [List.length_cons]; omega)]
  rfl
theorem cutL_len {α : Type} (l : List α) (a b : Option Int) : (cutL l a b).length ≤ l.length := by
  unfold cutL
  rw [List.length_take, List.length_drop]
  omega
theorem pick_len {l : List Str} (h : ∀ x ∈ l, x.length ≤ 1) (n : Int) : (getI l n).length ≤ 1 := by
  unfold getI
  cases e : atI l n with
  | none => exact Nat.zero_le _
  | some x =>
    unfold atI at e
    cases q : ixN l.length n with
    | none => rw [q] at e; cases e
    | some j =>
      rw [q] at e
      exact h x (List.mem_of_getElem? e)
theorem small_txt : ∀ k < 4, (PySem.Str.ofString (toString (Int.ofNat k))).length ≤ 3 ∧ PyData.strOk (PySem.Str.ofString (toString (Int.ofNat k))) = true := by decide +kernel
theorem small_txt' {n : Int} (h0 : 0 ≤ n) (h1 : n < 4) : (PySem.Str.ofString (toString n)).length ≤ 3 ∧ PyData.strOk (PySem.Str.ofString (toString n)) = true := by
  have := small_txt n.toNat (by omega)
  rw [show Int.ofNat n.toNat = n from Int.toNat_of_nonneg h0] at this
  exact this
theorem log_sm {n : Int} (h0 : 0 ≤ n) (h1 : n < 1000) : n.natAbs.log2 < 1920 := Nat.lt_of_le_of_lt (Nat.log2_le_self _) (by omega)
theorem ok_app {a b : Str} (h : PyData.strOk a = true) (k : PyData.strOk b = true) : PyData.strOk (a ++ b) = true := by
  obtain ⟨⟨x⟩⟩ := a
  obtain ⟨⟨y⟩⟩ := b
  have h' : (Array.mk x).all (fun c => decide (c < 0x110000)) = true := h
  have k' : (Array.mk y).all (fun c => decide (c < 0x110000)) = true := k
  show (Array.mk x ++ Array.mk y).all (fun c => decide (c < 0x110000)) = true
  rw [Array.all_append, h', k']
  rfl
theorem pick_ok {l : List Str} (h : ∀ x ∈ l, PyData.strOk x = true) (n : Int) : PyData.strOk (getI l n) = true := by
  unfold getI
  cases e : atI l n with
  | none => exact (by decide +kernel : PyData.strOk (default : Str) = true)
  | some x =>
    unfold atI at e
    cases q : ixN l.length n with
    | none => rw [q] at e; cases e
    | some j =>
      rw [q] at e
      exact h x (List.mem_of_getElem? e)
theorem paired_of {α β : Type} {F : α → β → Prop} : ∀ {l : List α} {m : List β}, l.length = m.length → (∀ (i : Nat) (x : α) (y : β), l[i]? = some x → m[i]? = some y → F x y) → Paired F l m
  | [], [], _, _ => .nil
  | [], _ :: _, h, _ => nomatch h
  | _ :: _, [], h, _ => nomatch h
  | x :: l, y :: m, h, k => .cons (k 0 x y rfl rfl) (paired_of (Nat.succ.inj h) fun i a b ha hb => k (i + 1) a b (by simpa using ha) (by simpa using hb))

def topS (i : Nat) : Stmt := PySem.Challenge.pw_keyfocus_k42_announcements.main.body.getD i (.Pass ⟨0, 0, 0, 0⟩)
structure Adr where
  f__announcement : Addr
  d__announcement : FuncData
  f_Announcements___init__ : Addr
  d_Announcements___init__ : FuncData
  f_Announcements_tell : Addr
  d_Announcements_tell : FuncData
  f_Announcements_message : Addr
  d_Announcements_message : FuncData
  f_Announcements_queue : Addr
  d_Announcements_queue : FuncData
  f_Announcements_take : Addr
  d_Announcements_take : FuncData
  f_Announcements__put_path : Addr
  d_Announcements__put_path : FuncData
  f_Tracker___init__ : Addr
  d_Tracker___init__ : FuncData
  f_Tracker_apply : Addr
  d_Tracker_apply : FuncData
  f_Tracker_path : Addr
  d_Tracker_path : FuncData
  f__law_cell : Addr
  d__law_cell : FuncData
  f__law_draws : Addr
  d__law_draws : FuncData
  f__law_same : Addr
  d__law_same : FuncData
  f__law_path : Addr
  d__law_path : FuncData
  f__law_steps : Addr
  d__law_steps : FuncData
  f__law_shown : Addr
  d__law_shown : FuncData
  f__law_joined : Addr
  d__law_joined : FuncData
  f__law_message : Addr
  d__law_message : FuncData
  f__law_told : Addr
  d__law_told : FuncData
  f_law : Addr
  d_law : FuncData
  c_Announcements : Addr
  c_Tracker : Addr
  x_FocusError : Addr
  x_Refused : Addr
  i_Refused : Addr
  di_Refused : FuncData
structure O_Announcements where
  last : List Str
  es : List En
def ObQ (K : PySem.W.Frag) (C : Addr) : ObT O_Announcements := fun s a cs G => ∃ dx b wl zs, cs = [(a, .ins C dx [("_last", wl), ("_entries", .ref b)]), (dx, .own a), (b, .lst zs)] ∧ rep K (Tpl.mk s.last) wl G ∧ Reps K (s.es.map En.p) zs G
theorem obQ (K : PySem.W.Frag) (C : Addr) : ObC C (ObQ K C) := ⟨fun e ⟨dx, b, wl, zs, h1, h2, h3⟩ => ⟨dx, b, wl, zs, h1, up e h2, h3.up e⟩, fun ⟨dx, b, wl, zs, h1, _⟩ => ⟨dx, [("_last", wl), ("_entries", .ref b)], h1 ▸ .head _⟩⟩
theorem obQ_d {K : PySem.W.Frag} {C : Addr} {s : O_Announcements} {a : Addr} {cs : Cells} {G G' : Hp} (e : SameD G G') : ObQ K C s a cs G → ObQ K C s a cs G' := fun ⟨dx, b, wl, zs, h1, h2, h3⟩ => ⟨dx, b, wl, zs, h1, upd' e h2, h3.upd e⟩
section
variable [Tb] [Fz] {f : Fz} {K : PySem.W.Frag} {C : Addr} {s : O_Announcements} {a : Addr} {cs cs' : Cells} {G H : Hp} {σ : L2.St}
theorem q_ent (o : ObQ K C s a cs G) (w : @Own f cs' G H) (hm : ∀ c ∈ cs, c ∈ cs') (hi : σ[0]? = some (some (.ref a))) (cl : Cls K C) (na : NoAttr K C "_entries") : @EvR _ (fzj f.X cs') (XL PyData) (@repXL (fzj f.X cs') PyData _) K (tFld K (tVar 0) "_entries") σ G (XL.mk (s.es.map En.p)) := by
  obtain ⟨dx, b, wl, zs, e, h2, h3⟩ := o
  refine @ev_fldX _ (fzj f.X cs') (XL PyData) (@repXL (fzj f.X cs') PyData _) K σ G (XL.mk (s.es.map En.p)) 0 a dx C [("_last", wl), ("_entries", .ref b)] "_entries" (.ref b) hi (frz_at w (hm _ ?_)) cl na rfl ⟨b, zs, rfl, frz_at w (hm _ ?_), h3⟩
  · rw [e]; exact .head _
  · rw [e]; exact .tail _ (.tail _ (.head _))
theorem q_last (o : ObQ K C s a cs G) (w : @Own f cs' G H) (hm : ∀ c ∈ cs, c ∈ cs') (hi : σ[0]? = some (some (.ref a))) (cl : Cls K C) (na : NoAttr K C "_last") : @EvR _ (fzj f.X cs') (Tpl Str) _ K (tFld K (tVar 0) "_last") σ G (Tpl.mk s.last) := by
  obtain ⟨dx, b, wl, zs, e, h2, h3⟩ := o
  refine @ev_fldX _ (fzj f.X cs') (Tpl Str) _ K σ G (Tpl.mk s.last) 0 a dx C [("_last", wl), ("_entries", .ref b)] "_last" wl hi (frz_at w (hm _ ?_)) cl na rfl h2
  rw [e]; exact .head _
end
/-! what the methods do -/
def En.tie (e : En) : Option (List Str) := match e with
  | .msg _ _ => none
  | .path o _ _ => some o
def putP (es : List En) (o n : List Str) (st : List PyData) : List En := match es.getLast? with
  | some (.path o2 _ _) => if o2 = n then es.dropLast else es.dropLast ++ [.path o2 n st]
  | _ => if o = n then es else es ++ [.path o n st]
def putE (es : List En) (e : En) : List En := match e with
  | .msg _ _ => es
  | .path o n st => putP es o n st

def EsOk (es : List En) : Prop := (∀ e ∈ es, e.ok) ∧ es.length ≤ 1000
def isPathL (es : List En) : Bool := match es.getLast? with
  | some (.path _ _ _) => true
  | _ => false
theorem getI_last {es : List En} {e : En} (h : es.getLast? = some e) : getI (es.map En.p) (-1) = e.p := by
  have h2 : (es.map En.p)[(es.map En.p).length - 1]? = some e.p := by
    rw [List.getElem?_map, List.length_map, ← List.getLast?_eq_getElem?, h]
    rfl
  have hl : 0 < (es.map En.p).length := by
    cases es with
    | nil => cases h
    | cons _ _ => exact Nat.succ_pos _
  unfold getI atI ixN
  rw [if_neg (by decide), if_pos (by omega)]
  show (((es.map En.p)[((-1 : Int) + ((es.map En.p).length : Int)).toNat]?).getD default) = _
  rw [show ((-1 : Int) + ((es.map En.p).length : Int)).toNat = (es.map En.p).length - 1 by omega, h2]
  rfl
theorem last_some {es : List En} (h : decide ((0 : Int) < ((es.map En.p).length : Int)) = true) : ∃ e, es.getLast? = some e := by
  cases es with
  | nil => cases h
  | cons x l => exact ⟨_, List.getLast?_eq_some_getLast (by simp)⟩
theorem last_test {es : List En} : (decide ((0 : Int) < ((es.map En.p).length : Int)) && PyData.eqv (Dat.d (getI (Tpl.mk (tupD (getI (es.map En.p) (-1)))).l (0 : Int))) (Dat.d (PyData.str ("path" : Str)))) = isPathL es := by
  unfold isPathL
  cases q : es.getLast? with
  | none =>
    have : es = [] := List.getLast?_eq_none_iff.mp q
    rw [this]
    rfl
  | some e =>
    have hl : decide ((0 : Int) < ((es.map En.p).length : Int)) = true := by
      cases es with
      | nil => cases q
      | cons x l => exact decide_eq_true (by rw [List.length_map, List.length_cons]; omega)
    rw [hl, Bool.true_and, getI_last q]
    cases e with
    | msg t b =>
      show PyData.eqv (.str ("message" : Str)) (.str ("path" : Str)) = false
      rw [tag_eq]; rfl
    | path o n st =>
      show PyData.eqv (.str ("path" : Str)) (.str ("path" : Str)) = true
      rw [tag_eq]; rfl
theorem en_p {e : En} (h : e.ok) : IsP e.p := ⟨e, rfl, h⟩
theorem reps_last {K : PySem.W.Frag} {G : Hp} {es : List En} {e : En} {zs : List V} (h : es.getLast? = some e) (r : Reps K (es.map En.p) zs G) : ∃ z, zs[zs.length - 1]? = some z ∧ rep K e.p z G ∧ Reps K (es.dropLast.map En.p) zs.dropLast G := by
  obtain ⟨ys, ey⟩ := List.getLast?_eq_some_iff.mp h
  subst ey
  rw [List.map_append] at r
  obtain ⟨z1, z2, e1, r1, r2⟩ : ∃ z1 z2, zs = z1 ++ z2 ∧ Reps K (ys.map En.p) z1 G ∧ Reps K ([e].map En.p) z2 G := by
    refine ⟨zs.take (ys.map En.p).length, zs.drop (ys.map En.p).length, (List.take_append_drop _ _).symm, ?_, ?_⟩
    · have := paired_take (ys.map En.p).length r
      rw [List.take_left] at this
      exact this
    · have := paired_drop (ys.map En.p).length r
      rw [List.drop_left] at this
      exact this
  cases r2 with
  | cons ra rb =>
    cases rb
    subst e1
    rename_i z
    refine ⟨z, ?_, ra, ?_⟩
    · rw [List.length_append, List.length_singleton, Nat.add_sub_cancel, List.getElem?_append_right (Nat.le_refl _), Nat.sub_self]
      rfl
    · rw [List.dropLast_concat, List.dropLast_concat]
      exact r1

structure O_Tracker where
  f_names : (List Str)
def Ob_Tracker (K : PySem.W.Frag) (C : Addr) (s : O_Tracker) (a dx : Addr) (G : Hp) : Prop := ∃ w_names, G a = some (.ins C dx [("_names", w_names)]) ∧ G dx = some (.own a) ∧ rep K s.f_names w_names G
theorem ob_Tracker (K : PySem.W.Frag) (C : Addr) : ObP C (Ob_Tracker K C) := ⟨fun e ⟨w_names, h1, h2, h_names⟩ => ⟨w_names, e _ _ h1, e _ _ h2, up e h_names⟩, fun ⟨w_names, h1, h2, h_names⟩ => ⟨_, h1⟩⟩
theorem nm_Tracker_apply {K : PySem.W.Frag} {C : Addr} {s : O_Tracker} {a dx : Addr} {G : Hp} (o : Ob_Tracker K C s a dx G) : ∀ fs, G a = some (.ins C dx fs) → fs.lookup ("apply" : Str) = none := fun fs e => by
  obtain ⟨w_names, h, _⟩ := o
  rw [h] at e
  cases e
  rfl
theorem nm_Tracker_path {K : PySem.W.Frag} {C : Addr} {s : O_Tracker} {a dx : Addr} {G : Hp} (o : Ob_Tracker K C s a dx G) : ∀ fs, G a = some (.ins C dx fs) → fs.lookup ("path" : Str) = none := fun fs e => by
  obtain ⟨w_names, h, _⟩ := o
  rw [h] at e
  cases e
  rfl
abbrev s_init_Refused : Stmt := inClass (topS 2) 0
theorem sc_init_Refused : FnScope ["self", "what"] ["self", "what"] (defScope s_init_Refused) := ⟨rfl, rfl, rfl, by decide +kernel, rfl, by decide +kernel, by decide +kernel⟩
/-! ### _announcement -/
abbrev s__announcement : Stmt := topS 6
abbrev n__announcement : List Str := ["entry", "_", "old", "new", "steps", "same"]
theorem sc__announcement : FnScope n__announcement ["entry"] (defScope s__announcement) := ⟨rfl, rfl, rfl, by decide +kernel, rfl, by decide +kernel, by decide +kernel⟩
/-! ### Announcements___init__ -/
abbrev s_Announcements___init__ : Stmt := inClass (topS 7) 0
abbrev n_Announcements___init__ : List Str := ["self"]
theorem sc_Announcements___init__ : FnScope n_Announcements___init__ ["self"] (defScope s_Announcements___init__) := ⟨rfl, rfl, rfl, by decide +kernel, rfl, by decide +kernel, by decide +kernel⟩
/-! ### Announcements_tell -/
abbrev s_Announcements_tell : Stmt := inClass (topS 7) 1
abbrev n_Announcements_tell : List Str := ["self", "names", "steps", "new"]
theorem sc_Announcements_tell : FnScope n_Announcements_tell ["self", "names", "steps"] (defScope s_Announcements_tell) := ⟨rfl, rfl, rfl, by decide +kernel, rfl, by decide +kernel, by decide +kernel⟩
/-! ### Announcements_message -/
abbrev s_Announcements_message : Stmt := inClass (topS 7) 2
abbrev n_Announcements_message : List Str := ["self", "text", "assertive", "messages", "entry", "paths", "_", "old", "new", "steps", "path", "other"]
theorem sc_Announcements_message : FnScope n_Announcements_message ["self", "text", "assertive"] (defScope s_Announcements_message) := ⟨rfl, rfl, rfl, by decide +kernel, rfl, by decide +kernel, by decide +kernel⟩
/-! ### Announcements_queue -/
abbrev s_Announcements_queue : Stmt := inClass (topS 7) 3
abbrev n_Announcements_queue : List Str := ["self", "entry"]
theorem sc_Announcements_queue : FnScope n_Announcements_queue ["self"] (defScope s_Announcements_queue) := ⟨rfl, rfl, rfl, by decide +kernel, rfl, by decide +kernel, by decide +kernel⟩
/-! ### Announcements_take -/
abbrev s_Announcements_take : Stmt := inClass (topS 7) 4
abbrev n_Announcements_take : List Str := ["self"]
theorem sc_Announcements_take : FnScope n_Announcements_take ["self"] (defScope s_Announcements_take) := ⟨rfl, rfl, rfl, by decide +kernel, rfl, by decide +kernel, by decide +kernel⟩
/-! ### Announcements__put_path -/
abbrev s_Announcements__put_path : Stmt := inClass (topS 7) 5
abbrev n_Announcements__put_path : List Str := ["self", "old", "new", "steps"]
theorem sc_Announcements__put_path : FnScope n_Announcements__put_path ["self", "old", "new", "steps"] (defScope s_Announcements__put_path) := ⟨rfl, rfl, rfl, by decide +kernel, rfl, by decide +kernel, by decide +kernel⟩
/-! ### Tracker___init__ -/
abbrev s_Tracker___init__ : Stmt := inClass (topS 8) 0
abbrev n_Tracker___init__ : List Str := ["self"]
theorem sc_Tracker___init__ : FnScope n_Tracker___init__ ["self"] (defScope s_Tracker___init__) := ⟨rfl, rfl, rfl, by decide +kernel, rfl, by decide +kernel, by decide +kernel⟩
/-! ### Tracker_apply -/
abbrev s_Tracker_apply : Stmt := inClass (topS 8) 1
abbrev n_Tracker_apply : List Str := ["self", "announcement", "_", "exited", "entered", "kept", "step"]
theorem sc_Tracker_apply : FnScope n_Tracker_apply ["self", "announcement"] (defScope s_Tracker_apply) := ⟨rfl, rfl, rfl, by decide +kernel, rfl, by decide +kernel, by decide +kernel⟩
/-! ### Tracker_path -/
abbrev s_Tracker_path : Stmt := inClass (topS 8) 2
abbrev n_Tracker_path : List Str := ["self"]
theorem sc_Tracker_path : FnScope n_Tracker_path ["self"] (defScope s_Tracker_path) := ⟨rfl, rfl, rfl, by decide +kernel, rfl, by decide +kernel, by decide +kernel⟩
/-! ### _law_cell -/
abbrev s__law_cell : Stmt := topS 10
abbrev n__law_cell : List Str := ["script", "k"]
theorem sc__law_cell : FnScope n__law_cell ["script", "k"] (defScope s__law_cell) := ⟨rfl, rfl, rfl, by decide +kernel, rfl, by decide +kernel, by decide +kernel⟩
/-! ### _law_draws -/
abbrev s__law_draws : Stmt := topS 11
abbrev n__law_draws : List Str := ["cell", "count", "found", "is_wide", "k", "mixed"]
theorem sc__law_draws : FnScope n__law_draws ["cell", "count"] (defScope s__law_draws) := ⟨rfl, rfl, rfl, by decide +kernel, rfl, by decide +kernel, by decide +kernel⟩
/-! ### _law_same -/
abbrev s__law_same : Stmt := topS 12
abbrev n__law_same : List Str := ["actual", "expected", "k"]
theorem sc__law_same : FnScope n__law_same ["actual", "expected"] (defScope s__law_same) := ⟨rfl, rfl, rfl, by decide +kernel, rfl, by decide +kernel, by decide +kernel⟩
/-! ### _law_path -/
abbrev s__law_path : Stmt := topS 13
abbrev n__law_path : List Str := ["draws", "names", "k"]
theorem sc__law_path : FnScope n__law_path ["draws"] (defScope s__law_path) := ⟨rfl, rfl, rfl, by decide +kernel, rfl, by decide +kernel, by decide +kernel⟩
/-! ### _law_steps -/
abbrev s__law_steps : Stmt := topS 14
abbrev n__law_steps : List Str := ["names", "draw", "k"]
theorem sc__law_steps : FnScope n__law_steps ["names", "draw"] (defScope s__law_steps) := ⟨rfl, rfl, rfl, by decide +kernel, rfl, by decide +kernel, by decide +kernel⟩
/-! ### _law_shown -/
abbrev s__law_shown : Stmt := topS 15
abbrev n__law_shown : List Str := ["row", "begin", "end", "steps", "same"]
theorem sc__law_shown : FnScope n__law_shown ["row"] (defScope s__law_shown) := ⟨rfl, rfl, rfl, by decide +kernel, rfl, by decide +kernel, by decide +kernel⟩
/-! ### _law_joined -/
abbrev s__law_joined : Stmt := topS 16
abbrev n__law_joined : List Str := ["rows", "found", "row", "last"]
theorem sc__law_joined : FnScope n__law_joined ["rows"] (defScope s__law_joined) := ⟨rfl, rfl, rfl, by decide +kernel, rfl, by decide +kernel, by decide +kernel⟩
/-! ### _law_message -/
abbrev s__law_message : Stmt := topS 17
abbrev n__law_message : List Str := ["rows", "text", "is_assertive", "messages", "first", "row"]
theorem sc__law_message : FnScope n__law_message ["rows", "text", "is_assertive"] (defScope s__law_message) := ⟨rfl, rfl, rfl, by decide +kernel, rfl, by decide +kernel, by decide +kernel⟩
/-! ### _law_told -/
abbrev s__law_told : Stmt := topS 18
abbrev n__law_told : List Str := ["queue", "text", "is_assertive", "e"]
theorem sc__law_told : FnScope n__law_told ["queue", "text", "is_assertive"] (defScope s__law_told) := ⟨rfl, rfl, rfl, by decide +kernel, rfl, by decide +kernel, by decide +kernel⟩
/-! ### law -/
abbrev s_law : Stmt := topS 19
abbrev n_law : List Str := ["script", "queue", "tracker", "rows", "last", "k", "row", "turns", "draws", "kind", "names", "steps", "due", "told"]
theorem sc_law : FnScope n_law ["script"] (defScope s_law) := ⟨rfl, rfl, rfl, by decide +kernel, rfl, by decide +kernel, by decide +kernel⟩
/-- what the top has written -/
structure Tx [Tb] (K : PySem.W.Frag) (mg : Str → Option Value) (base : Heap) (A : Adr) : Prop where
  F__announcement : Fun K "_announcement" "_announcement" s__announcement A.f__announcement A.d__announcement
  g__announcement : mg "_announcement" = some (.ref A.f__announcement)
  b__announcement : Binds K A.d__announcement ["entry"] []
  F_Announcements___init__ : Fun K "__init__" "Announcements.__init__" s_Announcements___init__ A.f_Announcements___init__ A.d_Announcements___init__
  mk_Announcements : Mk K A.c_Announcements A.f_Announcements___init__
  b_Announcements___init__ : Binds K A.d_Announcements___init__ ["self"] []
  F_Announcements_tell : Fun K "tell" "Announcements.tell" s_Announcements_tell A.f_Announcements_tell A.d_Announcements_tell
  me_Announcements_tell : Meth K A.c_Announcements "tell" A.f_Announcements_tell
  b_Announcements_tell : Binds K A.d_Announcements_tell ["self", "names", "steps"] []
  F_Announcements_message : Fun K "message" "Announcements.message" s_Announcements_message A.f_Announcements_message A.d_Announcements_message
  me_Announcements_message : Meth K A.c_Announcements "message" A.f_Announcements_message
  b_Announcements_message : Binds K A.d_Announcements_message ["self", "text", "assertive"] []
  F_Announcements_queue : Fun K "queue" "Announcements.queue" s_Announcements_queue A.f_Announcements_queue A.d_Announcements_queue
  me_Announcements_queue : Meth K A.c_Announcements "queue" A.f_Announcements_queue
  b_Announcements_queue : Binds K A.d_Announcements_queue ["self"] []
  F_Announcements_take : Fun K "take" "Announcements.take" s_Announcements_take A.f_Announcements_take A.d_Announcements_take
  me_Announcements_take : Meth K A.c_Announcements "take" A.f_Announcements_take
  b_Announcements_take : Binds K A.d_Announcements_take ["self"] []
  F_Announcements__put_path : Fun K "_put_path" "Announcements._put_path" s_Announcements__put_path A.f_Announcements__put_path A.d_Announcements__put_path
  me_Announcements__put_path : Meth K A.c_Announcements "_put_path" A.f_Announcements__put_path
  b_Announcements__put_path : Binds K A.d_Announcements__put_path ["self", "old", "new", "steps"] []
  F_Tracker___init__ : Fun K "__init__" "Tracker.__init__" s_Tracker___init__ A.f_Tracker___init__ A.d_Tracker___init__
  mk_Tracker : Mk K A.c_Tracker A.f_Tracker___init__
  b_Tracker___init__ : Binds K A.d_Tracker___init__ ["self"] []
  F_Tracker_apply : Fun K "apply" "Tracker.apply" s_Tracker_apply A.f_Tracker_apply A.d_Tracker_apply
  me_Tracker_apply : Meth K A.c_Tracker "apply" A.f_Tracker_apply
  b_Tracker_apply : Binds K A.d_Tracker_apply ["self", "announcement"] []
  F_Tracker_path : Fun K "path" "Tracker.path" s_Tracker_path A.f_Tracker_path A.d_Tracker_path
  me_Tracker_path : Meth K A.c_Tracker "path" A.f_Tracker_path
  b_Tracker_path : Binds K A.d_Tracker_path ["self"] []
  F__law_cell : Fun K "_law_cell" "_law_cell" s__law_cell A.f__law_cell A.d__law_cell
  g__law_cell : mg "_law_cell" = some (.ref A.f__law_cell)
  b__law_cell : Binds K A.d__law_cell ["script", "k"] []
  F__law_draws : Fun K "_law_draws" "_law_draws" s__law_draws A.f__law_draws A.d__law_draws
  g__law_draws : mg "_law_draws" = some (.ref A.f__law_draws)
  b__law_draws : Binds K A.d__law_draws ["cell", "count"] []
  F__law_same : Fun K "_law_same" "_law_same" s__law_same A.f__law_same A.d__law_same
  g__law_same : mg "_law_same" = some (.ref A.f__law_same)
  b__law_same : Binds K A.d__law_same ["actual", "expected"] []
  F__law_path : Fun K "_law_path" "_law_path" s__law_path A.f__law_path A.d__law_path
  g__law_path : mg "_law_path" = some (.ref A.f__law_path)
  b__law_path : Binds K A.d__law_path ["draws"] []
  F__law_steps : Fun K "_law_steps" "_law_steps" s__law_steps A.f__law_steps A.d__law_steps
  g__law_steps : mg "_law_steps" = some (.ref A.f__law_steps)
  b__law_steps : Binds K A.d__law_steps ["names", "draw"] []
  F__law_shown : Fun K "_law_shown" "_law_shown" s__law_shown A.f__law_shown A.d__law_shown
  g__law_shown : mg "_law_shown" = some (.ref A.f__law_shown)
  b__law_shown : Binds K A.d__law_shown ["row"] []
  F__law_joined : Fun K "_law_joined" "_law_joined" s__law_joined A.f__law_joined A.d__law_joined
  g__law_joined : mg "_law_joined" = some (.ref A.f__law_joined)
  b__law_joined : Binds K A.d__law_joined ["rows"] []
  F__law_message : Fun K "_law_message" "_law_message" s__law_message A.f__law_message A.d__law_message
  g__law_message : mg "_law_message" = some (.ref A.f__law_message)
  b__law_message : Binds K A.d__law_message ["rows", "text", "is_assertive"] []
  F__law_told : Fun K "_law_told" "_law_told" s__law_told A.f__law_told A.d__law_told
  g__law_told : mg "_law_told" = some (.ref A.f__law_told)
  b__law_told : Binds K A.d__law_told ["queue", "text", "is_assertive"] []
  F_law : Fun K "law" "law" s_law A.f_law A.d_law
  g_law : mg "law" = some (.ref A.f_law)
  b_law : Binds K A.d_law ["script"] []
  cl_Announcements : Cls K A.c_Announcements
  gC_Announcements : mg "Announcements" = some (.ref A.c_Announcements)
  na_Announcements__last : NoAttr K A.c_Announcements "_last"
  na_Announcements__entries : NoAttr K A.c_Announcements "_entries"
  cl_Tracker : Cls K A.c_Tracker
  gC_Tracker : mg "Tracker" = some (.ref A.c_Tracker)
  na_Tracker__names : NoAttr K A.c_Tracker "_names"
  c__MOST_MESSAGES : ∃ u, mg "_MOST_MESSAGES" = some u ∧ RelV (.int 40) u
  c__MOST_NAMES : ∃ u, mg "_MOST_NAMES" = some u ∧ RelV (.int 20) u
  n_bool : mg "bool" = none
  n_int : mg "int" = none
  n_isinstance : mg "isinstance" = none
  n_len : mg "len" = none
  n_list : mg "list" = none
  n_min : mg "min" = none
  n_range : mg "range" = none
  n_str : mg "str" = none
  n_tuple : mg "tuple" = none
  x_Refused : ErrTxt K mg "Refused" "FocusError" "what" A.x_Refused A.x_FocusError A.i_Refused
  FI_Refused : Fun K "__init__" "Refused.__init__" s_init_Refused A.i_Refused A.di_Refused
  bi_Refused : Binds K A.di_Refused ["self", "what"] []
section
variable {P : Program} {w : World} {K : PySem.W.Frag} {mg : Str → Option Value} {base : Heap} {A : Adr} [Tb]
theorem ok_init_Refused (T : Tx K mg base A) : FnOk P w K mg base CX0 1 A.i_Refused A.di_Refused ["self", "what"] (spErr A.x_Refused "what" fun v => ∃ s, v = V.str s) := by
  refine T.FI_Refused.ok sc_init_Refused (fun vs H Q E h => ?_) (fun cdv A0 outer s H vs Q E hr h => ⟨_, pss_cons (ps_expr (pe_baseInit rfl T.x_Refused.gB T.x_Refused.rd T.x_Refused.vB (pa_cons (pv 0) (pa_cons (pv 1) pa_nil)))) (pss_one (ps_ost (pv 0) (pv 1))), ?_⟩)
  · obtain ⟨a, v, rfl, _⟩ := h
    rfl
  · obtain ⟨a, v, rfl, ⟨z, rfl⟩, ha, k⟩ := h
    exact ⟨_, rfl, _, rfl, a, A.x_Refused, [.str z], rfl, by show 1 ≤ 1000; decide, T.x_Refused.ox, ha, _, rfl, _, rfl, a, A.x_Refused, rfl, T.x_Refused.ox, T.x_Refused.nF, .inl ⟨ha, fun d hd hne => k d hd hne⟩⟩
/-! #### _announcement -/
def m__announcement_1 (d_37 : Int) : (Int) := d_37
def m__announcement_2 (d_31 : Int) : (Int) := (m__announcement_1 (d_31 + (1 : Int)))
def m__announcement_3 (d_13 : PyData) (d_16 : PyData) (s : Int) : (Int) := m__announcement_2 (s)
def m__announcement_3c (d_13 : PyData) (d_16 : PyData) (s : Int) : Bool := ((decide ((s) < (minI (((Tpl.mk (strsD (tupD d_13)))).l.length : Int) (((Tpl.mk (strsD (tupD d_16)))).l.length : Int)))) && (eqB (getI ((Tpl.mk (strsD (tupD d_13)))).l (s)) (getI ((Tpl.mk (strsD (tupD d_16)))).l (s))))
def m__announcement_4 (d_13 : PyData) (d_19 : PyData) (s : Int) : PyData := (Dat.d (Tpl.mk ((PyData.str ("path" : Str)) :: ((PyData.int ((((Tpl.mk (strsD (tupD d_13)))).l.length : Int) - s)) :: ((Dat.d (Tpl.mk (cutL ((Tpl.mk (tupD d_19))).l (some s) none))) :: ([] : List PyData))))))
def m__announcement_5 (d_13 : PyData) (d_16 : PyData) (d_19 : PyData) (d_22 : Int) : PyData := (m__announcement_4 d_13 d_19 (whl (m__announcement_3c d_13 d_16) (m__announcement_3 d_13 d_16) ((fun (s : Int) => ((strsD (tupD d_13)).length - s.toNat)) d_22) d_22))
def m__announcement_6 (d_10 : PyData) (d_13 : PyData) (d_16 : PyData) (d_19 : PyData) : PyData := (m__announcement_5 d_13 d_16 d_19 (0 : Int))
def m__announcement_7 (d_entry : PyData) : PyData := (m__announcement_6 (getI ((Tpl.mk (tupD d_entry))).l 0) (getI ((Tpl.mk (tupD d_entry))).l 1) (getI ((Tpl.mk (tupD d_entry))).l 2) (getI ((Tpl.mk (tupD d_entry))).l 3))
def m__announcement (d_entry : PyData) : PyData := (cond (PyData.eqv (Dat.d (getI ((Tpl.mk (tupD d_entry))).l (0 : Int))) (Dat.d (PyData.str ("message" : Str)))) d_entry (m__announcement_7 d_entry))
abbrev p__announcement (K : PySem.W.Frag) : Sp := anyF fun _ => sp1 K (fun d => IsP d) m__announcement

theorem ann_val (e : En) (h : e.ok) : m__announcement e.p = e.a := by
  cases e with
  | msg t b =>
    show cond (PyData.eqv (.str ("message" : Str)) (.str ("message" : Str))) (msgE t b) _ = _
    rw [tag_eq]
    rfl
  | path o n st =>
    show cond (PyData.eqv (.str ("path" : Str)) (.str ("message" : Str))) _ (m__announcement_5 (tS o) (tS n) (.tuple st) 0) = annE o n st
    rw [tag_eq]
    show m__announcement_4 (tS o) (.tuple st) (whl (m__announcement_3c (tS o) (tS n)) (m__announcement_3 (tS o) (tS n)) ((strsD (tupD (tS o))).length - (0 : Int).toNat) 0) = _
    have eo : strsD (tupD (tS o)) = o := strs_map o
    have en : strsD (tupD (tS n)) = n := strs_map n
    rw [eo]
    have hw := whl_same (c := m__announcement_3c (tS o) (tS n)) (f := m__announcement_3 (tS o) (tS n)) (o := o) (n := n) (fun _ => rfl) (fun k => ?_) (o.length - (0 : Int).toNat) 0 rfl (Nat.zero_le _) (Nat.zero_le _) (Nat.le_refl _)
    · rw [show ((0 : Nat) : Int) = 0 from rfl] at hw
      rw [hw]
      show PyData.tuple [.str ("path" : Str), .int (((strsD (tupD (tS o))).length : Int) - (sameN o n : Int)), .tuple ((cutL st (some (sameN o n : Int)) none).map fun x => x)] = _
      rw [eo, cut_drop (by rw [← paired_len2 h.st]; exact (sameN_le o n).2), List.map_id']
      rfl
    · show (decide ((k : Int) < minI ((strsD (tupD (tS o))).length : Int) ((strsD (tupD (tS n))).length : Int)) && eqB (getI (strsD (tupD (tS o))) (k : Int)) (getI (strsD (tupD (tS n))) (k : Int))) = _
      rw [eo, en, minI_nat]
      by_cases q : k < o.length ∧ k < n.length
      · rw [get_eq q.1 q.2, decide_eq_true (show ((k : Int) < ((min o.length n.length : Nat) : Int)) by omega), Bool.true_and]
        exact decide_eq_decide.mpr ⟨fun h => ⟨q.1, q.2, h⟩, fun h => h.2.2⟩
      · rw [decide_eq_false (show ¬ ((k : Int) < ((min o.length n.length : Nat) : Int)) by omega), Bool.false_and]
        exact (decide_eq_false fun h => q ⟨h.1, h.2.1⟩).symm

theorem ok__announcement (T : Tx K mg base A) : FnOk P w K mg base CX0 1 A.f__announcement A.d__announcement ["entry"] (p__announcement K) := by
  refine T.F__announcement.ok sc__announcement (fun vs He Q E h => ?_) (fun cdv A0 outer s He vs Q E hr h => ⟨_, (pss_cons (ps_if (pt_cmpR (op_eqK (K := K) hr.units) (pe_ix (ix_tupK (K := K)) (pv 0) pe_int fun _ _ => rfl) pe_str (nomark _)) (pss_one (ps_ret (pv 0))) pss_nil) (pss_cons (ps_asg (pv 0) (pg_tup rfl (pgs_cons (pg_name (i := 1) sc__announcement.nd rfl (Or.inl rfl)) (pgs_cons (pg_name (i := 2) sc__announcement.nd rfl (Or.inl rfl)) (pgs_cons (pg_name (i := 3) sc__announcement.nd rfl (Or.inl rfl)) (pgs_cons (pg_name (i := 4) sc__announcement.nd rfl (Or.inl rfl)) pgs_nil)))))) (pss_cons (ps_set (i := 5) sc__announcement.nd rfl (Or.inl rfl) pe_int) (pss_cons (ps_while PassesOwn.never (PW.pt (pw_and (pt_cmpR op_lt (pv 5) (pe_callB (call_min2 rfl) rfl T.n_min (by decide +kernel) (pa_cons (pe_callB (call_lenK (K := K)) rfl T.n_len boot_len (pa_cons (pv 2) pa_nil)) (pa_cons (pe_callB (call_lenK (K := K)) rfl T.n_len boot_len (pa_cons (pv 3) pa_nil)) pa_nil))) (nomark _)) (pw_and1 (pt_cmpR op_eq (pe_ix (ix_tupK (K := K)) (pv 2) (pv 5) fun _ _ => rfl) (pe_ix (ix_tupK (K := K)) (pv 3) (pv 5) fun _ _ => rfl) (nomark _))))) (pss_one (ps_aug (i := 5) sc__announcement.nd rfl (Or.inl rfl) pe_int ip_add))) (pss_one (ps_ret (pe_tup (pa_cons pe_str (pa_cons (pe_op op_sub (pe_callB (call_lenK (K := K)) rfl T.n_len boot_len (pa_cons (pv 2) pa_nil)) (pv 5)) (pa_cons (pe_slice (sl_tupK (K := K)) (pv 4) (po_some (pv 5)) po_none) pa_nil)))))))))), ?_⟩)
  · obtain ⟨fz_, d_entry, w_entry, G, rfl, eG, h_entry, hpre, hQ⟩ := h
    rfl
  · obtain ⟨fz_, d_entry, w_entry, G, rfl, eG, h_entry, hpre, hQ⟩ := h
    have gr : Grow G He G He := Grow.refl eG
    obtain ⟨Ge, eGe⟩ : ∃ z, z = G := ⟨G, rfl⟩
    have gr : Grow Ge He G He := by rw [eGe]; exact gr
    rw [← eGe] at hQ
    clear eGe
    have hM : m__announcement d_entry = (cond (PyData.eqv (Dat.d (getI ((Tpl.mk (tupD d_entry))).l (0 : Int))) (Dat.d (PyData.str ("message" : Str)))) d_entry (m__announcement_7 d_entry)) := rfl
    refine q_if gr.s (et_test (ev_eqD (ev_ixT (ev_asTup (ev_var rfl h_entry) (by first | (first | exact p_tup hpre | exact at_in (Int.le_refl 0) (p_pos hpre) | exact p_tag hpre _ (by decide +kernel) | assumption | exact at_in (by assumption) (lt_minl (by assumption)) | exact at_in (by assumption) (lt_minr (by assumption)) | (rw [pe]; rfl) | omega) | (first | assumption | exact or_l (by assumption) | exact or_l (or_r (by assumption)) | exact num_of (by assumption) (by assumption) | exact not_fA (by assumption) | (first | omega | decide)))) ev_int (atI_get (by first | (first | exact p_tup hpre | exact at_in (Int.le_refl 0) (p_pos hpre) | exact p_tag hpre _ (by decide +kernel) | assumption | exact at_in (by assumption) (lt_minl (by assumption)) | exact at_in (by assumption) (lt_minr (by assumption)) | (rw [pe]; rfl) | omega) | (first | decide | (refine at_in ?_ ?_ <;> omega) | (refine at_neg ?_ ?_ <;> omega))))) (ev_toD ev_str) (by first | (first | exact p_tup hpre | exact at_in (Int.le_refl 0) (p_pos hpre) | exact p_tag hpre _ (by decide +kernel) | assumption | exact at_in (by assumption) (lt_minl (by assumption)) | exact at_in (by assumption) (lt_minr (by assumption)) | (rw [pe]; rfl) | omega) | (first | omega | decide | (show _ ≤ sizeLine; decide) | (show _ < sizeLine; decide))))) ?_ ?_
    · intro hb2 G3 H4 g1
      have h_entry := up g1.g h_entry
      have gr := gr.trans g1
      replace hM := condT hM hb2
      refine s_ret (K := K) gr.s (ev_var rfl h_entry) fun u Gr Hr gq hu => ?_
      exact hQ u Gr Hr (gr.trans gq) (by rw [hM]; exact hu)
    · intro hb2 G5 H6 g1
      have h_entry := up g1.g h_entry
      have gr := gr.trans g1
      replace hM := condF hM hb2
      unfold m__announcement_7 at hM
      obtain ⟨po, pn, pst, pe, pk⟩ := p_path hpre (by assumption)
      refine s_next ?_
      refine nx_mk ?_
      refine q_asg4D (K := K) (x := (Tpl.mk (tupD d_entry))) (by first | (first | exact p_tup hpre | exact at_in (Int.le_refl 0) (p_pos hpre) | exact p_tag hpre _ (by decide +kernel) | assumption | exact at_in (by assumption) (lt_minl (by assumption)) | exact at_in (by assumption) (lt_minr (by assumption)) | (rw [pe]; rfl) | omega) | (first | assumption | (first | omega | decide))) gr.s (ev_asTup (ev_var rfl h_entry) (by first | (first | exact p_tup hpre | exact at_in (Int.le_refl 0) (p_pos hpre) | exact p_tag hpre _ (by decide +kernel) | assumption | exact at_in (by assumption) (lt_minl (by assumption)) | exact at_in (by assumption) (lt_minr (by assumption)) | (rw [pe]; rfl) | omega) | (first | assumption | exact or_l (by assumption) | exact or_l (or_r (by assumption)) | exact num_of (by assumption) (by assumption) | exact not_fA (by assumption) | (first | omega | decide)))) fun w_11 w_14 w_17 w_20 G8 H9 g7 h_12 h_15 h_18 h_21 => ?_
      have h_entry := up g7.g h_entry
      have gr := gr.trans g7
      generalize ed_10 : (getI ((Tpl.mk (tupD d_entry))).l 0) = d_10 at h_12 hM
      generalize ed_13 : (getI ((Tpl.mk (tupD d_entry))).l 1) = d_13 at h_15 hM
      generalize ed_16 : (getI ((Tpl.mk (tupD d_entry))).l 2) = d_16 at h_18 hM
      generalize ed_19 : (getI ((Tpl.mk (tupD d_entry))).l 3) = d_19 at h_21 hM
      unfold m__announcement_6 at hM
      have fo : d_13 = tS po := by rw [← ed_13, pe]; rfl
      have fn : d_16 = tS pn := by rw [← ed_16, pe]; rfl
      have fs : d_19 = .tuple pst := by rw [← ed_19, pe]; rfl
      have fo1 : isTplS d_13 = true := by rw [fo]; exact tS_is po
      have fn1 : isTplS d_16 = true := by rw [fn]; exact tS_is pn
      have fs1 : isTupD d_19 = true := by rw [fs]; rfl
      refine q_asg (K := K) gr.s ev_int fun w_23 G26 H27 g25 (h_24 : rep K (0 : Int) w_23 G26) => ?_
      have h_entry := up g25.g h_entry
      have h_12 := up g25.g h_12
      have h_15 := up g25.g h_15
      have h_18 := up g25.g h_18
      have h_21 := up g25.g h_21
      have gr := gr.trans g25
      obtain ⟨d_22, ed_22⟩ : ∃ z, (0 : Int) = z := ⟨_, rfl⟩
      rw [ed_22] at h_24 hM
      unfold m__announcement_5 at hM
      refine q_whl (m__announcement_3c d_13 d_16) (m__announcement_3 d_13 d_16) (fun (s : Int) => 0 ≤ s) (fun (s : Int) => ((strsD (tupD d_13)).length - s.toNat)) d_22 (by rw [← ed_22]; exact Int.le_refl 0) (by exact whl_up (fun _ => rfl) fun s h => lt_minl (Bool.and_eq_true_iff.mp h).1) gr.s fun G28 H29 g30 => ?_
      have h_entry := up g30.g h_entry
      have h_12 := up g30.g h_12
      have h_15 := up g30.g h_15
      have h_18 := up g30.g h_18
      have h_21 := up g30.g h_21
      have h_24 := up g30.g h_24
      have gr := gr.trans g30
      refine ⟨fun s_ σ_ H_ => ∃ (G43 : Hp) (w_32 : V), Grow Ge He G43 H_ ∧ Same G28 G43 ∧ σ_ = [some w_entry, some w_11, some w_14, some w_17, some w_20, some w_32] ∧ rep K (s_ : Int) w_32 G43, ⟨_, w_23, gr, Same.refl _, rfl, h_24⟩, ?_⟩
      rintro st_0 σ_0 H_0 is_0 ⟨G43, w_32, gr, sg0, rfl, h_33⟩
      have h_entry := up sg0 h_entry
      have h_12 := up sg0 h_12
      have h_15 := up sg0 h_15
      have h_18 := up sg0 h_18
      have h_21 := up sg0 h_21
      have hMo0 := hM
      obtain ⟨d_31, est_0⟩ : ∃ z, z = st_0 := ⟨_, rfl⟩
      subst est_0
      refine ⟨_, gr.s, (et_and (et_test (ev_lt (ev_var rfl h_33) (ev_min2 (ev_lenT (ev_asTplS (ev_var rfl h_15) (by first | (first | exact p_tup hpre | exact at_in (Int.le_refl 0) (p_pos hpre) | exact p_tag hpre _ (by decide +kernel) | assumption | exact at_in (by assumption) (lt_minl (by assumption)) | exact at_in (by assumption) (lt_minr (by assumption)) | (rw [pe]; rfl) | omega) | (first | assumption | exact or_l (by assumption) | exact or_l (or_r (by assumption)) | exact num_of (by assumption) (by assumption) | exact not_fA (by assumption) | (first | omega | decide))))) (ev_lenT (ev_asTplS (ev_var rfl h_18) (by first | (first | exact p_tup hpre | exact at_in (Int.le_refl 0) (p_pos hpre) | exact p_tag hpre _ (by decide +kernel) | assumption | exact at_in (by assumption) (lt_minl (by assumption)) | exact at_in (by assumption) (lt_minr (by assumption)) | (rw [pe]; rfl) | omega) | (first | assumption | exact or_l (by assumption) | exact or_l (or_r (by assumption)) | exact num_of (by assumption) (by assumption) | exact not_fA (by assumption) | (first | omega | decide)))))))) (fun hb34 => (et_test (ev_eq (ev_ixT (ev_asTplS (ev_var rfl h_15) (by first | (first | exact p_tup hpre | exact at_in (Int.le_refl 0) (p_pos hpre) | exact p_tag hpre _ (by decide +kernel) | assumption | exact at_in (by assumption) (lt_minl (by assumption)) | exact at_in (by assumption) (lt_minr (by assumption)) | (rw [pe]; rfl) | omega) | (first | assumption | exact or_l (by assumption) | exact or_l (or_r (by assumption)) | exact num_of (by assumption) (by assumption) | exact not_fA (by assumption) | (first | omega | decide)))) (ev_var rfl h_33) (atI_get (by first | (first | exact p_tup hpre | exact at_in (Int.le_refl 0) (p_pos hpre) | exact p_tag hpre _ (by decide +kernel) | assumption | exact at_in (by assumption) (lt_minl (by assumption)) | exact at_in (by assumption) (lt_minr (by assumption)) | (rw [pe]; rfl) | omega) | (first | decide | (refine at_in ?_ ?_ <;> omega) | (refine at_neg ?_ ?_ <;> omega))))) (ev_ixT (ev_asTplS (ev_var rfl h_18) (by first | (first | exact p_tup hpre | exact at_in (Int.le_refl 0) (p_pos hpre) | exact p_tag hpre _ (by decide +kernel) | assumption | exact at_in (by assumption) (lt_minl (by assumption)) | exact at_in (by assumption) (lt_minr (by assumption)) | (rw [pe]; rfl) | omega) | (first | assumption | exact or_l (by assumption) | exact or_l (or_r (by assumption)) | exact num_of (by assumption) (by assumption) | exact not_fA (by assumption) | (first | omega | decide)))) (ev_var rfl h_33) (atI_get (by first | (first | exact p_tup hpre | exact at_in (Int.le_refl 0) (p_pos hpre) | exact p_tag hpre _ (by decide +kernel) | assumption | exact at_in (by assumption) (lt_minl (by assumption)) | exact at_in (by assumption) (lt_minr (by assumption)) | (rw [pe]; rfl) | omega) | (first | decide | (refine at_in ?_ ?_ <;> omega) | (refine at_neg ?_ ?_ <;> omega))))))))), ?_, ?_⟩
      · intro hb36 G44 H45 g46
        have h_entry := up g46.g h_entry
        have h_12 := up g46.g h_12
        have h_15 := up g46.g h_15
        have h_18 := up g46.g h_18
        have h_21 := up g46.g h_21
        have h_33 := up g46.g h_33
        have sg0 := sg0.trans g46.g
        have gr := gr.trans g46
        unfold m__announcement_3c at hb36
        have hM : (m__announcement_3 d_13 d_16) d_31 = (m__announcement_3 d_13 d_16) d_31 := rfl
        conv at hM => rhs; unfold m__announcement_3; unfold m__announcement_2
        refine s_aug (K := K) gr.s rfl h_33 ev_int fun w_38 G41 H42 g40 (h_39 : rep K (d_31 + (1 : Int)) w_38 G41) => ?_
        have h_entry := up g40.g h_entry
        have h_12 := up g40.g h_12
        have h_15 := up g40.g h_15
        have h_18 := up g40.g h_18
        have h_21 := up g40.g h_21
        have sg0 := sg0.trans g40.g
        have gr := gr.trans g40
        generalize ed_37 : (d_31 + (1 : Int)) = d_37 at h_39 hM
        unfold m__announcement_1 at hM
        exact ⟨_, w_38, gr, sg0, rfl, (by rw [hM]; exact h_39)⟩
      · intro hb47 G48 H49 g50 es51
        have h_entry := up g50.g h_entry
        have h_12 := up g50.g h_12
        have h_15 := up g50.g h_15
        have h_18 := up g50.g h_18
        have h_21 := up g50.g h_21
        have h_33 := up g50.g h_33
        have gr := gr.trans g50
        rw [← es51] at hM
        unfold m__announcement_4 at hM
        refine s_ret (K := K) gr.s (ev_toD (ev_tpl (ea_cons (ev_toD ev_str) (ea_cons (ev_toD (ev_sub (ev_lenT (ev_asTplS (ev_var rfl h_15) (by first | (first | exact p_tup hpre | exact at_in (Int.le_refl 0) (p_pos hpre) | exact p_tag hpre _ (by decide +kernel) | assumption | exact at_in (by assumption) (lt_minl (by assumption)) | exact at_in (by assumption) (lt_minr (by assumption)) | (rw [pe]; rfl) | omega) | (first | assumption | exact or_l (by assumption) | exact or_l (or_r (by assumption)) | exact num_of (by assumption) (by assumption) | exact not_fA (by assumption) | (first | omega | decide))))) (ev_var rfl h_33))) (ea_cons (ev_toD (ev_slT (ev_asTup (ev_var rfl h_21) (by first | (first | exact p_tup hpre | exact at_in (Int.le_refl 0) (p_pos hpre) | exact p_tag hpre _ (by decide +kernel) | assumption | exact at_in (by assumption) (lt_minl (by assumption)) | exact at_in (by assumption) (lt_minr (by assumption)) | (rw [pe]; rfl) | omega) | (first | assumption | exact or_l (by assumption) | exact or_l (or_r (by assumption)) | exact num_of (by assumption) (by assumption) | exact not_fA (by assumption) | (first | omega | decide)))) (eo_some (ev_var rfl h_33)) eo_none)) ea_nil))) (by first | (show _ ≤ sizeLine; decide) | (simp only [List.length_cons, List.length_nil, sizeLine_eq]; omega)))) fun u Gr Hr gq hu => ?_
        exact hQ u Gr Hr (gr.trans gq) (by rw [hM]; exact hu)
/-! #### Announcements___init__ -/
abbrev p_Announcements___init__ [Tb] (K : PySem.W.Frag) (A : Adr) : Sp := anyF fun _ => spI0 (ObQ K A.c_Announcements) A.c_Announcements ⟨[], []⟩
theorem ok_Announcements___init__ (T : Tx K mg base A) : FnOk P w K mg base CX0 1 A.f_Announcements___init__ A.d_Announcements___init__ ["self"] (p_Announcements___init__ K A) := by
  refine T.F_Announcements___init__.ok sc_Announcements___init__ (fun vs He Q E h => ?_) (fun cdv A0 outer s He vs Q E hr h => ⟨_, pss_cons (ps_fld (pv 0) (pe_tup pa_nil) rfl) (pss_one (ps_fld (pv 0) (pe_lst pa_nil) rfl)), ?_⟩)
  · obtain ⟨fz, a, dx, G, rfl, _⟩ := h
    rfl
  · obtain ⟨fz, a, dx, G, rfl, eG, w, hQ⟩ := h
    have st := St.enter eG w
    refine q_fldE (dx := dx) eG (ev_tpl (K := K) (α := Str) ea_nil (by show 0 ≤ sizeLine; decide)) rfl T.cl_Announcements T.na_Announcements__last fun v G1 H1 g1 r1 => ?_
    have st := st.grow g1
    refine ⟨_, st.at1, (show 0 < 1000 by decide), ?_⟩
    have st := st.write (o' := .ins A.c_Announcements dx [("_last", v)]) nt_ins
    refine s_fldN (dx := dx) rfl T.cl_Announcements T.na_Announcements__entries fun p hp => ?_
    have st := st.new (o := .lst []) hp noTb_lst
    refine ⟨_, st.at_ (.tail _ (.head _)), (show 1 < 1000 by decide), ?_⟩
    have st := St.put (l := [(p, .lst [])]) (o' := .ins A.c_Announcements dx [("_last", v), ("_entries", .ref p)]) st nt_ins
    have st := st.perm (cs' := [(a, .ins A.c_Announcements dx [("_last", v), ("_entries", .ref p)]), (dx, .own a), (p, .lst [])]) (List.Perm.trans (List.Perm.swap _ _ _) (List.Perm.cons _ (List.Perm.swap _ _ _)))
    exact hQ _ _ _ st ⟨dx, p, v, [], rfl, r1, .nil⟩

/-! #### Announcements_tell -/
def m_put (s : O_Announcements) (o n : List Str) (st : List PyData) : Unit × O_Announcements := ((), ⟨s.last, putP s.es o n st⟩)
abbrev p_Announcements__put_path [Tb] (K : PySem.W.Frag) (A : Adr) : Sp := anyF fun _ => spC3 K (ObQ K A.c_Announcements) (fun s o n st => EsOk s.es ∧ TOk o.l ∧ TOk n.l) fun s (o n : Tpl Str) (st : Tpl PyData) => m_put s o.l n.l st.l
theorem ok_Announcements__put_path (T : Tx K mg base A) : FnOk P w K mg base CX0 2 A.f_Announcements__put_path A.d_Announcements__put_path ["self", "old", "new", "steps"] (p_Announcements__put_path K A) := by
  refine T.F_Announcements__put_path.ok sc_Announcements__put_path (fun vs He Q E h => ?_) (fun cdv A0 outer s He vs Q E hr h => ⟨_, pss_cons (ps_if (PW.pt (pw_and (pt_cmpR op_gt (pe_callB (call_lenK (K := K)) rfl T.n_len boot_len (pa_cons (pe_fld (pv 0) rfl) pa_nil)) pe_int (nomark _)) (pw_and1 (pt_cmpR (op_eqK (K := K) hr.units) (pe_ix (ix_tupK (K := K)) (pe_ix (ix_listK (K := K)) (pe_fld (pv 0) rfl) (pe_un un_neg pe_int) fun _ _ => rfl) pe_int fun _ _ => rfl) pe_str (nomark _)))))
      (pss_one (ps_set (i := 1) sc_Announcements__put_path.nd rfl (Or.inl rfl) (pe_ix (ix_tupK (K := K)) (pe_bm0K (K := K) PySem.F.plainAttrs_list PySem.F.slot_list_pop PySem.F.type_list_pop mt_pop (pe_fld (pv 0) rfl)) pe_int fun _ _ => rfl))) pss_nil)
    (pss_one (ps_if (pt_cmpR (op_neK (K := K) hr.units) (pv 1) (pv 2) (nomark _)) (pss_one (ps_expr (pe_bmK (K := K) PySem.F.plainAttrs_list PySem.F.slot_list_append PySem.F.type_list_append mt_append (pe_fld (pv 0) rfl) (pa_cons (pe_tup (pa_cons pe_str (pa_cons (pv 1) (pa_cons (pv 2) (pa_cons (pv 3) pa_nil))))) pa_nil)))) pss_nil)), ?_⟩)
  · obtain ⟨fz, s, a, cs, o, n, st, w1, w2, w3, G, rfl, _⟩ := h
    rfl
  · obtain ⟨fz, s, a, cs, o, n, st, w1, w2, w3, G, rfl, eG, w, ob, h1, h2, h3, ⟨hok, ho, hn⟩, hQ⟩ := h
    have t := St.enter eG w
    refine seqP (fun σ H' => ∃ G' w1' o' es' b zs dx wl, St (adr cs) G He [(a, .ins A.c_Announcements dx [("_last", wl), ("_entries", .ref b)]), (dx, .own a), (b, .lst zs)] G' H' ∧ rep K (Tpl.mk s.last) wl G' ∧ Reps K (es'.map En.p) zs G' ∧ rep K (Tpl.mk o') w1' G' ∧ rep K n w2 G' ∧ rep K st w3 G' ∧ TOk o' ∧ es'.length ≤ s.es.length ∧
        (putP s.es o.l n.l st.l = if o' = n.l then es' else es' ++ [.path o' n.l st.l]) ∧ σ = [some (.ref a), some w1', some w2, some w3]) ?_ ?_
    · rintro σ1 H1 ⟨G1, w1', o', es', b, zs, dx, wl, t, hl, hz, h1, h2, h3, ho', hlen, hp, rfl⟩
      have hend : ∀ {es2 : List En} {G2 H2 : Hp} {zs2 : List V}, es2 = putP s.es o.l n.l st.l → St (adr cs) G He [(a, .ins A.c_Announcements dx [("_last", wl), ("_entries", .ref b)]), (dx, .own a), (b, .lst zs2)] G2 H2 → rep K (Tpl.mk s.last) wl G2 → Reps K (es2.map En.p) zs2 G2 → Q .non H2 := fun e t hl hz => hQ _ _ _ _ t ⟨dx, b, wl, _, rfl, hl, by show Reps K ((putP s.es o.l n.l st.l).map En.p) _ _; rw [← e]; exact hz⟩ rfl
      refine s_if t.s (et_test (ev_neT (K := K) (ev_var rfl h1) (ev_var rfl h2) ⟨ho', hn⟩)) ?_ ?_
      · intro hb G2 H2 g2
        have t := t.grow g2
        have ne : o' ≠ n.l := fun z => by rw [z, eqB_self] at hb; cases hb
        refine s_dropX ?_
        refine ⟨_, rfl, a, A.c_Announcements, dx, _, .ref b, rfl, t.at_ (.head _), T.cl_Announcements, T.na_Announcements__entries, rfl, .inl ⟨rfl, zs, SqL.of (t.at_ (.tail _ (.tail _ (.head _))))⟩, ?_⟩
        refine (ev_tpl (K := K) (α := PyData) (ea_cons (ev_toD ev_str) (ea_cons (ev_toD (ev_var rfl (up g2.g h1))) (ea_cons (ev_toD (ev_var rfl (up g2.g h2))) (ea_cons (ev_toD (ev_var rfl (up g2.g h3))) ea_nil)))) (by show 4 ≤ sizeLine; decide)) H2 t.s _ fun v G3 H3 g3 r3 => ?_
        have t := t.grow g3
        have hz3 := (hz.up g2.g).up g3.g
        refine ⟨b, zs, v, rfl, rfl, t.at_ (.tail _ (.tail _ (.head _))), ?_, ?_⟩
        · rw [← paired_len hz, List.length_map]
          exact Nat.lt_of_le_of_lt (Nat.le_trans hlen hok.2) (by decide)
        · have t := St.put (l := [(a, .ins A.c_Announcements dx [("_last", wl), ("_entries", .ref b)]), (dx, .own a)]) (o' := .lst (zs ++ [v])) t noTb_lst
          refine hend (es2 := es' ++ [.path o' n.l st.l]) (by rw [hp, if_neg ne]) t (up g3.g (up g2.g hl)) ?_
          rw [List.map_append]
          refine paired_append hz3 (.cons ?_ .nil)
          obtain ⟨c, xs, e1, e2, e3⟩ := r3
          rw [e1]
          have em : (Dat.d st : PyData) = .tuple st.l := by show PyData.tuple (st.l.map fun d => d) = _; rw [List.map_id']
          exact .tup e2 (reps_dpAll (by rw [em] at e3; exact e3))
      · intro hb G2 H2 g2
        have eq : o' = n.l := by
          have : eqB o' n.l = true := by simpa using hb
          exact of_decide_eq_true this
        exact hend (es2 := es') (by rw [hp, if_pos eq]) (t.grow g2) (up g2.g hl) (hz.up g2.g)
    · intro rest
      obtain ⟨dx, b, wl, zs, ecs, hl, hz⟩ := id ob
      have hE : @EvR _ (fzj fz.X cs) (XL PyData) (@repXL (fzj fz.X cs) PyData _) K (tFld K (tVar 0) "_entries") [some (.ref a), some w1, some w2, some w3] G (XL.mk (s.es.map En.p)) := q_ent ob w (fun _ h => h) rfl T.cl_Announcements T.na_Announcements__entries
      refine s_ifF t (b := isPathL s.es) ?_ ?_ ?_
      · rw [← last_test]
        letI := fzj fz.X cs
        refine et_and (et_test (ev_gt (ev_lenX hE) ev_int)) fun hb => ?_
        obtain ⟨e, he⟩ := last_some hb
        have pe : IsP (getI (s.es.map En.p) (-1)) := by rw [getI_last he]; exact en_p (hok.1 e (List.mem_of_getLast? he))
        have hl := of_decide_eq_true hb
        exact et_test (ev_eqD (ev_ixT (ev_asTup (ev_ixX hE (ev_neg ev_int) (atI_get (at_neg (by decide) (by show -((s.es.map En.p).length : Int) ≤ -1; omega)))) (p_tup pe)) ev_int (atI_get (at_in (Int.le_refl 0) (p_pos pe)))) (ev_toD ev_str) (p_tag pe _ (by decide +kernel)))
      · intro hb G1 H1 t g1
        subst ecs
        obtain ⟨o2, n2, st2, hla⟩ : ∃ o2 n2 st2, s.es.getLast? = some (.path o2 n2 st2) := by
          unfold isPathL at hb
          cases q : s.es.getLast? with
          | none => rw [q] at hb; cases hb
          | some e =>
            rw [q] at hb
            cases e with
            | msg _ _ => cases hb
            | path o2 n2 st2 => exact ⟨o2, n2, st2, rfl⟩
        obtain ⟨z, hz1, hz2, hz3⟩ := reps_last hla (hz.up g1.g)
        obtain ⟨c, xs, ez, hc, hx⟩ := un_tupD (d := pathE o2 n2 st2) hz2 rfl
        subst ez
        refine s_asgX ?_
        refine ⟨_, rfl, a, A.c_Announcements, dx, _, .ref b, rfl, t.at_ (.head _), T.cl_Announcements, T.na_Announcements__entries, rfl, .inl ⟨rfl, zs, SqL.of (t.at_ (.tail _ (.tail _ (.head _))))⟩, ?_⟩
        refine ⟨b, zs, _, rfl, rfl, t.at_ (.tail _ (.tail _ (.head _))), hz1, ?_⟩
        have t := St.put (l := [(a, .ins A.c_Announcements dx [("_last", wl), ("_entries", .ref b)]), (dx, .own a)]) (o' := .lst zs.dropLast) t noTb_lst
        cases hx with
        | cons x0 hx => cases hx with
          | cons x1 hx =>
           cases hx with | cons x2 hx => cases hx with | cons x3 hx =>
            cases hx
            have r1 : rep K (Tpl.mk (strsD (tupD (tS o2)))) _ G1 := un_tplS x1 (tS_is o2)
            rw [show strsD (tupD (tS o2)) = o2 from strs_map o2] at r1
            have hk := hok.1 _ (List.mem_of_getLast? hla)
            refine ⟨c, _, 1, _, rfl, rfl, sqT_mono t.s.get hc, rfl, rest _ _ ⟨G1, _, o2, s.es.dropLast, b, zs.dropLast, dx, wl, t, up g1.g hl, hz3, r1, up g1.g h2, up g1.g h3, hk.ok1.1, by rw [List.length_dropLast]; omega, ?_, rfl⟩⟩
            unfold putP
            rw [hla]
      · intro hb G1 H1 t g1
        subst ecs
        refine rest _ _ ⟨G1, w1, o.l, s.es, b, zs, dx, wl, t, up g1.g hl, hz.up g1.g, up g1.g h1, up g1.g h2, up g1.g h3, ho, Nat.le_refl _, ?_, rfl⟩
        unfold putP
        unfold isPathL at hb
        cases q : s.es.getLast? with
        | none => rfl
        | some e =>
          rw [q] at hb
          cases e with
          | msg _ _ => rfl
          | path o2 n2 st2 => cases hb
def m_tell (s : O_Announcements) (n : List Str) (st : List PyData) : Unit × O_Announcements := ((), if n = s.last then s else ⟨n, putP s.es s.last n st⟩)
abbrev p_Announcements_tell [Tb] (K : PySem.W.Frag) (A : Adr) : Sp := anyF fun _ => spC2 K (ObQ K A.c_Announcements) (fun s n st => EsOk s.es ∧ TOk s.last ∧ TOk n) fun s (n : List Str) (st : Tpl PyData) => m_tell s n st.l
theorem ok_Announcements_tell (T : Tx K mg base A) : FnOk P w K mg base CX0 3 A.f_Announcements_tell A.d_Announcements_tell ["self", "names", "steps"] (p_Announcements_tell K A) := by
  refine T.F_Announcements_tell.ok sc_Announcements_tell (fun vs He Q E h => ?_) (fun cdv A0 outer s He vs Q E hr h => ⟨_, pss_cons (ps_set (i := 3) sc_Announcements_tell.nd rfl (Or.inl rfl) (pe_callTy (call_tupleK (K := K)) rfl T.n_tuple boot_tuple (pa_cons (pv 1) pa_nil)))
    (pss_cons (ps_if (pt_cmpR (op_eqK (K := K) hr.units) (pv 3) (pe_fld (pv 0) rfl) (nomark _)) (pss_one ps_retN) pss_nil)
    (pss_cons (ps_expr (pe_meth (pv 0) T.cl_Announcements T.me_Announcements__put_path (ok_Announcements__put_path T) (hr.mono (by decide)) T.b_Announcements__put_path .nil pass0 (pa_cons (pe_fld (pv 0) rfl) (pa_cons (pv 3) (pa_cons (pe_callTy (call_tupleK (K := K)) rfl T.n_tuple boot_tuple (pa_cons (pv 2) pa_nil)) pa_nil)))))
    (pss_one (ps_fld (pv 0) (pv 3) rfl)))), ?_⟩)
  · obtain ⟨fz, s, a, cs, n, st, w1, w2, G, rfl, _⟩ := h
    rfl
  · obtain ⟨fz, s, a, cs, n, st, w1, w2, G, rfl, eG, w, ob, h1, h2, ⟨hok, hla, hn⟩, hQ⟩ := h
    have t := St.enter eG w
    refine q_asgF (K := K) (x := Tpl.mk n) t (by letI := fzj fz.X cs; exact ev_tupleL (ev_var rfl h1)) fun v G1 H1 t g1 hv => ?_
    have ob := (obQ K A.c_Announcements).up g1.g ob
    have h2 := up g1.g h2
    have hF : @EvR _ (fzj fz.X cs) (Tpl Str) _ K (tFld K (tVar 0) "_last") [some (.ref a), some w1, some w2, some v] G1 (Tpl.mk s.last) := q_last ob t.own (fun _ h => h) rfl T.cl_Announcements T.na_Announcements__last
    refine q_ifF t (b := eqB n s.last) ?_ ?_ ?_
    · letI := fzj fz.X cs
      exact et_test (ev_eqT (K := K) (l := ⟨n⟩) (ev_var rfl hv) hF ⟨hn, hla⟩)
    · intro hb G2 H2 t g2
      have e : n = s.last := of_decide_eq_true hb
      exact hQ _ _ _ _ t (by show ObQ _ _ (if n = s.last then s else _) _ _ _; rw [if_pos e]; exact (obQ K A.c_Announcements).up g2.g ob) rfl
    · intro hb G2 H2 t g2
      have e : n ≠ s.last := fun z => by rw [z, eqB_self] at hb; cases hb
      have ob := (obQ K A.c_Announcements).up g2.g ob
      have h2 := up g2.g h2
      have hv := up g2.g hv
      obtain ⟨dx, b, wl, zs, ecs, hl, hz⟩ := id ob
      refine s_next ?_
      refine nx_mk ?_
      refine q_dropX ?_
      refine ⟨_, rfl, a, dx, _, rfl, t.at_ (by rw [ecs]; exact .head _), rfl, ?_⟩
      refine ⟨_, rfl, a, A.c_Announcements, dx, _, wl, rfl, t.at_ (by rw [ecs]; exact .head _), T.cl_Announcements, T.na_Announcements__last, rfl, _, rfl, ?_⟩
      obtain ⟨c, xs, e2, hc, hx⟩ := id h2
      refine ⟨_, rfl, c, xs, by rw [e2], .inr ⟨sqT_mono t.s.get hc, ?_⟩⟩
      refine ⟨fz, s, a, cs, ⟨s.last⟩, ⟨n⟩, st, wl, v, .ref c, G2, rfl, t.s, t.own, ob, hl, hv, by rw [← e2]; exact h2, ⟨hok, hla, hn⟩, fun u G3 H3 cs3 t3 ob3 _ => ?_⟩
      have t := St.call (cs := cs) (r := []) (by rw [List.append_nil]; exact t) t3
      rw [List.append_nil] at t
      obtain ⟨dx, b, wl, zs, ecs3, hl3, hz3⟩ := ob3
      subst ecs3
      refine s_fldE (dx := dx) t.s (ev_var (K := K) rfl (up t3.gr.g hv)) rfl T.cl_Announcements T.na_Announcements__last fun y G4 H4 g4 ry => ?_
      have t := t.grow g4
      refine ⟨_, t.at_ (.head _), (show 2 < 1000 by decide), ?_⟩
      have t := t.write (o' := .ins A.c_Announcements dx [("_last", y), ("_entries", .ref b)]) nt_ins
      refine hQ _ _ _ _ t ?_ rfl
      show ObQ _ _ (if n = s.last then s else ⟨n, putP s.es s.last n st.l⟩) _ _ _
      rw [if_neg e]
      exact ⟨dx, b, y, zs, rfl, ry, hz3.up g4.g⟩

/-! #### Announcements_message -/
def pathsE (es : List En) : List En := es.filter fun e => !e.isMsg
def msgV (es : List En) (t : Str) (b : Bool) : List En := cond b ((pathsE es).foldl putE ((es.filter En.isMsg).filter En.loud ++ [.msg t true])) (es ++ [.msg t false])
def m_message (s : O_Announcements) (t : Str) (b : Bool) : Except Str (Unit × O_Announcements) := cond (decide ((40 : Int) ≤ ((s.es.filter En.isMsg).length : Int))) (.error ("too many queued messages" : Str)) (.ok ((), ⟨s.last, msgV s.es t b⟩))
abbrev PreM (s : O_Announcements) (t : Str) : Prop := (∀ e ∈ s.es, e.ok) ∧ s.es.length ≤ 400 ∧ PyData.strOk t = true
abbrev p_Announcements_message [Tb] (K : PySem.W.Frag) (A : Adr) : Sp := anyF fun _ => spX2 K A.x_Refused "what" (ObQ K A.c_Announcements) (fun s t _ => PreM s t) m_message
theorem ok_last {es : List En} {e : En} (h : ∀ e ∈ es, e.ok) (q : es.getLast? = some e) : e.ok := h e (List.mem_of_getLast? q)
theorem putP_ok {es : List En} {o n : List Str} {st : List PyData} (h : ∀ x ∈ es, x.ok) (k : PathOk o n st) : (∀ x ∈ putP es o n st, x.ok) ∧ (putP es o n st).length ≤ es.length + 1 := by
  have app : ∀ {l : List En} {e : En}, (∀ e ∈ l, e.ok) → e.ok → ∀ x ∈ l ++ [e], x.ok := fun hl he x hx => by
    rcases List.mem_append.mp hx with hx | hx
    · exact hl x hx
    · rw [List.mem_singleton.mp hx]; exact he
  have hd : ∀ e ∈ es.dropLast, e.ok := fun e he => h e (List.dropLast_subset _ he)
  have els : (∀ e ∈ (if o = n then es else es ++ [.path o n st]), e.ok) ∧ (if o = n then es else es ++ [.path o n st]).length ≤ es.length + 1 := by
    split
    · exact ⟨h, Nat.le_succ _⟩
    · exact ⟨app h k, by rw [List.length_append]; exact Nat.le_refl _⟩
  unfold putP
  cases q : es.getLast? with
  | none => exact els
  | some e =>
    cases e with
    | msg _ _ => exact els
    | path o2 n2 st2 =>
      have k2 : PathOk o2 n2 st2 := ok_last h q
      show (∀ e ∈ (if o2 = n then es.dropLast else es.dropLast ++ [.path o2 n st]), e.ok) ∧ (if o2 = n then es.dropLast else es.dropLast ++ [.path o2 n st]).length ≤ es.length + 1
      split
      · exact ⟨hd, by rw [List.length_dropLast]; omega⟩
      · exact ⟨app hd ⟨k2.ok1, k.ok2, k.st⟩, by rw [List.length_append, List.length_dropLast, List.length_singleton]; omega⟩
theorem putE_ok {es : List En} {e : En} (h : ∀ x ∈ es, x.ok) (k : e.ok) : (∀ x ∈ putE es e, x.ok) ∧ (putE es e).length ≤ es.length + 1 := by
  cases e with
  | msg _ _ => exact ⟨h, Nat.le_succ _⟩
  | path o n st => exact putP_ok h k
theorem putsE_ok : ∀ {l es : List En}, (∀ e ∈ es, e.ok) → (∀ e ∈ l, e.ok) → (∀ x ∈ l.foldl putE es, x.ok) ∧ (l.foldl putE es).length ≤ es.length + l.length
  | [], es, h, _ => ⟨h, Nat.le_refl _⟩
  | e :: l, es, h, k => by
    obtain ⟨h1, h2⟩ := putE_ok h (k e (.head _))
    obtain ⟨h3, h4⟩ := putsE_ok (l := l) h1 (fun e he => k e (.tail _ he))
    exact ⟨h3, by rw [List.length_cons]; show (l.foldl putE (putE es e)).length ≤ _; omega⟩
theorem filt_map {es : List En} {f : PyData → Bool} {g : En → Bool} (h : ∀ e ∈ es, f e.p = g e) : (es.map En.p).filter f = (es.filter g).map En.p := by
  rw [List.filter_map]
  congr 1
  exact List.filter_congr fun e he => h e he
theorem tag_p (e : En) (x : Str) : PyData.eqv (Dat.d (getI (Tpl.mk (tupD e.p)).l (0 : Int))) (Dat.d (PyData.str x)) = decide ((match e with | .msg _ _ => ("message" : Str) | .path _ _ _ => "path") = x) := by
  cases e <;> exact tag_eq
theorem tag_msg (e : En) : PyData.eqv (Dat.d (getI (Tpl.mk (tupD e.p)).l (0 : Int))) (Dat.d (PyData.str ("message" : Str))) = e.isMsg := by
  rw [tag_p]; cases e <;> rfl
theorem tag_path (e : En) : PyData.eqv (Dat.d (getI (Tpl.mk (tupD e.p)).l (0 : Int))) (Dat.d (PyData.str ("path" : Str))) = !e.isMsg := by
  rw [tag_p]; cases e <;> rfl
theorem loud_p {e : En} (h : e.isMsg = true) : boolD (getI (Tpl.mk (tupD e.p)).l (2 : Int)) = e.loud ∧ isBoolD (getI (Tpl.mk (tupD e.p)).l (2 : Int)) = true ∧ (atI (Tpl.mk (tupD e.p)).l (2 : Int)).isSome = true := by
  cases e with
  | msg t b => exact ⟨rfl, rfl, rfl⟩
  | path _ _ _ => cases h
theorem ok_Announcements_message (T : Tx K mg base A) : FnOk P w K mg base (L2.CX P w) 4 A.f_Announcements_message A.d_Announcements_message ["self", "text", "assertive"] (p_Announcements_message K A) := by
  refine T.F_Announcements_message.okX sc_Announcements_message (fun vs He Q E h => ?_) (fun cdv A0 outer s He vs Q E hr h => ⟨_,
    pss_cons (ps_setLc (i := 3) (own := [("entry", 4)]) (g := gName 4) rfl sc_Announcements_message.nd rfl rfl (sw_true rfl rfl rfl (by decide +kernel)) (pi_listK (K := K) (pe_fld (pv 0) rfl)) (blkOk_by (N := n_Announcements_message) (sc := defScope s_Announcements_message) (by decide +kernel)) (fun _ _ _ _ _ => pg_name (i := 4) sc_Announcements_message.nd rfl (Or.inl rfl)) (fun _ _ _ _ _ => pts_one (pt_cmpR (op_eqK (K := K) hr.units) (pe_ix (ix_tupK (K := K)) (pv 4) pe_int fun _ _ => rfl) pe_str (nomark _))) (fun _ _ _ _ _ => pv 4))
    (pss_cons (ps_if (pt_cmpR op_ge (pe_callB (call_lenK (K := K)) rfl T.n_len boot_len (pa_cons (pv 3) pa_nil)) (C8.pe_gc rfl T.c__MOST_MESSAGES) (nomark _)) (pss_one (ps_raise rfl (takes_of rfl rfl rfl rfl) (pmk_oex T.x_Refused.ox T.x_Refused.iC T.x_Refused.tI (ok_init_Refused T) (hr.mono (by decide)) T.bi_Refused .nil pass0 rfl T.x_Refused.gC (pa_cons pe_str pa_nil)))) pss_nil)
    (pss_cons (ps_set (i := 4) sc_Announcements_message.nd rfl (Or.inl rfl) (pe_tup (pa_cons pe_str (pa_cons (pv 1) (pa_cons (pv 2) pa_nil)))))
    (pss_cons (ps_if (pt_not (pt_val (pv 2))) (pss_cons (ps_expr (pe_bmK (K := K) PySem.F.plainAttrs_list PySem.F.slot_list_append PySem.F.type_list_append mt_append (pe_fld (pv 0) rfl) (pa_cons (pv 4) pa_nil))) (pss_one ps_retN)) pss_nil)
    (pss_cons (ps_setLc (i := 5) (own := [("path", 10)]) (g := gName 10) rfl sc_Announcements_message.nd rfl rfl (sw_true rfl rfl rfl (by decide +kernel)) (pi_listK (K := K) (pe_fld (pv 0) rfl)) (blkOk_by (N := n_Announcements_message) (sc := defScope s_Announcements_message) (by decide +kernel)) (fun _ _ _ _ _ => pg_name (i := 10) sc_Announcements_message.nd rfl (Or.inl rfl)) (fun _ _ _ _ _ => pts_one (pt_cmpR (op_eqK (K := K) hr.units) (pe_ix (ix_tupK (K := K)) (pv 10) pe_int fun _ _ => rfl) pe_str (nomark _))) (fun _ _ _ _ _ => pv 10))
    (pss_cons (ps_fld (pv 0) (pe_op op_cat (pe_lc (own := [("other", 11)]) (g := gName 11) rfl sc_Announcements_message.nd (pi_listK (K := K) (pv 3)) (blkOk_by (N := n_Announcements_message) (sc := defScope s_Announcements_message) (by decide +kernel)) (fun _ _ _ _ _ => pg_name (i := 11) sc_Announcements_message.nd rfl (Or.inl rfl)) (fun _ _ _ _ _ => pts_one (pt_val (pe_ix (ix_tupK (K := K)) (pv 11) pe_int fun _ _ => rfl))) (fun _ _ _ _ _ => pv 11)) (pe_lst (pa_cons (pv 4) pa_nil))) rfl)
    (pss_one (ps_for (passes_of rfl) rfl (pi_listK (K := K) (pv 5)) (pg_tup rfl (pgs_cons (pg_name (i := 6) sc_Announcements_message.nd rfl (Or.inl rfl)) (pgs_cons (pg_name (i := 7) sc_Announcements_message.nd rfl (Or.inl rfl)) (pgs_cons (pg_name (i := 8) sc_Announcements_message.nd rfl (Or.inl rfl)) (pgs_cons (pg_name (i := 9) sc_Announcements_message.nd rfl (Or.inl rfl)) pgs_nil)))))
      (pss_one (ps_expr (pe_meth (pv 0) T.cl_Announcements T.me_Announcements__put_path (ok_Announcements__put_path T) (hr.mono (by decide)) T.b_Announcements__put_path .nil pass0 (pa_cons (pv 7) (pa_cons (pv 8) (pa_cons (pv 9) pa_nil))))))))))))), ?_⟩)
  · obtain ⟨fz, s, a, cs, t, b, w1, w2, G, rfl, _⟩ := h
    rfl
  · obtain ⟨fz, s, a, cs, t, b, w1, w2, G, rfl, eG, w, ob, h1, h2, ⟨hok, hle, ht⟩, hQ, hE⟩ := h
    obtain rfl : w1 = V.str t := h1
    obtain rfl : w2 = V.bl b := h2
    have st := St.enter eG w
    have hz0 : (s.es.map En.p).length < sizeLine := by rw [List.length_map]; exact Nat.lt_of_le_of_lt hle (by decide)
    have hF : ∀ {σ : L2.St} {G : Hp} {H : Hp}, ObQ K A.c_Announcements s a cs G → @Own fz cs G H → σ[0]? = some (some (.ref a)) → @EvR _ (fzj fz.X cs) (XL PyData) (@repXL (fzj fz.X cs) PyData _) K (tFld K (tVar 0) "_entries") σ G (XL.mk (s.es.map En.p)) := fun ob w hi => q_ent ob w (fun _ h => h) hi T.cl_Announcements T.na_Announcements__entries
    refine q_asgF (K := K) (x := (s.es.filter En.isMsg).map En.p) st ?_ fun v G1 H1 st g1 hv => ?_
    · rw [← filt_map (f := fun d => PyData.eqv (Dat.d (getI (Tpl.mk (tupD d)).l (0 : Int))) (Dat.d (PyData.str ("message" : Str)))) fun e _ => tag_msg e]
      letI := fzj fz.X cs
      refine (ev_lcX (fun d => PyData.eqv (Dat.d (getI (Tpl.mk (tupD d)).l (0 : Int))) (Dat.d (PyData.str ("message" : Str)))) (fun d => d) (hF ob w rfl) hz0 fun x v G' H' sg sh hm rx P k => ?_).to (List.map_id' _)
      obtain ⟨e, he, ex⟩ := List.mem_map.mp hm
      have pe : IsP x := by rw [← ex]; exact en_p (hok e he)
      exact k _ rfl (et_test (ev_eqD (ev_ixT (ev_asTup (ev_var rfl rx) (p_tup pe)) ev_int (atI_get (at_in (Int.le_refl 0) (p_pos pe)))) (ev_toD ev_str) (p_tag pe _ (by decide +kernel)))) fun _ => ev_var rfl rx
    have ob := (obQ K A.c_Announcements).up g1.g ob
    refine q_ifF st (b := decide ((40 : Int) ≤ (((s.es.filter En.isMsg).map En.p).length : Int))) ?_ ?_ ?_
    · letI := fzj fz.X cs
      exact et_test (ev_ge (K := K) (ev_lenL (ev_var rfl hv)) ev_int)
    · intro hb G2 H2 st g2
      refine err_made (K := K) st.s ev_str (v := V.str ("too many queued messages" : Str)) (fun _ _ z => z) ⟨_, rfl⟩ ?_
      refine fun d H1' sm ts n q => hE _ ?_ d H1' ((g1.h.trans g2.h).trans sm) ts ((g1.h.trans g2.h).free n) q
      unfold m_message
      rw [List.length_map] at hb
      rw [hb]
      rfl
    · intro hb G2 H2 st g2
      have hmM : m_message s t b = .ok ((), ⟨s.last, msgV s.es t b⟩) := by
        unfold m_message
        rw [List.length_map] at hb
        rw [hb]
        rfl
      have ob := (obQ K A.c_Announcements).up g2.g ob
      have hv := up g2.g hv
      refine s_next ?_
      refine nx_mk ?_
      refine q_asgF (K := K) (x := Tpl.mk [PyData.str ("message" : Str), PyData.str t, PyData.bool b]) st ?_ fun v2 G3 H3 st g3 hv2 => ?_
      · letI := fzj fz.X cs
        exact ev_tpl (ea_cons (ev_toD ev_str) (ea_cons (ev_toD (ev_var (x := t) rfl rfl)) (ea_cons (ev_toD (ev_var (x := b) rfl rfl)) ea_nil))) (by show 3 ≤ sizeLine; decide)
      have hv2 : rep K (En.msg t b).p v2 G3 := by
        obtain ⟨c, xs, e1, e2, e3⟩ := hv2
        rw [e1]
        exact .tup e2 (reps_dpAll e3)
      have ob := (obQ K A.c_Announcements).up g3.g ob
      have hv := up g3.g hv
      refine q_ifF st (b := !b) ?_ ?_ ?_
      · letI := fzj fz.X cs
        exact et_not (et_B (K := K) (ev_var (x := b) rfl rfl))
      · intro hb2 G4 H4 st g4
        have eb : b = false := by simpa using hb2
        obtain ⟨dx, bb, wl, zs, ecs, hl, hz⟩ := (obQ K A.c_Announcements).up g4.g ob
        subst ecs
        refine q_dropX ?_
        refine ⟨_, rfl, a, A.c_Announcements, dx, _, .ref bb, rfl, st.at_ (.head _), T.cl_Announcements, T.na_Announcements__entries, rfl, .inl ⟨rfl, zs, SqL.of (st.at_ (.tail _ (.tail _ (.head _))))⟩, _, rfl, ?_⟩
        refine ⟨bb, zs, v2, rfl, rfl, st.at_ (.tail _ (.tail _ (.head _))), ?_, ?_⟩
        · rw [← paired_len hz]; exact hz0
        · have st := St.put (l := [(a, .ins A.c_Announcements dx [("_last", wl), ("_entries", .ref bb)]), (dx, .own a)]) (o' := .lst (zs ++ [v2])) st noTb_lst
          refine hQ _ hmM _ _ _ _ st ⟨dx, bb, wl, _, rfl, hl, ?_⟩ rfl
          show Reps K ((msgV s.es t b).map En.p) _ _
          unfold msgV
          rw [eb]
          show Reps K ((s.es ++ [En.msg t false]).map En.p) _ _
          rw [List.map_append]
          exact paired_append hz (.cons (by rw [← eb]; exact up g4.g hv2) .nil)
      · intro hb2 G4 H4 st g4
        have eb : b = true := by simpa using hb2
        have ob := (obQ K A.c_Announcements).up g4.g ob
        have hv := up g4.g hv
        have hv2 := up g4.g hv2
        refine s_next ?_
        refine nx_mk ?_
        refine q_asgF (K := K) (x := (pathsE s.es).map En.p) st ?_ fun v3 G5 H5 st g5 hv3 => ?_
        · unfold pathsE
          rw [← filt_map (f := fun d => PyData.eqv (Dat.d (getI (Tpl.mk (tupD d)).l (0 : Int))) (Dat.d (PyData.str ("path" : Str)))) fun e _ => tag_path e]
          have own5 := st.own
          letI := fzj fz.X cs
          refine (ev_lcX (fun d => PyData.eqv (Dat.d (getI (Tpl.mk (tupD d)).l (0 : Int))) (Dat.d (PyData.str ("path" : Str)))) (fun d => d) (hF ob own5 rfl) hz0 fun x v G' H' sg sh hm rx P k => ?_).to (List.map_id' _)
          obtain ⟨e, he, ex⟩ := List.mem_map.mp hm
          have pe : IsP x := by rw [← ex]; exact en_p (hok e he)
          exact k _ rfl (et_test (ev_eqD (ev_ixT (ev_asTup (ev_var rfl rx) (p_tup pe)) ev_int (atI_get (at_in (Int.le_refl 0) (p_pos pe)))) (ev_toD ev_str) (p_tag pe _ (by decide +kernel)))) fun _ => ev_var rfl rx
        have ob := (obQ K A.c_Announcements).up g5.g ob
        have hv := up g5.g hv
        have hv2 := up g5.g hv2
        refine q_fldR ?_
        refine x_op ?_
        have hlm : ((s.es.filter En.isMsg).map En.p).length < sizeLine := by
          rw [List.length_map]
          exact Nat.lt_of_le_of_lt (Nat.le_trans (List.length_filter_le _ _) hle) (by decide)
        refine x_ev (K := K) (x := (((s.es.filter En.isMsg).map En.p).filter (fun d => boolD (getI (Tpl.mk (tupD d)).l (2 : Int)))).map (fun d => d)) ?_ st.s fun x1 G6 H6 g6 r6 => ?_
        · refine ev_lcL (fun d => boolD (getI (Tpl.mk (tupD d)).l (2 : Int))) (fun d => d) (ev_var rfl hv) hlm fun x vx G' H' sg sh hm rx P k => ?_
          obtain ⟨e, he, ex⟩ := List.mem_map.mp hm
          have he1 := (List.mem_filter.mp he).2
          obtain ⟨q1, q2, q3⟩ := loud_p he1
          rw [ex] at q1 q2 q3
          exact k _ rfl (et_B (ev_asBool (ev_ixT (ev_asTup (ev_var rfl rx) (p_tup (by rw [← ex]; exact en_p (hok e (List.mem_filter.mp he).1)))) ev_int (atI_get q3)) q2)) fun _ => ev_var rfl rx
        rw [List.map_id', show List.filter (fun d => boolD (getI (Tpl.mk (tupD d)).l (2 : Int))) ((s.es.filter En.isMsg).map En.p) = ((s.es.filter En.isMsg).filter En.loud).map En.p from filt_map fun e he => (loud_p (List.mem_filter.mp he).2).1] at r6
        have st := st.grow g6
        refine (ev_lst (K := K) (l := [(En.msg t b).p]) (ea_cons (ev_var rfl (up g6.g hv2)) ea_nil) (by show 1 ≤ sizeLine; decide)) H6 st.s _ fun x2 G7 H7 g7 r7 => ?_
        have st := st.grow g7
        have r6 := up g7.g r6
        obtain ⟨c1, xs1, rfl, hc1, hx1⟩ := r6
        obtain ⟨c2, xs2, rfl, hc2, hx2⟩ := r7
        have hl1 : ((s.es.filter En.isMsg).filter En.loud).length ≤ 400 := Nat.le_trans (List.length_filter_le _ _) (Nat.le_trans (List.length_filter_le _ _) hle)
        refine ⟨c1, c2, xs1, xs2, rfl, rfl, st.s _ _ hc1, st.s _ _ hc2, ?_, fun p hp => ?_⟩
        · rw [← paired_len hx1, ← paired_len hx2, List.length_map]
          exact Nat.le_trans (Nat.add_le_add hl1 (Nat.le_refl 1)) (by decide)
        have st := st.new (o := .lst (xs1 ++ xs2)) hp noTb_lst
        obtain ⟨dx, bb, wl, zs, ecs, hl, hz⟩ := (obQ K A.c_Announcements).up (g6.g.trans g7.g) ob
        subst ecs
        refine ⟨_, rfl, a, A.c_Announcements, dx, _, rfl, st.at_ (.tail _ (.head _)), T.cl_Announcements, T.na_Announcements__entries, (show 2 < 1000 by decide), ?_⟩
        have st := St.put (l := [(p, .lst (xs1 ++ xs2))]) (o' := .ins A.c_Announcements dx [("_last", wl), ("_entries", .ref p)]) st nt_ins
        have st := st.sub (cs' := [(p, .lst (xs1 ++ xs2)), (a, .ins A.c_Announcements dx [("_last", wl), ("_entries", .ref p)]), (dx, .own a)]) (List.Sublist.cons₂ _ (List.Sublist.cons₂ _ (List.Sublist.cons₂ _ (List.Sublist.cons _ (List.Sublist.refl _)))))
        have st := st.perm (cs' := [(a, .ins A.c_Announcements dx [("_last", wl), ("_entries", .ref p)]), (dx, .own a), (p, .lst (xs1 ++ xs2))]) (List.Perm.trans (List.Perm.swap _ _ _) (List.Perm.cons _ (List.Perm.swap _ _ _)))
        obtain ⟨es0, ees0⟩ : ∃ es0, es0 = (s.es.filter En.isMsg).filter En.loud ++ [.msg t true] := ⟨_, rfl⟩
        have ob0 : ObQ K A.c_Announcements ⟨s.last, es0⟩ a [(a, .ins A.c_Announcements dx [("_last", wl), ("_entries", .ref p)]), (dx, .own a), (p, .lst (xs1 ++ xs2))] G7 := by
          refine ⟨dx, p, wl, _, rfl, hl, ?_⟩
          show Reps K (es0.map En.p) _ _
          rw [ees0, List.map_append]
          exact paired_append hx1 (by rw [eb] at hx2; exact hx2)
        have ok0 : ∀ x ∈ es0, x.ok := fun x hx => by
          rw [ees0] at hx
          rcases List.mem_append.mp hx with hx | hx
          · exact hok x (List.mem_filter.mp (List.mem_filter.mp hx).1).1
          · rw [List.mem_singleton.mp hx]; exact ht
        have le0 : es0.length ≤ 401 := by rw [ees0, List.length_append, List.length_singleton]; omega
        have okp : ∀ x ∈ pathsE s.es, x.ok := fun x hx => hok x (List.mem_filter.mp hx).1
        have lep : (pathsE s.es).length ≤ 400 := Nat.le_trans (List.length_filter_le _ _) hle
        have hv3 := up (g6.g.trans g7.g) hv3
        refine s_forL (K := K) st.s (ev_var rfl hv3) fun G8 H8 xs g8 r8 => ?_
        refine ⟨fun i σ H => ∃ G' cs' o6 o7 o8 o9, St [a, dx, bb] G He cs' G' H ∧ Same G8 G' ∧ ObQ K A.c_Announcements ⟨s.last, ((pathsE s.es).take i).foldl putE es0⟩ a cs' G' ∧ σ = [some (V.ref a), some (V.str t), some (V.bl b), some v, some v2, some v3, o6, o7, o8, o9, none, none],
          ⟨G8, _, none, none, none, none, st.grow g8, Same.refl _, (obQ K A.c_Announcements).up g8.g ob0, rfl⟩, fun i σ' H' ⟨G', cs', _, _, _, _, st', sg', _, _⟩ => un sg' st'.s, ?_, ?_⟩
        · rintro i x vx σ' H' hx rx ⟨G', cs', o6, o7, o8, o9, st', sg', ob', rfl⟩
          rw [List.getElem?_map] at hx
          obtain ⟨e, he, ex⟩ := Option.map_eq_some_iff.mp hx
          have hek : e.ok := okp e (List.mem_of_getElem? he)
          have hem : e.isMsg = false := by
            have := (List.mem_filter.mp (List.mem_of_getElem? he)).2
            simpa using this
          cases e with
          | msg _ _ => cases hem
          | path po pn pst =>
            subst ex
            obtain ⟨c, ys, rfl, hc, hy⟩ := un_tupD (d := pathE po pn pst) (up sg' rx) rfl
            cases hy with | cons y0 hy => cases hy with | cons y1 hy => cases hy with | cons y2 hy => cases hy with | cons y3 hy =>
              cases hy
              refine ⟨c, _, rfl, sqT_mono st'.s.get hc, rfl, _, _, rfl, _, _, rfl, _, _, rfl, _, [], rfl, rfl, ?_⟩
              refine s_dropX ?_
              have r1 := un_tplS y1 (tS_is po)
              rw [show strsD (tupD (tS po)) = po from strs_map po] at r1
              have r2 := un_tplS y2 (tS_is pn)
              rw [show strsD (tupD (tS pn)) = pn from strs_map pn] at r2
              have r3 := un_tupD y3 rfl
              obtain ⟨dx', bb', wl', zs', ecs', hl', hz'⟩ := id ob'
              obtain ⟨ok', le'⟩ := putsE_ok (l := (pathsE s.es).take i) ok0 (fun x hx => okp x (List.mem_of_mem_take hx))
              have li : ((pathsE s.es).take i).length ≤ 400 := by rw [List.length_take]; omega
              refine ⟨_, rfl, a, dx', _, rfl, st'.at_ (by rw [ecs']; exact .head _), rfl, _, rfl, _, rfl, _, rfl, ?_⟩
              refine ⟨fz, _, a, cs', ⟨po⟩, ⟨pn⟩, ⟨pst⟩, _, _, _, G', rfl, st'.s, st'.own, ob', r1, r2, r3, ⟨⟨ok', by show (List.foldl putE es0 _).length ≤ 1000; omega⟩, hek.ok1.1, hek.ok2.1⟩, fun u G9 H9 cs9 t9 ob9 _ => ?_⟩
              have st9 := St.call (cs := cs') (r := []) (by rw [List.append_nil]; exact st') t9
              rw [List.append_nil] at st9
              refine ⟨G9, cs9, _, _, _, _, st9, sg'.trans t9.gr.g, ?_, rfl⟩
              rw [take_snoc he, List.foldl_append]
              exact ob9
        · rintro σ' H' ⟨G', cs', o6, o7, o8, o9, st', sg', ob', rfl⟩
          refine hQ _ hmM _ _ _ _ st' ?_ rfl
          show ObQ _ _ ⟨s.last, msgV s.es t b⟩ _ _ _
          unfold msgV
          rw [eb]
          show ObQ _ _ ⟨s.last, (pathsE s.es).foldl putE ((s.es.filter En.isMsg).filter En.loud ++ [.msg t true])⟩ _ _ _
          rw [← ees0]
          rw [List.length_map, List.take_length] at ob'
          exact ob'

/-! #### Announcements_queue -/
def m_queue (s : O_Announcements) : List PyData := s.es.map En.a
abbrev p_Announcements_queue [Tb] (K : PySem.W.Frag) (A : Adr) : Sp := anyF fun _ => spR0 K (ObQ K A.c_Announcements) (fun s => EsOk s.es) m_queue
theorem ann_map {es : List En} (h : ∀ e ∈ es, e.ok) : (es.map En.p).map m__announcement = es.map En.a := by
  rw [List.map_map]
  exact List.map_congr_left fun e he => ann_val e (h e he)
theorem ok_Announcements_queue (T : Tx K mg base A) : FnOk P w K mg base CX0 3 A.f_Announcements_queue A.d_Announcements_queue ["self"] (p_Announcements_queue K A) := by
  refine T.F_Announcements_queue.ok sc_Announcements_queue (fun vs He Q E h => ?_) (fun cdv A0 outer s He vs Q E hr h => ⟨_, pss_one (ps_ret (pe_lc (own := [("entry", 1)]) (g := gName 1) (tt := tYes) rfl sc_Announcements_queue.nd (pi_listK (K := K) (pe_fld (pv 0) rfl)) (blkOk_by (N := n_Announcements_queue) (sc := defScope s_Announcements_queue) (by decide +kernel)) (fun _ _ _ _ _ => pg_name (i := 1) sc_Announcements_queue.nd rfl (Or.inl rfl)) (fun _ _ _ _ _ => pts_nil)
    (fun _ _ _ _ _ => (pe_call (ok__announcement T) (hr.mono (by decide)) rfl T.g__announcement T.F__announcement.kp T.b__announcement .nil pass0 (pa_cons (pv 1) pa_nil))))), ?_⟩)
  · obtain ⟨fz, s, a, cs, G, rfl, _⟩ := h
    rfl
  · obtain ⟨fz, s, a, cs, G, rfl, eG, w, ob, hok, hQ⟩ := h
    have t := St.enter eG w
    have hE : @EvR _ (fzj fz.X cs) (XL PyData) (@repXL (fzj fz.X cs) PyData _) K (tFld K (tVar 0) "_entries") (wipe [some (.ref a), none] []) G (XL.mk (s.es.map En.p)) := q_ent ob w (fun _ h => h) rfl T.cl_Announcements T.na_Announcements__entries
    refine s_retF (K := K) (x := s.es.map En.a) t ?_ fun u G' H' t' g r => hQ u G' H' g r
    rw [← ann_map hok.1]
    letI := fzj fz.X cs
    refine ev_lcXm m__announcement hE (by show (s.es.map En.p).length < sizeLine; rw [List.length_map]; exact Nat.lt_of_le_of_lt hok.2 (by decide)) fun x v G' H' sg sh hm rx P k => ?_
    obtain ⟨e, he, ex⟩ := List.mem_map.mp hm
    exact k _ rfl eb_yes fun _ => ev_call1A (ev_var rfl rx) (by rw [← ex]; exact en_p (hok.1 e he))

/-! #### Announcements_take -/
def takeV : List En → PyData
  | [] => .none
  | e :: _ => e.a
def m_take (s : O_Announcements) : PyData × O_Announcements := (takeV s.es, ⟨s.last, s.es.tail⟩)
abbrev p_Announcements_take [Tb] (K : PySem.W.Frag) (A : Adr) : Sp := anyF fun _ => spC0 K (ObQ K A.c_Announcements) (fun s => EsOk s.es) m_take
theorem ok_Announcements_take (T : Tx K mg base A) : FnOk P w K mg base CX0 3 A.f_Announcements_take A.d_Announcements_take ["self"] (p_Announcements_take K A) := by
  refine T.F_Announcements_take.ok sc_Announcements_take (fun vs He Q E h => ?_) (fun cdv A0 outer s He vs Q E hr h => ⟨_, pss_cons (ps_if (pt_cmpR op_eq (pe_callB (call_lenK (K := K)) rfl T.n_len boot_len (pa_cons (pe_fld (pv 0) rfl) pa_nil)) pe_int (nomark _)) (pss_one (ps_ret pe_non)) pss_nil)
    (pss_one (ps_ret (pe_call (ok__announcement T) (hr.mono (by decide)) rfl T.g__announcement T.F__announcement.kp T.b__announcement .nil pass0 (pa_cons (pe_bmK (K := K) PySem.F.plainAttrs_list PySem.F.slot_list_pop PySem.F.type_list_pop mt_popAt (pe_fld (pv 0) rfl) (pa_cons pe_int pa_nil)) pa_nil)))), ?_⟩)
  · obtain ⟨fz, s, a, cs, G, rfl, _⟩ := h
    rfl
  · obtain ⟨fz, s, a, cs, G, rfl, eG, w, ob, hok, hQ⟩ := h
    have t := St.enter eG w
    obtain ⟨dx, b, wl, zs, ecs, hl, hz⟩ := id ob
    have hE : @EvR _ (fzj fz.X cs) (XL PyData) (@repXL (fzj fz.X cs) PyData _) K (tFld K (tVar 0) "_entries") [some (.ref a)] G (XL.mk (s.es.map En.p)) := q_ent ob w (fun _ h => h) rfl T.cl_Announcements T.na_Announcements__entries
    refine q_ifF t (b := eqB (((s.es.map En.p).length : Nat) : Int) 0) ?_ ?_ ?_
    · letI := fzj fz.X cs
      exact et_test (ev_eq (ev_lenX hE) ev_int)
    · intro hb G1 H1 t g1
      have h0 : s.es = [] := by
        have : (((s.es.map En.p).length : Nat) : Int) = 0 := of_decide_eq_true hb
        rw [List.length_map] at this
        exact List.eq_nil_of_length_eq_zero (by omega)
      refine s_retX ?_
      exact hQ _ _ _ _ t (by show ObQ _ _ ⟨s.last, s.es.tail⟩ _ _ _; rw [show s.es.tail = s.es by rw [h0]; rfl]; exact (obQ K A.c_Announcements).up g1.g ob) (by show rep K (takeV s.es) _ _; rw [h0]; exact .non)
    · intro hb G1 H1 t g1
      subst ecs
      cases q : s.es with
      | nil => rw [q] at hb; cases hb
      | cons e es =>
        rw [q] at hz
        cases zs with
        | nil => cases hz
        | cons z zs =>
          cases hz with
          | cons z1 z2 =>
            refine s_next ?_
            refine nx_mk ?_
            refine s_retX ?_
            refine ⟨_, rfl, a, A.c_Announcements, dx, _, .ref b, rfl, t.at_ (.head _), T.cl_Announcements, T.na_Announcements__entries, rfl, .inl ⟨rfl, _, SqL.of (t.at_ (.tail _ (.tail _ (.head _))))⟩, ?_⟩
            refine ⟨b, _, 0, 0, z, rfl, rfl, t.at_ (.tail _ (.tail _ (.head _))), by decide, by decide, (ixN_seq (by unfold ixN; rw [if_pos (by decide), if_pos (by rw [List.length_cons]; omega)]; rfl)).1, rfl, ?_⟩
            have t := St.put (l := [(a, .ins A.c_Announcements dx [("_last", wl), ("_entries", .ref b)]), (dx, .own a)]) (o' := .lst zs) t noTb_lst
            refine ⟨fz, e.p, z, G1, rfl, t.s, up g1.g z1, en_p (hok.1 e (by rw [q]; exact .head _)), fun u G2 H2 g2 r2 => ?_⟩
            refine hQ _ _ _ _ (t.grow g2) ⟨dx, b, wl, zs, rfl, up g2.g (up g1.g hl), ?_⟩ ?_
            · show Reps K (s.es.tail.map En.p) _ _
              rw [q]
              exact Reps.up g2.g (Reps.up g1.g z2)
            · show rep K (takeV s.es) _ _
              rw [q]
              show rep K e.a _ _
              rw [← ann_val e (hok.1 e (by rw [q]; exact .head _))]
              exact r2

/-! #### Announcements__put_path -/

/-! #### Tracker___init__ -/
def m_Tracker___init___1 (d_11 : (List Str)) : O_Tracker := (O_Tracker.mk d_11)
def m_Tracker___init__  : O_Tracker := (m_Tracker___init___1 ([] : List Str))
abbrev p_Tracker___init__ (K : PySem.W.Frag) (A : Adr) : Sp := anyF fun _ => spi0 (Ob_Tracker K A.c_Tracker) A.c_Tracker m_Tracker___init__
theorem ok_Tracker___init__ (T : Tx K mg base A) : FnOk P w K mg base CX0 1 A.f_Tracker___init__ A.d_Tracker___init__ ["self"] (p_Tracker___init__ K A) := by
  refine T.F_Tracker___init__.ok sc_Tracker___init__ (fun vs He Q E h => ?_) (fun cdv A0 outer s He vs Q E hr h => ⟨_, (pss_one (ps_fld (pv 0) (pe_lst pa_nil) rfl)), ?_⟩)
  · obtain ⟨fz_, a_self, dx_self, G, rfl, eG, hG_a_self, hX_a_self, hQ⟩ := h
    rfl
  · obtain ⟨fz_, a_self, dx_self, G, rfl, eG, hG_a_self, hX_a_self, hQ⟩ := h
    have gr : Grow G He G He := Grow.refl eG
    obtain ⟨Ge, eGe⟩ : ∃ z, z = G := ⟨G, rfl⟩
    have gr : Grow Ge He G He := by rw [eGe]; exact gr
    rw [← eGe] at hQ
    clear eGe
    have hM : m_Tracker___init__  = (m_Tracker___init___1 ([] : List Str)) := rfl
    refine s_fld (K := K) (α := (List Str)) gr.s (ev_lst (l := ([] : List Str)) ea_nil (by first | (show _ ≤ sizeLine; decide) | (simp only [List.length_cons, List.length_nil, List.length_append, sizeLine_eq]; omega) | (fail))) rfl hG_a_self T.cl_Tracker T.na_Tracker__names (show 0 < 1000 by decide) fun w_1 G3 H4 g2 h_5 G6 H7 gm8 hG9 h_10 => ?_
    have hG_a_self := (g2.g) _ _ hG_a_self
    have hX_a_self := (g2.g) _ _ hX_a_self
    have gr := gr.trans g2
    have hX_a_self := gm8.g _ _ hX_a_self (ne_of hX_a_self hG_a_self (by intro z; cases z))
    have hG_a_self : G6 a_self = some (.ins A.c_Tracker dx_self [("_names", w_1)]) := hG9
    have gr := gr.m gm8
    generalize ed_11 : ([] : List Str) = d_11 at h_10 hM
    unfold m_Tracker___init___1 at hM
    exact hQ _ _ gr (by rw [hM]; exact (show Ob_Tracker K A.c_Tracker (O_Tracker.mk d_11) a_self dx_self _ from ⟨w_1, hG_a_self, hX_a_self, h_10⟩))
/-! #### Tracker_apply -/
def m_Tracker_apply_1 (d_53 : (List Str)) : (Except Str (Unit × O_Tracker)) := (Except.ok ((), (O_Tracker.mk d_53)))
def m_Tracker_apply_2 (d_f_names : (List Str)) (d_16 : PyData) (d_19 : Int) : (Except Str (Unit × O_Tracker)) := (m_Tracker_apply_1 ((cutL d_f_names none (some d_19)) ++ (List.map (fun d_37 => (strD (getI ((Tpl.mk (tupD d_37))).l (0 : Int)))) ((Tpl.mk (tupD d_16))).l)))
def m_Tracker_apply_3 (d_f_names : (List Str)) (d_16 : PyData) (d_19 : Int) : (Except Str (Unit × O_Tracker)) := (cond (decide ((20 : Int) < (d_19 + (((Tpl.mk (tupD d_16))).l.length : Int)))) (Except.error ("too many names on the path" : Str)) (m_Tracker_apply_2 d_f_names d_16 d_19))
def m_Tracker_apply_4 (d_f_names : (List Str)) (d_16 : PyData) (d_19 : Int) : (Except Str (Unit × O_Tracker)) := (cond (decide (d_19 < (0 : Int))) (Except.error ("not enough names on the path" : Str)) (m_Tracker_apply_3 d_f_names d_16 d_19))
def m_Tracker_apply_5 (d_f_names : (List Str)) (d_10 : PyData) (d_13 : PyData) (d_16 : PyData) : (Except Str (Unit × O_Tracker)) := (m_Tracker_apply_4 d_f_names d_16 (((d_f_names).length : Int) - (intD d_13)))
def m_Tracker_apply_6 (d_announcement : PyData) (d_f_names : (List Str)) : (Except Str (Unit × O_Tracker)) := (m_Tracker_apply_5 d_f_names (getI ((Tpl.mk (tupD d_announcement))).l 0) (getI ((Tpl.mk (tupD d_announcement))).l 1) (getI ((Tpl.mk (tupD d_announcement))).l 2))
def mb_Tracker_apply (d_f_names : (List Str)) (d_announcement : PyData) : (Except Str (Unit × O_Tracker)) := (cond (PyData.eqv (Dat.d (getI ((Tpl.mk (tupD d_announcement))).l (0 : Int))) (Dat.d (PyData.str ("message" : Str)))) (Except.ok ((), (O_Tracker.mk d_f_names))) (m_Tracker_apply_6 d_announcement d_f_names))
def m_Tracker_apply (s : O_Tracker) (d_announcement : PyData) : (Except Str (Unit × O_Tracker)) := mb_Tracker_apply s.f_names d_announcement
abbrev p_Tracker_apply (K : PySem.W.Frag) (A : Adr) : Sp := anyF fun _ => spmx1 K A.x_Refused "what" (Ob_Tracker K A.c_Tracker) (fun s d => AnnOk d ∧ s.f_names.length ≤ 20) m_Tracker_apply
theorem ok_Tracker_apply (T : Tx K mg base A) : FnOk P w K mg base (L2.CX P w) 3 A.f_Tracker_apply A.d_Tracker_apply ["self", "announcement"] (p_Tracker_apply K A) := by
  refine T.F_Tracker_apply.okX sc_Tracker_apply (fun vs He Q E h => ?_) (fun cdv A0 outer s He vs Q E hr h => ⟨_, (pss_cons (ps_if (pt_cmpR (op_eqK (K := K) hr.units) (pe_ix (ix_tupK (K := K)) (pv 1) pe_int fun _ _ => rfl) pe_str (nomark _)) (pss_one ps_retN) pss_nil) (pss_cons (ps_asg (pv 1) (pg_tup rfl (pgs_cons (pg_name (i := 2) sc_Tracker_apply.nd rfl (Or.inl rfl)) (pgs_cons (pg_name (i := 3) sc_Tracker_apply.nd rfl (Or.inl rfl)) (pgs_cons (pg_name (i := 4) sc_Tracker_apply.nd rfl (Or.inl rfl)) pgs_nil))))) (pss_cons (ps_set (i := 5) sc_Tracker_apply.nd rfl (Or.inl rfl) (pe_op op_sub (pe_callB (call_lenK (K := K)) rfl T.n_len boot_len (pa_cons (pe_fld (pv 0) rfl) pa_nil)) (pv 3))) (pss_cons (ps_if (pt_cmpR op_lt (pv 5) pe_int (nomark _)) (pss_one (ps_raise rfl (takes_of rfl rfl rfl rfl) (pmk_oex T.x_Refused.ox T.x_Refused.iC T.x_Refused.tI (ok_init_Refused T) (hr.mono (by decide)) T.bi_Refused .nil pass0 rfl T.x_Refused.gC (pa_cons pe_str pa_nil)))) pss_nil) (pss_cons (ps_if (pt_cmpR op_gt (pe_op op_add (pv 5) (pe_callB (call_lenK (K := K)) rfl T.n_len boot_len (pa_cons (pv 4) pa_nil))) (C8.pe_gc rfl T.c__MOST_NAMES) (nomark _)) (pss_one (ps_raise rfl (takes_of rfl rfl rfl rfl) (pmk_oex T.x_Refused.ox T.x_Refused.iC T.x_Refused.tI (ok_init_Refused T) (hr.mono (by decide)) T.bi_Refused .nil pass0 rfl T.x_Refused.gC (pa_cons pe_str pa_nil)))) pss_nil) (pss_one (ps_fld (pv 0) (pe_op op_cat (pe_slice (sl_listK (K := K)) (pe_fld (pv 0) rfl) po_none (po_some (pv 5))) (pe_lc (own := [("step", 6)]) (g := gName 6) (tt := tYes) rfl sc_Tracker_apply.nd (pi_tupK (K := K) (pv 4)) (blkOk_by (N := n_Tracker_apply) (sc := defScope s_Tracker_apply) (by decide +kernel)) (fun _ _ _ _ _ => pg_name (i := 6) sc_Tracker_apply.nd rfl (Or.inl rfl)) (fun _ _ _ _ _ => pts_nil) (fun _ _ _ _ _ => (pe_ix (ix_tupK (K := K)) (pv 6) pe_int fun _ _ => rfl)))) rfl))))))), ?_⟩)
  · obtain ⟨fz_, ⟨d_f_names⟩, a_self, dx_self, d_announcement, w_announcement, G, rfl, eG, hO_self, h_announcement, hpre, hQ, hE⟩ := h
    rfl
  · obtain ⟨fz_, ⟨d_f_names⟩, a_self, dx_self, d_announcement, w_announcement, G, rfl, eG, hO_self, h_announcement, hpre, hQ, hE⟩ := h
    obtain ⟨w_f_names, hG_a_self, hX_a_self, h_f_names⟩ := hO_self
    have h_f_names : rep K d_f_names w_f_names G := h_f_names
    have gr : Grow G He G He := Grow.refl eG
    obtain ⟨Ge, eGe⟩ : ∃ z, z = G := ⟨G, rfl⟩
    have gr : Grow Ge He G He := by rw [eGe]; exact gr
    rw [← eGe] at hQ
    clear eGe
    have hM : m_Tracker_apply (O_Tracker.mk d_f_names) d_announcement = (cond (PyData.eqv (Dat.d (getI ((Tpl.mk (tupD d_announcement))).l (0 : Int))) (Dat.d (PyData.str ("message" : Str)))) (Except.ok ((), (O_Tracker.mk d_f_names))) (m_Tracker_apply_6 d_announcement d_f_names)) := rfl
    refine q_if gr.s (et_test (ev_eqD (ev_ixT (ev_asTup (ev_var rfl h_announcement) (by first | (first | exact ao_tup hpre.1 | exact at_in (Int.le_refl 0) (ao_pos hpre.1) | exact ao_tag hpre.1 _ (by decide +kernel) | exact ao_len hpre.1 | assumption | (rw [fe]; rfl) | (rw [fs]; exact Nat.lt_of_le_of_lt pl (by decide)) | (obtain ⟨_, hs, _⟩ := pk _ (by rw [fs] at *; assumption); first | exact so_tup hs | exact so_pos hs | (rw [so_val hs]; rfl)) | (rw [List.length_map, fs]; exact Nat.le_trans (Nat.add_le_add (Nat.le_trans (cutL_len _ _ _) hpre.2) pl) (by decide)) | omega) | (first | assumption | exact or_l (by assumption) | exact or_l (or_r (by assumption)) | exact num_of (by assumption) (by assumption) | exact not_fA (by assumption) | (first | omega | decide)))) ev_int (atI_get (by first | (first | exact ao_tup hpre.1 | exact at_in (Int.le_refl 0) (ao_pos hpre.1) | exact ao_tag hpre.1 _ (by decide +kernel) | exact ao_len hpre.1 | assumption | (rw [fe]; rfl) | (rw [fs]; exact Nat.lt_of_le_of_lt pl (by decide)) | (obtain ⟨_, hs, _⟩ := pk _ (by rw [fs] at *; assumption); first | exact so_tup hs | exact so_pos hs | (rw [so_val hs]; rfl)) | (rw [List.length_map, fs]; exact Nat.le_trans (Nat.add_le_add (Nat.le_trans (cutL_len _ _ _) hpre.2) pl) (by decide)) | omega) | (first | decide | (refine at_in ?_ ?_ <;> omega) | (refine at_neg ?_ ?_ <;> omega))))) (ev_toD ev_str) (by first | (first | exact ao_tup hpre.1 | exact at_in (Int.le_refl 0) (ao_pos hpre.1) | exact ao_tag hpre.1 _ (by decide +kernel) | exact ao_len hpre.1 | assumption | (rw [fe]; rfl) | (rw [fs]; exact Nat.lt_of_le_of_lt pl (by decide)) | (obtain ⟨_, hs, _⟩ := pk _ (by rw [fs] at *; assumption); first | exact so_tup hs | exact so_pos hs | (rw [so_val hs]; rfl)) | (rw [List.length_map, fs]; exact Nat.le_trans (Nat.add_le_add (Nat.le_trans (cutL_len _ _ _) hpre.2) pl) (by decide)) | omega) | (first | omega | decide | (show _ ≤ sizeLine; decide) | (show _ < sizeLine; decide))))) ?_ ?_
    · intro hb2 G3 H4 g1
      have hG_a_self := (g1.g) _ _ hG_a_self
      have hX_a_self := (g1.g) _ _ hX_a_self
      have h_f_names := up (g1.g) h_f_names
      have h_announcement := up g1.g h_announcement
      have gr := gr.trans g1
      replace hM := condT hM hb2
      exact hQ _ hM _ _ _ gr.toM (show Ob_Tracker K A.c_Tracker (O_Tracker.mk d_f_names) a_self dx_self _ from ⟨w_f_names, hG_a_self, hX_a_self, h_f_names⟩) rfl
    · intro hb2 G5 H6 g1
      have hG_a_self := (g1.g) _ _ hG_a_self
      have hX_a_self := (g1.g) _ _ hX_a_self
      have h_f_names := up (g1.g) h_f_names
      have h_announcement := up g1.g h_announcement
      have gr := gr.trans g1
      replace hM := condF hM hb2
      unfold m_Tracker_apply_6 at hM
      obtain ⟨pn, pst, pe, pk, pl⟩ := ao_path hpre.1 (by assumption)
      refine s_next ?_
      refine nx_mk ?_
      refine q_asg3D (K := K) (x := (Tpl.mk (tupD d_announcement))) (by first | (first | exact ao_tup hpre.1 | exact at_in (Int.le_refl 0) (ao_pos hpre.1) | exact ao_tag hpre.1 _ (by decide +kernel) | exact ao_len hpre.1 | assumption | (rw [fe]; rfl) | (rw [fs]; exact Nat.lt_of_le_of_lt pl (by decide)) | (obtain ⟨_, hs, _⟩ := pk _ (by rw [fs] at *; assumption); first | exact so_tup hs | exact so_pos hs | (rw [so_val hs]; rfl)) | (rw [List.length_map, fs]; exact Nat.le_trans (Nat.add_le_add (Nat.le_trans (cutL_len _ _ _) hpre.2) pl) (by decide)) | omega) | (first | assumption | (first | omega | decide))) gr.s (ev_asTup (ev_var rfl h_announcement) (by first | (first | exact ao_tup hpre.1 | exact at_in (Int.le_refl 0) (ao_pos hpre.1) | exact ao_tag hpre.1 _ (by decide +kernel) | exact ao_len hpre.1 | assumption | (rw [fe]; rfl) | (rw [fs]; exact Nat.lt_of_le_of_lt pl (by decide)) | (obtain ⟨_, hs, _⟩ := pk _ (by rw [fs] at *; assumption); first | exact so_tup hs | exact so_pos hs | (rw [so_val hs]; rfl)) | (rw [List.length_map, fs]; exact Nat.le_trans (Nat.add_le_add (Nat.le_trans (cutL_len _ _ _) hpre.2) pl) (by decide)) | omega) | (first | assumption | exact or_l (by assumption) | exact or_l (or_r (by assumption)) | exact num_of (by assumption) (by assumption) | exact not_fA (by assumption) | (first | omega | decide)))) fun w_11 w_14 w_17 G8 H9 g7 h_12 h_15 h_18 => ?_
      have hG_a_self := (g7.g) _ _ hG_a_self
      have hX_a_self := (g7.g) _ _ hX_a_self
      have h_f_names := up (g7.g) h_f_names
      have h_announcement := up g7.g h_announcement
      have gr := gr.trans g7
      generalize ed_10 : (getI ((Tpl.mk (tupD d_announcement))).l 0) = d_10 at h_12 hM
      generalize ed_13 : (getI ((Tpl.mk (tupD d_announcement))).l 1) = d_13 at h_15 hM
      generalize ed_16 : (getI ((Tpl.mk (tupD d_announcement))).l 2) = d_16 at h_18 hM
      unfold m_Tracker_apply_5 at hM
      have fe : d_13 = .int pn := by rw [← ed_13, pe]; rfl
      have fs : d_16 = .tuple pst := by rw [← ed_16, pe]; rfl
      have fe1 : isNumD d_13 = true := by rw [fe]; rfl
      have fs1 : isTupD d_16 = true := by rw [fs]; rfl
      refine q_asg (K := K) gr.s (ev_sub (ev_lenL (ev_fld rfl hG_a_self T.cl_Tracker T.na_Tracker__names rfl h_f_names)) (ev_asInt (ev_var rfl h_15) (by first | (first | exact ao_tup hpre.1 | exact at_in (Int.le_refl 0) (ao_pos hpre.1) | exact ao_tag hpre.1 _ (by decide +kernel) | exact ao_len hpre.1 | assumption | (rw [fe]; rfl) | (rw [fs]; exact Nat.lt_of_le_of_lt pl (by decide)) | (obtain ⟨_, hs, _⟩ := pk _ (by rw [fs] at *; assumption); first | exact so_tup hs | exact so_pos hs | (rw [so_val hs]; rfl)) | (rw [List.length_map, fs]; exact Nat.le_trans (Nat.add_le_add (Nat.le_trans (cutL_len _ _ _) hpre.2) pl) (by decide)) | omega) | (first | assumption | exact or_l (by assumption) | exact or_l (or_r (by assumption)) | exact num_of (by assumption) (by assumption) | exact not_fA (by assumption) | (first | omega | decide))))) fun w_20 G23 H24 g22 (h_21 : rep K (((d_f_names).length : Int) - (intD d_13)) w_20 G23) => ?_
      have hG_a_self := (g22.g) _ _ hG_a_self
      have hX_a_self := (g22.g) _ _ hX_a_self
      have h_f_names := up (g22.g) h_f_names
      have h_announcement := up g22.g h_announcement
      have h_12 := up g22.g h_12
      have h_15 := up g22.g h_15
      have h_18 := up g22.g h_18
      have gr := gr.trans g22
      generalize ed_19 : (((d_f_names).length : Int) - (intD d_13)) = d_19 at h_21 hM
      unfold m_Tracker_apply_4 at hM
      refine q_if gr.s (et_test (ev_lt (ev_var rfl h_21) ev_int)) ?_ ?_
      · intro hb26 G27 H28 g25
        have hG_a_self := (g25.g) _ _ hG_a_self
        have hX_a_self := (g25.g) _ _ hX_a_self
        have h_f_names := up (g25.g) h_f_names
        have h_announcement := up g25.g h_announcement
        have h_12 := up g25.g h_12
        have h_15 := up g25.g h_15
        have h_18 := up g25.g h_18
        have h_21 := up g25.g h_21
        have gr := gr.trans g25
        replace hM := condT hM hb26
        refine err_made (K := K) gr.s ev_str (v := V.str ("not enough names on the path" : Str)) (fun _ _ z => z) ⟨_, rfl⟩ ?_
        exact fun d H1 sm ts n q => hE _ hM d H1 (gr.h.trans sm) ts (gr.h.free n) q
      · intro hb26 G29 H30 g25
        have hG_a_self := (g25.g) _ _ hG_a_self
        have hX_a_self := (g25.g) _ _ hX_a_self
        have h_f_names := up (g25.g) h_f_names
        have h_announcement := up g25.g h_announcement
        have h_12 := up g25.g h_12
        have h_15 := up g25.g h_15
        have h_18 := up g25.g h_18
        have h_21 := up g25.g h_21
        have gr := gr.trans g25
        replace hM := condF hM hb26
        unfold m_Tracker_apply_3 at hM
        refine s_next ?_
        refine nx_mk ?_
        refine q_if gr.s (et_test (ev_gt (ev_add (ev_var rfl h_21) (ev_lenT (ev_asTup (ev_var rfl h_18) (by first | (first | exact ao_tup hpre.1 | exact at_in (Int.le_refl 0) (ao_pos hpre.1) | exact ao_tag hpre.1 _ (by decide +kernel) | exact ao_len hpre.1 | assumption | (rw [fe]; rfl) | (rw [fs]; exact Nat.lt_of_le_of_lt pl (by decide)) | (obtain ⟨_, hs, _⟩ := pk _ (by rw [fs] at *; assumption); first | exact so_tup hs | exact so_pos hs | (rw [so_val hs]; rfl)) | (rw [List.length_map, fs]; exact Nat.le_trans (Nat.add_le_add (Nat.le_trans (cutL_len _ _ _) hpre.2) pl) (by decide)) | omega) | (first | assumption | exact or_l (by assumption) | exact or_l (or_r (by assumption)) | exact num_of (by assumption) (by assumption) | exact not_fA (by assumption) | (first | omega | decide)))))) ev_int)) ?_ ?_
        · intro hb32 G33 H34 g31
          have hG_a_self := (g31.g) _ _ hG_a_self
          have hX_a_self := (g31.g) _ _ hX_a_self
          have h_f_names := up (g31.g) h_f_names
          have h_announcement := up g31.g h_announcement
          have h_12 := up g31.g h_12
          have h_15 := up g31.g h_15
          have h_18 := up g31.g h_18
          have h_21 := up g31.g h_21
          have gr := gr.trans g31
          replace hM := condT hM hb32
          refine err_made (K := K) gr.s ev_str (v := V.str ("too many names on the path" : Str)) (fun _ _ z => z) ⟨_, rfl⟩ ?_
          exact fun d H1 sm ts n q => hE _ hM d H1 (gr.h.trans sm) ts (gr.h.free n) q
        · intro hb32 G35 H36 g31
          have hG_a_self := (g31.g) _ _ hG_a_self
          have hX_a_self := (g31.g) _ _ hX_a_self
          have h_f_names := up (g31.g) h_f_names
          have h_announcement := up g31.g h_announcement
          have h_12 := up g31.g h_12
          have h_15 := up g31.g h_15
          have h_18 := up g31.g h_18
          have h_21 := up g31.g h_21
          have gr := gr.trans g31
          replace hM := condF hM hb32
          unfold m_Tracker_apply_2 at hM
          refine s_next ?_
          refine nx_mk ?_
          refine s_fld (K := K) (α := (List Str)) gr.s (ev_cat (ev_slL (ev_fld rfl hG_a_self T.cl_Tracker T.na_Tracker__names rfl h_f_names) eo_none (eo_some (ev_var rfl h_21))) (ev_lcTm (fun d_37 => (strD (getI ((Tpl.mk (tupD d_37))).l (0 : Int)))) (ev_asTup (ev_var rfl h_18) (by first | (first | exact ao_tup hpre.1 | exact at_in (Int.le_refl 0) (ao_pos hpre.1) | exact ao_tag hpre.1 _ (by decide +kernel) | exact ao_len hpre.1 | assumption | (rw [fe]; rfl) | (rw [fs]; exact Nat.lt_of_le_of_lt pl (by decide)) | (obtain ⟨_, hs, _⟩ := pk _ (by rw [fs] at *; assumption); first | exact so_tup hs | exact so_pos hs | (rw [so_val hs]; rfl)) | (rw [List.length_map, fs]; exact Nat.le_trans (Nat.add_le_add (Nat.le_trans (cutL_len _ _ _) hpre.2) pl) (by decide)) | omega) | (first | assumption | exact or_l (by assumption) | exact or_l (or_r (by assumption)) | exact num_of (by assumption) (by assumption) | exact not_fA (by assumption) | (first | omega | decide)))) (by first | (first | exact ao_tup hpre.1 | exact at_in (Int.le_refl 0) (ao_pos hpre.1) | exact ao_tag hpre.1 _ (by decide +kernel) | exact ao_len hpre.1 | assumption | (rw [fe]; rfl) | (rw [fs]; exact Nat.lt_of_le_of_lt pl (by decide)) | (obtain ⟨_, hs, _⟩ := pk _ (by rw [fs] at *; assumption); first | exact so_tup hs | exact so_pos hs | (rw [so_val hs]; rfl)) | (rw [List.length_map, fs]; exact Nat.le_trans (Nat.add_le_add (Nat.le_trans (cutL_len _ _ _) hpre.2) pl) (by decide)) | omega) | (first | omega | decide | (show _ ≤ sizeLine; decide) | (show _ < sizeLine; decide))) (fun d_37 w_38 G_ H_ sg40 sh_ hm42 h_39 P k => by exact k _ rfl eb_yes (fun hc41 => (ev_asStr (ev_ixT (ev_asTup (ev_var rfl h_39) (by first | (first | exact ao_tup hpre.1 | exact at_in (Int.le_refl 0) (ao_pos hpre.1) | exact ao_tag hpre.1 _ (by decide +kernel) | exact ao_len hpre.1 | assumption | (rw [fe]; rfl) | (rw [fs]; exact Nat.lt_of_le_of_lt pl (by decide)) | (obtain ⟨_, hs, _⟩ := pk _ (by rw [fs] at *; assumption); first | exact so_tup hs | exact so_pos hs | (rw [so_val hs]; rfl)) | (rw [List.length_map, fs]; exact Nat.le_trans (Nat.add_le_add (Nat.le_trans (cutL_len _ _ _) hpre.2) pl) (by decide)) | omega) | (first | assumption | exact or_l (by assumption) | exact or_l (or_r (by assumption)) | exact num_of (by assumption) (by assumption) | exact not_fA (by assumption) | (first | omega | decide)))) ev_int (atI_get (by first | (first | exact ao_tup hpre.1 | exact at_in (Int.le_refl 0) (ao_pos hpre.1) | exact ao_tag hpre.1 _ (by decide +kernel) | exact ao_len hpre.1 | assumption | (rw [fe]; rfl) | (rw [fs]; exact Nat.lt_of_le_of_lt pl (by decide)) | (obtain ⟨_, hs, _⟩ := pk _ (by rw [fs] at *; assumption); first | exact so_tup hs | exact so_pos hs | (rw [so_val hs]; rfl)) | (rw [List.length_map, fs]; exact Nat.le_trans (Nat.add_le_add (Nat.le_trans (cutL_len _ _ _) hpre.2) pl) (by decide)) | omega) | (first | decide | (refine at_in ?_ ?_ <;> omega) | (refine at_neg ?_ ?_ <;> omega))))) (by first | (first | exact ao_tup hpre.1 | exact at_in (Int.le_refl 0) (ao_pos hpre.1) | exact ao_tag hpre.1 _ (by decide +kernel) | exact ao_len hpre.1 | assumption | (rw [fe]; rfl) | (rw [fs]; exact Nat.lt_of_le_of_lt pl (by decide)) | (obtain ⟨_, hs, _⟩ := pk _ (by rw [fs] at *; assumption); first | exact so_tup hs | exact so_pos hs | (rw [so_val hs]; rfl)) | (rw [List.length_map, fs]; exact Nat.le_trans (Nat.add_le_add (Nat.le_trans (cutL_len _ _ _) hpre.2) pl) (by decide)) | omega) | (first | assumption | exact or_l (by assumption) | exact or_l (or_r (by assumption)) | exact num_of (by assumption) (by assumption) | exact not_fA (by assumption) | (first | omega | decide))))))) (by first | (first | exact ao_tup hpre.1 | exact at_in (Int.le_refl 0) (ao_pos hpre.1) | exact ao_tag hpre.1 _ (by decide +kernel) | exact ao_len hpre.1 | assumption | (rw [fe]; rfl) | (rw [fs]; exact Nat.lt_of_le_of_lt pl (by decide)) | (obtain ⟨_, hs, _⟩ := pk _ (by rw [fs] at *; assumption); first | exact so_tup hs | exact so_pos hs | (rw [so_val hs]; rfl)) | (rw [List.length_map, fs]; exact Nat.le_trans (Nat.add_le_add (Nat.le_trans (cutL_len _ _ _) hpre.2) pl) (by decide)) | omega) | (first | omega | decide | (show _ ≤ sizeLine; decide) | (show _ < sizeLine; decide)))) rfl hG_a_self T.cl_Tracker T.na_Tracker__names (show 1 < 1000 by decide) fun w_43 G45 H46 g44 h_47 G48 H49 gm50 hG51 h_52 => ?_
          have hG_a_self := (g44.g) _ _ hG_a_self
          have hX_a_self := (g44.g) _ _ hX_a_self
          have h_f_names := up (g44.g) h_f_names
          have h_announcement := up g44.g h_announcement
          have h_12 := up g44.g h_12
          have h_15 := up g44.g h_15
          have h_18 := up g44.g h_18
          have h_21 := up g44.g h_21
          have gr := gr.trans g44
          have h_announcement := upd' gm50.d h_announcement
          have h_12 := upd' gm50.d h_12
          have h_15 := upd' gm50.d h_15
          have h_18 := upd' gm50.d h_18
          have h_21 := upd' gm50.d h_21
          have hX_a_self := gm50.g _ _ hX_a_self (ne_of hX_a_self hG_a_self (by intro z; cases z))
          have hG_a_self : G48 a_self = some (.ins A.c_Tracker dx_self [("_names", w_43)]) := hG51
          have gr := gr.m gm50
          generalize ed_53 : ((cutL d_f_names none (some d_19)) ++ (List.map (fun d_37 => (strD (getI ((Tpl.mk (tupD d_37))).l (0 : Int)))) ((Tpl.mk (tupD d_16))).l)) = d_53 at h_52 hM
          unfold m_Tracker_apply_1 at hM
          exact hQ _ hM _ _ _ gr (show Ob_Tracker K A.c_Tracker (O_Tracker.mk d_53) a_self dx_self _ from ⟨w_43, hG_a_self, hX_a_self, h_52⟩) rfl
/-! #### Tracker_path -/
def mb_Tracker_path (d_f_names : (List Str))  : (List Str) := d_f_names
def m_Tracker_path (s : O_Tracker)  : (List Str) := mb_Tracker_path s.f_names 
abbrev p_Tracker_path (K : PySem.W.Frag) (A : Adr) : Sp := anyF fun _ => spr0 K (Ob_Tracker K A.c_Tracker) (fun _ => True) m_Tracker_path
theorem ok_Tracker_path (T : Tx K mg base A) : FnOk P w K mg base CX0 1 A.f_Tracker_path A.d_Tracker_path ["self"] (p_Tracker_path K A) := by
  refine T.F_Tracker_path.ok sc_Tracker_path (fun vs He Q E h => ?_) (fun cdv A0 outer s He vs Q E hr h => ⟨_, (pss_one (ps_ret (pe_callTy (call_listK (K := K)) rfl T.n_list boot_list (pa_cons (pe_fld (pv 0) rfl) pa_nil)))), ?_⟩)
  · obtain ⟨fz_, ⟨d_f_names⟩, a_self, dx_self, G, rfl, eG, hO_self, hpre, hQ⟩ := h
    rfl
  · obtain ⟨fz_, ⟨d_f_names⟩, a_self, dx_self, G, rfl, eG, hO_self, hpre, hQ⟩ := h
    obtain ⟨w_f_names, hG_a_self, hX_a_self, h_f_names⟩ := hO_self
    have h_f_names : rep K d_f_names w_f_names G := h_f_names
    have gr : Grow G He G He := Grow.refl eG
    obtain ⟨Ge, eGe⟩ : ∃ z, z = G := ⟨G, rfl⟩
    have gr : Grow Ge He G He := by rw [eGe]; exact gr
    rw [← eGe] at hQ
    clear eGe
    have hM : m_Tracker_path (O_Tracker.mk d_f_names) = d_f_names := rfl
    refine s_ret (K := K) gr.s (ev_listL (ev_fld rfl hG_a_self T.cl_Tracker T.na_Tracker__names rfl h_f_names)) fun u Gr Hr gq hu => ?_
    exact hQ u Gr Hr (gr.trans gq) (by rw [hM]; exact hu)
/-! #### _law_cell -/
def m__law_cell (d_script : Scr) (d_k : Int) : Int := (cond (decide (d_k < ((d_script).l.length : Int))) (getI (d_script).l d_k) (0 : Int))
abbrev p__law_cell (K : PySem.W.Frag) : Sp := anyF fun _ => sp2 K (fun _ k => 0 ≤ k) m__law_cell
theorem ok__law_cell (T : Tx K mg base A) : FnOk P w K mg base CX0 1 A.f__law_cell A.d__law_cell ["script", "k"] (p__law_cell K) := by
  refine T.F__law_cell.ok sc__law_cell (fun vs He Q E h => ?_) (fun cdv A0 outer s He vs Q E hr h => ⟨_, (pss_cons (ps_if (pt_cmpR op_lt (pv 1) (pe_callB (call_lenK (K := K)) rfl T.n_len boot_len (pa_cons (pv 0) pa_nil)) (nomark _)) (pss_one (ps_ret (pe_ix (ix_listK (K := K)) (pv 0) (pv 1) fun _ _ => rfl))) pss_nil) (pss_one (ps_ret pe_int))), ?_⟩)
  · obtain ⟨fz_, d_script, d_k, w_script, w_k, G, rfl, eG, h_script, h_k, hpre, hQ⟩ := h
    rfl
  · obtain ⟨fz_, d_script, d_k, w_script, w_k, G, rfl, eG, h_script, h_k, hpre, hQ⟩ := h
    have gr : Grow G He G He := Grow.refl eG
    obtain ⟨Ge, eGe⟩ : ∃ z, z = G := ⟨G, rfl⟩
    have gr : Grow Ge He G He := by rw [eGe]; exact gr
    rw [← eGe] at hQ
    clear eGe
    have hM : m__law_cell d_script d_k = (cond (decide (d_k < ((d_script).l.length : Int))) (getI (d_script).l d_k) (0 : Int)) := rfl
    refine q_if gr.s (et_test (ev_lt (ev_var rfl h_k) (ev_lenScr (ev_var rfl h_script)))) ?_ ?_
    · intro hb2 G3 H4 g1
      have h_script := up g1.g h_script
      have h_k := up g1.g h_k
      have gr := gr.trans g1
      replace hM := condT hM hb2
      refine s_ret (K := K) gr.s (ev_ixScr (ev_var rfl h_script) (ev_var rfl h_k) (atI_get (by first | (exact at_in hpre (by exact of_decide_eq_true (by assumption))) | (first | decide | (refine at_in ?_ ?_ <;> omega) | (refine at_neg ?_ ?_ <;> omega))))) fun u Gr Hr gq hu => ?_
      exact hQ u Gr Hr (gr.trans gq) (by rw [hM]; exact hu)
    · intro hb2 G5 H6 g1
      have h_script := up g1.g h_script
      have h_k := up g1.g h_k
      have gr := gr.trans g1
      replace hM := condF hM hb2
      refine s_next ?_
      refine nx_mk ?_
      refine s_ret (K := K) gr.s ev_int fun u Gr Hr gq hu => ?_
      exact hQ u Gr Hr (gr.trans gq) (by rw [hM]; exact hu)
/-! #### _law_draws -/
def m__law_draws_1 (d_37 : Int) (d_35 : (List Int)) : ((List Int) × Int) := (d_35, d_37)
def m__law_draws_2 (d_21 : Int) (d_35 : (List Int)) : ((List Int) × Int) := (m__law_draws_1 (d_21 / (1009 : Int)) d_35)
def m__law_draws_3 (d_21 : Int) (d_59 : (List Int)) : ((List Int) × Int) := (d_59, d_21)
def m__law_draws_4 (d_21 : Int) (d_18 : (List Int)) (d_10 : Int) (d_48 : Int) : ((List Int) × Int) := (m__law_draws_3 d_21 (d_18 ++ [((((d_48 * d_48) + (d_21 * (31 : Int))) + d_10) % (1000003 : Int))]))
def m__law_draws_5 (d_21 : Int) (d_18 : (List Int)) (d_10 : Int) : ((List Int) × Int) := (m__law_draws_4 d_21 d_18 d_10 (((d_21 * (48271 : Int)) + (d_10 * (69621 : Int))) % (2147483647 : Int)))
def m__law_draws_6 (d_4 : Bool) (d_21 : Int) (d_18 : (List Int)) (d_10 : Int) : ((List Int) × Int) := (cond d_4 (m__law_draws_2 d_21 (d_18 ++ [(d_21 % (1009 : Int))])) (m__law_draws_5 d_21 d_18 d_10))
def m__law_draws_7 (d_4 : Bool) (s : (List Int) × Int) (d_10 : Int) : ((List Int) × Int) := m__law_draws_6 d_4 (s).2 (s).1 (d_10)
def m__law_draws_8  (s : (List Int) × Int) : (List Int) := (s).1
def m__law_draws_9 (d_cell : Int) (d_count : Int) (d_1 : (List Int)) (d_4 : Bool) : (List Int) := (m__law_draws_8 (List.foldl (m__law_draws_7 d_4) (d_1, d_cell) (rgs 0 d_count)))
def m__law_draws_10 (d_cell : Int) (d_count : Int) (d_1 : (List Int)) : (List Int) := (m__law_draws_9 d_cell d_count d_1 (decide (((10 : Int) ^ ((18 : Int)).toNat) ≤ d_cell)))
def m__law_draws (d_cell : Int) (d_count : Int) : (List Int) := (m__law_draws_10 d_cell d_count ([] : List Int))
abbrev p__law_draws (K : PySem.W.Frag) : Sp := anyF fun _ => sp2 K (fun _ n => 0 ≤ n ∧ n ≤ 1000) m__law_draws
theorem draws_step (b : Bool) (s : List Int × Int) (k : Int) : ∃ x, 0 ≤ x ∧ (m__law_draws_7 b s k).1 = s.1 ++ [x] := by
  cases b with
  | true => exact ⟨s.2 % 1009, Int.emod_nonneg _ (by decide), rfl⟩
  | false => exact ⟨_, Int.emod_nonneg _ (by decide), rfl⟩
theorem draws_fold (b : Bool) : ∀ (l : List Int) (s : List Int × Int), (List.foldl (m__law_draws_7 b) s l).1.length = s.1.length + l.length
  | [], s => rfl
  | k :: l, s => by
    obtain ⟨x, _, e⟩ := draws_step b s k
    rw [List.foldl_cons, draws_fold b l, e, List.length_append, List.length_cons, List.length_cons, List.length_nil]
    omega
theorem draws_nn (b : Bool) : ∀ (l : List Int) (s : List Int × Int), NN s.1 → NN (List.foldl (m__law_draws_7 b) s l).1
  | [], s, h => h
  | k :: l, s, h => by
    obtain ⟨x, hx, e⟩ := draws_step b s k
    rw [List.foldl_cons]
    refine draws_nn b l _ ?_
    rw [e]
    intro y hy
    rcases List.mem_append.mp hy with q | q
    · exact h y q
    · rw [List.mem_singleton.mp q]; exact hx
theorem draws_len (cell : Int) {n : Int} (h : 0 ≤ n) : (m__law_draws cell n).length = n.toNat := by
  show (List.foldl (m__law_draws_7 _) (([] : List Int), cell) (rgs 0 n)).1.length = _
  rw [draws_fold, rgs_len, List.length_nil]
  omega
theorem draws_pos (cell n : Int) : NN (m__law_draws cell n) := draws_nn _ _ _ (fun _ h => by cases h)

theorem ok__law_draws (T : Tx K mg base A) : FnOk P w K mg base CX0 1 A.f__law_draws A.d__law_draws ["cell", "count"] (p__law_draws K) := by
  refine T.F__law_draws.ok sc__law_draws (fun vs He Q E h => ?_) (fun cdv A0 outer s He vs Q E hr h => ⟨_, (pss_cons (ps_set (i := 2) sc__law_draws.nd rfl (Or.inl rfl) (pe_lst pa_nil)) (pss_cons (ps_set (i := 3) sc__law_draws.nd rfl (Or.inl rfl) (pe_cmpR op_ge (pv 0) (pe_op op_pow pe_int pe_int) (nomark _))) (pss_cons (ps_for PassesOwn.never rfl (pi_range1 rfl T.n_range (pa_cons (pv 1) pa_nil)) (pg_name (i := 4) sc__law_draws.nd rfl (Or.inl rfl)) (pss_one (ps_if (pt_val (pv 3)) (pss_cons (ps_expr (pe_bmK (K := K) PySem.F.plainAttrs_list PySem.F.slot_list_append PySem.F.type_list_append mt_append (pv 2) (pa_cons (pe_op op_mod (pe_callTy call_int1 rfl T.n_int boot_int (pa_cons (pv 0) pa_nil)) pe_int) pa_nil))) (pss_one (ps_set (i := 0) sc__law_draws.nd rfl (Or.inl rfl) (pe_op op_fdiv (pv 0) pe_int)))) (pss_cons (ps_set (i := 5) sc__law_draws.nd rfl (Or.inl rfl) (pe_op op_mod (pe_callTy call_int1 rfl T.n_int boot_int (pa_cons (pe_op op_add (pe_op op_mul (pv 0) pe_int) (pe_op op_mul (pv 4) pe_int)) pa_nil)) pe_int)) (pss_one (ps_expr (pe_bmK (K := K) PySem.F.plainAttrs_list PySem.F.slot_list_append PySem.F.type_list_append mt_append (pv 2) (pa_cons (pe_op op_mod (pe_callTy call_int1 rfl T.n_int boot_int (pa_cons (pe_op op_add (pe_op op_add (pe_op op_mul (pv 5) (pv 5)) (pe_op op_mul (pv 0) pe_int)) (pv 4)) pa_nil)) pe_int) pa_nil)))))))) (pss_one (ps_ret (pv 2)))))), ?_⟩)
  · obtain ⟨fz_, d_cell, d_count, w_cell, w_count, G, rfl, eG, h_cell, h_count, hpre, hQ⟩ := h
    rfl
  · obtain ⟨fz_, d_cell, d_count, w_cell, w_count, G, rfl, eG, h_cell, h_count, hpre, hQ⟩ := h
    have gr : Grow G He G He := Grow.refl eG
    obtain ⟨Ge, eGe⟩ : ∃ z, z = G := ⟨G, rfl⟩
    have gr : Grow Ge He G He := by rw [eGe]; exact gr
    rw [← eGe] at hQ
    clear eGe
    have hM : m__law_draws d_cell d_count = (m__law_draws_10 d_cell d_count ([] : List Int)) := rfl
    refine q_newF gr fun a3 H65 hF_3 hN_3 np3 hH_3 gr sm3 => ?_
    have h_2 := reps_nil (K := K) (α := Int) gr
    generalize ed_1 : ([] : List Int) = d_1 at h_2 hM
    unfold m__law_draws_10 at hM
    refine q_asg (K := K) gr.s (ev_ge (ev_var rfl h_cell) (ev_pow ev_int ev_int ⟨by decide, by decide, by decide⟩)) fun w_5 G8 H9 g7 (h_6 : rep K (decide (((10 : Int) ^ ((18 : Int)).toNat) ≤ d_cell)) w_5 G8) => ?_
    have h_cell := up g7.g h_cell
    have h_count := up g7.g h_count
    have hN_3 := g7.f _ _ hH_3 hN_3
    have hH_3 := g7.h.l hH_3
    have h_2 := Reps.up g7.g h_2
    have gr := gr.trans g7
    generalize ed_4 : (decide (((10 : Int) ^ ((18 : Int)).toNat) ≤ d_cell)) = d_4 at h_6 hM
    unfold m__law_draws_9 at hM
    refine q_forR1 (K := K) gr.s (ev_var rfl h_count) (by first | (first | exact lt_line (by omega) | exact ⟨by omega, by omega⟩) | (first | (constructor <;> omega) | (decide))) fun G13 H14 g16 => ?_
    have h_cell := up g16.g h_cell
    have h_count := up g16.g h_count
    have hN_3 := g16.f _ _ hH_3 hN_3
    have hH_3 := g16.h.l hH_3
    have h_2 := Reps.up g16.g h_2
    have h_6 := up g16.g h_6
    have gr := gr.trans g16
    refine ⟨fun i_ σ_ H_ => ∃ (G64 : Hp) (w_22 : V) (o_24 : Option V) (o_25 : Option V), Grow Ge He G64 H_ ∧ Same G13 G64 ∧ σ_ = [some w_22, some w_count, some (V.ref a3), some w_5, o_25, o_24] ∧ (∃ zs, Reps K (((List.foldl (m__law_draws_7 d_4) (d_1, d_cell) (List.take i_ (rgs 0 d_count)))).1 : (List Int)) zs G64 ∧ H_ a3 = some (.lst zs) ∧ G64 a3 = none) ∧ rep K (((List.foldl (m__law_draws_7 d_4) (d_1, d_cell) (List.take i_ (rgs 0 d_count)))).2 : Int) w_22 G64, ⟨_, w_cell, _, _, gr, Same.refl _, rfl, ⟨_, h_2, hH_3, hN_3⟩, h_cell⟩, ?_, ?_⟩
    · rintro i_0 σ_0 H_0 hlt_0 ⟨G64, w_22, o_24, o_25, gr, sg0, rfl, ⟨zs_3, h_20, hH_3, hN_3⟩, h_23⟩
      obtain ⟨d_10, hx0_0, hx0, lo_0, hi_0⟩ := rgs_at0 hlt_0
      rw [hx0_0]
      have h_12 : rep K d_10 (V.int d_10) G64 := rfl
      generalize ew_11 : V.int d_10 = w_11 at h_12
      have h_count := up sg0 h_count
      have h_6 := up sg0 h_6
      have hMo0 := hM
      clear hM
      have hM : (List.foldl (m__law_draws_7 d_4) (d_1, d_cell) (List.take (i_0 + 1) (rgs 0 d_count))) = (m__law_draws_7 d_4) (List.foldl (m__law_draws_7 d_4) (d_1, d_cell) (List.take i_0 (rgs 0 d_count))) d_10 := by rw [take_snoc hx0, List.foldl_append]; rfl
      have fl_0 := draws_fold d_4 (List.take i_0 (rgs 0 d_count)) (d_1, d_cell)
      rw [List.length_take, rgs_len] at fl_0
      have fz : d_1.length = 0 := by rw [← ed_1]; rfl
      generalize (List.foldl (m__law_draws_7 d_4) (d_1, d_cell) (List.take i_0 (rgs 0 d_count))) = st_0 at h_20 h_23 fl_0 hM
      obtain ⟨d_18, d_21⟩ := st_0
      dsimp only at h_20 h_23 fl_0
      conv at hM => rhs; unfold m__law_draws_7; unfold m__law_draws_6
      dsimp only at hM
      refine s_if gr.s (et_B (ev_var rfl h_6)) ?_ ?_
      · intro hb27 G28 H29 g26
        have h_23 := up g26.g h_23
        have h_count := up g26.g h_count
        have hN_3 := g26.f _ _ hH_3 hN_3
        have hH_3 := g26.h.l hH_3
        have h_20 := Reps.up g26.g h_20
        have h_6 := up g26.g h_6
        have h_12 := up g26.g h_12
        have sg0 := sg0.trans g26.g
        have gr := gr.trans g26
        replace hM := condT hM hb27
        refine q_appF (K := K) gr hF_3 hN_3 rfl hH_3 h_20 (by first | (first | exact lt_line (by omega) | exact ⟨by omega, by omega⟩) | (fail)) (ev_mod (ev_int1 (ev_var rfl h_23)) ev_int (by first | (first | exact lt_line (by omega) | exact ⟨by omega, by omega⟩) | (first | omega | decide | (show _ ≤ sizeLine; decide) | (show _ < sizeLine; decide)))) fun G31 H32 H45 zs43 g30 gr2 hN2 hH2 (h_36 : Reps K (d_18 ++ [(d_21 % (1009 : Int))]) zs43 G31) bt44 => ?_
        have h_23 := up g30.g h_23
        have h_count := up g30.g h_count
        have hN_3 := g30.f _ _ hH_3 hN_3
        have hH_3 := g30.h.l hH_3
        have h_20 := Reps.up g30.g h_20
        have h_6 := up g30.g h_6
        have h_12 := up g30.g h_12
        have sg0 := sg0.trans g30.g
        have gr := gr2
        have hN_3 := hN2
        have hH_3 := hH2
        generalize ed_35 : (d_18 ++ [(d_21 % (1009 : Int))]) = d_35 at h_36 hM
        unfold m__law_draws_2 at hM
        refine s_asg (K := K) gr.s (ev_fdiv (ev_var rfl h_23) ev_int ⟨(by first | (first | exact lt_line (by omega) | exact ⟨by omega, by omega⟩) | (first | omega | decide | (show _ ≤ sizeLine; decide) | (show _ < sizeLine; decide))), (by first | (first | exact lt_line (by omega) | exact ⟨by omega, by omega⟩) | (first | omega | decide | (show _ ≤ sizeLine; decide) | (show _ < sizeLine; decide)))⟩) fun w_38 G41 H42 g40 (h_39 : rep K (d_21 / (1009 : Int)) w_38 G41) => ?_
        have h_count := up g40.g h_count
        have hN_3 := g40.f _ _ hH_3 hN_3
        have hH_3 := g40.h.l hH_3
        have h_36 := Reps.up g40.g h_36
        have h_6 := up g40.g h_6
        have h_12 := up g40.g h_12
        have sg0 := sg0.trans g40.g
        have gr := gr.trans g40
        generalize ed_37 : (d_21 / (1009 : Int)) = d_37 at h_39 hM
        unfold m__law_draws_1 at hM
        exact ⟨_, w_38, _, _, gr, sg0, rfl, ⟨_, (by rw [hM]; exact h_36), hH_3, hN_3⟩, (by rw [hM]; exact h_39)⟩
      · intro hb27 G46 H47 g26
        have h_23 := up g26.g h_23
        have h_count := up g26.g h_count
        have hN_3 := g26.f _ _ hH_3 hN_3
        have hH_3 := g26.h.l hH_3
        have h_20 := Reps.up g26.g h_20
        have h_6 := up g26.g h_6
        have h_12 := up g26.g h_12
        have sg0 := sg0.trans g26.g
        have gr := gr.trans g26
        replace hM := condF hM hb27
        unfold m__law_draws_5 at hM
        refine q_asg (K := K) gr.s (ev_mod (ev_int1 (ev_add (ev_mul (ev_var rfl h_23) ev_int (by first | (first | exact lt_line (by omega) | exact ⟨by omega, by omega⟩) | (first | exact Or.inl ⟨by omega, by omega⟩ | exact Or.inr ⟨by omega, by omega⟩ | (exact Or.inr (by constructor <;> decide))))) (ev_mul (ev_var rfl h_12) ev_int (by first | (first | exact lt_line (by omega) | exact ⟨by omega, by omega⟩) | (first | exact Or.inl ⟨by omega, by omega⟩ | exact Or.inr ⟨by omega, by omega⟩ | (exact Or.inr (by constructor <;> decide))))))) ev_int (by first | (first | exact lt_line (by omega) | exact ⟨by omega, by omega⟩) | (first | omega | decide | (show _ ≤ sizeLine; decide) | (show _ < sizeLine; decide)))) fun w_49 G52 H53 g51 (h_50 : rep K (((d_21 * (48271 : Int)) + (d_10 * (69621 : Int))) % (2147483647 : Int)) w_49 G52) => ?_
        have h_23 := up g51.g h_23
        have h_count := up g51.g h_count
        have hN_3 := g51.f _ _ hH_3 hN_3
        have hH_3 := g51.h.l hH_3
        have h_20 := Reps.up g51.g h_20
        have h_6 := up g51.g h_6
        have h_12 := up g51.g h_12
        have sg0 := sg0.trans g51.g
        have gr := gr.trans g51
        generalize ed_48 : (((d_21 * (48271 : Int)) + (d_10 * (69621 : Int))) % (2147483647 : Int)) = d_48 at h_50 hM
        unfold m__law_draws_4 at hM
        refine s_appF (K := K) gr hF_3 hN_3 rfl hH_3 h_20 (by first | (first | exact lt_line (by omega) | exact ⟨by omega, by omega⟩) | (fail)) (ev_mod (ev_int1 (ev_add (ev_add (ev_mul (ev_var rfl h_50) (ev_var rfl h_50) (by first | (first | exact lt_line (by omega) | exact ⟨by omega, by omega⟩) | (first | exact Or.inl ⟨by omega, by omega⟩ | exact Or.inr ⟨by omega, by omega⟩ | (exact Or.inr (by constructor <;> decide))))) (ev_mul (ev_var rfl h_23) ev_int (by first | (first | exact lt_line (by omega) | exact ⟨by omega, by omega⟩) | (first | exact Or.inl ⟨by omega, by omega⟩ | exact Or.inr ⟨by omega, by omega⟩ | (exact Or.inr (by constructor <;> decide)))))) (ev_var rfl h_12))) ev_int (by first | (first | exact lt_line (by omega) | exact ⟨by omega, by omega⟩) | (first | omega | decide | (show _ ≤ sizeLine; decide) | (show _ < sizeLine; decide)))) fun G55 H56 H63 zs61 g54 gr2 hN2 hH2 (h_60 : Reps K (d_18 ++ [((((d_48 * d_48) + (d_21 * (31 : Int))) + d_10) % (1000003 : Int))]) zs61 G55) bt62 => ?_
        have h_23 := up g54.g h_23
        have h_count := up g54.g h_count
        have hN_3 := g54.f _ _ hH_3 hN_3
        have hH_3 := g54.h.l hH_3
        have h_20 := Reps.up g54.g h_20
        have h_6 := up g54.g h_6
        have h_12 := up g54.g h_12
        have h_50 := up g54.g h_50
        have sg0 := sg0.trans g54.g
        have gr := gr2
        have hN_3 := hN2
        have hH_3 := hH2
        generalize ed_59 : (d_18 ++ [((((d_48 * d_48) + (d_21 * (31 : Int))) + d_10) % (1000003 : Int))]) = d_59 at h_60 hM
        unfold m__law_draws_3 at hM
        exact ⟨_, w_22, _, _, gr, sg0, rfl, ⟨_, (by rw [hM]; exact h_60), hH_3, hN_3⟩, (by rw [hM]; exact h_23)⟩
    · rintro σ_0 H_0 ⟨G64, w_22, o_24, o_25, gr, sg0, rfl, ⟨zs_3, h_20, hH_3, hN_3⟩, h_23⟩
      have h_count := up sg0 h_count
      have h_6 := up sg0 h_6
      rw [rgs_take0] at h_20
      rw [rgs_take0] at h_23
      generalize est_0 : (List.foldl (m__law_draws_7 d_4) (d_1, d_cell) (rgs 0 d_count)) = st_0 at h_20 h_23 hM
      obtain ⟨d_18, d_21⟩ := st_0
      dsimp only at h_20 h_23
      unfold m__law_draws_8 at hM
      try dsimp only at hM
      refine s_ret (K := K) (gr.fix hF_3 hN_3 hH_3).s (ev_var rfl (fix_rep h_20 hN_3)) fun u Gr Hr gq hu => ?_
      exact hQ u Gr Hr ((gr.fix hF_3 hN_3 hH_3).trans gq) (by rw [hM]; exact hu)
/-! #### _law_same -/
/-- data of at most n levels that may be compared: none, bools, ints, texts, tuples of such -/
def atomD (d : PyData) : Bool := isNonD d || (isBoolD d || (isStrD d || isNumD d))
def Pl : Nat → PyData → Prop
  | 0, _ => False
  | n + 1, d => (atomD d = true ∧ SeqAt.shaped d = true) ∨ ∃ ds, d = .tuple ds ∧ ds.length ≤ 1000 ∧ ∀ x ∈ ds, Pl n x
theorem pl_shaped {n : Nat} {d : PyData} (h : Pl (n + 1) d) (k : isTupD d = false) : SeqAt.shaped d = true := by
  rcases h with h | ⟨ds, e, _⟩
  · exact h.2
  · rw [e] at k; cases k
theorem pl_tup {n : Nat} {d : PyData} (h : Pl (n + 1) d) (k : isTupD d = true) : ∃ ds, d = .tuple ds ∧ ds.length ≤ 1000 ∧ ∀ x ∈ ds, Pl n x := by
  rcases h with h | h
  · cases d <;> first | exact Bool.noConfusion k | exact Bool.noConfusion h.1
  · exact h
theorem pl_item {n : Nat} {d : PyData} {i : Int} (h : Pl (n + 1) d) (k : isTupD d = true) (h0 : 0 ≤ i) (h1 : i < ((Tpl.mk (tupD d)).l.length : Int)) : Pl n (getI (Tpl.mk (tupD d)).l i) := by
  obtain ⟨ds, e, _, a⟩ := pl_tup h k
  subst e
  exact a _ (getI_mem (at_in h0 h1))
theorem pl_rng {n : Nat} {d : PyData} (h : Pl (n + 1) d) (k : isTupD d = true) : -(2 ^ 62) ≤ ((Tpl.mk (tupD d)).l.length : Int) ∧ ((Tpl.mk (tupD d)).l.length : Int) < 2 ^ 62 := by
  obtain ⟨ds, e, l, _⟩ := pl_tup h k
  subst e
  show -(2 ^ 62) ≤ (ds.length : Int) ∧ (ds.length : Int) < 2 ^ 62
  omega
def mm_same_1 (d_actual : PyData) (d_expected : PyData) (d_13 : Int) : (Step (Unit) Bool) := (cond (!((fun (_ _ : PyData) => true) (getI ((Tpl.mk (tupD d_actual))).l d_13) (getI ((Tpl.mk (tupD d_expected))).l d_13))) (Step.ret false) (Step.go ()))
def mm_same_2 (d_actual : PyData) (d_expected : PyData) (s : Unit) (d_13 : Int) : (Step (Unit) Bool) := mm_same_1 d_actual d_expected (d_13)
def mm_same_3  (s : Unit) : Bool := true
def mm_same_4 (d_actual : PyData) (d_expected : PyData) : Bool := (exitF (runL (mm_same_2 d_actual d_expected) () (rgs 0 (((Tpl.mk (tupD d_expected))).l.length : Int))) mm_same_3)
def mm_same_5 (d_actual : PyData) (d_expected : PyData) : Bool := (cond ((!(isTupD d_actual)) || (!eqB (((Tpl.mk (tupD d_actual))).l.length : Int) (((Tpl.mk (tupD d_expected))).l.length : Int))) false (mm_same_4 d_actual d_expected))
def mm_same_6 (d_actual : PyData) (d_expected : PyData) : Bool := ((isIntD d_actual) && ((!(isBoolD d_actual)) && (PyData.eqv (Dat.d d_actual) (Dat.d d_expected))))
def mm_same_7 (d_actual : PyData) (d_expected : PyData) : Bool := (cond (isStrD d_expected) ((isStrD d_actual) && (PyData.eqv (Dat.d d_actual) (Dat.d d_expected))) (mm_same_6 d_actual d_expected))
def mm_same_8 (d_actual : PyData) (d_expected : PyData) : Bool := (cond (isBoolD d_expected) ((isBoolD d_actual) && (PyData.eqv (Dat.d d_actual) (Dat.d d_expected))) (mm_same_7 d_actual d_expected))
def mm_same (d_actual : PyData) (d_expected : PyData) : Bool := (cond (isTupD d_expected) (mm_same_5 d_actual d_expected) (cond (isNonD d_expected) (isNonD d_actual) (mm_same_8 d_actual d_expected)))
theorem same_true {n : Nat} {a e : PyData} (h : a = e ∧ Pl (n + 1) e) : mm_same a e = true := by
  obtain ⟨e1, h⟩ := h
  subst e1
  rcases h with ⟨h1, h2⟩ | ⟨ds, e, l, p⟩
  · have hd : PyData.eqv a a = true := SeqAt.eqv_refl _ (Bool.and_eq_true_iff.mp h2).1
    cases a with
    | none => rfl
    | bool b => exact hd
    | int i => exact hd
    | str s => exact hd
    | list _ => cases h1
    | tuple _ => cases h1
    | dict _ => cases h1
  · subst e
    show cond ((!true) || (!eqB (ds.length : Int) (ds.length : Int))) false (mm_same_4 (.tuple ds) (.tuple ds)) = true
    rw [eqB_self]
    show exitF (runL (mm_same_2 (.tuple ds) (.tuple ds)) () (rgs 0 (ds.length : Int))) mm_same_3 = true
    rw [runL_all (fun k _ => ?_)]
    · rfl
    · rfl
theorem step_same (T : Tx K mg base A) {n k : Nat} (ih : FnOk P w K mg base CX0 k A.f__law_same A.d__law_same ["actual", "expected"] (anyF fun _ => sp2 K (fun a e => a = e ∧ Pl n e) (fun (_ _ : PyData) => true))) : FnOk P w K mg base CX0 (k + 1) A.f__law_same A.d__law_same ["actual", "expected"] (anyF fun _ => sp2 K (fun a e => a = e ∧ Pl (n + 1) e) (fun (_ _ : PyData) => true)) := by
  refine T.F__law_same.ok sc__law_same (fun vs He Q E h => ?_) (fun cdv A0 outer s He vs Q E hr h => ⟨_, (pss_cons (ps_if (pt_val (pe_callB (call_isiK (K := K)) rfl T.n_isinstance boot_isinstance (pa_cons (pv 1) (pa_cons (pe_bltn (v := .ty "tuple") rfl T.n_tuple (by decide +kernel) rfl) pa_nil)))) (pss_cons (ps_if (PW.pt (pw_or (pt_not (pt_val (pe_callB (call_isiK (K := K)) rfl T.n_isinstance boot_isinstance (pa_cons (pv 0) (pa_cons (pe_bltn (v := .ty "tuple") rfl T.n_tuple (by decide +kernel) rfl) pa_nil))))) (pw_or1 (pt_cmpR op_ne (pe_callB (call_lenK (K := K)) rfl T.n_len boot_len (pa_cons (pv 0) pa_nil)) (pe_callB (call_lenK (K := K)) rfl T.n_len boot_len (pa_cons (pv 1) pa_nil)) (nomark _))))) (pss_one (ps_ret pe_bl)) pss_nil) (pss_cons (ps_for PassesOwn.never rfl (pi_range1 rfl T.n_range (pa_cons (pe_callB (call_lenK (K := K)) rfl T.n_len boot_len (pa_cons (pv 1) pa_nil)) pa_nil)) (pg_name (i := 2) sc__law_same.nd rfl (Or.inl rfl)) (pss_one (ps_if (pt_not (pt_val (pe_call (ih) hr rfl T.g__law_same T.F__law_same.kp T.b__law_same .nil pass0 (pa_cons (pe_ix (ix_tupK (K := K)) (pv 0) (pv 2) fun _ _ => rfl) (pa_cons (pe_ix (ix_tupK (K := K)) (pv 1) (pv 2) fun _ _ => rfl) pa_nil))))) (pss_one (ps_ret pe_bl)) pss_nil))) (pss_one (ps_ret pe_bl)))) pss_nil) (pss_cons (ps_if (pt_cmpR op_isN (pv 1) pe_non (nomark _)) (pss_one (ps_ret (pe_cmpR op_isN (pv 0) pe_non (nomark _)))) pss_nil) (pss_cons (ps_if (pt_val (pe_callB (call_isiK (K := K)) rfl T.n_isinstance boot_isinstance (pa_cons (pv 1) (pa_cons (pe_bltn (v := .ty "bool") rfl T.n_bool (by decide +kernel) rfl) pa_nil)))) (pss_one (ps_ret (pe_and (pe_callB (call_isiK (K := K)) rfl T.n_isinstance boot_isinstance (pa_cons (pv 0) (pa_cons (pe_bltn (v := .ty "bool") rfl T.n_bool (by decide +kernel) rfl) pa_nil))) (pe_one (pe_cmpR (op_eqK (K := K) hr.units) (pv 0) (pv 1) (nomark _)))))) pss_nil) (pss_cons (ps_if (pt_val (pe_callB (call_isiK (K := K)) rfl T.n_isinstance boot_isinstance (pa_cons (pv 1) (pa_cons (pe_bltn (v := .ty "str") rfl T.n_str (by decide +kernel) rfl) pa_nil)))) (pss_one (ps_ret (pe_and (pe_callB (call_isiK (K := K)) rfl T.n_isinstance boot_isinstance (pa_cons (pv 0) (pa_cons (pe_bltn (v := .ty "str") rfl T.n_str (by decide +kernel) rfl) pa_nil))) (pe_one (pe_cmpR (op_eqK (K := K) hr.units) (pv 0) (pv 1) (nomark _)))))) pss_nil) (pss_one (ps_ret (pe_and (pe_callB (call_isiK (K := K)) rfl T.n_isinstance boot_isinstance (pa_cons (pv 0) (pa_cons (pe_bltn (v := .ty "int") rfl T.n_int (by decide +kernel) rfl) pa_nil))) (pe_and (pe_not (pe_callB (call_isiK (K := K)) rfl T.n_isinstance boot_isinstance (pa_cons (pv 0) (pa_cons (pe_bltn (v := .ty "bool") rfl T.n_bool (by decide +kernel) rfl) pa_nil)))) (pe_one (pe_cmpR (op_eqK (K := K) hr.units) (pv 0) (pv 1) (nomark _))))))))))), ?_⟩)
  · obtain ⟨fz_, d_actual, d_expected, w_actual, w_expected, G, rfl, eG, h_actual, h_expected, hpre, hQ⟩ := h
    rfl
  · obtain ⟨fz_, d_actual, d_expected, w_actual, w_expected, G, rfl, eG, h_actual, h_expected, hpre, hQ⟩ := h
    have hQ : ∀ u G' H', Grow G He G' H' → rep K (mm_same d_actual d_expected) u G' → Q u H' := fun u G' H' g r => hQ u G' H' g (by rw [same_true hpre] at r; exact r)
    have gr : Grow G He G He := Grow.refl eG
    obtain ⟨Ge, eGe⟩ : ∃ z, z = G := ⟨G, rfl⟩
    have gr : Grow Ge He G He := by rw [eGe]; exact gr
    rw [← eGe] at hQ
    clear eGe
    have hM : mm_same d_actual d_expected = (cond (isTupD d_expected) (mm_same_5 d_actual d_expected) (cond (isNonD d_expected) (isNonD d_actual) (mm_same_8 d_actual d_expected))) := rfl
    refine q_if gr.s (et_B (ev_isTupD (ev_var rfl h_expected))) ?_ ?_
    · intro hb2 G3 H4 g1
      have h_actual := up g1.g h_actual
      have h_expected := up g1.g h_expected
      have gr := gr.trans g1
      replace hM := condT hM hb2
      unfold mm_same_5 at hM
      refine q_if gr.s (et_or (et_not (et_B (ev_isTupD (ev_var rfl h_actual)))) (fun hb5 => (et_test (ev_ne (ev_lenT (ev_asTup (ev_var rfl h_actual) (by first | assumption | exact or_l (by assumption) | exact or_l (or_r (by assumption)) | exact num_of (by assumption) (by assumption) | exact not_fA (by assumption) | (first | omega | decide)))) (ev_lenT (ev_asTup (ev_var rfl h_expected) (by first | assumption | exact or_l (by assumption) | exact or_l (or_r (by assumption)) | exact num_of (by assumption) (by assumption) | exact not_fA (by assumption) | (first | omega | decide)))))))) ?_ ?_
      · intro hb8 G9 H10 g7
        have h_actual := up g7.g h_actual
        have h_expected := up g7.g h_expected
        have gr := gr.trans g7
        replace hM := condT hM hb8
        refine s_ret (K := K) gr.s ev_bl fun u Gr Hr gq hu => ?_
        exact hQ u Gr Hr (gr.trans gq) (by rw [hM]; exact hu)
      · intro hb8 G11 H12 g7
        have h_actual := up g7.g h_actual
        have h_expected := up g7.g h_expected
        have gr := gr.trans g7
        replace hM := condF hM hb8
        unfold mm_same_4 at hM
        refine s_next ?_
        refine nx_mk ?_
        refine q_forR1 (K := K) gr.s (ev_lenT (ev_asTup (ev_var rfl h_expected) (by first | assumption | exact or_l (by assumption) | exact or_l (or_r (by assumption)) | exact num_of (by assumption) (by assumption) | exact not_fA (by assumption) | (first | omega | decide)))) (pl_rng hpre.2 (by assumption)) fun G16 H17 g19 => ?_
        have h_actual := up g19.g h_actual
        have h_expected := up g19.g h_expected
        have gr := gr.trans g19
        refine ⟨fun i_ σ_ H_ => ∃ st_ : Unit, (runL (mm_same_2 d_actual d_expected) () (List.take i_ (rgs 0 (((Tpl.mk (tupD d_expected))).l.length : Int)))) = Step.go st_ ∧ ∃ (G28 : Hp) (o_21 : Option V), Grow Ge He G28 H_ ∧ Same G16 G28 ∧ σ_ = [some w_actual, some w_expected, o_21], ⟨(), rfl, _, _, gr, Same.refl _, rfl⟩, ?_, ?_⟩
        · rintro i_0 σ_0 H_0 hlt_0 ⟨st_0, hgo0, G28, o_21, gr, sg0, rfl⟩
          obtain ⟨d_13, hx0_0, hx0, lo_0, hi_0⟩ := rgs_at0 hlt_0
          rw [hx0_0]
          have h_15 : rep K d_13 (V.int d_13) G28 := rfl
          generalize ew_14 : V.int d_13 = w_14 at h_15
          have h_actual := up sg0 h_actual
          have h_expected := up sg0 h_expected
          have hMo0 := hM
          clear hM
          obtain ⟨⟩ := st_0
          have hM : (mm_same_2 d_actual d_expected) () d_13 = (mm_same_2 d_actual d_expected) () d_13 := rfl
          conv at hM => rhs; unfold mm_same_2; unfold mm_same_1
          refine s_if gr.s (et_not (et_B (ev_call2A (ev_ixT (ev_asTup (ev_var rfl h_actual) (by first | assumption | exact or_l (by assumption) | exact or_l (or_r (by assumption)) | exact num_of (by assumption) (by assumption) | exact not_fA (by assumption) | (first | omega | decide))) (ev_var rfl h_15) (atI_get (by first | exact at_in lo_0 (by rw [hpre.1]; exact hi_0) | exact at_in lo_0 hi_0 | decide | (refine at_in ?_ ?_ <;> omega) | (refine at_neg ?_ ?_ <;> omega)))) (ev_ixT (ev_asTup (ev_var rfl h_expected) (by first | assumption | exact or_l (by assumption) | exact or_l (or_r (by assumption)) | exact num_of (by assumption) (by assumption) | exact not_fA (by assumption) | (first | omega | decide))) (ev_var rfl h_15) (atI_get (by first | exact at_in lo_0 (by rw [hpre.1]; exact hi_0) | exact at_in lo_0 hi_0 | decide | (refine at_in ?_ ?_ <;> omega) | (refine at_neg ?_ ?_ <;> omega)))) ⟨by rw [hpre.1], pl_item hpre.2 (by assumption) lo_0 hi_0⟩))) ?_ ?_
          · intro hb23 G24 H25 g22
            have h_actual := up g22.g h_actual
            have h_expected := up g22.g h_expected
            have h_15 := up g22.g h_15
            have sg0 := sg0.trans g22.g
            have gr := gr.trans g22
            replace hM := condT hM hb23
            refine s_ret (K := K) gr.s ev_bl fun u Gr Hr gq hu => ?_
            exact hQ u Gr Hr (gr.trans gq) (by rw [(exitF_ret hMo0 (runL_ret hgo0 hx0 hM))]; exact hu)
          · intro hb23 G26 H27 g22
            have h_actual := up g22.g h_actual
            have h_expected := up g22.g h_expected
            have h_15 := up g22.g h_15
            have sg0 := sg0.trans g22.g
            have gr := gr.trans g22
            replace hM := condF hM hb23
            refine s_next ?_
            exact ⟨_, (runL_go hgo0 hx0 hM), _, _, gr, sg0, rfl⟩
        · rintro σ_0 H_0 ⟨st_0, hgo0, G28, o_21, gr, sg0, rfl⟩
          have h_actual := up sg0 h_actual
          have h_expected := up sg0 h_expected
          rw [rgs_take0] at hgo0
          rw [hgo0, exitF_go] at hM
          unfold mm_same_3 at hM
          refine s_ret (K := K) gr.s ev_bl fun u Gr Hr gq hu => ?_
          exact hQ u Gr Hr (gr.trans gq) (by rw [hM]; exact hu)
    · intro hb2 G29 H30 g1
      have h_actual := up g1.g h_actual
      have h_expected := up g1.g h_expected
      have gr := gr.trans g1
      replace hM := condF hM hb2
      refine s_next ?_
      refine nx_mk ?_
      refine q_if gr.s (et_test (ev_isND (ev_var rfl h_expected))) ?_ ?_
      · intro hb32 G33 H34 g31
        have h_actual := up g31.g h_actual
        have h_expected := up g31.g h_expected
        have gr := gr.trans g31
        replace hM := condT hM hb32
        refine s_ret (K := K) gr.s (ev_isND (ev_var rfl h_actual)) fun u Gr Hr gq hu => ?_
        exact hQ u Gr Hr (gr.trans gq) (by rw [hM]; exact hu)
      · intro hb32 G35 H36 g31
        have h_actual := up g31.g h_actual
        have h_expected := up g31.g h_expected
        have gr := gr.trans g31
        replace hM := condF hM hb32
        unfold mm_same_8 at hM
        refine s_next ?_
        refine nx_mk ?_
        refine q_if gr.s (et_B (ev_isBoolD (ev_var rfl h_expected))) ?_ ?_
        · intro hb38 G39 H40 g37
          have h_actual := up g37.g h_actual
          have h_expected := up g37.g h_expected
          have gr := gr.trans g37
          replace hM := condT hM hb38
          refine s_ret (K := K) gr.s (ev_andV (ev_isBoolD (ev_var rfl h_actual)) (fun hb41 => (ev_eqD (ev_var rfl h_actual) (ev_var rfl h_expected) ⟨by rw [hpre.1]; exact pl_shaped hpre.2 (by assumption), pl_shaped hpre.2 (by assumption)⟩))) fun u Gr Hr gq hu => ?_
          exact hQ u Gr Hr (gr.trans gq) (by rw [hM]; exact hu)
        · intro hb38 G42 H43 g37
          have h_actual := up g37.g h_actual
          have h_expected := up g37.g h_expected
          have gr := gr.trans g37
          replace hM := condF hM hb38
          unfold mm_same_7 at hM
          refine s_next ?_
          refine nx_mk ?_
          refine q_if gr.s (et_B (ev_isStrD (ev_var rfl h_expected))) ?_ ?_
          · intro hb45 G46 H47 g44
            have h_actual := up g44.g h_actual
            have h_expected := up g44.g h_expected
            have gr := gr.trans g44
            replace hM := condT hM hb45
            refine s_ret (K := K) gr.s (ev_andV (ev_isStrD (ev_var rfl h_actual)) (fun hb48 => (ev_eqD (ev_var rfl h_actual) (ev_var rfl h_expected) ⟨by rw [hpre.1]; exact pl_shaped hpre.2 (by assumption), pl_shaped hpre.2 (by assumption)⟩))) fun u Gr Hr gq hu => ?_
            exact hQ u Gr Hr (gr.trans gq) (by rw [hM]; exact hu)
          · intro hb45 G49 H50 g44
            have h_actual := up g44.g h_actual
            have h_expected := up g44.g h_expected
            have gr := gr.trans g44
            replace hM := condF hM hb45
            unfold mm_same_6 at hM
            refine s_next ?_
            refine nx_mk ?_
            refine s_ret (K := K) gr.s (ev_andV (ev_isIntD (ev_var rfl h_actual)) (fun hb52 => (ev_andV (ev_notV (ev_isBoolD (ev_var rfl h_actual))) (fun hb51 => (ev_eqD (ev_var rfl h_actual) (ev_var rfl h_expected) ⟨by rw [hpre.1]; exact pl_shaped hpre.2 (by assumption), pl_shaped hpre.2 (by assumption)⟩))))) fun u Gr Hr gq hu => ?_
            exact hQ u Gr Hr (gr.trans gq) (by rw [hM]; exact hu)
theorem all_same (T : Tx K mg base A) : ∀ n : Nat, FnOk P w K mg base CX0 (n + 1) A.f__law_same A.d__law_same ["actual", "expected"] (anyF fun _ => sp2 K (fun a e => a = e ∧ Pl n e) (fun (_ _ : PyData) => true))
  | 0 => T.F__law_same.ok sc__law_same (fun vs H Q E h => by obtain ⟨_, _, _, _, _, _, _, _, _, _, hp, _⟩ := h; exact hp.2.elim) (fun cdv A0 outer s H vs Q E hr h => by obtain ⟨_, _, _, _, _, _, _, _, _, _, hp, _⟩ := h; exact hp.2.elim)
  | n + 1 => step_same T (all_same T n)
def m__law_same (_ _ : PyData) : Bool := true
abbrev p__law_same [Tb] (K : PySem.W.Frag) : Sp := anyF fun _ => sp2 K (fun a e => a = e ∧ Pl 5 e) m__law_same
theorem ok__law_same (T : Tx K mg base A) : FnOk P w K mg base CX0 6 A.f__law_same A.d__law_same ["actual", "expected"] (p__law_same K) := all_same T 5

/-! #### _law_path -/
def m__law_path_1 (d_25 : (List Str)) : ((List Str)) := d_25
def m__law_path_2 (d_draws : (List Int)) (d_16 : (List Str)) (d_8 : Int) : ((List Str)) := (m__law_path_1 (d_16 ++ [((getI (("a" : Str) :: (("b" : Str) :: (("c" : Str) :: ([] : List Str)))) ((getI d_draws ((3 : Int) + d_8)) % (3 : Int))) ++ (PySem.Str.ofString (toString d_8)))]))
def m__law_path_3 (d_draws : (List Int)) (s : (List Str)) (d_8 : Int) : ((List Str)) := m__law_path_2 d_draws s (d_8)
def m__law_path_4  (s : (List Str)) : (List Str) := s
def m__law_path_5 (d_draws : (List Int)) (d_1 : (List Str)) : (List Str) := (m__law_path_4 (List.foldl (m__law_path_3 d_draws) d_1 (rgs 0 ((getI d_draws (2 : Int)) % (4 : Int)))))
def m__law_path (d_draws : (List Int)) : (List Str) := (m__law_path_5 d_draws (cutL (("root" : Str) :: (("list" : Str) :: (("ask" : Str) :: (("bar" : Str) :: ([] : List Str))))) (some ((getI d_draws (1 : Int)) % (2 : Int))) (some ((1 : Int) + ((getI d_draws (1 : Int)) % (2 : Int))))))
abbrev p__law_path (K : PySem.W.Frag) : Sp := anyF fun _ => sp1 K (fun d => d.length = 8) m__law_path

theorem path_fold (d : List Int) : ∀ (l : List Int) (s : List Str), (List.foldl (m__law_path_3 d) s l).length = s.length + l.length
  | [], s => rfl
  | k :: l, s => by
    rw [List.foldl_cons, path_fold d l]
    show (s ++ [_]).length + l.length = _
    rw [List.length_append, List.length_cons, List.length_cons, List.length_nil]
    omega

theorem ok__law_path (T : Tx K mg base A) : FnOk P w K mg base CX0 1 A.f__law_path A.d__law_path ["draws"] (p__law_path K) := by
  refine T.F__law_path.ok sc__law_path (fun vs He Q E h => ?_) (fun cdv A0 outer s He vs Q E hr h => ⟨_, (pss_cons (ps_set (i := 1) sc__law_path.nd rfl (Or.inl rfl) (pe_slice (sl_listK (K := K)) (pe_lst (pa_cons pe_str (pa_cons pe_str (pa_cons pe_str (pa_cons pe_str pa_nil))))) (po_some (pe_op op_mod (pe_callTy call_int1 rfl T.n_int boot_int (pa_cons (pe_ix (ix_listK (K := K)) (pv 0) pe_int fun _ _ => rfl) pa_nil)) pe_int)) (po_some (pe_op op_add pe_int (pe_op op_mod (pe_callTy call_int1 rfl T.n_int boot_int (pa_cons (pe_ix (ix_listK (K := K)) (pv 0) pe_int fun _ _ => rfl) pa_nil)) pe_int))))) (pss_cons (ps_for PassesOwn.never rfl (pi_range1 rfl T.n_range (pa_cons (pe_op op_mod (pe_callTy call_int1 rfl T.n_int boot_int (pa_cons (pe_ix (ix_listK (K := K)) (pv 0) pe_int fun _ _ => rfl) pa_nil)) pe_int) pa_nil)) (pg_name (i := 2) sc__law_path.nd rfl (Or.inl rfl)) (pss_one (ps_expr (pe_bmK (K := K) PySem.F.plainAttrs_list PySem.F.slot_list_append PySem.F.type_list_append mt_append (pv 1) (pa_cons (pe_op op_add_str (pe_ix (ix_listK (K := K)) (pe_lst (pa_cons pe_str (pa_cons pe_str (pa_cons pe_str pa_nil)))) (pe_op op_mod (pe_callTy call_int1 rfl T.n_int boot_int (pa_cons (pe_ix (ix_listK (K := K)) (pv 0) (pe_op op_add pe_int (pv 2)) fun _ _ => rfl) pa_nil)) pe_int) fun _ _ => rfl) (pe_callTy call_str_int rfl T.n_str boot_str (pa_cons (pv 2) pa_nil))) pa_nil))))) (pss_one (ps_ret (pv 1))))), ?_⟩)
  · obtain ⟨fz_, d_draws, w_draws, G, rfl, eG, h_draws, hpre, hQ⟩ := h
    rfl
  · obtain ⟨fz_, d_draws, w_draws, G, rfl, eG, h_draws, hpre, hQ⟩ := h
    have gr : Grow G He G He := Grow.refl eG
    obtain ⟨Ge, eGe⟩ : ∃ z, z = G := ⟨G, rfl⟩
    have gr : Grow Ge He G He := by rw [eGe]; exact gr
    rw [← eGe] at hQ
    clear eGe
    have hM : m__law_path d_draws = (m__law_path_5 d_draws (cutL (("root" : Str) :: (("list" : Str) :: (("ask" : Str) :: (("bar" : Str) :: ([] : List Str))))) (some ((getI d_draws (1 : Int)) % (2 : Int))) (some ((1 : Int) + ((getI d_draws (1 : Int)) % (2 : Int)))))) := rfl
    refine q_newSl (K := K) gr (ev_lst (ea_cons ev_str (ea_cons ev_str (ea_cons ev_str (ea_cons ev_str ea_nil)))) (by first | (first | exact at_in (by omega) (by rw [hpre]; omega) | exact lt_line (by omega) | exact at_in (Int.emod_nonneg _ (by decide)) (Int.emod_lt_of_pos _ (by decide)) | exact log_sm (by omega) (by omega) | exact Nat.le_trans (Nat.add_le_add (pick_len (by decide) _) (small_txt' (by omega) (by omega)).1) (by decide) | omega) | (first | (show _ ≤ sizeLine; decide) | (simp only [List.length_cons, List.length_nil, List.length_append, sizeLine_eq]; omega) | (fail)))) (eo_some (ev_mod (ev_int1 (ev_ixL (ev_var rfl h_draws) ev_int (atI_get (by first | (first | exact at_in (by omega) (by rw [hpre]; omega) | exact lt_line (by omega) | exact at_in (Int.emod_nonneg _ (by decide)) (Int.emod_lt_of_pos _ (by decide)) | exact log_sm (by omega) (by omega) | exact Nat.le_trans (Nat.add_le_add (pick_len (by decide) _) (small_txt' (by omega) (by omega)).1) (by decide) | omega) | (first | decide | (refine at_in ?_ ?_ <;> omega) | (refine at_neg ?_ ?_ <;> omega)))))) ev_int (by first | (first | exact at_in (by omega) (by rw [hpre]; omega) | exact lt_line (by omega) | exact at_in (Int.emod_nonneg _ (by decide)) (Int.emod_lt_of_pos _ (by decide)) | exact log_sm (by omega) (by omega) | exact Nat.le_trans (Nat.add_le_add (pick_len (by decide) _) (small_txt' (by omega) (by omega)).1) (by decide) | omega) | (first | omega | decide | (show _ ≤ sizeLine; decide) | (show _ < sizeLine; decide))))) (eo_some (ev_add ev_int (ev_mod (ev_int1 (ev_ixL (ev_var rfl h_draws) ev_int (atI_get (by first | (first | exact at_in (by omega) (by rw [hpre]; omega) | exact lt_line (by omega) | exact at_in (Int.emod_nonneg _ (by decide)) (Int.emod_lt_of_pos _ (by decide)) | exact log_sm (by omega) (by omega) | exact Nat.le_trans (Nat.add_le_add (pick_len (by decide) _) (small_txt' (by omega) (by omega)).1) (by decide) | omega) | (first | decide | (refine at_in ?_ ?_ <;> omega) | (refine at_neg ?_ ?_ <;> omega)))))) ev_int (by first | (first | exact at_in (by omega) (by rw [hpre]; omega) | exact lt_line (by omega) | exact at_in (Int.emod_nonneg _ (by decide)) (Int.emod_lt_of_pos _ (by decide)) | exact log_sm (by omega) (by omega) | exact Nat.le_trans (Nat.add_le_add (pick_len (by decide) _) (small_txt' (by omega) (by omega)).1) (by decide) | omega) | (first | omega | decide | (show _ ≤ sizeLine; decide) | (show _ < sizeLine; decide)))))) fun G5 H6 a3 H7 zs3 g4 hF_3 hN_3 hH_3 h_2 gr2 sm3 => ?_
    have h_draws := up g4.g h_draws
    have gr := gr2
    generalize ed_1 : (cutL (("root" : Str) :: (("list" : Str) :: (("ask" : Str) :: (("bar" : Str) :: ([] : List Str))))) (some ((getI d_draws (1 : Int)) % (2 : Int))) (some ((1 : Int) + ((getI d_draws (1 : Int)) % (2 : Int))))) = d_1 at h_2 hM
    unfold m__law_path_5 at hM
    refine q_forR1 (K := K) gr.s (ev_mod (ev_int1 (ev_ixL (ev_var rfl h_draws) ev_int (atI_get (by first | (first | exact at_in (by omega) (by rw [hpre]; omega) | exact lt_line (by omega) | exact at_in (Int.emod_nonneg _ (by decide)) (Int.emod_lt_of_pos _ (by decide)) | exact log_sm (by omega) (by omega) | exact Nat.le_trans (Nat.add_le_add (pick_len (by decide) _) (small_txt' (by omega) (by omega)).1) (by decide) | omega) | (first | decide | (refine at_in ?_ ?_ <;> omega) | (refine at_neg ?_ ?_ <;> omega)))))) ev_int (by first | (first | exact at_in (by omega) (by rw [hpre]; omega) | exact lt_line (by omega) | exact at_in (Int.emod_nonneg _ (by decide)) (Int.emod_lt_of_pos _ (by decide)) | exact log_sm (by omega) (by omega) | exact Nat.le_trans (Nat.add_le_add (pick_len (by decide) _) (small_txt' (by omega) (by omega)).1) (by decide) | omega) | (first | omega | decide | (show _ ≤ sizeLine; decide) | (show _ < sizeLine; decide)))) (by first | (first | exact at_in (by omega) (by rw [hpre]; omega) | exact lt_line (by omega) | exact at_in (Int.emod_nonneg _ (by decide)) (Int.emod_lt_of_pos _ (by decide)) | exact log_sm (by omega) (by omega) | exact Nat.le_trans (Nat.add_le_add (pick_len (by decide) _) (small_txt' (by omega) (by omega)).1) (by decide) | omega) | (first | (constructor <;> omega) | (decide))) fun G11 H12 g14 => ?_
    have h_draws := up g14.g h_draws
    have hN_3 := g14.f _ _ hH_3 hN_3
    have hH_3 := g14.h.l hH_3
    have h_2 := Reps.up g14.g h_2
    have gr := gr.trans g14
    refine ⟨fun i_ σ_ H_ => ∃ (G30 : Hp) (o_19 : Option V), Grow Ge He G30 H_ ∧ Same G11 G30 ∧ σ_ = [some w_draws, some (V.ref a3), o_19] ∧ (∃ zs, Reps K ((List.foldl (m__law_path_3 d_draws) d_1 (List.take i_ (rgs 0 ((getI d_draws (2 : Int)) % (4 : Int))))) : (List Str)) zs G30 ∧ H_ a3 = some (.lst zs) ∧ G30 a3 = none), ⟨_, _, gr, Same.refl _, rfl, ⟨_, h_2, hH_3, hN_3⟩⟩, ?_, ?_⟩
    · rintro i_0 σ_0 H_0 hlt_0 ⟨G30, o_19, gr, sg0, rfl, ⟨zs_3, h_18, hH_3, hN_3⟩⟩
      obtain ⟨d_8, hx0_0, hx0, lo_0, hi_0⟩ := rgs_at0 hlt_0
      rw [hx0_0]
      have h_10 : rep K d_8 (V.int d_8) G30 := rfl
      generalize ew_9 : V.int d_8 = w_9 at h_10
      have h_draws := up sg0 h_draws
      have hMo0 := hM
      clear hM
      have hM : (List.foldl (m__law_path_3 d_draws) d_1 (List.take (i_0 + 1) (rgs 0 ((getI d_draws (2 : Int)) % (4 : Int))))) = (m__law_path_3 d_draws) (List.foldl (m__law_path_3 d_draws) d_1 (List.take i_0 (rgs 0 ((getI d_draws (2 : Int)) % (4 : Int))))) d_8 := by rw [take_snoc hx0, List.foldl_append]; rfl
      have fl_0 := path_fold d_draws (List.take i_0 (rgs 0 (getI d_draws (2 : Int) % 4))) d_1
      rw [List.length_take, rgs_len] at fl_0
      have fz : d_1.length ≤ 4 := by rw [← ed_1]; exact cutL_len _ _ _
      have f4 := Int.emod_lt_of_pos (getI d_draws (2 : Int)) (b := 4) (by decide)
      generalize (List.foldl (m__law_path_3 d_draws) d_1 (List.take i_0 (rgs 0 ((getI d_draws (2 : Int)) % (4 : Int))))) = st_0 at h_18 fl_0 hM
      obtain ⟨d_16, est_0⟩ : ∃ z, z = st_0 := ⟨_, rfl⟩
      subst est_0
      conv at hM => rhs; unfold m__law_path_3; unfold m__law_path_2
      refine s_appF (K := K) gr hF_3 hN_3 rfl hH_3 h_18 (by first | (first | exact at_in (by omega) (by rw [hpre]; omega) | exact lt_line (by omega) | exact at_in (Int.emod_nonneg _ (by decide)) (Int.emod_lt_of_pos _ (by decide)) | exact log_sm (by omega) (by omega) | exact Nat.le_trans (Nat.add_le_add (pick_len (by decide) _) (small_txt' (by omega) (by omega)).1) (by decide) | omega) | (fail)) (ev_addS (ev_ixL (ev_lst (ea_cons ev_str (ea_cons ev_str (ea_cons ev_str ea_nil))) (by first | (first | exact at_in (by omega) (by rw [hpre]; omega) | exact lt_line (by omega) | exact at_in (Int.emod_nonneg _ (by decide)) (Int.emod_lt_of_pos _ (by decide)) | exact log_sm (by omega) (by omega) | exact Nat.le_trans (Nat.add_le_add (pick_len (by decide) _) (small_txt' (by omega) (by omega)).1) (by decide) | omega) | (first | (show _ ≤ sizeLine; decide) | (simp only [List.length_cons, List.length_nil, List.length_append, sizeLine_eq]; omega) | (fail)))) (ev_mod (ev_int1 (ev_ixL (ev_var rfl h_draws) (ev_add ev_int (ev_var rfl h_10)) (atI_get (by first | (first | exact at_in (by omega) (by rw [hpre]; omega) | exact lt_line (by omega) | exact at_in (Int.emod_nonneg _ (by decide)) (Int.emod_lt_of_pos _ (by decide)) | exact log_sm (by omega) (by omega) | exact Nat.le_trans (Nat.add_le_add (pick_len (by decide) _) (small_txt' (by omega) (by omega)).1) (by decide) | omega) | (first | decide | (refine at_in ?_ ?_ <;> omega) | (refine at_neg ?_ ?_ <;> omega)))))) ev_int (by first | (first | exact at_in (by omega) (by rw [hpre]; omega) | exact lt_line (by omega) | exact at_in (Int.emod_nonneg _ (by decide)) (Int.emod_lt_of_pos _ (by decide)) | exact log_sm (by omega) (by omega) | exact Nat.le_trans (Nat.add_le_add (pick_len (by decide) _) (small_txt' (by omega) (by omega)).1) (by decide) | omega) | (first | omega | decide | (show _ ≤ sizeLine; decide) | (show _ < sizeLine; decide)))) (atI_get (by first | (first | exact at_in (by omega) (by rw [hpre]; omega) | exact lt_line (by omega) | exact at_in (Int.emod_nonneg _ (by decide)) (Int.emod_lt_of_pos _ (by decide)) | exact log_sm (by omega) (by omega) | exact Nat.le_trans (Nat.add_le_add (pick_len (by decide) _) (small_txt' (by omega) (by omega)).1) (by decide) | omega) | (first | decide | (refine at_in ?_ ?_ <;> omega) | (refine at_neg ?_ ?_ <;> omega))))) (ev_strI (ev_var rfl h_10) (by first | (first | exact at_in (by omega) (by rw [hpre]; omega) | exact lt_line (by omega) | exact at_in (Int.emod_nonneg _ (by decide)) (Int.emod_lt_of_pos _ (by decide)) | exact log_sm (by omega) (by omega) | exact Nat.le_trans (Nat.add_le_add (pick_len (by decide) _) (small_txt' (by omega) (by omega)).1) (by decide) | omega) | (fail))) (by first | (first | exact at_in (by omega) (by rw [hpre]; omega) | exact lt_line (by omega) | exact at_in (Int.emod_nonneg _ (by decide)) (Int.emod_lt_of_pos _ (by decide)) | exact log_sm (by omega) (by omega) | exact Nat.le_trans (Nat.add_le_add (pick_len (by decide) _) (small_txt' (by omega) (by omega)).1) (by decide) | omega) | (first | omega | decide | (show _ ≤ sizeLine; decide) | (show _ < sizeLine; decide)))) fun G21 H22 H29 zs27 g20 gr2 hN2 hH2 (h_26 : Reps K (d_16 ++ [((getI (("a" : Str) :: (("b" : Str) :: (("c" : Str) :: ([] : List Str)))) ((getI d_draws ((3 : Int) + d_8)) % (3 : Int))) ++ (PySem.Str.ofString (toString d_8)))]) zs27 G21) bt28 => ?_
      have h_draws := up g20.g h_draws
      have hN_3 := g20.f _ _ hH_3 hN_3
      have hH_3 := g20.h.l hH_3
      have h_18 := Reps.up g20.g h_18
      have h_10 := up g20.g h_10
      have sg0 := sg0.trans g20.g
      have gr := gr2
      have hN_3 := hN2
      have hH_3 := hH2
      generalize ed_25 : (d_16 ++ [((getI (("a" : Str) :: (("b" : Str) :: (("c" : Str) :: ([] : List Str)))) ((getI d_draws ((3 : Int) + d_8)) % (3 : Int))) ++ (PySem.Str.ofString (toString d_8)))]) = d_25 at h_26 hM
      unfold m__law_path_1 at hM
      exact ⟨_, _, gr, sg0, rfl, ⟨_, (by rw [hM]; exact h_26), hH_3, hN_3⟩⟩
    · rintro σ_0 H_0 ⟨G30, o_19, gr, sg0, rfl, ⟨zs_3, h_18, hH_3, hN_3⟩⟩
      have h_draws := up sg0 h_draws
      rw [rgs_take0] at h_18
      generalize est_0 : (List.foldl (m__law_path_3 d_draws) d_1 (rgs 0 ((getI d_draws (2 : Int)) % (4 : Int)))) = st_0 at h_18 hM
      obtain ⟨d_16, est2_0⟩ : ∃ z, z = st_0 := ⟨_, rfl⟩
      subst est2_0
      unfold m__law_path_4 at hM
      refine s_ret (K := K) (gr.fix hF_3 hN_3 hH_3).s (ev_var rfl (fix_rep h_18 hN_3)) fun u Gr Hr gq hu => ?_
      exact hQ u Gr Hr ((gr.fix hF_3 hN_3 hH_3).trans gq) (by rw [hM]; exact hu)

theorem path_tok (d : List Int) (h2 : ∀ k : Int, 0 ≤ k → k < 4 → True) : ∀ (l : List Int) (s : List Str), (∀ k ∈ l, 0 ≤ k ∧ k < 4) → TOk s → TOk (List.foldl (m__law_path_3 d) s l)
  | [], s, _, h => h
  | k :: l, s, hk, h => by
    rw [List.foldl_cons]
    refine path_tok d h2 l _ (fun j hj => hk j (.tail _ hj)) fun x hx => ?_
    have hx : x ∈ s ++ [_] := hx
    rcases List.mem_append.mp hx with hx | hx
    · exact h x hx
    · rw [List.mem_singleton.mp hx]
      exact ok_app (pick_ok (by decide +kernel) _) (small_txt' (hk k (.head _)).1 (hk k (.head _)).2).2
theorem path_ok (d : List Int) : TOk (m__law_path d) ∧ (m__law_path d).length ≤ 4 := by
  have h1 := Int.emod_nonneg (getI d 2) (b := 4) (by decide)
  have h2 := Int.emod_lt_of_pos (getI d 2) (b := 4) (by decide)
  have h3 := Int.emod_nonneg (getI d 1) (b := 2) (by decide)
  have h4 := Int.emod_lt_of_pos (getI d 1) (b := 2) (by decide)
  constructor
  · refine path_tok d (fun _ _ _ => trivial) _ _ (fun k hk => ?_) fun x hx => ?_
    · have := mem_rgs.mp hk
      omega
    · have : ∀ y ∈ [("root" : Str), "list", "ask", "bar"], PyData.strOk y = true := by decide +kernel
      exact this x (cut_mem hx)
  · show (List.foldl (m__law_path_3 d) _ _).length ≤ 4
    rw [path_fold, rgs_len]
    have : (cutL [("root" : Str), "list", "ask", "bar"] (some (getI d 1 % 2)) (some (1 + getI d 1 % 2))).length ≤ 1 := by
      have : getI d 1 % 2 = 0 ∨ getI d 1 % 2 = 1 := by omega
      rcases this with e | e <;> (rw [e]; decide)
    omega

/-! #### _law_steps -/
def m__law_steps (d_names : (List Str)) (d_draw : Int) : (Tpl PyData) := (Tpl.mk (List.map (fun d_1 => (Dat.d (Tpl.mk ((PyData.str (getI d_names d_1)) :: ((PyData.str ("item" : Str)) :: ((PyData.str (getI (("" : Str) :: (("Ok" : Str) :: ([] : List Str))) ((d_draw + d_1) % (2 : Int)))) :: ((PyData.int d_1) :: ((PyData.int (d_draw % (5 : Int))) :: ([] : List PyData))))))))) (rgs 0 ((d_names).length : Int))))
abbrev p__law_steps (K : PySem.W.Frag) : Sp := anyF fun _ => sp2 K (fun n _ => n.length ≤ 4) m__law_steps
theorem ok__law_steps (T : Tx K mg base A) : FnOk P w K mg base CX0 1 A.f__law_steps A.d__law_steps ["names", "draw"] (p__law_steps K) := by
  refine T.F__law_steps.ok sc__law_steps (fun vs He Q E h => ?_) (fun cdv A0 outer s He vs Q E hr h => ⟨_, (pss_one (ps_ret (pe_callTy (call_tupleK (K := K)) rfl T.n_tuple boot_tuple (pa_cons (pe_lc (own := [("k", 2)]) (g := gName 2) (tt := tYes) rfl sc__law_steps.nd (pi_range1 rfl T.n_range (pa_cons (pe_callB (call_lenK (K := K)) rfl T.n_len boot_len (pa_cons (pv 0) pa_nil)) pa_nil)) (blkOk_by (N := n__law_steps) (sc := defScope s__law_steps) (by decide +kernel)) (fun _ _ _ _ _ => pg_name (i := 2) sc__law_steps.nd rfl (Or.inl rfl)) (fun _ _ _ _ _ => pts_nil) (fun _ _ _ _ _ => (pe_tup (pa_cons (pe_ix (ix_listK (K := K)) (pv 0) (pv 2) fun _ _ => rfl) (pa_cons pe_str (pa_cons (pe_ix (ix_listK (K := K)) (pe_lst (pa_cons pe_str (pa_cons pe_str pa_nil))) (pe_op op_mod (pe_op op_add (pv 1) (pv 2)) pe_int) fun _ _ => rfl) (pa_cons (pv 2) (pa_cons (pe_op op_mod (pv 1) pe_int) pa_nil)))))))) pa_nil)))), ?_⟩)
  · obtain ⟨fz_, d_names, d_draw, w_names, w_draw, G, rfl, eG, h_names, h_draw, hpre, hQ⟩ := h
    rfl
  · obtain ⟨fz_, d_names, d_draw, w_names, w_draw, G, rfl, eG, h_names, h_draw, hpre, hQ⟩ := h
    have gr : Grow G He G He := Grow.refl eG
    obtain ⟨Ge, eGe⟩ : ∃ z, z = G := ⟨G, rfl⟩
    have gr : Grow Ge He G He := by rw [eGe]; exact gr
    rw [← eGe] at hQ
    clear eGe
    have hM : m__law_steps d_names d_draw = (Tpl.mk (List.map (fun d_1 => (Dat.d (Tpl.mk ((PyData.str (getI d_names d_1)) :: ((PyData.str ("item" : Str)) :: ((PyData.str (getI (("" : Str) :: (("Ok" : Str) :: ([] : List Str))) ((d_draw + d_1) % (2 : Int)))) :: ((PyData.int d_1) :: ((PyData.int (d_draw % (5 : Int))) :: ([] : List PyData))))))))) (rgs 0 ((d_names).length : Int)))) := rfl
    refine s_ret (K := K) gr.s (ev_tupleL (ev_lcR1m (fun d_1 => (Dat.d (Tpl.mk ((PyData.str (getI d_names d_1)) :: ((PyData.str ("item" : Str)) :: ((PyData.str (getI (("" : Str) :: (("Ok" : Str) :: ([] : List Str))) ((d_draw + d_1) % (2 : Int)))) :: ((PyData.int d_1) :: ((PyData.int (d_draw % (5 : Int))) :: ([] : List PyData))))))))) (ev_lenL (ev_var rfl h_names)) (by first | (first | (have := hpre; omega) | exact at_in (by assumption) (by assumption) | exact at_in (Int.emod_nonneg _ (by decide)) (Int.emod_lt_of_pos _ (by decide)) | omega) | (first | omega | decide | (show _ ≤ sizeLine; decide) | (show _ < sizeLine; decide))) (fun d_1 G_ H_ lo7 hi8 sg4 sh_ P k => by have h_names := up sg4 h_names; have h_draw := up sg4 h_draw; have h_3 : rep K d_1 (V.int d_1) G_ := rfl; exact k _ rfl eb_yes (fun hc5 => (ev_toD (ev_tpl (ea_cons (ev_toD (ev_ixL (ev_var rfl h_names) (ev_var rfl h_3) (atI_get (by first | (first | (have := hpre; omega) | exact at_in (by assumption) (by assumption) | exact at_in (Int.emod_nonneg _ (by decide)) (Int.emod_lt_of_pos _ (by decide)) | omega) | (first | decide | (refine at_in ?_ ?_ <;> omega) | (refine at_neg ?_ ?_ <;> omega)))))) (ea_cons (ev_toD ev_str) (ea_cons (ev_toD (ev_ixL (ev_lst (ea_cons ev_str (ea_cons ev_str ea_nil)) (by first | (first | (have := hpre; omega) | exact at_in (by assumption) (by assumption) | exact at_in (Int.emod_nonneg _ (by decide)) (Int.emod_lt_of_pos _ (by decide)) | omega) | (first | (show _ ≤ sizeLine; decide) | (simp only [List.length_cons, List.length_nil, List.length_append, sizeLine_eq]; omega) | (fail)))) (ev_mod (ev_add (ev_var rfl h_draw) (ev_var rfl h_3)) ev_int (by first | (first | (have := hpre; omega) | exact at_in (by assumption) (by assumption) | exact at_in (Int.emod_nonneg _ (by decide)) (Int.emod_lt_of_pos _ (by decide)) | omega) | (first | omega | decide | (show _ ≤ sizeLine; decide) | (show _ < sizeLine; decide)))) (atI_get (by first | (first | (have := hpre; omega) | exact at_in (by assumption) (by assumption) | exact at_in (Int.emod_nonneg _ (by decide)) (Int.emod_lt_of_pos _ (by decide)) | omega) | (first | decide | (refine at_in ?_ ?_ <;> omega) | (refine at_neg ?_ ?_ <;> omega)))))) (ea_cons (ev_toD (ev_var rfl h_3)) (ea_cons (ev_toD (ev_mod (ev_var rfl h_draw) ev_int (by first | (first | (have := hpre; omega) | exact at_in (by assumption) (by assumption) | exact at_in (Int.emod_nonneg _ (by decide)) (Int.emod_lt_of_pos _ (by decide)) | omega) | (first | omega | decide | (show _ ≤ sizeLine; decide) | (show _ < sizeLine; decide))))) ea_nil))))) (by first | (show _ ≤ sizeLine; decide) | (simp only [List.length_cons, List.length_nil, sizeLine_eq]; omega)))))))) fun u Gr Hr gq hu => ?_
    exact hQ u Gr Hr (gr.trans gq) (by rw [hM]; exact hu)

theorem steps_ok (n : List Str) (k : Int) (h : TOk n) : StepsOf n (m__law_steps n k).l := by
  refine paired_of ?_ fun i x y hx hy => ?_
  · show n.length = (List.map _ (rgs 0 (n.length : Int))).length
    rw [List.length_map, rgs_len]
    omega
  · have hy : (List.map (fun (j : Int) => (Dat.d (Tpl.mk ((PyData.str (getI n j)) :: ((PyData.str ("item" : Str)) :: ((PyData.str (getI (("" : Str) :: (("Ok" : Str) :: ([] : List Str))) ((k + j) % (2 : Int)))) :: ((PyData.int j) :: ((PyData.int (k % (5 : Int))) :: ([] : List PyData))))))) : PyData)) (rgs 0 (n.length : Int)))[i]? = some y := hy
    obtain ⟨hi, ex⟩ := List.getElem?_eq_some_iff.mp hx
    rw [List.getElem?_map, show rgs 0 (n.length : Int) = (List.range n.length).map fun (i : Nat) => (0 : Int) + (i : Int) by unfold rgs; rw [Int.sub_zero, Int.toNat_natCast], List.getElem?_map, List.getElem?_range hi] at hy
    have hy := Option.some.inj hy
    rw [← hy]
    refine ⟨[.str ("item" : Str), .str (getI (("" : Str) :: (("Ok" : Str) :: ([] : List Str))) ((k + (0 + (i : Int))) % 2)), .int (0 + (i : Int)), .int (k % 5)], ?_, ?_, by show 4 ≤ 10; decide⟩
    · show PyData.tuple [PyData.str (getI n (0 + (i : Int))), _, _, _, _] = _
      rw [Int.zero_add, getI_natS hi, ex]
      simp only [Int.zero_add]
      rfl
    · refine Sh.tup (n := 0) fun z hz => ?_
      rcases List.mem_map.mp (show z ∈ List.map (fun q => q) _ from by rw [List.map_id']; exact hz) with ⟨z, hz, rfl⟩
      rcases List.mem_cons.mp hz with e | hz
      · have e : z = .str (getI n (0 + (i : Int))) := e
        rw [e, Int.zero_add, getI_natS hi, ex]
        exact .str (h x (List.mem_of_getElem? hx))
      · rcases List.mem_cons.mp hz with e | hz
        · rw [e]; exact .str (by decide +kernel)
        · rcases List.mem_cons.mp hz with e | hz
          · rw [e]; exact .str (pick_ok (by decide +kernel) _)
          · exact fa2 (P := Sh 0) .int .int z hz

/-! #### _law_shown -/
def m__law_shown_1 (d_35 : Int) : (Int) := d_35
def m__law_shown_2 (d_28 : Int) : (Int) := (m__law_shown_1 (d_28 + (1 : Int)))
def m__law_shown_3 (d_10 : (Lq Str)) (d_13 : (Lq Str)) (s : Int) : (Int) := m__law_shown_2 (s)
def m__law_shown_3c (d_10 : (Lq Str)) (d_13 : (Lq Str)) (s : Int) : Bool := ((decide ((s) < ((d_10).l.length : Int))) && ((decide ((s) < ((d_13).l.length : Int))) && (eqB (getI (d_10).l (s)) (getI (d_13).l (s)))))
def m__law_shown_4 (d_10 : (Lq Str)) (d_16 : (Tpl PyData)) (s : Int) : PyData := (Dat.d (Tpl.mk ((PyData.str ("path" : Str)) :: ((PyData.int (((d_10).l.length : Int) - s)) :: ((Dat.d (Tpl.mk (cutL (d_16).l (some s) none))) :: ([] : List PyData))))))
def m__law_shown_5 (d_10 : (Lq Str)) (d_13 : (Lq Str)) (d_16 : (Tpl PyData)) (d_19 : Int) : PyData := (m__law_shown_4 d_10 d_16 (whl (m__law_shown_3c d_10 d_13) (m__law_shown_3 d_10 d_13) ((fun (s : Int) => (d_10.l.length - s.toNat)) d_19) d_19))
def m__law_shown_6 (d_10 : (Lq Str)) (d_13 : (Lq Str)) (d_16 : (Tpl PyData)) : PyData := (m__law_shown_5 d_10 d_13 d_16 (0 : Int))
def m__law_shown_7 (d_row : PyData) : PyData := (m__law_shown_6 (Lq.mk (strsD (lstD (getI ((Tpl.mk (tupD d_row))).l (1 : Int))))) (Lq.mk (strsD (lstD (getI ((Tpl.mk (tupD d_row))).l (2 : Int))))) (Tpl.mk (tupD (getI ((Tpl.mk (tupD d_row))).l (3 : Int)))))
def m__law_shown (d_row : PyData) : PyData := (cond (PyData.eqv (Dat.d (getI ((Tpl.mk (tupD d_row))).l (0 : Int))) (Dat.d (PyData.str ("message" : Str)))) d_row (m__law_shown_7 d_row))
abbrev p__law_shown (K : PySem.W.Frag) : Sp := anyF fun _ => sp1 K (fun d => IsR d) m__law_shown

theorem shown_val (e : En) (h : e.ok) : m__law_shown e.r = e.a := by
  cases e with
  | msg t b =>
    show cond (PyData.eqv (.str ("message" : Str)) (.str ("message" : Str))) (msgE t b) _ = _
    rw [tag_eq]
    rfl
  | path o n st =>
    show cond (PyData.eqv (.str ("turn" : Str)) (.str ("message" : Str))) _ (m__law_shown_5 (Lq.mk (strsD (o.map PyData.str))) (Lq.mk (strsD (n.map PyData.str))) (Tpl.mk st) 0) = annE o n st
    rw [tag_eq, strs_map, strs_map]
    show m__law_shown_4 ⟨o⟩ ⟨st⟩ (whl (m__law_shown_3c ⟨o⟩ ⟨n⟩) (m__law_shown_3 ⟨o⟩ ⟨n⟩) (o.length - (0 : Int).toNat) 0) = _
    have hw := whl_same (c := m__law_shown_3c ⟨o⟩ ⟨n⟩) (f := m__law_shown_3 ⟨o⟩ ⟨n⟩) (o := o) (n := n) (fun _ => rfl) (fun k => ?_) (o.length - (0 : Int).toNat) 0 rfl (Nat.zero_le _) (Nat.zero_le _) (Nat.le_refl _)
    · rw [show ((0 : Nat) : Int) = 0 from rfl] at hw
      rw [hw]
      show PyData.tuple [.str ("path" : Str), .int ((o.length : Int) - (sameN o n : Int)), .tuple ((cutL st (some (sameN o n : Int)) none).map fun x => x)] = _
      rw [cut_drop (by rw [← paired_len2 h.st]; exact (sameN_le o n).2), List.map_id']
      rfl
    · show (decide ((k : Int) < (o.length : Int)) && (decide ((k : Int) < (n.length : Int)) && eqB (getI o (k : Int)) (getI n (k : Int)))) = _
      by_cases q : k < o.length ∧ k < n.length
      · rw [get_eq q.1 q.2, decide_eq_true (show ((k : Int) < (o.length : Int)) by omega), decide_eq_true (show ((k : Int) < (n.length : Int)) by omega), Bool.true_and, Bool.true_and]
        exact decide_eq_decide.mpr ⟨fun h => ⟨q.1, q.2, h⟩, fun h => h.2.2⟩
      · rw [decide_eq_false (show ¬ (k < o.length ∧ k < n.length ∧ o[k]? = n[k]?) from fun h => q ⟨h.1, h.2.1⟩), ← Bool.and_assoc, ← Bool.decide_and, decide_eq_false (show ¬ ((k : Int) < (o.length : Int) ∧ (k : Int) < (n.length : Int)) by omega), Bool.false_and]

theorem ok__law_shown (T : Tx K mg base A) : FnOk P w K mg base CX0 1 A.f__law_shown A.d__law_shown ["row"] (p__law_shown K) := by
  refine T.F__law_shown.ok sc__law_shown (fun vs He Q E h => ?_) (fun cdv A0 outer s He vs Q E hr h => ⟨_, (pss_cons (ps_if (pt_cmpR (op_eqK (K := K) hr.units) (pe_ix (ix_tupK (K := K)) (pv 0) pe_int fun _ _ => rfl) pe_str (nomark _)) (pss_one (ps_ret (pv 0))) pss_nil) (pss_cons (ps_par3 (i := 1) (j := 2) (l := 3) rfl sc__law_shown.nd rfl rfl rfl (by decide) (by decide) (by decide) rfl rfl rfl (pa_cons (pe_ix (ix_tupK (K := K)) (pv 0) pe_int fun _ _ => rfl) (pa_cons (pe_ix (ix_tupK (K := K)) (pv 0) pe_int fun _ _ => rfl) (pa_cons (pe_ix (ix_tupK (K := K)) (pv 0) pe_int fun _ _ => rfl) pa_nil))) (by rfl)) (pss_cons (ps_set (i := 4) sc__law_shown.nd rfl (Or.inl rfl) pe_int) (pss_cons (ps_while PassesOwn.never (PW.pt (pw_and (pt_cmpR op_lt (pv 4) (pe_callB (call_lenK (K := K)) rfl T.n_len boot_len (pa_cons (pv 1) pa_nil)) (nomark _)) (pw_and (pt_cmpR op_lt (pv 4) (pe_callB (call_lenK (K := K)) rfl T.n_len boot_len (pa_cons (pv 2) pa_nil)) (nomark _)) (pw_and1 (pt_cmpR op_eq (pe_ix (ix_listK (K := K)) (pv 1) (pv 4) fun _ _ => rfl) (pe_ix (ix_listK (K := K)) (pv 2) (pv 4) fun _ _ => rfl) (nomark _)))))) (pss_one (ps_set (i := 4) sc__law_shown.nd rfl (Or.inl rfl) (pe_op op_add (pv 4) pe_int)))) (pss_one (ps_ret (pe_tup (pa_cons pe_str (pa_cons (pe_op op_sub (pe_callB (call_lenK (K := K)) rfl T.n_len boot_len (pa_cons (pv 1) pa_nil)) (pv 4)) (pa_cons (pe_slice (sl_tupK (K := K)) (pv 3) (po_some (pv 4)) po_none) pa_nil)))))))))), ?_⟩)
  · obtain ⟨fz_, d_row, w_row, G, rfl, eG, h_row, hpre, hQ⟩ := h
    rfl
  · obtain ⟨fz_, d_row, w_row, G, rfl, eG, h_row, hpre, hQ⟩ := h
    have gr : Grow G He G He := Grow.refl eG
    obtain ⟨Ge, eGe⟩ : ∃ z, z = G := ⟨G, rfl⟩
    have gr : Grow Ge He G He := by rw [eGe]; exact gr
    rw [← eGe] at hQ
    clear eGe
    have hM : m__law_shown d_row = (cond (PyData.eqv (Dat.d (getI ((Tpl.mk (tupD d_row))).l (0 : Int))) (Dat.d (PyData.str ("message" : Str)))) d_row (m__law_shown_7 d_row)) := rfl
    refine q_if gr.s (et_test (ev_eqD (ev_ixT (ev_asTup (ev_var rfl h_row) (by first | (first | exact at_in (by assumption) (of_decide_eq_true (by assumption)) | exact r_tup hpre | exact at_in (Int.le_refl 0) (r_pos hpre) | exact r_tag hpre _ (by decide +kernel) | assumption | exact at_in (by assumption) (lt_minl (by assumption)) | exact at_in (by assumption) (lt_minr (by assumption)) | (rw [pe]; rfl) | omega) | (first | assumption | exact or_l (by assumption) | exact or_l (or_r (by assumption)) | exact num_of (by assumption) (by assumption) | exact not_fA (by assumption) | (first | omega | decide)))) ev_int (atI_get (by first | (first | exact at_in (by assumption) (of_decide_eq_true (by assumption)) | exact r_tup hpre | exact at_in (Int.le_refl 0) (r_pos hpre) | exact r_tag hpre _ (by decide +kernel) | assumption | exact at_in (by assumption) (lt_minl (by assumption)) | exact at_in (by assumption) (lt_minr (by assumption)) | (rw [pe]; rfl) | omega) | (first | decide | (refine at_in ?_ ?_ <;> omega) | (refine at_neg ?_ ?_ <;> omega))))) (ev_toD ev_str) (by first | (first | exact at_in (by assumption) (of_decide_eq_true (by assumption)) | exact r_tup hpre | exact at_in (Int.le_refl 0) (r_pos hpre) | exact r_tag hpre _ (by decide +kernel) | assumption | exact at_in (by assumption) (lt_minl (by assumption)) | exact at_in (by assumption) (lt_minr (by assumption)) | (rw [pe]; rfl) | omega) | (first | omega | decide | (show _ ≤ sizeLine; decide) | (show _ < sizeLine; decide))))) ?_ ?_
    · intro hb2 G3 H4 g1
      have h_row := up g1.g h_row
      have gr := gr.trans g1
      replace hM := condT hM hb2
      refine s_ret (K := K) gr.s (ev_var rfl h_row) fun u Gr Hr gq hu => ?_
      exact hQ u Gr Hr (gr.trans gq) (by rw [hM]; exact hu)
    · intro hb2 G5 H6 g1
      have h_row := up g1.g h_row
      have gr := gr.trans g1
      replace hM := condF hM hb2
      unfold m__law_shown_7 at hM
      obtain ⟨po, pn, pst, pe, pk⟩ := r_path hpre (by assumption)
      have fo1 : isLstS (getI (Tpl.mk (tupD d_row)).l 1) = true := by rw [pe]; exact lS_is po
      have fn1 : isLstS (getI (Tpl.mk (tupD d_row)).l 2) = true := by rw [pe]; exact lS_is pn
      have fs1 : isTupD (getI (Tpl.mk (tupD d_row)).l 3) = true := by rw [pe]; rfl
      refine s_next ?_
      refine nx_mk ?_
      refine q_par3 (K := K) gr.s (ev_asLstS (ev_ixT (ev_asTup (ev_var rfl h_row) (by first | (first | exact at_in (by assumption) (of_decide_eq_true (by assumption)) | exact r_tup hpre | exact at_in (Int.le_refl 0) (r_pos hpre) | exact r_tag hpre _ (by decide +kernel) | assumption | exact at_in (by assumption) (lt_minl (by assumption)) | exact at_in (by assumption) (lt_minr (by assumption)) | (rw [pe]; rfl) | omega) | (first | assumption | exact or_l (by assumption) | exact or_l (or_r (by assumption)) | exact num_of (by assumption) (by assumption) | exact not_fA (by assumption) | (first | omega | decide)))) ev_int (atI_get (by first | (first | exact at_in (by assumption) (of_decide_eq_true (by assumption)) | exact r_tup hpre | exact at_in (Int.le_refl 0) (r_pos hpre) | exact r_tag hpre _ (by decide +kernel) | assumption | exact at_in (by assumption) (lt_minl (by assumption)) | exact at_in (by assumption) (lt_minr (by assumption)) | (rw [pe]; rfl) | omega) | (first | decide | (refine at_in ?_ ?_ <;> omega) | (refine at_neg ?_ ?_ <;> omega))))) (by first | (first | exact at_in (by assumption) (of_decide_eq_true (by assumption)) | exact r_tup hpre | exact at_in (Int.le_refl 0) (r_pos hpre) | exact r_tag hpre _ (by decide +kernel) | assumption | exact at_in (by assumption) (lt_minl (by assumption)) | exact at_in (by assumption) (lt_minr (by assumption)) | (rw [pe]; rfl) | omega) | (first | assumption | exact or_l (by assumption) | exact or_l (or_r (by assumption)) | exact num_of (by assumption) (by assumption) | exact not_fA (by assumption) | (first | omega | decide)))) (ev_asLstS (ev_ixT (ev_asTup (ev_var rfl h_row) (by first | (first | exact at_in (by assumption) (of_decide_eq_true (by assumption)) | exact r_tup hpre | exact at_in (Int.le_refl 0) (r_pos hpre) | exact r_tag hpre _ (by decide +kernel) | assumption | exact at_in (by assumption) (lt_minl (by assumption)) | exact at_in (by assumption) (lt_minr (by assumption)) | (rw [pe]; rfl) | omega) | (first | assumption | exact or_l (by assumption) | exact or_l (or_r (by assumption)) | exact num_of (by assumption) (by assumption) | exact not_fA (by assumption) | (first | omega | decide)))) ev_int (atI_get (by first | (first | exact at_in (by assumption) (of_decide_eq_true (by assumption)) | exact r_tup hpre | exact at_in (Int.le_refl 0) (r_pos hpre) | exact r_tag hpre _ (by decide +kernel) | assumption | exact at_in (by assumption) (lt_minl (by assumption)) | exact at_in (by assumption) (lt_minr (by assumption)) | (rw [pe]; rfl) | omega) | (first | decide | (refine at_in ?_ ?_ <;> omega) | (refine at_neg ?_ ?_ <;> omega))))) (by first | (first | exact at_in (by assumption) (of_decide_eq_true (by assumption)) | exact r_tup hpre | exact at_in (Int.le_refl 0) (r_pos hpre) | exact r_tag hpre _ (by decide +kernel) | assumption | exact at_in (by assumption) (lt_minl (by assumption)) | exact at_in (by assumption) (lt_minr (by assumption)) | (rw [pe]; rfl) | omega) | (first | assumption | exact or_l (by assumption) | exact or_l (or_r (by assumption)) | exact num_of (by assumption) (by assumption) | exact not_fA (by assumption) | (first | omega | decide)))) (ev_asTup (ev_ixT (ev_asTup (ev_var rfl h_row) (by first | (first | exact at_in (by assumption) (of_decide_eq_true (by assumption)) | exact r_tup hpre | exact at_in (Int.le_refl 0) (r_pos hpre) | exact r_tag hpre _ (by decide +kernel) | assumption | exact at_in (by assumption) (lt_minl (by assumption)) | exact at_in (by assumption) (lt_minr (by assumption)) | (rw [pe]; rfl) | omega) | (first | assumption | exact or_l (by assumption) | exact or_l (or_r (by assumption)) | exact num_of (by assumption) (by assumption) | exact not_fA (by assumption) | (first | omega | decide)))) ev_int (atI_get (by first | (first | exact at_in (by assumption) (of_decide_eq_true (by assumption)) | exact r_tup hpre | exact at_in (Int.le_refl 0) (r_pos hpre) | exact r_tag hpre _ (by decide +kernel) | assumption | exact at_in (by assumption) (lt_minl (by assumption)) | exact at_in (by assumption) (lt_minr (by assumption)) | (rw [pe]; rfl) | omega) | (first | decide | (refine at_in ?_ ?_ <;> omega) | (refine at_neg ?_ ?_ <;> omega))))) (by first | (first | exact at_in (by assumption) (of_decide_eq_true (by assumption)) | exact r_tup hpre | exact at_in (Int.le_refl 0) (r_pos hpre) | exact r_tag hpre _ (by decide +kernel) | assumption | exact at_in (by assumption) (lt_minl (by assumption)) | exact at_in (by assumption) (lt_minr (by assumption)) | (rw [pe]; rfl) | omega) | (first | assumption | exact or_l (by assumption) | exact or_l (or_r (by assumption)) | exact num_of (by assumption) (by assumption) | exact not_fA (by assumption) | (first | omega | decide)))) fun w_11 w_14 w_17 G8 H9 g7 h_12 h_15 h_18 => ?_
      have h_row := up g7.g h_row
      have gr := gr.trans g7
      generalize ed_10 : (Lq.mk (strsD (lstD (getI ((Tpl.mk (tupD d_row))).l (1 : Int))))) = d_10 at h_12 hM
      generalize ed_13 : (Lq.mk (strsD (lstD (getI ((Tpl.mk (tupD d_row))).l (2 : Int))))) = d_13 at h_15 hM
      generalize ed_16 : (Tpl.mk (tupD (getI ((Tpl.mk (tupD d_row))).l (3 : Int)))) = d_16 at h_18 hM
      unfold m__law_shown_6 at hM
      refine q_asg (K := K) gr.s ev_int fun w_20 G23 H24 g22 (h_21 : rep K (0 : Int) w_20 G23) => ?_
      have h_row := up g22.g h_row
      have h_12 := up g22.g h_12
      have h_15 := up g22.g h_15
      have h_18 := up g22.g h_18
      have gr := gr.trans g22
      obtain ⟨d_19, ed_19⟩ : ∃ z, (0 : Int) = z := ⟨_, rfl⟩
      rw [ed_19] at h_21 hM
      unfold m__law_shown_5 at hM
      refine q_whl (m__law_shown_3c d_10 d_13) (m__law_shown_3 d_10 d_13) (fun (s : Int) => 0 ≤ s) (fun (s : Int) => (d_10.l.length - s.toNat)) d_19 (by rw [← ed_19]; exact Int.le_refl 0) (by exact whl_up (fun _ => rfl) fun s h => of_decide_eq_true (Bool.and_eq_true_iff.mp h).1) gr.s fun G25 H26 g27 => ?_
      have h_row := up g27.g h_row
      have h_12 := up g27.g h_12
      have h_15 := up g27.g h_15
      have h_18 := up g27.g h_18
      have h_21 := up g27.g h_21
      have gr := gr.trans g27
      refine ⟨fun s_ σ_ H_ => ∃ (G41 : Hp) (w_29 : V), Grow Ge He G41 H_ ∧ Same G25 G41 ∧ σ_ = [some w_row, some w_11, some w_14, some w_17, some w_29] ∧ rep K (s_ : Int) w_29 G41, ⟨_, w_20, gr, Same.refl _, rfl, h_21⟩, ?_⟩
      rintro st_0 σ_0 H_0 is_0 ⟨G41, w_29, gr, sg0, rfl, h_30⟩
      have h_row := up sg0 h_row
      have h_12 := up sg0 h_12
      have h_15 := up sg0 h_15
      have h_18 := up sg0 h_18
      have hMo0 := hM
      obtain ⟨d_28, est_0⟩ : ∃ z, z = st_0 := ⟨_, rfl⟩
      subst est_0
      refine ⟨_, gr.s, (et_and (et_test (ev_lt (ev_var rfl h_30) (ev_lenQ (ev_var rfl h_12)))) (fun hb31 => (et_and (et_test (ev_lt (ev_var rfl h_30) (ev_lenQ (ev_var rfl h_15)))) (fun hb32 => (et_test (ev_eq (ev_ixQ (ev_var rfl h_12) (ev_var rfl h_30) (atI_get (by first | (first | exact at_in (by assumption) (of_decide_eq_true (by assumption)) | exact r_tup hpre | exact at_in (Int.le_refl 0) (r_pos hpre) | exact r_tag hpre _ (by decide +kernel) | assumption | exact at_in (by assumption) (lt_minl (by assumption)) | exact at_in (by assumption) (lt_minr (by assumption)) | (rw [pe]; rfl) | omega) | (first | decide | (refine at_in ?_ ?_ <;> omega) | (refine at_neg ?_ ?_ <;> omega))))) (ev_ixQ (ev_var rfl h_15) (ev_var rfl h_30) (atI_get (by first | (first | exact at_in (by assumption) (of_decide_eq_true (by assumption)) | exact r_tup hpre | exact at_in (Int.le_refl 0) (r_pos hpre) | exact r_tag hpre _ (by decide +kernel) | assumption | exact at_in (by assumption) (lt_minl (by assumption)) | exact at_in (by assumption) (lt_minr (by assumption)) | (rw [pe]; rfl) | omega) | (first | decide | (refine at_in ?_ ?_ <;> omega) | (refine at_neg ?_ ?_ <;> omega))))))))))), ?_, ?_⟩
      · intro hb34 G42 H43 g44
        have h_row := up g44.g h_row
        have h_12 := up g44.g h_12
        have h_15 := up g44.g h_15
        have h_18 := up g44.g h_18
        have h_30 := up g44.g h_30
        have sg0 := sg0.trans g44.g
        have gr := gr.trans g44
        unfold m__law_shown_3c at hb34
        have hM : (m__law_shown_3 d_10 d_13) d_28 = (m__law_shown_3 d_10 d_13) d_28 := rfl
        conv at hM => rhs; unfold m__law_shown_3; unfold m__law_shown_2
        refine s_asg (K := K) gr.s (ev_add (ev_var rfl h_30) ev_int) fun w_36 G39 H40 g38 (h_37 : rep K (d_28 + (1 : Int)) w_36 G39) => ?_
        have h_row := up g38.g h_row
        have h_12 := up g38.g h_12
        have h_15 := up g38.g h_15
        have h_18 := up g38.g h_18
        have sg0 := sg0.trans g38.g
        have gr := gr.trans g38
        generalize ed_35 : (d_28 + (1 : Int)) = d_35 at h_37 hM
        unfold m__law_shown_1 at hM
        exact ⟨_, w_36, gr, sg0, rfl, (by rw [hM]; exact h_37)⟩
      · intro hb45 G46 H47 g48 es49
        have h_row := up g48.g h_row
        have h_12 := up g48.g h_12
        have h_15 := up g48.g h_15
        have h_18 := up g48.g h_18
        have h_30 := up g48.g h_30
        have gr := gr.trans g48
        rw [← es49] at hM
        unfold m__law_shown_4 at hM
        refine s_ret (K := K) gr.s (ev_toD (ev_tpl (ea_cons (ev_toD ev_str) (ea_cons (ev_toD (ev_sub (ev_lenQ (ev_var rfl h_12)) (ev_var rfl h_30))) (ea_cons (ev_toD (ev_slT (ev_var rfl h_18) (eo_some (ev_var rfl h_30)) eo_none)) ea_nil))) (by first | (show _ ≤ sizeLine; decide) | (simp only [List.length_cons, List.length_nil, sizeLine_eq]; omega)))) fun u Gr Hr gq hu => ?_
        exact hQ u Gr Hr (gr.trans gq) (by rw [hM]; exact hu)
/-! #### _law_joined -/
def decR (d : PyData) : En := if strD (getI (tupD d) (0 : Int)) = ("message" : Str) then .msg (strD (getI (tupD d) (1 : Int))) (boolD (getI (tupD d) (2 : Int))) else .path (strsD (lstD (getI (tupD d) (1 : Int)))) (strsD (lstD (getI (tupD d) (2 : Int)))) (tupD (getI (tupD d) (3 : Int)))
theorem decR_r (e : En) : decR e.r = e := by
  cases e with
  | msg t b => rfl
  | path o n st =>
    show En.path (strsD (o.map PyData.str)) (strsD (n.map PyData.str)) st = _
    rw [strs_map, strs_map]
theorem decR_map (es : List En) : (es.map En.r).map decR = es := by
  rw [List.map_map, show decR ∘ En.r = id from funext decR_r, List.map_id]
def putJ (es : List En) (e : En) : List En := match e with
  | .msg t b => es ++ [.msg t b]
  | .path o n st => match es.getLast? with
    | some (.path o2 _ _) => if o2 = n then es.dropLast else es.dropLast ++ [.path o2 n st]
    | _ => es ++ [.path o n st]
def joinE (es : List En) : List En := es.foldl putJ []
def m__law_joined (rows : List PyData) : List PyData := (joinE (rows.map decR)).map En.r
abbrev RowsOk (rows : List PyData) : Prop := ∃ es : List En, rows = es.map En.r ∧ EsOk es
abbrev p__law_joined [Tb] (K : PySem.W.Frag) : Sp := anyF fun _ => sp1 K (fun rows => RowsOk rows) m__law_joined
theorem putJ_ok {es : List En} {e : En} (h : ∀ x ∈ es, x.ok) (k : e.ok) : (∀ x ∈ putJ es e, x.ok) ∧ (putJ es e).length ≤ es.length + 1 := by
  have app : ∀ {l : List En} {e : En}, (∀ e ∈ l, e.ok) → e.ok → ∀ x ∈ l ++ [e], x.ok := fun hl he x hx => by
    rcases List.mem_append.mp hx with hx | hx
    · exact hl x hx
    · rw [List.mem_singleton.mp hx]; exact he
  have hd : ∀ e ∈ es.dropLast, e.ok := fun e he => h e (List.dropLast_subset _ he)
  cases e with
  | msg t b => exact ⟨app h k, by show (es ++ [_]).length ≤ _; rw [List.length_append]; exact Nat.le_refl _⟩
  | path o n st =>
    unfold putJ
    cases q : es.getLast? with
    | none => exact ⟨app h k, by show (es ++ [_]).length ≤ _; rw [List.length_append]; exact Nat.le_refl _⟩
    | some e =>
      cases e with
      | msg _ _ => exact ⟨app h k, by show (es ++ [_]).length ≤ _; rw [List.length_append]; exact Nat.le_refl _⟩
      | path o2 n2 st2 =>
        have k2 : PathOk o2 n2 st2 := ok_last h q
        have k : PathOk o n st := k
        show (∀ x ∈ (if o2 = n then es.dropLast else es.dropLast ++ [.path o2 n st]), x.ok) ∧ (if o2 = n then es.dropLast else es.dropLast ++ [.path o2 n st]).length ≤ es.length + 1
        split
        · exact ⟨hd, by rw [List.length_dropLast]; omega⟩
        · exact ⟨app hd ⟨k2.ok1, k.ok2, k.st⟩, by rw [List.length_append, List.length_dropLast, List.length_singleton]; omega⟩
theorem putsJ_ok : ∀ {l es : List En}, (∀ e ∈ es, e.ok) → (∀ e ∈ l, e.ok) → (∀ x ∈ l.foldl putJ es, x.ok) ∧ (l.foldl putJ es).length ≤ es.length + l.length
  | [], es, h, _ => ⟨h, Nat.le_refl _⟩
  | e :: l, es, h, k => by
    obtain ⟨h1, h2⟩ := putJ_ok h (k e (.head _))
    obtain ⟨h3, h4⟩ := putsJ_ok (l := l) h1 (fun e he => k e (.tail _ he))
    exact ⟨h3, by rw [List.length_cons]; show (l.foldl putJ (putJ es e)).length ≤ _; omega⟩
theorem tag_r (e : En) (x : Str) : PyData.eqv (Dat.d (getI (Tpl.mk (tupD e.r)).l (0 : Int))) (Dat.d (PyData.str x)) = decide ((match e with | .msg _ _ => ("message" : Str) | .path _ _ _ => "turn") = x) := by
  cases e <;> exact tag_eq
theorem tag_turn (e : En) : PyData.eqv (Dat.d (getI (Tpl.mk (tupD e.r)).l (0 : Int))) (Dat.d (PyData.str ("turn" : Str))) = !e.isMsg := by
  rw [tag_r]; cases e <;> rfl
theorem tag_msgR (e : En) : PyData.eqv (Dat.d (getI (Tpl.mk (tupD e.r)).l (0 : Int))) (Dat.d (PyData.str ("message" : Str))) = e.isMsg := by
  rw [tag_r]; cases e <;> rfl
theorem getI_lastR {es : List En} {e : En} (h : es.getLast? = some e) : getI (es.map En.r) (-1) = e.r := by
  have h2 : (es.map En.r)[(es.map En.r).length - 1]? = some e.r := by
    rw [List.getElem?_map, List.length_map, ← List.getLast?_eq_getElem?, h]
    rfl
  have hl : 0 < (es.map En.r).length := by
    cases es with
    | nil => cases h
    | cons _ _ => exact Nat.succ_pos _
  unfold getI atI ixN
  rw [if_neg (by decide), if_pos (by omega)]
  show (((es.map En.r)[((-1 : Int) + ((es.map En.r).length : Int)).toNat]?).getD default) = _
  rw [show ((-1 : Int) + ((es.map En.r).length : Int)).toNat = (es.map En.r).length - 1 by omega, h2]
  rfl
theorem last_someR {es : List En} (h : decide ((0 : Int) < ((es.map En.r).length : Int)) = true) : ∃ e, es.getLast? = some e := by
  cases es with
  | nil => cases h
  | cons x l => exact ⟨_, List.getLast?_eq_some_getLast (by simp)⟩
theorem last_testR {es : List En} : (decide ((0 : Int) < ((es.map En.r).length : Int)) && PyData.eqv (Dat.d (getI (Tpl.mk (tupD (getI (es.map En.r) (-1)))).l (0 : Int))) (Dat.d (PyData.str ("turn" : Str)))) = isPathL es := by
  unfold isPathL
  cases q : es.getLast? with
  | none =>
    have : es = [] := List.getLast?_eq_none_iff.mp q
    rw [this]
    rfl
  | some e =>
    have hl : decide ((0 : Int) < ((es.map En.r).length : Int)) = true := by
      cases es with
      | nil => cases q
      | cons x l => exact decide_eq_true (by rw [List.length_map, List.length_cons]; omega)
    rw [hl, Bool.true_and, getI_lastR q, tag_turn]
    cases e <;> rfl
theorem en_r {e : En} (h : e.ok) : IsR e.r := ⟨e, rfl, h⟩
theorem reps_lastR {K : PySem.W.Frag} {G : Hp} {es : List En} {e : En} {zs : List V} (h : es.getLast? = some e) (r : Reps K (es.map En.r) zs G) : ∃ z, zs[zs.length - 1]? = some z ∧ rep K e.r z G ∧ Reps K (es.dropLast.map En.r) zs.dropLast G := by
  obtain ⟨ys, ey⟩ := List.getLast?_eq_some_iff.mp h
  subst ey
  rw [List.map_append] at r
  obtain ⟨z1, z2, e1, r1, r2⟩ : ∃ z1 z2, zs = z1 ++ z2 ∧ Reps K (ys.map En.r) z1 G ∧ Reps K ([e].map En.r) z2 G := by
    refine ⟨zs.take (ys.map En.r).length, zs.drop (ys.map En.r).length, (List.take_append_drop _ _).symm, ?_, ?_⟩
    · have := paired_take (ys.map En.r).length r
      rw [List.take_left] at this
      exact this
    · have := paired_drop (ys.map En.r).length r
      rw [List.drop_left] at this
      exact this
  cases r2 with
  | cons ra rb =>
    cases rb
    subst e1
    rename_i z
    refine ⟨z, ?_, ra, ?_⟩
    · rw [List.length_append, List.length_singleton, Nat.add_sub_cancel, List.getElem?_append_right (Nat.le_refl _), Nat.sub_self]
      rfl
    · rw [List.dropLast_concat, List.dropLast_concat]
      exact r1
theorem sh_lS {l : List Str} (h : TOk l) : SeqAt.shaped (lS l) = true := (Sh.lst (n := 0) (sh_strs h)).sh (by decide)
theorem eqv_lS (l m : List Str) : PyData.eqv (lS l) (lS m) = decide (l = m) := by
  letI : Fz := ⟨fun _ => none⟩
  exact eqv_texts l m
def optR : Option En → PyData
  | none => .none
  | some e => e.r
theorem ok__law_joined (T : Tx K mg base A) : FnOk P w K mg base CX0 2 A.f__law_joined A.d__law_joined ["rows"] (p__law_joined K) := by
  refine T.F__law_joined.ok sc__law_joined (fun vs He Q E h => ?_) (fun cdv A0 outer s He vs Q E hr h => ⟨_, pss_cons (ps_set (i := 1) sc__law_joined.nd rfl (Or.inl rfl) (pe_lst pa_nil))
    (pss_cons (ps_for PassesOwn.never rfl (pi_listK (K := K) (pv 0)) (pg_name (i := 2) sc__law_joined.nd rfl (Or.inl rfl))
      (pss_cons (ps_if (PW.pt (pw_and (pt_cmpR (op_eqK (K := K) hr.units) (pe_ix (ix_tupK (K := K)) (pv 2) pe_int fun _ _ => rfl) pe_str (nomark _)) (pw_and (pt_cmpR op_gt (pe_callB (call_lenK (K := K)) rfl T.n_len boot_len (pa_cons (pv 1) pa_nil)) pe_int (nomark _)) (pw_and1 (pt_cmpR (op_eqK (K := K) hr.units) (pe_ix (ix_tupK (K := K)) (pe_ix (ix_listK (K := K)) (pv 1) (pe_un un_neg pe_int) fun _ _ => rfl) pe_int fun _ _ => rfl) pe_str (nomark _))))))
        (pss_cons (ps_set (i := 3) sc__law_joined.nd rfl (Or.inl rfl) (pe_bm0K (K := K) PySem.F.plainAttrs_list PySem.F.slot_list_pop PySem.F.type_list_pop mt_pop (pv 1)))
        (pss_cons (ps_set (i := 2) sc__law_joined.nd rfl (Or.inl rfl) (pe_tup (pa_cons pe_str (pa_cons (pe_ix (ix_tupK (K := K)) (pv 3) pe_int fun _ _ => rfl) (pa_cons (pe_ix (ix_tupK (K := K)) (pv 2) pe_int fun _ _ => rfl) (pa_cons (pe_ix (ix_tupK (K := K)) (pv 2) pe_int fun _ _ => rfl) pa_nil))))))
        (pss_one (ps_if (pt_cmpR (op_eqK (K := K) hr.units) (pe_ix (ix_tupK (K := K)) (pv 2) pe_int fun _ _ => rfl) (pe_ix (ix_tupK (K := K)) (pv 2) pe_int fun _ _ => rfl) (nomark _)) (pss_one (ps_set (i := 2) sc__law_joined.nd rfl (Or.inl rfl) pe_non)) pss_nil)))) pss_nil)
      (pss_one (ps_if (pt_cmpR op_notN (pv 2) pe_non (nomark _)) (pss_one (ps_expr (pe_bmK (K := K) PySem.F.plainAttrs_list PySem.F.slot_list_append PySem.F.type_list_append mt_append (pv 1) (pa_cons (pv 2) pa_nil)))) pss_nil))))
    (pss_one (ps_ret (pv 1)))), ?_⟩)
  · obtain ⟨fz, rows, w1, G, rfl, _⟩ := h
    rfl
  · obtain ⟨fz, rows, wr, G, rfl, eG, h1, ⟨es, rfl, hok, hle⟩, hQ⟩ := h
    have st := St.nil eG
    refine q_asgX ⟨by show 0 ≤ sizeLine; decide, fun p hp => ?_⟩
    have st := st.new (o := .lst []) hp noTb_lst
    refine seqP (fun σ H => ∃ G' zs o2 o3, St [] G He [(p, .lst zs)] G' H ∧ Reps K ((joinE es).map En.r) zs G' ∧ σ = [some wr, some (.ref p), o2, o3]) ?_ fun rest => ?_
    · rintro σ1 H1 ⟨G1, zs, o2, o3, st, hz, rfl⟩
      have st2 := st.fix hp
      refine s_ret (K := K) (x := (joinE es).map En.r) st2.s (ev_var rfl (fix_rep hz st.no1)) fun u Gr Hr gq hu => ?_
      refine hQ u Gr Hr (st2.toG.trans gq) ?_
      show rep K ((joinE ((es.map En.r).map decR)).map En.r) _ _
      rw [decR_map]
      exact hu
    · refine s_forL (K := K) st.s (ev_var rfl h1) fun G8 H8 xs g8 r8 => ?_
      refine ⟨fun i σ H => ∃ G' zs o2 o3, St [] G He [(p, .lst zs)] G' H ∧ Same G8 G' ∧ Reps K (((es.take i).foldl putJ []).map En.r) zs G' ∧ σ = [some wr, some (.ref p), o2, o3],
        ⟨G8, [], none, none, st.grow g8, Same.refl _, .nil, rfl⟩, fun i σ' H' ⟨G', zs, _, _, st', sg', _, _⟩ => un sg' st'.s, ?_, ?_⟩
      · rintro i x vx σ' H' hx rx ⟨G', zs, o2, o3, st, sg, hz, rfl⟩
        rw [List.getElem?_map] at hx
        obtain ⟨e, he, rfl⟩ := Option.map_eq_some_iff.mp hx
        have hek : e.ok := hok e (List.mem_of_getElem? he)
        have rx := up sg rx
        obtain ⟨fd, efd⟩ : ∃ fd, fd = (es.take i).foldl putJ [] := ⟨_, rfl⟩
        obtain ⟨okf, lef⟩ := putsJ_ok (l := es.take i) (es := []) (fun _ z => nomatch z) (fun x hx => hok x (List.mem_of_mem_take hx))
        have lei : (es.take i).length ≤ 1000 := by rw [List.length_take]; omega
        have enext : (es.take (i + 1)).foldl putJ [] = putJ fd e := by rw [take_snoc he, List.foldl_append, efd]; rfl
        rw [← efd] at hz okf lef
        have lef : fd.length ≤ 1000 := by simpa using Nat.le_trans lef (by simpa using lei)
        refine seqP (fun σ H => ∃ G' zs w2 ro fd' o3, St [] G He [(p, .lst zs)] G' H ∧ Same G8 G' ∧ Reps K (fd'.map En.r) zs G' ∧ rep K (optR ro) w2 G' ∧ fd'.length ≤ 1000 ∧ putJ fd e = fd' ++ ro.toList ∧ σ = [some wr, some (.ref p), some w2, o3]) ?_ fun rest2 => ?_
        · rintro σ2 H2 ⟨G2, zs2, w2, ro, fd', o3', st, sg, hz, rr, hl', hp', rfl⟩
          refine s_ifF st (b := !isNonD (optR ro)) ?_ ?_ ?_
          · letI := fzj fz.X [(p, HO.lst zs2)]
            exact et_test (ev_notND (ev_var rfl rr))
          · intro hb G3 H3 st g3
            cases ro with
            | none => cases hb
            | some e' =>
              refine s_dropX ?_
              refine ⟨_, rfl, .inl ⟨rfl, zs2, SqL.of st.at1⟩, _, rfl, p, zs2, w2, rfl, rfl, st.at1, ?_, ?_⟩
              · rw [← paired_len hz, List.length_map]
                exact Nat.lt_of_le_of_lt hl' (by decide)
              · refine ⟨G3, _, _, _, st.write noTb_lst, sg.trans g3.g, ?_, rfl⟩
                rw [enext, hp', List.map_append]
                exact paired_append (hz.up g3.g) (.cons (up g3.g rr) .nil)
          · intro hb G3 H3 st g3
            cases ro with
            | some e' => cases e' <;> cases hb
            | none =>
              refine ⟨G3, zs2, _, _, st, sg.trans g3.g, ?_, rfl⟩
              rw [enext, hp', Option.toList_none, List.append_nil]
              exact hz.up g3.g
        · have hv1 : ∀ {G : Hp}, Reps K (fd.map En.r) zs G → ∀ {o : Cells} (w : @Own fz [(p, HO.lst zs)] G H'), @rep (XL PyData) (@repXL (fzj fz.X [(p, HO.lst zs)]) PyData _) K (XL.mk (fd.map En.r)) (.ref p) G := fun hz _ w => ⟨p, zs, rfl, frz_at w (.head _), hz⟩
          have pe : IsR e.r := en_r hek
          have own0 := st.own
          refine s_ifF st (b := (!e.isMsg) && isPathL fd) ?_ ?_ ?_
          · rw [← tag_turn e, ← last_testR]
            have hfd := hv1 hz (o := []) own0
            letI := fzj fz.X [(p, HO.lst zs)]
            refine et_and (et_test (ev_eqD (ev_ixT (ev_asTup (ev_var rfl rx) (r_tup pe)) ev_int (atI_get (at_in (Int.le_refl 0) (r_pos pe)))) (ev_toD ev_str) (r_tag pe _ (by decide +kernel)))) fun _ => et_and (et_test (ev_gt (ev_lenX (ev_var rfl hfd)) ev_int)) fun hb => ?_
            obtain ⟨el, hel⟩ := last_someR hb
            have pl : IsR (getI (fd.map En.r) (-1)) := by rw [getI_lastR hel]; exact en_r (okf el (List.mem_of_getLast? hel))
            have hl := of_decide_eq_true hb
            exact et_test (ev_eqD (ev_ixT (ev_asTup (ev_ixX (ev_var rfl hfd) (ev_neg ev_int) (atI_get (at_neg (by decide) (by show -((fd.map En.r).length : Int) ≤ -1; omega)))) (r_tup pl)) ev_int (atI_get (at_in (Int.le_refl 0) (r_pos pl)))) (ev_toD ev_str) (r_tag pl _ (by decide +kernel)))
          · intro hb G2 H2 st g2
            cases e with
            | msg _ _ => cases hb
            | path o n st0 =>
              obtain ⟨o2', n2, st2, hla⟩ : ∃ o2 n2 st2, fd.getLast? = some (.path o2 n2 st2) := by
                have hb : isPathL fd = true := hb
                unfold isPathL at hb
                cases q : fd.getLast? with
                | none => rw [q] at hb; cases hb
                | some e =>
                  rw [q] at hb
                  cases e with
                  | msg _ _ => cases hb
                  | path o2 n2 st2 => exact ⟨o2, n2, st2, rfl⟩
              have kla : PathOk o2' n2 st2 := ok_last okf hla
              have ke : PathOk o n st0 := hek
              obtain ⟨z, hz1, hz2, hz3⟩ := reps_lastR hla (hz.up g2.g)
              have rx := up g2.g rx
              refine q_asgX ⟨_, rfl, .inl ⟨rfl, zs, SqL.of st.at1⟩, p, zs, z, rfl, rfl, st.at1, hz1, ?_⟩
              have st := st.write (o' := .lst zs.dropLast) noTb_lst
              refine q_asg (K := K) (x := Tpl.mk [PyData.str ("turn" : Str), lS o2', lS n, .tuple st0]) st.s (ev_tpl (ea_cons (ev_toD ev_str) (ea_cons (ev_ixT (x := lS o2') (ev_asTup (ev_var rfl hz2) rfl) ev_int rfl) (ea_cons (ev_ixT (x := lS n) (ev_asTup (ev_var rfl rx) rfl) ev_int rfl) (ea_cons (ev_ixT (x := .tuple st0) (ev_asTup (ev_var rfl rx) rfl) ev_int rfl) ea_nil)))) (by show 4 ≤ sizeLine; decide)) fun v3 G3 H3 g3 r3 => ?_
              have st := st.grow g3
              have r3 : rep K (En.path o2' n st0).r v3 G3 := by
                obtain ⟨c, xs, e1, e2, e3⟩ := r3
                rw [e1]
                exact .tup e2 (reps_dpAll e3)
              have hp' : putJ fd (.path o n st0) = if o2' = n then fd.dropLast else fd.dropLast ++ [.path o2' n st0] := by
                unfold putJ
                rw [hla]
              refine s_if (b := decide (o2' = n)) st.s ?_ ?_ ?_
              · rw [← eqv_lS]
                exact et_test (ev_eqD (ev_ixT (x := lS o2') (ev_asTup (ev_var rfl r3) rfl) ev_int rfl) (ev_ixT (x := lS n) (ev_asTup (ev_var rfl r3) rfl) ev_int rfl) ⟨sh_lS kla.ok1.1, sh_lS ke.ok2.1⟩)
              · intro hb3 G4 H4 g4
                have e3 : o2' = n := of_decide_eq_true hb3
                refine s_asgX ?_
                refine rest2 _ _ ⟨G4, _, .non, none, fd.dropLast, _, st.grow g4, sg.trans (g2.g.trans (g3.g.trans g4.g)), hz3.up (g3.g.trans g4.g), .non, by rw [List.length_dropLast]; omega, ?_, rfl⟩
                rw [hp', if_pos e3, Option.toList_none, List.append_nil]
              · intro hb3 G4 H4 g4
                have e3 : o2' ≠ n := of_decide_eq_false hb3
                refine rest2 _ _ ⟨G4, _, v3, some (.path o2' n st0), fd.dropLast, _, st.grow g4, sg.trans (g2.g.trans (g3.g.trans g4.g)), hz3.up (g3.g.trans g4.g), up g4.g r3, by rw [List.length_dropLast]; omega, ?_, rfl⟩
                rw [hp', if_neg e3, Option.toList_some]
          · intro hb G2 H2 st g2
            refine rest2 _ _ ⟨G2, _, vx, some e, fd, _, st, sg.trans g2.g, hz.up g2.g, up g2.g rx, lef, ?_, rfl⟩
            rw [Option.toList_some]
            cases e with
            | msg _ _ => rfl
            | path o n st0 =>
              have hb : isPathL fd = false := hb
              unfold isPathL at hb
              unfold putJ
              cases q : fd.getLast? with
              | none => rfl
              | some e =>
                rw [q] at hb
                cases e with
                | msg _ _ => rfl
                | path _ _ _ => cases hb
      · rintro σ' H' ⟨G', zs, o2, o3, st, sg, hz, rfl⟩
        rw [List.length_map, List.take_length] at hz
        exact rest _ _ ⟨G', zs, _, _, st, hz, rfl⟩

/-! #### _law_message -/

theorem row_is {rows : List PyData} {es : List En} {x : PyData} (h : rows = es.map En.r) (ok : ∀ e ∈ es, e.ok) (hx : x ∈ rows) : IsR x := by
  rw [h] at hx
  obtain ⟨e, he, ex⟩ := List.mem_map.mp hx
  rw [← ex]
  exact en_r (ok e he)
theorem loud_r {e : En} (h : e.isMsg = true) : boolD (getI (Tpl.mk (tupD e.r)).l (2 : Int)) = e.loud ∧ isBoolD (getI (Tpl.mk (tupD e.r)).l (2 : Int)) = true ∧ (atI (Tpl.mk (tupD e.r)).l (2 : Int)).isSome = true := by
  cases e with
  | msg t b => exact ⟨rfl, rfl, rfl⟩
  | path _ _ _ => cases h
theorem filtR {es : List En} {f : PyData → Bool} {g : En → Bool} (h : ∀ e ∈ es, f e.r = g e) : List.map (fun d => d) ((es.map En.r).filter f) = (es.filter g).map En.r := by
  rw [List.map_id', List.filter_map]
  congr 1
  exact List.filter_congr fun e he => h e he
theorem msgs_r {rows : List PyData} {es : List En} (h : rows = es.map En.r) : List.map (fun d => d) (rows.filter fun d => PyData.eqv (Dat.d (getI (Tpl.mk (tupD d)).l (0 : Int))) (Dat.d (PyData.str ("message" : Str)))) = (es.filter En.isMsg).map En.r := by
  rw [h]
  exact filtR fun e _ => tag_msgR e
theorem turns_r {rows : List PyData} {es : List En} (h : rows = es.map En.r) : List.map (fun d => d) (rows.filter fun d => PyData.eqv (Dat.d (getI (Tpl.mk (tupD d)).l (0 : Int))) (Dat.d (PyData.str ("turn" : Str)))) = (pathsE es).map En.r := by
  rw [h]
  exact filtR fun e _ => tag_turn e
theorem louds_r {ms : List PyData} {es : List En} (h : ms = (es.filter En.isMsg).map En.r) : List.map (fun d => d) (ms.filter fun d => boolD (getI (Tpl.mk (tupD d)).l (2 : Int))) = ((es.filter En.isMsg).filter En.loud).map En.r := by
  rw [h]
  exact filtR fun e he => (loud_r (List.mem_filter.mp he).2).1
theorem msg_is {ms : List PyData} {es : List En} {x : PyData} (h : ms = (es.filter En.isMsg).map En.r) (hx : x ∈ ms) : isTupD x = true ∧ isBoolD (getI (Tpl.mk (tupD x)).l (2 : Int)) = true ∧ (atI (Tpl.mk (tupD x)).l (2 : Int)).isSome = true := by
  rw [h] at hx
  obtain ⟨e, he, ex⟩ := List.mem_map.mp hx
  have q := loud_r (List.mem_filter.mp he).2
  rw [ex] at q
  refine ⟨?_, q.2⟩
  rw [← ex]
  cases e <;> rfl
theorem filt_len {α : Type} {l : List α} {f : α → Bool} {n : Nat} (h : l.length ≤ n) : (l.filter f).length ≤ n := Nat.le_trans (List.length_filter_le _ _) h
theorem paths_rows {es : List En} (ok : ∀ e ∈ es, e.ok) (h : es.length ≤ 1000) : RowsOk ((pathsE es).map En.r) := ⟨pathsE es, rfl, fun e he => ok e (List.mem_filter.mp he).1, filt_len h⟩
theorem joined_len {rows : List PyData} {n : Nat} (h : rows.length ≤ n) (k : RowsOk rows) : (m__law_joined rows).length ≤ n := by
  obtain ⟨es, rfl, ok, _⟩ := k
  unfold m__law_joined joinE
  rw [decR_map, List.length_map]
  have := (putsJ_ok (l := es) (es := []) (fun _ z => nomatch z) ok).2
  rw [List.length_map] at h
  simpa using Nat.le_trans this (by simpa using h)

def m__law_message_1 (d_rows : (List PyData)) (d_text : Str) : (Option (List PyData)) := (some (d_rows ++ ((Dat.d (Tpl.mk ((PyData.str ("message" : Str)) :: ((PyData.str d_text) :: ((PyData.bool false) :: ([] : List PyData)))))) :: ([] : List PyData))))
def m__law_message_2 (d_rows : (List PyData)) (d_text : Str) (d_31 : (List PyData)) : (Option (List PyData)) := (some ((d_31 ++ ((Dat.d (Tpl.mk ((PyData.str ("message" : Str)) :: ((PyData.str d_text) :: ((PyData.bool true) :: ([] : List PyData)))))) :: ([] : List PyData))) ++ (m__law_joined (List.map (fun d_37 => d_37) (List.filter (fun d_37 => (PyData.eqv (Dat.d (getI ((Tpl.mk (tupD d_37))).l (0 : Int))) (Dat.d (PyData.str ("turn" : Str))))) d_rows)))))
def m__law_message_3 (d_rows : (List PyData)) (d_text : Str) (d_7 : (List PyData)) : (Option (List PyData)) := (m__law_message_2 d_rows d_text (List.map (fun d_25 => d_25) (List.filter (fun d_25 => (boolD (getI ((Tpl.mk (tupD d_25))).l (2 : Int)))) d_7)))
def m__law_message_4 (d_rows : (List PyData)) (d_text : Str) (d_is_assertive : Bool) (d_7 : (List PyData)) : (Option (List PyData)) := (cond (!d_is_assertive) (m__law_message_1 d_rows d_text) (m__law_message_3 d_rows d_text d_7))
def m__law_message_5 (d_rows : (List PyData)) (d_text : Str) (d_is_assertive : Bool) (d_7 : (List PyData)) : (Option (List PyData)) := (cond (eqB ((d_7).length : Int) (40 : Int)) (none : (Option (List PyData))) (m__law_message_4 d_rows d_text d_is_assertive d_7))
def m__law_message (d_rows : (List PyData)) (d_text : Str) (d_is_assertive : Bool) : (Option (List PyData)) := (m__law_message_5 d_rows d_text d_is_assertive (List.map (fun d_1 => d_1) (List.filter (fun d_1 => (PyData.eqv (Dat.d (getI ((Tpl.mk (tupD d_1))).l (0 : Int))) (Dat.d (PyData.str ("message" : Str))))) d_rows)))
abbrev p__law_message (K : PySem.W.Frag) : Sp := anyF fun _ => sp3 K (fun rows t b => RowsOk rows ∧ rows.length ≤ 400 ∧ PyData.strOk t = true) m__law_message
theorem ok__law_message (T : Tx K mg base A) : FnOk P w K mg base CX0 3 A.f__law_message A.d__law_message ["rows", "text", "is_assertive"] (p__law_message K) := by
  refine T.F__law_message.ok sc__law_message (fun vs He Q E h => ?_) (fun cdv A0 outer s He vs Q E hr h => ⟨_, (pss_cons (ps_setLc (i := 3) (own := [("row", 5)]) (g := gName 5) rfl sc__law_message.nd rfl rfl (sw_true rfl rfl rfl (by decide +kernel)) (pi_listK (K := K) (pv 0)) (blkOk_by (N := n__law_message) (sc := defScope s__law_message) (by decide +kernel)) (fun _ _ _ _ _ => pg_name (i := 5) sc__law_message.nd rfl (Or.inl rfl)) (fun _ _ _ _ _ => (pts_one (pt_cmpR (op_eqK (K := K) hr.units) (pe_ix (ix_tupK (K := K)) (pv 5) pe_int fun _ _ => rfl) pe_str (nomark _)))) (fun _ _ _ _ _ => (pv 5))) (pss_cons (ps_if (pt_cmpR op_eq (pe_callB (call_lenK (K := K)) rfl T.n_len boot_len (pa_cons (pv 3) pa_nil)) pe_int (nomark _)) (pss_one (ps_ret pe_non)) pss_nil) (pss_cons (ps_if (pt_not (pt_val (pv 2))) (pss_one (ps_ret (pe_op op_cat (pv 0) (pe_lst (pa_cons (pe_tup (pa_cons pe_str (pa_cons (pv 1) (pa_cons pe_bl pa_nil)))) pa_nil))))) pss_nil) (pss_cons (ps_setLc (i := 4) (own := [("row", 5)]) (g := gName 5) rfl sc__law_message.nd rfl rfl (sw_true rfl rfl rfl (by decide +kernel)) (pi_listK (K := K) (pv 3)) (blkOk_by (N := n__law_message) (sc := defScope s__law_message) (by decide +kernel)) (fun _ _ _ _ _ => pg_name (i := 5) sc__law_message.nd rfl (Or.inl rfl)) (fun _ _ _ _ _ => (pts_one (pt_val (pe_ix (ix_tupK (K := K)) (pv 5) pe_int fun _ _ => rfl)))) (fun _ _ _ _ _ => (pv 5))) (pss_one (ps_ret (pe_op op_cat (pe_op op_cat (pv 4) (pe_lst (pa_cons (pe_tup (pa_cons pe_str (pa_cons (pv 1) (pa_cons pe_bl pa_nil)))) pa_nil))) (pe_call (ok__law_joined T) (hr.mono (by decide)) rfl T.g__law_joined T.F__law_joined.kp T.b__law_joined .nil pass0 (pa_cons (pe_lc (own := [("row", 5)]) (g := gName 5) rfl sc__law_message.nd (pi_listK (K := K) (pv 0)) (blkOk_by (N := n__law_message) (sc := defScope s__law_message) (by decide +kernel)) (fun _ _ _ _ _ => pg_name (i := 5) sc__law_message.nd rfl (Or.inl rfl)) (fun _ _ _ _ _ => (pts_one (pt_cmpR (op_eqK (K := K) hr.units) (pe_ix (ix_tupK (K := K)) (pv 5) pe_int fun _ _ => rfl) pe_str (nomark _)))) (fun _ _ _ _ _ => (pv 5))) pa_nil))))))))), ?_⟩)
  · obtain ⟨fz_, d_rows, d_text, d_is_assertive, w_rows, w_text, w_is_assertive, G, rfl, eG, h_rows, h_text, h_is_assertive, hpre, hQ⟩ := h
    rfl
  · obtain ⟨fz_, d_rows, d_text, d_is_assertive, w_rows, w_text, w_is_assertive, G, rfl, eG, h_rows, h_text, h_is_assertive, hpre, hQ⟩ := h
    have gr : Grow G He G He := Grow.refl eG
    obtain ⟨Ge, eGe⟩ : ∃ z, z = G := ⟨G, rfl⟩
    have gr : Grow Ge He G He := by rw [eGe]; exact gr
    rw [← eGe] at hQ
    clear eGe
    have hM : m__law_message d_rows d_text d_is_assertive = (m__law_message_5 d_rows d_text d_is_assertive (List.map (fun d_1 => d_1) (List.filter (fun d_1 => (PyData.eqv (Dat.d (getI ((Tpl.mk (tupD d_1))).l (0 : Int))) (Dat.d (PyData.str ("message" : Str))))) d_rows))) := rfl
    obtain ⟨⟨es, hes, hok, hle⟩, hlen, htx⟩ := hpre
    have hel : es.length ≤ 400 := by rw [hes, List.length_map] at hlen; exact hlen
    have frow := paths_rows hok hle
    have fjl : (m__law_joined ((pathsE es).map En.r)).length ≤ 400 := joined_len (by rw [List.length_map]; exact filt_len hel) frow
    refine q_asg (K := K) gr.s (ev_lcL (fun d_1 => (PyData.eqv (Dat.d (getI ((Tpl.mk (tupD d_1))).l (0 : Int))) (Dat.d (PyData.str ("message" : Str))))) (fun d_1 => d_1) (ev_var rfl h_rows) (by first | (first | exact r_tup (row_is hes hok (by assumption)) | exact at_in (Int.le_refl 0) (r_pos (row_is hes hok (by assumption))) | exact r_tag (row_is hes hok (by assumption)) _ (by decide +kernel) | exact lt_line (by omega) | exact (msg_is f7 (by assumption)).1 | exact (msg_is f7 (by assumption)).2.1 | exact (msg_is f7 (by assumption)).2.2 | (rw [turns_r hes]; exact frow) | exact le_line (by show _ + 1 ≤ _; omega) | (rw [List.length_append, turns_r hes]; exact le_line (by show _ + 1 + _ ≤ _; omega))) | (first | omega | decide | (show _ ≤ sizeLine; decide) | (show _ < sizeLine; decide))) (fun d_1 w_2 G_ H_ sg4 sh_ hm6 h_3 P k => by exact k _ rfl (et_test (ev_eqD (ev_ixT (ev_asTup (ev_var rfl h_3) (by first | (first | exact r_tup (row_is hes hok (by assumption)) | exact at_in (Int.le_refl 0) (r_pos (row_is hes hok (by assumption))) | exact r_tag (row_is hes hok (by assumption)) _ (by decide +kernel) | exact lt_line (by omega) | exact (msg_is f7 (by assumption)).1 | exact (msg_is f7 (by assumption)).2.1 | exact (msg_is f7 (by assumption)).2.2 | (rw [turns_r hes]; exact frow) | exact le_line (by show _ + 1 ≤ _; omega) | (rw [List.length_append, turns_r hes]; exact le_line (by show _ + 1 + _ ≤ _; omega))) | (first | assumption | exact or_l (by assumption) | exact or_l (or_r (by assumption)) | exact num_of (by assumption) (by assumption) | exact not_fA (by assumption) | (first | omega | decide)))) ev_int (atI_get (by first | (first | exact r_tup (row_is hes hok (by assumption)) | exact at_in (Int.le_refl 0) (r_pos (row_is hes hok (by assumption))) | exact r_tag (row_is hes hok (by assumption)) _ (by decide +kernel) | exact lt_line (by omega) | exact (msg_is f7 (by assumption)).1 | exact (msg_is f7 (by assumption)).2.1 | exact (msg_is f7 (by assumption)).2.2 | (rw [turns_r hes]; exact frow) | exact le_line (by show _ + 1 ≤ _; omega) | (rw [List.length_append, turns_r hes]; exact le_line (by show _ + 1 + _ ≤ _; omega))) | (first | decide | (refine at_in ?_ ?_ <;> omega) | (refine at_neg ?_ ?_ <;> omega))))) (ev_toD ev_str) (by first | (first | exact r_tup (row_is hes hok (by assumption)) | exact at_in (Int.le_refl 0) (r_pos (row_is hes hok (by assumption))) | exact r_tag (row_is hes hok (by assumption)) _ (by decide +kernel) | exact lt_line (by omega) | exact (msg_is f7 (by assumption)).1 | exact (msg_is f7 (by assumption)).2.1 | exact (msg_is f7 (by assumption)).2.2 | (rw [turns_r hes]; exact frow) | exact le_line (by show _ + 1 ≤ _; omega) | (rw [List.length_append, turns_r hes]; exact le_line (by show _ + 1 + _ ≤ _; omega))) | (first | omega | decide | (show _ ≤ sizeLine; decide) | (show _ < sizeLine; decide))))) (fun hc5 => (ev_var rfl h_3)))) fun w_8 G11 H12 g10 (h_9 : rep K (List.map (fun d_1 => d_1) (List.filter (fun d_1 => (PyData.eqv (Dat.d (getI ((Tpl.mk (tupD d_1))).l (0 : Int))) (Dat.d (PyData.str ("message" : Str))))) d_rows)) w_8 G11) => ?_
    have h_rows := up g10.g h_rows
    have h_text := up g10.g h_text
    have h_is_assertive := up g10.g h_is_assertive
    have gr := gr.trans g10
    generalize ed_7 : (List.map (fun d_1 => d_1) (List.filter (fun d_1 => (PyData.eqv (Dat.d (getI ((Tpl.mk (tupD d_1))).l (0 : Int))) (Dat.d (PyData.str ("message" : Str))))) d_rows)) = d_7 at h_9 hM
    unfold m__law_message_5 at hM
    have f7 : d_7 = (es.filter En.isMsg).map En.r := by rw [← ed_7]; exact msgs_r hes
    have f7l : d_7.length ≤ 400 := by rw [f7, List.length_map]; exact filt_len hel
    refine q_if gr.s (et_test (ev_eq (ev_lenL (ev_var rfl h_9)) ev_int)) ?_ ?_
    · intro hb14 G15 H16 g13
      have h_rows := up g13.g h_rows
      have h_text := up g13.g h_text
      have h_is_assertive := up g13.g h_is_assertive
      have h_9 := up g13.g h_9
      have gr := gr.trans g13
      replace hM := condT hM hb14
      refine s_ret (K := K) gr.s (ev_non (α := (List PyData))) fun u Gr Hr gq hu => ?_
      exact hQ u Gr Hr (gr.trans gq) (by rw [hM]; exact hu)
    · intro hb14 G17 H18 g13
      have h_rows := up g13.g h_rows
      have h_text := up g13.g h_text
      have h_is_assertive := up g13.g h_is_assertive
      have h_9 := up g13.g h_9
      have gr := gr.trans g13
      replace hM := condF hM hb14
      unfold m__law_message_4 at hM
      refine s_next ?_
      refine nx_mk ?_
      refine q_if gr.s (et_not (et_B (ev_var rfl h_is_assertive))) ?_ ?_
      · intro hb20 G21 H22 g19
        have h_rows := up g19.g h_rows
        have h_text := up g19.g h_text
        have h_is_assertive := up g19.g h_is_assertive
        have h_9 := up g19.g h_9
        have gr := gr.trans g19
        replace hM := condT hM hb20
        unfold m__law_message_1 at hM
        refine s_ret (K := K) gr.s (ev_some (ev_cat (ev_var rfl h_rows) (ev_lst (ea_cons (ev_toD (ev_tpl (ea_cons (ev_toD ev_str) (ea_cons (ev_toD (ev_var rfl h_text)) (ea_cons (ev_toD ev_bl) ea_nil))) (by first | (show _ ≤ sizeLine; decide) | (simp only [List.length_cons, List.length_nil, sizeLine_eq]; omega)))) ea_nil) (by first | (first | exact r_tup (row_is hes hok (by assumption)) | exact at_in (Int.le_refl 0) (r_pos (row_is hes hok (by assumption))) | exact r_tag (row_is hes hok (by assumption)) _ (by decide +kernel) | exact lt_line (by omega) | exact (msg_is f7 (by assumption)).1 | exact (msg_is f7 (by assumption)).2.1 | exact (msg_is f7 (by assumption)).2.2 | (rw [turns_r hes]; exact frow) | exact le_line (by show _ + 1 ≤ _; omega) | (rw [List.length_append, turns_r hes]; exact le_line (by show _ + 1 + _ ≤ _; omega))) | (first | (show _ ≤ sizeLine; decide) | (simp only [List.length_cons, List.length_nil, List.length_append, sizeLine_eq]; omega) | (fail)))) (by first | (first | exact r_tup (row_is hes hok (by assumption)) | exact at_in (Int.le_refl 0) (r_pos (row_is hes hok (by assumption))) | exact r_tag (row_is hes hok (by assumption)) _ (by decide +kernel) | exact lt_line (by omega) | exact (msg_is f7 (by assumption)).1 | exact (msg_is f7 (by assumption)).2.1 | exact (msg_is f7 (by assumption)).2.2 | (rw [turns_r hes]; exact frow) | exact le_line (by show _ + 1 ≤ _; omega) | (rw [List.length_append, turns_r hes]; exact le_line (by show _ + 1 + _ ≤ _; omega))) | (first | omega | decide | (show _ ≤ sizeLine; decide) | (show _ < sizeLine; decide))))) fun u Gr Hr gq hu => ?_
        exact hQ u Gr Hr (gr.trans gq) (by rw [hM]; exact hu)
      · intro hb20 G23 H24 g19
        have h_rows := up g19.g h_rows
        have h_text := up g19.g h_text
        have h_is_assertive := up g19.g h_is_assertive
        have h_9 := up g19.g h_9
        have gr := gr.trans g19
        replace hM := condF hM hb20
        unfold m__law_message_3 at hM
        refine s_next ?_
        refine nx_mk ?_
        refine q_asg (K := K) gr.s (ev_lcL (fun d_25 => (boolD (getI ((Tpl.mk (tupD d_25))).l (2 : Int)))) (fun d_25 => d_25) (ev_var rfl h_9) (by first | (first | exact r_tup (row_is hes hok (by assumption)) | exact at_in (Int.le_refl 0) (r_pos (row_is hes hok (by assumption))) | exact r_tag (row_is hes hok (by assumption)) _ (by decide +kernel) | exact lt_line (by omega) | exact (msg_is f7 (by assumption)).1 | exact (msg_is f7 (by assumption)).2.1 | exact (msg_is f7 (by assumption)).2.2 | (rw [turns_r hes]; exact frow) | exact le_line (by show _ + 1 ≤ _; omega) | (rw [List.length_append, turns_r hes]; exact le_line (by show _ + 1 + _ ≤ _; omega))) | (first | omega | decide | (show _ ≤ sizeLine; decide) | (show _ < sizeLine; decide))) (fun d_25 w_26 G_ H_ sg28 sh_ hm30 h_27 P k => by exact k _ rfl (et_B (ev_asBool (ev_ixT (ev_asTup (ev_var rfl h_27) (by first | (first | exact r_tup (row_is hes hok (by assumption)) | exact at_in (Int.le_refl 0) (r_pos (row_is hes hok (by assumption))) | exact r_tag (row_is hes hok (by assumption)) _ (by decide +kernel) | exact lt_line (by omega) | exact (msg_is f7 (by assumption)).1 | exact (msg_is f7 (by assumption)).2.1 | exact (msg_is f7 (by assumption)).2.2 | (rw [turns_r hes]; exact frow) | exact le_line (by show _ + 1 ≤ _; omega) | (rw [List.length_append, turns_r hes]; exact le_line (by show _ + 1 + _ ≤ _; omega))) | (first | assumption | exact or_l (by assumption) | exact or_l (or_r (by assumption)) | exact num_of (by assumption) (by assumption) | exact not_fA (by assumption) | (first | omega | decide)))) ev_int (atI_get (by first | (first | exact r_tup (row_is hes hok (by assumption)) | exact at_in (Int.le_refl 0) (r_pos (row_is hes hok (by assumption))) | exact r_tag (row_is hes hok (by assumption)) _ (by decide +kernel) | exact lt_line (by omega) | exact (msg_is f7 (by assumption)).1 | exact (msg_is f7 (by assumption)).2.1 | exact (msg_is f7 (by assumption)).2.2 | (rw [turns_r hes]; exact frow) | exact le_line (by show _ + 1 ≤ _; omega) | (rw [List.length_append, turns_r hes]; exact le_line (by show _ + 1 + _ ≤ _; omega))) | (first | decide | (refine at_in ?_ ?_ <;> omega) | (refine at_neg ?_ ?_ <;> omega))))) (by first | (first | exact r_tup (row_is hes hok (by assumption)) | exact at_in (Int.le_refl 0) (r_pos (row_is hes hok (by assumption))) | exact r_tag (row_is hes hok (by assumption)) _ (by decide +kernel) | exact lt_line (by omega) | exact (msg_is f7 (by assumption)).1 | exact (msg_is f7 (by assumption)).2.1 | exact (msg_is f7 (by assumption)).2.2 | (rw [turns_r hes]; exact frow) | exact le_line (by show _ + 1 ≤ _; omega) | (rw [List.length_append, turns_r hes]; exact le_line (by show _ + 1 + _ ≤ _; omega))) | (first | assumption | exact or_l (by assumption) | exact or_l (or_r (by assumption)) | exact num_of (by assumption) (by assumption) | exact not_fA (by assumption) | (first | omega | decide))))) (fun hc29 => (ev_var rfl h_27)))) fun w_32 G35 H36 g34 (h_33 : rep K (List.map (fun d_25 => d_25) (List.filter (fun d_25 => (boolD (getI ((Tpl.mk (tupD d_25))).l (2 : Int)))) d_7)) w_32 G35) => ?_
        have h_rows := up g34.g h_rows
        have h_text := up g34.g h_text
        have h_is_assertive := up g34.g h_is_assertive
        have h_9 := up g34.g h_9
        have gr := gr.trans g34
        generalize ed_31 : (List.map (fun d_25 => d_25) (List.filter (fun d_25 => (boolD (getI ((Tpl.mk (tupD d_25))).l (2 : Int)))) d_7)) = d_31 at h_33 hM
        unfold m__law_message_2 at hM
        have f31 : d_31 = ((es.filter En.isMsg).filter En.loud).map En.r := by rw [← ed_31]; exact louds_r f7
        have f31l : d_31.length ≤ 400 := by rw [f31, List.length_map]; exact filt_len (filt_len hel)
        refine s_ret (K := K) gr.s (ev_some (ev_cat (ev_cat (ev_var rfl h_33) (ev_lst (ea_cons (ev_toD (ev_tpl (ea_cons (ev_toD ev_str) (ea_cons (ev_toD (ev_var rfl h_text)) (ea_cons (ev_toD ev_bl) ea_nil))) (by first | (show _ ≤ sizeLine; decide) | (simp only [List.length_cons, List.length_nil, sizeLine_eq]; omega)))) ea_nil) (by first | (first | exact r_tup (row_is hes hok (by assumption)) | exact at_in (Int.le_refl 0) (r_pos (row_is hes hok (by assumption))) | exact r_tag (row_is hes hok (by assumption)) _ (by decide +kernel) | exact lt_line (by omega) | exact (msg_is f7 (by assumption)).1 | exact (msg_is f7 (by assumption)).2.1 | exact (msg_is f7 (by assumption)).2.2 | (rw [turns_r hes]; exact frow) | exact le_line (by show _ + 1 ≤ _; omega) | (rw [List.length_append, turns_r hes]; exact le_line (by show _ + 1 + _ ≤ _; omega))) | (first | (show _ ≤ sizeLine; decide) | (simp only [List.length_cons, List.length_nil, List.length_append, sizeLine_eq]; omega) | (fail)))) (by first | (first | exact r_tup (row_is hes hok (by assumption)) | exact at_in (Int.le_refl 0) (r_pos (row_is hes hok (by assumption))) | exact r_tag (row_is hes hok (by assumption)) _ (by decide +kernel) | exact lt_line (by omega) | exact (msg_is f7 (by assumption)).1 | exact (msg_is f7 (by assumption)).2.1 | exact (msg_is f7 (by assumption)).2.2 | (rw [turns_r hes]; exact frow) | exact le_line (by show _ + 1 ≤ _; omega) | (rw [List.length_append, turns_r hes]; exact le_line (by show _ + 1 + _ ≤ _; omega))) | (first | omega | decide | (show _ ≤ sizeLine; decide) | (show _ < sizeLine; decide)))) (ev_call1A (ev_lcL (fun d_37 => (PyData.eqv (Dat.d (getI ((Tpl.mk (tupD d_37))).l (0 : Int))) (Dat.d (PyData.str ("turn" : Str))))) (fun d_37 => d_37) (ev_var rfl h_rows) (by first | (first | exact r_tup (row_is hes hok (by assumption)) | exact at_in (Int.le_refl 0) (r_pos (row_is hes hok (by assumption))) | exact r_tag (row_is hes hok (by assumption)) _ (by decide +kernel) | exact lt_line (by omega) | exact (msg_is f7 (by assumption)).1 | exact (msg_is f7 (by assumption)).2.1 | exact (msg_is f7 (by assumption)).2.2 | (rw [turns_r hes]; exact frow) | exact le_line (by show _ + 1 ≤ _; omega) | (rw [List.length_append, turns_r hes]; exact le_line (by show _ + 1 + _ ≤ _; omega))) | (first | omega | decide | (show _ ≤ sizeLine; decide) | (show _ < sizeLine; decide))) (fun d_37 w_38 G_ H_ sg40 sh_ hm42 h_39 P k => by exact k _ rfl (et_test (ev_eqD (ev_ixT (ev_asTup (ev_var rfl h_39) (by first | (first | exact r_tup (row_is hes hok (by assumption)) | exact at_in (Int.le_refl 0) (r_pos (row_is hes hok (by assumption))) | exact r_tag (row_is hes hok (by assumption)) _ (by decide +kernel) | exact lt_line (by omega) | exact (msg_is f7 (by assumption)).1 | exact (msg_is f7 (by assumption)).2.1 | exact (msg_is f7 (by assumption)).2.2 | (rw [turns_r hes]; exact frow) | exact le_line (by show _ + 1 ≤ _; omega) | (rw [List.length_append, turns_r hes]; exact le_line (by show _ + 1 + _ ≤ _; omega))) | (first | assumption | exact or_l (by assumption) | exact or_l (or_r (by assumption)) | exact num_of (by assumption) (by assumption) | exact not_fA (by assumption) | (first | omega | decide)))) ev_int (atI_get (by first | (first | exact r_tup (row_is hes hok (by assumption)) | exact at_in (Int.le_refl 0) (r_pos (row_is hes hok (by assumption))) | exact r_tag (row_is hes hok (by assumption)) _ (by decide +kernel) | exact lt_line (by omega) | exact (msg_is f7 (by assumption)).1 | exact (msg_is f7 (by assumption)).2.1 | exact (msg_is f7 (by assumption)).2.2 | (rw [turns_r hes]; exact frow) | exact le_line (by show _ + 1 ≤ _; omega) | (rw [List.length_append, turns_r hes]; exact le_line (by show _ + 1 + _ ≤ _; omega))) | (first | decide | (refine at_in ?_ ?_ <;> omega) | (refine at_neg ?_ ?_ <;> omega))))) (ev_toD ev_str) (by first | (first | exact r_tup (row_is hes hok (by assumption)) | exact at_in (Int.le_refl 0) (r_pos (row_is hes hok (by assumption))) | exact r_tag (row_is hes hok (by assumption)) _ (by decide +kernel) | exact lt_line (by omega) | exact (msg_is f7 (by assumption)).1 | exact (msg_is f7 (by assumption)).2.1 | exact (msg_is f7 (by assumption)).2.2 | (rw [turns_r hes]; exact frow) | exact le_line (by show _ + 1 ≤ _; omega) | (rw [List.length_append, turns_r hes]; exact le_line (by show _ + 1 + _ ≤ _; omega))) | (first | omega | decide | (show _ ≤ sizeLine; decide) | (show _ < sizeLine; decide))))) (fun hc41 => (ev_var rfl h_39)))) (by first | (first | exact r_tup (row_is hes hok (by assumption)) | exact at_in (Int.le_refl 0) (r_pos (row_is hes hok (by assumption))) | exact r_tag (row_is hes hok (by assumption)) _ (by decide +kernel) | exact lt_line (by omega) | exact (msg_is f7 (by assumption)).1 | exact (msg_is f7 (by assumption)).2.1 | exact (msg_is f7 (by assumption)).2.2 | (rw [turns_r hes]; exact frow) | exact le_line (by show _ + 1 ≤ _; omega) | (rw [List.length_append, turns_r hes]; exact le_line (by show _ + 1 + _ ≤ _; omega))) | (first | omega | decide))) (by first | (first | exact r_tup (row_is hes hok (by assumption)) | exact at_in (Int.le_refl 0) (r_pos (row_is hes hok (by assumption))) | exact r_tag (row_is hes hok (by assumption)) _ (by decide +kernel) | exact lt_line (by omega) | exact (msg_is f7 (by assumption)).1 | exact (msg_is f7 (by assumption)).2.1 | exact (msg_is f7 (by assumption)).2.2 | (rw [turns_r hes]; exact frow) | exact le_line (by show _ + 1 ≤ _; omega) | (rw [List.length_append, turns_r hes]; exact le_line (by show _ + 1 + _ ≤ _; omega))) | (first | omega | decide | (show _ ≤ sizeLine; decide) | (show _ < sizeLine; decide))))) fun u Gr Hr gq hu => ?_
        exact hQ u Gr Hr (gr.trans gq) (by rw [hM]; exact hu)

/-- what is in the queue behind a message -/
def msgJ (es : List En) (t : Str) (b : Bool) : List En := cond b ((es.filter En.isMsg).filter En.loud ++ [En.msg t true] ++ joinE (pathsE es)) (es ++ [En.msg t false])
theorem lmsg_val {es : List En} {t : Str} {b : Bool} : m__law_message (es.map En.r) t b = if ((es.filter En.isMsg).length : Int) = 40 then none else some ((msgJ es t b).map En.r) := by
  show m__law_message_5 _ _ _ (List.map (fun d => d) ((es.map En.r).filter fun d => PyData.eqv (Dat.d (getI (Tpl.mk (tupD d)).l (0 : Int))) (Dat.d (PyData.str ("message" : Str))))) = _
  rw [msgs_r rfl]
  unfold m__law_message_5
  rw [List.length_map]
  by_cases h : ((es.filter En.isMsg).length : Int) = 40
  · rw [if_pos h, show eqB (((es.filter En.isMsg).length : Nat) : Int) (40 : Int) = true from decide_eq_true h]
    rfl
  · rw [if_neg h, show eqB (((es.filter En.isMsg).length : Nat) : Int) (40 : Int) = false from decide_eq_false h]
    show cond (!b) (m__law_message_1 (es.map En.r) t) (m__law_message_3 (es.map En.r) t ((es.filter En.isMsg).map En.r)) = _
    cases b with
    | false =>
      show some (es.map En.r ++ [(En.msg t false).r]) = some ((es ++ [En.msg t false]).map En.r)
      rw [List.map_append]
      rfl
    | true =>
      show m__law_message_2 (es.map En.r) t (List.map (fun d => d) (((es.filter En.isMsg).map En.r).filter fun d => boolD (getI (Tpl.mk (tupD d)).l (2 : Int)))) = _
      rw [louds_r rfl]
      show some (((((es.filter En.isMsg).filter En.loud).map En.r) ++ [(En.msg t true).r]) ++ m__law_joined (List.map (fun d => d) ((es.map En.r).filter fun d => PyData.eqv (Dat.d (getI (Tpl.mk (tupD d)).l (0 : Int))) (Dat.d (PyData.str ("turn" : Str)))))) = _
      rw [turns_r rfl]
      show _ = some (((es.filter En.isMsg).filter En.loud ++ [En.msg t true] ++ joinE (pathsE es)).map En.r)
      rw [List.map_append, List.map_append]
      unfold m__law_joined
      rw [decR_map]
      rfl

/-! #### _law_told -/
def m_told (s : O_Announcements) (t : Str) (b : Bool) : Option Str × O_Announcements := match m_message s t b with
  | .ok y => (none, y.2)
  | .error z => (some z, s)
abbrev p__law_told [Tb] (K : PySem.W.Frag) (A : Adr) : Sp := anyF fun _ => spC2 K (ObQ K A.c_Announcements) (fun s t _ => PreM s t) m_told
theorem ok__law_told (T : Tx K mg base A) : FnOk P w K mg base CX0 6 A.f__law_told A.d__law_told ["queue", "text", "is_assertive"] (p__law_told K A) := by
  refine T.F__law_told.ok sc__law_told (fun vs He Q E h => ?_) (fun cdv A0 outer s He vs Q E hr h => ⟨_, pss_one (ps_try_as (i := 3) (Wout := fun _ _ _ _ => False) rfl rfl sc__law_told.nd rfl rfl ⟨rfl, by decide, .inl T.x_Refused.gC⟩ takes0
      (fun W pn xe tk _ => pss_one (ps_ret (pe_methT (pv 0) T.cl_Announcements T.me_Announcements_message (ok_Announcements_message T) (hr.mono (by decide)) T.b_Announcements_message (fun σ => passAt tk σ) (pa_cons (pv 1) (pa_cons (pv 2) pa_nil)))))
      (fun a oe cls d pn hz hf => pss_one (ps_ret (pe_xf T.x_Refused.xf T.x_Refused.nF hz hf (pv 3))))), ?_⟩)
  · obtain ⟨fz, s, a, cs, t, b, w1, w2, G, rfl, _⟩ := h
    rfl
  · obtain ⟨fz, s, a, cs, t, b, w1, w2, G, rfl, eG, w, ob, h1, h2, hpre, hQ⟩ := h
    have st := St.enter eG w
    obtain ⟨dx, bb, wl, zs, ecs, hl, hz⟩ := id ob
    refine ⟨_, rfl, a, dx, _, rfl, st.at_ (by rw [ecs]; exact .head _), rfl, _, rfl, _, rfl, fz, s, a, cs, t, b, w1, w2, G, rfl, eG, w, ob, h1, h2, hpre, fun y e u G' H' cs' st' o2 r => hQ u G' H' cs' st' (by unfold m_told; rw [e]; exact o2) (by unfold m_told; rw [e]; exact r), fun z e d H1 sm ts hn hd => ⟨true, T.x_Refused.te, fun _ c hc => ?_, fun q => nomatch q⟩⟩
    refine ⟨_, rfl, rfl, rfl, d, _, .str z, rfl, hd, rfl, ?_⟩
    exact hQ _ _ _ _ (st.back sm ts) (by unfold m_told; rw [e]; exact ob) (by unfold m_told; rw [e]; rfl)

/-! the queue's model -/
def chain : List Str → List En → List Str → Prop
  | c, [], l => c = l
  | c, .msg _ _ :: es, l => chain c es l
  | c, .path o n _ :: es, l => o = c ∧ chain n es l
theorem chain_app : ∀ {es fs : List En} {c l : List Str}, chain c (es ++ fs) l ↔ ∃ m, chain c es m ∧ chain m fs l
  | [], fs, c, l => ⟨fun h => ⟨c, rfl, h⟩, fun ⟨m, h1, h2⟩ => by have h1 : c = m := h1; rw [h1]; exact h2⟩
  | .msg _ _ :: es, fs, c, l => chain_app (es := es)
  | .path o n _ :: es, fs, c, l => ⟨fun ⟨h1, h2⟩ => by
      obtain ⟨m, h3, h4⟩ := chain_app.mp h2
      exact ⟨m, ⟨h1, h3⟩, h4⟩, fun ⟨m, ⟨h1, h2⟩, h3⟩ => ⟨h1, chain_app.mpr ⟨m, h2, h3⟩⟩⟩
theorem chain_paths : ∀ {es : List En} {c l : List Str}, chain c es l → chain c (pathsE es) l
  | [], _, _, h => h
  | .msg _ _ :: es, c, l, h => chain_paths (es := es) h
  | .path o n st :: es, c, l, h => ⟨h.1, chain_paths (es := es) h.2⟩
theorem chain_msgs : ∀ {es : List En} {c : List Str}, (∀ e ∈ es, e.isMsg = true) → chain c es c
  | [], _, _ => rfl
  | .msg _ _ :: es, c, h => chain_msgs (es := es) fun e he => h e (.tail _ he)
  | .path _ _ _ :: es, c, h => nomatch h _ (.head _)
/-- no two paths are neighbours -/
def noAdj : List En → Bool
  | [] => true
  | e :: es => (e.isMsg || (match es with | [] => true | f :: _ => f.isMsg)) && noAdj es
def diff (e : En) : Prop := match e with
  | .msg _ _ => True
  | .path o n _ => o ≠ n
theorem noAdj_tail {e : En} {es : List En} (h : noAdj (e :: es) = true) : noAdj es = true := (Bool.and_eq_true_iff.mp h).2
theorem noAdj_drop : ∀ {es : List En}, noAdj es = true → noAdj es.dropLast = true
  | [], _ => rfl
  | [e], _ => rfl
  | e :: f :: es, h => by
    have ih := noAdj_drop (noAdj_tail h)
    rw [List.dropLast_cons_cons]
    cases es with
    | nil => exact Bool.and_eq_true_iff.mpr ⟨by show (e.isMsg || true) = true; rw [Bool.or_true], rfl⟩
    | cons g es =>
      rw [List.dropLast_cons_cons] at ih ⊢
      exact Bool.and_eq_true_iff.mpr ⟨(Bool.and_eq_true_iff.mp h).1, ih⟩
theorem noAdj_snoc : ∀ {es : List En} {e : En}, noAdj es = true → (e.isMsg = true ∨ isPathL es = false) → noAdj (es ++ [e]) = true
  | [], e, _, _ => by show ((e.isMsg || true) && true) = true; rw [Bool.or_true]; rfl
  | [x], e, _, h => by
    show ((x.isMsg || e.isMsg) && ((e.isMsg || true) && true)) = true
    rw [Bool.or_true, Bool.and_true, Bool.and_true]
    rcases h with h | h
    · rw [h, Bool.or_true]
    · have : x.isMsg = true := by
        cases x with
        | msg _ _ => rfl
        | path _ _ _ => cases h
      rw [this, Bool.true_or]
  | x :: y :: es, e, h, k => by
    have h1 := Bool.and_eq_true_iff.mp h
    have ih := noAdj_snoc (es := y :: es) (e := e) h1.2 (k.imp id fun q => by
      unfold isPathL at q ⊢
      rw [List.getLast?_cons_cons] at q
      exact q)
    exact Bool.and_eq_true_iff.mpr ⟨h1.1, ih⟩
theorem drop_last_eq {es : List En} {e : En} (h : es.getLast? = some e) : es = es.dropLast ++ [e] := by
  obtain ⟨ys, ey⟩ := List.getLast?_eq_some_iff.mp h
  rw [ey, List.dropLast_concat]
/-- what stands ahead of a path at the end is no path -/
theorem before_path {es : List En} {o n : List Str} {st : List PyData} (h : noAdj (es ++ [.path o n st]) = true) : isPathL es = false := by
  induction es with
  | nil => rfl
  | cons x es ih =>
    cases es with
    | nil =>
      have := (Bool.and_eq_true_iff.mp h).1
      cases x with
      | msg _ _ => rfl
      | path _ _ _ => cases this
    | cons y es =>
      have := ih (noAdj_tail h)
      unfold isPathL at this ⊢
      rw [List.getLast?_cons_cons]
      exact this
theorem putJ_snoc {es : List En} {e : En} (h : e.isMsg = true ∨ isPathL es = false) : putJ es e = es ++ [e] := by
  cases e with
  | msg t b => rfl
  | path o n st =>
    rcases h with h | h
    · cases h
    · unfold isPathL at h
      unfold putJ
      cases q : es.getLast? with
      | none => rfl
      | some x =>
        rw [q] at h
        cases x with
        | msg _ _ => rfl
        | path _ _ _ => cases h
theorem noAdj_left : ∀ {es fs : List En}, noAdj (es ++ fs) = true → noAdj es = true
  | [], _, _ => rfl
  | [e], fs, _ => by show ((e.isMsg || true) && true) = true; rw [Bool.or_true]; rfl
  | e :: f :: es, fs, h => Bool.and_eq_true_iff.mpr ⟨(Bool.and_eq_true_iff.mp h).1, noAdj_left (es := f :: es) (Bool.and_eq_true_iff.mp h).2⟩
theorem snoc_cond {es : List En} {e : En} (h : noAdj (es ++ [e]) = true) : e.isMsg = true ∨ isPathL es = false := by
  cases e with
  | msg _ _ => exact .inl rfl
  | path _ _ _ => exact .inr (before_path h)
theorem foldJ_id : ∀ (fs es : List En), noAdj (es ++ fs) = true → fs.foldl putJ es = es ++ fs
  | [], es, _ => (List.append_nil es).symm
  | e :: fs, es, h => by
    rw [List.foldl_cons]
    have h2 : noAdj ((es ++ [e]) ++ fs) = true := by rw [List.append_assoc]; exact h
    rw [putJ_snoc (snoc_cond (noAdj_left h2)), foldJ_id fs _ h2, List.append_assoc]
    rfl
theorem joinE_id {es : List En} (h : noAdj es = true) : joinE es = es := foldJ_id es [] h
theorem joinE_snoc {es : List En} {e : En} (h : noAdj es = true) : joinE (es ++ [e]) = putJ es e := by
  unfold joinE
  rw [List.foldl_append, show es.foldl putJ [] = es from joinE_id h]
  rfl
theorem putJ_P {es : List En} {o n : List Str} {st : List PyData} (h : o ≠ n) : putJ es (.path o n st) = putP es o n st := by
  unfold putJ putP
  cases q : es.getLast? with
  | none => show es ++ [.path o n st] = if o = n then es else es ++ [.path o n st]; rw [if_neg h]
  | some e =>
    cases e with
    | msg _ _ => show es ++ [.path o n st] = if o = n then es else es ++ [.path o n st]; rw [if_neg h]
    | path _ _ _ => rfl
theorem foldE_J {A : List En} (hA : isPathL A = false) : ∀ (l B : List En), (∀ e ∈ l, e.isMsg = false ∧ diff e) → l.foldl putE (A ++ B) = A ++ l.foldl putJ B
  | [], B, _ => rfl
  | e :: l, B, h => by
    rw [List.foldl_cons, List.foldl_cons]
    have key : putE (A ++ B) e = A ++ putJ B e := by
      cases e with
      | msg _ _ => exact nomatch (h _ (.head _)).1
      | path o n st =>
        have hne : o ≠ n := (h _ (.head _)).2
        show putP (A ++ B) o n st = A ++ putJ B (.path o n st)
        rw [← putJ_P hne]
        by_cases hB : B = []
        · subst hB
          rw [List.append_nil, putJ_snoc (.inr hA)]
          rfl
        · have e1 : (A ++ B).getLast? = B.getLast? := by rw [List.getLast?_append]; cases q : B.getLast? with
            | none => exact absurd (List.getLast?_eq_none_iff.mp q) hB
            | some x => rfl
          unfold putJ
          rw [e1, List.dropLast_append_of_ne_nil hB]
          cases B.getLast? with
          | none => exact List.append_assoc A B [.path o n st]
          | some x =>
            cases x with
            | msg _ _ => exact List.append_assoc A B [.path o n st]
            | path o2 n2 st2 =>
              show (if o2 = n then A ++ B.dropLast else (A ++ B.dropLast) ++ [.path o2 n st]) = A ++ (if o2 = n then B.dropLast else B.dropLast ++ [.path o2 n st])
              split
              · rfl
              · rw [List.append_assoc]
    rw [key]
    exact foldE_J hA l _ fun x hx => h x (.tail _ hx)
/-- paths alone, joined: at most one is left -/
def one (B : List En) : Prop := B = [] ∨ ∃ o n st, B = [.path o n st] ∧ o ≠ n
theorem putJ_one {B : List En} {e : En} (h : one B) (h1 : e.isMsg = false) (h2 : diff e) : one (putJ B e) := by
  cases e with
  | msg _ _ => cases h1
  | path o n st =>
    have h2 : o ≠ n := h2
    rcases h with rfl | ⟨o2, n2, st2, rfl, h3⟩
    · exact .inr ⟨o, n, st, rfl, h2⟩
    · show one (if o2 = n then [] else [] ++ [.path o2 n st])
      split
      · exact .inl rfl
      · rename_i q
        exact .inr ⟨o2, n, st, rfl, q⟩
theorem foldJ_one : ∀ (l B : List En), one B → (∀ e ∈ l, e.isMsg = false ∧ diff e) → one (l.foldl putJ B)
  | [], B, h, _ => h
  | e :: l, B, h, k => foldJ_one l _ (putJ_one h (k e (.head _)).1 (k e (.head _)).2) fun x hx => k x (.tail _ hx)
theorem putJ_chain {es : List En} {c m l : List Str} {st : List PyData} (h : chain c es m) : chain c (putJ es (.path m l st)) l := by
  unfold putJ
  cases q : es.getLast? with
  | none => exact chain_app.mpr ⟨m, h, rfl, rfl⟩
  | some e =>
    cases e with
    | msg _ _ => exact chain_app.mpr ⟨m, h, rfl, rfl⟩
    | path o2 n2 st2 =>
      rw [drop_last_eq q] at h
      obtain ⟨m1, h1, h2⟩ := chain_app.mp h
      have h3 : o2 = m1 := h2.1
      show chain c (if o2 = l then es.dropLast else es.dropLast ++ [.path o2 l st]) l
      split
      · rename_i e
        rw [← e, h3]
        exact h1
      · exact chain_app.mpr ⟨m1, h1, h3, rfl⟩
theorem foldJ_chain : ∀ (fs es : List En) {c m l : List Str}, (∀ e ∈ fs, e.isMsg = false) → chain c es m → chain m fs l → chain c (fs.foldl putJ es) l
  | [], es, c, m, l, _, h, k => by have k : m = l := k; rw [← k]; exact h
  | .msg _ _ :: fs, es, c, m, l, hm, _, _ => nomatch hm _ (.head _)
  | .path o n st :: fs, es, c, m, l, hm, h, k => by
    have k1 : o = m := k.1
    rw [List.foldl_cons, k1]
    exact foldJ_chain fs _ (fun e he => hm e (.tail _ he)) (putJ_chain h) k.2
/-- what holds of the queue, the tracker's path and the last path -/
structure QI (es : List En) (c l : List Str) : Prop where
  ok : ∀ e ∈ es, e.ok
  df : ∀ e ∈ es, diff e
  na : noAdj es = true
  ch : chain c es l
  n : (es.filter En.isMsg).length ≤ 40
  ol : TOk l ∧ l.length ≤ 4
theorem paths_diff {es : List En} (h : ∀ e ∈ es, diff e) : ∀ e ∈ pathsE es, e.isMsg = false ∧ diff e := fun e he => by
  obtain ⟨h1, h2⟩ := List.mem_filter.mp he
  exact ⟨by simpa using h2, h e h1⟩
theorem msgs_only {es : List En} : ∀ e ∈ (es.filter En.isMsg).filter En.loud ++ [En.msg t true], e.isMsg = true := fun e he => by
  rcases List.mem_append.mp he with he | he
  · exact (List.mem_filter.mp (List.mem_filter.mp he).1).2
  · rw [List.mem_singleton.mp he]; rfl
theorem last_msgs {es : List En} {t : Str} : isPathL ((es.filter En.isMsg).filter En.loud ++ [En.msg t true]) = false := by
  unfold isPathL
  rw [List.getLast?_concat]
theorem msgV_J {es : List En} {t : Str} {b : Bool} (h : ∀ e ∈ es, diff e) : msgV es t b = msgJ es t b := by
  cases b with
  | false => rfl
  | true =>
    show (pathsE es).foldl putE ((es.filter En.isMsg).filter En.loud ++ [.msg t true]) = (es.filter En.isMsg).filter En.loud ++ [.msg t true] ++ joinE (pathsE es)
    have := foldE_J last_msgs (pathsE es) [] (paths_diff h) (A := (es.filter En.isMsg).filter En.loud ++ [.msg t true])
    rw [List.append_nil] at this
    exact this
theorem noAdj_msgs : ∀ {A B : List En}, (∀ e ∈ A, e.isMsg = true) → noAdj B = true → noAdj (A ++ B) = true
  | [], B, _, h => h
  | e :: A, B, h, k => by
    show ((e.isMsg || _) && noAdj (A ++ B)) = true
    rw [h e (.head _), noAdj_msgs (fun x hx => h x (.tail _ hx)) k]
    rfl
theorem one_noAdj {B : List En} (h : one B) : noAdj B = true ∧ ∀ e ∈ B, diff e := by
  rcases h with rfl | ⟨o, n, st, rfl, h⟩
  · exact ⟨rfl, fun _ z => nomatch z⟩
  · exact ⟨rfl, fun e he => by rw [List.mem_singleton.mp he]; exact h⟩
theorem one_msgs {B : List En} (h : one B) : B.filter En.isMsg = [] := by
  rcases h with rfl | ⟨o, n, st, rfl, h⟩ <;> rfl
theorem QI.msg {es : List En} {c l : List Str} {t : Str} {b : Bool} (q : QI es c l) (ht : PyData.strOk t = true) (h : (es.filter En.isMsg).length ≠ 40) : QI (msgJ es t b) c l := by
  have hn := q.n
  cases b with
  | false =>
    show QI (es ++ [.msg t false]) c l
    refine ⟨fun e he => ?_, fun e he => ?_, noAdj_snoc q.na (.inl rfl), chain_app.mpr ⟨l, q.ch, rfl⟩, ?_, q.ol⟩
    · rcases List.mem_append.mp he with he | he
      · exact q.ok e he
      · rw [List.mem_singleton.mp he]; exact ht
    · rcases List.mem_append.mp he with he | he
      · exact q.df e he
      · rw [List.mem_singleton.mp he]; trivial
    · rw [List.filter_append, List.length_append]
      show _ + 1 ≤ 40
      omega
  | true =>
    have h1 : one (joinE (pathsE es)) := foldJ_one _ _ (.inl rfl) (paths_diff q.df)
    have hok : ∀ e ∈ joinE (pathsE es), e.ok := (putsJ_ok (l := pathsE es) (es := []) (fun _ z => nomatch z) fun e he => q.ok e (List.mem_filter.mp he).1).1
    show QI ((es.filter En.isMsg).filter En.loud ++ [.msg t true] ++ joinE (pathsE es)) c l
    refine ⟨fun e he => ?_, fun e he => ?_, noAdj_msgs msgs_only (one_noAdj h1).1, chain_app.mpr ⟨c, chain_msgs msgs_only, foldJ_chain _ _ (fun e he => (paths_diff q.df e he).1) rfl (chain_paths q.ch)⟩, ?_, q.ol⟩
    · rcases List.mem_append.mp he with he | he
      · rcases List.mem_append.mp he with he | he
        · exact q.ok e (List.mem_filter.mp (List.mem_filter.mp he).1).1
        · rw [List.mem_singleton.mp he]; exact ht
      · exact hok e he
    · rcases List.mem_append.mp he with he | he
      · have := msgs_only e he
        cases e with
        | msg _ _ => trivial
        | path _ _ _ => cases this
      · exact (one_noAdj h1).2 e he
    · rw [List.filter_append, one_msgs h1, List.append_nil]
      refine Nat.le_trans (List.length_filter_le _ _) ?_
      rw [List.length_append, List.length_singleton]
      have := List.length_filter_le En.loud (es.filter En.isMsg)
      omega
theorem putJ_diff {es : List En} {o n : List Str} {st : List PyData} (h : ∀ e ∈ es, diff e) (k : o ≠ n) : ∀ e ∈ putJ es (.path o n st), diff e := by
  have app : ∀ {l : List En} {e : En}, (∀ e ∈ l, diff e) → diff e → ∀ x ∈ l ++ [e], diff x := fun hl he x hx => by
    rcases List.mem_append.mp hx with hx | hx
    · exact hl x hx
    · rw [List.mem_singleton.mp hx]; exact he
  unfold putJ
  cases q : es.getLast? with
  | none => exact app h k
  | some e =>
    cases e with
    | msg _ _ => exact app h k
    | path o2 n2 st2 =>
      show ∀ e ∈ (if o2 = n then es.dropLast else es.dropLast ++ [.path o2 n st]), diff e
      split
      · exact fun e he => h e (List.dropLast_subset _ he)
      · rename_i z
        exact app (fun e he => h e (List.dropLast_subset _ he)) z
theorem putJ_noAdj {es : List En} {o n : List Str} {st : List PyData} (h : noAdj es = true) : noAdj (putJ es (.path o n st)) = true := by
  unfold putJ
  cases q : es.getLast? with
  | none => exact noAdj_snoc h (.inr (by unfold isPathL; rw [q]))
  | some e =>
    cases e with
    | msg _ _ => exact noAdj_snoc h (.inr (by unfold isPathL; rw [q]))
    | path o2 n2 st2 =>
      show noAdj (if o2 = n then es.dropLast else es.dropLast ++ [.path o2 n st]) = true
      split
      · exact noAdj_drop h
      · exact noAdj_snoc (noAdj_drop h) (.inr (before_path (o := o2) (n := n2) (st := st2) (by rw [← drop_last_eq q]; exact h)))
theorem putJ_msgs {es : List En} {o n : List Str} {st : List PyData} : ((putJ es (.path o n st)).filter En.isMsg).length ≤ (es.filter En.isMsg).length := by
  unfold putJ
  have hd : (es.dropLast.filter En.isMsg).length ≤ (es.filter En.isMsg).length := ((List.dropLast_sublist es).filter _).length_le
  have ap : ∀ {l : List En} {o n : List Str} {st : List PyData}, (l ++ [En.path o n st]).filter En.isMsg = l.filter En.isMsg := fun {l o n st} => by
    rw [List.filter_append]
    exact List.append_nil _
  cases q : es.getLast? with
  | none => rw [ap]; exact Nat.le_refl _
  | some e =>
    cases e with
    | msg _ _ => show ((es ++ [En.path o n st]).filter En.isMsg).length ≤ _; rw [ap]; exact Nat.le_refl _
    | path o2 n2 st2 =>
      show ((if o2 = n then es.dropLast else es.dropLast ++ [.path o2 n st]).filter En.isMsg).length ≤ _
      split
      · exact hd
      · rw [ap]; exact hd
theorem QI.tell {es : List En} {c l n : List Str} {st : List PyData} (q : QI es c l) (hn : TOk n ∧ n.length ≤ 4) (hs : StepsOf n st) (h : l ≠ n) : QI (putJ es (.path l n st)) c n :=
  ⟨(putJ_ok (e := .path l n st) q.ok (show PathOk l n st from ⟨q.ol, hn, hs⟩)).1, putJ_diff q.df h, putJ_noAdj q.na, putJ_chain q.ch, Nat.le_trans putJ_msgs q.n, hn⟩
theorem QI.take {e : En} {es : List En} {c l : List Str} (q : QI (e :: es) c l) : QI es (match e with | .msg _ _ => c | .path _ n _ => n) l := by
  refine ⟨fun x hx => q.ok x (.tail _ hx), fun x hx => q.df x (.tail _ hx), noAdj_tail q.na, ?_, ?_, q.ol⟩
  · cases e with
    | msg _ _ => exact q.ch
    | path _ _ _ => exact q.ch.2
  · have := q.n
    cases e with
    | msg t b => rw [show ((En.msg t b :: es).filter En.isMsg) = En.msg t b :: es.filter En.isMsg from rfl, List.length_cons] at this; omega
    | path _ _ _ => exact this
/-- a tracker follows -/
theorem take_sameN : ∀ (o n : List Str), o.take (sameN o n) = n.take (sameN o n)
  | [], n => by unfold sameN; cases n <;> rfl
  | _ :: _, [] => rfl
  | a :: l, b :: m => by
    unfold sameN
    split
    · rename_i h
      rw [List.take_succ_cons, List.take_succ_cons, h, take_sameN l m]
    · rfl
theorem steps_names : ∀ {n : List Str} {st : List PyData} (k : Nat), StepsOf n st → (st.drop k).map (fun d => strD (getI (Tpl.mk (tupD d)).l (0 : Int))) = n.drop k
  | _, _, 0, .nil => rfl
  | _, _, _ + 1, .nil => rfl
  | x :: n, d :: st, 0, .cons h t => by
    show strD (getI (Tpl.mk (tupD d)).l (0 : Int)) :: _ = x :: n
    rw [so_val h]
    have := steps_names 0 t
    rw [List.drop_zero, List.drop_zero] at this
    show x :: st.map _ = _
    rw [this]
  | x :: n, d :: st, k + 1, .cons h t => by
    rw [List.drop_succ_cons, List.drop_succ_cons]
    exact steps_names k t
theorem apply_msg (c : List Str) (t : Str) (b : Bool) : m_Tracker_apply ⟨c⟩ (msgE t b) = .ok ((), ⟨c⟩) := by
  show cond (PyData.eqv (.str ("message" : Str)) (.str ("message" : Str))) (Except.ok ((), (⟨c⟩ : O_Tracker))) (m_Tracker_apply_6 (msgE t b) c) = _
  rw [tag_eq]
  rfl
theorem cut_take {α : Type} {l : List α} {k : Nat} (h : k ≤ l.length) : cutL l none (some (k : Int)) = l.take k := by
  unfold cutL
  rw [HT.sIx_nat, show HT.sIx l.length 0 none = 0 from rfl, Nat.min_eq_left h, Nat.sub_zero, List.drop_zero]
theorem apply_path {o n : List Str} {st : List PyData} (k : PathOk o n st) : m_Tracker_apply ⟨o⟩ (annE o n st) = .ok ((), ⟨n⟩) := by
  show cond (PyData.eqv (.str ("path" : Str)) (.str ("message" : Str))) (Except.ok ((), (⟨o⟩ : O_Tracker))) (m_Tracker_apply_4 o (.tuple (st.drop (sameN o n))) ((o.length : Int) - ((o.length : Int) - (sameN o n : Int)))) = _
  rw [tag_eq, show ((o.length : Int) - ((o.length : Int) - (sameN o n : Int))) = (sameN o n : Int) by omega]
  show m_Tracker_apply_4 o (.tuple (st.drop (sameN o n))) (sameN o n : Int) = _
  have h1 := sameN_le o n
  have h2 := paired_len2 k.st
  have h3 := k.ok2.2
  unfold m_Tracker_apply_4
  rw [decide_eq_false (show ¬ ((sameN o n : Int) < 0) by omega)]
  show m_Tracker_apply_3 _ _ _ = _
  unfold m_Tracker_apply_3
  rw [show (Tpl.mk (tupD (.tuple (st.drop (sameN o n))))).l.length = (st.drop (sameN o n)).length from rfl, List.length_drop, decide_eq_false (show ¬ ((20 : Int) < (sameN o n : Int) + ((st.length - sameN o n : Nat) : Int)) by omega)]
  show Except.ok ((), (⟨cutL o none (some (sameN o n : Int)) ++ (st.drop (sameN o n)).map (fun d => strD (getI (Tpl.mk (tupD d)).l (0 : Int)))⟩ : O_Tracker)) = _
  rw [steps_names _ k.st, cut_take h1.1, take_sameN, List.take_append_drop]
def nextC (c : List Str) : En → List Str
  | .msg _ _ => c
  | .path _ n _ => n
theorem apply_en {e : En} {es : List En} {c l : List Str} (q : QI (e :: es) c l) : m_Tracker_apply ⟨c⟩ e.a = .ok ((), ⟨nextC c e⟩) := by
  cases e with
  | msg t b => exact apply_msg c t b
  | path o n st =>
    have h1 : o = c := q.ch.1
    rw [← h1]
    exact apply_path (q.ok _ (.head _))
theorem QI.take' {e : En} {es : List En} {c l : List Str} (q : QI (e :: es) c l) : QI es (nextC c e) l := by
  have := q.take
  cases e <;> exact this
theorem ann_ok {e : En} (h : e.ok) : AnnOk e.a := by
  cases e with
  | msg t b => exact .inl ⟨t, b, rfl, h⟩
  | path o n st =>
    have h : PathOk o n st := h
    refine .inr ⟨_, _, rfl, fun x hx => ?_, ?_⟩
    · obtain ⟨j, hj, ej⟩ := List.getElem_of_mem (List.mem_of_mem_drop hx)
      obtain ⟨y, hy, sy⟩ := paired_get h.st (List.getElem?_eq_getElem hj)
      rw [ej] at sy
      exact ⟨y, sy, h.ok2.1 y (List.mem_of_getElem? hy)⟩
    · rw [List.length_drop, ← paired_len2 h.st]
      have := h.ok2.2
      omega
theorem nextC_ok {e : En} {c : List Str} (h : e.ok) (hc : TOk c ∧ c.length ≤ 4) : TOk (nextC c e) ∧ (nextC c e).length ≤ 4 := by
  cases e with
  | msg _ _ => exact hc
  | path o n st => exact (show PathOk o n st from h).ok2
theorem noAdj_turns : ∀ {es : List En}, noAdj es = true → ∀ k : Nat, ∀ e f, es[k]? = some e → es[k + 1]? = some f → e.isMsg = true ∨ f.isMsg = true
  | [], _, k, _, _, h, _ => by simp at h
  | [x], _, k, _, _, _, h => by simp at h
  | x :: y :: es, h, 0, e, f, he, hf => by
    have he : x = e := by simpa using he
    have hf : y = f := by simpa using hf
    have := (Bool.and_eq_true_iff.mp h).1
    rw [← he, ← hf]
    cases q : x.isMsg with
    | true => exact .inl rfl
    | false =>
      rw [q] at this
      exact .inr this
  | x :: y :: es, h, k + 1, e, f, he, hf => noAdj_turns (es := y :: es) (noAdj_tail h) k e f (by simpa using he) (by simpa using hf)

/-! what is told may be compared -/
theorem pl_up : ∀ {m n : Nat} {d : PyData}, Pl m d → m ≤ n → Pl n d
  | 0, _, _, h, _ => h.elim
  | m + 1, 0, _, _, k => absurd k (by omega)
  | m + 1, n + 1, d, h, k => by
    rcases h with h | ⟨ds, e, l, p⟩
    · exact .inl h
    · exact .inr ⟨ds, e, l, fun x hx => pl_up (p x hx) (by omega)⟩
theorem pl_atom {d : PyData} (h : atomD d = true) (k : d.canLay0 = true) (z : d.depth = 0) : Pl 1 d := .inl ⟨h, by unfold SeqAt.shaped; rw [k, z]; rfl⟩
theorem pl_str {s : Str} (h : PyData.strOk s = true) : Pl 1 (.str s) := pl_atom rfl h rfl
theorem pl_sh0 {d : PyData} (h : Sh 0 d) : Pl 1 d := by
  obtain ⟨h1, h2⟩ := h
  cases d with
  | none => exact pl_atom rfl rfl rfl
  | bool b => exact pl_atom rfl rfl rfl
  | int i => exact pl_atom rfl rfl rfl
  | str s => exact pl_atom rfl h1 rfl
  | list ds => exact absurd h2 (by show ¬ (PyData.depthAll ds + 1 ≤ 0); omega)
  | tuple ds => exact absurd h2 (by show ¬ (PyData.depthAll ds + 1 ≤ 0); omega)
  | dict _ => cases h1
theorem lay_mem : ∀ {ds : List PyData}, PyData.canLayAll0 ds = true → ∀ x ∈ ds, x.canLay0 = true
  | [], _, _, h => nomatch h
  | d :: ds, h, x, hx => by
    have h' : (d.canLay0 && PyData.canLayAll0 ds) = true := h
    rw [Bool.and_eq_true] at h'
    cases hx with
    | head => exact h'.1
    | tail _ hx => exact lay_mem h'.2 x hx
theorem dep_mem : ∀ {ds : List PyData} {x : PyData}, x ∈ ds → x.depth ≤ PyData.depthAll ds
  | d :: ds, x, hx => by
    show x.depth ≤ max d.depth (PyData.depthAll ds)
    cases hx with
    | head => exact Nat.le_max_left _ _
    | tail _ hx => exact Nat.le_trans (dep_mem hx) (Nat.le_max_right _ _)
theorem sh_item {n : Nat} {ds : List PyData} (h : Sh (n + 1) (.tuple ds)) : ∀ x ∈ ds, Sh n x := fun x hx =>
  ⟨lay_mem h.1 x hx, by have h2 : PyData.depthAll ds + 1 ≤ n + 1 := h.2; have := dep_mem hx; omega⟩
theorem pl_step {a : Str} {d : PyData} (h : stepOf a d) : Pl 2 d := by
  obtain ⟨ds, e, hs, hl⟩ := h
  subst e
  exact .inr ⟨_, rfl, by rw [List.length_cons]; omega, fun x hx => pl_sh0 (sh_item hs x hx)⟩
theorem step_mem {n : List Str} {st : List PyData} (h : StepsOf n st) : ∀ x ∈ st, ∃ a ∈ n, stepOf a x := fun x hx => by
  obtain ⟨j, hj, ej⟩ := List.getElem_of_mem hx
  obtain ⟨y, hy, sy⟩ := paired_get h (List.getElem?_eq_getElem hj)
  rw [ej] at sy
  exact ⟨y, List.mem_of_getElem? hy, sy⟩
theorem ann_pl {e : En} (h : e.ok) : Pl 4 e.a := by
  cases e with
  | msg t b => exact .inr ⟨_, rfl, by show 3 ≤ 1000; decide, fa3 (pl_up (pl_str (by decide +kernel)) (by decide)) (pl_up (pl_str h) (by decide)) (pl_up (pl_atom rfl rfl rfl) (by decide))⟩
  | path o n st =>
    have h : PathOk o n st := h
    refine .inr ⟨_, rfl, by show 3 ≤ 1000; decide, fa3 (pl_up (pl_str (by decide +kernel)) (by decide)) (pl_up (pl_atom rfl rfl rfl) (by decide)) (.inr ⟨_, rfl, ?_, fun x hx => ?_⟩)⟩
    · rw [List.length_drop, ← paired_len2 h.st]
      have := h.ok2.2
      omega
    · obtain ⟨a, _, sa⟩ := step_mem h.st x (List.mem_of_mem_drop hx)
      exact pl_step sa
theorem ann_sh {e : En} (h : e.ok) : Sh 3 e.a := by
  cases e with
  | msg t b => exact .tup (fa3 (.str (by decide +kernel)) (.str h) .bool)
  | path o n st =>
    have h : PathOk o n st := h
    refine .tup (fa3 (.str (by decide +kernel)) .int (.tup fun x hx => ?_))
    obtain ⟨a, _, ds, e, hs, _⟩ := step_mem h.st x (List.mem_of_mem_drop hx)
    exact hs
theorem same_pre {es : List En} (h : ∀ e ∈ es, e.ok) (l : es.length ≤ 1000) : (PyData.tuple (es.map En.a)) = (PyData.tuple ((es.map En.r).map m__law_shown)) ∧ Pl 5 (PyData.tuple ((es.map En.r).map m__law_shown)) := by
  have e1 : (es.map En.r).map m__law_shown = es.map En.a := by
    rw [List.map_map]
    exact List.map_congr_left fun e he => shown_val e (h e he)
  rw [e1]
  refine ⟨rfl, .inr ⟨_, rfl, by rw [List.length_map]; exact l, fun x hx => ?_⟩⟩
  obtain ⟨e, he, ex⟩ := List.mem_map.mp hx
  rw [← ex]
  exact ann_pl (h e he)
theorem no_turns {es : List En} (h : noAdj es = true) : List.map (fun d => d) (List.filter (fun k => (getI (es.map fun e => !e.isMsg) k && getI (es.map fun e => !e.isMsg) (k - (1 : Int)))) (rgs (1 : Int) (((es.map fun e => !e.isMsg).length : Nat) : Int))) = ([] : List Int) := by
  rw [List.map_id', List.filter_eq_nil_iff]
  intro k hk z
  have hm := mem_rgs.mp hk
  rw [List.length_map] at hm
  rw [Bool.and_eq_true] at z
  have hg : ∀ j : Nat, j < es.length → getI (es.map fun e => !e.isMsg) (j : Int) = !(es[j]?.map En.isMsg).getD true := fun j hj => by
    unfold getI atI ixN
    rw [List.length_map, if_pos (by omega), if_pos (by omega), Int.toNat_natCast]
    show ((es.map fun e => !e.isMsg)[j]?).getD default = _
    rw [List.getElem?_map, List.getElem?_eq_getElem hj]
    rfl
  obtain ⟨j, ej⟩ : ∃ j : Nat, k = ((j + 1 : Nat) : Int) := ⟨(k - 1).toNat, by omega⟩
  subst ej
  have hj : j + 1 < es.length := by omega
  rw [show (((j + 1 : Nat) : Int) - 1) = (j : Int) by omega, hg _ hj, hg j (by omega), List.getElem?_eq_getElem hj, List.getElem?_eq_getElem (show j < es.length by omega)] at z
  have := noAdj_turns h j _ _ (List.getElem?_eq_getElem (show j < es.length by omega)) (List.getElem?_eq_getElem hj)
  rcases this with q | q
  · rw [Option.map_some, Option.getD_some, Option.map_some, Option.getD_some, q] at z
    exact absurd z.2 (by decide)
  · rw [Option.map_some, Option.getD_some, q] at z
    exact absurd z.1 (by decide)

/-! #### law -/
def m_law (_ : Scr) : Bool := true
theorem law_true (ns : List Int) (h : ns.length ≤ 63) : m_law ⟨ns⟩ = true := rfl
abbrev p_law [Tb] (K : PySem.W.Frag) : Sp := anyF fun _ => sp1 K (fun s : Scr => s.l.length ≤ 63) m_law
/-- where the law stands -/
structure LawAt [Tb] [Fz] (K : PySem.W.Frag) (A : Adr) (Ge He : Hp) (a b dxb : Addr) (cs : Cells) (es : List En) (c l : List Str) (d_script : Scr) (ws wr wl : V) (G H : Hp) : Prop where
  st : St [] Ge He cs G H
  ob : ObQ K A.c_Announcements ⟨l, es⟩ a cs G
  tr : Ob_Tracker K A.c_Tracker ⟨c⟩ b dxb G
  rw : rep K (es.map En.r) wr G
  rl : rep K l wl G
  rs : rep K d_script ws G
  q : QI es c l
  cl : TOk c ∧ c.length ≤ 4
section
variable [Tb] [Fz] {K : PySem.W.Frag} {A : Adr} {Ge He G H G' H' : Hp} {a b dxb : Addr} {cs : Cells} {es : List En} {c l : List Str} {d_script : Scr} {ws wr wl : V}
theorem LawAt.grow (h : LawAt K A Ge He a b dxb cs es c l d_script ws wr wl G H) (g : Grow G H G' H') : LawAt K A Ge He a b dxb cs es c l d_script ws wr wl G' H' :=
  ⟨h.st.grow g, (obQ K A.c_Announcements).up g.g h.ob, (ob_Tracker K A.c_Tracker).up g.g h.tr, up g.g h.rw, up g.g h.rl, up g.g h.rs, h.q, h.cl⟩
end
theorem msgJ_len {es : List En} {t : Str} {b : Bool} (ok : ∀ e ∈ es, e.ok) : (msgJ es t b).length ≤ es.length + 1 := by
  cases b with
  | false => show (es ++ [_]).length ≤ _; rw [List.length_append]; exact Nat.le_refl _
  | true =>
    show ((es.filter En.isMsg).filter En.loud ++ [En.msg t true] ++ joinE (pathsE es)).length ≤ _
    rw [List.length_append, List.length_append, List.length_singleton]
    have h1 := List.length_filter_le En.loud (es.filter En.isMsg)
    have h2 := (putsJ_ok (l := pathsE es) (es := []) (fun _ z => nomatch z) fun e he => ok e (List.mem_filter.mp he).1).2
    have h3 : (es.filter En.isMsg).length + (pathsE es).length = es.length := by
      unfold pathsE
      clear h1 h2 ok
      induction es with
      | nil => rfl
      | cons e es ih =>
        cases e with
        | msg _ _ => show (_ :: es.filter En.isMsg).length + (es.filter _).length = _; rw [List.length_cons, List.length_cons]; omega
        | path _ _ _ => show (es.filter En.isMsg).length + (_ :: es.filter _).length = _; rw [List.length_cons, List.length_cons]; omega
    have h2 : (joinE (pathsE es)).length ≤ (pathsE es).length := by simpa [joinE] using h2
    omega
theorem dig_txt : ∀ k < 100, (PySem.Str.ofString (toString (Int.ofNat k))).length ≤ 3 ∧ PyData.strOk (PySem.Str.ofString (toString (Int.ofNat k))) = true := by decide +kernel
theorem dig_txt' {n : Int} (h0 : 0 ≤ n) (h1 : n < 100) : (PySem.Str.ofString (toString n)).length ≤ 3 ∧ PyData.strOk (PySem.Str.ofString (toString n)) = true := by
  have := dig_txt n.toNat (by omega)
  rw [show Int.ofNat n.toNat = n from Int.toNat_of_nonneg h0] at this
  exact this
theorem m_msg_ok {s : O_Announcements} {t : Str} {b : Bool} (h : (s.es.filter En.isMsg).length ≤ 40) (n : (s.es.filter En.isMsg).length ≠ 40) : m_message s t b = .ok ((), ⟨s.last, msgV s.es t b⟩) := by
  unfold m_message
  rw [decide_eq_false (show ¬ ((40 : Int) ≤ ((s.es.filter En.isMsg).length : Int)) by omega)]
  rfl
theorem m_msg_err {s : O_Announcements} {t : Str} {b : Bool} (n : (s.es.filter En.isMsg).length = 40) : m_message s t b = .error ("too many queued messages" : Str) := by
  unfold m_message
  rw [decide_eq_true (show ((40 : Int) ≤ ((s.es.filter En.isMsg).length : Int)) by omega)]
  rfl
theorem ok_law (T : Tx K mg base A) : FnOk P w K mg base CX0 8 A.f_law A.d_law ["script"] (p_law K) := by
  refine T.F_law.ok sc_law (fun vs He Q E h => ?_) (fun cdv A0 outer s He vs Q E hr h => ⟨_, (pss_cons (ps_set (i := 1) sc_law.nd rfl (Or.inl rfl) (pe_make0 T.mk_Announcements (ok_Announcements___init__ T) (hr.mono (by decide)) rfl T.gC_Announcements T.b_Announcements___init__ .nil pass0)) (pss_cons (ps_set (i := 2) sc_law.nd rfl (Or.inl rfl) (pe_make0 T.mk_Tracker (ok_Tracker___init__ T) (hr.mono (by decide)) rfl T.gC_Tracker T.b_Tracker___init__ .nil pass0)) (pss_cons (ps_set (i := 3) sc_law.nd rfl (Or.inl rfl) (pe_lst pa_nil)) (pss_cons (ps_set (i := 4) sc_law.nd rfl (Or.inl rfl) (pe_lst pa_nil)) (pss_cons (ps_for PassesOwn.never rfl (pi_range1 rfl T.n_range (pa_cons (pe_op op_mul (pe_op op_fdiv (pe_op op_mod (pe_call (ok__law_cell T) (hr.mono (by decide)) rfl T.g__law_cell T.F__law_cell.kp T.b__law_cell .nil pass0 (pa_cons (pv 0) (pa_cons pe_int pa_nil))) pe_int) pe_int) pe_int) pa_nil)) (pg_name (i := 5) sc_law.nd rfl (Or.inl rfl)) (pss_cons (ps_expr (pe_meth (pv 1) T.cl_Announcements T.me_Announcements_message (ok_Announcements_message T) (hr.mono (by decide)) T.b_Announcements_message .nil passN (pa_cons (pe_op op_add_str pe_str (pe_callTy call_str_int rfl T.n_str boot_str (pa_cons (pv 5) pa_nil))) (pa_cons (pe_and (pe_cmpR op_eq (pe_op op_mod (pv 5) pe_int) pe_int (nomark _)) (pe_one (pe_cmpR op_lt (pv 5) pe_int (nomark _)))) pa_nil)))) (pss_one (ps_set (i := 3) sc_law.nd rfl (Or.inl rfl) (pe_call (ok__law_message T) (hr.mono (by decide)) rfl T.g__law_message T.F__law_message.kp T.b__law_message .nil pass0 (pa_cons (pv 3) (pa_cons (pe_op op_add_str pe_str (pe_callTy call_str_int rfl T.n_str boot_str (pa_cons (pv 5) pa_nil))) (pa_cons (pe_and (pe_cmpR op_eq (pe_op op_mod (pv 5) pe_int) pe_int (nomark _)) (pe_one (pe_cmpR op_lt (pv 5) pe_int (nomark _)))) pa_nil)))))))) (pss_cons (ps_for PassesOwn.never rfl (pi_range1 rfl T.n_range (pa_cons (pe_op op_mod (pe_call (ok__law_cell T) (hr.mono (by decide)) rfl T.g__law_cell T.F__law_cell.kp T.b__law_cell .nil pass0 (pa_cons (pv 0) (pa_cons pe_int pa_nil))) pe_int) pa_nil)) (pg_name (i := 5) sc_law.nd rfl (Or.inl rfl)) (pss_cons (ps_set (i := 8) sc_law.nd rfl (Or.inl rfl) (pe_call (ok__law_draws T) (hr.mono (by decide)) rfl T.g__law_draws T.F__law_draws.kp T.b__law_draws .nil pass0 (pa_cons (pe_call (ok__law_cell T) (hr.mono (by decide)) rfl T.g__law_cell T.F__law_cell.kp T.b__law_cell .nil pass0 (pa_cons (pv 0) (pa_cons (pe_op op_add pe_int (pv 5)) pa_nil))) (pa_cons pe_int pa_nil)))) (pss_cons (ps_set (i := 9) sc_law.nd rfl (Or.inl rfl) (pe_op op_mod (pe_callTy call_int1 rfl T.n_int boot_int (pa_cons (pe_ix (ix_listK (K := K)) (pv 8) pe_int fun _ _ => rfl) pa_nil)) pe_int)) (pss_cons (ps_if (pt_cmpR op_lt (pv 9) pe_int (nomark _)) (pss_cons (ps_set (i := 10) sc_law.nd rfl (Or.inl rfl) (pe_call (ok__law_path T) (hr.mono (by decide)) rfl T.g__law_path T.F__law_path.kp T.b__law_path .nil pass0 (pa_cons (pv 8) pa_nil))) (pss_cons (ps_set (i := 11) sc_law.nd rfl (Or.inl rfl) (pe_call (ok__law_steps T) (hr.mono (by decide)) rfl T.g__law_steps T.F__law_steps.kp T.b__law_steps .nil pass0 (pa_cons (pv 10) (pa_cons (pe_callTy call_int1 rfl T.n_int boot_int (pa_cons (pe_ix (ix_listK (K := K)) (pv 8) pe_int fun _ _ => rfl) pa_nil)) pa_nil)))) (pss_cons (ps_if (pt_cmpR (op_neK (K := K) hr.units) (pv 10) (pv 4) (nomark _)) (pss_cons (ps_set (i := 3) sc_law.nd rfl (Or.inl rfl) (pe_call (ok__law_joined T) (hr.mono (by decide)) rfl T.g__law_joined T.F__law_joined.kp T.b__law_joined .nil pass0 (pa_cons (pe_op op_cat (pv 3) (pe_lst (pa_cons (pe_tup (pa_cons pe_str (pa_cons (pv 4) (pa_cons (pv 10) (pa_cons (pv 11) pa_nil))))) pa_nil))) pa_nil))) (pss_one (ps_set (i := 4) sc_law.nd rfl (Or.inl rfl) (pv 10)))) pss_nil) (pss_one (ps_expr (pe_meth (pv 1) T.cl_Announcements T.me_Announcements_tell (ok_Announcements_tell T) (hr.mono (by decide)) T.b_Announcements_tell .nil pass0 (pa_cons (pe_callTy (call_listK (K := K)) rfl T.n_list boot_list (pa_cons (pv 10) pa_nil)) (pa_cons (pv 11) pa_nil)))))))) (pss_one (ps_if (pt_cmpR op_lt (pv 9) pe_int (nomark _)) (pss_cons (ps_set (i := 12) sc_law.nd rfl (Or.inl rfl) (pe_call (ok__law_message T) (hr.mono (by decide)) rfl T.g__law_message T.F__law_message.kp T.b__law_message .nil pass0 (pa_cons (pv 3) (pa_cons (pe_op op_add_str pe_str (pe_callTy call_str_int rfl T.n_str boot_str (pa_cons (pv 5) pa_nil))) (pa_cons (pe_cmpR op_eq (pe_op op_mod (pe_callTy call_int1 rfl T.n_int boot_int (pa_cons (pe_ix (ix_listK (K := K)) (pv 8) pe_int fun _ _ => rfl) pa_nil)) pe_int) pe_int (nomark _)) pa_nil))))) (pss_cons (ps_set (i := 13) sc_law.nd rfl (Or.inl rfl) (pe_call (ok__law_told T) (hr.mono (by decide)) rfl T.g__law_told T.F__law_told.kp T.b__law_told .nil pass0 (pa_cons (pv 1) (pa_cons (pe_op op_add_str pe_str (pe_callTy call_str_int rfl T.n_str boot_str (pa_cons (pv 5) pa_nil))) (pa_cons (pe_cmpR op_eq (pe_op op_mod (pe_callTy call_int1 rfl T.n_int boot_int (pa_cons (pe_ix (ix_listK (K := K)) (pv 8) pe_int fun _ _ => rfl) pa_nil)) pe_int) pe_int (nomark _)) pa_nil))))) (pss_cons (ps_if (pt_cmpR op_ne (pv 13) (pe_ifExp (pt_cmpR op_isN (pv 12) pe_non (nomark _)) pe_str pe_non) (nomark _)) (pss_one (ps_ret pe_bl)) pss_nil) (pss_one (ps_set (i := 3) sc_law.nd rfl (Or.inl rfl) (pe_ifExp (pt_cmpR op_isN (pv 12) pe_non (nomark _)) (pv 3) (pv 12))))))) (pss_cons (ps_set (i := 13) sc_law.nd rfl (Or.inl rfl) (pe_meth0 (pv 1) T.cl_Announcements T.me_Announcements_take (ok_Announcements_take T) (hr.mono (by decide)) T.b_Announcements_take .nil pass0)) (pss_cons (ps_if (pt_cmpR (op_neK (K := K) hr.units) (pv 13) (pe_ifExp (pt_cmpR op_gt (pe_callB (call_lenK (K := K)) rfl T.n_len boot_len (pa_cons (pv 3) pa_nil)) pe_int (nomark _)) (pe_call (ok__law_shown T) (hr.mono (by decide)) rfl T.g__law_shown T.F__law_shown.kp T.b__law_shown .nil pass0 (pa_cons (pe_ix (ix_listK (K := K)) (pv 3) pe_int fun _ _ => rfl) pa_nil)) pe_non) (nomark _)) (pss_one (ps_ret pe_bl)) pss_nil) (pss_cons (ps_if (pt_cmpR op_notN (pv 13) pe_non (nomark _)) (pss_one (ps_expr (pe_meth (pv 2) T.cl_Tracker T.me_Tracker_apply (ok_Tracker_apply T) (hr.mono (by decide)) T.b_Tracker_apply .nil passN (pa_cons (pv 13) pa_nil)))) pss_nil) (pss_one (ps_set (i := 3) sc_law.nd rfl (Or.inl rfl) (pe_slice (sl_listK (K := K)) (pv 3) (po_some pe_int) po_none))))))))) (pss_one (ps_if (pt_not (pt_val (pe_call (ok__law_same T) (hr.mono (by decide)) rfl T.g__law_same T.F__law_same.kp T.b__law_same .nil pass0 (pa_cons (pe_callTy (call_tupleK (K := K)) rfl T.n_tuple boot_tuple (pa_cons (pe_meth0 (pv 1) T.cl_Announcements T.me_Announcements_queue (ok_Announcements_queue T) (hr.mono (by decide)) T.b_Announcements_queue .nil pass0) pa_nil)) (pa_cons (pe_callTy (call_tupleK (K := K)) rfl T.n_tuple boot_tuple (pa_cons (pe_lc (own := [("row", 6)]) (g := gName 6) (tt := tYes) rfl sc_law.nd (pi_listK (K := K) (pv 3)) (blkOk_by (N := n_law) (sc := defScope s_law) (by decide +kernel)) (fun _ _ _ _ _ => pg_name (i := 6) sc_law.nd rfl (Or.inl rfl)) (fun _ _ _ _ _ => pts_nil) (fun _ _ _ _ _ => (pe_call (ok__law_shown T) (hr.mono (by decide)) rfl T.g__law_shown T.F__law_shown.kp T.b__law_shown .nil pass0 (pa_cons (pv 6) pa_nil)))) pa_nil)) pa_nil))))) (pss_one (ps_ret pe_bl)) pss_nil)))))) (pss_cons (ps_for PassesOwn.never rfl (pi_listK (K := K) (pe_meth0 (pv 1) T.cl_Announcements T.me_Announcements_queue (ok_Announcements_queue T) (hr.mono (by decide)) T.b_Announcements_queue .nil pass0)) (pg_name (i := 6) sc_law.nd rfl (Or.inl rfl)) (pss_one (ps_expr (pe_meth (pv 2) T.cl_Tracker T.me_Tracker_apply (ok_Tracker_apply T) (hr.mono (by decide)) T.b_Tracker_apply .nil passN (pa_cons (pv 6) pa_nil))))) (pss_cons (ps_set (i := 7) sc_law.nd rfl (Or.inr rfl) (pe_lc (own := [("row", 6)]) (g := gName 6) (tt := tYes) rfl sc_law.nd (pi_listK (K := K) (pv 3)) (blkOk_by (N := n_law) (sc := defScope s_law) (by decide +kernel)) (fun _ _ _ _ _ => pg_name (i := 6) sc_law.nd rfl (Or.inl rfl)) (fun _ _ _ _ _ => pts_nil) (fun _ _ _ _ _ => (pe_cmpR (op_eqK (K := K) hr.units) (pe_ix (ix_tupK (K := K)) (pv 6) pe_int fun _ _ => rfl) pe_str (nomark _))))) (pss_one (ps_ret (pe_and (pe_cmpR (op_eqK (K := K) hr.units) (pe_meth0 (pv 2) T.cl_Tracker T.me_Tracker_path (ok_Tracker_path T) (hr.mono (by decide)) T.b_Tracker_path .nil pass0) (pv 4) (nomark _)) (pe_one (pe_cmpR op_eq (pe_callB (call_lenK (K := K)) rfl T.n_len boot_len (pa_cons (pe_lc (own := [("k", 5)]) (g := gName 5) rfl sc_law.nd (pi_range2 rfl T.n_range (pa_cons pe_int (pa_cons (pe_callB (call_lenK (K := K)) rfl T.n_len boot_len (pa_cons (pv 7) pa_nil)) pa_nil))) (blkOk_by (N := n_law) (sc := defScope s_law) (by decide +kernel)) (fun _ _ _ _ _ => pg_name (i := 5) sc_law.nd rfl (Or.inl rfl)) (fun _ _ _ _ _ => (pts_one (PW.pt (pw_and (pt_val (pe_ix (ix_listK (K := K)) (pv 7) (pv 5) fun _ _ => rfl)) (pw_and1 (pt_val (pe_ix (ix_listK (K := K)) (pv 7) (pe_op op_sub (pv 5) pe_int) fun _ _ => rfl))))))) (fun _ _ _ _ _ => (pv 5))) pa_nil)) pe_int (nomark _)))))))))))))), ?_⟩)
  · obtain ⟨fz, d_script, w, G, rfl, _⟩ := h
    rfl
  · obtain ⟨fz, d_script, ws, G, rfl, eG, hs, hpre, hQ⟩ := h
    have hT : ∀ {cs : Cells} {G' H' : Hp}, St [] G He cs G' H' → Q (.bl true) H' := fun t => hQ _ _ _ t.toG rfl
    have st := St.nil eG
    refine q_asgX (make0B st fun a G1 H1 cs1 st1 ob1 sg1 => ?_)
    rw [List.append_nil] at st1
    have hs1 := up sg1 hs
    refine q_asgX (make0A st1.s fun b dxb G2 H2 hb1 gb1 g2 ob2 => ?_)
    have hbH : He b = none := st1.gr.fr b hb1
    have hbG : G b = none := eG.free hbH
    have st2 := st1.grow g2
    have ob1 := (obQ K A.c_Announcements).up g2.g ob1
    have hs2 := up g2.g hs1
    refine q_asg (K := K) (x := ([] : List PyData)) st2.s (ev_lst (l := ([] : List PyData)) ea_nil (by show 0 ≤ sizeLine; decide)) fun wr G3 H3 g3 hr3 => ?_
    refine q_asg (K := K) (x := ([] : List Str)) (st2.grow g3).s (ev_lst (l := ([] : List Str)) ea_nil (by show 0 ≤ sizeLine; decide)) fun wl G4 H4 g4 hl4 => ?_
    have lw : LawAt K A G He a b dxb cs1 [] [] [] d_script ws wr wl G4 H4 := ⟨(st2.grow g3).grow g4, (obQ K A.c_Announcements).up (g3.g.trans g4.g) ob1, (ob_Tracker K A.c_Tracker).up (g3.g.trans g4.g) ob2, up g4.g hr3, hl4, up (g3.g.trans g4.g) hs2, ⟨fun _ z => (nomatch z), fun _ z => (nomatch z), rfl, rfl, Nat.zero_le _, ⟨fun _ z => (nomatch z), Nat.zero_le _⟩⟩, ⟨fun _ z => (nomatch z), Nat.zero_le _⟩⟩
    have c4 := Int.emod_nonneg (m__law_cell d_script 1) (b := 4) (by decide)
    have c5 := Int.emod_lt_of_pos (m__law_cell d_script 1) (b := 4) (by decide)
    -- messages at the beginning
    refine seqP (fun σ H => ∃ G' cs es wr o5, LawAt K A G He a b dxb cs es [] [] d_script ws wr wl G' H ∧ es.length ≤ 38 ∧ σ = [some ws, some (.ref a), some (.ref b), some wr, some wl, o5, none, none, none, none, none, none, none, none]) ?_ fun rest => ?_
    rotate_left
    · refine s_forR1 (K := K) lw.st.s (ev_mul (ev_fdiv (ev_mod (ev_call2A (ev_var rfl lw.rs) ev_int (by decide)) ev_int (by decide)) ev_int ⟨by decide, by decide⟩) ev_int (Or.inr (by constructor <;> decide))) (by constructor <;> omega) fun G5 H5 g5 => ?_
      refine ⟨fun i σ H => ∃ G' cs es wr o5, LawAt K A G He a b dxb cs es [] [] d_script ws wr wl G' H ∧ es.length ≤ i ∧ σ = [some ws, some (.ref a), some (.ref b), some wr, some wl, o5, none, none, none, none, none, none, none, none],
        ⟨G5, _, [], wr, none, lw.grow g5, Nat.le_refl _, rfl⟩, ?_, ?_⟩
      · rintro i σ1 H6 hi ⟨G6, cs, es, wr6, o5, lw, hle, rfl⟩
        have hi38 : i < 38 := by omega
        obtain ⟨dl, dk⟩ := dig_txt' (n := (i : Int)) (by omega) (by omega)
        have lg : (i : Int).natAbs.log2 < 1920 := log_sm (by omega) (by omega)
        obtain ⟨tx, etx⟩ : ∃ tx, tx = ("m" : Str) ++ PySem.Str.ofString (toString (i : Int)) := ⟨_, rfl⟩
        obtain ⟨bb, ebb⟩ : ∃ bb, bb = (eqB ((i : Int) % (3 : Int)) (0 : Int) && decide ((i : Int) < (9 : Int))) := ⟨_, rfl⟩
        have htx : PyData.strOk tx = true := by rw [etx]; exact ok_app (by decide +kernel) dk
        have hcnt : (es.filter En.isMsg).length ≠ 40 := by have := List.length_filter_le En.isMsg es; omega
        have hI : ∀ {σ : L2.St} {G : Hp}, σ[5]? = some (some (.int (i : Int))) → EvR K (tOp (fun x y H Q => ∃ i j, x = .str i ∧ y = .str j ∧ i.length + j.length ≤ sizeLine ∧ Q (.str (i ++ j)) H) (tC (.str ("m" : Str))) (tCB (fun xs H Q => ∃ i, xs = [.int i] ∧ i.natAbs.log2 < 1920 ∧ Q (.str (toString i)) H) (tCons (tVar 5) tNil))) σ G tx := fun h5 => by
          rw [etx]
          exact ev_addS (K := K) ev_str (ev_strI (ev_var (x := (i : Int)) h5 rfl) lg) (Nat.le_trans (Nat.add_le_add (Nat.le_refl 1) dl) (by decide))
        have hB : ∀ {σ : L2.St} {G : Hp}, σ[5]? = some (some (.int (i : Int))) → EvR K (tAndV (tOp rEq (tOp (rI (fun _ j => 0 < j) fun i j => .int (i % j)) (tVar 5) (tC (.int 3))) (tC (.int 0))) (tOp (rI0 fun i j => .bl (decide (i < j))) (tVar 5) (tC (.int 9)))) σ G bb := fun h5 => by
          rw [ebb]
          exact ev_andV (ev_eq (ev_mod (ev_var (x := (i : Int)) h5 rfl) ev_int (by decide)) ev_int) fun _ => ev_lt (ev_var (x := (i : Int)) h5 rfl) ev_int
        obtain ⟨dx, b', wl', zs, ecs, _⟩ := lw.ob
        refine q_dropX ⟨_, rfl, a, dx, _, rfl, lw.st.at_ (by rw [ecs]; exact .head _), rfl, ?_⟩
        refine x_cons ?_
        refine x_ev (hI rfl) lw.st.s fun v1 G7 H7 g7 r7 => ?_
        refine x_cons ?_
        refine x_ev (hB rfl) (lw.grow g7).st.s fun v2 G8 H8 g8 r8 => ?_
        have lw := (lw.grow g7).grow g8
        refine ⟨fz, ⟨[], es⟩, a, cs, tx, bb, v1, v2, G8, rfl, lw.st.s, lw.st.own, lw.ob, up g8.g r7, r8, ⟨lw.q.ok, by show es.length ≤ 400; omega, htx⟩, fun r er u G9 H9 cs9 t9 ob9 _ => ?_, fun z ez => ?_⟩
        · rw [m_msg_ok (s := ⟨[], es⟩) lw.q.n hcnt] at er
          cases er
          have st9 := St.call (cs := cs) (r := []) (by rw [List.append_nil]; exact lw.st) t9
          rw [List.append_nil] at st9
          have ob9 : ObQ K A.c_Announcements ⟨[], msgJ es tx bb⟩ a cs9 G9 := by rw [← msgV_J lw.q.df]; exact ob9
          have gg := t9.gr.g
          refine s_asg (K := K) (x := m__law_message (es.map En.r) tx bb) st9.s (ev_call3A (ev_var rfl (up gg lw.rw)) (hI rfl) (hB rfl) ⟨⟨es, rfl, lw.q.ok, by omega⟩, by rw [List.length_map]; omega, htx⟩) fun v3 G10 H10 g10 r10 => ?_
          rw [lmsg_val, if_neg (by omega)] at r10
          refine ⟨G10, cs9, msgJ es tx bb, v3, _, ⟨st9.grow g10, (obQ K A.c_Announcements).up g10.g ob9, (ob_Tracker K A.c_Tracker).up (gg.trans g10.g) lw.tr, r10, up (gg.trans g10.g) lw.rl, up (gg.trans g10.g) lw.rs, lw.q.msg htx hcnt, lw.cl⟩, Nat.le_trans (msgJ_len lw.q.ok) (by omega), rfl⟩
        · rw [m_msg_ok (s := ⟨[], es⟩) lw.q.n hcnt] at ez
          cases ez
      · rintro σ1 H6 ⟨G6, cs, es, wr6, o5, lw, hle, rfl⟩
        exact rest _ _ ⟨G6, cs, es, wr6, o5, lw, by omega, rfl⟩
    · rintro σ1 H5 ⟨G5, cs5, es5, wr5, o5, lw, hle, rfl⟩
      have c6 := Int.emod_nonneg (m__law_cell d_script 0) (b := 61) (by decide)
      have c7 := Int.emod_lt_of_pos (m__law_cell d_script 0) (b := 61) (by decide)
      refine seqP (fun σ H => ∃ G' cs es c l wr wl o5 o8 o9 o10 o11 o12 o13, LawAt K A G He a b dxb cs es c l d_script ws wr wl G' H ∧ es.length ≤ 200 ∧ σ = [some ws, some (.ref a), some (.ref b), some wr, some wl, o5, none, none, o8, o9, o10, o11, o12, o13]) ?_ fun rest => ?_
      rotate_left
      · refine s_forR1 (K := K) lw.st.s (ev_mod (ev_call2A (ev_var rfl lw.rs) ev_int (by decide)) ev_int (by decide)) (by constructor <;> omega) fun G6 H6 g6 => ?_
        refine ⟨fun i σ H => ∃ G' cs es c l wr wl o5 o8 o9 o10 o11 o12 o13, LawAt K A G He a b dxb cs es c l d_script ws wr wl G' H ∧ es.length ≤ 38 + i ∧ σ = [some ws, some (.ref a), some (.ref b), some wr, some wl, o5, none, none, o8, o9, o10, o11, o12, o13],
          ⟨G6, _, es5, [], [], wr5, wl, o5, none, none, none, none, none, none, lw.grow g6, hle, rfl⟩, ?_, ?_⟩
        · rintro i σ2 H7 hi ⟨G7, cs, es, c, l, wr, wl, o5, o8, o9, o10, o11, o12, o13, lw, hle, rfl⟩
          have hi61 : i < 61 := by omega
          refine q_asg (K := K) lw.st.s (ev_call2A (ev_call2A (ev_var rfl lw.rs) (ev_add ev_int (ev_var (x := (i : Int)) rfl rfl)) (by omega)) ev_int (by decide)) fun wd G8 H8 g8 hd => ?_
          have lw := lw.grow g8
          have fd : (m__law_draws (m__law_cell d_script (2 + (i : Int))) 8).length = 8 := draws_len _ (by decide)
          generalize m__law_draws (m__law_cell d_script (2 + (i : Int))) 8 = dr at hd fd
          refine q_asg (K := K) lw.st.s (ev_mod (ev_int1 (ev_ixL (ev_var rfl hd) ev_int (atI_get (at_in (by decide) (by rw [fd]; decide))))) ev_int (by decide)) fun wk G9 H9 g9 hk => ?_
          obtain rfl : wk = V.int (getI dr 0 % 8) := hk
          have lw := lw.grow g9
          have hd := up g9.g hd
          refine seqP (fun σ H => ∃ G' cs es c l wr wl o10 o11 o12 o13, LawAt K A G He a b dxb cs es c l d_script ws wr wl G' H ∧ es.length ≤ 38 + (i + 1) ∧ σ = [some ws, some (.ref a), some (.ref b), some wr, some wl, some (.int (i : Int)), none, none, some wd, some (.int (getI dr 0 % 8)), o10, o11, o12, o13]) ?_ fun rest2 => ?_
          · rintro σ3 H10 ⟨G10, cs, es, c, l, wr, wl, o10, o11, o12, o13, lw, hle, rfl⟩
            have own := lw.st.own
            obtain ⟨dx, b', wl', zs, ecs, _⟩ := id lw.ob
            have hin : (a, HO.ins A.c_Announcements dx [("_last", wl'), ("_entries", .ref b')]) ∈ cs := by rw [ecs]; exact .head _
            refine s_ifF lw.st (b := !(m__law_same (PyData.tuple (es.map En.a)) (PyData.tuple ((es.map En.r).map m__law_shown)))) ?_ ?_ ?_
            · have nd := own.nd
              have hob := lw.ob
              have hrw := lw.rw
              have hq := lw.q
              letI := fzj fz.X cs
              refine et_not (et_B (ev_call2A (x := PyData.tuple (es.map En.a)) (y := PyData.tuple ((es.map En.r).map m__law_shown)) ?_ ?_ (same_pre hq.ok (by omega))))
              · rw [show PyData.tuple (es.map En.a) = Dat.d (Tpl.mk (es.map En.a)) by show _ = PyData.tuple ((es.map En.a).map fun d => d); rw [List.map_id']]
                exact ev_toD (ev_tupleL (ev_methF0 (g := m_queue) (s := ⟨l, es⟩) own rfl hob (fun e o => (obQ K A.c_Announcements).up e o) (fun _ h => h) nd hin rfl ⟨hq.ok, by show es.length ≤ 1000; omega⟩))
              · rw [show PyData.tuple ((es.map En.r).map m__law_shown) = Dat.d (Tpl.mk ((es.map En.r).map m__law_shown)) by show _ = PyData.tuple (((es.map En.r).map m__law_shown).map fun d => d); rw [List.map_id']]
                exact ev_toD (ev_tupleL (ev_lcLm m__law_shown (ev_var rfl hrw) (by rw [List.length_map]; exact lt_line (by omega)) fun x v G' H' sg sh hm rx P k => k _ rfl eb_yes fun _ => ev_call1A (ev_var rfl rx) (row_is rfl hq.ok hm)))
            · intro hb
              cases hb
            · intro _ G11 H11 st11 g11
              exact ⟨G11, cs, es, c, l, wr, wl, _, _, _, _, _, _, _, ⟨st11, (obQ K A.c_Announcements).up g11.g lw.ob, (ob_Tracker K A.c_Tracker).up g11.g lw.tr, up g11.g lw.rw, up g11.g lw.rl, up g11.g lw.rs, lw.q, lw.cl⟩, hle, rfl⟩
          · refine s_if lw.st.s (et_test (ev_lt (K := K) (ev_var (x := getI dr 0 % 8) rfl rfl) ev_int)) ?_ ?_
            · intro _ G10 H10 g10
              have lw := lw.grow g10
              have hd := up g10.g hd
              obtain ⟨ptk, plen⟩ := path_ok dr
              refine q_asg (K := K) lw.st.s (ev_call1A (ev_var rfl hd) fd) fun wn G11 H11 g11 hn => ?_
              have lw := lw.grow g11
              have hd := up g11.g hd
              generalize m__law_path dr = pn at hn ptk plen
              refine q_asg (K := K) lw.st.s (ev_call2A (ev_var rfl hn) (ev_int1 (ev_ixL (ev_var rfl hd) ev_int (atI_get (at_in (by decide) (by rw [fd]; decide))))) plen) fun wst G12 H12 g12 hst => ?_
              have lw := lw.grow g12
              have hn := up g12.g hn
              have sok := steps_ok pn (getI dr 7) ptk
              generalize m__law_steps pn (getI dr 7) = pst at hst sok
              refine seqP (fun σ H => ∃ G' cs es2 wr' wl', St [] G He cs G' H ∧ ObQ K A.c_Announcements ⟨l, es⟩ a cs G' ∧ Ob_Tracker K A.c_Tracker ⟨c⟩ b dxb G' ∧ rep K (es2.map En.r) wr' G' ∧ rep K pn wl' G' ∧ rep K d_script ws G' ∧ rep K pn wn G' ∧ rep K pst wst G' ∧ (es2 = if pn = l then es else putJ es (.path l pn pst.l)) ∧ σ = [some ws, some (.ref a), some (.ref b), some wr', some wl', some (.int (i : Int)), none, none, some wd, some (.int (getI dr 0 % 8)), some wn, some wst, o12, o13]) ?_ fun rest3 => ?_
              · rintro σ4 H13 ⟨G13, cs, es2, wr', wl', st, ob, tr, hrw, hrl, hrs, hn, hst, e2, rfl⟩
                obtain ⟨dx, b', wl'', zs, ecs, _⟩ := id ob
                refine s_dropX ⟨_, rfl, a, dx, _, rfl, st.at_ (by rw [ecs]; exact .head _), rfl, ?_⟩
                refine x_cons ?_
                refine x_ev (K := K) (ev_listL (ev_var rfl hn)) st.s fun v1 G14 H14 g14 r14 => ?_
                refine x_cons ⟨_, rfl, ?_⟩
                have st := st.grow g14
                refine ⟨fz, ⟨l, es⟩, a, cs, pn, pst, v1, wst, G14, rfl, st.s, st.own, (obQ K A.c_Announcements).up g14.g ob, r14, up g14.g hst, ⟨⟨lw.q.ok, by show es.length ≤ 1000; omega⟩, lw.q.ol.1, ptk⟩, fun u G15 H15 cs15 t15 ob15 _ => ?_⟩
                have st15 := St.call (cs := cs) (r := []) (by rw [List.append_nil]; exact st) t15
                rw [List.append_nil] at st15
                have gg := g14.g.trans t15.gr.g
                have ob15 : ObQ K A.c_Announcements ⟨pn, es2⟩ a cs15 G15 := by
                  have ob15 : ObQ K A.c_Announcements (if pn = l then ⟨l, es⟩ else ⟨pn, putP es l pn pst.l⟩) a cs15 G15 := ob15
                  by_cases z : pn = l
                  · rw [if_pos z] at ob15 e2
                    rw [e2, z]
                    exact ob15
                  · rw [if_neg z] at ob15 e2
                    rw [e2, putJ_P (fun y => z y.symm)]
                    exact ob15
                have q2 : QI es2 c pn ∧ es2.length ≤ es.length + 1 := by
                  by_cases z : pn = l
                  · rw [if_pos z] at e2
                    rw [e2, z]
                    exact ⟨lw.q, Nat.le_succ _⟩
                  · rw [if_neg z] at e2
                    rw [e2]
                    have k : PathOk l pn pst.l := ⟨lw.q.ol, ⟨ptk, plen⟩, sok⟩
                    exact ⟨lw.q.tell ⟨ptk, plen⟩ sok (fun y => z y.symm), (putJ_ok (e := .path l pn pst.l) lw.q.ok k).2⟩
                exact rest2 _ _ ⟨G15, cs15, es2, c, pn, wr', wl', _, _, _, _, ⟨st15, ob15, (ob_Tracker K A.c_Tracker).up gg tr, up gg hrw, up gg hrl, up gg hrs, q2.1, lw.cl⟩, by omega, rfl⟩
              · refine s_if lw.st.s (et_test (ev_neLS (K := K) (ev_var rfl hn) (ev_var rfl lw.rl) ⟨ptk, lw.q.ol.1⟩)) ?_ ?_
                · intro hb G13 H13 g13
                  have ne : pn ≠ l := fun z => by rw [z, eqB_self] at hb; cases hb
                  have lw := lw.grow g13
                  have hn := up g13.g hn
                  have hst := up g13.g hst
                  have erow : es.map En.r ++ [(Dat.d (Tpl.mk [PyData.str ("turn" : Str), Dat.d l, Dat.d pn, Dat.d pst]) : PyData)] = (es ++ [En.path l pn pst.l]).map En.r := by
                    rw [List.map_append]
                    show _ ++ [PyData.tuple [PyData.str ("turn" : Str), lS l, lS pn, PyData.tuple (pst.l.map fun d => d)]] = _
                    rw [List.map_id']
                    rfl
                  have k : PathOk l pn pst.l := ⟨lw.q.ol, ⟨ptk, plen⟩, sok⟩
                  refine q_asg (K := K) (x := (putJ es (.path l pn pst.l)).map En.r) lw.st.s ?_ fun v3 G14 H14 g14 r14 => ?_
                  · refine (ev_call1A (ev_cat (ev_var rfl lw.rw) (ev_lst (ea_cons (ev_toD (ev_tpl (ea_cons (ev_toD ev_str) (ea_cons (ev_toD (ev_var rfl lw.rl)) (ea_cons (ev_toD (ev_var rfl hn)) (ea_cons (ev_toD (ev_var rfl hst)) ea_nil)))) (by show 4 ≤ sizeLine; decide))) ea_nil) (by show 1 ≤ sizeLine; decide)) (by rw [List.length_map]; exact le_line (by show _ + 1 ≤ _; omega))) ?_).to ?_
                    · refine ⟨es ++ [En.path l pn pst.l], erow, fun e he => ?_, by rw [List.length_append]; show _ + 1 ≤ _; omega⟩
                      rcases List.mem_append.mp he with he | he
                      · exact lw.q.ok e he
                      · rw [List.mem_singleton.mp he]; exact k
                    · have := congrArg m__law_joined erow
                      refine this.trans ?_
                      unfold m__law_joined
                      rw [decR_map, joinE_snoc lw.q.na]
                  have lw := lw.grow g14
                  refine s_asg (K := K) (x := pn) lw.st.s (ev_var rfl (up g14.g hn)) fun v4 G15 H15 g15 r15 => ?_
                  have lw := lw.grow g15
                  exact rest3 _ _ ⟨G15, cs, _, v3, v4, lw.st, lw.ob, lw.tr, up g15.g r14, r15, lw.rs, up g15.g (up g14.g hn), up g15.g (up g14.g hst), by rw [if_neg ne], rfl⟩
                · intro hb G13 H13 g13
                  have eq : pn = l := by
                    have : eqB pn l = true := by simpa using hb
                    exact of_decide_eq_true this
                  have lw := lw.grow g13
                  exact rest3 _ _ ⟨G13, cs, es, wr, wl, lw.st, lw.ob, lw.tr, lw.rw, by rw [eq]; exact lw.rl, lw.rs, up g13.g hn, up g13.g hst, by rw [if_pos eq], rfl⟩
            · intro _ G10 H10 g10
              have lw := lw.grow g10
              have hd := up g10.g hd
              refine s_if lw.st.s (et_test (ev_lt (K := K) (ev_var (x := getI dr 0 % 8) rfl rfl) ev_int)) ?_ ?_
              · intro _ G11 H11 g11
                have lw := lw.grow g11
                have hd := up g11.g hd
                obtain ⟨dl, dk⟩ := dig_txt' (n := (i : Int)) (by omega) (by omega)
                have lg : (i : Int).natAbs.log2 < 1920 := log_sm (by omega) (by omega)
                obtain ⟨tx, etx⟩ : ∃ tx, tx = ("x" : Str) ++ PySem.Str.ofString (toString (i : Int)) := ⟨_, rfl⟩
                obtain ⟨bb, ebb⟩ : ∃ bb, bb = eqB (getI dr 1 % (3 : Int)) (0 : Int) := ⟨_, rfl⟩
                have htx : PyData.strOk tx = true := by rw [etx]; exact ok_app (by decide +kernel) dk
                have hI : ∀ {σ : L2.St} {G : Hp}, σ[5]? = some (some (.int (i : Int))) → EvR K (tOp (fun x y H Q => ∃ i j, x = .str i ∧ y = .str j ∧ i.length + j.length ≤ sizeLine ∧ Q (.str (i ++ j)) H) (tC (.str ("x" : Str))) (tCB (fun xs H Q => ∃ i, xs = [.int i] ∧ i.natAbs.log2 < 1920 ∧ Q (.str (toString i)) H) (tCons (tVar 5) tNil))) σ G tx := fun h5 => by
                  rw [etx]
                  exact ev_addS (K := K) ev_str (ev_strI (ev_var (x := (i : Int)) h5 rfl) lg) (Nat.le_trans (Nat.add_le_add (Nat.le_refl 1) dl) (by decide))
                refine q_asg (K := K) (x := m__law_message (es.map En.r) tx bb) lw.st.s (ev_call3A (ev_var rfl lw.rw) (hI rfl) (by rw [ebb]; exact ev_eq (ev_mod (ev_int1 (ev_ixL (ev_var rfl hd) ev_int (atI_get (at_in (by decide) (by rw [fd]; decide))))) ev_int (by decide)) ev_int) ⟨⟨es, rfl, lw.q.ok, by omega⟩, by rw [List.length_map]; omega, htx⟩) fun w12 G12 H12 g12 hdue => ?_
                have lw := lw.grow g12
                have hd := up g12.g hd
                rw [lmsg_val] at hdue
                obtain ⟨dx, b', wl'', zs, ecs, _⟩ := id lw.ob
                refine q_asgX (x_call (x_cons ⟨_, rfl, x_cons ?_⟩))
                refine x_ev (hI rfl) lw.st.s fun v1 G13 H13 g13 r13 => ?_
                refine x_cons ?_
                have lw := lw.grow g13
                refine x_ev (K := K) (x := bb) (by rw [ebb]; exact ev_eq (ev_mod (ev_int1 (ev_ixL (ev_var rfl (up g13.g hd)) ev_int (atI_get (at_in (by decide) (by rw [fd]; decide))))) ev_int (by decide)) ev_int) lw.st.s fun v2 G14 H14 g14 r14 => ?_
                have lw := lw.grow g14
                have hdue := up g14.g (up g13.g hdue)
                refine ⟨fz, ⟨l, es⟩, a, cs, tx, bb, v1, v2, G14, rfl, lw.st.s, lw.st.own, lw.ob, up g14.g r13, r14, ⟨lw.q.ok, by show es.length ≤ 400; omega, htx⟩, fun u G15 H15 cs15 t15 ob15 hu => ?_⟩
                have st15 := St.call (cs := cs) (r := []) (by rw [List.append_nil]; exact lw.st) t15
                rw [List.append_nil] at st15
                have gg := t15.gr.g
                have hdue := up gg hdue
                have hrw := up gg lw.rw
                by_cases hcnt : (es.filter En.isMsg).length = 40
                · rw [if_pos (show ((es.filter En.isMsg).length : Int) = 40 by omega)] at hdue
                  have em : m_told ⟨l, es⟩ tx bb = (some ("too many queued messages" : Str), ⟨l, es⟩) := by
                    unfold m_told
                    rw [m_msg_err hcnt]
                  rw [em] at hu ob15
                  refine q_if st15.s (et_test (ev_ne (K := K) (δ := Option Str) (ev_var rfl hu) (ev_if (et_test (ev_isN nn_lst (ev_var rfl hdue))) (fun _ => ev_some ev_str) (fun _ => ev_non)))) (fun hb => ?_) fun _ G16 H16 g16 => ?_
                  · cases hb
                  · refine s_next ?_
                    refine nx_mk ?_
                    refine s_asg (K := K) (x := es.map En.r) (st15.grow g16).s ((ev_if (et_test (ev_isN nn_lst (ev_var rfl (up g16.g hdue)))) (fun _ => ev_var rfl (up g16.g hrw)) (fun z => (nomatch z)) (x' := [])).to rfl) fun v5 G17 H17 g17 r17 => ?_
                    have g67 := g16.trans g17
                    exact rest2 _ _ ⟨G17, cs15, es, c, l, v5, wl, _, _, _, _, ⟨st15.grow g67, (obQ K A.c_Announcements).up g67.g ob15, (ob_Tracker K A.c_Tracker).up (gg.trans g67.g) lw.tr, r17, up (gg.trans g67.g) lw.rl, up (gg.trans g67.g) lw.rs, lw.q, lw.cl⟩, by omega, rfl⟩
                · rw [if_neg (show ¬ ((es.filter En.isMsg).length : Int) = 40 by omega)] at hdue
                  have em : m_told ⟨l, es⟩ tx bb = (none, ⟨l, msgJ es tx bb⟩) := by
                    unfold m_told
                    rw [m_msg_ok lw.q.n hcnt, ← msgV_J lw.q.df]
                  rw [em] at hu ob15
                  refine q_if st15.s (et_test (ev_ne (K := K) (δ := Option Str) (ev_var rfl hu) (ev_if (et_test (ev_isN nn_lst (ev_var rfl hdue))) (fun _ => ev_some ev_str) (fun _ => ev_non)))) (fun hb => ?_) fun _ G16 H16 g16 => ?_
                  · cases hb
                  · refine s_next ?_
                    refine nx_mk ?_
                    refine s_asg (K := K) (x := (msgJ es tx bb).map En.r) (st15.grow g16).s ((ev_if (et_test (ev_isN nn_lst (ev_var rfl (up g16.g hdue)))) (fun z => (nomatch z)) (fun _ => ev_var rfl (un_some (up g16.g hdue))) (x := [])).to rfl) fun v5 G17 H17 g17 r17 => ?_
                    have g67 := g16.trans g17
                    exact rest2 _ _ ⟨G17, cs15, msgJ es tx bb, c, l, v5, wl, _, _, _, _, ⟨st15.grow g67, (obQ K A.c_Announcements).up g67.g ob15, (ob_Tracker K A.c_Tracker).up (gg.trans g67.g) lw.tr, r17, up (gg.trans g67.g) lw.rl, up (gg.trans g67.g) lw.rs, lw.q.msg htx hcnt, lw.cl⟩, by have := msgJ_len (t := tx) (b := bb) lw.q.ok; omega, rfl⟩
              · intro _ G11 H11 g11
                have lw := lw.grow g11
                have hd := up g11.g hd
                obtain ⟨dx, b', wl'', zs, ecs, _⟩ := id lw.ob
                refine q_asgX ⟨_, rfl, a, dx, _, rfl, lw.st.at_ (by rw [ecs]; exact .head _), rfl, fz, ⟨l, es⟩, a, cs, G11, rfl, lw.st.s, lw.st.own, lw.ob, ⟨lw.q.ok, by show es.length ≤ 1000; omega⟩, fun u G15 H15 cs15 t15 ob15 hu => ?_⟩
                have st15 := St.call (cs := cs) (r := []) (by rw [List.append_nil]; exact lw.st) t15
                rw [List.append_nil] at st15
                have gg := t15.gr.g
                have hrw := up gg lw.rw
                have hsh : SeqAt.shaped (takeV es) = true := by
                  cases es with
                  | nil => rfl
                  | cons e es => exact (ann_sh (lw.q.ok e (.head _))).sh (by decide)
                have hty : ∀ v G, (∃ x : PyData, rep K x v G) → True := fun _ _ _ => trivial
                have ev1 : EvR K (tIf (tTest (tOp (rI0 fun i j => .bl (decide (j < i))) (tCB (rLen K) (tCons (tVar 3) tNil)) (tC (.int 0)))) (tCall (p__law_shown K) [] E0 (tCons (tOp (rIxL K) (tVar 3) (tC (.int 0))) tNil)) (tC .non)) [some ws, some (.ref a), some (.ref b), some wr, some wl, some (.int (i : Int)), none, none, some wd, some (.int (getI dr 0 % 8)), o10, o11, o12, some u] G15 (takeV es) := by
                  cases es with
                  | nil => exact (ev_if (b := decide ((0 : Int) < (((List.map En.r []).length : Nat) : Int))) (et_test (ev_gt (ev_lenL (ev_var rfl hrw)) ev_int)) (fun z => Bool.noConfusion (show false = true from z)) (fun _ => ev_nonD) (x := PyData.none)).to rfl
                  | cons e es =>
                    have hd0 : decide ((0 : Int) < ((((e :: es).map En.r).length : Nat) : Int)) = true := decide_eq_true (by rw [List.length_map, List.length_cons]; omega)
                    refine (ev_if (et_test (ev_gt (ev_lenL (ev_var rfl hrw)) ev_int)) (fun _ => ev_call1A (ev_ixL (x := e.r) (ev_var rfl hrw) ev_int ?_) (en_r (lw.q.ok e (.head _)))) (fun _ => ev_nonD) (x' := PyData.none)).to ?_
                    · have := atI_get (l := (e :: es).map En.r) (n := 0) (at_in (Int.le_refl 0) (of_decide_eq_true hd0))
                      rw [this]
                      unfold getI atI ixN
                      rw [if_pos (Int.le_refl 0), if_pos (of_decide_eq_true hd0)]
                      rfl
                    · rw [hd0, shown_val e (lw.q.ok e (.head _))]
                      rfl
                have heq : PyData.eqv (Dat.d (takeV es)) (Dat.d (takeV es)) = true := SeqAt.eqv_refl (takeV es) (SeqAt.canLay_of_shaped hsh)
                refine q_if st15.s (et_test (ev_neD (K := K) (ev_var rfl hu) ev1 ⟨hsh, hsh⟩)) (fun hb => ?_) fun _ G16 H16 g16 => ?_
                · exfalso
                  have hb : (!PyData.eqv (Dat.d (takeV es)) (Dat.d (takeV es))) = true := hb
                  rw [heq] at hb
                  cases hb
                · refine s_next ?_
                  refine nx_mk ?_
                  have st16 := st15.grow g16
                  have ob16 := (obQ K A.c_Announcements).up g16.g ob15
                  have tr16 := (ob_Tracker K A.c_Tracker).up (gg.trans g16.g) lw.tr
                  have hrw := up g16.g hrw
                  have hrl := up (gg.trans g16.g) lw.rl
                  have hrs := up (gg.trans g16.g) lw.rs
                  have hu := up g16.g hu
                  refine seqP (fun σ H => ∃ G' cs' c', St [] G He cs' G' H ∧ ObQ K A.c_Announcements ⟨l, es.tail⟩ a cs' G' ∧ Ob_Tracker K A.c_Tracker ⟨c'⟩ b dxb G' ∧ rep K (es.map En.r) wr G' ∧ rep K l wl G' ∧ rep K d_script ws G' ∧ QI es.tail c' l ∧ (TOk c' ∧ c'.length ≤ 4) ∧ σ = [some ws, some (.ref a), some (.ref b), some wr, some wl, some (.int (i : Int)), none, none, some wd, some (.int (getI dr 0 % 8)), o10, o11, o12, some u]) ?_ fun rest4 => ?_
                  · rintro σ4 H17 ⟨G17, cs17, c', st, ob, tr, hrw, hrl, hrs, q, hc', rfl⟩
                    refine s_asg (K := K) (x := es.tail.map En.r) st.s ((ev_slL (ev_var rfl hrw) (eo_some ev_int) eo_none).to ?_) fun v5 G18 H18 g18 r18 => ?_
                    · cases es with
                      | nil => rfl
                      | cons e es =>
                        have := cut_drop (l := (e :: es).map En.r) (k := 1) (by rw [List.length_map, List.length_cons]; omega)
                        exact this
                    · exact rest2 _ _ ⟨G18, cs17, es.tail, c', l, v5, wl, _, _, _, _, ⟨st.grow g18, (obQ K A.c_Announcements).up g18.g ob, (ob_Tracker K A.c_Tracker).up g18.g tr, r18, up g18.g hrl, up g18.g hrs, q, hc'⟩, by rw [List.length_tail]; omega, rfl⟩
                  · refine s_if st16.s (et_test (ev_notND (ev_var rfl hu))) ?_ ?_
                    · intro hb G17 H17 g17
                      cases es with
                      | nil => cases hb
                      | cons e es =>
                        have st17 := st16.grow g17
                        have tr17 := (ob_Tracker K A.c_Tracker).up g17.g tr16
                        obtain ⟨fs, hG⟩ := (ob_Tracker K A.c_Tracker).ins tr17
                        refine s_dropX ⟨_, rfl, b, dxb, fs, rfl, st17.s _ _ hG, nm_Tracker_apply tr17 fs hG, x_cons ⟨_, rfl, ?_⟩⟩
                        have hu17 := up g17.g hu
                        refine ⟨fz, ⟨c⟩, b, dxb, e.a, u, G17, rfl, st17.s, tr17, hu17, ⟨ann_ok (lw.q.ok e (.head _)), by have := lw.cl.2; show c.length ≤ 20; omega⟩, fun y ey u2 G18 H18 gm o2 r2 => ?_, fun z ez => ?_⟩
                        · rw [apply_en lw.q] at ey
                          cases ey
                          exact rest4 _ _ ⟨G18, cs15, nextC c e, st17.growM gm hG hbG hbH, obQ_d gm.d ((obQ K A.c_Announcements).up g17.g ob16), o2, upd' gm.d (up g17.g hrw), upd' gm.d (up g17.g hrl), upd' gm.d (up g17.g hrs), lw.q.take', nextC_ok (lw.q.ok e (.head _)) lw.cl, rfl⟩
                        · rw [apply_en lw.q] at ez
                          cases ez
                    · intro hb G17 H17 g17
                      cases es with
                      | cons e es => cases e <;> cases hb
                      | nil => exact rest4 _ _ ⟨G17, cs15, c, st16.grow g17, (obQ K A.c_Announcements).up g17.g ob16, (ob_Tracker K A.c_Tracker).up g17.g tr16, up g17.g hrw, up g17.g hrl, up g17.g hrs, lw.q, lw.cl, rfl⟩
        · rintro σ2 H7 ⟨G7, cs, es, c, l, wr, wl, o5, o8, o9, o10, o11, o12, o13, lw, hle, rfl⟩
          exact rest _ _ ⟨G7, cs, es, c, l, wr, wl, o5, o8, o9, o10, o11, o12, o13, lw, by omega, rfl⟩
      · rintro σ2 H7 ⟨G7, cs, es, c, l, wr, wl, o5, o8, o9, o10, o11, o12, o13, lw, hle, rfl⟩
        have own := lw.st.own
        obtain ⟨dx, b', wl', zs, ecs, _⟩ := id lw.ob
        have hin : (a, HO.ins A.c_Announcements dx [("_last", wl'), ("_entries", .ref b')]) ∈ cs := by rw [ecs]; exact .head _
        refine q_forFD (K := K) (l := es.map En.a) lw.st ?_ fun G8 H8 xs st8 g8 r8 => ?_
        · have nd := own.nd
          have hob := lw.ob
          have hq := lw.q
          letI := fzj fz.X cs
          exact ev_methF0 (g := m_queue) (s := ⟨l, es⟩) own rfl hob (fun e o => (obQ K A.c_Announcements).up e o) (fun _ h => h) nd hin rfl ⟨hq.ok, by show es.length ≤ 1000; omega⟩
        refine ⟨fun i σ H => ∃ G' c' o6, St [] G He cs G' H ∧ SameD G8 G' ∧ Ob_Tracker K A.c_Tracker ⟨c'⟩ b dxb G' ∧ rep K (es.map En.r) wr G' ∧ rep K l wl G' ∧ QI (es.drop i) c' l ∧ (TOk c' ∧ c'.length ≤ 4) ∧ σ = [some ws, some (.ref a), some (.ref b), some wr, some wl, o5, o6, none, o8, o9, o10, o11, o12, o13],
          ⟨G8, c, none, st8, same_d (Same.refl _), (ob_Tracker K A.c_Tracker).up g8.g lw.tr, up g8.g lw.rw, up g8.g lw.rl, lw.q, lw.cl, rfl⟩, fun i σ' H' ⟨_, _, _, st', sd', _⟩ b' o' e d => st'.s.get _ _ (sd' b' o' e d), ?_, ?_⟩
        · rintro i x vx σ' H9 hx rx ⟨G9, c', o6, st, sd, tr, hrw, hrl, q, hc', rfl⟩
          rw [List.getElem?_map] at hx
          obtain ⟨e, he, rfl⟩ := Option.map_eq_some_iff.mp hx
          have ed : es.drop i = e :: es.drop (i + 1) := by
            obtain ⟨hi, ei⟩ := List.getElem?_eq_some_iff.mp he
            rw [List.drop_eq_getElem_cons hi, ei]
          rw [ed] at q
          have hu := upd' sd rx
          obtain ⟨fs, hG⟩ := (ob_Tracker K A.c_Tracker).ins tr
          refine s_dropX ⟨_, rfl, b, dxb, fs, rfl, st.s _ _ hG, nm_Tracker_apply tr fs hG, x_cons ⟨_, rfl, ?_⟩⟩
          refine ⟨fz, ⟨c'⟩, b, dxb, e.a, vx, G9, rfl, st.s, tr, hu, ⟨ann_ok (q.ok e (.head _)), by have := hc'.2; show c'.length ≤ 20; omega⟩, fun y ey u2 G10 H10 gm o2 r2 => ?_, fun z ez => ?_⟩
          · rw [apply_en q] at ey
            cases ey
            exact ⟨G10, nextC c' e, _, st.growM gm hG hbG hbH, sd.trans gm.d, o2, upd' gm.d hrw, upd' gm.d hrl, q.take', nextC_ok (q.ok e (.head _)) hc', rfl⟩
          · rw [apply_en q] at ez
            cases ez
        · rintro σ' H9 ⟨G9, c', o6, st, sd, tr, hrw, hrl, q, hc', rfl⟩
          have ecl : c' = l := by
            have h := q.ch
            rw [List.length_map, List.drop_of_length_le (Nat.le_refl _)] at h
            exact h
          have eturn : (es.map En.r).map (fun d => PyData.eqv (Dat.d (getI (Tpl.mk (tupD d)).l (0 : Int))) (Dat.d (PyData.str ("turn" : Str)))) = es.map fun e => !e.isMsg := by
            rw [List.map_map]
            exact List.map_congr_left fun e _ => tag_turn e
          have hlr : (es.map En.r).length < sizeLine := by rw [List.length_map]; exact lt_line (by omega)
          refine q_asg (K := K) (x := es.map fun e => !e.isMsg) st.s ?_ fun w7 G10 H10 g10 r10 => ?_
          · rw [← eturn]
            refine ev_lcLm (fun d => PyData.eqv (Dat.d (getI (Tpl.mk (tupD d)).l (0 : Int))) (Dat.d (PyData.str ("turn" : Str)))) (ev_var rfl hrw) hlr fun x v G' H' sg sh hm rx P k => ?_
            have pe : IsR x := row_is rfl lw.q.ok hm
            exact k _ rfl eb_yes fun _ => ev_eqD (ev_ixT (ev_asTup (ev_var rfl rx) (r_tup pe)) ev_int (atI_get (at_in (Int.le_refl 0) (r_pos pe)))) (ev_toD ev_str) (r_tag pe _ (by decide +kernel))
          have st := st.grow g10
          have tr := (ob_Tracker K A.c_Tracker).up g10.g tr
          have hlt : ((es.map fun e => !e.isMsg).length : Int) < 16777216 := by rw [List.length_map]; omega
          refine s_ret (K := K) (x := true) st.s ?_ fun u Gr Hr gq hu => ?_
          · refine EvR.to (x := (eqB (m_Tracker_path ⟨c'⟩) l && eqB (((List.map (fun d => d) (List.filter (fun k => (getI (es.map fun e => !e.isMsg) k && getI (es.map fun e => !e.isMsg) (k - (1 : Int)))) (rgs (1 : Int) (((es.map fun e => !e.isMsg).length : Nat) : Int)))).length : Nat) : Int) (0 : Int))) ?_ ?_
            · refine ev_andV (ev_eqLS (ev_methR0A rfl (ob_Tracker _ _) tr (fun fs hG => nm_Tracker_path tr fs hG) trivial) (ev_var rfl (up g10.g hrl)) ⟨by rw [show m_Tracker_path ⟨c'⟩ = c' from rfl]; exact hc'.1, lw.q.ol.1⟩) fun _ => ?_
              refine ev_eq (ev_lenL (ev_lcR2 (fun k => (getI (es.map fun e => !e.isMsg) k && getI (es.map fun e => !e.isMsg) (k - (1 : Int)))) (fun d => d) ev_int (ev_lenL (ev_var rfl r10)) (by omega) fun k G' H' lo hi sg sh P kk => ?_)) ev_int
              have h7 := up sg r10
              exact kk _ rfl (et_and (et_B (ev_ixL (ev_var rfl h7) (ev_var (x := k) rfl rfl) (atI_get (at_in (by omega) hi)))) (fun _ => et_B (ev_ixL (ev_var rfl h7) (ev_sub (ev_var (x := k) rfl rfl) ev_int) (atI_get (at_in (by omega) (by omega)))))) (fun _ => ev_var (x := k) rfl rfl)
            · rw [show m_Tracker_path ⟨c'⟩ = c' from rfl, ecl, eqB_self, no_turns lw.q.na]
              rfl
          · obtain rfl : u = V.bl true := hu
            exact hT (st.grow gq)

end
section
variable [Tb] [Fz]

end
theorem all_mk {l : PySem.W.OpenLaw} {w : World} {K : PySem.W.Frag} {h : Heap} {mg : Str → Option Value} {fa : Addr} (X : K.In h) (G : h.Ns mainGlobals mg) (hfa : mg "law" = some (.ref fa))
    {OC0 : Addr}
    {OC1 : Addr}
    {f0 : Addr} {od0 an0 : Option Addr} {sl0 : Array (Option Value)} {oc0 kV0 dc0 pm0 cd0 ct0 : Value}
    {f1 : Addr} {od1 an1 : Option Addr} {sl1 : Array (Option Value)} {oc1 kV1 dc1 pm1 cd1 ct1 : Value}
    {f2 : Addr} {od2 an2 : Option Addr} {sl2 : Array (Option Value)} {oc2 kV2 dc2 pm2 cd2 ct2 : Value}
    {f3 : Addr} {od3 an3 : Option Addr} {sl3 : Array (Option Value)} {oc3 kV3 dc3 pm3 cd3 ct3 : Value}
    {f4 : Addr} {od4 an4 : Option Addr} {sl4 : Array (Option Value)} {oc4 kV4 dc4 pm4 cd4 ct4 : Value}
    {f5 : Addr} {od5 an5 : Option Addr} {sl5 : Array (Option Value)} {oc5 kV5 dc5 pm5 cd5 ct5 : Value}
    {f6 : Addr} {od6 an6 : Option Addr} {sl6 : Array (Option Value)} {oc6 kV6 dc6 pm6 cd6 ct6 : Value}
    {f7 : Addr} {od7 an7 : Option Addr} {sl7 : Array (Option Value)} {oc7 kV7 dc7 pm7 cd7 ct7 : Value}
    {f8 : Addr} {od8 an8 : Option Addr} {sl8 : Array (Option Value)} {oc8 kV8 dc8 pm8 cd8 ct8 : Value}
    {f9 : Addr} {od9 an9 : Option Addr} {sl9 : Array (Option Value)} {oc9 kV9 dc9 pm9 cd9 ct9 : Value}
    {f10 : Addr} {od10 an10 : Option Addr} {sl10 : Array (Option Value)} {oc10 kV10 dc10 pm10 cd10 ct10 : Value}
    {f11 : Addr} {od11 an11 : Option Addr} {sl11 : Array (Option Value)} {oc11 kV11 dc11 pm11 cd11 ct11 : Value}
    {f12 : Addr} {od12 an12 : Option Addr} {sl12 : Array (Option Value)} {oc12 kV12 dc12 pm12 cd12 ct12 : Value}
    {f13 : Addr} {od13 an13 : Option Addr} {sl13 : Array (Option Value)} {oc13 kV13 dc13 pm13 cd13 ct13 : Value}
    {f14 : Addr} {od14 an14 : Option Addr} {sl14 : Array (Option Value)} {oc14 kV14 dc14 pm14 cd14 ct14 : Value}
    {f15 : Addr} {od15 an15 : Option Addr} {sl15 : Array (Option Value)} {oc15 kV15 dc15 pm15 cd15 ct15 : Value}
    {f16 : Addr} {od16 an16 : Option Addr} {sl16 : Array (Option Value)} {oc16 kV16 dc16 pm16 cd16 ct16 : Value}
    {f17 : Addr} {od17 an17 : Option Addr} {sl17 : Array (Option Value)} {oc17 kV17 dc17 pm17 cd17 ct17 : Value}
    {f18 : Addr} {od18 an18 : Option Addr} {sl18 : Array (Option Value)} {oc18 kV18 dc18 pm18 cd18 ct18 : Value}
    {f19 : Addr} {od19 an19 : Option Addr} {sl19 : Array (Option Value)} {oc19 kV19 dc19 pm19 cd19 ct19 : Value}
    {ci0 : Value}
    {ci1 : Value}
    {B0 : Addr}
    {X0 I0 N0 : Addr} {xn0 xq0 : Str} {xb0 : List Value} {xs0 : List Str} {xu0 : List Value} {xa0 : Bool} {xc0 : Option Bool} {xd0 : Option Addr} {m00 m10 m20 m30 m50 : Option Value}
    {iod0 ian0 : Option Addr} {isl0 : Array (Option Value)} {ioc0 ikV0 idc0 ipm0 icd0 ict0 : Value}
    (o0C : PySem.W.nsIn K mainGlobals "Announcements" = some (some (.ref OC0)))
    (o0g : PySem.W.plainGet K OC0 Str.empty = true)
    (o0h : PySem.W.hasDictIn K OC0 = true)
    (o0o : PySem.W.plainOver K OC0 = true)
    (o0s : PySem.W.findIn K (.ref OC0) "__setattr__" = some (some (.builtin "object.__setattr__")))
    (o0m : PySem.W.makesIn K OC0 = true)
    (o0k : PySem.W.keepIn K (.ref OC0) = true)
    (o0f0 : PySem.W.findIn K (.ref OC0) "_last" = some none)
    (o0f1 : PySem.W.findIn K (.ref OC0) "_entries" = some none)
    (o1C : PySem.W.nsIn K mainGlobals "Tracker" = some (some (.ref OC1)))
    (o1g : PySem.W.plainGet K OC1 Str.empty = true)
    (o1h : PySem.W.hasDictIn K OC1 = true)
    (o1o : PySem.W.plainOver K OC1 = true)
    (o1s : PySem.W.findIn K (.ref OC1) "__setattr__" = some (some (.builtin "object.__setattr__")))
    (o1m : PySem.W.makesIn K OC1 = true)
    (o1k : PySem.W.keepIn K (.ref OC1) = true)
    (o1f0 : PySem.W.findIn K (.ref OC1) "_names" = some none)
    (a0 : PySem.W.nsIn K mainGlobals "_announcement" = some (some (.ref f0)))
    (l0 : K.lookup f0 = some ⟨oc0, od0, .func (PySem.W.fnOf "_announcement" "_announcement" (defArgs s__announcement) (defBody s__announcement) (defScope s__announcement) .none kV0 dc0 pm0 an0 cd0 ct0), sl0⟩)
    (c0 : PySem.W.codeIn K cd0 "_announcement" = true)
    (k0 : PySem.W.keepIn K (.ref f0) = true)
    (a1 : PySem.W.findIn K (.ref OC0) "__init__" = some (some (.ref f1)))
    (n1 : PySem.W.isFn K (.ref f1) = true)
    (l1 : K.lookup f1 = some ⟨oc1, od1, .func (PySem.W.fnOf "__init__" "Announcements.__init__" (defArgs s_Announcements___init__) (defBody s_Announcements___init__) (defScope s_Announcements___init__) .none kV1 dc1 pm1 an1 cd1 ct1), sl1⟩)
    (c1 : PySem.W.codeIn K cd1 "Announcements.__init__" = true)
    (k1 : PySem.W.keepIn K (.ref f1) = true)
    (a2 : PySem.W.findIn K (.ref OC0) "tell" = some (some (.ref f2)))
    (n2 : PySem.W.isFn K (.ref f2) = true)
    (l2 : K.lookup f2 = some ⟨oc2, od2, .func (PySem.W.fnOf "tell" "Announcements.tell" (defArgs s_Announcements_tell) (defBody s_Announcements_tell) (defScope s_Announcements_tell) .none kV2 dc2 pm2 an2 cd2 ct2), sl2⟩)
    (c2 : PySem.W.codeIn K cd2 "Announcements.tell" = true)
    (k2 : PySem.W.keepIn K (.ref f2) = true)
    (a3 : PySem.W.findIn K (.ref OC0) "message" = some (some (.ref f3)))
    (n3 : PySem.W.isFn K (.ref f3) = true)
    (l3 : K.lookup f3 = some ⟨oc3, od3, .func (PySem.W.fnOf "message" "Announcements.message" (defArgs s_Announcements_message) (defBody s_Announcements_message) (defScope s_Announcements_message) .none kV3 dc3 pm3 an3 cd3 ct3), sl3⟩)
    (c3 : PySem.W.codeIn K cd3 "Announcements.message" = true)
    (k3 : PySem.W.keepIn K (.ref f3) = true)
    (a4 : PySem.W.findIn K (.ref OC0) "queue" = some (some (.ref f4)))
    (n4 : PySem.W.isFn K (.ref f4) = true)
    (l4 : K.lookup f4 = some ⟨oc4, od4, .func (PySem.W.fnOf "queue" "Announcements.queue" (defArgs s_Announcements_queue) (defBody s_Announcements_queue) (defScope s_Announcements_queue) .none kV4 dc4 pm4 an4 cd4 ct4), sl4⟩)
    (c4 : PySem.W.codeIn K cd4 "Announcements.queue" = true)
    (k4 : PySem.W.keepIn K (.ref f4) = true)
    (a5 : PySem.W.findIn K (.ref OC0) "take" = some (some (.ref f5)))
    (n5 : PySem.W.isFn K (.ref f5) = true)
    (l5 : K.lookup f5 = some ⟨oc5, od5, .func (PySem.W.fnOf "take" "Announcements.take" (defArgs s_Announcements_take) (defBody s_Announcements_take) (defScope s_Announcements_take) .none kV5 dc5 pm5 an5 cd5 ct5), sl5⟩)
    (c5 : PySem.W.codeIn K cd5 "Announcements.take" = true)
    (k5 : PySem.W.keepIn K (.ref f5) = true)
    (a6 : PySem.W.findIn K (.ref OC0) "_put_path" = some (some (.ref f6)))
    (n6 : PySem.W.isFn K (.ref f6) = true)
    (l6 : K.lookup f6 = some ⟨oc6, od6, .func (PySem.W.fnOf "_put_path" "Announcements._put_path" (defArgs s_Announcements__put_path) (defBody s_Announcements__put_path) (defScope s_Announcements__put_path) .none kV6 dc6 pm6 an6 cd6 ct6), sl6⟩)
    (c6 : PySem.W.codeIn K cd6 "Announcements._put_path" = true)
    (k6 : PySem.W.keepIn K (.ref f6) = true)
    (a7 : PySem.W.findIn K (.ref OC1) "__init__" = some (some (.ref f7)))
    (n7 : PySem.W.isFn K (.ref f7) = true)
    (l7 : K.lookup f7 = some ⟨oc7, od7, .func (PySem.W.fnOf "__init__" "Tracker.__init__" (defArgs s_Tracker___init__) (defBody s_Tracker___init__) (defScope s_Tracker___init__) .none kV7 dc7 pm7 an7 cd7 ct7), sl7⟩)
    (c7 : PySem.W.codeIn K cd7 "Tracker.__init__" = true)
    (k7 : PySem.W.keepIn K (.ref f7) = true)
    (a8 : PySem.W.findIn K (.ref OC1) "apply" = some (some (.ref f8)))
    (n8 : PySem.W.isFn K (.ref f8) = true)
    (l8 : K.lookup f8 = some ⟨oc8, od8, .func (PySem.W.fnOf "apply" "Tracker.apply" (defArgs s_Tracker_apply) (defBody s_Tracker_apply) (defScope s_Tracker_apply) .none kV8 dc8 pm8 an8 cd8 ct8), sl8⟩)
    (c8 : PySem.W.codeIn K cd8 "Tracker.apply" = true)
    (k8 : PySem.W.keepIn K (.ref f8) = true)
    (a9 : PySem.W.findIn K (.ref OC1) "path" = some (some (.ref f9)))
    (n9 : PySem.W.isFn K (.ref f9) = true)
    (l9 : K.lookup f9 = some ⟨oc9, od9, .func (PySem.W.fnOf "path" "Tracker.path" (defArgs s_Tracker_path) (defBody s_Tracker_path) (defScope s_Tracker_path) .none kV9 dc9 pm9 an9 cd9 ct9), sl9⟩)
    (c9 : PySem.W.codeIn K cd9 "Tracker.path" = true)
    (k9 : PySem.W.keepIn K (.ref f9) = true)
    (a10 : PySem.W.nsIn K mainGlobals "_law_cell" = some (some (.ref f10)))
    (l10 : K.lookup f10 = some ⟨oc10, od10, .func (PySem.W.fnOf "_law_cell" "_law_cell" (defArgs s__law_cell) (defBody s__law_cell) (defScope s__law_cell) .none kV10 dc10 pm10 an10 cd10 ct10), sl10⟩)
    (c10 : PySem.W.codeIn K cd10 "_law_cell" = true)
    (k10 : PySem.W.keepIn K (.ref f10) = true)
    (a11 : PySem.W.nsIn K mainGlobals "_law_draws" = some (some (.ref f11)))
    (l11 : K.lookup f11 = some ⟨oc11, od11, .func (PySem.W.fnOf "_law_draws" "_law_draws" (defArgs s__law_draws) (defBody s__law_draws) (defScope s__law_draws) .none kV11 dc11 pm11 an11 cd11 ct11), sl11⟩)
    (c11 : PySem.W.codeIn K cd11 "_law_draws" = true)
    (k11 : PySem.W.keepIn K (.ref f11) = true)
    (a12 : PySem.W.nsIn K mainGlobals "_law_same" = some (some (.ref f12)))
    (l12 : K.lookup f12 = some ⟨oc12, od12, .func (PySem.W.fnOf "_law_same" "_law_same" (defArgs s__law_same) (defBody s__law_same) (defScope s__law_same) .none kV12 dc12 pm12 an12 cd12 ct12), sl12⟩)
    (c12 : PySem.W.codeIn K cd12 "_law_same" = true)
    (k12 : PySem.W.keepIn K (.ref f12) = true)
    (a13 : PySem.W.nsIn K mainGlobals "_law_path" = some (some (.ref f13)))
    (l13 : K.lookup f13 = some ⟨oc13, od13, .func (PySem.W.fnOf "_law_path" "_law_path" (defArgs s__law_path) (defBody s__law_path) (defScope s__law_path) .none kV13 dc13 pm13 an13 cd13 ct13), sl13⟩)
    (c13 : PySem.W.codeIn K cd13 "_law_path" = true)
    (k13 : PySem.W.keepIn K (.ref f13) = true)
    (a14 : PySem.W.nsIn K mainGlobals "_law_steps" = some (some (.ref f14)))
    (l14 : K.lookup f14 = some ⟨oc14, od14, .func (PySem.W.fnOf "_law_steps" "_law_steps" (defArgs s__law_steps) (defBody s__law_steps) (defScope s__law_steps) .none kV14 dc14 pm14 an14 cd14 ct14), sl14⟩)
    (c14 : PySem.W.codeIn K cd14 "_law_steps" = true)
    (k14 : PySem.W.keepIn K (.ref f14) = true)
    (a15 : PySem.W.nsIn K mainGlobals "_law_shown" = some (some (.ref f15)))
    (l15 : K.lookup f15 = some ⟨oc15, od15, .func (PySem.W.fnOf "_law_shown" "_law_shown" (defArgs s__law_shown) (defBody s__law_shown) (defScope s__law_shown) .none kV15 dc15 pm15 an15 cd15 ct15), sl15⟩)
    (c15 : PySem.W.codeIn K cd15 "_law_shown" = true)
    (k15 : PySem.W.keepIn K (.ref f15) = true)
    (a16 : PySem.W.nsIn K mainGlobals "_law_joined" = some (some (.ref f16)))
    (l16 : K.lookup f16 = some ⟨oc16, od16, .func (PySem.W.fnOf "_law_joined" "_law_joined" (defArgs s__law_joined) (defBody s__law_joined) (defScope s__law_joined) .none kV16 dc16 pm16 an16 cd16 ct16), sl16⟩)
    (c16 : PySem.W.codeIn K cd16 "_law_joined" = true)
    (k16 : PySem.W.keepIn K (.ref f16) = true)
    (a17 : PySem.W.nsIn K mainGlobals "_law_message" = some (some (.ref f17)))
    (l17 : K.lookup f17 = some ⟨oc17, od17, .func (PySem.W.fnOf "_law_message" "_law_message" (defArgs s__law_message) (defBody s__law_message) (defScope s__law_message) .none kV17 dc17 pm17 an17 cd17 ct17), sl17⟩)
    (c17 : PySem.W.codeIn K cd17 "_law_message" = true)
    (k17 : PySem.W.keepIn K (.ref f17) = true)
    (a18 : PySem.W.nsIn K mainGlobals "_law_told" = some (some (.ref f18)))
    (l18 : K.lookup f18 = some ⟨oc18, od18, .func (PySem.W.fnOf "_law_told" "_law_told" (defArgs s__law_told) (defBody s__law_told) (defScope s__law_told) .none kV18 dc18 pm18 an18 cd18 ct18), sl18⟩)
    (c18 : PySem.W.codeIn K cd18 "_law_told" = true)
    (k18 : PySem.W.keepIn K (.ref f18) = true)
    (a19 : PySem.W.nsIn K mainGlobals "law" = some (some (.ref f19)))
    (l19 : K.lookup f19 = some ⟨oc19, od19, .func (PySem.W.fnOf "law" "law" (defArgs s_law) (defBody s_law) (defScope s_law) .none kV19 dc19 pm19 an19 cd19 ct19), sl19⟩)
    (c19 : PySem.W.codeIn K cd19 "law" = true)
    (k19 : PySem.W.keepIn K (.ref f19) = true)
    (ca0 : PySem.W.nsIn K mainGlobals "_MOST_MESSAGES" = some (some ci0))
    (cv0 : RelV (.int 40) ci0)
    (ca1 : PySem.W.nsIn K mainGlobals "_MOST_NAMES" = some (some ci1))
    (cv1 : RelV (.int 20) ci1)
    (z0 : PySem.W.nsIn K mainGlobals "bool" = some none)
    (z1 : PySem.W.nsIn K mainGlobals "int" = some none)
    (z2 : PySem.W.nsIn K mainGlobals "isinstance" = some none)
    (z3 : PySem.W.nsIn K mainGlobals "len" = some none)
    (z4 : PySem.W.nsIn K mainGlobals "list" = some none)
    (z5 : PySem.W.nsIn K mainGlobals "min" = some none)
    (z6 : PySem.W.nsIn K mainGlobals "range" = some none)
    (z7 : PySem.W.nsIn K mainGlobals "str" = some none)
    (z8 : PySem.W.nsIn K mainGlobals "tuple" = some none)
    (ba0 : PySem.W.nsIn K mainGlobals "FocusError" = some (some (.ref B0)))
    (br0 : PySem.W.readsIn K B0 (.type "type") = true)
    (bg0 : PySem.W.specialIn K (.ref B0) "__getattribute__" = some (some (.builtin "type.__getattribute__")))
    (bv0 : PySem.W.findCls K (.ref B0) (.type "type") "__init__" = some (.val (.builtin "ValueError.__init__")))
    (xna0 : PySem.W.nsIn K mainGlobals "Refused" = some (some (.ref X0)))
    (xl0 : K.lookup X0 = some (excClassObj xn0 xq0 X0 N0 xb0 [.ref B0, .type "ValueError", .type "Exception", .type "BaseException", .type "object"] true xs0 xu0 xa0 xc0 xd0 m00 m10 m20 m30 m50 "ValueError.__new__"))
    (xsa0 : PySem.W.findIn K (.ref X0) "__setattr__" = some (some (.builtin "object.__setattr__")))
    (xga0 : PySem.W.findIn K (.ref X0) "__getattribute__" = some (some (.builtin "BaseException.__getattribute__")))
    (xgg0 : PySem.W.findIn K (.ref X0) "__getattr__" = some none)
    (xnb0 : PySem.W.findIn K (.ref X0) "what" = some none)
    (xii0 : PySem.W.findIn K (.ref X0) "__init__" = some (some (.ref I0)))
    (xkc0 : PySem.W.keepIn K (.ref X0) = true)
    (xec0 : PySem.W.subIn K (.ref X0) (.type "BaseException") = some true)
    (xtc0 : PySem.W.typeIn K (.ref X0) = some (.type "type"))
    (xhc0 : PySem.W.hasDictIn K X0 = true)
    (xsc0 : PySem.W.subIn K (.ref X0) (.ref X0) = some true)
    (it0 : PySem.W.typeIn K (.ref I0) = some (.type "function"))
    (il0 : K.lookup I0 = some ⟨ioc0, iod0, .func (PySem.W.fnOf "__init__" "Refused.__init__" (defArgs s_init_Refused) (defBody s_init_Refused) (defScope s_init_Refused) .none ikV0 idc0 ipm0 ian0 icd0 ict0), isl0⟩)
    (ic0 : PySem.W.codeIn K icd0 "Refused.__init__" = true)
    (ik0 : PySem.W.keepIn K (.ref I0) = true)
    {q : Program}
    : ∃ (fd : FuncData) (cs : List (Addr × Addr)) (sp : Sp), (∀ p ∈ cs, ∃ x e, (recsOf q).find? (fun r => r.name == x) = some e ∧ PySem.W.tabIn K x = some p) ∧ (∀ p ∈ cs, K.lookup p.2 = none) ∧ (∀ (s : Shared) (u : Value), BindsTo s fd ⟨[u], []⟩ [("script", u)]) ∧
      (∀ (H : Hp) (a : Addr) (ns : List Int), ns.length ≤ 63 → (∀ p ∈ cs, H p.2 = some (.tbl #[])) → SqL K H a (ns.map V.int) → sp [.ref a] H (fun v _ => v = .bl true) fun _ _ _ => False) ∧
      ∀ base : Heap, K.In base → base.Ns mainGlobals mg → (∀ p ∈ cs, GxR.TabB base mg p.1 p.2) → FnOk l.prog w K mg base CX0 8 fa fd ["script"] sp := by
  letI fzI : Fz := ⟨fun _ => none⟩
  letI tbI : Tb := ⟨[]⟩
  have e := hfa.symm.trans (PySem.W.mg_of X G a19)
  cases e
  have F0 := fun_mk (st := s__announcement) l0 c0 k0
  have b0 := F0.binds (ps := ["entry"]) fun _ _ _ _ _ _ us hl => match us, hl with | [_], _ => rfl
  have F1 := fun_mk (st := s_Announcements___init__) l1 c1 k1
  have b1 := F1.binds (ps := ["self"]) fun _ _ _ _ _ _ us hl => match us, hl with | [_], _ => rfl
  have F2 := fun_mk (st := s_Announcements_tell) l2 c2 k2
  have b2 := F2.binds (ps := ["self", "names", "steps"]) fun _ _ _ _ _ _ us hl => match us, hl with | [_, _, _], _ => rfl
  have F3 := fun_mk (st := s_Announcements_message) l3 c3 k3
  have b3 := F3.binds (ps := ["self", "text", "assertive"]) fun _ _ _ _ _ _ us hl => match us, hl with | [_, _, _], _ => rfl
  have F4 := fun_mk (st := s_Announcements_queue) l4 c4 k4
  have b4 := F4.binds (ps := ["self"]) fun _ _ _ _ _ _ us hl => match us, hl with | [_], _ => rfl
  have F5 := fun_mk (st := s_Announcements_take) l5 c5 k5
  have b5 := F5.binds (ps := ["self"]) fun _ _ _ _ _ _ us hl => match us, hl with | [_], _ => rfl
  have F6 := fun_mk (st := s_Announcements__put_path) l6 c6 k6
  have b6 := F6.binds (ps := ["self", "old", "new", "steps"]) fun _ _ _ _ _ _ us hl => match us, hl with | [_, _, _, _], _ => rfl
  have F7 := fun_mk (st := s_Tracker___init__) l7 c7 k7
  have b7 := F7.binds (ps := ["self"]) fun _ _ _ _ _ _ us hl => match us, hl with | [_], _ => rfl
  have F8 := fun_mk (st := s_Tracker_apply) l8 c8 k8
  have b8 := F8.binds (ps := ["self", "announcement"]) fun _ _ _ _ _ _ us hl => match us, hl with | [_, _], _ => rfl
  have F9 := fun_mk (st := s_Tracker_path) l9 c9 k9
  have b9 := F9.binds (ps := ["self"]) fun _ _ _ _ _ _ us hl => match us, hl with | [_], _ => rfl
  have F10 := fun_mk (st := s__law_cell) l10 c10 k10
  have b10 := F10.binds (ps := ["script", "k"]) fun _ _ _ _ _ _ us hl => match us, hl with | [_, _], _ => rfl
  have F11 := fun_mk (st := s__law_draws) l11 c11 k11
  have b11 := F11.binds (ps := ["cell", "count"]) fun _ _ _ _ _ _ us hl => match us, hl with | [_, _], _ => rfl
  have F12 := fun_mk (st := s__law_same) l12 c12 k12
  have b12 := F12.binds (ps := ["actual", "expected"]) fun _ _ _ _ _ _ us hl => match us, hl with | [_, _], _ => rfl
  have F13 := fun_mk (st := s__law_path) l13 c13 k13
  have b13 := F13.binds (ps := ["draws"]) fun _ _ _ _ _ _ us hl => match us, hl with | [_], _ => rfl
  have F14 := fun_mk (st := s__law_steps) l14 c14 k14
  have b14 := F14.binds (ps := ["names", "draw"]) fun _ _ _ _ _ _ us hl => match us, hl with | [_, _], _ => rfl
  have F15 := fun_mk (st := s__law_shown) l15 c15 k15
  have b15 := F15.binds (ps := ["row"]) fun _ _ _ _ _ _ us hl => match us, hl with | [_], _ => rfl
  have F16 := fun_mk (st := s__law_joined) l16 c16 k16
  have b16 := F16.binds (ps := ["rows"]) fun _ _ _ _ _ _ us hl => match us, hl with | [_], _ => rfl
  have F17 := fun_mk (st := s__law_message) l17 c17 k17
  have b17 := F17.binds (ps := ["rows", "text", "is_assertive"]) fun _ _ _ _ _ _ us hl => match us, hl with | [_, _, _], _ => rfl
  have F18 := fun_mk (st := s__law_told) l18 c18 k18
  have b18 := F18.binds (ps := ["queue", "text", "is_assertive"]) fun _ _ _ _ _ _ us hl => match us, hl with | [_, _, _], _ => rfl
  have F19 := fun_mk (st := s_law) l19 c19 k19
  have b19 := F19.binds (ps := ["script"]) fun _ _ _ _ _ _ us hl => match us, hl with | [_], _ => rfl
  have E0 := fun_mk (st := s_init_Refused) il0 ic0 ik0
  have eb0 := E0.binds (ps := ["self", "what"]) fun _ _ _ _ _ _ us hl => match us, hl with | [_, _], _ => rfl
  refine ⟨?fd, [], p_law K, (fun _ h => by cases h), (fun _ h => by cases h), ?hb, fun H a ns hl hT hS => ?hsp, fun base _ _ TB => ?hF⟩
  case hF =>
    have T : Tx K mg base { f__announcement := f0, d__announcement := _, f_Announcements___init__ := f1, d_Announcements___init__ := _, f_Announcements_tell := f2, d_Announcements_tell := _, f_Announcements_message := f3, d_Announcements_message := _, f_Announcements_queue := f4, d_Announcements_queue := _, f_Announcements_take := f5, d_Announcements_take := _, f_Announcements__put_path := f6, d_Announcements__put_path := _, f_Tracker___init__ := f7, d_Tracker___init__ := _, f_Tracker_apply := f8, d_Tracker_apply := _, f_Tracker_path := f9, d_Tracker_path := _, f__law_cell := f10, d__law_cell := _, f__law_draws := f11, d__law_draws := _, f__law_same := f12, d__law_same := _, f__law_path := f13, d__law_path := _, f__law_steps := f14, d__law_steps := _, f__law_shown := f15, d__law_shown := _, f__law_joined := f16, d__law_joined := _, f__law_message := f17, d__law_message := _, f__law_told := f18, d__law_told := _, f_law := fa, d_law := _, x_FocusError := B0, x_Refused := X0, i_Refused := I0, di_Refused := _, c_Announcements := OC0, c_Tracker := OC1 } := { F__announcement := F0, b__announcement := b0, g__announcement := PySem.W.mg_of X G a0, F_Announcements___init__ := F1, b_Announcements___init__ := b1, mk_Announcements := ⟨o0m, a1, n1, o0k⟩, F_Announcements_tell := F2, b_Announcements_tell := b2, me_Announcements_tell := ⟨a2, n2, k2⟩, F_Announcements_message := F3, b_Announcements_message := b3, me_Announcements_message := ⟨a3, n3, k3⟩, F_Announcements_queue := F4, b_Announcements_queue := b4, me_Announcements_queue := ⟨a4, n4, k4⟩, F_Announcements_take := F5, b_Announcements_take := b5, me_Announcements_take := ⟨a5, n5, k5⟩, F_Announcements__put_path := F6, b_Announcements__put_path := b6, me_Announcements__put_path := ⟨a6, n6, k6⟩, F_Tracker___init__ := F7, b_Tracker___init__ := b7, mk_Tracker := ⟨o1m, a7, n7, o1k⟩, F_Tracker_apply := F8, b_Tracker_apply := b8, me_Tracker_apply := ⟨a8, n8, k8⟩, F_Tracker_path := F9, b_Tracker_path := b9, me_Tracker_path := ⟨a9, n9, k9⟩, F__law_cell := F10, b__law_cell := b10, g__law_cell := PySem.W.mg_of X G a10, F__law_draws := F11, b__law_draws := b11, g__law_draws := PySem.W.mg_of X G a11, F__law_same := F12, b__law_same := b12, g__law_same := PySem.W.mg_of X G a12, F__law_path := F13, b__law_path := b13, g__law_path := PySem.W.mg_of X G a13, F__law_steps := F14, b__law_steps := b14, g__law_steps := PySem.W.mg_of X G a14, F__law_shown := F15, b__law_shown := b15, g__law_shown := PySem.W.mg_of X G a15, F__law_joined := F16, b__law_joined := b16, g__law_joined := PySem.W.mg_of X G a16, F__law_message := F17, b__law_message := b17, g__law_message := PySem.W.mg_of X G a17, F__law_told := F18, b__law_told := b18, g__law_told := PySem.W.mg_of X G a18, F_law := F19, b_law := b19, g_law := PySem.W.mg_of X G a19, cl_Announcements := ⟨o0g, o0h, o0o, o0s⟩, gC_Announcements := PySem.W.mg_of X G o0C, na_Announcements__last := o0f0, na_Announcements__entries := o0f1, cl_Tracker := ⟨o1g, o1h, o1o, o1s⟩, gC_Tracker := PySem.W.mg_of X G o1C, na_Tracker__names := o1f0, c__MOST_MESSAGES := ⟨_, PySem.W.mg_of X G ca0, cv0⟩, c__MOST_NAMES := ⟨_, PySem.W.mg_of X G ca1, cv1⟩, n_bool := PySem.W.mg_none_of X G z0, n_int := PySem.W.mg_none_of X G z1, n_isinstance := PySem.W.mg_none_of X G z2, n_len := PySem.W.mg_none_of X G z3, n_list := PySem.W.mg_none_of X G z4, n_min := PySem.W.mg_none_of X G z5, n_range := PySem.W.mg_none_of X G z6, n_str := PySem.W.mg_none_of X G z7, n_tuple := PySem.W.mg_none_of X G z8, x_Refused := { gC := PySem.W.mg_of X G xna0, gB := PySem.W.mg_of X G ba0, ox := { cls := ⟨_, _, _, _, _, _, _, _, _, _, _, _, _, _, _, xl0, rfl⟩, sa := xsa0, exC := xec0, tyC := xtc0, kC := xkc0 }, iC := xii0, tI := it0, rd := ⟨br0, bg0⟩, vB := bv0, nF := xnb0, xf := ⟨xga0, xgg0, xec0, xhc0⟩, te := PySem.W.exm_ref xec0 xhc0 xtc0 xsc0 }, FI_Refused := E0, bi_Refused := eb0 }
    exact ok_law T
  case hb => exact fun s v => .of_eq rfl
  case hsp =>
    obtain ⟨g1, g2⟩ := law_start (H := H) (fun _ => rfl) (fun _ h => by cases h) hS
    exact ⟨fzI, ⟨ns⟩, .ref a, strip H, rfl, g1, g2, hl, fun u G2 H2 _ r => by rw [law_true ns hl] at r; exact r⟩

end RL
open PySem PySem.W PyProof.Rows in
set_option maxRecDepth 100000 in
set_option maxHeartbeats 0 in
theorem PySem.Challenge.cw_keyfocus_k42_announcements_holds : PySem.Challenge.rw_keyfocus_k42_announcements.Holds := by
  w_on; o_law; k_head; (case hw => w_witness2)
  k_fill
  refine RL.walk_tabs (l := PySem.Challenge.rw_keyfocus_k42_announcements) (lv := 8) (nm := 63) rfl (by decide) rfl ⟨rfl, by decide, by decide⟩ (fun w h Y => PySem.W.kIn_of Y) ?F
  case F =>
    intro w mg fa h KX G hmg
    refine' RL.all_mk KX G hmg ?o0C ?o0g ?o0h ?o0o ?o0s ?o0m ?o0k ?o0f0 ?o0f1 ?o1C ?o1g ?o1h ?o1o ?o1s ?o1m ?o1k ?o1f0 ?a0 ?l0 ?c0 ?k0 ?a1 ?n1 ?l1 ?c1 ?k1 ?a2 ?n2 ?l2 ?c2 ?k2 ?a3 ?n3 ?l3 ?c3 ?k3 ?a4 ?n4 ?l4 ?c4 ?k4 ?a5 ?n5 ?l5 ?c5 ?k5 ?a6 ?n6 ?l6 ?c6 ?k6 ?a7 ?n7 ?l7 ?c7 ?k7 ?a8 ?n8 ?l8 ?c8 ?k8 ?a9 ?n9 ?l9 ?c9 ?k9 ?a10 ?l10 ?c10 ?k10 ?a11 ?l11 ?c11 ?k11 ?a12 ?l12 ?c12 ?k12 ?a13 ?l13 ?c13 ?k13 ?a14 ?l14 ?c14 ?k14 ?a15 ?l15 ?c15 ?k15 ?a16 ?l16 ?c16 ?k16 ?a17 ?l17 ?c17 ?k17 ?a18 ?l18 ?c18 ?k18 ?a19 ?l19 ?c19 ?k19 ?ca0 ?cv0 ?ca1 ?cv1 ?z0 ?z1 ?z2 ?z3 ?z4 ?z5 ?z6 ?z7 ?z8 ?ba0 ?br0 ?bg0 ?bv0 ?xna0 ?xl0 ?xsa0 ?xga0 ?xgg0 ?xnb0 ?xii0 ?xkc0 ?xec0 ?xtc0 ?xhc0 ?xsc0 ?it0 ?il0 ?ic0 ?ik0
    (case o0C => first | k_is | rfl)
    (case o0g => first | k_is | rfl)
    (case o0h => first | k_is | rfl)
    (case o0o => first | k_is | rfl)
    (case o0s => first | k_is | rfl)
    (case o0m => first | k_is | rfl)
    (case o0k => first | k_is | rfl)
    (case o0f0 => first | k_is | rfl)
    (case o0f1 => first | k_is | rfl)
    (case o1C => first | k_is | rfl)
    (case o1g => first | k_is | rfl)
    (case o1h => first | k_is | rfl)
    (case o1o => first | k_is | rfl)
    (case o1s => first | k_is | rfl)
    (case o1m => first | k_is | rfl)
    (case o1k => first | k_is | rfl)
    (case o1f0 => first | k_is | rfl)
    (case a0 => first | k_is | rfl)
    (case l0 => first | k_is | rfl)
    (case c0 => first | k_is | rfl)
    (case k0 => first | k_is | rfl)
    (case a1 => first | k_is | rfl)
    (case n1 => first | k_is | rfl)
    (case l1 => first | k_is | rfl)
    (case c1 => first | k_is | rfl)
    (case k1 => first | k_is | rfl)
    (case a2 => first | k_is | rfl)
    (case n2 => first | k_is | rfl)
    (case l2 => first | k_is | rfl)
    (case c2 => first | k_is | rfl)
    (case k2 => first | k_is | rfl)
    (case a3 => first | k_is | rfl)
    (case n3 => first | k_is | rfl)
    (case l3 => first | k_is | rfl)
    (case c3 => first | k_is | rfl)
    (case k3 => first | k_is | rfl)
    (case a4 => first | k_is | rfl)
    (case n4 => first | k_is | rfl)
    (case l4 => first | k_is | rfl)
    (case c4 => first | k_is | rfl)
    (case k4 => first | k_is | rfl)
    (case a5 => first | k_is | rfl)
    (case n5 => first | k_is | rfl)
    (case l5 => first | k_is | rfl)
    (case c5 => first | k_is | rfl)
    (case k5 => first | k_is | rfl)
    (case a6 => first | k_is | rfl)
    (case n6 => first | k_is | rfl)
    (case l6 => first | k_is | rfl)
    (case c6 => first | k_is | rfl)
    (case k6 => first | k_is | rfl)
    (case a7 => first | k_is | rfl)
    (case n7 => first | k_is | rfl)
    (case l7 => first | k_is | rfl)
    (case c7 => first | k_is | rfl)
    (case k7 => first | k_is | rfl)
    (case a8 => first | k_is | rfl)
    (case n8 => first | k_is | rfl)
    (case l8 => first | k_is | rfl)
    (case c8 => first | k_is | rfl)
    (case k8 => first | k_is | rfl)
    (case a9 => first | k_is | rfl)
    (case n9 => first | k_is | rfl)
    (case l9 => first | k_is | rfl)
    (case c9 => first | k_is | rfl)
    (case k9 => first | k_is | rfl)
    (case a10 => first | k_is | rfl)
    (case l10 => first | k_is | rfl)
    (case c10 => first | k_is | rfl)
    (case k10 => first | k_is | rfl)
    (case a11 => first | k_is | rfl)
    (case l11 => first | k_is | rfl)
    (case c11 => first | k_is | rfl)
    (case k11 => first | k_is | rfl)
    (case a12 => first | k_is | rfl)
    (case l12 => first | k_is | rfl)
    (case c12 => first | k_is | rfl)
    (case k12 => first | k_is | rfl)
    (case a13 => first | k_is | rfl)
    (case l13 => first | k_is | rfl)
    (case c13 => first | k_is | rfl)
    (case k13 => first | k_is | rfl)
    (case a14 => first | k_is | rfl)
    (case l14 => first | k_is | rfl)
    (case c14 => first | k_is | rfl)
    (case k14 => first | k_is | rfl)
    (case a15 => first | k_is | rfl)
    (case l15 => first | k_is | rfl)
    (case c15 => first | k_is | rfl)
    (case k15 => first | k_is | rfl)
    (case a16 => first | k_is | rfl)
    (case l16 => first | k_is | rfl)
    (case c16 => first | k_is | rfl)
    (case k16 => first | k_is | rfl)
    (case a17 => first | k_is | rfl)
    (case l17 => first | k_is | rfl)
    (case c17 => first | k_is | rfl)
    (case k17 => first | k_is | rfl)
    (case a18 => first | k_is | rfl)
    (case l18 => first | k_is | rfl)
    (case c18 => first | k_is | rfl)
    (case k18 => first | k_is | rfl)
    (case a19 => first | k_is | rfl)
    (case l19 => first | k_is | rfl)
    (case c19 => first | k_is | rfl)
    (case k19 => first | k_is | rfl)
    (case ca0 => first | k_is | rfl)
    (case cv0 => exact ⟨_, rfl⟩)
    (case ca1 => first | k_is | rfl)
    (case cv1 => exact ⟨_, rfl⟩)
    (case z0 => first | k_is | rfl)
    (case z1 => first | k_is | rfl)
    (case z2 => first | k_is | rfl)
    (case z3 => first | k_is | rfl)
    (case z4 => first | k_is | rfl)
    (case z5 => first | k_is | rfl)
    (case z6 => first | k_is | rfl)
    (case z7 => first | k_is | rfl)
    (case z8 => first | k_is | rfl)
    (case ba0 => first | k_is | rfl)
    (case br0 => first | k_is | rfl)
    (case bg0 => first | k_is | rfl)
    (case bv0 => first | k_is | rfl)
    (case xna0 => first | k_is | rfl)
    (case xl0 => first | k_is | rfl)
    (case xsa0 => first | k_is | rfl)
    (case xga0 => first | k_is | rfl)
    (case xgg0 => first | k_is | rfl)
    (case xnb0 => first | k_is | rfl)
    (case xii0 => first | k_is | rfl)
    (case xkc0 => first | k_is | rfl)
    (case xec0 => first | k_is | rfl)
    (case xtc0 => first | k_is | rfl)
    (case xhc0 => first | k_is | rfl)
    (case xsc0 => first | k_is | rfl)
    (case it0 => first | k_is | rfl)
    (case il0 => first | k_is | rfl)
    (case ic0 => first | k_is | rfl)
    (case ik0 => first | k_is | rfl)
#print axioms PySem.Challenge.cw_keyfocus_k42_announcements_holds