import PyProof.Rows.All
import Wide.All
import OpenK.AllK
import Wide.FinOn
import PyProof.EqAt
import PyProof.EqKinds
import PyProof.TupleCall
import HandS.ForMost
import HandS.ForExc
import HandS.Star
import HandS.Style
import HandS.AnyAll
import HandS.Strs
import HandS.ExcInit
import HandS.ExcIs
import HandS.ExcField
import HandS.ClsMeth
import KE.KExcIs
import HandS.Codes
import PyProof.StrOps2
import HandS.Text
import HandS.TupAny
import HandS.TupLe
import HandS.IsInst
import HandS.EndTab
import HandS.ReplaceLit
import HandS.ReplaceDef
import HandS.FStr
import HandS.ReplaceList
import HandS.Walk
import HandS.Deep
import HandS.TryMany
import KE.KDictWalk
import KE.KDictCopyH
import PyProof.GenCompD
import PyProof.StrBlockI
import HandS.SetKeys
import HandS.DictTup
import HandS.TupLen
import PyProof.StrLawsTight
import PyProof.P3Eq
import PySem.Challenge.RW_keyfocus_k40_bindings
set_option Elab.async false
set_option linter.all false
set_option maxRecDepth 100000
set_option maxHeartbeats 2000000
/-! A layer of our own over HandS: what an expression is worth in typed data, told of a part G of the heap that never changes; the heap H at hand has G and what the def at hand may still change. -/
namespace RL
open PySem PySem.Spec PyProof.Rows L2

/-! ### heaps -/
theorem same_upd {H : Hp} {p : Addr} {o : HO} (h : H p = none) : Same H (upd H p o) := fun b u e => by
  rw [upd_ne (ne_of_none e h)]
  exact e
/-- the code objects' tables that may grow: their addresses -/
class Tb where
  ps : List Addr
def noTb (o : HO) : Prop := ∀ q, o ≠ .tbl q
theorem noTb_lst {xs : List V} : noTb (.lst xs) := fun q z => by cases z
theorem noTb_tup {xs : List V} : noTb (.tup xs) := fun q z => by cases z
section
variable [Tb]
/-- G's objects stand in H, and H has the tables -/
structure Sub (G H : Hp) : Prop where
  m : ∀ a o, G a = some o → H a = some o ∧ noTb o
  t : ∀ P ∈ Tb.ps, GxR.TabG H P
theorem Sub.get {G H : Hp} (s : Sub G H) : Same G H := fun a o h => (s.m a o h).1
instance {G H : Hp} : CoeFun (Sub G H) (fun _ => ∀ a o, G a = some o → H a = some o) := ⟨fun s => s.get⟩
theorem Sub.free {G H : Hp} (s : Sub G H) {a : Addr} (h : H a = none) : G a = none := s.get.free h
theorem un {G G' H : Hp} (a : Same G G') (s : Sub G' H) : Sub G H := ⟨fun b o h => s.m b o (a b o h), s.t⟩
/-- what is no table is kept -/
structure Kept (H H' : Hp) : Prop where
  k : ∀ a o, H a = some o → noTb o → H' a = some o
  fr : ∀ a, H' a = none → H a = none
theorem Kept.refl (H : Hp) : Kept H H := ⟨fun _ _ h _ => h, fun _ h => h⟩
theorem Kept.trans {H H1 H2 : Hp} (a : Kept H H1) (b : Kept H1 H2) : Kept H H2 := ⟨fun x o h n => b.k x o (a.k x o h n) n, fun x h => a.fr x (b.fr x h)⟩
theorem Kept.free {H H' : Hp} (k : Kept H H') {a : Addr} (h : H' a = none) : H a = none := k.fr a h
theorem Kept.l {H H' : Hp} (k : Kept H H') {a : Addr} {xs : List V} (h : H a = some (.lst xs)) : H' a = some (.lst xs) := k.k a _ h noTb_lst
theorem kept_upd {H : Hp} {p : Addr} {o : HO} (h : H p = none) : Kept H (upd H p o) := ⟨fun b u e _ => same_upd h b u e, fun b e => (same_upd h).free e⟩
theorem Kept.none {H H' : Hp} (k : Kept H H') {a : Addr} {o : HO} (h : H a = some o) : ∃ u, H' a = some u := by
  cases q : H' a with
  | none => rw [k.fr a q] at h; cases h
  | some u => exact ⟨u, rfl⟩
theorem tab_mut {H : Hp} {P p : Addr} {o : HO} (t : GxR.TabG H P) (hp : ∀ q, H p ≠ some (.tbl q)) : GxR.TabG (upd H p o) P := by
  obtain ⟨qs, e, k⟩ := t
  refine ⟨qs, ?_, k⟩
  rw [upd_ne fun z => hp qs (by rw [← z]; exact e)]
  exact e
theorem no_tab {H : Hp} {p : Addr} (h : H p = none) : ∀ q, H p ≠ some (.tbl q) := fun q z => by rw [h] at z; cases z
theorem Sub.keep {G H H' : Hp} (s : Sub G H) (k : Kept H H') (t : ∀ P ∈ Tb.ps, GxR.TabG H' P) : Sub G H' := ⟨fun a o h => ⟨k.k a o (s.m a o h).1 (s.m a o h).2, (s.m a o h).2⟩, t⟩
theorem sub_upd2 {G H : Hp} {p : Addr} {o : HO} (e : Sub G H) (h : G p = none) (hp : ∀ q, H p ≠ some (.tbl q)) : Sub G (upd H p o) := ⟨fun b u q => by
  rw [upd_ne (ne_of_none q h)]
  exact e.m b u q, fun P hP => tab_mut (e.t P hP) hp⟩
theorem sub_updB {G H : Hp} {p : Addr} {o : HO} (e : Sub G H) (hp : H p = none) (ho : noTb o) : Sub (upd G p o) (upd H p o) := ⟨fun b u q => by
  by_cases hb : b = p
  · subst hb
    rw [upd_same] at q ⊢
    cases q
    exact ⟨rfl, ho⟩
  · rw [upd_ne hb] at q ⊢
    exact e.m b u q, fun P hP => tab_mut (e.t P hP) (no_tab hp)⟩
structure Grow (G H G' H' : Hp) : Prop where
  g : Same G G'
  s : Sub G' H'
  h : Kept H H'
  f : ∀ a o, H a = some o → G a = none → G' a = none
theorem Grow.refl {G H : Hp} (e : Sub G H) : Grow G H G H := ⟨Same.refl _, e, Kept.refl _, fun _ _ _ h => h⟩
theorem Grow.trans {G H G1 H1 G2 H2 : Hp} (a : Grow G H G1 H1) (b : Grow G1 H1 G2 H2) : Grow G H G2 H2 :=
  ⟨a.g.trans b.g, b.s, a.h.trans b.h, fun x o h n => by
    obtain ⟨u, e⟩ := a.h.none h
    exact b.f x u e (a.f x o h n)⟩
theorem Grow.new {G H : Hp} (e : Sub G H) {p : Addr} {o : HO} (hp : H p = none) (ho : noTb o := by intro q z; cases z) : Grow G H (upd G p o) (upd H p o) :=
  ⟨same_upd (e.free hp), sub_updB e hp ho, kept_upd hp, fun a u ha hg => by
    rw [upd_ne (ne_of_none ha hp)]
    exact hg⟩
/-- an object that the entry does not know is changed -/
theorem Grow.mut {Ge He G H : Hp} (a : Grow Ge He G H) {p : Addr} {o : HO} (h0 : He p = none) (hg : G p = none) (ht : ∀ q, H p ≠ some (.tbl q)) : Grow Ge He G (upd H p o) :=
  ⟨a.g, sub_upd2 a.s hg ht, ⟨fun b u e n => by
    rw [upd_ne (ne_of_none e h0)]
    exact a.h.k b u e n, fun b e => by
    by_cases hb : b = p
    · rw [hb]; exact h0
    · rw [upd_ne hb] at e
      exact a.h.fr b e⟩, a.f⟩
theorem lst_no {H : Hp} {p : Addr} {xs : List V} (h : H p = some (.lst xs)) : ∀ q, H p ≠ some (.tbl q) := fun q z => by rw [h] at z; cases z
/-- such an object is from now on one of those that never change -/
theorem Grow.fix {Ge He G H : Hp} (a : Grow Ge He G H) {p : Addr} {o : HO} (h0 : He p = none) (hg : G p = none) (hp : H p = some o) (ho : noTb o := by intro q z; cases z) : Grow Ge He (upd G p o) H :=
  ⟨a.g.trans (same_upd hg), ⟨fun b u q => by
    by_cases hb : b = p
    · subst hb
      rw [upd_same] at q
      cases q
      exact ⟨hp, ho⟩
    · rw [upd_ne hb] at q
      exact a.s.m b u q, a.s.t⟩, a.h, fun x u hx hn => by
    rw [upd_ne (ne_of_none hx h0)]
    exact a.f x u hx hn⟩
/-- a new object that may still change -/
theorem Grow.loose {Ge He G H : Hp} (a : Grow Ge He G H) {p : Addr} {o : HO} (hp : H p = none) : Grow Ge He G (upd H p o) :=
  ⟨a.g, sub_upd2 a.s (a.s.free hp) (no_tab hp), a.h.trans (kept_upd hp), a.f⟩
/-- a table has grown -/
theorem Grow.tab {Ge He G H H' : Hp} (a : Grow Ge He G H) {P : Addr} (h : GxR.TabG H P) (t : GxR.Tabbed P H H') : Grow Ge He G H' := by
  obtain ⟨qs, eP, _⟩ := h
  refine ⟨a.g, ⟨fun b u q => ?_, fun R hR => ?_⟩, ⟨fun b u e n => ?_, fun b e => ?_⟩, a.f⟩
  · obtain ⟨q1, q2⟩ := a.s.m b u q
    refine ⟨?_, q2⟩
    rw [t.2 b fun z => by rw [z, eP] at q1; exact q2 qs (Option.some.inj q1).symm]
    exact q1
  · by_cases hr : R = P
    · rw [hr]; exact t.1
    · obtain ⟨rs, e, k⟩ := a.s.t R hR
      exact ⟨rs, by rw [t.2 R hr]; exact e, k⟩
  · have q1 := a.h.k b u e n
    rw [t.2 b fun z => by rw [z, eP] at q1; exact n qs (Option.some.inj q1).symm]
    exact q1
  · refine a.h.fr b ?_
    rw [← t.2 b fun z => by obtain ⟨rs, e2, _⟩ := t.1; rw [z, e2] at e; cases e]
    exact e
end
def jn (G1 G2 : Hp) : Hp := fun a => match G1 a with
  | some o => some o
  | none => G2 a
theorem jn_l (G1 G2 : Hp) : Same G1 (jn G1 G2) := fun b o e => by
  show (match G1 b with | some o => some o | none => G2 b) = some o
  rw [e]
theorem jn_r {G1 G2 H : Hp} (h1 : Same G1 H) (h2 : Same G2 H) : Same G2 (jn G1 G2) := fun b o e => by
  show (match G1 b with | some o => some o | none => G2 b) = some o
  cases q : G1 b with
  | none => exact e
  | some u =>
    have a := h1 b u q
    rw [h2 b o e] at a
    exact a.symm
theorem jn_s [Tb] {G1 G2 H : Hp} (h1 : Sub G1 H) (h2 : Sub G2 H) : Sub (jn G1 G2) H := ⟨fun b o e => by
  have e' : (match G1 b with | some o => some o | none => G2 b) = some o := e
  cases q : G1 b with
  | none =>
    rw [q] at e'
    exact h2.m b o e'
  | some u =>
    rw [q] at e'
    rw [← Option.some.inj e']
    exact h1.m b u q, h1.t⟩
theorem jn_none {G1 G2 : Hp} {b : Addr} (h1 : G1 b = none) (h2 : G2 b = none) : jn G1 G2 b = none := by
  show (match G1 b with | some o => some o | none => G2 b) = none
  rw [h1]
  exact h2
theorem same_none {G G' : Hp} (e : Same G G') {b : Addr} (h : G' b = none) : G b = none := e.free h
theorem rd_mono {G G' : Hp} {a : Addr} {u : HO} (e : Same G G') (h : Rd G a u) : Rd G' a u := by
  rcases h with h | ⟨o, h⟩
  · exact Or.inl (e a _ h)
  · exact Or.inr ⟨o, e a _ h⟩
theorem sqT_mono {K : PySem.W.Frag} {G G' : Hp} {a : Addr} {xs : List V} (e : Same G G') (h : SqT K G a xs) : SqT K G' a xs := by
  rcases h with h | h
  · exact Or.inl (rd_mono e h)
  · exact Or.inr h
theorem sqL_mono {K : PySem.W.Frag} {G G' : Hp} {a : Addr} {xs : List V} (e : Same G G') (h : SqL K G a xs) : SqL K G' a xs := by
  rcases h with h | h
  · exact Or.inl (rd_mono e h)
  · exact Or.inr h

/-! ### typed data: lists, tuples, what stands still -/
def dataO (o : HO) : Prop := match o with
  | .lst _ | .tup _ | .frz _ _ => True
  | _ => False
def SameD (G G' : Hp) : Prop := ∀ a o, G a = some o → dataO o → G' a = some o
theorem same_d {G G' : Hp} (e : Same G G') : SameD G G' := fun a o h _ => e a o h
theorem SameD.trans {G G1 G2 : Hp} (a : SameD G G1) (b : SameD G1 G2) : SameD G G2 := fun x o h d => b x o (a x o h d) d
theorem rd_monoD {G G' : Hp} {a : Addr} {u : HO} (d : dataO u) (e : SameD G G') (h : Rd G a u) : Rd G' a u := by
  rcases h with h | ⟨o, h⟩
  · exact Or.inl (e a _ h d)
  · exact Or.inr ⟨o, e a _ h trivial⟩
theorem sqT_monoD {K : PySem.W.Frag} {G G' : Hp} {a : Addr} {xs : List V} (e : SameD G G') (h : SqT K G a xs) : SqT K G' a xs := by
  rcases h with h | h
  · exact Or.inl (rd_monoD trivial e h)
  · exact Or.inr h
theorem sqL_monoD {K : PySem.W.Frag} {G G' : Hp} {a : Addr} {xs : List V} (e : SameD G G') (h : SqL K G a xs) : SqL K G' a xs := by
  rcases h with h | h
  · exact Or.inl (rd_monoD trivial e h)
  · exact Or.inr h
class Rep (α : Type) where
  rep : PySem.W.Frag → α → V → Hp → Prop
  mono : ∀ {K : PySem.W.Frag} {x : α} {v : V} {G G' : Hp}, SameD G G' → rep K x v G → rep K x v G'
open Rep (rep)
theorem upd' {α : Type} [Rep α] {K : PySem.W.Frag} {x : α} {v : V} {G G' : Hp} (e : SameD G G') (h : rep K x v G) : rep K x v G' := Rep.mono e h
theorem up {α : Type} [Rep α] {K : PySem.W.Frag} {x : α} {v : V} {G G' : Hp} (e : Same G G') (h : rep K x v G) : rep K x v G' := Rep.mono (same_d e) h
instance : Rep Int := ⟨fun _ x v _ => v = .int x, fun _ h => h⟩
instance : Rep Bool := ⟨fun _ x v _ => v = .bl x, fun _ h => h⟩
instance : Rep Str := ⟨fun _ x v _ => v = .str x, fun _ h => h⟩
instance : Rep Unit := ⟨fun _ _ v _ => v = .non, fun _ h => h⟩
def repO {α : Type} [Rep α] (K : PySem.W.Frag) (o : Option α) (v : V) (G : Hp) : Prop := match o with
  | none => v = .non
  | some x => rep K x v G
instance {α : Type} [Rep α] : Rep (Option α) := ⟨repO, fun {K x v G G'} e h => by
  cases x with
  | none => exact h
  | some y => exact upd' e (show rep K y v G from h)⟩
def repS {α β : Type} [Rep α] [Rep β] (K : PySem.W.Frag) (o : Sum α β) (v : V) (G : Hp) : Prop := match o with
  | .inl x => rep K x v G
  | .inr x => rep K x v G
instance {α β : Type} [Rep α] [Rep β] : Rep (Sum α β) := ⟨repS, fun {K x v G G'} e h => by
  cases x with
  | inl y => exact upd' e (show rep K y v G from h)
  | inr y => exact upd' e (show rep K y v G from h)⟩
abbrev Reps {α : Type} [Rep α] (K : PySem.W.Frag) (l : List α) (vs : List V) (G : Hp) : Prop := Paired (fun x v => rep K x v G) l vs
theorem Reps.upd {α : Type} [Rep α] {K : PySem.W.Frag} {l : List α} {vs : List V} {G G' : Hp} (e : SameD G G') (h : Reps K l vs G) : Reps K l vs G' := Paired.mapP h fun _ _ r => RL.upd' e r
theorem Reps.up {α : Type} [Rep α] {K : PySem.W.Frag} {l : List α} {vs : List V} {G G' : Hp} (e : Same G G') (h : Reps K l vs G) : Reps K l vs G' := Paired.mapP h fun _ _ r => RL.up e r
instance {α : Type} [Rep α] : Rep (List α) := ⟨fun K l v G => ∃ a xs, v = .ref a ∧ G a = some (.lst xs) ∧ Reps K l xs G, fun e ⟨a, xs, h1, h2, h3⟩ => ⟨a, xs, h1, e _ _ h2 trivial, h3.upd e⟩⟩
/-- the script -/
structure Scr where
  l : List Int
instance : Rep Scr := ⟨fun K s v G => ∃ a, v = .ref a ∧ SqL K G a (s.l.map V.int), fun e ⟨a, h1, h2⟩ => ⟨a, h1, sqL_monoD e h2⟩⟩
/-- a tuple of things of one kind -/
structure Tpl (α : Type) where
  l : List α
instance {α : Type} [Rep α] : Rep (Tpl α) := ⟨fun K t v G => ∃ a xs, v = .ref a ∧ SqT K G a xs ∧ Reps K t.l xs G, fun e ⟨a, xs, h1, h2, h3⟩ => ⟨a, xs, h1, sqT_monoD e h2, h3.upd e⟩⟩
instance {α β : Type} [Rep α] [Rep β] : Rep (α × β) := ⟨fun K p v G => ∃ a x y, v = .ref a ∧ SqT K G a [x, y] ∧ rep K p.1 x G ∧ rep K p.2 y G, fun e ⟨a, x, y, h1, h2, h3, h4⟩ => ⟨a, x, y, h1, sqT_monoD e h2, upd' e h3, upd' e h4⟩⟩
structure T3 (α β γ : Type) where
  a : α
  b : β
  c : γ
instance {α β γ : Type} [Rep α] [Rep β] [Rep γ] : Rep (T3 α β γ) := ⟨fun K p v G => ∃ a x y z, v = .ref a ∧ SqT K G a [x, y, z] ∧ rep K p.a x G ∧ rep K p.b y G ∧ rep K p.c z G,
  fun e ⟨a, x, y, z, h1, h2, h3, h4, h5⟩ => ⟨a, x, y, z, h1, sqT_monoD e h2, upd' e h3, upd' e h4, upd' e h5⟩⟩

/-- kinds whose things are told by their value alone -/
class Flat (α : Type) [Rep α] [DecidableEq α] where
  toV : α → V
  eq : ∀ {K : PySem.W.Frag} {x : α} {v : V} {G : Hp}, rep K x v G ↔ v = toV x
  flat : ∀ x : α, flatV (toV x) = true
  eqv : ∀ x y : α, eqV (toV x) (toV y) = decide (x = y)
  sc : ∀ x y : α, scal (toV x) (toV y) = true
  inj : ∀ x y : α, decide (toV x = toV y) = decide (x = y)
theorem inj_dec {α : Type} [DecidableEq α] {x y : α} {a b : V} (h : a = b ↔ x = y) : decide (a = b) = decide (x = y) := decide_eq_decide.mpr h
instance : Flat Int := ⟨V.int, Iff.rfl, fun _ => rfl, fun x y => by show (x == y) = _; exact Bool.beq_eq_decide_eq x y, fun _ _ => rfl, fun x y => inj_dec ⟨V.int.inj, congrArg _⟩⟩
instance : Flat Bool := ⟨V.bl, Iff.rfl, fun _ => rfl, fun x y => by show (x == y) = _; exact Bool.beq_eq_decide_eq x y, fun _ _ => rfl, fun x y => inj_dec ⟨V.bl.inj, congrArg _⟩⟩
instance : Flat Str := ⟨V.str, Iff.rfl, fun _ => rfl, fun x y => by show (x == y) = _; first | exact Bool.beq_eq_decide_eq x y | exact beq_eq_decide x y, fun _ _ => rfl, fun x y => inj_dec ⟨V.str.inj, congrArg _⟩⟩
def toVO : Option Str → V
  | none => .non
  | some x => .str x
instance : Flat (Option Str) := ⟨toVO, fun {K x v G} => by cases x <;> exact Iff.rfl, fun x => by cases x <;> rfl, fun x y => by
    cases x with
    | none =>
      cases y with
      | none => rfl
      | some y => exact (decide_eq_false (fun h => by cases h)).symm
    | some x =>
      cases y with
      | none => exact (decide_eq_false (fun h => by cases h)).symm
      | some y =>
        show eqV (.str x) (.str y) = _
        rw [show eqV (.str x) (.str y) = decide (x = y) from Flat.eqv x y]
        exact decide_eq_decide.mpr ⟨fun h => by rw [h], fun h => Option.some.inj h⟩, fun x y => by cases x <;> cases y <;> rfl, fun x y => inj_dec ⟨fun h => by
    cases x with
    | none =>
      cases y with
      | none => rfl
      | some y => cases h
    | some x =>
      cases y with
      | none => cases h
      | some y => exact congrArg some (V.str.inj h), fun h => by rw [h]⟩⟩
theorem reps_flat {α : Type} [Rep α] [DecidableEq α] [Flat α] {K : PySem.W.Frag} {G : Hp} : ∀ {l : List α} {vs : List V}, Reps K l vs G → vs = l.map Flat.toV
  | _, _, .nil => rfl
  | x :: l, v :: vs, .cons r t => by
    rw [List.map_cons, ← reps_flat t, (Flat.eq (x := x)).mp r]
theorem reps_of_flat {α : Type} [Rep α] [DecidableEq α] [Flat α] {K : PySem.W.Frag} {G : Hp} : ∀ (l : List α), Reps K l (l.map Flat.toV) G
  | [] => .nil
  | x :: l => .cons (Flat.eq.mpr rfl) (reps_of_flat l)
theorem paired_len {α β : Type} {F : α → β → Prop} : ∀ {l : List α} {m : List β}, Paired F l m → l.length = m.length
  | _, _, .nil => rfl
  | _, _, .cons _ t => congrArg (· + 1) (paired_len t)
theorem paired_get {α β : Type} {F : α → β → Prop} : ∀ {l : List α} {m : List β} {i : Nat} {b : β}, Paired F l m → m[i]? = some b → ∃ a, l[i]? = some a ∧ F a b
  | _, _, i, b, .nil, h => by simp at h
  | x :: l, y :: m, 0, b, .cons r t, h => ⟨x, rfl, by simp at h; rw [← h]; exact r⟩
  | x :: l, y :: m, i + 1, b, .cons r t, h => by
    have h' : m[i]? = some b := by simpa using h
    obtain ⟨a, e, f⟩ := paired_get t h'
    exact ⟨a, by simpa using e, f⟩
theorem paired_get' {α β : Type} {F : α → β → Prop} : ∀ {l : List α} {m : List β} {i : Nat} {a : α}, Paired F l m → l[i]? = some a → ∃ b, m[i]? = some b ∧ F a b
  | _, _, i, b, .nil, h => by simp at h
  | x :: l, y :: m, 0, b, .cons r t, h => ⟨y, rfl, by simp at h; rw [← h]; exact r⟩
  | x :: l, y :: m, i + 1, b, .cons r t, h => by
    have h' : l[i]? = some b := by simpa using h
    obtain ⟨a, e, f⟩ := paired_get' t h'
    exact ⟨a, by simpa using e, f⟩
theorem paired_append {α β : Type} {F : α → β → Prop} : ∀ {l l' : List α} {m m' : List β}, Paired F l m → Paired F l' m' → Paired F (l ++ l') (m ++ m')
  | _, _, _, _, .nil, s => s
  | _, _, _, _, .cons r t, s => .cons r (paired_append t s)
theorem paired_take {α β : Type} {F : α → β → Prop} : ∀ {l : List α} {m : List β} (n : Nat), Paired F l m → Paired F (l.take n) (m.take n)
  | _, _, 0, _ => .nil
  | _, _, _ + 1, .nil => .nil
  | _, _, n + 1, .cons r t => .cons r (paired_take n t)
theorem paired_drop {α β : Type} {F : α → β → Prop} : ∀ {l : List α} {m : List β} (n : Nat), Paired F l m → Paired F (l.drop n) (m.drop n)
  | _, _, 0, r => r
  | _, _, _ + 1, .nil => .nil
  | _, _, n + 1, .cons _ t => paired_drop n t
theorem paired_rev {α β : Type} {F : α → β → Prop} : ∀ {l : List α} {m : List β}, Paired F l m → Paired F l.reverse m.reverse
  | _, _, .nil => .nil
  | x :: l, y :: m, .cons r t => by
    rw [List.reverse_cons, List.reverse_cons]
    exact paired_append (paired_rev t) (.cons r .nil)
theorem atI_pair {α β : Type} {F : α → β → Prop} {l : List α} {m : List β} {i : Int} {a : α} (p : Paired F l m) (h : atI l i = some a) : ∃ b, atI m i = some b ∧ F a b := by
  unfold atI at h ⊢
  rw [← paired_len p]
  cases e : ixN l.length i with
  | none => rw [e] at h; cases h
  | some j =>
    rw [e] at h
    exact paired_get' p h

/-- the two questions, by one word each -/
def eqB {α : Type} [DecidableEq α] (x y : α) : Bool := decide (x = y)
def memB {α : Type} [DecidableEq α] (x : α) (l : List α) : Bool := decide (x ∈ l)
variable [Tb]
/-! ### what an expression is worth -/
abbrev RP := V → Hp → Prop
def EvG (te : TE) (σ : L2.St) (G : Hp) (P : RP) : Prop := ∀ H, Sub G H → ∀ Q : VK, (∀ v G' H', Grow G H G' H' → P v G' → Q v H') → te σ H Q
def EvR {α : Type} [Rep α] (K : PySem.W.Frag) (te : TE) (σ : L2.St) (G : Hp) (x : α) : Prop := EvG te σ G (rep K x)
def EvB (tt : TT) (σ : L2.St) (G : Hp) (b : Bool) : Prop := ∀ H, Sub G H → ∀ Q : Bool → Hp → Prop, (∀ G' H', Grow G H G' H' → Q b H') → tt σ H Q
/-- arguments, items: told one by one -/
def EvA {α : Type} [Rep α] (K : PySem.W.Frag) (ta : TA) (σ : L2.St) (G : Hp) (l : List α) : Prop := ∀ H, Sub G H → ∀ Q : List V → Hp → Prop, (∀ vs G' H', Grow G H G' H' → Reps K l vs G' → Q vs H') → ta σ H Q
/-- nothing is made: the heap stands -/
theorem grow_up {G G' H G2 H2 : Hp} (a : Grow G H G2 H2) (e : Same G G') (s : Sub G' H) : Grow G' H (jn G2 G') H2 := by
  have s2 : Sub G' H2 := s.keep a.h a.s.t
  exact ⟨jn_r a.s.get s2.get, jn_s a.s s2, a.h, fun b o hb hn => jn_none (a.f b o hb (e.free hn)) hn⟩
section
variable {α β γ : Type} [Rep α] [Rep β] [Rep γ] {K : PySem.W.Frag} {σ : L2.St} {G G' : Hp} {te ta tb tc : TE} {tt tu : TT} {x : α} {y : β} {z : γ} {b c : Bool} {i : Nat} {v : V} {ts tr : TA}
theorem EvR.mono (h : EvR K te σ G x) (e : Same G G') : EvR K te σ G' x := fun H s Q q => h H (un e s) Q fun v G2 H2 gr r => q v _ H2 (grow_up gr e s) (up (jn_l G2 G') r)
theorem EvB.mono (h : EvB tt σ G b) (e : Same G G') : EvB tt σ G' b := fun H s Q q => h H (un e s) Q fun G2 H2 gr => q _ H2 (grow_up gr e s)
theorem EvA.mono {l : List α} (h : EvA K ts σ G l) (e : Same G G') : EvA K ts σ G' l := fun H s Q q => h H (un e s) Q fun v G2 H2 gr r => q v _ H2 (grow_up gr e s) (r.up (jn_l G2 G'))
theorem EvR.to {x' : α} (h : EvR K te σ G x) (e : x = x') : EvR K te σ G x' := e ▸ h
theorem EvB.to (h : EvB tt σ G b) (e : b = c) : EvB tt σ G c := e ▸ h
theorem ev_var (h : σ[i]? = some (some v)) (r : rep K x v G) : EvR K (tVar i) σ G x := fun H e Q q => ⟨v, h, q v G H (Grow.refl e) r⟩
theorem ev_c (r : rep K x v G) : EvR K (tC v) σ G x := fun H e Q q => q v G H (Grow.refl e) r
theorem ev_int {n : Int} : EvR K (tC (.int n)) σ G n := ev_c rfl
theorem ev_str {n : Str} : EvR K (tC (.str n)) σ G n := ev_c rfl
theorem ev_bl {n : Bool} : EvR K (tC (.bl n)) σ G n := ev_c rfl
theorem ev_non : EvR K (tC .non) σ G (none : Option α) := ev_c (show repO K (none : Option α) V.non G from rfl)
theorem ev_some (h : EvR K te σ G x) : EvR K te σ G (some x) := h
/-- two operands -/
theorem ev_op {r : R2} (ha : EvR K ta σ G x) (hb : EvR K tb σ G y)
    (hr : ∀ v w G1 H1, Same G G1 → Sub G1 H1 → rep K x v G1 → rep K y w G1 → ∀ Q : VK, (∀ u G2 H2, Grow G1 H1 G2 H2 → rep K z u G2 → Q u H2) → r v w H1 Q) : EvR K (tOp r ta tb) σ G z := fun H e Q q =>
  ha H e _ fun v G1 H1 g1 r1 => hb.mono g1.g H1 g1.s _ fun w G2 H2 g2 r2 => hr v w G2 H2 (g1.g.trans g2.g) g2.s (up g2.g r1) r2 Q fun u G3 H3 g3 r3 => q u G3 H3 ((g1.trans g2).trans g3) r3
theorem ev_I0 {g : Int → Int → Int} {m n : Int} (ha : EvR K ta σ G m) (hb : EvR K tb σ G n) : EvR K (tOp (rI0 fun i j => .int (g i j)) ta tb) σ G (g m n) :=
  ev_op ha hb fun v w G1 H1 _ s hv hw Q q => ⟨m, n, hv, hw, q _ G1 H1 (Grow.refl s) rfl⟩
theorem ev_B0 {g : Int → Int → Bool} {m n : Int} (ha : EvR K ta σ G m) (hb : EvR K tb σ G n) : EvR K (tOp (rI0 fun i j => .bl (g i j)) ta tb) σ G (g m n) :=
  ev_op ha hb fun v w G1 H1 _ s hv hw Q q => ⟨m, n, hv, hw, q _ G1 H1 (Grow.refl s) rfl⟩
theorem ev_I {C : Int → Int → Prop} {g : Int → Int → Int} {m n : Int} (ha : EvR K ta σ G m) (hb : EvR K tb σ G n) (hc : C m n) : EvR K (tOp (rI C fun i j => .int (g i j)) ta tb) σ G (g m n) :=
  ev_op ha hb fun v w G1 H1 _ s hv hw Q q => ⟨m, n, hv, hw, hc, q _ G1 H1 (Grow.refl s) rfl⟩
theorem ev_add {m n : Int} (ha : EvR K ta σ G m) (hb : EvR K tb σ G n) : EvR K (tOp (rI0 fun i j => .int (i + j)) ta tb) σ G (m + n) := ev_I0 (g := fun i j => i + j) ha hb
theorem ev_sub {m n : Int} (ha : EvR K ta σ G m) (hb : EvR K tb σ G n) : EvR K (tOp (rI0 fun i j => .int (i - j)) ta tb) σ G (m - n) := ev_I0 (g := fun i j => i - j) ha hb
theorem ev_mul {m n : Int} (ha : EvR K ta σ G m) (hb : EvR K tb σ G n) (hc : CMul m n) : EvR K (tOp (rI CMul fun i j => .int (i * j)) ta tb) σ G (m * n) := ev_I (g := fun i j => i * j) ha hb hc
theorem ev_mod {m n : Int} (ha : EvR K ta σ G m) (hb : EvR K tb σ G n) (hc : 0 < n) : EvR K (tOp (rI (fun _ j => 0 < j) fun i j => .int (i % j)) ta tb) σ G (m % n) := ev_I (g := fun i j => i % j) (C := fun _ j => 0 < j) ha hb hc
theorem ev_fdiv {m n : Int} (ha : EvR K ta σ G m) (hb : EvR K tb σ G n) (hc : CDiv m n) : EvR K (tOp (rI CDiv fun i j => .int (i / j)) ta tb) σ G (m / n) := ev_I (g := fun i j => i / j) ha hb hc
theorem ev_pow {m n : Int} (ha : EvR K ta σ G m) (hb : EvR K tb σ G n) (hc : CPow m n) : EvR K (tOp (rI CPow fun i j => .int (i ^ j.toNat)) ta tb) σ G (m ^ n.toNat) := ev_I (g := fun i j => i ^ j.toNat) ha hb hc
theorem ev_lt {m n : Int} (ha : EvR K ta σ G m) (hb : EvR K tb σ G n) : EvR K (tOp (rI0 fun i j => .bl (decide (i < j))) ta tb) σ G (decide (m < n)) := ev_B0 (g := fun i j => decide (i < j)) ha hb
theorem ev_le {m n : Int} (ha : EvR K ta σ G m) (hb : EvR K tb σ G n) : EvR K (tOp (rI0 fun i j => .bl (decide (i ≤ j))) ta tb) σ G (decide (m ≤ n)) := ev_B0 (g := fun i j => decide (i ≤ j)) ha hb
theorem ev_gt {m n : Int} (ha : EvR K ta σ G m) (hb : EvR K tb σ G n) : EvR K (tOp (rI0 fun i j => .bl (decide (j < i))) ta tb) σ G (decide (n < m)) := ev_B0 (g := fun i j => decide (j < i)) ha hb
theorem ev_ge {m n : Int} (ha : EvR K ta σ G m) (hb : EvR K tb σ G n) : EvR K (tOp (rI0 fun i j => .bl (decide (j ≤ i))) ta tb) σ G (decide (n ≤ m)) := ev_B0 (g := fun i j => decide (j ≤ i)) ha hb
theorem ev_neg {m : Int} (ha : EvR K ta σ G m) : EvR K (tUn (rU fun i => .int (-i)) ta) σ G (-m) := fun H e Q q => ha H e _ fun v G1 H1 g1 r1 => ⟨m, r1, q _ G1 H1 g1 rfl⟩
/-- == != of things told by their value -/
theorem ev_eq {δ : Type} [Rep δ] [DecidableEq δ] [Flat δ] {m n : δ} (ha : EvR K ta σ G m) (hb : EvR K tb σ G n) : EvR K (tOp rEq ta tb) σ G (eqB m n) :=
  ev_op ha hb fun v w G1 H1 _ s hv hw Q q => by
    rw [Flat.eq.mp hv, Flat.eq.mp hw]
    refine ⟨Flat.sc m n, q _ G1 H1 (Grow.refl s) ?_⟩
    rw [Flat.inj m n]
    rfl
theorem ev_ne {δ : Type} [Rep δ] [DecidableEq δ] [Flat δ] {m n : δ} (ha : EvR K ta σ G m) (hb : EvR K tb σ G n) : EvR K (tOp rNe ta tb) σ G (!eqB m n) :=
  ev_op ha hb fun v w G1 H1 _ s hv hw Q q => by
    rw [Flat.eq.mp hv, Flat.eq.mp hw]
    refine ⟨Flat.sc m n, q _ G1 H1 (Grow.refl s) ?_⟩
    rw [Flat.inj m n]
    rfl
theorem ev_isN {o : Option α} (hn : ∀ v G, (∃ x : α, rep K x v G) → v ≠ .non) (ha : EvR K ta σ G o) : EvR K (tOp (fun x y H Q => y = .non ∧ Q (.bl (decide (x = .non))) H) ta (tC .non)) σ G o.isNone := fun H e Q q =>
  ha H e _ fun v G1 H1 g1 r1 => ⟨rfl, q _ G1 H1 g1 (by
    cases o with
    | none =>
      have e : v = V.non := r1
      rw [e]
      rfl
    | some x => exact congrArg V.bl (decide_eq_false (hn v G1 ⟨x, r1⟩)))⟩
theorem ev_notN {o : Option α} (hn : ∀ v G, (∃ x : α, rep K x v G) → v ≠ .non) (ha : EvR K ta σ G o) : EvR K (tOp (fun x y H Q => y = .non ∧ Q (.bl (!decide (x = .non))) H) ta (tC .non)) σ G o.isSome := fun H e Q q =>
  ha H e _ fun v G1 H1 g1 r1 => ⟨rfl, q _ G1 H1 g1 (by
    cases o with
    | none =>
      have e : v = V.non := r1
      rw [e]
      rfl
    | some x => exact congrArg V.bl (by rw [decide_eq_false (hn v G1 ⟨x, r1⟩)]; rfl))⟩
omit [Tb] in
theorem nn_str {K : PySem.W.Frag} : ∀ (v : V) (G : Hp), (∃ x : Str, rep K x v G) → v ≠ .non := fun v G ⟨x, h⟩ => by rw [show v = V.str x from h]; intro z; cases z
omit [Tb] in
theorem nn_int {K : PySem.W.Frag} : ∀ (v : V) (G : Hp), (∃ x : Int, rep K x v G) → v ≠ .non := fun v G ⟨x, h⟩ => by rw [show v = V.int x from h]; intro z; cases z
omit [Tb] in
theorem nn_pair {K : PySem.W.Frag} : ∀ (v : V) (G : Hp), (∃ x : α × β, rep K x v G) → v ≠ .non := fun v G ⟨x, a, y, w, h, _⟩ => by rw [h]; intro z; cases z
/-- texts -/
theorem ev_addS {m n : Str} (ha : EvR K ta σ G m) (hb : EvR K tb σ G n) (hl : m.length + n.length ≤ sizeLine) :
    EvR K (tOp (fun x y H Q => ∃ i j, x = .str i ∧ y = .str j ∧ i.length + j.length ≤ sizeLine ∧ Q (.str (i ++ j)) H) ta tb) σ G (m ++ n) :=
  ev_op ha hb fun v w G1 H1 _ s hv hw Q q => ⟨m, n, hv, hw, hl, q _ G1 H1 (Grow.refl s) rfl⟩
theorem ev_leS {m n : Str} (ha : EvR K ta σ G m) (hb : EvR K tb σ G n) :
    EvR K (tOp (fun x y H Q => ∃ i j, x = .str i ∧ y = .str j ∧ Q (.bl (!decide (j.cps.toList < i.cps.toList))) H) ta tb) σ G (!decide (n.cps.toList < m.cps.toList)) :=
  ev_op ha hb fun v w G1 H1 _ s hv hw Q q => ⟨m, n, hv, hw, q _ G1 H1 (Grow.refl s) rfl⟩
/-- a <= b <= c -/
theorem ev_chain {r r' : R2} {u : Bool} (ha : EvR K ta σ G x) (hb : EvR K tb σ G y) (hr : ∀ v w G1 H1, Same G G1 → Sub G1 H1 → rep K x v G1 → rep K y w G1 → ∀ Q : VK, (∀ G2 H2, Grow G1 H1 G2 H2 → Q (.bl b) H2) → r v w H1 Q)
    (hc : b = true → EvR K tc σ G z) (hr2 : ∀ v w G1 H1, Same G G1 → Sub G1 H1 → rep K y v G1 → rep K z w G1 → ∀ Q : VK, (∀ G2 H2, Grow G1 H1 G2 H2 → Q (.bl u) H2) → r' v w H1 Q) : EvR K (tChain r r' ta tb tc) σ G (b && u) := fun H e Q q =>
  ha H e _ fun v G1 H1 g1 r1 => hb.mono g1.g H1 g1.s _ fun w G2 H2 g2 r2 => hr v w G2 H2 (g1.g.trans g2.g) g2.s (up g2.g r1) r2 _ fun G3 H3 g3 => ⟨b, rfl, by
    cases b with
    | true =>
      refine iteT ?_
      have g := (g1.trans g2).trans g3
      refine (hc rfl).mono g.g H3 g.s _ fun w' G4 H4 g4 r4 => ?_
      exact hr2 w w' G4 H4 (g.g.trans g4.g) g4.s (up (g3.g.trans g4.g) r2) r4 Q fun G5 H5 g5 => q _ G5 H5 ((g.trans g4).trans g5) rfl
    | false =>
      refine iteF ?_
      exact q _ G3 H3 ((g1.trans g2).trans g3) rfl⟩
/-- tests -/
theorem et_test (h : EvR K te σ G b) : EvB (tTest te) σ G b := fun H e Q q => h H e _ fun v G1 H1 g1 r1 => ⟨b, r1, q G1 H1 g1⟩
theorem et_B (h : EvR K te σ G b) : EvB (tB te) σ G b := fun H e Q q => h H e _ fun v G1 H1 g1 r1 => ⟨b, r1, q G1 H1 g1⟩
theorem et_and (h1 : EvB tt σ G b) (h2 : b = true → EvB tu σ G c) : EvB (tAnd tt tu) σ G (b && c) := fun H e Q q => h1 H e _ fun G1 H1 g1 => by
  cases b with
  | true => exact iteT ((h2 rfl).mono g1.g H1 g1.s Q fun G2 H2 g2 => q G2 H2 (g1.trans g2))
  | false => exact iteF (q G1 H1 g1)
theorem et_or (h1 : EvB tt σ G b) (h2 : b = false → EvB tu σ G c) : EvB (tOr tt tu) σ G (b || c) := fun H e Q q => h1 H e _ fun G1 H1 g1 => by
  cases b with
  | true => exact iteT (q G1 H1 g1)
  | false => exact iteF ((h2 rfl).mono g1.g H1 g1.s Q fun G2 H2 g2 => q G2 H2 (g1.trans g2))
theorem et_not (h : EvB tt σ G b) : EvB (tNot tt) σ G (!b) := fun H e Q q => h H e _ q
theorem ev_andV (h1 : EvR K ta σ G b) (h2 : b = true → EvR K tb σ G c) : EvR K (tAndV ta tb) σ G (b && c) := fun H e Q q => h1 H e _ fun v G1 H1 g1 r1 => ⟨b, r1, by
  cases b with
  | true => exact iteT ((h2 rfl).mono g1.g H1 g1.s Q fun v G2 H2 g2 r2 => q v G2 H2 (g1.trans g2) r2)
  | false => exact iteF (q _ G1 H1 g1 rfl)⟩
theorem ev_orV (h1 : EvR K ta σ G b) (h2 : b = false → EvR K tb σ G c) : EvR K (tOrV ta tb) σ G (b || c) := fun H e Q q => h1 H e _ fun v G1 H1 g1 r1 => ⟨b, r1, by
  cases b with
  | true => exact iteT (q _ G1 H1 g1 rfl)
  | false => exact iteF ((h2 rfl).mono g1.g H1 g1.s Q fun v G2 H2 g2 r2 => q v G2 H2 (g1.trans g2) r2)⟩
theorem ev_notV (h1 : EvR K ta σ G b) : EvR K (tNotV ta) σ G (!b) := fun H e Q q => h1 H e _ fun v G1 H1 g1 r1 => ⟨b, r1, q _ G1 H1 g1 rfl⟩
theorem ev_if (h : EvB tt σ G b) {x' : α} (h1 : b = true → EvR K ta σ G x) (h2 : b = false → EvR K tb σ G x') : EvR K (tIf tt ta tb) σ G (cond b x x') := fun H e Q q => h H e _ fun G1 H1 g1 => by
  cases b with
  | true => exact iteT ((h1 rfl).mono g1.g H1 g1.s Q fun v G2 H2 g2 r2 => q v G2 H2 (g1.trans g2) r2)
  | false => exact iteF ((h2 rfl).mono g1.g H1 g1.s Q fun v G2 H2 g2 r2 => q v G2 H2 (g1.trans g2) r2)
/-- arguments -/
theorem ea_nil : EvA K tNil σ G ([] : List α) := fun H e Q q => q [] G H (Grow.refl e) .nil
theorem ea_cons {l : List α} (h : EvR K te σ G x) (hr : EvA K tr σ G l) : EvA K (tCons te tr) σ G (x :: l) := fun H e Q q =>
  h H e _ fun v G1 H1 g1 r1 => hr.mono g1.g H1 g1.s _ fun vs G2 H2 g2 r2 => q (v :: vs) G2 H2 (g1.trans g2) (.cons (up g2.g r1) r2)
theorem ea_star {l m : List α} (h : EvR K te σ G l) (hr : EvA K tr σ G m) : EvA K (StX.tStar K te tr) σ G (l ++ m) := fun H e Q q =>
  h H e _ fun v G1 H1 g1 ⟨a, xs, ev, ha, r1⟩ => ⟨a, xs, ev, .inr (SqL.of (g1.s _ _ ha)), hr.mono g1.g H1 g1.s _ fun vs G2 H2 g2 r2 => q (xs ++ vs) G2 H2 (g1.trans g2) (paired_append (r1.up g2.g) r2)⟩
theorem ev_lst {l : List α} (h : EvA K ts σ G l) (hl : l.length ≤ sizeLine) : EvR K (tLst ts) σ G l := fun H e Q q =>
  h H e _ fun vs G1 H1 g1 r1 => ⟨by rw [← paired_len r1]; exact hl, fun p hp => q _ _ _ (g1.trans (Grow.new g1.s hp)) ⟨p, vs, rfl, upd_same, r1.up (same_upd (g1.s.free hp))⟩⟩
theorem ev_tpl {l : List α} (h : EvA K ts σ G l) (hl : l.length ≤ sizeLine) : EvR K (tTup ts) σ G (Tpl.mk l) := fun H e Q q =>
  h H e _ fun vs G1 H1 g1 r1 => ⟨by rw [← paired_len r1]; exact hl, fun p hp => q _ _ _ (g1.trans (Grow.new g1.s hp)) ⟨p, vs, rfl, SqT.of upd_same, r1.up (same_upd (g1.s.free hp))⟩⟩
theorem ev_tup2 (ha : EvR K ta σ G x) (hb : EvR K tb σ G y) : EvR K (tTup (tCons ta (tCons tb tNil))) σ G (x, y) := fun H e Q q =>
  ha H e _ fun v G1 H1 g1 r1 => hb.mono g1.g H1 g1.s _ fun w G2 H2 g2 r2 => ⟨by show 2 ≤ sizeLine; decide, fun p hp => q _ _ _ ((g1.trans g2).trans (Grow.new g2.s hp))
    ⟨p, v, w, rfl, SqT.of upd_same, up (g2.g.trans (same_upd (g2.s.free hp))) r1, up (same_upd (g2.s.free hp)) r2⟩⟩
/-- items, slices -/
theorem ev_ixL {l : List α} {n : Int} (ha : EvR K ta σ G l) (hb : EvR K tb σ G n) (h : atI l n = some x) : EvR K (tOp (rIxL K) ta tb) σ G x :=
  ev_op ha hb fun v w G1 H1 _ s ⟨a, xs, ev, hA, r⟩ hw Q q => by
    obtain ⟨u, h1, h2⟩ := atI_pair r h
    exact ⟨a, xs, n, u, ev, hw, SqL.of (s _ _ hA), h1, q u G1 H1 (Grow.refl s) h2⟩
theorem ev_ixT {l : Tpl α} {n : Int} (ha : EvR K ta σ G l) (hb : EvR K tb σ G n) (h : atI l.l n = some x) : EvR K (tOp (rIxT K) ta tb) σ G x :=
  ev_op ha hb fun v w G1 H1 _ s ⟨a, xs, ev, hA, r⟩ hw Q q => by
    obtain ⟨u, h1, h2⟩ := atI_pair r h
    exact ⟨a, xs, n, u, ev, hw, sqT_mono s.get hA, h1, q u G1 H1 (Grow.refl s) h2⟩
theorem ev_ix20 {p : α × β} (ha : EvR K ta σ G p) : EvR K (tOp (rIxT K) ta (tC (.int 0))) σ G p.1 :=
  ev_op (y := (0 : Int)) ha ev_int fun v w G1 H1 _ s ⟨a, x, y, ev, hA, r1, r2⟩ hw Q q => ⟨a, [x, y], 0, x, ev, hw, sqT_mono s.get hA, rfl, q x G1 H1 (Grow.refl s) r1⟩
theorem ev_ix21 {p : α × β} (ha : EvR K ta σ G p) : EvR K (tOp (rIxT K) ta (tC (.int 1))) σ G p.2 :=
  ev_op (y := (1 : Int)) ha ev_int fun v w G1 H1 _ s ⟨a, x, y, ev, hA, r1, r2⟩ hw Q q => ⟨a, [x, y], 1, y, ev, hw, sqT_mono s.get hA, rfl, q y G1 H1 (Grow.refl s) r2⟩
theorem ev_ixS {z : Str} {n : Int} {c : Nat} (ha : EvR K ta σ G z) (hb : EvR K tb σ G n) (hl : z.length ≤ sizeLine) (h : atI z.cps.toList n = some c) : EvR K (tOp rIxS ta tb) σ G (Str.mk #[c]) :=
  ev_op ha hb fun v w G1 H1 _ s hv hw Q q => ⟨z, n, c, hv, hw, hl, h, q _ G1 H1 (Grow.refl s) rfl⟩
theorem ev_ixScr {z : Scr} {n m : Int} (ha : EvR K ta σ G z) (hb : EvR K tb σ G n) (h : atI z.l n = some m) : EvR K (tOp (rIxL K) ta tb) σ G m :=
  ev_op ha hb fun v w G1 H1 _ s ⟨a, ev, hA⟩ hw Q q => by
    have h2 : atI (z.l.map V.int) n = some (V.int m) := by
      unfold atI at h ⊢
      rw [List.length_map]
      cases e : ixN z.l.length n with
      | none => rw [e] at h; cases h
      | some j =>
        rw [e] at h
        show (z.l.map V.int)[j]? = some (V.int m)
        rw [List.getElem?_map, show z.l[j]? = some m from h]
        rfl
    exact ⟨a, _, n, _, ev, hw, sqL_mono s.get hA, h2, q _ G1 H1 (Grow.refl s) rfl⟩
def cutL {δ : Type} (xs : List δ) (lo hi : Option Int) : List δ := (xs.drop (HT.sIx xs.length 0 lo)).take (HT.sIx xs.length xs.length hi - HT.sIx xs.length 0 lo)
omit [Tb] in
theorem cut_pair {δ ε : Type} {F : δ → ε → Prop} {l : List δ} {m : List ε} (lo hi : Option Int) (p : Paired F l m) : Paired F (cutL l lo hi) (cutL m lo hi) := by
  unfold cutL
  rw [← paired_len p]
  exact paired_take _ (paired_drop _ p)
def EvO (K : PySem.W.Frag) (to : TO) (σ : L2.St) (G : Hp) (o : Option Int) : Prop := ∀ H, Sub G H → ∀ Q : Option Int → Hp → Prop, (∀ G' H', Grow G H G' H' → Q o H') → to σ H Q
theorem eo_none : EvO K tNoPart σ G none := fun H e Q q => q G H (Grow.refl e)
theorem eo_some {n : Int} (h : EvR K te σ G n) : EvO K (tPart te) σ G (some n) := fun H e Q q => h H e _ fun v G1 H1 g1 r1 => ⟨n, r1, q G1 H1 g1⟩
theorem EvO.mono {to : TO} {o : Option Int} (h : EvO K to σ G o) (e : Same G G') : EvO K to σ G' o := fun H s Q q => h H (un e s) Q fun G2 H2 gr => q _ H2 (grow_up gr e s)
theorem ev_slL {l : List α} {tl th : TO} {lo hi : Option Int} (ha : EvR K ta σ G l) (hl : EvO K tl σ G lo) (hh : EvO K th σ G hi) : EvR K (tSl (rSlL K) ta tl th) σ G (cutL l lo hi) := fun H e Q q =>
  ha H e _ fun v G1 H1 g1 r1 => hl.mono g1.g H1 g1.s _ fun G2 H2 g2 => hh.mono (g1.g.trans g2.g) H2 g2.s _ fun G3 H3 g3 => by
    obtain ⟨a, xs, ev, hA, r⟩ := up (g2.g.trans g3.g) r1
    exact ⟨a, xs, ev, SqL.of (g3.s _ _ hA), fun p hp => q _ _ _ (((g1.trans g2).trans g3).trans (Grow.new g3.s hp)) ⟨p, cutL xs lo hi, rfl, upd_same, Reps.up (same_upd (g3.s.free hp)) (cut_pair lo hi r)⟩⟩
theorem ev_slS {l : Str} {tl th : TO} {lo hi : Option Int} (ha : EvR K ta σ G l) (hl : EvO K tl σ G lo) (hh : EvO K th σ G hi) (hz : l.length ≤ sizeLine) : EvR K (tSl rSlS ta tl th) σ G (cutS l lo hi) := fun H e Q q =>
  ha H e _ fun v G1 H1 g1 r1 => hl.mono g1.g H1 g1.s _ fun G2 H2 g2 => hh.mono (g1.g.trans g2.g) H2 g2.s _ fun G3 H3 g3 => ⟨l, r1, hz, q _ G3 H3 ((g1.trans g2).trans g3) rfl⟩
theorem ev_revL {l : List α} (ha : EvR K ta σ G l) : EvR K (L2.tRevL K ta) σ G l.reverse := fun H e Q q =>
  ha H e _ fun v G1 H1 g1 ⟨a, xs, ev, hA, r⟩ => ⟨a, xs, ev, SqL.of (g1.s _ _ hA), fun p hp => q _ _ _ (g1.trans (Grow.new g1.s hp)) ⟨p, xs.reverse, rfl, upd_same, Reps.up (same_upd (g1.s.free hp)) (paired_rev r)⟩⟩
theorem ev_cat {l m : List α} (ha : EvR K ta σ G l) (hb : EvR K tb σ G m) (hl : l.length + m.length ≤ sizeLine) : EvR K (tOp rCat ta tb) σ G (l ++ m) :=
  ev_op ha hb fun v w G1 H1 _ s ⟨a, xs, ev, hA, r⟩ ⟨b, ys, ew, hB, r'⟩ Q q => ⟨a, b, xs, ys, ev, ew, s _ _ hA, s _ _ hB, by rw [← paired_len r, ← paired_len r']; exact hl, fun p hp =>
    q _ _ _ (Grow.new s hp) ⟨p, xs ++ ys, rfl, upd_same, paired_append (r.up (same_upd (s.free hp))) (r'.up (same_upd (s.free hp)))⟩⟩
omit [Tb] in
/-- in -/
theorem inV_flat {δ : Type} [Rep δ] [DecidableEq δ] [Flat δ] {x : δ} : ∀ {l : List δ}, inV (Flat.toV x) (l.map Flat.toV) = decide (x ∈ l)
  | [] => by simp [inV]
  | y :: l => by
    have ih := inV_flat (x := x) (l := l)
    unfold inV at ih ⊢
    rw [List.map_cons, List.any_cons, ih, Flat.eqv y x]
    by_cases h : y = x
    · subst h
      simp
    · have h' : x ≠ y := fun e => h e.symm
      simp [h, h']
omit [Tb] in
theorem flat_all {δ : Type} [Rep δ] [DecidableEq δ] [Flat δ] {l : List δ} : (l.map Flat.toV).all flatV = true := by
  rw [List.all_map, List.all_eq_true]
  intro y _
  exact Flat.flat y
theorem ev_inL {δ : Type} [Rep δ] [DecidableEq δ] [Flat δ] {x : δ} {l : List δ} (ha : EvR K ta σ G x) (hb : EvR K tb σ G l) : EvR K (tOp (rIn K false) ta tb) σ G (memB x l) :=
  ev_op ha hb fun v w G1 H1 _ s hv ⟨b, ys, ew, hB, r⟩ Q q => by
    have e1 := Flat.eq.mp hv
    have e2 := reps_flat r
    subst e1
    subst e2
    refine ⟨b, _, ew, .inl (SqL.of (s _ _ hB)), Flat.flat x, flat_all, ?_⟩
    rw [if_neg Bool.false_ne_true, inV_flat]
    exact q _ G1 H1 (Grow.refl s) rfl
theorem ev_inT {δ : Type} [Rep δ] [DecidableEq δ] [Flat δ] {x : δ} {l : Tpl δ} (ha : EvR K ta σ G x) (hb : EvR K tb σ G l) : EvR K (tOp (rIn K false) ta tb) σ G (memB x l.l) :=
  ev_op ha hb fun v w G1 H1 _ s hv ⟨b, ys, ew, hB, r⟩ Q q => by
    have e1 := Flat.eq.mp hv
    have e2 := reps_flat r
    subst e1
    subst e2
    refine ⟨b, _, ew, .inr (sqT_mono s.get hB), Flat.flat x, flat_all, ?_⟩
    rw [if_neg Bool.false_ne_true, inV_flat]
    exact q _ G1 H1 (Grow.refl s) rfl
/-- len -/
theorem ev_len1 {r : List V → Hp → VK → Prop} {n : Nat} (ha : EvR K ta σ G x) (hr : ∀ v G1 H1, Sub G1 H1 → rep K x v G1 → ∀ Q : VK, Q (.int n) H1 → r [v] H1 Q) : EvR K (tCB r (tCons ta tNil)) σ G (n : Int) := fun H e Q q =>
  ha H e _ fun v G1 H1 g1 r1 => hr v G1 H1 g1.s r1 Q (q _ G1 H1 g1 rfl)
abbrev rLen (K : PySem.W.Frag) : List V → Hp → VK → Prop := fun xs H Q => ∃ x n, xs = [x] ∧ LenV K x H n ∧ Q (.int n) H
theorem ev_lenL {l : List α} (ha : EvR K ta σ G l) : EvR K (tCB (rLen K) (tCons ta tNil)) σ G (l.length : Int) :=
  ev_len1 ha fun v G1 H1 s ⟨a, xs, ev, hA, r⟩ Q q => ⟨v, l.length, rfl, by rw [ev]; exact .inl ⟨xs, SqL.of (s _ _ hA), paired_len r⟩, q⟩
theorem ev_lenT {l : Tpl α} (ha : EvR K ta σ G l) : EvR K (tCB (rLen K) (tCons ta tNil)) σ G (l.l.length : Int) :=
  ev_len1 ha fun v G1 H1 s ⟨a, xs, ev, hA, r⟩ Q q => ⟨v, l.l.length, rfl, by rw [ev]; exact .inr ⟨xs, sqT_mono s.get hA, paired_len r⟩, q⟩
theorem ev_lenScr {l : Scr} (ha : EvR K ta σ G l) : EvR K (tCB (rLen K) (tCons ta tNil)) σ G (l.l.length : Int) :=
  ev_len1 ha fun v G1 H1 s ⟨a, ev, hA⟩ Q q => ⟨v, l.l.length, rfl, by rw [ev]; exact .inl ⟨_, sqL_mono s.get hA, by rw [List.length_map]⟩, q⟩
theorem ev_lenS {l : Str} (ha : EvR K ta σ G l) (hl : l.length ≤ sizeLine) : EvR K (tCB (rLen K) (tCons ta tNil)) σ G (l.length : Int) :=
  ev_len1 ha fun v G1 H1 s hv Q q => ⟨v, l.length, rfl, by rw [show v = V.str l from hv]; exact ⟨hl, rfl⟩, q⟩
/-- int(n), str(n) -/
theorem ev_int1 {n : Int} (ha : EvR K ta σ G n) : EvR K (tCB (fun xs H Q => (∃ i, xs = [.int i] ∧ Q (.int i) H) ∨ ∃ k, xs = [.bl k] ∧ Q (.int (if k then 1 else 0)) H) (tCons ta tNil)) σ G n := fun H e Q q =>
  ha H e _ fun v G1 H1 g1 r1 => .inl ⟨n, by rw [show v = V.int n from r1], q _ G1 H1 g1 rfl⟩
theorem ev_strI {n : Int} (ha : EvR K ta σ G n) (hn : n.natAbs.log2 < 1920) : EvR K (tCB (fun xs H Q => ∃ i, xs = [.int i] ∧ i.natAbs.log2 < 1920 ∧ Q (.str (toString i)) H) (tCons ta tNil)) σ G (PySem.Str.ofString (toString n)) := fun H e Q q =>
  ha H e _ fun v G1 H1 g1 r1 => ⟨n, by rw [show v = V.int n from r1], hn, q _ G1 H1 g1 rfl⟩
theorem ev_listL {l : List α} (ha : EvR K ta σ G l) : EvR K (tCB (fun xs H Q => ∃ p ys, xs = [.ref p] ∧ (SqL K H p ys ∨ SqT K H p ys) ∧ ∀ l, H l = none → Q (.ref l) (upd H l (.lst ys))) (tCons ta tNil)) σ G l := fun H e Q q =>
  ha H e _ fun v G1 H1 g1 ⟨a, xs, ev, hA, r⟩ => ⟨a, xs, by rw [ev], .inl (SqL.of (g1.s _ _ hA)), fun p hp => q _ _ _ (g1.trans (Grow.new g1.s hp)) ⟨p, xs, rfl, upd_same, r.up (same_upd (g1.s.free hp))⟩⟩
/-- methods of texts -/
theorem ev_m0 {f : Str → Str} {C : Str → Prop} {s : Str} (ha : EvR K ta σ G s) (hc : C s) : EvR K (tM0 (fun x xs H Q => ∃ a, x = .str a ∧ xs = [] ∧ C a ∧ Q (.str (f a)) H) ta) σ G (f s) := fun H e Q q =>
  ha H e _ fun v G1 H1 g1 r1 => ⟨⟨s, r1⟩, s, r1, rfl, hc, q _ G1 H1 g1 rfl⟩
theorem ev_lower {s : Str} (ha : EvR K ta σ G s) (hc : s.length ≤ 5592405) : EvR K (tM0 (fun x xs H Q => ∃ a, x = .str a ∧ xs = [] ∧ a.length ≤ 5592405 ∧ Q (.str (Txt.lower a)) H) ta) σ G (Txt.lower s) := ev_m0 (f := Txt.lower) (C := fun a => a.length ≤ 5592405) ha hc
theorem ev_upper {s : Str} (ha : EvR K ta σ G s) (hc : s.length ≤ 5592405) : EvR K (tM0 (fun x xs H Q => ∃ a, x = .str a ∧ xs = [] ∧ a.length ≤ 5592405 ∧ Q (.str (Txt.upper a)) H) ta) σ G (Txt.upper s) := ev_m0 (f := Txt.upper) (C := fun a => a.length ≤ 5592405) ha hc
theorem ev_split {s t : Str} (ha : EvR K ta σ G s) (hb : EvR K tb σ G t) (h1 : (t.length == 0) = false) (h2 : s.length + 2 ≤ sizeLine) :
    EvR K (tM1 (fun x xs H Q => ∃ a b, x = .str a ∧ xs = [.str b] ∧ (b.length == 0) = false ∧ a.length + 2 ≤ sizeLine ∧ rNewStrs (Txt.split a b) H Q) ta tb) σ G (Txt.split s t) := fun H e Q q =>
  ha H e _ fun v G1 H1 g1 r1 => ⟨⟨s, r1⟩, hb.mono g1.g H1 g1.s _ fun w G2 H2 g2 r2 => ⟨s, t, r1, by rw [show w = V.str t from r2], h1, h2, fun p hp =>
    q _ _ _ ((g1.trans g2).trans (Grow.new g2.s hp)) ⟨p, _, rfl, upd_same, reps_of_flat (Txt.split s t)⟩⟩⟩
theorem ev_join {s : Str} {l : List Str} (ha : EvR K ta σ G s) (hb : EvR K tb σ G l) (h : (l.map (·.length)).sum + l.length * s.length ≤ 16777216) :
    EvR K (tM1 (fun x xs H Q => ∃ a p, ∃ ys : List Str, x = .str a ∧ xs = [.ref p] ∧ (SqL K H p (ys.map V.str) ∨ SqT K H p (ys.map V.str)) ∧ (ys.map (·.length)).sum + ys.length * a.length ≤ 16777216 ∧ Q (.str (Txt.join a ys)) H) ta tb) σ G (Txt.join s l) := fun H e Q q =>
  ha H e _ fun v G1 H1 g1 r1 => ⟨⟨s, r1⟩, hb.mono g1.g H1 g1.s _ fun w G2 H2 g2 ⟨a, xs, ev, hA, r2⟩ => ⟨s, a, l, r1, by rw [ev], .inl (by
    have e := reps_flat r2
    subst e
    exact SqL.of (g2.s _ _ hA)), h, q _ G2 H2 (g1.trans g2) rfl⟩⟩
end

/-! ### what a def keeps -/
section
variable {α β γ δ ρ : Type} [Rep α] [Rep β] [Rep γ] [Rep δ] [Rep ρ]
def sp1 (K : PySem.W.Frag) (pre : α → Prop) (f : α → ρ) : Sp := fun vs H Q _ => ∃ x v G, vs = [v] ∧ Sub G H ∧ rep K x v G ∧ pre x ∧ ∀ u G' H', Grow G H G' H' → rep K (f x) u G' → Q u H'
def sp2 (K : PySem.W.Frag) (pre : α → β → Prop) (f : α → β → ρ) : Sp := fun vs H Q _ => ∃ x y v w G, vs = [v, w] ∧ Sub G H ∧ rep K x v G ∧ rep K y w G ∧ pre x y ∧ ∀ u G' H', Grow G H G' H' → rep K (f x y) u G' → Q u H'
def sp3 (K : PySem.W.Frag) (pre : α → β → γ → Prop) (f : α → β → γ → ρ) : Sp := fun vs H Q _ => ∃ x y z v w u G, vs = [v, w, u] ∧ Sub G H ∧ rep K x v G ∧ rep K y w G ∧ rep K z u G ∧ pre x y z ∧ ∀ r G' H', Grow G H G' H' → rep K (f x y z) r G' → Q r H'
def sp0 (K : PySem.W.Frag) (f : ρ) : Sp := fun vs H Q _ => vs = [] ∧ ∃ G, Sub G H ∧ ∀ u G' H', Grow G H G' H' → rep K f u G' → Q u H'
variable {K : PySem.W.Frag} {σ : L2.St} {G : Hp} {ta tb tc : TE} {E : XK}
theorem ev_call1 {x : α} {pre : α → Prop} {f : α → ρ} (ha : EvR K ta σ G x) (hp : pre x) : EvR K (tCall (sp1 K pre f) [] E (tCons ta tNil)) σ G (f x) := fun H e Q q =>
  ha H e _ fun v G1 H1 g1 r1 => ⟨x, v, G1, rfl, g1.s, r1, hp, fun u G2 H2 g2 r2 => q u G2 H2 (g1.trans g2) r2⟩
theorem ev_call2 {x : α} {y : β} {pre : α → β → Prop} {f : α → β → ρ} (ha : EvR K ta σ G x) (hb : EvR K tb σ G y) (hp : pre x y) : EvR K (tCall (sp2 K pre f) [] E (tCons ta (tCons tb tNil))) σ G (f x y) := fun H e Q q =>
  ha H e _ fun v G1 H1 g1 r1 => hb.mono g1.g H1 g1.s _ fun w G2 H2 g2 r2 => ⟨x, y, v, w, G2, rfl, g2.s, up g2.g r1, r2, hp, fun u G3 H3 g3 r3 => q u G3 H3 ((g1.trans g2).trans g3) r3⟩
theorem ev_call3 {x : α} {y : β} {z : γ} {pre : α → β → γ → Prop} {f : α → β → γ → ρ} (ha : EvR K ta σ G x) (hb : EvR K tb σ G y) (hc : EvR K tc σ G z) (hp : pre x y z) :
    EvR K (tCall (sp3 K pre f) [] E (tCons ta (tCons tb (tCons tc tNil)))) σ G (f x y z) := fun H e Q q =>
  ha H e _ fun v G1 H1 g1 r1 => hb.mono g1.g H1 g1.s _ fun w G2 H2 g2 r2 => hc.mono (g1.g.trans g2.g) H2 g2.s _ fun u G3 H3 g3 r3 =>
    ⟨x, y, z, v, w, u, G3, rfl, g3.s, up (g2.g.trans g3.g) r1, up g3.g r2, r3, hp, fun u G4 H4 g4 r4 => q u G4 H4 (((g1.trans g2).trans g3).trans g4) r4⟩
theorem ev_call0 {f : ρ} : EvR K (tCall (sp0 K f) [] E tNil) σ G f := fun H e Q q => ⟨rfl, G, e, fun u G' H' g r => q u G' H' g r⟩
end

/-! ### statements -/
section
variable {α β : Type} [Rep α] [Rep β] {K : PySem.W.Frag} {σ : L2.St} {G H : Hp} {te ta tl : TE} {tt : TT} {t u tb : TS} {D : Ends} {x : α} {b : Bool} {i j : Nat} {a : Addr}
theorem s_seq (h : t { D with nx := u D } σ H) : tSeq t u D σ H := h
theorem s_next (h : D.nx σ H) : tNext D σ H := h
theorem s_asg (e : Sub G H) (h : EvR K te σ G x) (k : ∀ v G' H', Grow G H G' H' → rep K x v G' → D.nx (σ.set i (some v)) H') : tAsg te (gName i) D σ H := h H e _ k
theorem s_drop (e : Sub G H) (h : EvR K te σ G x) (k : ∀ G' H', Grow G H G' H' → D.nx σ H') : tDrop te D σ H := h H e _ fun _ G' H' g _ => k G' H' g
theorem s_ret (e : Sub G H) (h : EvR K te σ G x) (k : ∀ v G' H', Grow G H G' H' → rep K x v G' → D.rt v H') : tRet te D σ H := h H e _ k
theorem s_if (e : Sub G H) (h : EvB tt σ G b) (k1 : b = true → ∀ G' H', Grow G H G' H' → t D σ H') (k2 : b = false → ∀ G' H', Grow G H G' H' → u D σ H') : tIfS tt t u D σ H := h H e _ fun G' H' g => by
  cases b with
  | true => exact iteT (k1 rfl G' H' g)
  | false => exact iteF (k2 rfl G' H' g)
/-- a new list that is still to be filled -/
theorem s_new (k : ∀ p, H p = none → D.nx (σ.set i (some (.ref p))) (upd H p (.lst []))) : tAsg (tLst tNil) (gName i) D σ H := ⟨Nat.zero_le _, fun p hp => k p hp⟩
theorem s_app {xs : List V} (e : Sub G H) (hi : σ[i]? = some (some (.ref a))) (ha : H a = some (.lst xs)) (hz : xs.length < sizeLine) (h : EvR K te σ G x)
    (k : ∀ v G' H', Grow G H G' H' → rep K x v G' → D.nx σ (upd H' a (.lst (xs ++ [v])))) : tDrop (tBM K "list" rAppend (tVar i) (tCons te tNil)) D σ H :=
  ⟨.ref a, hi, .inl ⟨rfl, xs, SqL.of ha⟩, h H e _ fun v G' H' g r => ⟨a, xs, v, rfl, rfl, g.h.l ha, hz, k v G' H' g r⟩⟩
/-- the same, told of the def's entry -/
theorem s_newF {Ge He : Hp} (gr : Grow Ge He G H) (k : ∀ p H2, He p = none → G p = none → H p = none → H2 p = some (.lst []) → Grow Ge He G H2 → Kept H H2 → D.nx (σ.set i (some (.ref p))) H2) : tAsg (tLst tNil) (gName i) D σ H :=
  s_new fun p hp => k p _ (gr.h.free hp) (gr.s.free hp) hp upd_same (gr.loose hp) (kept_upd hp)
theorem s_appF {Ge He : Hp} {xs : List V} {l : List α} (gr : Grow Ge He G H) (hF : He a = none) (hN : G a = none) (hi : σ[i]? = some (some (.ref a))) (ha : H a = some (.lst xs)) (hl : Reps K l xs G) (hz : l.length < sizeLine) (h : EvR K te σ G x)
    (k : ∀ G' H' H2 zs, Grow G H G' H' → Grow Ge He G' H2 → G' a = none → H2 a = some (.lst zs) → Reps K (l ++ [x]) zs G' → (∀ b, b ≠ a → H2 b = H' b) → D.nx σ H2) : tDrop (tBM K "list" rAppend (tVar i) (tCons te tNil)) D σ H :=
  s_app gr.s hi ha (by rw [← paired_len hl]; exact hz) h fun v G' H' g r => k G' H' _ _ g ((gr.trans g).mut hF (g.f _ _ ha hN) (lst_no (g.h.l ha))) (g.f _ _ ha hN) upd_same (paired_append (hl.up g.g) (.cons r .nil)) fun b hb => upd_ne hb
omit [Tb] in
theorem fix_rep {zs : List V} {l : List α} (r : Reps K l zs G) (n : G a = none) : rep K l (V.ref a) (upd G a (.lst zs)) := ⟨a, zs, rfl, upd_same, Reps.up (same_upd n) r⟩
/-- loops -/
theorem s_forL {l : List α} {g : TG} (e : Sub G H) (h : EvR K tl σ G l) (k : ∀ G1 H1 xs, Grow G H G1 H1 → Reps K l xs G1 → ∃ Pv : Nat → L2.St → Hp → Prop, Pv 0 σ H1 ∧ (∀ i σ' H', Pv i σ' H' → Sub G1 H') ∧
    (∀ i x v σ' H', l[i]? = some x → rep K x v G1 → Pv i σ' H' → g v σ' H' fun σ2 H2 => tb { D with nx := Pv (i + 1), ct := Pv (i + 1), bk := D.nx } σ2 H2) ∧ ∀ σ' H', Pv l.length σ' H' → D.nx σ' H') : tFor (iList K tl) g tb D σ H :=
  h H e _ fun v G1 H1 g1 ⟨a, xs, ev, hA, r⟩ => by
    obtain ⟨Pv, p0, ps, pt, pe⟩ := k G1 H1 xs g1 r
    refine ⟨a, ev, ⟨xs, SqL.of (g1.s _ _ hA)⟩, for_list (K := K) (a := a) (xs := xs) Pv p0 (fun i σ' H' _ p => SqL.of (ps i σ' H' p _ _ hA)) (fun i v σ' H' hi p => ?_) fun σ' H' p => pe σ' H' (by rw [paired_len r]; exact p)⟩
    obtain ⟨x, hx, rx⟩ := paired_get r hi
    exact pt i x v σ' H' hx rx p
theorem s_forT {l : Tpl α} {g : TG} (e : Sub G H) (h : EvR K tl σ G l) (k : ∀ G1 H1 xs, Grow G H G1 H1 → Reps K l.l xs G1 → ∃ Pv : Nat → L2.St → Hp → Prop, Pv 0 σ H1 ∧ (∀ i σ' H', Pv i σ' H' → Sub G1 H') ∧
    (∀ i x v σ' H', l.l[i]? = some x → rep K x v G1 → Pv i σ' H' → g v σ' H' fun σ2 H2 => tb { D with nx := Pv (i + 1), ct := Pv (i + 1), bk := D.nx } σ2 H2) ∧ ∀ σ' H', Pv l.l.length σ' H' → D.nx σ' H') : tFor (iTup K tl) g tb D σ H :=
  h H e _ fun v G1 H1 g1 ⟨a, xs, ev, hA, r⟩ => by
    obtain ⟨Pv, p0, ps, pt, pe⟩ := k G1 H1 xs g1 r
    refine ⟨a, ev, ⟨xs, sqT_mono g1.s.get hA⟩, for_tup (K := K) (a := a) (xs := xs) Pv p0 (fun i σ' H' _ p => sqT_mono (ps i σ' H' p).get hA) (fun i v σ' H' hi p => ?_) fun σ' H' p => pe σ' H' (by rw [paired_len r]; exact p)⟩
    obtain ⟨x, hx, rx⟩ := paired_get r hi
    exact pt i x v σ' H' hx rx p
theorem s_forR1 {n : Int} (e : Sub G H) (h : EvR K te σ G n) (hn : -(2 ^ 62) ≤ n ∧ n < 2 ^ 62) (k : ∀ G1 H1, Grow G H G1 H1 → ∃ Pv : Nat → L2.St → Hp → Prop, Pv 0 σ H1 ∧
    (∀ (i : Nat) σ' H', (i : Int) < n → Pv i σ' H' → tb { D with nx := Pv (i + 1), ct := Pv (i + 1), bk := D.nx } (σ'.set j (some (.int (i : Int)))) H') ∧ ∀ σ' H', Pv n.toNat σ' H' → D.nx σ' H') : tFor (iRng1 (tCons te tNil)) (gName j) tb D σ H :=
  h H e _ fun v G1 H1 g1 r => by
    obtain ⟨Pv, p0, pt, pe⟩ := k G1 H1 g1
    refine ⟨n, by rw [show v = V.int n from r], hn.1, hn.2, for_range (lo := 0) (n := n.toNat) Pv p0 (fun i σ' H' hi p => ?_) pe⟩
    show tb _ (σ'.set j (some (.int (0 + (i : Int))))) H'
    rw [Int.zero_add]
    exact pt i σ' H' (by omega) p
theorem s_forR2 {m n : Int} (e : Sub G H) (h : EvR K ta σ G m) (h2 : EvR K te σ G n) (hn : -(2 ^ 62) ≤ m ∧ m < 2 ^ 62 ∧ -(2 ^ 62) ≤ n ∧ n < 2 ^ 62) (k : ∀ G1 H1, Grow G H G1 H1 → ∃ Pv : Nat → L2.St → Hp → Prop, Pv 0 σ H1 ∧
    (∀ (i : Nat) σ' H', m + (i : Int) < n → Pv i σ' H' → tb { D with nx := Pv (i + 1), ct := Pv (i + 1), bk := D.nx } (σ'.set j (some (.int (m + (i : Int))))) H') ∧ ∀ σ' H', Pv (n - m).toNat σ' H' → D.nx σ' H') : tFor (iRng2 (tCons ta (tCons te tNil))) (gName j) tb D σ H :=
  h H e _ fun v G1 H1 g1 r => (h2.mono g1.g) H1 g1.s _ fun v2 G2 H2 g2 r2 => by
    obtain ⟨Pv, p0, pt, pe⟩ := k G2 H2 (g1.trans g2)
    refine ⟨m, n, by rw [show v = V.int m from r, show v2 = V.int n from r2], hn, for_range (lo := m) (n := (n - m).toNat) Pv p0 (fun i σ' H' hi p => pt i σ' H' (by omega) p) pe⟩
end

/-! ### comprehensions -/
section
variable {α β : Type} [Rep α] [Rep β] {K : PySem.W.Frag} {σ : L2.St} {G H : Hp} {te tl ta : TE} {tt : TT} {j : Nat} {vs : List Nat}
/-- the list at Dl while it is filled -/
def Lc (K : PySem.W.Frag) (G1 H1 : Hp) (Dl : Addr) (ys : List β) (H' : Hp) : Prop := ∃ G' zs, Grow G1 H1 G' H' ∧ G' Dl = none ∧ H' Dl = some (.lst zs) ∧ Reps K ys zs G'
theorem lc_start {G1 H1 : Hp} {Dl : Addr} (s : Sub G1 H1) (h : H1 Dl = none) : Lc (β := β) K G1 H1 Dl [] (upd H1 Dl (.lst [])) := ⟨G1, [], (Grow.refl s).loose h, s.free h, upd_same, .nil⟩
theorem lc_end {G1 H1 H' : Hp} {Dl : Addr} {ys : List β} (h : H1 Dl = none) (p : Lc K G1 H1 Dl ys H') : ∃ G', Grow G1 H1 G' H' ∧ rep K ys (V.ref Dl) G' := by
  obtain ⟨G', zs, g, n, e, r⟩ := p
  exact ⟨upd G' Dl (.lst zs), g.fix h n e, Dl, zs, rfl, upd_same, r.up (same_upd n)⟩
theorem lc_turn {G1 H1 H' : Hp} {Dl : Addr} {ys : List β} {σ2 : L2.St} {b : Bool} {y : β} (h : H1 Dl = none) (p : Lc K G1 H1 Dl ys H') (hl : ys.length < sizeLine) (ht : EvB tt σ2 G1 b) (he : b = true → EvR K te σ2 G1 y) {N : Hp → Prop}
    (hN : ∀ H2, Lc K G1 H1 Dl (cond b (ys ++ [y]) ys) H2 → N H2) :
    tt σ2 H' fun b H3 => if b = true then te σ2 H3 fun y H4 => ∃ acc, H4 Dl = some (.lst acc) ∧ acc.length < sizeLine ∧ N (upd H4 Dl (.lst (acc ++ [y]))) else N H3 := by
  obtain ⟨G', zs, g, n, e, r⟩ := p
  refine ht.mono g.g H' g.s _ fun G3 H3 g3 => ?_
  have g13 := g.trans g3
  have n3 : G3 Dl = none := g3.f _ _ e n
  cases b with
  | true =>
    refine iteT ?_
    refine (he rfl).mono g13.g H3 g13.s _ fun v G4 H4 g4 r4 => ?_
    have e4 := g4.h.l (g3.h.l e)
    have n4 : G4 Dl = none := g4.f _ _ (g3.h.l e) n3
    exact ⟨zs, e4, by rw [← paired_len r]; exact hl, hN _ ⟨G4, zs ++ [v], (g13.trans g4).mut h n4 (lst_no e4), n4, upd_same, paired_append (r.up (g3.g.trans g4.g)) (.cons r4 .nil)⟩⟩
  | false =>
    refine iteF (hN _ ⟨G3, zs, g13, n3, g3.h.l e, r.up g3.g⟩)
omit [Tb] in
theorem take_snoc {α : Type} {l : List α} {i : Nat} {x : α} (h : l[i]? = some x) : l.take (i + 1) = l.take i ++ [x] := by
  rw [List.take_add_one, h]
  rfl
omit [Tb] in
theorem filt_snoc {α β : Type} (f : α → Bool) (g : α → β) (l : List α) (x : α) : ((l ++ [x]).filter f).map g = cond (f x) ((l.filter f).map g ++ [g x]) ((l.filter f).map g) := by
  rw [List.filter_append, List.map_append]
  cases h : f x with
  | true => simp [h]
  | false => simp [h]
theorem ev_lcL {l : List α} {g : TG} (f : α → Bool) (h : α → β) (hl : EvR K tl σ G l) (hz : l.length < sizeLine)
    (ht : ∀ x v G' H', Same G G' → Sub G' H' → x ∈ l → rep K x v G' → ∀ (P : L2.St → Hp → Prop), (∀ σ2, wipe σ2 vs = wipe σ vs → EvB tt σ2 G' (f x) → (f x = true → EvR K te σ2 G' (h x)) → P σ2 H') → g v (wipe σ vs) H' P) :
    EvR K (tLc (iList K tl) g tt te vs) σ G ((l.filter f).map h) := fun H e Q q =>
  hl H e _ fun v G1 H1 g1 ⟨a, xs, ev, hA, r⟩ => ⟨a, ev, ⟨xs, SqL.of (g1.s _ _ hA)⟩, fun Dl hD =>
    lc_list (K := K) (a := a) (xs := xs) (fun i H' => Lc K G1 H1 Dl (((l.take i).filter f).map h) H') (lc_start g1.s hD) (fun i H' _ ⟨G', zs, g, _, _, _⟩ => SqL.of (g.s _ _ (g.g _ _ hA))) (fun i v H' hi p => by
      obtain ⟨x, hx, rx⟩ := paired_get r hi
      obtain ⟨G', zs, g', n', e', r'⟩ := id p
      refine ht x v G1 H' g1.g (un g'.g g'.s) (List.mem_of_getElem? hx) rx _ fun σ2 hw hb he => ⟨hw, ?_⟩
      refine lc_turn hD p ?_ hb he fun H2 p2 => ?_
      · rw [List.length_map]
        exact Nat.lt_of_le_of_lt (Nat.le_trans (List.length_filter_le _ _) (by rw [List.length_take]; exact Nat.min_le_right _ _)) hz
      · rw [take_snoc hx, filt_snoc]
        exact p2) fun H' p => by
      obtain ⟨G', g', r'⟩ := lc_end hD p
      refine q _ G' H' (g1.trans g') ?_
      rw [show l = l.take xs.length by rw [← paired_len r, List.take_length]]
      exact r'⟩
theorem ev_lcT {l : Tpl α} {g : TG} (f : α → Bool) (h : α → β) (hl : EvR K tl σ G l) (hz : l.l.length < sizeLine)
    (ht : ∀ x v G' H', Same G G' → Sub G' H' → x ∈ l.l → rep K x v G' → ∀ (P : L2.St → Hp → Prop), (∀ σ2, wipe σ2 vs = wipe σ vs → EvB tt σ2 G' (f x) → (f x = true → EvR K te σ2 G' (h x)) → P σ2 H') → g v (wipe σ vs) H' P) :
    EvR K (tLc (iTup K tl) g tt te vs) σ G ((l.l.filter f).map h) := fun H e Q q =>
  hl H e _ fun v G1 H1 g1 ⟨a, xs, ev, hA, r⟩ => ⟨a, ev, ⟨xs, sqT_mono g1.s.get hA⟩, fun Dl hD =>
    lc_tup (K := K) (a := a) (xs := xs) (fun i H' => Lc K G1 H1 Dl (((l.l.take i).filter f).map h) H') (lc_start g1.s hD) (fun i H' _ ⟨G', zs, g, _, _, _⟩ => sqT_mono (un g.g g.s).get hA) (fun i v H' hi p => by
      obtain ⟨x, hx, rx⟩ := paired_get r hi
      obtain ⟨G', zs, g', n', e', r'⟩ := id p
      refine ht x v G1 H' g1.g (un g'.g g'.s) (List.mem_of_getElem? hx) rx _ fun σ2 hw hb he => ⟨hw, ?_⟩
      refine lc_turn hD p ?_ hb he fun H2 p2 => ?_
      · rw [List.length_map]
        exact Nat.lt_of_le_of_lt (Nat.le_trans (List.length_filter_le _ _) (by rw [List.length_take]; exact Nat.min_le_right _ _)) hz
      · rw [take_snoc hx, filt_snoc]
        exact p2) fun H' p => by
      obtain ⟨G', g', r'⟩ := lc_end hD p
      refine q _ G' H' (g1.trans g') ?_
      rw [show l.l = l.l.take xs.length by rw [← paired_len r, List.take_length]]
      exact r'⟩
/-- the ints of range(n), of range(m, n) -/
def rgs (m n : Int) : List Int := (List.range (n - m).toNat).map fun (i : Nat) => m + (i : Int)
omit [Tb] in
theorem rgs_snoc (m : Int) (i : Nat) : ((List.range (i + 1)).map fun (i : Nat) => m + (i : Int)) = ((List.range i).map fun (i : Nat) => m + (i : Int)) ++ [m + (i : Int)] := by
  rw [List.range_succ, List.map_append]
  rfl
omit [Tb] in
theorem mem_rgs {m n x : Int} : x ∈ rgs m n ↔ m ≤ x ∧ x < n := by
  unfold rgs
  rw [List.mem_map]
  constructor
  · rintro ⟨i, hi, rfl⟩
    have := List.mem_range.mp hi
    omega
  · intro h
    exact ⟨(x - m).toNat, List.mem_range.mpr (by omega), by omega⟩
theorem lc_rgs {G1 H1 : Hp} {σ : L2.St} {g : TG} {Dl : Addr} {m n : Int} (f : Int → Bool) (h : Int → β) (hs : Sub G1 H1) (hD : H1 Dl = none) (hz : (n - m).toNat < sizeLine) {Qd : Hp → Prop}
    (ht : ∀ x H', m ≤ x → x < n → Sub G1 H' → ∀ (P : L2.St → Hp → Prop), (∀ σ2, wipe σ2 vs = wipe σ vs → EvB tt σ2 G1 (f x) → (f x = true → EvR K te σ2 G1 (h x)) → P σ2 H') → g (.int x) (wipe σ vs) H' P)
    (hd : ∀ G' H', Grow G1 H1 G' H' → rep K (((rgs m n).filter f).map h) (V.ref Dl) G' → Qd H') :
    ∃ W : Nat → Nat → Hp → Prop, (∃ m, W 0 m (upd H1 Dl (.lst []))) ∧ ∀ i k H, W i k H →
      ((Itr m (n - m).toNat).stop i H ∧ Qd H) ∨ ((Itr m (n - m).toNat).go i H ∧ ∃ Nx : Hp → Prop, (∀ H', Nx H' → ∃ m', m' < k ∧ W (i + 1) m' H') ∧ ∀ x H', (Itr m (n - m).toNat).yld i H x H' → g x (wipe σ vs) H' fun σ2 H2 => wipe σ2 vs = wipe σ vs ∧ tt σ2 H2 fun b H3 =>
        if b = true then te σ2 H3 fun y H4 => ∃ acc, H4 Dl = some (.lst acc) ∧ acc.length < sizeLine ∧ Nx (upd H4 Dl (.lst (acc ++ [y]))) else Nx H3) :=
  lc_range (lo := m) (n := (n - m).toNat) (fun i H' => Lc K G1 H1 Dl ((((List.range i).map fun (i : Nat) => m + (i : Int)).filter f).map h) H') (lc_start hs hD) (fun i H' hi p => by
      obtain ⟨G', zs, g', n', e', r'⟩ := id p
      refine ht (m + (i : Int)) H' (by omega) (by omega) (un g'.g g'.s) _ fun σ2 hw hb he => ⟨hw, ?_⟩
      refine lc_turn hD p ?_ hb he fun H2 p2 => ?_
      · rw [List.length_map]
        exact Nat.lt_of_le_of_lt (Nat.le_trans (List.length_filter_le _ _) (by rw [List.length_map, List.length_range]; omega)) hz
      · rw [rgs_snoc, filt_snoc]
        exact p2) fun H' p => by
      obtain ⟨G', g', r'⟩ := lc_end hD p
      exact hd G' H' g' r'
theorem ev_lcR1 {n : Int} {g : TG} (f : Int → Bool) (h : Int → β) (hl : EvR K te σ G n) (hn : n < 16777216 ∧ -16777216 < n) {tf : TE}
    (ht : ∀ x G' H', 0 ≤ x → x < n → Same G G' → Sub G' H' → ∀ (P : L2.St → Hp → Prop), (∀ σ2, wipe σ2 vs = wipe σ vs → EvB tt σ2 G' (f x) → (f x = true → EvR K tf σ2 G' (h x)) → P σ2 H') → g (.int x) (wipe σ vs) H' P) :
    EvR K (tLc (iRng1 (tCons te tNil)) g tt tf vs) σ G (((rgs 0 n).filter f).map h) := fun H e Q q =>
  hl H e _ fun v G1 H1 g1 r => ⟨n, by rw [show v = V.int n from r], by omega, by omega, fun Dl hD => by
    have hh := lc_rgs (K := K) (tt := tt) (te := tf) (vs := vs) (σ := σ) (g := g) (m := 0) (n := n) f h g1.s hD (by rw [sizeLine_eq]; omega) (Qd := fun H' => Q (.ref Dl) H') (fun x H' h1 h2 s P k => ht x G1 H' h1 h2 g1.g s P k) (fun G' H' g' r' => q _ G' H' (g1.trans g') r')
    rw [Int.sub_zero] at hh
    exact hh⟩
theorem ev_lcR2 {m n : Int} {g : TG} (f : Int → Bool) (h : Int → β) (hl : EvR K ta σ G m) (hh : EvR K te σ G n) (hn : -16777216 < m ∧ m < 16777216 ∧ n < 16777216 ∧ -16777216 < n ∧ n - m < 16777216) {tf : TE}
    (ht : ∀ x G' H', m ≤ x → x < n → Same G G' → Sub G' H' → ∀ (P : L2.St → Hp → Prop), (∀ σ2, wipe σ2 vs = wipe σ vs → EvB tt σ2 G' (f x) → (f x = true → EvR K tf σ2 G' (h x)) → P σ2 H') → g (.int x) (wipe σ vs) H' P) :
    EvR K (tLc (iRng2 (tCons ta (tCons te tNil))) g tt tf vs) σ G (((rgs m n).filter f).map h) := fun H e Q q =>
  hl H e _ fun v G1 H1 g1 r => hh.mono g1.g H1 g1.s _ fun v2 G2 H2 g2 r2 => ⟨m, n, by rw [show v = V.int m from r, show v2 = V.int n from r2], by omega, fun Dl hD =>
    lc_rgs (K := K) (tt := tt) (te := tf) (vs := vs) (σ := σ) (g := g) (m := m) (n := n) f h g2.s hD (by rw [sizeLine_eq]; omega) (Qd := fun H' => Q (.ref Dl) H') (fun x H' h1 h2 s P k => ht x G2 H' h1 h2 (g1.g.trans g2.g) s P k) (fun G' H' g' r' => q _ G' H' ((g1.trans g2).trans g') r')⟩
theorem eb_yes : EvB tYes σ G true := fun H e Q q => q G H (Grow.refl e)
end
end RL

set_option Elab.async false
set_option linter.all false
set_option maxRecDepth 100000
set_option maxHeartbeats 4000000
namespace RL
open PySem PySem.Spec PyProof.Rows L2
open Rep (rep)
/-! ### set(l), l a list of texts, of any length below the scan's bound; its size -/
/-- each text once -/
def once : List Str → List Str
  | [] => []
  | x :: l => if x ∈ l then once l else x :: once l
theorem once_mem {y : Str} : ∀ {l : List Str}, y ∈ once l ↔ y ∈ l
  | [] => Iff.rfl
  | x :: l => by
    unfold once
    by_cases h : x ∈ l
    · rw [if_pos h, once_mem (l := l), List.mem_cons]
      exact ⟨.inr, fun e => e.elim (fun q => q ▸ h) id⟩
    · rw [if_neg h, List.mem_cons, List.mem_cons, once_mem (l := l)]
theorem once_le : ∀ l : List Str, (once l).length ≤ l.length
  | [] => Nat.le_refl _
  | x :: l => by
    unfold once
    have := once_le l
    by_cases h : x ∈ l
    · rw [if_pos h, List.length_cons]; omega
    · rw [if_neg h, List.length_cons, List.length_cons]; omega
theorem once_lt : ∀ {l : List Str}, (once l).length < l.length ↔ ¬ l.Nodup
  | [] => by simp [once]
  | x :: l => by
    unfold once
    have h0 := once_le l
    rw [List.nodup_cons]
    by_cases h : x ∈ l
    · rw [if_pos h, List.length_cons]
      exact ⟨fun _ q => q.1 h, fun _ => by omega⟩
    · rw [if_neg h, List.length_cons, List.length_cons]
      have ih := once_lt (l := l)
      constructor
      · intro q r
        exact ih.mp (by omega) r.2
      · intro q
        have : ¬ l.Nodup := fun r => q ⟨h, r⟩
        have := ih.mpr this
        omega
/-- read from the left: the count behind i items -/
def onceN (l : List Str) (i : Nat) : Nat := (once (l.take i).reverse).length
theorem onceN_zero (l : List Str) : onceN l 0 = 0 := by simp [onceN, once]
theorem onceN_succ {l : List Str} {i : Nat} {x : Str} (h : l[i]? = some x) : onceN l (i + 1) = if decide (x ∈ l.take i) = true then onceN l i else onceN l i + 1 := by
  unfold onceN
  rw [take_snoc h, List.reverse_append, List.reverse_cons, List.reverse_nil, List.nil_append, List.singleton_append]
  by_cases q : x ∈ l.take i
  · rw [if_pos (decide_eq_true q)]
    show (if x ∈ (l.take i).reverse then _ else _ : List Str).length = _
    rw [if_pos (List.mem_reverse.mpr q)]
  · rw [if_neg (by simpa using q)]
    show (if x ∈ (l.take i).reverse then _ else _ : List Str).length = _
    rw [if_neg (fun z => q (List.mem_reverse.mp z))]
    rfl
theorem onceN_le (l : List Str) (i : Nat) : onceN l i ≤ i := by
  have h := once_le (l.take i).reverse
  rw [List.length_reverse, List.length_take] at h
  unfold onceN
  omega
theorem onceN_all {l : List Str} : onceN l l.length < l.length ↔ ¬ l.Nodup := by
  unfold onceN
  rw [List.take_length]
  have h := once_lt (l := l.reverse)
  rw [List.length_reverse] at h
  have e : l.reverse.Nodup ↔ l.Nodup := by
    unfold List.Nodup
    rw [List.pairwise_reverse]
    exact ⟨fun q => q.imp fun z => Ne.symm z, fun q => q.imp fun z => Ne.symm z⟩
  rw [e] at h
  exact h
section
variable {prog : Program} {w : World} {A : Around} {R : Result → Shared → Prop} {it : Addr} {seen made : List Addr} {G : Array GenState → Array GenState → Prop} {n : Nat} {P : Nat → Value → Prop} {St : Nat → Shared → Prop}
theorem set_at {h h' : Heap} {a : Addr} {S : Str → Bool} {c : Nat} (q : h.SetOf (PySem.strKind prog w) a S c) (k : ∀ o, h.get? a = some o → h'.get? a = some o) : h'.SetOf (PySem.strKind prog w) a S c := by
  obtain ⟨o, es, ep, t, ho, r⟩ := q
  exact ⟨o, es, ep, t, k o ho, r⟩
/-- the loop that puts the texts in, from the i-th on -/
theorem set_fill (W : WalksS prog w A.in1 it seen made G n P St) (b : Addr) (hb : b ∉ seen) (l : List Str) (hn : l.length = n) (room : n + 1 < scanBound) (val : ∀ i v, P i v → ∃ x t, l[i]? = some x ∧ v = .str x t) (m : Nat) : ∀ (i : Nat) (s : Shared), n - i = m → i ≤ n → St i s →
      s.heap.SetOf (PySem.strKind prog w) b (fun y => decide (y ∈ l.take i)) (onceN l i) →
      (∀ s', Moved (b :: made) G s s' → s'.heap.SetOf (PySem.strKind prog w) b (fun y => decide (y ∈ l.take n)) (onceN l n) → R (.ok (.ret .none)) s') →
      codeAny (model prog w) A (.builtin "set.update.loop" ⟨[.ref b, .ref it], []⟩) R s := by
  have b_made : b ∉ made := fun z => hb (W.sub _ z)
  have more : ∀ c ∈ made, c ∈ b :: made := fun _ z => .tail _ z
  induction m with
  | zero =>
    intro i s em hi st hset fin
    obtain rfl : i = n := by omega
    refine codeAny_builtin F.entry_set_update_loop ?_; rw [Around.under_plainId F.plain_set_update_loop _]
    show wpAny _ A.in1 (pyNext (.ref it) >>= _) _ _ s; refine wpAny_bind (W.done s _ _ st fun s1 mv => ?_)
    show wpAny _ A.in1 (ret Value.none) _ _ s1; exact wpAny_pure (fin s1 (mv.mono more) (set_at hset fun o e => mv.heap b o b_made e))
  | succ m ih =>
    intro i s em hi st hset fin
    have lt : i < n := by omega
    refine codeAny_builtin F.entry_set_update_loop ?_; rw [Around.under_plainId F.plain_set_update_loop _]
    show wpAny _ A.in1 (pyNext (.ref it) >>= _) _ _ s; refine wpAny_bind (W.item i s _ _ lt st fun v s1 pv st1 mv => ?_)
    obtain ⟨x, t, hx, rfl⟩ := val i v pv
    have hset1 := set_at hset fun o e => mv.heap b o b_made e
    show wpAny _ A.in1 (holding [Value.str x t] (setAdd b (.str x t)) >>= _) _ _ s1
    refine wpAny_bind (wpAny_holding ?_); unfold setAdd; refine wpAny_holding (wpAny_bind ((PySem.strKind prog w).pyHash (k := x) (strKind_is _ _ _ _) ?_))
    have le := onceN_le l i
    refine wpAny_setAddHashed_of (knd := PySem.strKind prog w) (s := { s1 with toks := s1.toks + 1 }) (strKind_is _ _ _ _) rfl hset1 (by omega) fun h2 only hset2 => ?_
    have hset3 : h2.SetOf (PySem.strKind prog w) b (fun y => decide (y ∈ l.take (i + 1))) (onceN l (i + 1)) := by
      rw [onceN_succ hx]
      refine PyProof.Rows.SetOf_congr hset2 (fun y => ?_) rfl
      rw [take_snoc hx]
      by_cases e : y = x
      · simp [e]
      · simp [e]
    refine wpAny_pure ⟨plainId_quiet F.plain_set_update_loop _, ih (i + 1) _ (by omega) lt (W.frame _ s1 _ _ st1 (Nat.le_succ _) fun c hc o e => (only.2 c (fun z : c = b => hb (z ▸ hc))).trans e) hset3 fun s3 mv3 hset4 => ?_⟩
    exact fin s3 (Moved.trans W.gtrans ((mv.mono more).then_heap (Nat.le_succ _) fun c o hc e => (only.2 c (fun z : c = b => hc (z ▸ List.mem_cons_self))).trans e) mv3) hset4
end
section
variable {prog : Program} {w : World} {A : Around} {E : Value → Shared → Prop} {s : Shared}
set_option maxHeartbeats 3200000 in
theorem call_set_texts {l : Addr} {items : Array Value} {xs : List Str} {Q : Value → Shared → Prop} (calm : A.handled = none) (hl : s.heap.IsList l items) (hi : StrsAre items.toList xs) (room : xs.length + 1 < scanBound)
    (fin : ∀ (h' : Heap) (tk : Nat), h'.SetOf (PySem.strKind prog w) s.heap.objs.size (fun y => decide (y ∈ xs)) (onceN xs xs.length) → (∀ b o, b < s.heap.objs.size → s.heap.get? b = some o → h'.get? b = some o) →
      Q (.ref s.heap.objs.size) { s with heap := h', toks := tk }) : wpAny (model prog w) A (call (.type "set") [.ref l]) Q E s := by
  have size : xs.length = items.size := by rw [← PyProof.Rows.StrsAre.len_eq hi, Array.length_toList]
  obtain ⟨c, tl, hmro⟩ := PySem.F.called_set.mro; have hmade := PySem.F.called_set.made; have hsub := PySem.F.called_set.sub
  refine wpAny_call (codeAny_of_tree ?_); show wpAny _ _ (callAny (.type "set") _) _ _ _
  refine wpAny_pure ⟨Code.quiet_builtin _ (by decide +kernel), codeAny_builtin PySem.F.entry_type_call ?_⟩; rw [Around.under_plain (weight_type_call_type "set" [.ref l] []) rfl]
  have k1 := PySem.F.called_set.notType; have k2 := PySem.F.called_set.canCreate; have k3 := PySem.F.typeCall_set_1 (.ref l)
  repeat (any_goals (first | assumption | wp_step))
  obtain ⟨o0, e0⟩ : ∃ o0 : Bool → Obj, o0 = fun led => { cls := .type "set", dict := none, data := .set #[] 0 (.fresh 0 0 led) } := ⟨_, rfl⟩
  refine codeAny_mono (code_set_new_1 (.ref l) (E := E) (Q₁ := fun v s1 => ∃ led : Bool, v = .ref s.heap.objs.size ∧ s1 = { s with heap := s.heap.push { cls := .type "set", dict := none, data := .set #[] 0 (.fresh 0 0 led) } }) fun led => ⟨led, rfl, rfl⟩) fun r s1 hr => ?_
  cases r with
  | error e => exact hr
  | ok fl =>
    cases fl with
    | ret v =>
      obtain ⟨led, rfl, rfl⟩ := hr
      have hnew : (s.heap.push { cls := .type "set", dict := none, data := .set #[] 0 (.fresh 0 0 led) }).get? s.heap.objs.size = some { cls := .type "set", dict := none, data := .set #[] 0 (.fresh 0 0 led) } := Heap.get?_push_size _ rfl
      have hty : Shared.TypeIs { s with heap := s.heap.push { cls := .type "set", dict := none, data := .set #[] 0 (.fresh 0 0 led) } } (.ref s.heap.objs.size) "set" := ⟨_, hnew, rfl⟩
      have k4 := PySem.F.called_set.init.lookup; have k5 := PySem.F.called_set.init.bind (.ref s.heap.objs.size)
      repeat (any_goals (first | assumption | wp_step))
      refine codeAny_mono (codeAny_call_builtin (R := wants (fun r s2 => r = .none ∧ ∃ h' tk, s2 = { s with heap := h', toks := tk } ∧ h'.SetOf (PySem.strKind prog w) s.heap.objs.size (fun y => decide (y ∈ xs)) (onceN xs xs.length) ∧
          (∀ b o, b < s.heap.objs.size → s.heap.get? b = some o → h'.get? b = some o)) E) PySem.F.called_set.init.plain PySem.F.entry_set_init (check_set_init_1 hty ?_)) fun r2 s2 hr2 => ?_
      · obtain ⟨⟨oc, od, oda, osl⟩, ho, hc, nl, hd⟩ := hl
        simp only at hc hd; subst hc hd
        have ho2 : (s.heap.push { cls := .type "set", dict := none, data := .set #[] 0 (.fresh 0 0 led) }).get? l = some { cls := .type "list", dict := od, data := .seq items nl, slots := osl } := Heap.get?_push_of_some _ ho
        have k6 := PySem.F.sub_list_set; have k7 := PySem.F.sub_list_frozenset; have k8 : (Value.type "list" == Value.type "dict") = false := by decide
        have hl2 : (s.heap.push { cls := .type "set", dict := none, data := .set #[] 0 (.fresh 0 0 led) }).IsList l items := ⟨_, ho2, rfl, nl, rfl⟩
        unfold Builtin.«set.__init__» noKeywords Builtin.Frozenset.updateFrom; generalize hpi : pyIter = PI; wp_walk; subst hpi
        refine wpAny_pyIter_list hl2 (wpAny_bind (wpAny_runValue ?_))
        have hlt : l < s.heap.objs.size := Heap.lt_size ho
        have h3 : A.in1.in1.in1.handled = none := by simp [calm]
        have n1 : l ≠ (s.heap.push { cls := .type "set", dict := none, data := .set #[] 0 (.fresh 0 0 led) }).objs.size := by rw [Heap.size_push]; exact Nat.ne_of_lt (Nat.lt_succ_of_lt hlt)
        have n2 : s.heap.objs.size ∉ [(s.heap.push { cls := .type "set", dict := none, data := .set #[] 0 (.fresh 0 0 led) }).objs.size, l] := by
          rw [Heap.size_push]; simp only [List.mem_cons, List.not_mem_nil, or_false, not_or]; exact ⟨Nat.ne_of_lt (Nat.lt_succ_self _), Nat.ne_of_gt hlt⟩
        refine set_fill ((Walks.list h3 _ l n1 items).toS) s.heap.objs.size n2 xs size (by omega) (fun i v hv => ?_) (items.size - 0) 0 _ (by omega) (Nat.zero_le _) ⟨⟨_, Heap.get?_push_size _ rfl, rfl, rfl⟩, (hl2.push _)⟩ ?z0 ?zR
        · have hv2 : items[i]? = some v := hv
          have hlt2 : i < items.size := by
            rw [Array.getElem?_eq_some_iff] at hv2
            exact hv2.1
          obtain ⟨t, et⟩ := SS.strs_at hi i v (by rw [Array.getElem?_toList]; exact hv2)
          refine ⟨xs.getD i Str.empty, t, ?_, et⟩
          rw [List.getD_eq_getElem?_getD, List.getElem?_eq_getElem (by omega : i < xs.length)]
          rfl
        case z0 =>
          have hg : ((s.heap.push { cls := .type "set", dict := none, data := .set #[] 0 (.fresh 0 0 led) }).push { cls := .type "list_iterator", data := .fields #[.ref l, .int 0 0] }).get? s.heap.objs.size = some { cls := .type "set", dict := none, data := .set #[] 0 (.fresh 0 0 led) } := Heap.get?_push_of_some _ hnew
          exact PyProof.Rows.SetOf_congr ((PyProof.Rows.setObjOf_fresh (knd := PySem.strKind prog w) led).setOf hg (by unfold scanBound; omega)) (fun y => by simp) (onceN_zero xs).symm
        case zR =>
          intro s3 mv hset
          rw [← size, List.take_length] at hset
          obtain ⟨h3', g3, d3, t3, os3⟩ := s3
          obtain rfl : g3 = s.gens := mv.gens
          obtain rfl : d3 = s.drawn := mv.drawn
          obtain rfl : os3 = s.os := mv.os
          show wpAny _ _ _ _ _ _; refine wpAny_pure ?_; show wpAny _ _ (ret Value.none) _ _ _
          refine wpAny_pure ⟨rfl, h3', t3, rfl, hset, fun b o hb e => mv.heap b o ?_ (Heap.get?_push_of_some _ (Heap.get?_push_of_some _ e))⟩
          rw [Heap.size_push]; simp only [List.mem_cons, List.not_mem_nil, or_false, not_or]; exact ⟨Nat.ne_of_lt hb, Nat.ne_of_lt (Nat.lt_succ_of_lt hb)⟩
      · cases r2 with
        | error e => exact hr2
        | ok fl2 =>
          cases fl2 with
          | ret r =>
            obtain ⟨rfl, h', tk, rfl, hset, hk⟩ := hr2
            repeat (any_goals (first | assumption | wp_step))
            exact fin _ _ hset hk
          | _ => exact hr2.elim
    | _ => exact hr.elim
end
/-- len(set(xs)), xs a list of texts -/
def tLenSetS (K : PySem.W.Frag) (ta : TE) : TE := fun σ H Q => ta σ H fun x H1 => ∃ l, ∃ xs : List Str, x = .ref l ∧ SqL K H1 l (xs.map V.str) ∧ xs.length + 1 < scanBound ∧ Q (.int (onceN xs xs.length : Nat)) H1
theorem pe_lenSetS {X : Cx} {a : Expr} {ta : TE} {p p2 q pos : Pos} (hc : X.calm = true) (hg : Gl X "len") (hm : X.mg "len" = none) (hg2 : Gl X "set") (hm2 : X.mg "set" = none) (ha : PE X a ta)
    (na : starEach [a] X.env = (false, eval a X.env) :: starEach [] X.env := by rfl) : PE X (.Call (.Name "len" p) [.Call (.Name "set" p2) [a] [] q] [] pos) (tLenSetS X.K ta) := by
  refine ⟨fun pins s σ H Q I h => Call_ (ld_blt I hg hm boot_len (PyProof.Rows.callWith_builtin1 (PyProof.Rows.args_cons (Call_ (ld_blt I hg2 hm2 boot_set ?_)) rfl) rfl rfl))⟩
  refine PyProof.Rows.callWith_type1 (PyProof.Rows.args_cons (thn (ha.run pins s σ H _ I h) fun v s1 ⟨x, H1, I1, r1, l, xs, ex, hq, room, q1⟩ => PyProof.Rows.args_nil ?_) na) na rfl
  subst ex
  cases r1
  obtain ⟨its, r, pl, hz⟩ := I1.list hq
  refine call_set_texts (I1.ok.hd hc) pl.isList (by simpa using strsAre_of r) room fun h' tk hset hk => PyProof.Rows.args_nil ?_
  obtain ⟨o, es, ep, t, ho, hex, hd, _, _, _, hf, hn⟩ := hset
  have I2 : Inv X pins σ H1 { s1 with heap := h', toks := tk } := I1.kept fun b o e => hk b o (Heap.lt_size e) e
  have le := onceN_le xs xs.length
  refine call_len_set ho hex hd hf (by rw [hn]; unfold scanBound at room; omega) ⟨.int (onceN xs xs.length : Nat), H1, I2.tok _, ⟨_, by rw [hn]⟩, q1⟩
theorem ev_lenSetS [Tb] {K : PySem.W.Frag} {σ : L2.St} {G : Hp} {ta : TE} {l : List Str} (ha : EvR K ta σ G l) (hl : l.length + 1 < scanBound) : EvR K (tLenSetS K ta) σ G (onceN l l.length : Int) := fun H e Q q =>
  ha H e _ fun v G1 H1 g1 ⟨a, xs, ev, hA, r⟩ => ⟨a, l, ev, by
    have e2 := reps_flat r
    subst e2
    exact SqL.of (g1.s _ _ hA), hl, q _ G1 H1 g1 rfl⟩
end RL

set_option Elab.async false
set_option linter.all false
set_option maxRecDepth 100000
set_option maxHeartbeats 4000000
namespace RL
open PySem PySem.Spec PyProof.Rows L2
open Rep (rep)
/-! ### own errors: class B(ValueError): pass; class C(B) with an __init__ that calls B.__init__ and stores one field -/
section
variable {X : Cx} {e : Expr} {es : List Expr} {ta : TA} {p p1 p2 pos : Pos}
/-- B.__init__(self, ..), B an own class over ValueError that has none itself -/
theorem pe_baseInit {x : Str} {B : Addr} {mc : Value} {pl : Sem Bool} (hg : Gl X x) (hm : X.mg x = some (.ref B)) (rd : ClX.CRead X.K B mc) (vB : PySem.W.findCls X.K (.ref B) mc "__init__" = some (.val (.builtin "ValueError.__init__"))) (ha : PA X (e :: es) ta)
    (hc : eval (.Call (.Attribute (.Name x p1) "__init__" p2) (e :: es) [] pos) X.env = (do
      let ov ← eval (.Name x p1) X.env
      standAt p2.atName
      let (f, first) ← holding [ov] (getMethod ov "__init__" pl)
      callWith pos f first (backTo pos (starEach (e :: es) X.env)) (backToKw pos (keywordEach [] X.env))) := by rfl)
    (he : starEach (e :: es) X.env = (false, eval e X.env) :: starEach es X.env := by rfl) (hpl : (backTo pos (starEach es X.env)).any (·.1) = false := by rfl) (hdb : (x == ("__debug__" : Str)) = false := by decide) :
    PE X (.Call (.Attribute (.Name x p1) "__init__" p2) (e :: es) [] pos) (tVeI X.K ta) := by
  refine ⟨fun pins s σ H Q I h => PySem.W.methodCall_KW (ld_glob I hg hm ?_ hdb) hc⟩
  refine PySem.W.method_cls I.kIn rd.ga (PySem.W.cls_value I.kIn rd.rd vB rfl ?_)
  show wpAny _ _ (callWith pos (Value.builtin "ValueError.__init__") [] (backTo pos (starEach (e :: es) X.env)) []) _ _ _
  refine PyProof.Rows.callWith_method1 (thn (ha.run pos pins _ σ H _ (I.tok _) h) fun us s1 ⟨vs, H1, I1, r1, a, C, ws, ev, hl, T, ea, q⟩ => ?_) he hpl
  subst ev
  cases r1 with
  | @cons _ u0 _ ur ra rw' =>
    obtain rfl : u0 = Value.ref a := ra
    have room : ur.length ≤ sizeLine := by rw [← Paired.length rw', sizeLine_eq]; omega
    exact oinit_ok T I1 ea room fun s2 J => ⟨.non, H1, J, rfl, q⟩
end
/-- what the written part says of such a class: at C, named n; its base at B, named b; its __init__ at fI; its field f -/
structure ErrTxt (K : PySem.W.Frag) (mg : Str → Option Value) (n b f : Str) (C B fI : Addr) : Prop where
  gC : mg n = some (.ref C)
  gB : mg b = some (.ref B)
  ox : OexC K C
  iC : PySem.W.findIn K (.ref C) "__init__" = some (some (.ref fI))
  tI : PySem.W.typeIn K (.ref fI) = some (.type "function")
  rd : ClX.CRead K B (.type "type")
  vB : PySem.W.findCls K (.ref B) (.type "type") "__init__" = some (.val (.builtin "ValueError.__init__"))
  nF : PySem.W.findIn K (.ref C) f = some none
  xf : XfC K C
  te : PySem.W.exmOne K (.ref C) (.ref C) = some true
/-- what __init__(self, x) keeps: the field alone is stored -/
def spErr (C : Addr) (f : Str) (ok : V → Prop) : Sp := fun vs H Q _ => ∃ a v, vs = [.ref a, v] ∧ ok v ∧ H a = some (exo a C none) ∧ ∀ d, H d = none → d ≠ a → Q .non (upd (upd H d (exd d [(f, v)])) a (exo a C (some d)))
/-- an error of the class at C with the field f = v leaves -/
def ErrAt [Tb] (C : Addr) (f : Str) (v : V) (H : Hp) (E : XK) : Prop := ∀ d H', Kept H H' → (∀ P ∈ Tb.ps, GxR.TabG H' P) → H d = none → H' d = some (.xd [(f, v)]) → E (.ref C) (some d) H'
theorem err_made [Tb] {C : Addr} {f : Str} {ok : V → Prop} {v : V} {te : TE} {σ : L2.St} {G H : Hp} {E : XK} {α : Type} [Rep α] {K : PySem.W.Frag} {x : α} (e : Sub G H) (h : EvR K te σ G x) (hv : ∀ w G, rep K x w G → w = v) (hok : ok v) (k : ErrAt C f v H E) :
    tMkO C (spErr C f ok) [] (tCons te tNil) σ H (fun cls d H' => E cls d H') := h H e _ fun w G1 H1 g1 r1 => by
  obtain rfl := hv w G1 r1
  refine ⟨by show 1 ≤ 1000; decide, fun a ha => ⟨a, w, rfl, hok, upd_same, fun d hd hne => ⟨rfl, d, [(f, w)], upd_same, ?_, ?_, ?_⟩⟩⟩
  · rw [upd_ne hne, upd_same]
  · rw [upd_ne hne] at hd
    exact hd
  · rw [upd_ne hne] at hd
    refine k d _ ⟨fun b o q nt => ?_, fun b q => ?_⟩ (fun P hP => ?_) (g1.h.free hd) upd_same
    · have q1 := g1.h.k b o q nt
      have nb : b ≠ d := ne_of_none q1 hd
      have na : b ≠ a := ne_of_none q1 ha
      rw [upd_ne nb, del_ne na, upd_ne na, upd_ne nb, upd_ne na]
      exact q1
    · by_cases nb : b = d
      · rw [nb]
        exact g1.h.free hd
      · by_cases na : b = a
        · rw [na]
          exact g1.h.free ha
        · rw [upd_ne nb, del_ne na, upd_ne na, upd_ne nb, upd_ne na] at q
          exact g1.h.free q
    · obtain ⟨qs, e1, e2⟩ := g1.s.t P hP
      have nb : P ≠ d := ne_of_none e1 hd
      have na : P ≠ a := ne_of_none e1 ha
      refine ⟨qs, ?_, e2⟩
      rw [upd_ne nb, del_ne na, upd_ne na, upd_ne nb, upd_ne na]
      exact e1
/-- isinstance(e, c), e the caught exception that stands at a, of the class cls, with the dict d -/
def rIsX (K : PySem.W.Frag) (a : Addr) (cls : Value) (d : Option Addr) : List V → Hp → VK → Prop := fun xs H Q => ∃ (D dd : Addr) (c : V) (cv : Value) (b : Bool) (fs : List (Str × V)), xs = [.ref a, c] ∧ cls = .ref D ∧ d = some dd ∧ ExcC K D ∧ (∀ u, RelV c u → u = cv) ∧
  PySem.W.kitOne K (.ref D) cv = some b ∧ H dd = some (.xd fs) ∧ Q (.bl b) H
theorem call_isX {X : Cx} {a : Addr} {cls : Value} {d : Option Addr} {oe : Obj} {pn : List (Addr × Obj)} (hz : Zc cls d oe) (hf : ∃ vs, oe.data = .fields vs) : CallR (X.suite a ((a, oe) :: pn)) (.builtin "isinstance") (rIsX X.K a cls d) := by
  intro pins s σ H xs us Q I r h
  obtain ⟨D, dd, c, cv, b, fs, rfl, rfl, rfl, C, hcv, e, hd, q⟩ := h
  cases r with
  | cons rx rr =>
    cases rr with
    | cons rt rr =>
      cases rr
      cases rx
      obtain rfl := hcv _ rt
      obtain ⟨hget, _⟩ := I.pin (a, oe) (List.mem_append.mpr (.inl List.mem_cons_self))
      obtain ⟨vs, hv⟩ := hf
      obtain ⟨mA, hns, _⟩ : ∃ mA, s.heap.Ns1 dd mA ∧ ∀ f, RelO (fs.lookup f) (mA f) := I.hok dd _ hd
      obtain ⟨od, ho, hl⟩ := lookIn_ns hns
      have J : PySem.W.InstAt s.heap a oe D (some od) := ⟨hget, hz.1, by unfold PySem.W.notCls; rw [hv] <;> rfl, by rw [hz.2]; exact ho⟩
      have hcl : (PySem.W.clsIn X.K D).isSome = true := by
        obtain ⟨cd, hc, _⟩ := PySem.W.any_some C.hd
        rw [hc]
        rfl
      exact PySem.W.kia_one (PySem.W.kitx_exc hcl C.hg C.hk C.hs C.ha C.hn C.ht C.hm) I.kIn J e (fun z => nomatch z) fun tk => ⟨.bl b, H, I.kept (t' := tk) fun _ _ z => z, rfl, q⟩
end RL

set_option Elab.async false
set_option linter.all false
set_option maxRecDepth 100000
set_option maxHeartbeats 4000000
namespace RL
open PySem PySem.Spec PyProof.Rows L2
open Rep (rep)
/-! ### items -/
def getI {α : Type} [Inhabited α] (l : List α) (n : Int) : α := (atI l n).getD default
def getS (z : Str) (n : Int) : Str := ⟨#[getI z.cps.toList n]⟩
theorem atI_get {α : Type} [Inhabited α] {l : List α} {n : Int} (h : (atI l n).isSome = true) : atI l n = some (getI l n) := by
  unfold getI
  cases e : atI l n with
  | none => rw [e] at h; cases h
  | some x => rfl
theorem at_in {α : Type} {l : List α} {n : Int} (h0 : 0 ≤ n) (h1 : n < l.length) : (atI l n).isSome = true := by
  have e : ixN l.length n = some n.toNat := by unfold ixN; rw [if_pos h0, if_pos h1]
  unfold atI
  rw [e]
  show (l[n.toNat]?).isSome = true
  rw [List.getElem?_eq_getElem (by omega : n.toNat < l.length)]
  rfl
theorem at_neg {α : Type} {l : List α} {n : Int} (h0 : n < 0) (h1 : -(l.length : Int) ≤ n) : (atI l n).isSome = true := by
  have e : ixN l.length n = some (n + l.length).toNat := by unfold ixN; rw [if_neg (by omega), if_pos h1]
  unfold atI
  rw [e]
  show (l[(n + l.length).toNat]?).isSome = true
  rw [List.getElem?_eq_getElem (by omega)]
  rfl
theorem getI_nat {α : Type} [Inhabited α] {l : List α} {n : Int} (h0 : 0 ≤ n) (h1 : n < l.length) : getI l n = l.getD n.toNat default := by
  have e : ixN l.length n = some n.toNat := by unfold ixN; rw [if_pos h0, if_pos h1]
  unfold getI atI
  rw [e]
  show (l[n.toNat]?).getD default = _
  rw [List.getD_eq_getElem?_getD]
theorem getI_mem {α : Type} [Inhabited α] {l : List α} {n : Int} (h : (atI l n).isSome = true) : getI l n ∈ l := by
  have e := atI_get h
  unfold atI at e
  cases q : ixN l.length n with
  | none => rw [q] at e; cases e
  | some j =>
    rw [q] at e
    exact List.mem_of_getElem? e

/-! ### loops that may be left -/
inductive Step (σ ρ : Type) where
  | go (s : σ)
  | ret (r : ρ)
  | brk (s : σ)
def runL {σ ρ α : Type} (f : σ → α → Step σ ρ) (s : σ) : List α → Step σ ρ
  | [] => .go s
  | x :: l => match f s x with
    | .go s' => runL f s' l
    | .ret r => .ret r
    | .brk s' => .brk s'
theorem runL_append {σ ρ α : Type} (f : σ → α → Step σ ρ) : ∀ (l m : List α) (s s' : σ), runL f s l = .go s' → runL f s (l ++ m) = runL f s' m
  | [], m, s, s', h => by
    have e : Step.go s = Step.go s' := h
    cases e
    rfl
  | x :: l, m, s, s', h => by
    show (match f s x with | .go s' => runL f s' (l ++ m) | .ret r => .ret r | .brk s' => .brk s') = _
    have h' : (match f s x with | .go s' => runL f s' l | .ret r => .ret r | .brk s' => .brk s') = Step.go s' := h
    cases e : f s x with
    | go a =>
      rw [e] at h'
      exact runL_append f l m a s' h'
    | ret r => rw [e] at h'; cases h'
    | brk a => rw [e] at h'; cases h'
theorem runL_go {σ ρ α : Type} {f : σ → α → Step σ ρ} {l : List α} {s st s' : σ} {i : Nat} {x : α} (h : runL f s (l.take i) = .go st) (hx : l[i]? = some x) (e : f st x = .go s') : runL f s (l.take (i + 1)) = .go s' := by
  rw [take_snoc hx, runL_append f _ _ _ _ h]
  show (match f st x with | .go s' => runL f s' [] | .ret r => .ret r | .brk s' => .brk s') = _
  rw [e]
  rfl
theorem split_at {α : Type} {l : List α} {i : Nat} {x : α} (hx : l[i]? = some x) : l = l.take i ++ x :: l.drop (i + 1) := by
  obtain ⟨h, e⟩ := List.getElem?_eq_some_iff.mp hx
  rw [← e, ← List.drop_eq_getElem_cons h, List.take_append_drop]
theorem runL_ret {σ ρ α : Type} {f : σ → α → Step σ ρ} {l : List α} {s st : σ} {i : Nat} {x : α} {r : ρ} (h : runL f s (l.take i) = .go st) (hx : l[i]? = some x) (e : f st x = .ret r) : runL f s l = .ret r := by
  rw [split_at hx, runL_append f _ _ _ _ h]
  show (match f st x with | .go s' => runL f s' _ | .ret r => .ret r | .brk s' => .brk s') = _
  rw [e]
def exitF {σ ρ : Type} (a : Step σ ρ) (k : σ → ρ) : ρ := match a with
  | .go s => k s
  | .ret r => r
  | .brk s => k s
def exitS {σ σ' ρ : Type} (a : Step σ ρ) (k : σ → Step σ' ρ) : Step σ' ρ := match a with
  | .go s => k s
  | .ret r => .ret r
  | .brk s => k s
theorem exitF_go {σ ρ : Type} {s : σ} {k : σ → ρ} : exitF (.go s) k = k s := rfl
theorem exitS_go {σ σ' ρ : Type} {s : σ} {k : σ → Step σ' ρ} : exitS (.go s) k = k s := rfl
theorem exitF_ret {σ ρ : Type} {m r : ρ} {a : Step σ ρ} {k : σ → ρ} (h : m = exitF a k) (e : a = .ret r) : m = r := by rw [h, e]; rfl
theorem exitS_ret {σ σ' ρ : Type} {m : Step σ' ρ} {r : ρ} {a : Step σ ρ} {k : σ → Step σ' ρ} (h : m = exitS a k) (e : a = .ret r) : m = .ret r := by rw [h, e]; rfl
theorem rgs_at {m n : Int} {i : Nat} (h : m + (i : Int) < n) : ∃ d, m + (i : Int) = d ∧ (rgs m n)[i]? = some d ∧ m ≤ d ∧ d < n := by
  refine ⟨m + (i : Int), rfl, ?_, by omega, h⟩
  unfold rgs
  rw [List.getElem?_map, List.getElem?_range (by omega)]
  rfl
theorem rgs_at0 {n : Int} {i : Nat} (h : (i : Int) < n) : ∃ d, (i : Int) = d ∧ (rgs 0 n)[i]? = some d ∧ 0 ≤ d ∧ d < n := by
  obtain ⟨d, e1, e2, e3, e4⟩ := rgs_at (m := 0) (n := n) (i := i) (by omega)
  exact ⟨d, by omega, e2, e3, e4⟩
theorem rgs_len (m n : Int) : (rgs m n).length = (n - m).toNat := by unfold rgs; rw [List.length_map, List.length_range]
theorem rgs_take (m n : Int) : List.take (n - m).toNat (rgs m n) = rgs m n := by rw [← rgs_len m n, List.take_length]
theorem rgs_take0 (n : Int) : List.take n.toNat (rgs 0 n) = rgs 0 n := by
  have h := rgs_take 0 n
  rw [Int.sub_zero] at h
  exact h

/-! ### chains, comprehensions without if -/
/-- a list of texts or None that has no None -/
def texts (l : List (Option Str)) : List Str := l.filterMap id
theorem texts_map {l : List (Option Str)} (h : none ∉ l) : (texts l).map some = l := by
  unfold texts
  induction l with
  | nil => rfl
  | cons o l ih =>
    cases o with
    | none => exact absurd List.mem_cons_self h
    | some x =>
      show (x :: List.filterMap id l).map some = some x :: l
      rw [List.map_cons, ih fun q => h (.tail _ q)]
section
variable [Tb] {α β γ : Type} [Rep α] [Rep β] [Rep γ] {K : PySem.W.Frag} {σ : L2.St} {G : Hp} {te ta tb tl : TE} {x : α} {y : β} {vs : List Nat}
theorem rv_le {G : Hp} {m n : Int} : ∀ v w G1 H1, Same G G1 → Sub G1 H1 → rep K m v G1 → rep K n w G1 → ∀ Q : VK, (∀ G2 H2, Grow G1 H1 G2 H2 → Q (.bl (decide (m ≤ n))) H2) → (rI0 fun i j => .bl (decide (i ≤ j))) v w H1 Q :=
  fun v w G1 H1 _ s hv hw Q q => ⟨m, n, hv, hw, q G1 H1 (Grow.refl s)⟩
theorem rv_lt {G : Hp} {m n : Int} : ∀ v w G1 H1, Same G G1 → Sub G1 H1 → rep K m v G1 → rep K n w G1 → ∀ Q : VK, (∀ G2 H2, Grow G1 H1 G2 H2 → Q (.bl (decide (m < n))) H2) → (rI0 fun i j => .bl (decide (i < j))) v w H1 Q :=
  fun v w G1 H1 _ s hv hw Q q => ⟨m, n, hv, hw, q G1 H1 (Grow.refl s)⟩
theorem rv_leS {G : Hp} {m n : Str} : ∀ v w G1 H1, Same G G1 → Sub G1 H1 → rep K m v G1 → rep K n w G1 → ∀ Q : VK, (∀ G2 H2, Grow G1 H1 G2 H2 → Q (.bl (!decide (n.cps.toList < m.cps.toList))) H2) →
    (fun x y H Q => ∃ i j, x = V.str i ∧ y = V.str j ∧ Q (V.bl (!decide (j.cps.toList < i.cps.toList))) H : R2) v w H1 Q :=
  fun v w G1 H1 _ s hv hw Q q => ⟨m, n, hv, hw, q G1 H1 (Grow.refl s)⟩
theorem filt_true {α : Type} (l : List α) : l.filter (fun _ => true) = l := by
  induction l with
  | nil => rfl
  | cons a l ih => rw [List.filter_cons_of_pos rfl, ih]
theorem ev_lcLm {l : List α} {g : TG} (h : α → β) (hl : EvR K tl σ G l) (hz : l.length < sizeLine)
    (ht : ∀ x v G' H', Same G G' → Sub G' H' → x ∈ l → rep K x v G' → ∀ (P : L2.St → Hp → Prop), (∀ σ2, wipe σ2 vs = wipe σ vs → EvB tYes σ2 G' true → (true = true → EvR K te σ2 G' (h x)) → P σ2 H') → g v (wipe σ vs) H' P) :
    EvR K (tLc (iList K tl) g tYes te vs) σ G (l.map h) := (ev_lcL (fun _ => true) h hl hz ht).to (by rw [filt_true])
theorem ev_lcTm {l : Tpl α} {g : TG} (h : α → β) (hl : EvR K tl σ G l) (hz : l.l.length < sizeLine)
    (ht : ∀ x v G' H', Same G G' → Sub G' H' → x ∈ l.l → rep K x v G' → ∀ (P : L2.St → Hp → Prop), (∀ σ2, wipe σ2 vs = wipe σ vs → EvB tYes σ2 G' true → (true = true → EvR K te σ2 G' (h x)) → P σ2 H') → g v (wipe σ vs) H' P) :
    EvR K (tLc (iTup K tl) g tYes te vs) σ G (l.l.map h) := (ev_lcT (fun _ => true) h hl hz ht).to (by rw [filt_true])
theorem ev_lcR1m {n : Int} {g : TG} (h : Int → β) (hl : EvR K te σ G n) (hn : n < 16777216 ∧ -16777216 < n) {tf : TE}
    (ht : ∀ x G' H', 0 ≤ x → x < n → Same G G' → Sub G' H' → ∀ (P : L2.St → Hp → Prop), (∀ σ2, wipe σ2 vs = wipe σ vs → EvB tYes σ2 G' true → (true = true → EvR K tf σ2 G' (h x)) → P σ2 H') → g (.int x) (wipe σ vs) H' P) :
    EvR K (tLc (iRng1 (tCons te tNil)) g tYes tf vs) σ G ((rgs 0 n).map h) := (ev_lcR1 (fun _ => true) h hl hn ht).to (by rw [filt_true])
theorem ev_lcR2m {m n : Int} {g : TG} (h : Int → β) (hl : EvR K ta σ G m) (hh : EvR K te σ G n) (hn : -16777216 < m ∧ m < 16777216 ∧ n < 16777216 ∧ -16777216 < n ∧ n - m < 16777216) {tf : TE}
    (ht : ∀ x G' H', m ≤ x → x < n → Same G G' → Sub G' H' → ∀ (P : L2.St → Hp → Prop), (∀ σ2, wipe σ2 vs = wipe σ vs → EvB tYes σ2 G' true → (true = true → EvR K tf σ2 G' (h x)) → P σ2 H') → g (.int x) (wipe σ vs) H' P) :
    EvR K (tLc (iRng2 (tCons ta (tCons te tNil))) g tYes tf vs) σ G ((rgs m n).map h) := (ev_lcR2 (fun _ => true) h hl hh hn ht).to (by rw [filt_true])
theorem ev_texts {l : List (Option Str)} (h : EvR K te σ G l) (hn : none ∉ l) : EvR K te σ G (texts l) := fun H e Q q => h H e Q fun v G1 H1 g1 ⟨a, xs, ev, hA, r⟩ => q v G1 H1 g1 ⟨a, xs, ev, hA, by
  have e1 := reps_flat r
  have e2 : xs = (texts l).map V.str := by
    rw [e1]
    conv => lhs; rw [← texts_map hn]
    rw [List.map_map]
    rfl
  rw [e2]
  exact reps_of_flat (texts l)⟩
end
/-! ### list.count of texts -/
theorem countP_eqU {x : V} : ∀ {xs : List V} {us : List Value}, Vals xs us → xs.all flatV = true → us.countP (eqU x) = xs.countP fun y => eqV y x
  | _, _, .nil, _ => rfl
  | y :: xs, u :: us, .cons r t, f => by
    rw [List.all_cons, Bool.and_eq_true] at f
    rw [List.countP_cons, List.countP_cons, eqU_of r f.1, countP_eqU t f.2]
def rCntV (K : PySem.W.Frag) : V → List V → Hp → VK → Prop := fun x args H Q => ∃ (p : Addr) (xs : List V) (y : V), x = .ref p ∧ args = [y] ∧ SqL K H p xs ∧ flatV y = true ∧ xs.all flatV = true ∧ Q (.int (xs.countP (fun z => eqV z y) : Nat)) H
theorem mt_countS {X : Cx} : MtR X "list.count" (rCntV X.K) := fun pins s σ H x args v us Q I rx rv ⟨p, xs, y, ex, ea, hs, fy, fx, q⟩ => by
  subst ex ea
  obtain rfl : v = Value.ref p := rx
  obtain ⟨u, rfl, ru⟩ := rv.one
  obtain ⟨its, ri, ⟨⟨cls, dd, data, sl⟩, n, ho, hc, hdn, hd⟩, hlen⟩ := I.list hs
  simp only at hc hd
  subst hc hd
  refine call_meets PySem.F.slot_list_count ⟨_, ho, rfl⟩ PySem.F.entry_list_count (PySem.F.args_list_count_2 _ _) (SeqAt.list_countAt p its.toArray n dd sl u (eqU y)) ⟨ho, fun z hz => mem_eqAt ru fy ri fx z (by simpa using hz), ?_⟩
  have e : its.toArray.toList.countP (eqU y) = xs.countP fun z => eqV z y := by
    rw [List.toList_toArray]
    exact countP_eqU ri fx
  rw [e]
  exact ⟨.int (xs.countP (fun z => eqV z y) : Nat), H, I.tok _, ⟨s.toks, rfl⟩, q⟩
theorem ev_countS [Tb] {K : PySem.W.Frag} {σ : L2.St} {G : Hp} {ta tb : TE} {l : List Str} {x : Str} (ha : EvR K ta σ G l) (hb : EvR K tb σ G x) : EvR K (tBM K "list" (rCntV K) ta (tCons tb tNil)) σ G ((List.count x l : Nat) : Int) := fun H e Q q =>
  ha H e _ fun v G1 H1 g1 r1 => by
    obtain ⟨a, xs, ev, hA, r⟩ := id r1
    refine ⟨by rw [ev]; exact .inl ⟨rfl, xs, SqL.of (g1.s _ _ hA)⟩, hb.mono g1.g H1 g1.s _ fun w G2 H2 g2 r2 => ?_⟩
    have ex := reps_flat r
    subst ex
    refine ⟨a, _, w, ev, rfl, SqL.of (g2.h.l (g1.s _ _ hA)), by rw [show w = V.str x from r2]; rfl, flat_all, ?_⟩
    have e2 : (l.map Flat.toV).countP (fun z => eqV z w) = List.count x l := by
      rw [List.countP_map, show w = Flat.toV x from r2, List.count]
      refine List.countP_congr fun z _ => ?_
      rw [Function.comp, Flat.eqv z x]
      simp
    rw [e2]
    exact q _ G2 H2 (g1.trans g2) rfl
/-! ### text * n -/
def mulS (x : Str) (n : Int) : Str := ⟨(List.replicate n.toNat x.cps.toList).flatten.toArray⟩
theorem fold_cps : ∀ (n : Nat) (a b : Array Nat), ((List.replicate n a).foldl (· ++ ·) b).toList = b.toList ++ (List.replicate n a.toList).flatten
  | 0, a, b => by simp
  | n + 1, a, b => by
    rw [List.replicate_succ, List.foldl_cons, fold_cps n a (b ++ a), List.replicate_succ, List.flatten_cons, Array.toList_append, List.append_assoc]
/-! ### what a def keeps that may raise an error of the class at C with the text field f -/
section
variable [Tb] {α β ρ : Type} [Rep α] [Rep β] [Rep ρ]
def spx1 (K : PySem.W.Frag) (C : Addr) (f : Str) (pre : α → Prop) (m : α → Except Str ρ) : Sp := fun vs H Q E => ∃ x v G, vs = [v] ∧ Sub G H ∧ rep K x v G ∧ pre x ∧
  (∀ y, m x = .ok y → ∀ u G' H', Grow G H G' H' → rep K y u G' → Q u H') ∧ ∀ s, m x = .error s → ErrAt C f (.str s) H E
end
theorem tpl_written {K : PySem.W.Frag} {q : Addr} {qd : Option Addr} {qi : Array Value} {qn : Nat} {qs : Array (Option Value)} {ks : List Str} (l : K.lookup q = some ⟨.type "tuple", qd, .seq qi qn, qs⟩) (v : Vals (ks.map V.str) qi.toList) (hz : ks.length ≤ 1000 := by decide) {G : Hp} : rep K (Tpl.mk ks) (V.ref q) G := by
  refine ⟨q, ks.map V.str, rfl, .inr ⟨_, qi, qn, l, rfl, rfl, ?_, v⟩, reps_of_flat ks⟩
  have e : (ks.map V.str).length = qi.toList.length := Vals.length v
  have e2 : qi.toList.length = qi.size := Array.length_toList
  rw [List.length_map] at e
  rw [← e2, ← e, sizeLine_eq]
  omega
end RL
namespace RL
open PySem PySem.Spec PyProof.Rows L2
open Rep (rep)
/-! ### the rules that name the written part, with it told: they hold within a comprehension as well -/
section
variable {X : Cx} {K : PySem.W.Frag}
theorem op_inK (h : X.K = K := by rfl) : OpR X (compareOp .In) (rIn K false) := by subst h; exact op_in_seq
theorem op_notInK (h : X.K = K := by rfl) : OpR X (compareOp .NotIn) (rIn K true) := by subst h; exact op_notIn_seq
theorem ix_listK (h : X.K = K := by rfl) : IxR X (rIxL K) := by subst h; exact ix_list
theorem ix_tupK (h : X.K = K := by rfl) : IxR X (rIxT K) := by subst h; exact ix_tup
theorem sl_listK (h : X.K = K := by rfl) : SlR X (rSlL K) := by subst h; exact sl_list
theorem call_lenK (h : X.K = K := by rfl) : CallR X (.builtin "len") (rLen K) := by subst h; exact call_len
theorem call_listK (h : X.K = K := by rfl) : CallR X (.type "list") (fun xs H Q => ∃ p ys, xs = [.ref p] ∧ (SqL K H p ys ∨ SqT K H p ys) ∧ ∀ l, H l = none → Q (.ref l) (upd H l (.lst ys))) := by subst h; exact call_list_of
theorem mt_countK (h : X.K = K := by rfl) : MtR X "list.count" (rCntV K) := by subst h; exact mt_countS
variable {a e o : Expr} {ta te to : TE} {tg : Expr} {k : Nat} {p1 p2 p3 pos p q apos cpos : Pos} {es : List Expr} {t : TA}
theorem pe_revK (he : PE X e te) (h : X.K = K := by rfl) : PE X (.Subscript e (.Slice none none (some (.UnaryOp .USub (.Constant (.int 1) k p1) p2)) p3) pos) (tRevL K te) := by subst h; exact pe_revL he
theorem pi_listK (he : PE X e te) (h : X.K = K := by rfl) : PI X tg e (iList K te) := by subst h; exact pi_list he
theorem pi_tupK (he : PE X e te) (h : X.K = K := by rfl) : PI X tg e (iTup K te) := by subst h; exact pi_tup he
theorem pe_lenSetK (hc : X.calm = true) (hg : Gl X "len") (hm : X.mg "len" = none) (hg2 : Gl X "set") (hm2 : X.mg "set" = none) (ha : PE X a ta)
    (na : starEach [a] X.env = (false, eval a X.env) :: starEach [] X.env := by rfl) (h : X.K = K := by rfl) : PE X (.Call (.Name "len" p) [.Call (.Name "set" p2) [a] [] q] [] pos) (tLenSetS K ta) := by subst h; exact pe_lenSetS hc hg hm hg2 hm2 ha na
theorem pa_starK (he : PE X e te) (hr : PA X es t) (hs : starEach (.Starred e p :: es) X.env = (true, eval e X.env) :: starEach es X.env := by rfl) (h : X.K = K := by rfl) : PA X (.Starred e p :: es) (StX.tStar K te t) := by subst h; exact StX.pa_star he hr hs
end
end RL
namespace RL
open PySem PySem.Spec PyProof.Rows L2
section
variable {X : Cx} {K : PySem.W.Frag} {e o : Expr} {te to : TE} {apos cpos pos : Pos}
theorem pe_joinK (ho : PE X o to) (he : PE X e te) (hs : starEach [e] X.env = [(false, eval e X.env)] := by rfl) (hbase : attributeBase o "join" X.env (eval o X.env) = eval o X.env := by rfl) (hline : (apos.endLine == pos.line) = true := by rfl) (h : X.K = K := by rfl) :
    PE X (.Call (.Attribute o "join" apos) [e] [] pos) (tM1 (fun x xs H Q => ∃ a p, ∃ ys : List Str, x = .str a ∧ xs = [.ref p] ∧ (SqL K H p (ys.map V.str) ∨ SqT K H p (ys.map V.str)) ∧
      (ys.map (·.length)).sum + ys.length * a.length ≤ 16777216 ∧ Q (.str (Txt.join a ys)) H) to te) := by subst h; exact pe_join ho he hs hbase hline
theorem pe_bmK {es : List Expr} {t : TA} {name : Str} {T id : String} {r : V → List V → Hp → VK → Prop} (pa : PlainAttrs T) (slot : Slot T name id) (hty : typeOf (.builtin id) = pure (.type "method_descriptor")) (hm : MtR X id r) (ho : PE X o to) (ha : PA X (e :: es) t)
    (hbase : attributeBase o name X.env (eval o X.env) = eval o X.env := by rfl)
    (hfew : ((backTo cpos (starEach (e :: es) X.env)).all (fun x => !x.1) && (backToKw cpos (keywordEach [] X.env)).all (fun x => x.1.isSome)
      && decide ((e :: es).length + ([] : List Keyword).length + (if ([] : List Keyword).isEmpty then 0 else 1) < 30)) = true := by rfl)
    (hline : (apos.endLine == cpos.line) = true := by rfl) (hs : starEach (e :: es) X.env = (false, eval e X.env) :: starEach es X.env := by rfl) (hplain : (backTo cpos (starEach es X.env)).any (·.1) = false := by rfl) (h : X.K = K := by rfl) :
    PE X (.Call (.Attribute o name apos) (e :: es) [] cpos) (tBM K T r to t) := by subst h; exact pe_bm pa slot hty hm ho ha hbase hfew hline hs hplain
end
end RL
namespace RL
open PySem PySem.Spec PyProof.Rows L2
open Rep (rep)
/-! ### the statements, something behind -/
section
variable [Tb] {α : Type} [Rep α] {K : PySem.W.Frag} {σ : L2.St} {G H : Hp} {te tl ta : TE} {tt : TT} {t u tb tz : TS} {D : Ends} {x : α} {b : Bool} {i j : Nat} {a : Addr}
theorem nx_mk {nx : L2.St → Hp → Prop} {rt : VK} {bk ct : L2.St → Hp → Prop} (h : nx σ H) : Ends.nx ⟨nx, rt, bk, ct⟩ σ H := h
theorem reps_nil {Ge He : Hp} (g : Grow Ge He G H) : Reps K ([] : List α) [] G := .nil
theorem q_asg (e : Sub G H) (h : EvR K te σ G x) (k : ∀ v G' H', Grow G H G' H' → rep K x v G' → tz D (σ.set i (some v)) H') : tSeq (tAsg te (gName i)) tz D σ H := s_asg (D := { D with nx := tz D }) e h k
theorem q_drop (e : Sub G H) (h : EvR K te σ G x) (k : ∀ G' H', Grow G H G' H' → tz D σ H') : tSeq (tDrop te) tz D σ H := s_drop (D := { D with nx := tz D }) e h k
theorem q_if (e : Sub G H) (h : EvB tt σ G b) (k1 : b = true → ∀ G' H', Grow G H G' H' → t { D with nx := tz D } σ H') (k2 : b = false → ∀ G' H', Grow G H G' H' → u { D with nx := tz D } σ H') : tSeq (tIfS tt t u) tz D σ H := s_if (D := { D with nx := tz D }) e h k1 k2
theorem q_new (k : ∀ p, H p = none → tz D (σ.set i (some (.ref p))) (upd H p (.lst []))) : tSeq (tAsg (tLst tNil) (gName i)) tz D σ H := s_new (D := { D with nx := tz D }) k
theorem q_app {xs : List V} (e : Sub G H) (hi : σ[i]? = some (some (.ref a))) (ha : H a = some (.lst xs)) (hz : xs.length < sizeLine) (h : EvR K te σ G x)
    (k : ∀ v G' H', Grow G H G' H' → rep K x v G' → tz D σ (upd H' a (.lst (xs ++ [v])))) : tSeq (tDrop (tBM K "list" rAppend (tVar i) (tCons te tNil))) tz D σ H := s_app (D := { D with nx := tz D }) e hi ha hz h k
theorem q_newF {Ge He : Hp} (gr : Grow Ge He G H) (k : ∀ p H2, He p = none → G p = none → H p = none → H2 p = some (.lst []) → Grow Ge He G H2 → Kept H H2 → tz D (σ.set i (some (.ref p))) H2) : tSeq (tAsg (tLst tNil) (gName i)) tz D σ H := s_newF (D := { D with nx := tz D }) gr k
theorem q_appF {Ge He : Hp} {xs : List V} {l : List α} (gr : Grow Ge He G H) (hF : He a = none) (hN : G a = none) (hi : σ[i]? = some (some (.ref a))) (ha : H a = some (.lst xs)) (hl : Reps K l xs G) (hz : l.length < sizeLine) (h : EvR K te σ G x)
    (k : ∀ G' H' H2 zs, Grow G H G' H' → Grow Ge He G' H2 → G' a = none → H2 a = some (.lst zs) → Reps K (l ++ [x]) zs G' → (∀ b, b ≠ a → H2 b = H' b) → tz D σ H2) : tSeq (tDrop (tBM K "list" rAppend (tVar i) (tCons te tNil))) tz D σ H := s_appF (D := { D with nx := tz D }) gr hF hN hi ha hl hz h k
theorem q_forL {l : List α} {g : TG} (e : Sub G H) (h : EvR K tl σ G l) (k : ∀ G1 H1 xs, Grow G H G1 H1 → Reps K l xs G1 → ∃ Pv : Nat → L2.St → Hp → Prop, Pv 0 σ H1 ∧ (∀ i σ' H', Pv i σ' H' → Sub G1 H') ∧
    (∀ i x v σ' H', l[i]? = some x → rep K x v G1 → Pv i σ' H' → g v σ' H' fun σ2 H2 => tb { D with nx := Pv (i + 1), ct := Pv (i + 1), bk := tz D } σ2 H2) ∧ ∀ σ' H', Pv l.length σ' H' → tz D σ' H') : tSeq (tFor (iList K tl) g tb) tz D σ H :=
  s_forL (D := { D with nx := tz D }) e h k
theorem q_forT {l : Tpl α} {g : TG} (e : Sub G H) (h : EvR K tl σ G l) (k : ∀ G1 H1 xs, Grow G H G1 H1 → Reps K l.l xs G1 → ∃ Pv : Nat → L2.St → Hp → Prop, Pv 0 σ H1 ∧ (∀ i σ' H', Pv i σ' H' → Sub G1 H') ∧
    (∀ i x v σ' H', l.l[i]? = some x → rep K x v G1 → Pv i σ' H' → g v σ' H' fun σ2 H2 => tb { D with nx := Pv (i + 1), ct := Pv (i + 1), bk := tz D } σ2 H2) ∧ ∀ σ' H', Pv l.l.length σ' H' → tz D σ' H') : tSeq (tFor (iTup K tl) g tb) tz D σ H :=
  s_forT (D := { D with nx := tz D }) e h k
theorem q_forR1 {n : Int} (e : Sub G H) (h : EvR K te σ G n) (hn : -(2 ^ 62) ≤ n ∧ n < 2 ^ 62) (k : ∀ G1 H1, Grow G H G1 H1 → ∃ Pv : Nat → L2.St → Hp → Prop, Pv 0 σ H1 ∧
    (∀ (i : Nat) σ' H', (i : Int) < n → Pv i σ' H' → tb { D with nx := Pv (i + 1), ct := Pv (i + 1), bk := tz D } (σ'.set j (some (.int (i : Int)))) H') ∧ ∀ σ' H', Pv n.toNat σ' H' → tz D σ' H') : tSeq (tFor (iRng1 (tCons te tNil)) (gName j) tb) tz D σ H :=
  s_forR1 (D := { D with nx := tz D }) e h hn k
theorem q_forR2 {m n : Int} (e : Sub G H) (h : EvR K ta σ G m) (h2 : EvR K te σ G n) (hn : -(2 ^ 62) ≤ m ∧ m < 2 ^ 62 ∧ -(2 ^ 62) ≤ n ∧ n < 2 ^ 62) (k : ∀ G1 H1, Grow G H G1 H1 → ∃ Pv : Nat → L2.St → Hp → Prop, Pv 0 σ H1 ∧
    (∀ (i : Nat) σ' H', m + (i : Int) < n → Pv i σ' H' → tb { D with nx := Pv (i + 1), ct := Pv (i + 1), bk := tz D } (σ'.set j (some (.int (m + (i : Int))))) H') ∧ ∀ σ' H', Pv (n - m).toNat σ' H' → tz D σ' H') : tSeq (tFor (iRng2 (tCons ta (tCons te tNil))) (gName j) tb) tz D σ H :=
  s_forR2 (D := { D with nx := tz D }) e h h2 hn k
end
theorem un_some {α : Type} [Rep α] {K : PySem.W.Frag} {x : α} {v : V} {G : Hp} (h : rep K (some x) v G) : rep K x v G := h
theorem condT {α : Type} {c : Bool} {a b m : α} (h : m = cond c a b) (e : c = true) : m = a := by rw [h, e]; rfl
theorem condF {α : Type} {c : Bool} {a b m : α} (h : m = cond c a b) (e : c = false) : m = b := by rw [h, e]; rfl
end RL

set_option Elab.async false
set_option linter.all false
set_option maxRecDepth 100000
set_option maxHeartbeats 1000000
/-! texts, lists: plain mathematics for the laws -/
namespace RL
open PySem PySem.Spec PyProof.Rows L2 TL
theorem len_tl (x : Str) : x.length = (tl x).length := by simp [Str.length, tl]
theorem len_app (x y : Str) : (x ++ y).length = x.length + y.length := by rw [len_tl, len_tl, len_tl, tl_append, List.length_append]
theorem join_len (y : Str) : ∀ l : List Str, (Txt.join y l).length = (l.map (·.length)).sum + (l.length - 1) * y.length
  | [] => by rw [join_eq]; simp [Str.join, Str.empty, Str.length]
  | [x] => by rw [join_eq]; show x.length = x.length + 0 + 0 * y.length; omega
  | x :: z :: r => by
    have ih := join_len y (z :: r)
    rw [join_eq] at ih ⊢
    show (x ++ y ++ Str.join y (z :: r)).length = _
    rw [len_app, len_app, ih]
    simp only [List.map_cons, List.sum_cons, List.length_cons, Nat.add_sub_cancel]
    have : (r.length + 1) * y.length = r.length * y.length + y.length := by rw [Nat.add_mul, Nat.one_mul]
    omega
theorem split_ne {x y : Str} (hy : 1 ≤ y.length) : Txt.split x y ≠ [] := fun h => by
  have e := StrLaws.join_split x y
  rw [h] at e
  have e2 : x = Str.empty := e.symm
  subst e2
  unfold Txt.split at h
  have : (decide (Str.empty.length < y.length) || decide (Builtin.Str.strKind Str.empty < Builtin.Str.strKind y)) = true := by
    have : decide (Str.empty.length < y.length) = true := decide_eq_true (by show 0 < y.length; omega)
    rw [this]; rfl
  rw [if_pos this] at h
  cases h
theorem sum_mem {l : List Str} {p : Str} (h : p ∈ l) : p.length ≤ (l.map (·.length)).sum := by
  induction l with
  | nil => cases h
  | cons a l ih =>
    rw [List.map_cons, List.sum_cons]
    rcases List.mem_cons.mp h with e | e
    · subst e; omega
    · have := ih e; omega
theorem split_sum {x y : Str} : ((Txt.split x y).map (·.length)).sum + ((Txt.split x y).length - 1) * y.length = x.length := by
  rw [← join_len y (Txt.split x y), join_eq, StrLaws.join_split]
theorem split_part {x y p : Str} (h : p ∈ Txt.split x y) : p.length ≤ x.length := by
  have h1 := sum_mem h
  have h2 := split_sum (x := x) (y := y)
  omega
theorem split_count {x y : Str} (hy : 1 ≤ y.length) : (Txt.split x y).length ≤ x.length + 1 := by
  have h2 := split_sum (x := x) (y := y)
  have h3 : (Txt.split x y).length - 1 ≤ ((Txt.split x y).length - 1) * y.length := Nat.le_mul_of_pos_right _ hy
  omega
theorem sum_le {l : List Str} {n : Nat} (h : ∀ p ∈ l, p.length ≤ n) : (l.map (·.length)).sum ≤ l.length * n := by
  induction l with
  | nil => simp
  | cons a l ih =>
    rw [List.map_cons, List.sum_cons, List.length_cons, Nat.add_mul, Nat.one_mul]
    have := h a List.mem_cons_self
    have := ih fun p hp => h p (.tail _ hp)
    omega
theorem sum_sub {l m : List Str} (h : l.Sublist m) : (l.map (·.length)).sum ≤ (m.map (·.length)).sum := by
  induction h with
  | slnil => exact Nat.le_refl _
  | cons a _ ih => rw [List.map_cons, List.sum_cons]; omega
  | cons_cons a _ ih => rw [List.map_cons, List.map_cons, List.sum_cons, List.sum_cons]; omega
/-! ### last, all but the last -/
theorem at_last {α : Type} {l : List α} (h : l ≠ []) : (atI l (-1)).isSome = true := at_neg (by omega) (by have := List.length_pos_iff.mpr h; omega)
theorem get_last {α : Type} [Inhabited α] {l : List α} (h : l ≠ []) : getI l (-1) = l.getLast h := by
  have e := atI_get (at_last h)
  have hp := List.length_pos_iff.mpr h
  have e2 : ixN l.length (-1) = some (l.length - 1) := by
    unfold ixN
    rw [if_neg (by omega), if_pos (by omega)]
    congr 1
    omega
  unfold atI at e
  rw [e2] at e
  have e3 : l[l.length - 1]? = some (getI l (-1)) := e
  rw [← List.getLast?_eq_getElem?, List.getLast?_eq_some_getLast h] at e3
  exact (Option.some.inj e3).symm
theorem cut_init {α : Type} (l : List α) : cutL l none (some (-1)) = l.dropLast := by
  unfold cutL
  rw [HT.sIx_none]
  have e : HT.sIx l.length l.length (some (-1)) = l.length - 1 := by
    show (if (-1 : Int) < 0 then (-1 + (l.length : Int)).toNat else min (-1 : Int).toNat l.length) = _
    rw [if_pos (by omega)]
    omega
  rw [e, List.drop_zero, Nat.sub_zero, List.dropLast_eq_take]
theorem cut_from {α : Type} (l : List α) {n : Int} (h : 0 ≤ n) : cutL l (some n) none = l.drop n.toNat := by
  unfold cutL
  rw [HT.sIx_none]
  have e : HT.sIx l.length 0 (some n) = min n.toNat l.length := by
    show (if n < 0 then _ else min n.toNat l.length) = _
    rw [if_neg (by omega)]
  rw [e, List.take_of_length_le (by rw [List.length_drop]; omega)]
  by_cases q : n.toNat ≤ l.length
  · rw [Nat.min_eq_left q]
  · rw [Nat.min_eq_right (by omega), List.drop_length, List.drop_eq_nil_of_le (by omega)]
theorem cut_to {α : Type} (l : List α) {n : Int} (h : 0 ≤ n) : cutL l none (some n) = l.take n.toNat := by
  unfold cutL
  rw [HT.sIx_none]
  have e : HT.sIx l.length l.length (some n) = min n.toNat l.length := by
    show (if n < 0 then _ else min n.toNat l.length) = _
    rw [if_neg (by omega)]
  rw [e, List.drop_zero, Nat.sub_zero]
  by_cases q : n.toNat ≤ l.length
  · rw [Nat.min_eq_left q]
  · rw [Nat.min_eq_right (by omega), List.take_length, List.take_of_length_le (by omega)]
theorem cut_le {α : Type} (l : List α) (a b : Option Int) : (cutL l a b).length ≤ l.length := by
  unfold cutL
  rw [List.length_take, List.length_drop]
  omega
theorem cut_sub {α : Type} (l : List α) (a b : Option Int) : (cutL l a b).Sublist l := (List.take_sublist _ _).trans (List.drop_sublist _ _)
theorem cut_mem {α : Type} {l : List α} {a b : Option Int} {x : α} (h : x ∈ cutL l a b) : x ∈ l := List.mem_of_mem_drop (List.mem_of_mem_take h)
/-! ### a list in which one thing answers a question -/
theorem filter_find {α β : Type} [DecidableEq β] (f : α → β) (y : β) : ∀ {l : List α}, (l.map f).Nodup → l.filter (fun a => decide (f a = y)) = (l.find? fun a => decide (f a = y)).toList
  | [], _ => rfl
  | a :: l, h => by
    rw [List.map_cons, List.nodup_cons] at h
    by_cases e : f a = y
    · rw [List.filter_cons_of_pos (by simpa using e), List.find?_cons_of_pos (by simpa using e)]
      have : l.filter (fun a => decide (f a = y)) = [] := by
        rw [List.filter_eq_nil_iff]
        intro b hb q
        have q' : f b = y := by simpa using q
        exact h.1 (e ▸ q' ▸ List.mem_map_of_mem hb)
      rw [this]
      rfl
    · rw [List.filter_cons_of_neg (by simpa using e), List.find?_cons_of_neg (by simpa using e), filter_find f y h.2]
/-! ### ASCII texts -/
def Asc (x : Str) : Prop := ∀ c ∈ tl x, c < 128
theorem lower_tl {x : Str} (h : Asc x) : tl (Txt.lower x) = (tl x).map lo1 := by
  rw [lower_ascii h]
  simp [tl]
theorem upper_tl {x : Str} (h : Asc x) : tl (Txt.upper x) = (tl x).map up1 := by
  rw [upper_ascii h]
  simp [tl]
theorem tl_inj {x y : Str} (h : tl x = tl y) : x = y := by
  rw [← mk_tl x, ← mk_tl y, h]
end RL
namespace RL
open PySem PySem.Spec PyProof.Rows L2 TL
/-! ### sizes that are small -/
def PreT (t : Str) : Prop := t.length ≤ 1000
def NN (l : List Int) : Prop := ∀ x ∈ l, 0 ≤ x
theorem pre_low {t : Str} (h : PreT t) : t.length ≤ 5592405 := Nat.le_trans h (by decide)
theorem pre_line {t : Str} (h : PreT t) : t.length ≤ sizeLine := Nat.le_trans h (by decide)
theorem pre_line2 {t : Str} (h : PreT t) : t.length + 2 ≤ sizeLine := Nat.le_trans (Nat.add_le_add_right h 2) (by decide)
theorem lt_line {n : Nat} (h : n ≤ 100000) : n < sizeLine := Nat.lt_of_le_of_lt h (by decide)
theorem le_line {n : Nat} (h : n ≤ 100000) : n ≤ sizeLine := Nat.le_trans h (by decide)
theorem le_low {n : Nat} (h : n ≤ 100000) : n ≤ 5592405 := Nat.le_trans h (by decide)
theorem pos_of {n : Nat} (h : decide ((0 : Int) < (n : Int)) = true) : (0 : Int) < (n : Int) := of_decide_eq_true h
theorem of_memB {α : Type} [DecidableEq α] {x : α} {l : List α} (h : memB x l = false) : x ∉ l := of_decide_eq_false h
theorem memB_of {α : Type} [DecidableEq α] {x : α} {l : List α} (h : memB x l = true) : x ∈ l := of_decide_eq_true h
theorem memB_in {α : Type} [DecidableEq α] {x : α} {l : List α} (h : x ∈ l) : memB x l = true := decide_eq_true h
theorem memB_no {α : Type} [DecidableEq α] {x : α} {l : List α} (h : x ∉ l) : memB x l = false := decide_eq_false h
theorem memB_iff {α β : Type} [DecidableEq α] [DecidableEq β] {x : α} {l : List α} {y : β} {m : List β} (h : x ∈ l ↔ y ∈ m) : memB x l = memB y m := decide_eq_decide.mpr h
theorem eqB_of {α : Type} [DecidableEq α] {x y : α} (h : eqB x y = true) : x = y := of_decide_eq_true h
theorem ne_eqB {α : Type} [DecidableEq α] {x y : α} (h : eqB x y = false) : x ≠ y := of_decide_eq_false h
theorem eqB_self {α : Type} [DecidableEq α] (x : α) : eqB x x = true := decide_eq_true rfl
theorem texts_le (l : List (Option Str)) : (texts l).length ≤ l.length := List.length_filterMap_le _ _
/-- a short list of short texts, joined by one sign -/
theorem join_fits {l : List Str} {m n : Nat} (hn : l.length ≤ n) (hl : ∀ p ∈ l, p.length ≤ m) {s : Str} (hs : s.length ≤ 1) (hb : n * (m + 1) ≤ 16777216) : (l.map (·.length)).sum + l.length * s.length ≤ 16777216 := by
  have h1 := sum_le hl
  have h2 : l.length * m ≤ n * m := Nat.mul_le_mul_right m hn
  have h3 : l.length * s.length ≤ n * 1 := Nat.mul_le_mul hn hs
  have h4 : n * (m + 1) = n * m + n := by rw [Nat.mul_add, Nat.mul_one]
  omega
theorem join_short {l : List Str} {m n : Nat} (hn : l.length ≤ n) (hl : ∀ p ∈ l, p.length ≤ m) {s : Str} (hs : s.length ≤ 1) : (Txt.join s l).length ≤ n * m + n := by
  rw [join_len]
  have h1 := sum_le hl
  have h2 : l.length * m ≤ n * m := Nat.mul_le_mul_right m hn
  have h3 : (l.length - 1) * s.length ≤ n * 1 := Nat.mul_le_mul (by omega) hs
  omega
theorem runL_all {σ ρ α : Type} {f : σ → α → Step σ ρ} {s : σ} : ∀ {l : List α}, (∀ x ∈ l, f s x = .go s) → runL f s l = .go s
  | [], _ => rfl
  | x :: l, h => by
    show (match f s x with | .go s' => runL f s' l | .ret r => .ret r | .brk s' => .brk s') = _
    rw [h x List.mem_cons_self]
    exact runL_all fun y hy => h y (.tail _ hy)
theorem runL_find {α : Type} (p : α → Bool) : ∀ l : List α, runL (fun (_ : Unit) x => cond (p x) (Step.ret (some x)) (Step.go ())) () l = (match l.find? p with | some x => Step.ret (some x) | none => Step.go ())
  | [] => rfl
  | x :: l => by
    have ih := runL_find p l
    cases h : p x with
    | true => rw [List.find?_cons_of_pos h]; simp only [runL, h]; rfl
    | false =>
      rw [List.find?_cons_of_neg (by rw [h]; decide), ← ih]
      simp only [runL, h]
      rfl
/-! ### a law's draws -/
theorem log_small {n : Int} (h0 : 0 ≤ n) (h : n ≤ 100000) : n.natAbs.log2 < 1920 := by
  have h1 : n.natAbs ≤ 100000 := by omega
  have h2 : n.natAbs.log2 ≤ n.natAbs := Nat.log2_le_self _
  by_cases z : n.natAbs = 0
  · rw [z]; decide
  · have := (Nat.log2_lt z (k := 17)).mpr (by omega)
    omega
end RL
namespace RL
open PySem PySem.Spec PyProof.Rows L2 TL
theorem at_mod {α : Type} {l : List α} {n : Int} (h : 0 < (l.length : Int)) : (atI l (n % (l.length : Int))).isSome = true := at_in (Int.emod_nonneg _ (by omega)) (Int.emod_lt_of_pos _ h)
theorem at_modS {z : Str} {n : Int} (h : 0 < (z.length : Int)) : (atI z.cps.toList (n % (z.length : Int))).isSome = true := by
  have e : z.cps.toList.length = z.length := (len_tl z).symm
  rw [← e] at h ⊢
  exact at_mod h
theorem at_S {z : Str} {n : Int} (h0 : 0 ≤ n) (h : n < (z.length : Int)) : (atI z.cps.toList n).isSome = true := at_in h0 (by
  have e : z.cps.toList.length = z.length := (len_tl z).symm
  rw [e]; exact h)
theorem at_3 {α : Type} {a b c : α} {n : Int} : (atI [a, b, c] (n % 3)).isSome = true := at_in (Int.emod_nonneg _ (by decide)) (Int.emod_lt_of_pos n (by decide))
theorem getI_3 {α : Type} [Inhabited α] {a b c : α} {n : Int} (P : α → Prop) (ha : P a) (hb : P b) (hc : P c) : P (getI [a, b, c] (n % 3)) := by
  have h := getI_mem (at_3 (a := a) (b := b) (c := c) (n := n))
  rcases List.mem_cons.mp h with e | h
  · rw [e]; exact ha
  · rcases List.mem_cons.mp h with e | h
    · rw [e]; exact hb
    · rw [List.mem_singleton.mp h]; exact hc
theorem asc_one {c : Nat} (h : c < 128) : Asc ⟨#[c]⟩ := fun d hd => by
  have e : d = c := List.mem_singleton.mp hd
  rw [e]; exact h
theorem lower_one {c : Nat} (h : c < 128) : Txt.lower ⟨#[c]⟩ = ⟨#[lo1 c]⟩ := tl_inj (lower_tl (asc_one h))
theorem upper_one {c : Nat} (h : c < 128) : Txt.upper ⟨#[c]⟩ = ⟨#[up1 c]⟩ := tl_inj (upper_tl (asc_one h))
theorem rot_perm {α : Type} (l : List α) {a : Int} (h : 0 ≤ a) : (cutL l (some a) none ++ cutL l none (some a)).Perm l := by
  rw [cut_from l h, cut_to l h]
  refine (List.perm_append_comm).trans ?_
  rw [List.take_append_drop]
/-- what a list of a comprehension's items keeps -/
theorem mem_map_all {α β : Type} {f : α → β} {l : List α} {P : β → Prop} (h : ∀ x ∈ l, P (f x)) : ∀ y ∈ l.map f, P y := fun y hy => by
  obtain ⟨x, hx, e⟩ := List.mem_map.mp hy
  rw [← e]; exact h x hx
end RL

set_option Elab.async false
set_option linter.all false
set_option maxRecDepth 100000
set_option maxHeartbeats 4000000
namespace RL
open PySem PySem.Spec PyProof.Rows L2
open Rep (rep)
/-! ### tuples: parts, sums, ==, tuple(..) of a list; texts times a number; isinstance; is True -/
section
variable {X : Cx} {K : PySem.W.Frag}
theorem sl_tupK (h : X.K = K := by rfl) : SlR X (rSlA K) := by subst h; exact sl_tupA
theorem op_catTK (h : X.K = K := by rfl) : OpR X (binaryOp .Add) (rCatA K) := by subst h; exact op_catA
theorem op_eqK (hu : X.A.units + 64 < cLine) (h : X.K = K := by rfl) : OpR X (compareOp .Eq) (rEqD K) := by subst h; exact op_eqD hu
theorem op_neK (hu : X.A.units + 64 < cLine) (h : X.K = K := by rfl) : OpR X (compareOp .NotEq) (rNeD K) := by subst h; exact op_neD hu
theorem call_tupleK (h : X.K = K := by rfl) : CallR X (.type "tuple") (fun xs H Q => ∃ p ys, xs = [.ref p] ∧ ((SqL K H p ys ∧ ∀ l, H l = none → Q (.ref l) (upd H l (.tup ys))) ∨ (SqT K H p ys ∧ Q (.ref p) H))) := by subst h; exact call_tuple_of
theorem call_isiK (h : X.K = K := by rfl) : CallR X (.builtin "isinstance") (rIsi K) := by subst h; exact call_isi
def rMulS : R2 := fun x y H Q => ∃ i n, x = .str i ∧ y = .int n ∧ 0 ≤ n ∧ n < 16777216 ∧ i.length * n.toNat ≤ sizeLine ∧ Q (.str (mulS i n)) H
theorem mulS_one {x : Str} : mulS x 1 = x := by
  obtain ⟨⟨l⟩⟩ := x
  show Str.mk (List.replicate 1 l).flatten.toArray = _
  rw [List.replicate_succ, List.replicate_zero, List.flatten_cons, List.flatten_nil, List.append_nil]
theorem mulS_nil {x : Str} {n : Int} (h : (x.length == 0) = true) : mulS x n = x := by
  obtain ⟨⟨l⟩⟩ := x
  have e : l.length = 0 := by
    have : (Str.mk ⟨l⟩).length = l.length := rfl
    rw [this] at h
    exact beq_iff_eq.mp h
  have e2 : l = [] := List.eq_nil_of_length_eq_zero e
  subst e2
  show Str.mk (List.replicate n.toNat []).flatten.toArray = _
  have : (List.replicate n.toNat ([] : List Nat)).flatten = [] := by
    induction n.toNat with
    | zero => rfl
    | succ k ih => rw [List.replicate_succ, List.flatten_cons, ih]; rfl
  rw [this]
theorem mulS_zero {x : Str} {n : Int} (h : n < 1) : mulS x n = Str.empty := by
  show Str.mk (List.replicate n.toNat x.cps.toList).flatten.toArray = _
  rw [show n.toNat = 0 by omega]
  rfl
theorem mulS_fold {x : Str} {n : Int} : mulS x n = ⟨(List.replicate n.toNat x.cps).foldl (· ++ ·) #[]⟩ := by
  have h := fold_cps n.toNat x.cps #[]
  show Str.mk (List.replicate n.toNat x.cps.toList).flatten.toArray = _
  rw [← Array.toArray_toList (xs := (List.replicate n.toNat x.cps).foldl (· ++ ·) #[]), h]
  rfl
theorem mulS_len (x : Str) (n : Int) : (mulS x n).length = x.length * n.toNat := by
  obtain ⟨⟨l⟩⟩ := x
  show (List.replicate n.toNat l).flatten.toArray.size = l.length * n.toNat
  rw [List.size_toArray]
  induction n.toNat with
  | zero => rfl
  | succ k ih => rw [List.replicate_succ, List.flatten_cons, List.length_append, ih, Nat.mul_succ]; omega
theorem op_repS : OpR X (binaryOp .Mult) rMulS := by
  intro pins s σ H x y v u Q I rx ry h
  obtain ⟨i, n, rfl, rfl, hn, hn2, hz, q⟩ := h
  obtain ⟨t, rfl⟩ := rx
  obtain ⟨t', rfl⟩ := ry
  have f1 : ¬ n < -(2 ^ 63 : Int) := by omega
  have f2 : ¬ n ≥ 2 ^ 63 := by omega
  refine P.mul_str (by rw [decide_eq_false f1, decide_eq_false f2]; rfl) (fun h1 _ => ?_) (fun _ _ => decide_eq_false (by omega)) ?_
  · have hp : 0 < n := by omega
    have h2 : (i.length : Int) * n ≤ (sizeLine : Int) := by
      have e : ((i.length * n.toNat : Nat) : Int) = (i.length : Int) * n := by
        rw [Int.natCast_mul, Int.toNat_of_nonneg hn]
      rw [← e]
      exact Int.ofNat_le.mpr hz
    intro z
    have h3 : ((2 ^ 63 - 1 : Int) / n + 1) * n > 2 ^ 63 - 1 := by
      have := Int.lt_ediv_add_one_mul_self (2 ^ 63 - 1 : Int) hp
      exact this
    have h4 : ((2 ^ 63 - 1 : Int) / n + 1) * n ≤ (i.length : Int) * n := Int.mul_le_mul_of_nonneg_right (by omega) hn
    rw [sizeLine_eq] at h2
    omega
  · by_cases h1 : n < 1
    · rw [if_pos h1]
      rw [mulS_zero h1] at q
      exact ⟨by decide, ⟨.str Str.empty, H, I.tok _, ⟨_, rfl⟩, q⟩⟩
    · rw [if_neg h1]
      by_cases h2 : (n == 1 || i.length == 0) = true
      · rw [if_pos h2]
        have e : mulS i n = i := by
          rcases Bool.or_eq_true_iff.mp h2 with a | a
          · rw [show n = 1 from beq_iff_eq.mp a]; exact mulS_one
          · exact mulS_nil a
        rw [e] at q
        exact ⟨.str i, H, I, ⟨_, rfl⟩, q⟩
      · rw [if_neg h2]
        rw [mulS_fold] at q
        exact ⟨by rw [← mulS_fold]; exact Nat.le_trans (Nat.le_of_eq (mulS_len i n)) hz, ⟨.str _, H, I.tok _, ⟨_, rfl⟩, q⟩⟩
end
section
variable [Tb] {α β γ : Type} [Rep α] [Rep β] [Rep γ] {K : PySem.W.Frag} {σ : L2.St} {G G' : Hp} {te ta tb tc : TE} {tt tu : TT} {x : α} {y : β} {z : γ} {b c : Bool} {i : Nat} {v : V} {ts tr : TA}
theorem ev_repS {s : Str} {n : Int} (ha : EvR K ta σ G s) (hb : EvR K tb σ G n) (h : 0 ≤ n ∧ n < 16777216 ∧ s.length * n.toNat ≤ sizeLine) : EvR K (tOp rMulS ta tb) σ G (mulS s n) :=
  ev_op ha hb fun v w G1 H1 _ s hv hw Q q => ⟨_, n, hv, hw, h.1, h.2.1, h.2.2, q _ G1 H1 (Grow.refl s) rfl⟩
theorem ev_slT {l : Tpl α} {tl th : TO} {lo hi : Option Int} (ha : EvR K ta σ G l) (hl : EvO K tl σ G lo) (hh : EvO K th σ G hi) : EvR K (tSl (rSlA K) ta tl th) σ G (Tpl.mk (cutL l.l lo hi)) := fun H e Q q =>
  ha H e _ fun v G1 H1 g1 r1 => hl.mono g1.g H1 g1.s _ fun G2 H2 g2 => hh.mono (g1.g.trans g2.g) H2 g2.s _ fun G3 H3 g3 => by
    obtain ⟨a, xs, ev, hA, r⟩ := up (g2.g.trans g3.g) r1
    refine ⟨a, xs, ev, sqT_mono g3.s.get hA, fun hw => ?_, fun hw p hp => ?_⟩
    · have e1 : cutL l.l lo hi = l.l := by
        unfold cutL
        rw [paired_len r, hw.1, hw.2, Nat.sub_zero, List.drop_zero, ← paired_len r, List.take_length]
      exact q _ _ _ ((g1.trans g2).trans g3) ⟨a, xs, rfl, hA, by show Reps K (cutL l.l lo hi) xs G3; rw [e1]; exact r⟩
    · exact q _ _ _ (((g1.trans g2).trans g3).trans (Grow.new g3.s hp)) ⟨p, cutL xs lo hi, rfl, SqT.of upd_same, Reps.up (same_upd (g3.s.free hp)) (cut_pair lo hi r)⟩
theorem ev_catT {l m : Tpl α} (ha : EvR K ta σ G l) (hb : EvR K tb σ G m) (hl : l.l.length + m.l.length ≤ sizeLine) : EvR K (tOp (rCatA K) ta tb) σ G (Tpl.mk (l.l ++ m.l)) :=
  ev_op ha hb fun v w G1 H1 _ s ⟨a, xs, ev, hA, r⟩ ⟨b, ys, ew, hB, r'⟩ Q q => by
    refine ⟨a, b, xs, ys, ev, ew, sqT_mono s.get hA, sqT_mono s.get hB, by rw [← paired_len r, ← paired_len r']; exact hl, fun hx => ?_, fun _ hy => ?_, fun _ _ p hp => ?_⟩
    · subst hx
      have e : l.l = [] := List.eq_nil_of_length_eq_zero (paired_len r)
      exact q _ G1 H1 (Grow.refl s) ⟨b, ys, rfl, hB, by show Reps K (l.l ++ m.l) ys G1; rw [e]; exact r'⟩
    · subst hy
      have e : m.l = [] := List.eq_nil_of_length_eq_zero (paired_len r')
      exact q _ G1 H1 (Grow.refl s) ⟨a, xs, rfl, hA, by show Reps K (l.l ++ m.l) xs G1; rw [e, List.append_nil]; exact r⟩
    · exact q _ _ _ (Grow.new s hp) ⟨p, xs ++ ys, rfl, SqT.of upd_same, paired_append (r.up (same_upd (s.free hp))) (r'.up (same_upd (s.free hp)))⟩
theorem ev_tupleL {l : List α} (ha : EvR K ta σ G l) : EvR K (tCB (fun xs H Q => ∃ p ys, xs = [.ref p] ∧ ((SqL K H p ys ∧ ∀ l, H l = none → Q (.ref l) (upd H l (.tup ys))) ∨ (SqT K H p ys ∧ Q (.ref p) H))) (tCons ta tNil)) σ G (Tpl.mk l) := fun H e Q q =>
  ha H e _ fun v G1 H1 g1 ⟨a, xs, ev, hA, r⟩ => ⟨a, xs, by rw [ev], .inl ⟨SqL.of (g1.s _ _ hA), fun p hp => q _ _ _ (g1.trans (Grow.new g1.s hp)) ⟨p, xs, rfl, SqT.of upd_same, r.up (same_upd (g1.s.free hp))⟩⟩⟩
/-- texts that may be laid -/
def TOk (l : List Str) : Prop := ∀ p ∈ l, PyData.strOk p = true
theorem dp_texts {H : Hp} : ∀ (l : List Str), DpAll K H (l.map Flat.toV) (l.map PyData.str)
  | [] => .nil
  | x :: l => .cons (.str x) (dp_texts l)
theorem lay_texts : ∀ (l : List Str), TOk l → PyData.canLayAll0 (l.map PyData.str) = true
  | [], _ => rfl
  | x :: l, h => by
    show (PyData.canLay0 (.str x) && PyData.canLayAll0 (l.map PyData.str)) = true
    rw [lay_texts l fun p hp => h p (.tail _ hp), Bool.and_true]
    exact h x List.mem_cons_self
theorem depth_texts : ∀ (l : List Str), PyData.depthAll (l.map PyData.str) = 0
  | [] => rfl
  | x :: l => by
    show max (PyData.depth (.str x)) (PyData.depthAll (l.map PyData.str)) = 0
    rw [depth_texts l]
    rfl
theorem shaped_texts {l : List Str} (h : TOk l) : SeqAt.shaped (.tuple (l.map PyData.str)) = true := by
  unfold SeqAt.shaped
  rw [show PyData.canLay0 (.tuple (l.map PyData.str)) = PyData.canLayAll0 (l.map PyData.str) from rfl, lay_texts l h,
    show PyData.depth (.tuple (l.map PyData.str)) = PyData.depthAll (l.map PyData.str) + 1 from rfl, depth_texts l]
  rfl
theorem eqv_texts : ∀ (l m : List Str), PyData.eqvAll (l.map PyData.str) (m.map PyData.str) = decide (l = m)
  | [], [] => rfl
  | [], _ :: _ => rfl
  | _ :: _, [] => rfl
  | x :: l, y :: m => by
    show (PyData.eqv (.str x) (.str y) && PyData.eqvAll (l.map PyData.str) (m.map PyData.str)) = _
    rw [eqv_texts l m, show PyData.eqv (.str x) (.str y) = decide (x = y) from Flat.eqv x y, ← Bool.decide_and]
    exact decide_eq_decide.mpr ⟨fun h => by rw [h.1, h.2], fun h => by cases h; exact ⟨rfl, rfl⟩⟩
theorem dp_tpl {H : Hp} {t : Tpl Str} {v : V} (s : Sub G H) (h : rep K t v G) : Dp K H v (.tuple (t.l.map PyData.str)) := by
  obtain ⟨a, xs, ev, hA, r⟩ := h
  have e := reps_flat r
  subst e
  rw [ev]
  exact .tup (sqT_mono s.get hA) (dp_texts t.l)
theorem ev_eqT {l m : Tpl Str} (ha : EvR K ta σ G l) (hb : EvR K tb σ G m) (hl : TOk l.l ∧ TOk m.l) : EvR K (tOp (rEqD K) ta tb) σ G (eqB l.l m.l) :=
  ev_op ha hb fun v w G1 H1 _ s hv hw Q q => ⟨_, _, dp_tpl s hv, dp_tpl s hw, shaped_texts hl.1, shaped_texts hl.2, by
    rw [show PyData.eqv (.tuple (l.l.map PyData.str)) (.tuple (m.l.map PyData.str)) = PyData.eqvAll (l.l.map PyData.str) (m.l.map PyData.str) from rfl, eqv_texts]
    exact q _ G1 H1 (Grow.refl s) rfl⟩
theorem ev_neT {l m : Tpl Str} (ha : EvR K ta σ G l) (hb : EvR K tb σ G m) (hl : TOk l.l ∧ TOk m.l) : EvR K (tOp (rNeD K) ta tb) σ G (!eqB l.l m.l) :=
  ev_op ha hb fun v w G1 H1 _ s hv hw Q q => ⟨_, _, dp_tpl s hv, dp_tpl s hw, shaped_texts hl.1, shaped_texts hl.2, by
    rw [show PyData.eqv (.tuple (l.l.map PyData.str)) (.tuple (m.l.map PyData.str)) = PyData.eqvAll (l.l.map PyData.str) (m.l.map PyData.str) from rfl, eqv_texts]
    exact q _ G1 H1 (Grow.refl s) rfl⟩
/-- x is True, x is not False -/
abbrev rIsB : R2 := fun x y H Q => ∃ a b, x = .bl a ∧ y = .bl b ∧ Q (.bl (decide (a = b))) H
abbrev rIsNB : R2 := fun x y H Q => ∃ a b, x = .bl a ∧ y = .bl b ∧ Q (.bl (!decide (a = b))) H
theorem ev_isB (ha : EvR K ta σ G b) (hb : EvR K tb σ G c) : EvR K (tOp rIsB ta tb) σ G (eqB b c) :=
  ev_op ha hb fun v w G1 H1 _ s hv hw Q q => ⟨b, c, hv, hw, q _ G1 H1 (Grow.refl s) rfl⟩
theorem ev_isNB (ha : EvR K ta σ G b) (hb : EvR K tb σ G c) : EvR K (tOp rIsNB ta tb) σ G (!eqB b c) :=
  ev_op ha hb fun v w G1 H1 _ s hv hw Q q => ⟨b, c, hv, hw, q _ G1 H1 (Grow.refl s) rfl⟩
theorem tyX_tup {H : Hp} {a : Addr} {xs : List V} (h : SqT K H a xs) : TyX K H (.ref a) (.type "tuple") := by
  rcases h with h | ⟨o, _, _, h, hc, _⟩
  · rcases h with h | ⟨o, h⟩
    · exact .base (.tup h)
    · exact .fTuple h
  · exact .kTuple h hc
theorem ev_isTup {l : Tpl α} (ha : EvR K ta σ G l) : EvR K (tCB (rIsi K) (tCons ta (tCons (tC (.ty "tuple")) tNil))) σ G true := fun H e Q q =>
  ha H e _ fun v G1 H1 g1 ⟨a, xs, ev, hA, r⟩ => ⟨v, .ty "tuple", .type "tuple", .type "tuple", true, rfl, .ty _, by rw [ev]; exact tyX_tup (sqT_mono g1.s.get hA), kit_ty (by decide +kernel), q _ G1 H1 g1 rfl⟩
theorem ev_isBool (ha : EvR K ta σ G b) : EvR K (tCB (rIsi K) (tCons ta (tCons (tC (.ty "bool")) tNil))) σ G true := fun H e Q q =>
  ha H e _ fun v G1 H1 g1 r => ⟨v, .ty "bool", .type "bool", .type "bool", true, rfl, .ty _, by rw [show v = V.bl b from r]; exact .base (.bl b), kit_ty (by decide +kernel), q _ G1 H1 g1 rfl⟩
theorem ev_joinT {s : Str} {l : Tpl Str} (ha : EvR K ta σ G s) (hb : EvR K tb σ G l) (h : (l.l.map (·.length)).sum + l.l.length * s.length ≤ 16777216) :
    EvR K (tM1 (fun x xs H Q => ∃ a p, ∃ ys : List Str, x = .str a ∧ xs = [.ref p] ∧ (SqL K H p (ys.map V.str) ∨ SqT K H p (ys.map V.str)) ∧ (ys.map (·.length)).sum + ys.length * a.length ≤ 16777216 ∧ Q (.str (Txt.join a ys)) H) ta tb) σ G (Txt.join s l.l) := fun H e Q q =>
  ha H e _ fun v G1 H1 g1 r1 => ⟨⟨s, r1⟩, hb.mono g1.g H1 g1.s _ fun w G2 H2 g2 ⟨a, xs, ev, hA, r2⟩ => ⟨s, a, l.l, r1, by rw [ev], .inr (by
    have e := reps_flat r2
    subst e
    exact sqT_mono g2.s.get hA), h, q _ G2 H2 (g1.trans g2) rfl⟩⟩
/-! ### one of two kinds -/
def getL [Inhabited α] (s : Sum α β) : α := match s with
  | .inl x => x
  | .inr _ => default
def getR [Inhabited β] (s : Sum α β) : β := match s with
  | .inl _ => default
  | .inr x => x
theorem ev_inl [Inhabited α] {s : Sum α β} (h : EvR K te σ G s) (hs : s.isLeft = true) : EvR K te σ G (getL s) := by
  cases s with
  | inl x => exact h
  | inr x => cases hs
theorem ev_inr [Inhabited β] {s : Sum α β} (h : EvR K te σ G s) (hs : s.isRight = true) : EvR K te σ G (getR s) := by
  cases s with
  | inl x => cases hs
  | inr x => exact h
instance : Inhabited (Tpl α) := ⟨⟨[]⟩⟩
/-- for a, b in pairs: the pair taken apart -/
theorem pair_apart {p : α × β} {σ' : L2.St} {H : Hp} {Q : L2.St → Hp → Prop} {i j : Nat} {v : V} (r : rep K p v G) (s : Sub G H) (k : ∀ u w, rep K p.1 u G → rep K p.2 w G → Q ((σ'.set i (some u)).set j (some w)) H) :
    gTup K 2 (gCons (gName i) (gCons (gName j) gNil)) v σ' H Q := by
  obtain ⟨a, u, w, ev, hA, r1, r2⟩ := r
  exact ⟨a, [u, w], ev, sqT_mono s.get hA, rfl, u, [w], rfl, w, [], rfl, rfl, k u w r1 r2⟩
end
/-! ### words with spaces between -/
section
open TL
variable {t w l : Str} {L : List Str} {n : Int}
theorem s_assoc (a b c : Str) : a ++ b ++ c = a ++ (b ++ c) := tl_inj (by rw [tl_append, tl_append, tl_append, tl_append, List.append_assoc])
theorem s_nil (a : Str) : a ++ ("" : Str) = a := tl_inj (by rw [tl_append, show tl ("" : Str) = [] by decide +kernel, List.append_nil])
theorem s_nil0 (a : Str) : ("" : Str) ++ a = a := tl_inj (by rw [tl_append, show tl ("" : Str) = [] by decide +kernel, List.nil_append])
theorem s_empty : (Str.empty : Str) = ("" : Str) := by decide +kernel
theorem join_cons2 (y x z : Str) (r : List Str) : Txt.join y (x :: z :: r) = x ++ y ++ Txt.join y (z :: r) := by rw [join_eq, join_eq]; rfl
theorem join_one (y x : Str) : Txt.join y [x] = x := by rw [join_eq]; rfl
theorem join_snoc (y : Str) : ∀ (l : List Str) (a m : Str), Txt.join y (l ++ [a] ++ [m]) = Txt.join y (l ++ [a]) ++ y ++ m
  | [], a, m => by
    show Txt.join y [a, m] = Txt.join y [a] ++ y ++ m
    rw [join_cons2, join_one, join_one]
  | [x], a, m => by
    show Txt.join y [x, a, m] = Txt.join y [x, a] ++ y ++ m
    rw [join_cons2, join_cons2, join_cons2, join_one, join_one]
    simp only [s_assoc]
  | x :: z :: r, a, m => by
    show Txt.join y (x :: z :: (r ++ [a] ++ [m])) = Txt.join y (x :: z :: (r ++ [a])) ++ y ++ m
    rw [join_cons2, join_cons2, show z :: (r ++ [a] ++ [m]) = (z :: r) ++ [a] ++ [m] from rfl, join_snoc y (z :: r) a m, show z :: (r ++ [a]) = (z :: r) ++ [a] from rfl]
    simp only [s_assoc]
theorem join_last (y : Str) (w : Str) : ∀ (l : List Str) (a : Str), Txt.join y (l ++ [a]) ++ w = Txt.join y (l ++ [a ++ w])
  | [], a => by
    show Txt.join y [a] ++ w = Txt.join y [a ++ w]
    rw [join_one, join_one]
  | [x], a => by
    show Txt.join y [x, a] ++ w = Txt.join y [x, a ++ w]
    rw [join_cons2, join_cons2, join_one, join_one, s_assoc]
  | x :: z :: r, a => by
    show Txt.join y (x :: z :: (r ++ [a])) ++ w = Txt.join y (x :: z :: (r ++ [a ++ w]))
    rw [join_cons2, join_cons2, s_assoc, show z :: (r ++ [a]) = (z :: r) ++ [a] from rfl, join_last y w (z :: r) a]
    rfl
theorem tl_sp : tl (" " : Str) = [32] := by decide +kernel
/-- the text's parts between single spaces: L, the last one l -/
structure Pt (t : Str) (L : List Str) (l : Str) : Prop where
  eq : t = Txt.join (" " : Str) (L ++ [l])
  no : ∀ p ∈ L ++ [l], 32 ∉ tl p
theorem Pt.split (h : Pt t L l) : Txt.split t (" " : Str) = L ++ [l] := by
  rw [h.eq]
  exact split_join tl_sp (by decide +kernel) (by simp) h.no
theorem pt_nil : Pt ("" : Str) [] ("" : Str) := ⟨by decide +kernel, fun p hp => by rw [List.mem_singleton.mp hp]; decide +kernel⟩
theorem Pt.sp (h : Pt t L l) : Pt (t ++ (" " : Str)) (L ++ [l]) ("" : Str) := ⟨by rw [join_snoc, s_nil, h.eq], fun p hp => by
  rcases List.mem_append.mp hp with q | q
  · exact h.no p q
  · rw [List.mem_singleton.mp q]; decide +kernel⟩
theorem Pt.word (h : Pt t L l) (hw : 32 ∉ tl w) : Pt (t ++ w) L (l ++ w) := ⟨by rw [h.eq, join_last], fun p hp => by
  rcases List.mem_append.mp hp with q | q
  · exact h.no p (List.mem_append_left _ q)
  · rw [List.mem_singleton.mp q, tl_append]
    intro z
    rcases List.mem_append.mp z with z | z
    · exact h.no l (List.mem_append_right _ List.mem_cons_self) z
    · exact hw z⟩
/-- the parts that are not empty -/
def wds (l : List Str) : List Str := l.filter fun p => !eqB p ("" : Str)
theorem wds_snoc (l : List Str) (x : Str) (h : x ≠ ("" : Str)) : wds (l ++ [x]) = wds l ++ [x] := by
  unfold wds
  rw [List.filter_append, List.filter_cons_of_pos (by rw [show eqB x ("" : Str) = false from decide_eq_false h]; rfl)]
  rfl
theorem wds_nil (l : List Str) : wds (l ++ [("" : Str)]) = wds l := by
  unfold wds
  rw [List.filter_append, List.filter_cons_of_neg (by rw [eqB_self]; decide)]
  rw [List.filter_nil, List.append_nil]
theorem mulS_succ (x : Str) (k : Nat) : mulS x ((k + 1 : Nat) : Int) = mulS x (k : Int) ++ x := by
  refine tl_inj ?_
  rw [tl_append]
  show (List.replicate ((k + 1 : Nat) : Int).toNat x.cps.toList).flatten = (List.replicate ((k : Nat) : Int).toNat x.cps.toList).flatten ++ x.cps.toList
  rw [Int.toNat_natCast, Int.toNat_natCast, List.replicate_succ', List.flatten_append]
  simp
theorem Pt.sps : ∀ (k : Nat), Pt t L l → ∃ L' l', Pt (t ++ mulS (" " : Str) (k : Int)) L' l' ∧ wds (L' ++ [l']) = wds (L ++ [l]) ∧ ((1 ≤ k ∨ l = ("" : Str)) → l' = ("" : Str)) ∧ ∀ p ∈ L ++ [l], p ∈ L' ++ [l']
  | 0, h => ⟨L, l, by rw [mulS_zero (by decide), s_empty, s_nil]; exact h, rfl, fun q => q.elim (fun z => absurd z (by decide)) id, fun _ q => q⟩
  | k + 1, h => by
    obtain ⟨L', l', h1, h2, _, h4⟩ := Pt.sps k h
    refine ⟨L' ++ [l'], ("" : Str), ?_, by rw [wds_nil, h2], fun _ => rfl, fun p hp => List.mem_append_left _ (h4 p hp)⟩
    rw [mulS_succ, ← s_assoc]
    exact h1.sp
theorem Pt.spI (h0 : 0 ≤ n) (h : Pt t L l) : ∃ L' l', Pt (t ++ mulS (" " : Str) n) L' l' ∧ wds (L' ++ [l']) = wds (L ++ [l]) ∧ ((1 ≤ n ∨ l = ("" : Str)) → l' = ("" : Str)) ∧ ∀ p ∈ L ++ [l], p ∈ L' ++ [l'] := by
  obtain ⟨L', l', h1, h2, h3, h4⟩ := Pt.sps n.toNat h
  rw [Int.toNat_of_nonneg h0] at h1
  exact ⟨L', l', h1, h2, fun q => h3 (q.imp (fun z => by omega) id), h4⟩
end
end RL

set_option Elab.async false
set_option linter.all false
set_option maxRecDepth 100000
set_option maxHeartbeats 4000000
namespace RL
open PySem PySem.Spec PyProof.Rows L2 GxR
open Rep (rep)
/-! ### all(test for c in text): the test may name the module's names too -/
/-- the test of one sign, wherever the module's names stand as mg says and the built-in ones as they are -/
def EltM (pg : Program) (wd : World) (mg : Str → Option Value) (sc : Scope) (c : Str) (tst : Expr) (pb : Nat → Bool) : Prop :=
  ∀ (en : Env) (B : Around) (Z : Value → Shared → Prop) (k : Nat) (tk : Tok) (sh : Shared) (lm : Str → Option Value),
    en.scope = sc → en.globals = mainGlobals → sh.heap.Ns mainGlobals mg → sh.heap.Ns en.locals lm → lm c = some (.str ⟨#[k]⟩ tk) →
      wpAny (model pg wd) B (eval tst en) (fun u s3 => u = .bool (pb k) ∧ Keeps sh s3) Z sh
section
variable {X : Cx} {pins : List (Addr × Obj)} {σ : L2.St} {H : Hp} {s : Shared}
theorem gen_text {cd T : Addr} {tst src : Expr} {c : Str} {p1 p2 : Pos} {sc : Scope} {pb : Nat → Bool} {te : TE} {lv : Nat} {Z : Value → Shared → Prop} {R : Str → Hp → Prop}
    (room : Room lv X.A) (tb : TabB X.base X.mg cd T) (hcd : X.env.code = .ref cd) (gs : GenS X.env sc c) (hsrc : PE X src te)
    (htst : EltM X.prog X.w X.mg sc c tst pb) (hfold : ∀ u, genFold src X.env u = pure u) (I : Inv X pins σ H s)
    (start : te σ H fun v H1 => ∃ z : Str, v = .str z ∧ TabG H1 T ∧ R z H1)
    (fin : ∀ z H1 g s5, R z H1 → Ready X pins σ H1 T z pb g s5 → Z (.ref g) s5) :
    wpAny (model X.prog X.w) X.A (eval (.GeneratorExp tst [⟨.Name c p1, src, [], 0⟩] sc p2) X.env) Z X.xe s := by
  have hdepth : X.A.depth + 5 < recursionLimit := by
    have := room.dp
    omega
  refine wpAny_GeneratorExp_walksQ room.hd gs.co (closure_ok gs.free) gs.cell gs.dot gs.loc gs.kind (by have := room.dp; omega)
    (thn (hsrc.run pins s σ H _ I start) fun vx sa ⟨v, HA, IA, rv, ⟨z, ez, ⟨ps, eT, trs⟩, hR⟩⟩ => ?_) hfold
  subst ez
  obtain ⟨tz, rfl⟩ := _root_.id rv
  refine wpAny_pyIter_str fun nw St W st0 => ?_
  -- the table, ahead of the iterator and behind it
  have tA : sa.heap.get? T = some { cls := .none, data := .fields ps } := IA.hok T _ eT
  have tB : (sa.heap.push nw).get? T = some { cls := .none, data := .fields ps } := Heap.get?_push_of_some _ tA
  have ltT : T < sa.heap.objs.size := Heap.lt_size tA
  have cdB : PySem.W.CodeHd (sa.heap.push nw) cd T := tb.code.keeps fun b u q => Heap.get?_push_of_some _ (IA.bk b u q)
  have limB : (sa.heap.push nw).NoLimit := IA.nolimit.push nw
  have sizeB : (sa.heap.push nw).objs.size = sa.heap.objs.size + 1 := Heap.size_push ..
  obtain ⟨nsS, ltS⟩ : cStatics ≠ T ∧ cStatics < sa.heap.objs.size := by
    obtain ⟨m0, n0, _⟩ := IA.nolimit
    refine ⟨fun q => ?_, n0.lt⟩
    obtain ⟨o0, es0, ep0, g0, d0, _⟩ := n0
    rw [q, tA] at g0
    cases g0
    cases d0
  -- from the state in which the code object is there
  have onward : ∀ (cv : Value) (hp : Heap) (k : Nat) (qs : Array Value), Heap.ExtBut T (sa.heap.push nw) hp →
      (sa.heap.push nw).objs.size ≤ hp.objs.size → hp.get? T = some { cls := .none, data := .fields qs } → (∃ more, qs = ps ++ more) → TriplesOk qs.toList →
      wpAny (model X.prog X.w) X.A (builtinsFor X.env.globals X.env.builtins)
        (fun bi s4 => ∃ Ia fp wr n₀ Pf St₀ pz F, Value.ref sa.heap.objs.size = .ref Ia ∧ (∀ A' : Around, A'.handled = none → Walks X.prog X.w A' Ia fp wr n₀ Pf St₀) ∧
          St₀ 0 s4.heap ∧ (∀ b ∈ fp, b < s4.heap.objs.size) ∧ s4.heap.NoLimit ∧ cStatics ∉ wr ∧
          (∀ ref : Heap, (∀ b o, s4.heap.get? b = some o → ref.get? b = some o) →
            QuietGen X.prog X.w (genEnv sc (cloFrom X.env.cells sc.names []) s4.heap.objs.size cv bi X.env) c [] tst (List.range s4.heap.objs.size) wr Pf pz F ref) ∧
          (∀ ga h5 tk gn, gn.bare = true → s4.heap.objs.size < ga → h5.objs.size = ga + 1 → (∀ b o, s4.heap.get? b = some o → h5.get? b = some o) →
            WalksS X.prog X.w X.A.in4 ga (ga :: s4.heap.objs.size :: List.range s4.heap.objs.size) (s4.heap.objs.size :: wr) (GenOnlyQ s4.gens.size) (passing pz n₀ 0).length
              (fun j y => ∃ i, (passing pz n₀ 0)[j]? = some i ∧ F i y)
              (GenAt X.prog X.w X.A.in4 ga s4.gens.size s4.heap.objs.size (List.range s4.heap.objs.size) wr pz n₀ F) →
            GenAt X.prog X.w X.A.in4 ga s4.gens.size s4.heap.objs.size (List.range s4.heap.objs.size) wr pz n₀ F 0 { s4 with gens := s4.gens.push gn, toks := tk, heap := h5 } →
            Z (.ref ga) { s4 with gens := s4.gens.push gn, toks := tk, heap := h5 }))
        X.xe { sa with heap := hp, toks := k } := by
    intro cv hp k qs ext grown tC ⟨more, em⟩ trC
    have keepC : ∀ b u, b ≠ T → sa.heap.get? b = some u → hp.get? b = some u := fun b u nb q => ext b u nb (Heap.get?_push_of_some _ q)
    obtain ⟨bm, ob, b1, b2, b3, b4, b5, b6, b7, b8⟩ := tb.bm
    have globC : hp.Ns mainGlobals X.mg := ((IA.mod.glob.keeps IA.bk).push nw).extBut ext tb.gP
    refine wpAny_builtinsFor (m := X.mg) (by rw [IA.ok.glob]; exact globC) b1 b2 (keepC _ _ b4 (IA.bk _ _ b5)) b6 b7 b8 ?_
    refine ⟨sa.heap.objs.size, [sa.heap.objs.size], [sa.heap.objs.size], z.cps.size, SignAt z, St, fun _ => true,
      fun i y => ∃ k', z.cps[i]? = some k' ∧ y = .bool (pb k'), rfl, W, ?_, fun b hb => ?_, limB.extBut ext nsS, fun q => ?_, ?_, ?_⟩
    · refine (W X.A room.hd).frame _ _ _ st0 fun b hb u q => ext b u (fun q2 => ?_) q
      rw [List.mem_singleton] at hb
      rw [hb] at q2
      exact Nat.ne_of_lt ltT q2.symm
    · rw [List.mem_singleton] at hb
      rw [hb]
      show sa.heap.objs.size < hp.objs.size
      omega
    · rw [List.mem_singleton] at q
      exact Nat.ne_of_lt ltS q
    · intro ref href
      refine ⟨fun B E2 i v s2 m2 _ _ _ _ _ => ?_, fun B E2 i v s2 m2 _ hsign _ hns hmc hkeep => ?_⟩
      · rw [List.forIn_nil]
        exact wpAny_pure ⟨rfl, keeps_refl _⟩
      · obtain ⟨k', tk', hk', rfl⟩ := hsign
        have glob2 : s2.heap.Ns mainGlobals X.mg := by
          obtain ⟨o1, es1, ep1, g1, rest⟩ := globC
          refine ⟨o1, es1, ep1, hkeep mainGlobals ?_ ?_ o1 (href _ _ g1), rest⟩
          · exact List.mem_range.mpr (Heap.lt_size g1)
          · intro q
            rw [List.mem_singleton] at q
            have g2 := IA.mod.glob.keeps IA.bk
            obtain ⟨o3, _, _, g3, _⟩ := g2
            have := Heap.lt_size g3
            rw [q] at this
            exact Nat.lt_irrefl _ this
        exact wpAny_mono (htst _ B E2 k' tk' s2 m2 rfl IA.ok.glob glob2 hns hmc) (fun y s3 r => ⟨⟨k', hk', r.1⟩, r.2⟩) fun _ _ q => q
    · intro ga h5 tk5 gn bareN ltG sz5 keep5 walk5 at5
      simp only [GxR.passing_true, List.length_range] at walk5
      refine fin z HA ga _ hR ⟨_, _, _, _, _, walk5.in4_1, at5, ?_, fun s' mv => ?_⟩
      · intro j y sj Qj Ej hy hQj
        obtain ⟨i, hij, k', hk', rfl⟩ := hy
        obtain ⟨hj, ej⟩ := List.getElem?_eq_some_iff.mp hij
        rw [List.getElem_range] at ej
        subst ej
        have hkl : z.cps.toList[j]? = some k' := by
          rw [Array.getElem?_toList]
          exact hk'
        have hQ2 : Qj (trF pb z.cps.toList j) sj := hQj
        rw [trF_some hkl] at hQ2
        exact wpAny_truthy_bool hQ2
      · have apart : ∀ b u, sa.heap.get? b = some u → b ∉ hp.objs.size :: [sa.heap.objs.size] := fun b u q hb => by
          have lt := Heap.lt_size q
          have : sa.heap.objs.size < hp.objs.size := by omega
          rcases List.mem_cons.mp hb with e | e
          · rw [e] at lt
            exact Nat.lt_asymm this lt
          · rw [List.mem_singleton.mp e] at lt
            exact Nat.lt_irrefl _ lt
        have J := inv_tab (more := more) (h' := s'.heap) (g' := s'.gens) (d' := s'.drawn) (t' := s'.toks) IA eT
          (fun b u nb q => mv.heap b u (apart b u q) (keep5 b u (keepC b u nb q)))
          (by rw [← em]; exact mv.heap T _ (apart T _ tA) (keep5 T _ tC)) (AllBare.movedS (IA.bare.push bareN) mv)
        rw [sh_eta sa s' mv.os] at J
        exact ⟨upd HA T (.tbl (ps ++ more)), ⟨⟨ps ++ more, upd_same, by rw [← em]; exact trC⟩, fun b nb => upd_ne nb⟩, J⟩
  refine ⟨limB, ?_⟩
  cases hf : codeAmong p2 ps.toList with
  | none =>
    refine wpAny_genexprCodeX hcd (cdB.code tB trs) (cdB.tab tB) hf fun cv hp tk ext ge lt co _ tab _ => ?_
    obtain ⟨_, _, _, _, _, _, _, _, _, _, _, _, _, _, _, _, _, _, _, trC, _⟩ := co
    exact onward _ hp tk _ ext (Nat.le_trans ge (Nat.le_of_lt lt)) tab.2 ⟨_, rfl⟩ trC
  | some cv =>
    refine wpAny_genexprCode_hit hcd (cdB.code tB trs) hf ?_
    exact onward cv (sa.heap.push nw) sa.toks ps (Heap.ExtBut.refl _ _) (Nat.le_refl _) tB ⟨#[], by simp⟩ trs
end
end RL
namespace RL
open PySem PySem.Spec PyProof.Rows L2 GxR
open Rep (rep)
section
variable {X : Cx} {pins : List (Addr × Obj)} {σ : L2.St} {H : Hp} {s : Shared}
theorem pe_allM {cd T : Addr} {tst src : Expr} {c : Str} {p1 p2 p3 pos : Pos} {sc : Scope} {pb : Nat → Bool} {te : TE} {lv : Nat}
    (room : Room lv X.A) (hg : Gl X "all") (hm : X.mg "all" = none) (hb : bootBuiltins "all" = some (.builtin "all")) (tb : TabB X.base X.mg cd T) (hcd : X.env.code = .ref cd) (gs : GenS X.env sc c) (hsrc : PE X src te)
    (htst : EltM X.prog X.w X.mg sc c tst pb) (hfold : ∀ u, genFold src X.env u = pure u)
    (hst : starEach [.GeneratorExp tst [⟨.Name c p1, src, [], 0⟩] sc p2] X.env = (false, eval (.GeneratorExp tst [⟨.Name c p1, src, [], 0⟩] sc p2) X.env) :: starEach [] X.env := by rfl) :
    PE X (.Call (.Name "all" p3) [.GeneratorExp tst [⟨.Name c p1, src, [], 0⟩] sc p2] [] pos) (tAllS T pb te) := by
  constructor
  intro pins s σ H Q I start
  refine wpAny_Call_Name_kw (ld_blt I hg hm hb (PyProof.Rows.callWith_builtin1 ?_ hst (by rfl)))
  rw [hst]
  show wpAny _ _ (spliced (_ :: backTo pos (starEach [] X.env))) _ _ s
  refine Calls.spliced_cons (gen_text (R := fun z H1 => ∀ H2, Tabbed T H1 H2 → Q (.bl (z.cps.toList.all pb)) H2) room tb hcd gs hsrc htst hfold I start fun z H1 g s5 hR ready => ?_)
  obtain ⟨fp, wr, G, F, St, W, at0, truth, back⟩ := ready
  refine Calls.spliced_nil (call_all_walkS (W.self 0 _ _ _ at0 ⟨g, fp, wr, G, _, F, St, _, rfl, W, at0, truth, fun s' mv => ?_⟩))
  obtain ⟨H2, t2, J⟩ := back s' mv
  exact ⟨.bl _, H2, J, rfl, by rw [all_signs z pb]; exact hR H2 t2⟩
end
section
variable [Tb] {K : PySem.W.Frag} {σ : L2.St} {G : Hp} {te : TE}
theorem ev_isStr {z : Str} (ha : EvR K te σ G z) : EvR K (tCB (rIsi K) (tCons te (tCons (tC (.ty "str")) tNil))) σ G true := fun H e Q q =>
  ha H e _ fun v G1 H1 g1 r => ⟨v, .ty "str", .type "str", .type "str", true, rfl, .ty _, by rw [show v = V.str z from r]; exact .base (.str z), kit_ty (by decide +kernel), q _ G1 H1 g1 rfl⟩
theorem genS_of {env : Env} {sc : Scope} {x : Str} (h1 : sc.kind = .function) (h2 : sc.isCoroutine = false) (h3 : ∀ y ∈ sc.names, y.2 ≠ .cell) (h4 : sc.names.lookup (".0" : Str) = some NameKind.local) (h5 : sc.names.lookup x = some .local) (h6 : ∀ y ∈ sc.names, y.2 ≠ .free) : GenS env sc x :=
  ⟨h1, h2, h3, h4, h5, fun y hy h => absurd h (h6 y hy)⟩
theorem ev_all {T : Addr} {pb : Nat → Bool} {z : Str} (hT : T ∈ Tb.ps) (h : EvR K te σ G z) : EvR K (tAllS T pb te) σ G (z.cps.toList.all pb) := fun H e Q q =>
  h H e _ fun v G1 H1 g1 r1 => ⟨z, r1, g1.s.t T hT, fun H2 t2 => q _ G1 H2 (g1.tab (g1.s.t T hT) t2) rfl⟩
end
/-! tests of a sign -/
section
variable {pg : Program} {wd : World} {mg : Str → Option Value} {sc : Scope} {c : Str}
theorem kp (s : Shared) (k : Nat) : Keeps s { s with toks := k } := keeps_tok s k
/-- c in NAME, a text that the module names -/
theorem elt_inG {x t : Str} {p1 p2 p3 : Pos} (hk : sc.kind = .function) (hl : sc.names.lookup c = some .local) (hx : sc.names.lookup x = some .globalImplicit) (hm : ∃ u, mg x = some u ∧ RelV (.str t) u)
    (hd : (c == ("__debug__" : Str)) = false := by decide) (hd2 : (x == ("__debug__" : Str)) = false := by decide) :
    EltM pg wd mg sc c (.Compare (.Name c p1) [.In] [.Name x p2] p3) (fun k => !(Builtin.Str.occurrences t ⟨#[k]⟩ 0 t.length 1).isEmpty) := by
  intro en B Z k tk sh lm e1 e2 hg hn hc
  obtain ⟨u, hu, tu, eu⟩ := hm
  subst eu
  subst e1
  refine wpAny_Compare1 (wpAny_Name (wpAny_loadName_local hk hl hn hc ?_) hd) (by rfl)
  refine Calls.Name_function_global hk hx (Calls.loadGlobal_global (by rw [e2]; exact hg) hu ?_) hd2
  exact PySem.P.in_str ⟨rfl, keeps_refl _⟩
/-- 'a' <= c <= 'z' -/
theorem elt_range {a b : Str} {j j2 : Nat} {p1 p2 p3 p4 : Pos} (hk : sc.kind = .function) (hl : sc.names.lookup c = some .local) (hd : (c == ("__debug__" : Str)) = false := by decide) :
    EltM pg wd mg sc c (.Compare (.Constant (.str a) j p1) [.LtE, .LtE] [.Name c p2, .Constant (.str b) j2 p3] p4) (fun k => !decide ([k] < a.cps.toList) && !decide (b.cps.toList < [k])) := by
  intro en B Z k tk sh lm e1 e2 hg hn hc
  subst e1
  refine Compare_chain (Calls.Constant_str ?_)
  refine chain_link (wpAny_Name (wpAny_loadName_local hk hl (show _ from hn) hc ?_) hd)
  refine PySem.P.le_str (wpAny_truthy_bool ?_)
  cases q : (!decide ([k] < a.cps.toList)) with
  | false =>
    refine ite_ff ⟨?_, kp _ _⟩
    show Value.bool false = Value.bool (!decide ([k] < a.cps.toList) && !decide (b.cps.toList < [k]))
    rw [q, Bool.false_and]
  | true =>
    refine ite_tt (chain_last (Calls.Constant_str (PySem.P.le_str ⟨?_, ?_⟩)))
    · show Value.bool (!decide (b.cps.toList < [k])) = Value.bool (!decide ([k] < a.cps.toList) && !decide (b.cps.toList < [k]))
      rw [q, Bool.true_and]
    · exact kp _ _
end
end RL
namespace RL
open PySem PySem.Spec PyProof.Rows L2 GxR
open Rep (rep)
/-! ### a def whose code object is known; the end of a row with such tables -/
theorem okC {P : Program} {w : World} {K : PySem.W.Frag} {mg : Str → Option Value} {base : Heap} {x qual : Str} {st : Stmt} {f c : Addr} {fd : FuncData} {N ps : List Str} {k : Nat} {sp : Sp} (F : Fun K x qual st f fd) (hc : fd.code = .ref c) (S : FnScope N ps (defScope st))
    (len : ∀ vs H Q E, sp vs H Q E → vs.length = ps.length)
    (body : ∀ (A : Around) (outer : List Env) (s : Shared) (H : Hp) (vs : List V) (Q : VK) (E : XK), Room k (A.deeper (envOfC qual (defScope st) s.heap.objs.size f (.ref c))) → sp vs H Q E →
      ∃ t, PSs (cxOf CX0 P w K mg base N qual (defScope st) f (.ref c) A outer s H E).nox (defBody st) t ∧ t { nx := fun _ H' => Q .non H', rt := Q } (start N vs) H) :
    FnOk P w K mg base CX0 (k + 1) f fd ps sp := by
  obtain ⟨oc, od, kV, doc, pm, an, cdv, ct, osl, e, lk, hcd⟩ := F.ex
  subst e
  have e2 : cdv = .ref c := hc
  subst e2
  refine fn_of lk hcd S len fun A outer s H vs Q E hr hs => ?_
  obtain ⟨t, h, q⟩ := body A outer s H vs Q E hr hs
  exact ⟨t, h.nox, q⟩
/-- H without the tables -/
def strip (H : Hp) : Hp := fun a => match H a with
  | some (.tbl _) => none
  | o => o
theorem strip_some {H : Hp} {a : Addr} {o : HO} (h : H a = some o) (n : noTb o) : strip H a = some o := by
  unfold strip
  rw [h]
  cases o with
  | tbl q => exact absurd rfl (n q)
  | _ => rfl
theorem strip_get {H : Hp} {a : Addr} {o : HO} (h : strip H a = some o) : H a = some o ∧ noTb o := by
  unfold strip at h
  cases q : H a with
  | none => rw [q] at h; cases h
  | some u =>
    rw [q] at h
    cases u with
    | tbl z => cases h
    | _ =>
      cases h
      exact ⟨rfl, fun z e => by cases e⟩
theorem law_start [Tb] {K : PySem.W.Frag} {H : Hp} {a : Addr} {ns : List Int} (hT : ∀ P ∈ Tb.ps, H P = some (.tbl #[])) (hS : SqL K H a (ns.map V.int)) : Sub (strip H) H ∧ rep K (Scr.mk ns) (V.ref a) (strip H) := by
  refine ⟨⟨fun b o h => strip_get h, fun P hP => ⟨#[], hT P hP, by trivial⟩⟩, a, rfl, ?_⟩
  rcases hS with (h | ⟨o, h⟩) | h
  · exact .inl (.inl (strip_some h fun q z => by cases z))
  · exact .inl (.inr ⟨o, strip_some h fun q z => by cases z⟩)
  · exact .inr h
theorem walk_tabs {l : PySem.W.OpenLaw} {q : Program} {loose : List Str} {XP : (Str → Option Value) → Heap → Prop} {YP : World → Heap → Prop} {d : DefRec} {K : Params → PySem.W.Frag} {lv nm : Nat}
    (hn : l.most = some nm) (hn2 : nm ≤ sizeLine) (hdf : d.params.defaults = []) (hr : Room lv callerA) (hY : ∀ (w : World) (h : Heap), YP w h → (K w.params).In h)
    (F : ∀ (w : World) (mg : Str → Option Value) (fa : Addr) (h : Heap), (K w.params).In h → h.Ns mainGlobals mg → mg d.name = some (.ref fa) →
      ∃ (fd : FuncData) (cs : List (Addr × Addr)) (sp : Sp), (∀ p ∈ cs, ∃ x e, (recsOf q).find? (fun r => r.name == x) = some e ∧ PySem.W.tabIn (K w.params) x = some p) ∧ (∀ p ∈ cs, (K w.params).lookup p.2 = none) ∧
        (∀ (s : Shared) (u : Value), BindsTo s fd ⟨[u], []⟩ [("script", u)]) ∧
        (∀ (H : Hp) (a : Addr) (ns : List Int), ns.length ≤ nm → (∀ p ∈ cs, H p.2 = some (.tbl #[])) → SqL (K w.params) H a (ns.map V.int) → sp [.ref a] H (fun v _ => v = .bl true) fun _ _ _ => False) ∧
        ∀ base : Heap, (K w.params).In base → base.Ns mainGlobals mg → (∀ p ∈ cs, TabB base mg p.1 p.2) → FnOk l.prog w (K w.params) mg base CX0 lv fa fd ["script"] sp) :
    PySem.W.WalkO q loose XP YP l.row.toRowW d [] (fun f vs => PySem.call f vs) := by
  refine Att.attach_callB hn hdf fun w s0 s1 mg mb fa o pm cd doc a vs ns G Y ho hd hcd hmg hobj hints hlen hbits hg => ?_
  have KX := hY w _ Y
  obtain ⟨fd, cs, sp, hx, nT, hb, hsp, hF⟩ := F w mg fa _ KX G.T.g hmg
  have tabs : ∀ p ∈ cs, PySem.W.CodeHd s1.heap p.1 p.2 ∧ s1.heap.get? p.2 = some { cls := .none, data := .fields #[] } := fun p hp => by
    obtain ⟨x, e, h1, h2⟩ := hx p hp
    exact PySem.W.tab_of G.T KX h1 h2
  exact LamX.law_callTs KX G.T.g G.T.b G.T.builtins G.T.nolimit hg (fun p hp => (tabs p hp).2) nT (fun p hp => (tabs p hp).1) G.T.bmain hobj hints (Nat.le_trans hlen hn2) hr (CX := CX0) (fun base b1 b2 b3 => hF base b1 b2 fun p hp => ⟨(b3 p hp).code, (b3 p hp).bm, (b3 p hp).gP⟩) hb
    (fun H hH hS => hsp H a ns hlen hH hS) fun H e s' z => z
end RL

set_option Elab.async false
set_option linter.all false
set_option maxRecDepth 100000
set_option maxHeartbeats 4000000
namespace RL
open PySem PySem.Spec PyProof.Rows L2 CwR
open Rep (rep)
/-! ### replace, f-strings, partition; data that may be None or a pair -/
section
variable [Tb] {K : PySem.W.Frag} {σ : L2.St} {G : Hp} {te ta tb : TE} {x y z : Str}
theorem ev_replC (h : EvR K te σ G x) (hz : x.length + (x.length + 1) * z.length ≤ 16777216) : EvR K (tReplC te y z) σ G (Txt.replace x y z) := fun H e Q q =>
  h H e _ fun v G1 H1 g1 r1 => ⟨x, r1, hz, q _ G1 H1 g1 rfl⟩
/-- the parts of an f-string: told one by one -/
def EvJ (ts : List TE) (acc : Str) (σ : L2.St) (G : Hp) (out : Str) : Prop := ∀ H, Sub G H → ∀ Q : Str → Hp → Prop, (∀ G2 H2, Grow G H G2 H2 → Q out H2) → tJs ts acc σ H Q
theorem ej_nil {acc : Str} : EvJ [] acc σ G acc := fun H e Q q => q G H (Grow.refl e)
theorem EvJ.mono {ts : List TE} {acc out : Str} {G2 : Hp} (h : EvJ ts acc σ G out) (e : Same G G2) : EvJ ts acc σ G2 out := fun H s Q q => h H (un e s) Q fun G3 H3 g => q _ H3 (grow_up g e s)
theorem ej_cons {ts : List TE} {acc out : Str} (h : EvR K te σ G x) (hz : (acc ++ x).length ≤ sizeLine) (r : EvJ ts (acc ++ x) σ G out) : EvJ (te :: ts) acc σ G out := fun H e Q q =>
  h H e _ fun v G1 H1 g1 r1 => ⟨x, r1, hz, (r.mono g1.g) H1 g1.s Q fun G2 H2 g2 => q G2 H2 (g1.trans g2)⟩
theorem ev_fmt (h : EvR K te σ G x) (hz : x.length ≤ sizeLine) : EvR K (tFmt te) σ G x := fun H e Q q => h H e _ fun v G1 H1 g1 r1 => .inl ⟨x, r1, hz, q _ G1 H1 g1 rfl⟩
theorem ev_joined {ts : List TE} {out : Str} (h : EvJ ts Str.empty σ G out) : EvR K (fun σ H Q => tJs ts Str.empty σ H fun out H1 => Q (.str out) H1) σ G out := fun H e Q q => h H e _ fun G1 H1 g1 => q _ G1 H1 g1 rfl
theorem ev_partition (ha : EvR K ta σ G x) (hb : EvR K tb σ G y) (h1 : (y.length == 0) = false) (h2 : x.length ≤ sizeLine) :
    EvR K (tM1 (fun x xs H Q => ∃ a b, x = .str a ∧ xs = [.str b] ∧ (b.length == 0) = false ∧ a.length ≤ sizeLine ∧
      ∀ p, H p = none → Q (.ref p) (upd H p (.tup [.str (Txt.partition a b).1, .str (Txt.partition a b).2.1, .str (Txt.partition a b).2.2]))) ta tb) σ G (T3.mk (Txt.partition x y).1 (Txt.partition x y).2.1 (Txt.partition x y).2.2) := fun H e Q q =>
  ha H e _ fun v G1 H1 g1 r1 => ⟨⟨x, r1⟩, hb.mono g1.g H1 g1.s _ fun w G2 H2 g2 r2 => ⟨x, y, r1, by rw [show w = V.str y from r2], h1, h2, fun p hp =>
    q _ _ _ ((g1.trans g2).trans (Grow.new g2.s hp)) ⟨p, _, _, _, rfl, SqT.of upd_same, rfl, rfl, rfl⟩⟩⟩
end
/-- name = value, a token out -/
theorem pst_asg {X : Cx} {i : Nat} {x : Str} {e : Expr} {te : TE} {p q : Pos} (nd : X.N.Nodup) (at_ : X.N[i]? = some x) (loc : Loc X.env.scope x) (val : PET X e te) (sw : swapsWith e (some (.Name x q)) p.line X.env = pure false := by rfl) (hf : X.fn x = true ∨ X.env.scope.names.lookup x = some .local := by first | exact .inl rfl | exact .inr rfl | assumption) :
    PST X (.Assign [.Name x q] e p) (tAsg te (gName i)) := fun pins s σ H D one I h =>
  wpAny_Assign_Name (thn (val pins s σ H _ one I h) fun _ s1 ⟨_, H1, I1, r1, q1⟩ => store_ok I1 nd at_ loc r1 (fun s2 I2 => ⟨_, H1, I2, q1⟩) hf) sw
/-- a def that begins with a token out -/
theorem okT {P : Program} {w : World} {K : PySem.W.Frag} {mg : Str → Option Value} {base : Heap} {x qual : Str} {st : Stmt} {f : Addr} {fd : FuncData} {N ps : List Str} {k : Nat} {sp : Sp} (F : Fun K x qual st f fd) (S : FnScope N ps (defScope st))
    (hnc : ∀ y ∈ (defScope st).names, y.2 ≠ .cell) (hps : 1 ≤ ps.length) (len : ∀ vs H Q E, sp vs H Q E → vs.length = ps.length)
    (body : ∀ (cdv : Value) (A : Around) (outer : List Env) (s : Shared) (H : Hp) (vs : List V) (Q : VK) (E : XK), Room k (A.deeper (envOfC qual (defScope st) s.heap.objs.size f cdv)) → sp vs H Q E →
      ∃ t, PSsT (cxOf CX0 P w K mg base N qual (defScope st) f cdv A outer s H E) (defBody st) t ∧ t { nx := fun _ H' => Q .non H', rt := Q } (start N vs) H) :
    FnOk P w K mg base CX0 (k + 1) f fd ps sp := by
  obtain ⟨oc, od, kV, doc, pm, an, cdv, ct, osl, e, lk, hcd⟩ := F.ex
  subst e
  exact fn_ofT lk hcd S hnc hps len fun A outer s H vs Q E hr hs => body cdv A outer s H vs Q E hr hs
section
variable [Tb] {α β γ : Type} [Rep α] [Rep β] [Rep γ] {K : PySem.W.Frag} {σ : L2.St} {G H : Hp} {te : TE} {D : Ends} {tz : TS} {i j k : Nat}
/-- a, b, c = a tuple of three -/
theorem s_asg3 {x : T3 α β γ} (e : Sub G H) (h : EvR K te σ G x) (n : ∀ u v w G2 H2, Grow G H G2 H2 → rep K x.a u G2 → rep K x.b v G2 → rep K x.c w G2 → D.nx (((σ.set i (some u)).set j (some v)).set k (some w)) H2) :
    tAsg te (gTup K 3 (gCons (gName i) (gCons (gName j) (gCons (gName k) gNil)))) D σ H :=
  h H e _ fun t G1 H1 g1 ⟨a, u, v, w, et, hA, r1, r2, r3⟩ => ⟨a, [u, v, w], et, sqT_mono g1.s.get hA, rfl, u, [v, w], rfl, v, [w], rfl, w, [], rfl, rfl, n u v w G1 H1 g1 r1 r2 r3⟩
theorem q_asg3 {x : T3 α β γ} (e : Sub G H) (h : EvR K te σ G x) (n : ∀ u v w G2 H2, Grow G H G2 H2 → rep K x.a u G2 → rep K x.b v G2 → rep K x.c w G2 → tz D (((σ.set i (some u)).set j (some v)).set k (some w)) H2) :
    tSeq (tAsg te (gTup K 3 (gCons (gName i) (gCons (gName j) (gCons (gName k) gNil))))) tz D σ H := s_asg3 (D := { D with nx := tz D }) e h n
end
/-! data as the library's own kind of it: None, texts, pairs -/
class Dat (α : Type) [Rep α] where
  d : α → PyData
  dp : ∀ {K : PySem.W.Frag} {H : Hp} {x : α} {v : V} {G : Hp}, Same G H → rep K x v G → Dp K H v (d x)
instance : Dat Str := ⟨PyData.str, fun {K H x v G} s h => by rw [show v = V.str x from h]; exact .str x⟩
instance : Dat Int := ⟨PyData.int, fun {K H x v G} s h => by rw [show v = V.int x from h]; exact .int x⟩
instance : Dat Bool := ⟨PyData.bool, fun {K H x v G} s h => by rw [show v = V.bl x from h]; exact .bl x⟩
def datO {α : Type} [Rep α] [Dat α] (o : Option α) : PyData := match o with
  | none => .none
  | some x => Dat.d x
instance {α : Type} [Rep α] [Dat α] : Dat (Option α) := ⟨datO, fun {K H x v G} s h => by
  cases x with
  | none => rw [show v = V.non from h]; exact .non
  | some y => exact Dat.dp s (show rep K y v G from h)⟩
instance {α β : Type} [Rep α] [Rep β] [Dat α] [Dat β] : Dat (α × β) := ⟨fun p => .tuple [Dat.d p.1, Dat.d p.2], fun {K H x v G} s h => by
  obtain ⟨a, u, w, ev, hA, r1, r2⟩ := h
  rw [ev]
  exact .tup (sqT_mono s hA) (.cons (Dat.dp s r1) (.cons (Dat.dp s r2) .nil))⟩
section
variable [Tb] {α β : Type} [Rep α] [Rep β] [Dat α] [Dat β] {K : PySem.W.Frag} {σ : L2.St} {G : Hp} {ta tb : TE} {x : α} {y : β}
theorem ev_eqD (ha : EvR K ta σ G x) (hb : EvR K tb σ G y) (h : SeqAt.shaped (Dat.d x) = true ∧ SeqAt.shaped (Dat.d y) = true) : EvR K (tOp (rEqD K) ta tb) σ G (PyData.eqv (Dat.d x) (Dat.d y)) :=
  ev_op ha hb fun v w G1 H1 _ s hv hw Q q => ⟨_, _, Dat.dp s.get hv, Dat.dp s.get hw, h.1, h.2, q _ G1 H1 (Grow.refl s) rfl⟩
theorem ev_neD (ha : EvR K ta σ G x) (hb : EvR K tb σ G y) (h : SeqAt.shaped (Dat.d x) = true ∧ SeqAt.shaped (Dat.d y) = true) : EvR K (tOp (rNeD K) ta tb) σ G (!PyData.eqv (Dat.d x) (Dat.d y)) :=
  ev_op ha hb fun v w G1 H1 _ s hv hw Q q => ⟨_, _, Dat.dp s.get hv, Dat.dp s.get hw, h.1, h.2, q _ G1 H1 (Grow.refl s) rfl⟩
end
end RL

set_option Elab.async false
set_option linter.all false
set_option maxRecDepth 100000
set_option maxHeartbeats 1000000
/-! quoting by two replacements, and back -/
namespace RL
open PySem PySem.Spec PyProof.Rows L2 TL
theorem tl_rep {x y z : Str} (hy : 1 ≤ y.length) : tl (Txt.replace x y z) = StrLaws.replL (tl y) (tl z) (tl x) := StrLaws.replace_list hy
def esc (q : Nat) (z : List Nat) (l : List Nat) : List Nat := l.flatMap fun c => if c = q then z else [c]
theorem esc_cons (q : Nat) (z : List Nat) (c : Nat) (r : List Nat) : esc q z (c :: r) = (if c = q then z else [c]) ++ esc q z r := by
  unfold esc
  rw [List.flatMap_cons]
theorem rep_esc (q : Nat) (z : List Nat) : ∀ l : List Nat, StrLaws.replL [q] z l = esc q z l
  | [] => StrLaws.replL_nil
  | c :: r => by
    rw [esc_cons]
    by_cases h : c = q
    · rw [if_pos h, StrLaws.replL_hit (by simp) (by subst h; rfl)]
      show z ++ StrLaws.replL [q] z r = _
      rw [rep_esc q z r]
    · rw [if_neg h, StrLaws.replL_miss (by
        intro e
        have e2 : [c] = [q] := e
        exact h (List.cons.inj e2).1), rep_esc q z r]
      rfl
abbrev E1 (l : List Nat) := esc 92 [92, 92] l
abbrev E2 (l : List Nat) := esc 34 [92, 34] l
theorem e2_app (a b : List Nat) : E2 (a ++ b) = E2 a ++ E2 b := by unfold E2 esc; rw [List.flatMap_append]
theorem e2_head : ∀ l : List Nat, (E2 l).head? ≠ some 34
  | [] => by intro h; cases h
  | c :: r => by
    rw [show E2 (c :: r) = (if c = 34 then [92, 34] else [c]) ++ E2 r from esc_cons ..]
    by_cases h : c = 34
    · rw [if_pos h]; intro e; cases e
    · rw [if_neg h]
      intro e
      exact h (Option.some.inj e)
theorem miss34 {r : List Nat} (h : r.head? ≠ some 34) : ¬ (92 :: r).take ([92, 34] : List Nat).length = [92, 34] := by
  cases r with
  | nil => intro e; cases e
  | cons c r =>
    intro e
    have e2 : [92, c] = [92, 34] := e
    have e3 : c = 34 := (List.cons.inj (List.cons.inj e2).2).1
    exact h (by rw [e3]; rfl)
theorem missC {a b c : Nat} {r : List Nat} (h : c ≠ a) : ¬ (c :: r).take ([a, b] : List Nat).length = [a, b] := by
  intro e
  cases r with
  | nil => cases e
  | cons d r =>
    have e2 : [c, d] = [a, b] := e
    exact h (List.cons.inj e2).1
theorem un1 : ∀ l : List Nat, StrLaws.replL [92, 34] [34] (E2 (E1 l)) = E1 l
  | [] => StrLaws.replL_nil
  | c :: r => by
    rw [show E1 (c :: r) = (if c = 92 then [92, 92] else [c]) ++ E1 r from esc_cons .., e2_app]
    by_cases h : c = 92
    · rw [if_pos h]
      show StrLaws.replL [92, 34] [34] (92 :: 92 :: E2 (E1 r)) = 92 :: 92 :: E1 r
      rw [StrLaws.replL_miss (miss34 (by intro e; cases e)), StrLaws.replL_miss (miss34 (e2_head _)), un1 r]
    · rw [if_neg h]
      by_cases h2 : c = 34
      · subst h2
        show StrLaws.replL [92, 34] [34] (92 :: 34 :: E2 (E1 r)) = 34 :: E1 r
        rw [StrLaws.replL_hit (by simp) rfl]
        show 34 :: StrLaws.replL [92, 34] [34] (E2 (E1 r)) = _
        rw [un1 r]
      · have e : E2 [c] = [c] := by
          rw [show E2 [c] = (if c = 34 then [92, 34] else [c]) ++ E2 [] from esc_cons .., if_neg h2]
          rfl
        rw [e]
        show StrLaws.replL [92, 34] [34] (c :: E2 (E1 r)) = c :: E1 r
        rw [StrLaws.replL_miss (missC h), un1 r]
theorem un2 : ∀ l : List Nat, StrLaws.replL [92, 92] [92] (E1 l) = l
  | [] => StrLaws.replL_nil
  | c :: r => by
    rw [show E1 (c :: r) = (if c = 92 then [92, 92] else [c]) ++ E1 r from esc_cons ..]
    by_cases h : c = 92
    · rw [if_pos h]
      subst h
      show StrLaws.replL [92, 92] [92] (92 :: 92 :: E1 r) = 92 :: r
      rw [StrLaws.replL_hit (by simp) rfl]
      show 92 :: StrLaws.replL [92, 92] [92] (E1 r) = _
      rw [un2 r]
    · rw [if_neg h]
      show StrLaws.replL [92, 92] [92] (c :: E1 r) = c :: r
      rw [StrLaws.replL_miss (missC h), un2 r]
theorem tl_bs : tl ("\\" : Str) = [92] := by decide +kernel
theorem tl_bs2 : tl ("\\\\" : Str) = [92, 92] := by decide +kernel
theorem tl_q : tl ("\"" : Str) = [34] := by decide +kernel
theorem tl_bq : tl ("\\\"" : Str) = [92, 34] := by decide +kernel
theorem esc_is (x : Str) : tl (Txt.replace (Txt.replace x ("\\" : Str) ("\\\\" : Str)) ("\"" : Str) ("\\\"" : Str)) = E2 (E1 (tl x)) := by
  rw [tl_rep (by decide), tl_rep (by decide), tl_bs, tl_bs2, tl_q, tl_bq, rep_esc, rep_esc]
theorem unesc_is (x : Str) (l : List Nat) (h : tl x = E2 (E1 l)) : tl (Txt.replace (Txt.replace x ("\\\"" : Str) ("\"" : Str)) ("\\\\" : Str) ("\\" : Str)) = l := by
  rw [tl_rep (by decide), tl_rep (by decide), tl_bs, tl_bs2, tl_q, tl_bq, h, un1, un2]
theorem cut_mid {α : Type} (a b : α) (m : List α) : cutL (a :: (m ++ [b])) (some 1) (some (-1)) = m := by
  unfold cutL
  have hl : (a :: (m ++ [b])).length = m.length + 2 := by simp
  rw [hl]
  have e1 : HT.sIx (m.length + 2) 0 (some 1) = 1 := by
    unfold HT.sIx
    simp
    try omega
  have e2 : HT.sIx (m.length + 2) (m.length + 2) (some (-1)) = m.length + 1 := by
    unfold HT.sIx
    simp
    try omega
  rw [e1, e2]
  show ((m ++ [b]).take (m.length + 1 - 1)) = m
  rw [Nat.add_sub_cancel, List.take_left]
end RL

set_option Elab.async false
set_option linter.all false
set_option maxRecDepth 100000
set_option maxHeartbeats 4000000
namespace RL
open PySem PySem.Spec PyProof.Rows L2 CwR
open Rep (rep)
/-! ### a text sign by sign; while; things of several kinds; x in l over data -/
def sgn (z : Str) : List Str := z.cps.toList.map fun c => ⟨#[c]⟩
theorem sgn_len (z : Str) : (sgn z).length = z.cps.size := by
  unfold sgn
  rw [List.length_map, Array.length_toList]
theorem sgn_at {z : Str} {i c : Nat} (h : z.cps[i]? = some c) : (sgn z)[i]? = some ⟨#[c]⟩ := by
  unfold sgn
  rw [List.getElem?_map, Array.getElem?_toList, h]
  rfl
section
variable [Tb] {α β : Type} [Rep α] [Rep β] {K : PySem.W.Frag} {σ : L2.St} {G H : Hp} {te ta tl : TE} {tt : TT} {t u tb tz : TS} {D : Ends} {x : α} {b : Bool} {i j : Nat} {a : Addr}
theorem s_forS {l : Str} {g : TG} (e : Sub G H) (h : EvR K tl σ G l) (k : ∀ G1 H1 xs, Grow G H G1 H1 → Reps K (sgn l) xs G1 → ∃ Pv : Nat → L2.St → Hp → Prop, Pv 0 σ H1 ∧ (∀ i σ' H', Pv i σ' H' → Sub G1 H') ∧
    (∀ i x v σ' H', (sgn l)[i]? = some x → rep K x v G1 → Pv i σ' H' → g v σ' H' fun σ2 H2 => tb { D with nx := Pv (i + 1), ct := Pv (i + 1), bk := D.nx } σ2 H2) ∧ ∀ σ' H', Pv (sgn l).length σ' H' → D.nx σ' H') : tFor (iStr tl) g tb D σ H :=
  h H e _ fun v G1 H1 g1 r => by
    obtain ⟨Pv, p0, ps, pt, pe⟩ := k G1 H1 _ g1 (reps_of_flat (sgn l))
    refine ⟨l, r, for_it walk_str Pv p0 (fun _ _ _ _ _ => trivial) (fun i x σ' H' H2 hi p y => ?_) fun σ' H' p => pe σ' H' (by rw [sgn_len]; exact p)⟩
    obtain ⟨e2, c, hc, ex⟩ := y
    subst e2
    exact pt i ⟨#[c]⟩ x σ' H2 (sgn_at hc) ex p
theorem q_forS {l : Str} {g : TG} (e : Sub G H) (h : EvR K tl σ G l) (k : ∀ G1 H1 xs, Grow G H G1 H1 → Reps K (sgn l) xs G1 → ∃ Pv : Nat → L2.St → Hp → Prop, Pv 0 σ H1 ∧ (∀ i σ' H', Pv i σ' H' → Sub G1 H') ∧
    (∀ i x v σ' H', (sgn l)[i]? = some x → rep K x v G1 → Pv i σ' H' → g v σ' H' fun σ2 H2 => tb { D with nx := Pv (i + 1), ct := Pv (i + 1), bk := tz D } σ2 H2) ∧ ∀ σ' H', Pv (sgn l).length σ' H' → tz D σ' H') : tSeq (tFor (iStr tl) g tb) tz D σ H :=
  s_forS (D := { D with nx := tz D }) e h k
end
/-! while -/
def whl {S : Type} (c : S → Bool) (f : S → S) : Nat → S → S
  | 0, s => s
  | n + 1, s => cond (c s) (whl c f n (f s)) s
theorem whl_stop {S : Type} {c : S → Bool} {f : S → S} {s : S} (h : c s = false) : ∀ n, whl c f n s = s
  | 0 => rfl
  | n + 1 => by show cond (c s) _ s = s; rw [h]; rfl
theorem whl_fuel {S : Type} {c : S → Bool} {f : S → S} {I : S → Prop} {μ : S → Nat} (hd : ∀ s, I s → c s = true → I (f s) ∧ μ (f s) < μ s) : ∀ (m n : Nat) (s : S), n ≤ m → I s → μ s ≤ n → whl c f n s = whl c f (μ s) s
  | 0, n, s, hn, hi, h => by
    have e1 : n = 0 := by omega
    have e2 : μ s = 0 := by omega
    rw [e1, e2]
  | m + 1, n, s, hn, hi, h => by
    cases q : c s with
    | false => rw [whl_stop q, whl_stop q]
    | true =>
      obtain ⟨i2, l⟩ := hd s hi q
      obtain ⟨k, ek⟩ : ∃ k, μ s = k + 1 := ⟨μ s - 1, by omega⟩
      obtain ⟨k2, ek2⟩ : ∃ k, n = k + 1 := ⟨n - 1, by omega⟩
      rw [ek, ek2]
      show cond (c s) (whl c f k2 (f s)) s = cond (c s) (whl c f k (f s)) s
      rw [q]
      show whl c f k2 (f s) = whl c f k (f s)
      rw [whl_fuel hd m k2 (f s) (by omega) i2 (by omega), whl_fuel hd m k (f s) (by omega) i2 (by omega)]
theorem whl_turn {S : Type} {c : S → Bool} {f : S → S} {I : S → Prop} {μ : S → Nat} (hd : ∀ s, I s → c s = true → I (f s) ∧ μ (f s) < μ s) {s : S} (hi : I s) (h : c s = true) : whl c f (μ s) s = whl c f (μ (f s)) (f s) := by
  obtain ⟨i2, l⟩ := hd s hi h
  obtain ⟨k, ek⟩ : ∃ k, μ s = k + 1 := ⟨μ s - 1, by omega⟩
  rw [ek]
  show cond (c s) (whl c f k (f s)) s = _
  rw [h]
  exact whl_fuel hd k k (f s) (Nat.le_refl _) i2 (by omega)
section
variable [Tb] {K : PySem.W.Frag} {σ : L2.St} {G H : Hp} {tt : TT} {tb tz : TS} {D : Ends}
theorem s_whl {S : Type} (c : S → Bool) (f : S → S) (I : S → Prop) (μ : S → Nat) (s0 : S) (i0 : I s0) (hd : ∀ s, I s → c s = true → I (f s) ∧ μ (f s) < μ s) (e : Sub G H)
    (k : ∀ G1 H1, Grow G H G1 H1 → ∃ Pv : S → L2.St → Hp → Prop, Pv s0 σ H1 ∧ ∀ s σ' H', I s → Pv s σ' H' → ∃ G', Sub G' H' ∧ EvB tt σ' G' (c s) ∧
      (c s = true → ∀ G2 H2, Grow G' H' G2 H2 → tb { D with nx := Pv (f s), ct := Pv (f s), bk := D.nx } σ' H2) ∧ (c s = false → ∀ G2 H2, Grow G' H' G2 H2 → s = whl c f (μ s0) s0 → D.nx σ' H2)) : tWhile tt tb D σ H := by
  obtain ⟨Pv, p0, pt⟩ := k G H (Grow.refl e)
  refine ⟨fun m σ' H' => ∃ s, I s ∧ m = μ s ∧ whl c f (μ s) s = whl c f (μ s0) s0 ∧ Pv s σ' H', ⟨_, s0, i0, rfl, rfl, p0⟩, ?_⟩
  rintro m σ' H' ⟨s, hi, rfl, hw, p⟩
  obtain ⟨G', e', hc, h1, h2⟩ := pt s σ' H' hi p
  refine hc H' e' _ fun G2 H2 g2 => ?_
  cases q : c s with
  | true =>
    refine iteT ⟨Pv (f s), fun σ3 H3 p3 => ?_, h1 q G2 H2 g2⟩
    obtain ⟨i2, l⟩ := hd s hi q
    exact ⟨_, l, f s, i2, rfl, by rw [← hw, whl_turn hd hi q], p3⟩
  | false => exact iteF (h2 q G2 H2 g2 (by rw [← hw, whl_stop q]))
theorem q_whl {S : Type} (c : S → Bool) (f : S → S) (I : S → Prop) (μ : S → Nat) (s0 : S) (i0 : I s0) (hd : ∀ s, I s → c s = true → I (f s) ∧ μ (f s) < μ s) (e : Sub G H)
    (k : ∀ G1 H1, Grow G H G1 H1 → ∃ Pv : S → L2.St → Hp → Prop, Pv s0 σ H1 ∧ ∀ s σ' H', I s → Pv s σ' H' → ∃ G', Sub G' H' ∧ EvB tt σ' G' (c s) ∧
      (c s = true → ∀ G2 H2, Grow G' H' G2 H2 → tb { D with nx := Pv (f s), ct := Pv (f s), bk := tz D } σ' H2) ∧ (c s = false → ∀ G2 H2, Grow G' H' G2 H2 → s = whl c f (μ s0) s0 → tz D σ' H2)) : tSeq (tWhile tt tb) tz D σ H :=
  s_whl (D := { D with nx := tz D }) c f I μ s0 i0 hd e k
end
/-! data -/
section
variable {α β : Type} [Rep α] [Rep β]
theorem _root_.L2.Room.units1 {k : Nat} {A : Around} (r : Room k A) : A.units + 65 < cLine := by have := r.un; omega
instance : Dat Unit := ⟨fun _ => .none, fun {K H x v G} s h => by rw [show v = V.non from h]; exact .non⟩
def datS {α β : Type} [Rep α] [Rep β] [Dat α] [Dat β] (o : Sum α β) : PyData := match o with
  | .inl x => Dat.d x
  | .inr x => Dat.d x
instance [Dat α] [Dat β] : Dat (Sum α β) := ⟨datS, fun {K H x v G} s h => by
  cases x with
  | inl y => exact Dat.dp s (show rep K y v G from h)
  | inr y => exact Dat.dp s (show rep K y v G from h)⟩
theorem dps {K : PySem.W.Frag} {G H : Hp} [Dat α] {s : Same G H} : ∀ {l : List α} {vs : List V}, Reps K l vs G → DpAll K H vs (l.map Dat.d)
  | _, _, .nil => .nil
  | _, _, .cons r t => .cons (Dat.dp s r) (dps (s := s) t)
instance [Dat α] : Dat (Tpl α) := ⟨fun t => .tuple (t.l.map Dat.d), fun {K H x v G} s h => by
  obtain ⟨a, xs, ev, hA, r⟩ := h
  rw [ev]
  exact .tup (sqT_mono s hA) (dps (s := s) r)⟩
instance [Dat α] : Dat (List α) := ⟨fun t => .list (t.map Dat.d), fun {K H x v G} s h => by
  obtain ⟨a, xs, ev, hA, r⟩ := h
  rw [ev]
  exact .lst (SqL.of (s _ _ hA)) (dps (s := s) r)⟩
def memD [Dat α] (x : α) (l : List α) : Bool := (l.map Dat.d).any fun z => PyData.eqv z (Dat.d x)
end
/-! things of several kinds -/
instance {α β : Type} [Inhabited α] : Inhabited (Sum α β) := ⟨Sum.inl default⟩
class NoS (α : Type) [Rep α] where
  ty : ∀ [Tb] {K : PySem.W.Frag} {x : α} {v : V} {G H : Hp}, Sub G H → rep K x v G → ∃ t, TyX K H v (.type t) ∧ PySem.W.kitOne K (.type t) (.type "str") = some false
instance : NoS Int := ⟨fun {_ K x v G H} s r => ⟨"int", by rw [show v = V.int x from r]; exact .base (.int x), kit_ty (by decide +kernel)⟩⟩
instance : NoS Bool := ⟨fun {_ K x v G H} s r => ⟨"bool", by rw [show v = V.bl x from r]; exact .base (.bl x), kit_ty (by decide +kernel)⟩⟩
instance : NoS Unit := ⟨fun {_ K x v G H} s r => ⟨"NoneType", by rw [show v = V.non from r]; exact .base .non, kit_ty (by decide +kernel)⟩⟩
instance {α : Type} [Rep α] : NoS (Tpl α) := ⟨fun {_ K x v G H} s r => by
  obtain ⟨a, xs, ev, hA, _⟩ := r
  exact ⟨"tuple", by rw [ev]; exact tyX_tup (sqT_mono s.get hA), kit_ty (by decide +kernel)⟩⟩
instance {α β : Type} [Rep α] [Rep β] [NoS α] [NoS β] : NoS (Sum α β) := ⟨fun {_ K x v G H} s r => by
  cases x with
  | inl x => exact NoS.ty s (show rep K x v G from r)
  | inr x => exact NoS.ty s (show rep K x v G from r)⟩
section
variable [Tb] {α β : Type} [Rep α] [Rep β] {K : PySem.W.Frag} {σ : L2.St} {G H : Hp} {te ta tb : TE}
theorem ev_Inl {x : α} (h : EvR K te σ G x) : EvR K te σ G (Sum.inl x : Sum α β) := h
theorem ev_Inr {x : β} (h : EvR K te σ G x) : EvR K te σ G (Sum.inr x : Sum α β) := h
theorem ev_isStrS [NoS β] {z : Sum Str β} (ha : EvR K te σ G z) : EvR K (tCB (rIsi K) (tCons te (tCons (tC (.ty "str")) tNil))) σ G z.isLeft := fun H e Q q =>
  ha H e _ fun v G1 H1 g1 r => by
    cases z with
    | inl x => exact ⟨v, .ty "str", .type "str", .type "str", true, rfl, .ty _, by rw [show v = V.str x from r]; exact .base (.str x), kit_ty (by decide +kernel), q _ G1 H1 g1 rfl⟩
    | inr x =>
      obtain ⟨t, h1, h2⟩ := NoS.ty g1.s (show rep K x v G1 from r)
      exact ⟨v, .ty "str", .type t, .type "str", false, rfl, .ty _, h1, h2, q _ G1 H1 g1 rfl⟩
theorem un_inl [Inhabited α] {z : Sum α β} {v : V} (r : rep K z v G) (h : z.isLeft = true) : rep K (getL z) v G := by
  cases z with
  | inl x => exact r
  | inr x => cases h
theorem getL_inl [Inhabited α] {x : α} : getL (Sum.inl x : Sum α β) = x := rfl
theorem not_f {b : Bool} (h : (!b) = false) : b = true := by cases b <;> simp_all
theorem l_inl {x : α} {v : V} (r : rep K (Sum.inl x : Sum α β) v G) : rep K x v G := r
theorem ev_inD [Dat α] {x : α} {l : List α} (ha : EvR K ta σ G x) (hb : EvR K tb σ G l) (h : SeqAt.shaped (Dat.d x) = true ∧ SeqAt.shaped (Dat.d l) = true) : EvR K (tOp (rInD K) ta tb) σ G (memD x l) :=
  ev_op ha hb fun v w G1 H1 _ s hv hw Q q => ⟨_, _, Dat.dp s.get hv, Dat.dp s.get hw, h.1, h.2, q _ G1 H1 (Grow.refl s) rfl⟩
end
theorem op_inDK {X : Cx} {K : PySem.W.Frag} (hu : X.A.units + 65 < cLine) (h : X.K = K := by rfl) : OpR X (compareOp .In) (rInD K) := by subst h; exact op_inD hu
end RL

set_option Elab.async false
set_option linter.all false
set_option maxRecDepth 100000
set_option maxHeartbeats 4000000
namespace RL
open PySem PySem.Spec PyProof.Rows L2 CwR
open Rep (rep)
/-! ### tuples of three to five; objects of own classes -/
instance {α β γ : Type} [Rep α] [Rep β] [Rep γ] [Dat α] [Dat β] [Dat γ] : Dat (T3 α β γ) := ⟨fun t => .tuple [Dat.d t.a, Dat.d t.b, Dat.d t.c], fun {K H t v G} s h => by
  obtain ⟨i, x, y, z, ev, hA, ka, kb, kc⟩ := h
  rw [ev]
  exact .tup (sqT_mono s hA) (.cons (Dat.dp s ka) (.cons (Dat.dp s kb) (.cons (Dat.dp s kc) .nil)))⟩
section
variable [Tb] {α β γ : Type} [Rep α] [Rep β] [Rep γ] {K : PySem.W.Frag} {σ : L2.St} {G : Hp} {te tx ty tz : TE}
theorem ev_tup3 {x : α} {y : β} {z : γ} (hx : EvR K tx σ G x) (hy : EvR K ty σ G y) (hz : EvR K tz σ G z) : EvR K (tTup (tCons tx (tCons ty (tCons tz tNil)))) σ G (T3.mk x y z) := fun H e Q q =>
  hx H e _ fun vx G1 H1 g1 rx => (hy.mono g1.g) H1 g1.s _ fun vy G2 H2 g2 ry => (hz.mono (g1.g.trans g2.g)) H2 g2.s _ fun vz G3 H3 g3 rz => ⟨by show 3 ≤ sizeLine; decide, fun p hp => q _ _ _ (((g1.trans g2).trans g3).trans (Grow.new g3.s hp)) ⟨p, vx, vy, vz, rfl, SqT.of upd_same, (up (same_upd (g3.s.free hp)) (up g3.g (up g2.g rx))), (up (same_upd (g3.s.free hp)) (up g3.g ry)), (up (same_upd (g3.s.free hp)) rz)⟩⟩
theorem ev_ix30 {t : T3 α β γ} (ha : EvR K te σ G t) : EvR K (tOp (rIxT K) te (tC (.int 0))) σ G t.a :=
  ev_op (y := (0 : Int)) ha ev_int fun v w G1 H1 _ s ⟨i, x, y, z, ev, hA, ka, kb, kc⟩ hw Q q => ⟨i, [x, y, z], 0, x, ev, hw, sqT_mono s.get hA, rfl, q x G1 H1 (Grow.refl s) ka⟩
theorem ev_ix31 {t : T3 α β γ} (ha : EvR K te σ G t) : EvR K (tOp (rIxT K) te (tC (.int 1))) σ G t.b :=
  ev_op (y := (1 : Int)) ha ev_int fun v w G1 H1 _ s ⟨i, x, y, z, ev, hA, ka, kb, kc⟩ hw Q q => ⟨i, [x, y, z], 1, y, ev, hw, sqT_mono s.get hA, rfl, q y G1 H1 (Grow.refl s) kb⟩
theorem ev_ix32 {t : T3 α β γ} (ha : EvR K te σ G t) : EvR K (tOp (rIxT K) te (tC (.int 2))) σ G t.c :=
  ev_op (y := (2 : Int)) ha ev_int fun v w G1 H1 _ s ⟨i, x, y, z, ev, hA, ka, kb, kc⟩ hw Q q => ⟨i, [x, y, z], 2, z, ev, hw, sqT_mono s.get hA, rfl, q z G1 H1 (Grow.refl s) kc⟩
end
structure T4 (α β γ δ : Type) where
  a : α
  b : β
  c : γ
  d : δ
instance {α β γ δ : Type} [Rep α] [Rep β] [Rep γ] [Rep δ] : Rep (T4 α β γ δ) := ⟨fun K t v G => ∃ i x y z u, v = .ref i ∧ SqT K G i [x, y, z, u] ∧ rep K t.a x G ∧ rep K t.b y G ∧ rep K t.c z G ∧ rep K t.d u G,
  fun e ⟨i, x, y, z, u, h0, h1, ka, kb, kc, kd⟩ => ⟨i, x, y, z, u, h0, sqT_monoD e h1, upd' e ka, upd' e kb, upd' e kc, upd' e kd⟩⟩
instance {α β γ δ : Type} [Rep α] [Rep β] [Rep γ] [Rep δ] [Dat α] [Dat β] [Dat γ] [Dat δ] : Dat (T4 α β γ δ) := ⟨fun t => .tuple [Dat.d t.a, Dat.d t.b, Dat.d t.c, Dat.d t.d], fun {K H t v G} s h => by
  obtain ⟨i, x, y, z, u, ev, hA, ka, kb, kc, kd⟩ := h
  rw [ev]
  exact .tup (sqT_mono s hA) (.cons (Dat.dp s ka) (.cons (Dat.dp s kb) (.cons (Dat.dp s kc) (.cons (Dat.dp s kd) .nil))))⟩
section
variable [Tb] {α β γ δ : Type} [Rep α] [Rep β] [Rep γ] [Rep δ] {K : PySem.W.Frag} {σ : L2.St} {G : Hp} {te tx ty tz tu : TE}
theorem ev_tup4 {x : α} {y : β} {z : γ} {u : δ} (hx : EvR K tx σ G x) (hy : EvR K ty σ G y) (hz : EvR K tz σ G z) (hu : EvR K tu σ G u) : EvR K (tTup (tCons tx (tCons ty (tCons tz (tCons tu tNil))))) σ G (T4.mk x y z u) := fun H e Q q =>
  hx H e _ fun vx G1 H1 g1 rx => (hy.mono g1.g) H1 g1.s _ fun vy G2 H2 g2 ry => (hz.mono (g1.g.trans g2.g)) H2 g2.s _ fun vz G3 H3 g3 rz => (hu.mono ((g1.g.trans g2.g).trans g3.g)) H3 g3.s _ fun vu G4 H4 g4 ru => ⟨by show 4 ≤ sizeLine; decide, fun p hp => q _ _ _ ((((g1.trans g2).trans g3).trans g4).trans (Grow.new g4.s hp)) ⟨p, vx, vy, vz, vu, rfl, SqT.of upd_same, (up (same_upd (g4.s.free hp)) (up g4.g (up g3.g (up g2.g rx)))), (up (same_upd (g4.s.free hp)) (up g4.g (up g3.g ry))), (up (same_upd (g4.s.free hp)) (up g4.g rz)), (up (same_upd (g4.s.free hp)) ru)⟩⟩
theorem ev_ix40 {t : T4 α β γ δ} (ha : EvR K te σ G t) : EvR K (tOp (rIxT K) te (tC (.int 0))) σ G t.a :=
  ev_op (y := (0 : Int)) ha ev_int fun v w G1 H1 _ s ⟨i, x, y, z, u, ev, hA, ka, kb, kc, kd⟩ hw Q q => ⟨i, [x, y, z, u], 0, x, ev, hw, sqT_mono s.get hA, rfl, q x G1 H1 (Grow.refl s) ka⟩
theorem ev_ix41 {t : T4 α β γ δ} (ha : EvR K te σ G t) : EvR K (tOp (rIxT K) te (tC (.int 1))) σ G t.b :=
  ev_op (y := (1 : Int)) ha ev_int fun v w G1 H1 _ s ⟨i, x, y, z, u, ev, hA, ka, kb, kc, kd⟩ hw Q q => ⟨i, [x, y, z, u], 1, y, ev, hw, sqT_mono s.get hA, rfl, q y G1 H1 (Grow.refl s) kb⟩
theorem ev_ix42 {t : T4 α β γ δ} (ha : EvR K te σ G t) : EvR K (tOp (rIxT K) te (tC (.int 2))) σ G t.c :=
  ev_op (y := (2 : Int)) ha ev_int fun v w G1 H1 _ s ⟨i, x, y, z, u, ev, hA, ka, kb, kc, kd⟩ hw Q q => ⟨i, [x, y, z, u], 2, z, ev, hw, sqT_mono s.get hA, rfl, q z G1 H1 (Grow.refl s) kc⟩
theorem ev_ix43 {t : T4 α β γ δ} (ha : EvR K te σ G t) : EvR K (tOp (rIxT K) te (tC (.int 3))) σ G t.d :=
  ev_op (y := (3 : Int)) ha ev_int fun v w G1 H1 _ s ⟨i, x, y, z, u, ev, hA, ka, kb, kc, kd⟩ hw Q q => ⟨i, [x, y, z, u], 3, u, ev, hw, sqT_mono s.get hA, rfl, q u G1 H1 (Grow.refl s) kd⟩
end
structure T5 (α β γ δ ε : Type) where
  a : α
  b : β
  c : γ
  d : δ
  e : ε
instance {α β γ δ ε : Type} [Rep α] [Rep β] [Rep γ] [Rep δ] [Rep ε] : Rep (T5 α β γ δ ε) := ⟨fun K t v G => ∃ i x y z u w, v = .ref i ∧ SqT K G i [x, y, z, u, w] ∧ rep K t.a x G ∧ rep K t.b y G ∧ rep K t.c z G ∧ rep K t.d u G ∧ rep K t.e w G,
  fun e ⟨i, x, y, z, u, w, h0, h1, ka, kb, kc, kd, ke⟩ => ⟨i, x, y, z, u, w, h0, sqT_monoD e h1, upd' e ka, upd' e kb, upd' e kc, upd' e kd, upd' e ke⟩⟩
instance {α β γ δ ε : Type} [Rep α] [Rep β] [Rep γ] [Rep δ] [Rep ε] [Dat α] [Dat β] [Dat γ] [Dat δ] [Dat ε] : Dat (T5 α β γ δ ε) := ⟨fun t => .tuple [Dat.d t.a, Dat.d t.b, Dat.d t.c, Dat.d t.d, Dat.d t.e], fun {K H t v G} s h => by
  obtain ⟨i, x, y, z, u, w, ev, hA, ka, kb, kc, kd, ke⟩ := h
  rw [ev]
  exact .tup (sqT_mono s hA) (.cons (Dat.dp s ka) (.cons (Dat.dp s kb) (.cons (Dat.dp s kc) (.cons (Dat.dp s kd) (.cons (Dat.dp s ke) .nil)))))⟩
section
variable [Tb] {α β γ δ ε : Type} [Rep α] [Rep β] [Rep γ] [Rep δ] [Rep ε] {K : PySem.W.Frag} {σ : L2.St} {G : Hp} {te tx ty tz tu tw : TE}
theorem ev_tup5 {x : α} {y : β} {z : γ} {u : δ} {w : ε} (hx : EvR K tx σ G x) (hy : EvR K ty σ G y) (hz : EvR K tz σ G z) (hu : EvR K tu σ G u) (hw : EvR K tw σ G w) : EvR K (tTup (tCons tx (tCons ty (tCons tz (tCons tu (tCons tw tNil)))))) σ G (T5.mk x y z u w) := fun H e Q q =>
  hx H e _ fun vx G1 H1 g1 rx => (hy.mono g1.g) H1 g1.s _ fun vy G2 H2 g2 ry => (hz.mono (g1.g.trans g2.g)) H2 g2.s _ fun vz G3 H3 g3 rz => (hu.mono ((g1.g.trans g2.g).trans g3.g)) H3 g3.s _ fun vu G4 H4 g4 ru => (hw.mono (((g1.g.trans g2.g).trans g3.g).trans g4.g)) H4 g4.s _ fun vw G5 H5 g5 rw => ⟨by show 5 ≤ sizeLine; decide, fun p hp => q _ _ _ (((((g1.trans g2).trans g3).trans g4).trans g5).trans (Grow.new g5.s hp)) ⟨p, vx, vy, vz, vu, vw, rfl, SqT.of upd_same, (up (same_upd (g5.s.free hp)) (up g5.g (up g4.g (up g3.g (up g2.g rx))))), (up (same_upd (g5.s.free hp)) (up g5.g (up g4.g (up g3.g ry)))), (up (same_upd (g5.s.free hp)) (up g5.g (up g4.g rz))), (up (same_upd (g5.s.free hp)) (up g5.g ru)), (up (same_upd (g5.s.free hp)) rw)⟩⟩
theorem ev_ix50 {t : T5 α β γ δ ε} (ha : EvR K te σ G t) : EvR K (tOp (rIxT K) te (tC (.int 0))) σ G t.a :=
  ev_op (y := (0 : Int)) ha ev_int fun v w G1 H1 _ s ⟨i, x, y, z, u, w, ev, hA, ka, kb, kc, kd, ke⟩ hw Q q => ⟨i, [x, y, z, u, w], 0, x, ev, hw, sqT_mono s.get hA, rfl, q x G1 H1 (Grow.refl s) ka⟩
theorem ev_ix51 {t : T5 α β γ δ ε} (ha : EvR K te σ G t) : EvR K (tOp (rIxT K) te (tC (.int 1))) σ G t.b :=
  ev_op (y := (1 : Int)) ha ev_int fun v w G1 H1 _ s ⟨i, x, y, z, u, w, ev, hA, ka, kb, kc, kd, ke⟩ hw Q q => ⟨i, [x, y, z, u, w], 1, y, ev, hw, sqT_mono s.get hA, rfl, q y G1 H1 (Grow.refl s) kb⟩
theorem ev_ix52 {t : T5 α β γ δ ε} (ha : EvR K te σ G t) : EvR K (tOp (rIxT K) te (tC (.int 2))) σ G t.c :=
  ev_op (y := (2 : Int)) ha ev_int fun v w G1 H1 _ s ⟨i, x, y, z, u, w, ev, hA, ka, kb, kc, kd, ke⟩ hw Q q => ⟨i, [x, y, z, u, w], 2, z, ev, hw, sqT_mono s.get hA, rfl, q z G1 H1 (Grow.refl s) kc⟩
theorem ev_ix53 {t : T5 α β γ δ ε} (ha : EvR K te σ G t) : EvR K (tOp (rIxT K) te (tC (.int 3))) σ G t.d :=
  ev_op (y := (3 : Int)) ha ev_int fun v w G1 H1 _ s ⟨i, x, y, z, u, w, ev, hA, ka, kb, kc, kd, ke⟩ hw Q q => ⟨i, [x, y, z, u, w], 3, u, ev, hw, sqT_mono s.get hA, rfl, q u G1 H1 (Grow.refl s) kd⟩
theorem ev_ix54 {t : T5 α β γ δ ε} (ha : EvR K te σ G t) : EvR K (tOp (rIxT K) te (tC (.int 4))) σ G t.e :=
  ev_op (y := (4 : Int)) ha ev_int fun v w G1 H1 _ s ⟨i, x, y, z, u, w, ev, hA, ka, kb, kc, kd, ke⟩ hw Q q => ⟨i, [x, y, z, u, w], 4, w, ev, hw, sqT_mono s.get hA, rfl, q w G1 H1 (Grow.refl s) ke⟩
end
/-! ### objects: what is told of the instance at a may be replaced -/
theorem nd_ins {C dx : Addr} {fs : List (Str × V)} : ¬ dataO (.ins C dx fs) := fun h => h
theorem nt_ins {C dx : Addr} {fs : List (Str × V)} : noTb (.ins C dx fs) := fun q z => by cases z
theorem nt_own {a : Addr} : noTb (.own a) := fun q z => by cases z
section
variable [Tb]
structure GrowM (a : Addr) (G H G' H' : Hp) : Prop where
  g : ∀ b o, G b = some o → b ≠ a → G' b = some o
  d : SameD G G'
  s : Sub G' H'
  k : ∀ b o, H b = some o → noTb o → b ≠ a → H' b = some o
  fr : ∀ b, H' b = none → H b = none
  f : ∀ b o, H b = some o → G b = none → G' b = none
variable {a : Addr} {G H G' H' G1 H1 G2 H2 Ge He : Hp}
theorem Grow.toM (g : Grow G H G' H') : GrowM a G H G' H' := ⟨fun b o h _ => g.g b o h, same_d g.g, g.s, fun b o h n _ => g.h.k b o h n, g.h.fr, g.f⟩
theorem GrowM.none (m : GrowM a G H G' H') {b : Addr} {o : HO} (h : H b = some o) : ∃ u, H' b = some u := by
  cases q : H' b with
  | none => rw [m.fr b q] at h; cases h
  | some u => exact ⟨u, rfl⟩
theorem GrowM.next (m : GrowM a G H G1 H1) (k : GrowM a G1 H1 G2 H2) : GrowM a G H G2 H2 :=
  ⟨fun b o h n => k.g b o (m.g b o h n) n, m.d.trans k.d, k.s, fun b o h t n => k.k b o (m.k b o h t n) t n, fun b h => m.fr b (k.fr b h), fun b o h n => by
    obtain ⟨u, e⟩ := m.none h
    exact k.f b u e (m.f b o h n)⟩
theorem GrowM.trans (m : GrowM a G H G1 H1) (g : Grow G1 H1 G2 H2) : GrowM a G H G2 H2 := m.next g.toM
theorem Grow.m (g : Grow G H G1 H1) (k : GrowM a G1 H1 G2 H2) : GrowM a G H G2 H2 := (g.toM (a := a)).next k
/-- the instance is not known to the def's entry -/
theorem Grow.mutM (gr : Grow Ge He G H) (hF : He a = none) (hE : Ge a = none) (m : GrowM a G H G' H') : Grow Ge He G' H' :=
  ⟨fun b o h => m.g b o (gr.g b o h) (ne_of_none h hE), m.s, ⟨fun b o h n => m.k b o (gr.h.k b o h n) n (ne_of_none h hF), fun b h => gr.h.fr b (m.fr b h)⟩, fun b o h n => by
    obtain ⟨u, e⟩ := gr.h.none h
    exact m.f b u e (gr.f b o h n)⟩
theorem wr_own {o o' : HO} (s : Sub G H) (h : G a = some o) (nd : ¬ dataO o) (nt : noTb o') : GrowM a G H (upd G a o') (upd H a o') := by
  have hH := s.m a o h
  refine ⟨fun b u e n => by rw [upd_ne n]; exact e, fun b u e d => ?_, ⟨fun b u e => ?_, fun P hP => tab_mut (s.t P hP) fun q z => ?_⟩, fun b u e _ n => by rw [upd_ne n]; exact e, fun b e => ?_, fun b u e n => ?_⟩
  · by_cases hb : b = a
    · rw [hb, h] at e
      cases e
      exact absurd d nd
    · rw [upd_ne hb]; exact e
  · by_cases hb : b = a
    · subst hb
      rw [upd_same] at e ⊢
      cases e
      exact ⟨rfl, nt⟩
    · rw [upd_ne hb] at e ⊢
      exact s.m b u e
  · rw [hH.1] at z
    cases z
    exact hH.2 q rfl
  · by_cases hb : b = a
    · rw [hb, upd_same] at e
      cases e
    · rw [upd_ne hb] at e
      exact e
  · by_cases hb : b = a
    · rw [hb, h] at n
      cases n
    · rw [upd_ne hb]; exact n
/-- a new instance: its dict and itself -/
theorem new_ins {C x dx : Addr} (e : Sub G H) (hx : H x = none) (hd : H dx = none) (ne : dx ≠ x) : Grow G H (upd (upd G dx (.own x)) x (.ins C dx [])) (upd (upd H dx (.own x)) x (.ins C dx [])) :=
  (Grow.new e hd nt_own).trans (Grow.new (sub_updB e hd nt_own) (by rw [upd_ne (Ne.symm ne)]; exact hx) nt_ins)
end
/-! ### reading and writing a field, making, methods -/
section
variable [Tb] {α β γ ρ S : Type} [Rep α] [Rep β] [Rep γ] [Rep ρ] {K : PySem.W.Frag} {σ : L2.St} {G H : Hp} {te ta tb tc : TE} {D : Ends} {tz : TS} {x : α} {y : β} {i j : Nat} {a dx C : Addr} {fs : List (Str × V)} {f m : Str} {w : V} {E : XK} {s : S} {Q : VK}
theorem ev_fld (hi : σ[i]? = some (some (.ref a))) (hG : G a = some (.ins C dx fs)) (c : Cls K C) (n : NoAttr K C f) (l : fs.lookup f = some w) (r : rep K x w G) : EvR K (tFld K (tVar i) f) σ G x := fun H e Q q =>
  ⟨_, hi, a, C, dx, fs, w, rfl, e _ _ hG, c, n, l, q w G H (Grow.refl e) r⟩
theorem s_fld (e : Sub G H) (h : EvR K te σ G x) (hi : σ[i]? = some (some (.ref a))) (hG : G a = some (.ins C dx fs)) (c : Cls K C) (n : NoAttr K C f) (l : fs.length < 1000)
    (k : ∀ w G1 H1, Grow G H G1 H1 → rep K x w G1 → ∀ G2 H2, GrowM a G1 H1 G2 H2 → G2 a = some (.ins C dx (putF f w fs)) → rep K x w G2 → D.nx σ H2) : sFld K (tVar i) te f D σ H :=
  h H e _ fun w G1 H1 g1 r1 => by
    have hG1 := g1.g _ _ hG
    have gm : GrowM a G1 H1 (upd G1 a (.ins C dx (putF f w fs))) (upd H1 a (.ins C dx (putF f w fs))) := wr_own g1.s hG1 nd_ins nt_ins
    exact ⟨_, hi, a, C, dx, fs, rfl, g1.s _ _ hG1, c, n, l, k w G1 H1 g1 r1 _ _ gm upd_same (upd' gm.d r1)⟩
theorem q_fld (e : Sub G H) (h : EvR K te σ G x) (hi : σ[i]? = some (some (.ref a))) (hG : G a = some (.ins C dx fs)) (c : Cls K C) (n : NoAttr K C f) (l : fs.length < 1000)
    (k : ∀ w G1 H1, Grow G H G1 H1 → rep K x w G1 → ∀ G2 H2, GrowM a G1 H1 G2 H2 → G2 a = some (.ins C dx (putF f w fs)) → rep K x w G2 → tz D σ H2) : tSeq (sFld K (tVar i) te f) tz D σ H :=
  s_fld (D := { D with nx := tz D }) e h hi hG c n l k
/-- what a kind of objects is known by: the fields' values stand in G -/
structure ObP (C : Addr) (Ob : S → Addr → Addr → Hp → Prop) : Prop where
  up : ∀ {s a dx G G'}, Same G G' → Ob s a dx G → Ob s a dx G'
  ins : ∀ {s a dx G}, Ob s a dx G → ∃ fs, G a = some (.ins C dx fs)
def spi0 (Ob : S → Addr → Addr → Hp → Prop) (C : Addr) (s : S) : Sp := fun vs H Q _ => ∃ a dx G, vs = [.ref a] ∧ Sub G H ∧ G a = some (.ins C dx []) ∧ G dx = some (.own a) ∧ ∀ G' H', GrowM a G H G' H' → Ob s a dx G' → Q .non H'
def spi1 (K : PySem.W.Frag) (Ob : S → Addr → Addr → Hp → Prop) (C : Addr) (pre : α → Prop) (f : α → S) : Sp := fun vs H Q _ => ∃ a dx x w G, vs = [.ref a, w] ∧ Sub G H ∧ G a = some (.ins C dx []) ∧ G dx = some (.own a) ∧ rep K x w G ∧ pre x ∧ ∀ G' H', GrowM a G H G' H' → Ob (f x) a dx G' → Q .non H'
def spr0 (K : PySem.W.Frag) (Ob : S → Addr → Addr → Hp → Prop) (pre : S → Prop) (f : S → ρ) : Sp := fun vs H Q _ => ∃ s a dx G, vs = [.ref a] ∧ Sub G H ∧ Ob s a dx G ∧ pre s ∧ ∀ u G' H', Grow G H G' H' → rep K (f s) u G' → Q u H'
def spr1 (K : PySem.W.Frag) (Ob : S → Addr → Addr → Hp → Prop) (pre : S → α → Prop) (f : S → α → ρ) : Sp := fun vs H Q _ => ∃ s a dx x w G, vs = [.ref a, w] ∧ Sub G H ∧ Ob s a dx G ∧ rep K x w G ∧ pre s x ∧ ∀ u G' H', Grow G H G' H' → rep K (f s x) u G' → Q u H'
def spm0 (K : PySem.W.Frag) (Ob : S → Addr → Addr → Hp → Prop) (pre : S → Prop) (f : S → ρ × S) : Sp := fun vs H Q _ => ∃ s a dx G, vs = [.ref a] ∧ Sub G H ∧ Ob s a dx G ∧ pre s ∧ ∀ u G' H', GrowM a G H G' H' → Ob (f s).2 a dx G' → rep K (f s).1 u G' → Q u H'
def spm1 (K : PySem.W.Frag) (Ob : S → Addr → Addr → Hp → Prop) (pre : S → α → Prop) (f : S → α → ρ × S) : Sp := fun vs H Q _ => ∃ s a dx x w G, vs = [.ref a, w] ∧ Sub G H ∧ Ob s a dx G ∧ rep K x w G ∧ pre s x ∧ ∀ u G' H', GrowM a G H G' H' → Ob (f s x).2 a dx G' → rep K (f s x).1 u G' → Q u H'
def spm2 (K : PySem.W.Frag) (Ob : S → Addr → Addr → Hp → Prop) (pre : S → α → β → Prop) (f : S → α → β → ρ × S) : Sp := fun vs H Q _ => ∃ s a dx x y w v G, vs = [.ref a, w, v] ∧ Sub G H ∧ Ob s a dx G ∧ rep K x w G ∧ rep K y v G ∧ pre s x y ∧ ∀ u G' H', GrowM a G H G' H' → Ob (f s x y).2 a dx G' → rep K (f s x y).1 u G' → Q u H'
/-- .. that may raise the error of the class at X, with the field what; the object is as it was then -/
def spmx1 (K : PySem.W.Frag) (X : Addr) (fl : Str) (Ob : S → Addr → Addr → Hp → Prop) (pre : S → α → Prop) (f : S → α → Except Str (ρ × S)) : Sp := fun vs H Q E => ∃ s a dx x w G, vs = [.ref a, w] ∧ Sub G H ∧ Ob s a dx G ∧ rep K x w G ∧ pre s x ∧
  (∀ y, f s x = .ok y → ∀ u G' H', GrowM a G H G' H' → Ob y.2 a dx G' → rep K y.1 u G' → Q u H') ∧ ∀ z, f s x = .error z → ErrAt X fl (.str z) H E
def spmx2 (K : PySem.W.Frag) (X : Addr) (fl : Str) (Ob : S → Addr → Addr → Hp → Prop) (pre : S → α → β → Prop) (f : S → α → β → Except Str (ρ × S)) : Sp := fun vs H Q E => ∃ s a dx x y w v G, vs = [.ref a, w, v] ∧ Sub G H ∧ Ob s a dx G ∧ rep K x w G ∧ rep K y v G ∧ pre s x y ∧
  (∀ r, f s x y = .ok r → ∀ u G' H', GrowM a G H G' H' → Ob r.2 a dx G' → rep K r.1 u G' → Q u H') ∧ ∀ z, f s x y = .error z → ErrAt X fl (.str z) H E
/-- x = C() -/
theorem s_make0 {Ob : S → Addr → Addr → Hp → Prop} {Ge He : Hp} (gr : Grow Ge He G H) (k : ∀ a dx G' H', He a = none → Ge a = none → Grow Ge He G' H' → Grow G H G' H' → Ob s a dx G' → D.nx (σ.set i (some (.ref a))) H') : tAsg (tMake C (spi0 Ob C s) [] E tNil) (gName i) D σ H := by
  intro x dx hx hd ne
  have g1 := new_ins (C := C) gr.s hx hd ne
  refine ⟨x, dx, _, rfl, g1.s, upd_same, by rw [upd_ne ne, upd_same], fun G' H' gm ob => ⟨rfl, ?_⟩⟩
  have hF : He x = none := gr.h.free hx
  have hE : Ge x = none := by
    cases q : Ge x with
    | none => rfl
    | some o =>
      have := gr.s _ _ (gr.g _ _ q)
      rw [hx] at this
      cases this
  exact k x dx G' H' hF hE ((gr.trans g1).mutM hF hE gm) (g1.mutM hx (gr.s.free hx) gm) ob
theorem q_make0 {Ob : S → Addr → Addr → Hp → Prop} {Ge He : Hp} (gr : Grow Ge He G H) (k : ∀ a dx G' H', He a = none → Ge a = none → Grow Ge He G' H' → Grow G H G' H' → Ob s a dx G' → tz D (σ.set i (some (.ref a))) H') : tSeq (tAsg (tMake C (spi0 Ob C s) [] E tNil) (gName i)) tz D σ H :=
  s_make0 (D := { D with nx := tz D }) gr k
/-- o.m(), o.m(e): the object stays -/
theorem ev_methR0 {Ob : S → Addr → Addr → Hp → Prop} {pre : S → Prop} {f : S → ρ} (hi : σ[i]? = some (some (.ref a))) (P : ObP C Ob) (ob : Ob s a dx G) (hm : ∀ fs, G a = some (.ins C dx fs) → fs.lookup m = none) (hp : pre s) : EvR K (tMeth C m (spr0 K Ob pre f) [] E (tVar i) tNil) σ G (f s) := fun H e Q q => by
  obtain ⟨fs, hG⟩ := P.ins ob
  exact ⟨_, hi, a, dx, fs, rfl, e _ _ hG, hm fs hG, s, a, dx, G, rfl, e, ob, hp, q⟩
theorem ev_methR1 {Ob : S → Addr → Addr → Hp → Prop} {pre : S → α → Prop} {f : S → α → ρ} (hi : σ[i]? = some (some (.ref a))) (P : ObP C Ob) (ob : Ob s a dx G) (hm : ∀ fs, G a = some (.ins C dx fs) → fs.lookup m = none) (ha : EvR K ta σ G x) (hp : pre s x) : EvR K (tMeth C m (spr1 K Ob pre f) [] E (tVar i) (tCons ta tNil)) σ G (f s x) := fun H e Q q => by
  obtain ⟨fs, hG⟩ := P.ins ob
  exact ⟨_, hi, a, dx, fs, rfl, e _ _ hG, hm fs hG, ha H e _ fun v G1 H1 g1 r1 => ⟨s, a, dx, x, v, G1, rfl, g1.s, P.up g1.g ob, r1, hp, fun u G2 H2 g2 r2 => q u G2 H2 (g1.trans g2) r2⟩⟩
/-- f(o, e): the object may change -/
theorem x_callM1 {Ob : S → Addr → Addr → Hp → Prop} {pre : S → α → Prop} {f : S → α → ρ × S} (e : Sub G H) (hi : σ[i]? = some (some (.ref a))) (up : ∀ {G G' : Hp}, Same G G' → Ob s a dx G → Ob s a dx G') (ob : Ob s a dx G) (ha : EvR K ta σ G x) (hp : pre s x)
    (k : ∀ u G' H', GrowM a G H G' H' → Ob (f s x).2 a dx G' → rep K (f s x).1 u G' → Q u H') : tCall (spm1 K Ob pre f) [] E (tCons (tVar i) (tCons ta tNil)) σ H Q :=
  ⟨_, hi, ha H e _ fun v G1 H1 g1 r1 => ⟨s, a, dx, x, v, G1, rfl, g1.s, up g1.g ob, r1, hp, fun u G2 H2 g2 o2 r2 => k u G2 H2 (g1.m g2) o2 r2⟩⟩
/-- an if whose test may change objects -/
theorem s_ifX {tt : TT} {t u : TS} (h : tt σ H fun b H2 => if b = true then t D σ H2 else u D σ H2) : tIfS tt t u D σ H := h
theorem q_ifX {tt : TT} {t u : TS} (h : tt σ H fun b H2 => if b = true then t { D with nx := tz D } σ H2 else u { D with nx := tz D } σ H2) : tSeq (tIfS tt t u) tz D σ H := h
theorem x_or {t u : TT} {Qt : Bool → Hp → Prop} (h : t σ H fun c H2 => if c = true then Qt true H2 else u σ H2 Qt) : tOr t u σ H Qt := h
theorem xT {b : Bool} {A B : Prop} (hb : b = true) (h : A) : if b = true then A else B := by
  rw [if_pos hb]
  exact h
theorem xF {b : Bool} {A B : Prop} (hb : b = false) (h : B) : if b = true then A else B := by
  rw [hb]
  exact h
/-- f(o, e) != d -/
theorem x_neM1 {δ : Type} [Rep δ] [DecidableEq δ] [Flat δ] {Ob : S → Addr → Addr → Hp → Prop} {pre : S → α → Prop} {f : S → α → δ × S} {Qt : Bool → Hp → Prop} (e : Sub G H) (hi : σ[i]? = some (some (.ref a))) (up : ∀ {G G' : Hp}, Same G G' → Ob s a dx G → Ob s a dx G') (ob : Ob s a dx G) (ha : EvR K ta σ G x) (hp : pre s x)
    (k : ∀ u G2 H2, GrowM a G H G2 H2 → Ob (f s x).2 a dx G2 → rep K (f s x).1 u G2 → ∃ q : δ, rep K (f s x).1 u G2 ∧ EvR K tb σ G2 q ∧ ∀ G3 H3, Grow G2 H2 G3 H3 → Qt (!eqB (f s x).1 q) H3) :
    tTest (tOp rNe (tCall (spm1 K Ob pre f) [] E (tCons (tVar i) (tCons ta tNil))) tb) σ H Qt :=
  x_callM1 e hi up ob ha hp fun u G2 H2 gm o2 r2 => by
    obtain ⟨q, rv, ev, kk⟩ := k u G2 H2 gm o2 r2
    refine ev H2 gm.s _ fun v G3 H3 g3 rq => ?_
    rw [Flat.eq.mp rv, Flat.eq.mp rq]
    refine ⟨Flat.sc _ q, _, rfl, ?_⟩
    rw [Flat.inj _ q]
    exact kk G3 H3 g3
/-- x, y = e -/
theorem s_asg2 {x : α × β} (e : Sub G H) (h : EvR K te σ G x) (n : ∀ u v G2 H2, Grow G H G2 H2 → rep K x.1 u G2 → rep K x.2 v G2 → D.nx ((σ.set i (some u)).set j (some v)) H2) : tAsg te (gTup K 2 (gCons (gName i) (gCons (gName j) gNil))) D σ H :=
  h H e _ fun t G1 H1 g1 ⟨b, u, v, et, hA, r1, r2⟩ => ⟨b, [u, v], et, sqT_mono g1.s.get hA, rfl, u, [v], rfl, v, [], rfl, rfl, n u v G1 H1 g1 r1 r2⟩
theorem q_asg2 {x : α × β} (e : Sub G H) (h : EvR K te σ G x) (n : ∀ u v G2 H2, Grow G H G2 H2 → rep K x.1 u G2 → rep K x.2 v G2 → tz D ((σ.set i (some u)).set j (some v)) H2) : tSeq (tAsg te (gTup K 2 (gCons (gName i) (gCons (gName j) gNil)))) tz D σ H :=
  s_asg2 (D := { D with nx := tz D }) e h n
/-- x, y = d, e: the pair itself is not tracked -/
theorem s_par (e : Sub G H) (ha : EvR K ta σ G x) (hb : EvR K tb σ G y) (n : ∀ u v G2 H2, Grow G H G2 H2 → rep K x u G2 → rep K y v G2 → D.nx ((σ.set i (some u)).set j (some v)) H2) : tPar i j (tCons ta (tCons tb tNil)) D σ H :=
  ha H e _ fun u G1 H1 g1 r1 => (hb.mono g1.g) H1 g1.s _ fun v G2 H2 g2 r2 => ⟨u, v, rfl, n u v G2 H2 (g1.trans g2) (up g2.g r1) r2⟩
theorem q_par (e : Sub G H) (ha : EvR K ta σ G x) (hb : EvR K tb σ G y) (n : ∀ u v G2 H2, Grow G H G2 H2 → rep K x u G2 → rep K y v G2 → tz D ((σ.set i (some u)).set j (some v)) H2) : tSeq (tPar i j (tCons ta (tCons tb tNil))) tz D σ H :=
  s_par (D := { D with nx := tz D }) e ha hb n
/-- == of lists of texts -/
theorem dp_lst {l : List Str} {v : V} (e : Sub G H) (h : rep K l v G) : Dp K H v (.list (l.map PyData.str)) := by
  obtain ⟨b, xs, ev, hA, r⟩ := h
  have e1 := reps_flat r
  subst e1
  rw [ev]
  exact .lst (SqL.of (e _ _ hA)) (dp_texts l)
theorem shaped_list {l : List Str} (h : TOk l) : SeqAt.shaped (.list (l.map PyData.str)) = true := shaped_texts h
theorem ev_eqLS {l n : List Str} (ha : EvR K ta σ G l) (hb : EvR K tb σ G n) (hl : TOk l ∧ TOk n) : EvR K (tOp (rEqD K) ta tb) σ G (eqB l n) :=
  ev_op ha hb fun v w G1 H1 _ e hv hw Q q => ⟨_, _, dp_lst e hv, dp_lst e hw, shaped_list hl.1, shaped_list hl.2, by
    rw [show PyData.eqv (.list (l.map PyData.str)) (.list (n.map PyData.str)) = PyData.eqvAll (l.map PyData.str) (n.map PyData.str) from rfl, eqv_texts]
    exact q _ G1 H1 (Grow.refl e) rfl⟩
theorem ev_neLS {l n : List Str} (ha : EvR K ta σ G l) (hb : EvR K tb σ G n) (hl : TOk l ∧ TOk n) : EvR K (tOp (rNeD K) ta tb) σ G (!eqB l n) :=
  ev_op ha hb fun v w G1 H1 _ e hv hw Q q => ⟨_, _, dp_lst e hv, dp_lst e hw, shaped_list hl.1, shaped_list hl.2, by
    rw [show PyData.eqv (.list (l.map PyData.str)) (.list (n.map PyData.str)) = PyData.eqvAll (l.map PyData.str) (n.map PyData.str) from rfl, eqv_texts]
    exact q _ G1 H1 (Grow.refl e) rfl⟩
end
/-! a method of an instance, called in the suite of a try: its error is wished for at the slots -/
def tMethT (C : Addr) (m : Str) (sp : Sp) (E : L2.St → XK) (to : TE) (ts : TA) : TE := fun σ H Q =>
  to σ H fun o H1 => ∃ b d fl, o = .ref b ∧ H1 b = some (.ins C d fl) ∧ fl.lookup m = none ∧ ts σ H1 fun ws H2 => sp (o :: ws) H2 Q (E σ)
theorem pe_methT {X : Cx} {CX : CXT} {lv : Nat} {fa C : Addr} {fd : FuncData} {ps : List Str} {sp : Sp} {E : L2.St → XK} {m : Str} {p0 p1 : Pos} {ob ar : Expr} {more : List Expr} {to : TE} {ts : TA} {pl : Sem Bool}
    (ho : PE X ob to) (cl : Cls X.K C) (me : Meth X.K C m fa) (F : FnOk X.prog X.w X.K X.mg X.base CX lv fa fd ps sp) (room : Room lv X.A) (bi : Binds X.K fd ps []) (pass : ∀ σ, PassesAt CX X σ (E σ)) (hargs : PA X (ar :: more) ts)
    (st1 : starEach (ar :: more) X.env = (false, eval ar X.env) :: starEach more X.env := by rfl) (st2 : (backTo p0 (starEach more X.env)).any (·.1) = false := by rfl)
    (how : eval (.Call (.Attribute ob m p1) (ar :: more) [] p0) X.env = (do
      let o ← eval ob X.env
      standAt p1.atName
      let (g, pre) ← holding [o] (getMethod o m pl)
      callWith p0 g pre (backTo p0 (starEach (ar :: more) X.env)) (backToKw p0 (keywordEach [] X.env))) := by rfl) :
    PE X (.Call (.Attribute ob m p1) (ar :: more) [] p0) (tMethT C m sp E to ts) := by
  constructor
  intro pins s σ H Q I h
  refine PySem.W.methodCall_KW (pl := pl) (thn (ho.run pins s σ H _ I h) ?_) how
  rintro v s1 ⟨o, H1, I1, ro, b, d, fl, eo, hb, hl, q⟩
  subst eo
  obtain rfl : v = Value.ref b := ro
  refine getmeth_ok I1 hb cl me hl (PySem.W.callWith_K (first := [.ref b]) (h₀ := X.base) I.ok.mod.kin me.kp (thn (hargs.run p0 pins s1 σ H1 _ I1 q) ?_) st1 st2)
  rintro vs s2 ⟨ws, H2, I2, rs, q2⟩
  exact ⟨I2.kIn, run_fnS (us := .ref b :: vs) (vs := .ref b :: ws) F room bi (pass σ) I2 (.cons rfl rs) q2⟩
end RL

set_option Elab.async false
set_option linter.all false
set_option maxRecDepth 100000
set_option maxHeartbeats 4000000
namespace RL
open PySem PySem.Spec PyProof.Rows L2 GxR
/-! ### any(is_prefix(x, c) for c in d), d a dict whose keys are tuples of texts -/
theorem mod_keeps {K : PySem.W.Frag} {mg : Str → Option Value} {h h' : Heap} (m : Mod K mg h) (k : ∀ b o, h.get? b = some o → h'.get? b = some o) : Mod K mg h' :=
  ⟨m.kin.keeps k, m.glob.keeps k, let ⟨mb, a, b⟩ := m.blt; ⟨mb, a.keeps k, b⟩, m.nolimit.keeps k⟩
theorem keeps_trans {s s1 s2 : Shared} (a : Keeps s s1) (b : Keeps s1 s2) : Keeps s s2 := by
  obtain ⟨h1, t1, rfl, k1⟩ := a
  obtain ⟨h2, t2, rfl, k2⟩ := b
  exact ⟨h2, t2, rfl, fun x o e => k2 x o (k1 x o e)⟩
theorem keeps_get {s s1 : Shared} (a : Keeps s s1) : ∀ b o, s.heap.get? b = some o → s1.heap.get? b = some o := by
  obtain ⟨h1, t1, rfl, k1⟩ := a
  exact k1
/-- a tuple of texts in the state -/
def TupS (h : Heap) (a : Addr) (ks : List Str) : Prop := ∃ its : List Value, Vals (ks.map V.str) its ∧ IsTup h a its.toArray
theorem TupS.keeps {h h' : Heap} {a : Addr} {ks : List Str} (t : TupS h a ks) (k : ∀ b o, h.get? b = some o → h'.get? b = some o) : TupS h' a ks :=
  let ⟨its, r, p⟩ := t; ⟨its, r, p.keeps k⟩
theorem reads_strs {h : Heap} : ∀ {ks : List Str} {its : List Value}, Vals (ks.map V.str) its → ReadsAll h its (ks.map PyData.str) []
  | [], _, .nil => .nil
  | k :: ks, _, .cons r t => by
    obtain ⟨tk, e⟩ := r
    subst e
    exact ReadsAll.cons (as := []) (.str k tk) (reads_strs t)
theorem TupS.reads {h : Heap} {a : Addr} {ks : List Str} (t : TupS h a ks) : Reads h (.ref a) (.tuple (ks.map PyData.str)) [] := by
  obtain ⟨its, r, o, e, c, n, d⟩ := t
  exact .tuple e c d (by rw [List.toList_toArray]; exact reads_strs r)
section
variable {P : Program} {w : World} {K : PySem.W.Frag} {mg : Str → Option Value} {A : Around} {s : Shared} {E : Value → Shared → Prop} {en : Env} {lm : Str → Option Value} {a1 a2 : Addr} {ks ls : List Str}
theorem body_prefix {p1 p2 p3 p4 p5 p6 p7 p8 : Pos} (hk : en.scope.kind = .function) (h1 : en.scope.names.lookup ("one" : Str) = some .local) (h2 : en.scope.names.lookup ("two" : Str) = some .local) (hl : en.scope.names.lookup ("len" : Str) = some .globalImplicit)
    (hg : en.globals = mainGlobals) (hb : en.builtins = builtinsNs) (m0 : Mod K mg s.heap) (hm : mg "len" = none) (hn : s.heap.Ns en.locals lm) (e1 : lm "one" = some (.ref a1)) (e2 : lm "two" = some (.ref a2))
    (t1 : TupS s.heap a1 ks) (t2 : TupS s.heap a2 ls) (o1 : TOk ks) (o2 : TOk ls) (hu : A.units + 64 < cLine) (z1 : ks.length ≤ 1000) (z2 : ls.length ≤ 1000) :
    wpAny (model P w) A (eval (.Compare (.Subscript (.Name "two" p1) (.Slice none (some (.Call (.Name "len" p2) [.Name "one" p3] [] p4)) none p5) p6) [.Eq] [.Name "one" p7] p8) en)
      (fun y s3 => y = .bool (decide (ls.take ks.length = ks)) ∧ Keeps s s3) E s := by
  letI tb0 : Tb := ⟨[]⟩
  obtain ⟨mb, nb, hmb⟩ := m0.blt
  obtain ⟨i1, r1, q1⟩ := t1
  obtain ⟨i2, r2, q2⟩ := t2
  have l1 : i1.length = ks.length := by rw [← r1.length, List.length_map]
  have l2 : i2.length = ls.length := by rw [← r2.length, List.length_map]
  refine wpAny_Compare1 (Subscript_ (wpAny_Name (wpAny_loadName_local hk h2 hn e2 ?_) (by decide))) (by rfl)
  refine wpAny_Slice (wpAny_evalPart_none (wpAny_evalPart_some ?_))
  refine wpAny_Call_Name_kw (Calls.Name_function_global hk hl (Calls.loadGlobal_builtin (by rw [hg]; exact m0.glob) hm (by rw [hb]; exact nb) ((hmb "len" (by decide)).trans boot_len) ?_) (by decide))
  refine PyProof.Rows.callWith_builtin1 ?_ (by rfl)
  rw [show starEach [.Name "one" p3] en = (false, eval (.Name "one" p3) en) :: starEach [] en by rfl]
  show wpAny _ _ (spliced ((false, eval (.Name "one" p3) en) :: backTo p4 (starEach [] en))) _ _ s
  refine Calls.spliced_cons (wpAny_Name (wpAny_loadName_local hk h1 hn e1 (Calls.spliced_nil ?_)) (by decide))
  refine len_tuple q1 (by rw [List.size_toArray, l1]; omega) ?_
  refine wpAny_evalPart_none ?_
  -- the slice object, the cut, the test
  rw [show i1.toArray.size = ks.length by rw [List.size_toArray, l1]]
  obtain ⟨s4, es4⟩ : ∃ s4 : Shared, s4 = { s with toks := s.toks + 1 + 1, heap := s.heap.push { cls := .type "slice", data := .fields #[.none, .int (ks.length : Nat) (s.toks + 1), .none] } } := ⟨_, rfl⟩
  have K4 : Keeps s s4 := by
    rw [es4]
    exact ⟨_, _, rfl, fun b o q => Heap.get?_push_of_some _ q⟩
  have hs4 : s4.heap.IsSliceOf s.heap.objs.size .none (.int (ks.length : Nat) (s.toks + 1)) .none := by
    rw [es4]
    exact Heap.IsSliceOf.new ..
  have fin : ∀ (c : Addr) (s5 : Shared), Keeps s s5 → TupS s5.heap c (ls.take ks.length) → wpAny (model P w) A (eval (.Name "one" p7) en) (fun b s₂ => wpAny (model P w) A (compareOp .Eq (.ref c) b) (fun y s3 => y = .bool (decide (ls.take ks.length = ks)) ∧ Keeps s s3) E s₂) E s5 := by
    intro c s5 k5 tc
    refine wpAny_Name (wpAny_loadName_local hk h1 (hn.keeps (keeps_get k5)) e1 ?_) (by decide)
    have tk : TupS s5.heap a1 ks := TupS.keeps ⟨i1, r1, q1⟩ (keeps_get k5)
    have ot : TOk (ls.take ks.length) := fun p hp => o2 p (List.mem_of_mem_take hp)
    refine SeqAt.compareEq_shaped tc.reads tk.reads (shaped_texts ot) (shaped_texts o1) hu ⟨?_, k5⟩
    rw [show PyData.eqv (.tuple ((ls.take ks.length).map PyData.str)) (.tuple (ks.map PyData.str)) = PyData.eqvAll ((ls.take ks.length).map PyData.str) (ks.map PyData.str) from rfl, eqv_texts]
  show wpAny (model P w) A (subscriptTail (.Name "two" p1) (.Slice none (some (.Call (.Name "len" p2) [.Name "one" p3] [] p4)) none p5) (.ref a2) (.ref s.heap.objs.size)) _ E { s with toks := s.toks + 1 + 1, heap := s.heap.push { cls := .type "slice", data := .fields #[.none, .int (ks.length : Nat) (s.toks + 1), .none] } }
  rw [← es4]
  have q24 : IsTup s4.heap a2 i2.toArray := q2.keeps (keeps_get K4)
  have sz : i2.toArray.size = ls.length := by rw [List.size_toArray, l2]
  refine tail_any (ops := [.ref s.heap.objs.size, .ref a2]) q24.typeIs PyProof.Rows.slot_tuple_getitem.lookup ?_ (by with_unfolding_all rfl)
  by_cases hw : HT.sIx i2.toArray.size 0 none = 0 ∧ HT.sIx i2.toArray.size i2.toArray.size (some ((ks.length : Nat) : Int)) = i2.toArray.size
  · refine getItem_tuple_whole q24 hs4 .none (.int _ _) hw ?_
    have e : ls.take ks.length = ls := by
      have := hw.2
      rw [HT.sIx_nat, sz] at this
      exact List.take_of_length_le (by omega)
    exact fin a2 s4 K4 (by rw [e]; exact ⟨i2, r2, q24⟩)
  · refine HT.getItem_tuple_cut q24 hs4 .none (.int _ _) hw ?_ (by rw [sz, sizeLine_eq]; omega)
    refine fin _ _ (keeps_trans K4 ⟨_, _, rfl, fun b o q => Heap.get?_push_of_some _ q⟩) ⟨i2.take ks.length, ?_, ?_⟩
    · rw [List.map_take]
      exact r2.take ks.length
    · rw [show HT.sIx i2.toArray.size 0 none = 0 from rfl, HT.sIx_nat, List.drop_zero, Nat.sub_zero, sz]
      rw [show List.take (min ks.length ls.length) i2.toArray.toList = i2.take ks.length by rw [List.toList_toArray, ← List.take_take, List.take_of_length_le (l := i2) (by omega)]]
      exact IsTup.new _ _
/-- the whole call -/
theorem call_prefix {x : Str} {st : Stmt} {f : Addr} {fd : FuncData} {N : List Str} {p0 p1 p2 p3 p4 p5 p6 p7 p8 : Pos} (F : Fun K x x st f fd) (S : FnScope N ["one", "two"] (defScope st)) (hl : (defScope st).names.lookup ("len" : Str) = some .globalImplicit)
    (c1 : (defScope st).names.lookup ("one" : Str) = some .local) (c2 : (defScope st).names.lookup ("two" : Str) = some .local)
    (hB : defBody st = [.Return (some (.Compare (.Subscript (.Name "two" p1) (.Slice none (some (.Call (.Name "len" p2) [.Name "one" p3] [] p4)) none p5) p6) [.Eq] [.Name "one" p7] p8)) p0])
    (bi : Binds K fd ["one", "two"] []) (m0 : Mod K mg s.heap) (hm : mg "len" = none) (hd : A.handled = none) (hdp : A.depth + 10 < recursionLimit) (hu : A.units + 200 < cLine)
    (t1 : TupS s.heap a1 ks) (t2 : TupS s.heap a2 ls) (o1 : TOk ks) (o2 : TOk ls) (z1 : ks.length ≤ 1000) (z2 : ls.length ≤ 1000) :
    wpAny (model P w) A (call (.ref f) [.ref a1, .ref a2]) (fun y s3 => y = .bool (decide (ls.take ks.length = ks)) ∧ Keeps s s3) E s := by
  obtain ⟨oc, od, kV, doc, pm, an, cdv, ct, osl, ef, lk, hcd⟩ := F.ex
  subst ef
  have kx := m0.kin
  have bnd := bi s [.ref a1, .ref a2] kx rfl
  refine wpAny_call (codeAny_call_function (by omega) (kx _ _ lk) rfl S.co S.gen rfl (PySem.W.codeRec_of kx hcd) (bnd _ _ _ _ (wpAny_newFunctionEnv_cells S.kind (fun y hy => .inl ?_) fun en een s1 nc => ?_)))
  · have : y.1 = "one" ∨ y.1 = "two" := by
      rcases List.mem_cons.mp hy with z | z
      · exact .inl (by rw [z])
      · rcases List.mem_cons.mp z with z | z
        · exact .inr (by rw [z])
        · cases z
    rcases this with z | z
    · rw [z]; exact c1
    · rw [z]; exact c2
  · have hk1 := nc.toInCall.keep
    refine ⟨m0.nolimit.keeps hk1, codeAny_func ?_⟩
    rw [hB]
    have ks1 : Keeps s s1 := by
      obtain ⟨h, tk, e⟩ := nc.toInCall.same
      subst e
      exact ⟨h, tk, rfl, hk1⟩
    have ns1 := nc.toInCall.ns
    subst een
    refine wpAny_execs_cons (wpAny_Return_some (wpAny_mono (body_prefix (lm := _) S.kind c1 c2 hl rfl rfl (mod_keeps m0 hk1) hm ns1 (bindL_get (P := ["one", "two"]) (vs := [.ref a1, .ref a2]) (i := 0) (by decide) rfl rfl c1) (bindL_get (P := ["one", "two"]) (vs := [.ref a1, .ref a2]) (i := 1) (by decide) rfl rfl c2) (t1.keeps hk1) (t2.keeps hk1) o1 o2
      (by show A.units + 3 + 64 < cLine; omega) z1 z2) (fun y s3 r => ?_) fun _ _ e => e))
    exact ⟨r.1, keeps_trans ks1 r.2⟩
end
/-- a def of two tuples of texts that tells whether the first begins the second, and changes nothing -/
structure PfxOk (P : Program) (w : World) (K : PySem.W.Frag) (mg : Str → Option Value) (fn : Str) (f : Addr) : Prop where
  gf : mg fn = some (.ref f)
  kp : PySem.W.keepIn K (.ref f) = true
  run : ∀ {A : Around} {s : Shared} {E : Value → Shared → Prop} {a1 a2 : Addr} {ks ls : List Str}, Mod K mg s.heap → A.handled = none → A.depth + 10 < recursionLimit → A.units + 200 < cLine → TupS s.heap a1 ks → TupS s.heap a2 ls → TOk ks → TOk ls → ks.length ≤ 1000 → ls.length ≤ 1000 →
    wpAny (model P w) A (call (.ref f) [.ref a1, .ref a2]) (fun y s3 => y = .bool (decide (ls.take ks.length = ks)) ∧ Keeps s s3) E s
def keyS (k : List Key) : List Str := k.map fun x => match x with
  | .inl _ => ""
  | .inr z => z
theorem keyS_inr (l : List Str) : keyS (l.map Sum.inr) = l := by
  unfold keyS
  rw [List.map_map]
  exact List.map_id l
/-- the test of one entry -/
def pfT (ks : List Str) (p : List Key × V) : Bool := decide ((keyS p.1).take ks.length = ks)
def trD (ks : List Str) (ents : List (List Key × V)) (j : Nat) : Bool := match ents[j]? with
  | some p => pfT ks p
  | none => false
theorem any_trD (ks : List Str) (ents : List (List Key × V)) : (List.range ents.length).any (trD ks ents) = ents.any (pfT ks) := by
  rw [Bool.eq_iff_iff, List.any_eq_true, List.any_eq_true]
  constructor
  · rintro ⟨j, hj, h⟩
    have hj2 := List.mem_range.mp hj
    unfold trD at h
    rw [List.getElem?_eq_getElem hj2] at h
    exact ⟨_, List.getElem_mem hj2, h⟩
  · rintro ⟨p, hp, h⟩
    obtain ⟨j, hj, e⟩ := List.getElem_of_mem hp
    refine ⟨j, List.mem_range.mpr hj, ?_⟩
    unfold trD
    rw [List.getElem?_eq_getElem hj, e]
    exact h
/-- the generator at g is ready; behind its walk the def's table may have grown -/
def ReadyD (X : Cx) (pins : List (Addr × Obj)) (σ : L2.St) (H1 : Hp) (T : Addr) (n : Nat) (tr : Nat → Bool) (g : Addr) (s5 : Shared) : Prop :=
  ∃ (fp wr : List Addr) (G : Array GenState → Array GenState → Prop) (F : Nat → Value → Prop) (St : Nat → Shared → Prop),
    WalksS X.prog X.w X.A.in1 g fp wr G n F St ∧ St 0 s5 ∧ TruthOf X.prog X.w X.A.in1 F tr ∧ ∀ s', Moved wr G s5 s' → ∃ H2, Tabbed T H1 H2 ∧ Inv X pins σ H2 s'
/-- what stands at d: a dict whose keys are tuples of texts -/
structure DkAt (H : Hp) (d : Addr) (ents : List (List Key × V)) : Prop where
  at_ : H d = some (.dT ents) ∨ (ents = [] ∧ H d = some (.dK []))
  ks : ∀ p ∈ ents, ∃ ls : List Str, p.1 = ls.map Sum.inr ∧ TOk ls ∧ ls.length ≤ 1000
section
variable {K : PySem.W.Frag} {X : Cx} {pins : List (Addr × Obj)} {σ : L2.St} {H : Hp} {s : Shared}
theorem dk_raw (I : Inv X pins σ H s) {d : Addr} {ents : List (List Key × V)} (h : DkAt H d ents) : ∃ (es : Array DictEntry) (ep : Nat), (d == sysModules) = false ∧ s.heap.DictRaw d es ep ∧ es.size = ents.length ∧
    ∀ (i : Nat) (hi : i < es.size) (k : List Key) (v : V), ents[i]? = some (k, v) → ∃ (q : Addr) (ls : List Str), es[i].key = .ref q ∧ TupS s.heap q ls ∧ keyS k = ls ∧ TOk ls ∧ ls.length ≤ 1000 := by
  rcases h.at_ with e | ⟨e0, e⟩
  · obtain ⟨z, hs, xs, pr, o, es, ep, ho, hx, hdt, he, nd⟩ := I.hok d _ e
    have l1 : es.size = xs.length := size_of_entries he
    have l2 : ents.length = xs.length := Paired.length pr
    refine ⟨es, ep, hs, ⟨o, ho, hx, hdt⟩, by omega, fun i hi k v hk => ?_⟩
    obtain ⟨b, hb, e1, e2, _⟩ := L2.paired_get pr hk
    have q := entry_at he i
    rw [hb, Array.getElem?_eq_getElem hi] at q
    have q2 := Option.some.inj q
    obtain ⟨ls, e3, ok, hl⟩ := h.ks (k, v) (List.mem_of_getElem? hk)
    have e3 : k = ls.map Sum.inr := e3
    refine ⟨b.2.1, ls, by rw [q2]; rfl, ?_, by rw [e3, keyS_inr], ok, hl⟩
    have e2 : H b.2.1 = some (.tup (k.map kV)) := e2
    obtain ⟨its, r, p, _⟩ := I.tuple (SqT.of e2)
    rw [e3, List.map_map] at r
    exact ⟨its, r, p⟩
  · obtain ⟨z, hs, vs, kv, o, es, ep, ho, hx, hdt, r⟩ := I.hok d _ e
    have l2 : 0 = vs.length := Paired.length kv
    have l1 := r.2.1.length
    rw [Array.length_toList] at l1
    subst e0
    exact ⟨es, ep, hs, ⟨o, ho, hx, hdt⟩, by show es.size = 0; omega, fun i hi => absurd hi (by omega)⟩
theorem gen_dict {cd T f : Addr} {src : Expr} {fn fx c : Str} {q1 q2 q3 q4 p1 p2 : Pos} {sc : Scope} {te : TE} {lv ix : Nat} {Z : Value → Shared → Prop} {R : List Str → List (List Key × V) → Hp → Prop}
    (room : Room lv X.A) (hlv : 4 ≤ lv) (tb : TabB X.base X.mg cd T) (hcd : X.env.code = .ref cd) (gs : GenS X.env sc c) (hsrc : PE X src te)
    (pf : PfxOk X.prog X.w X.K X.mg fn f) (hgl : sc.names.lookup fn = some .globalImplicit) (hfx : sc.names.lookup fx = some .free) (hclo : ∀ (cells : List (Str × Addr)) (cc : Addr), cells.lookup fx = some cc → (cloFrom cells sc.names []).lookup fx = some cc)
    (hN : X.N[ix]? = some fx) (hvis : Vis X.env.scope fx) (hcell : X.env.kindOf fx = some .cell) (hfold : ∀ u, genFold src X.env u = pure u) (I : Inv X pins σ H s)
    (nd1 : (fn == ("__debug__" : Str)) = false) (nd2 : (fx == ("__debug__" : Str)) = false) (nd3 : (c == ("__debug__" : Str)) = false) (nd4 : (fx == ("__classdict__" : Str)) = false)
    (start : te σ H fun v H1 => ∃ d a ks ents, v = .ref d ∧ TabG H1 T ∧ DkAt H1 d ents ∧ σ[ix]? = some (some (.ref a)) ∧ SqT X.K H1 a (ks.map V.str) ∧ TOk ks ∧ ks.length ≤ 1000 ∧ R ks ents H1)
    (fin : ∀ ks ents H1 g s5, R ks ents H1 → ReadyD X pins σ H1 T ents.length (trD ks ents) g s5 → Z (.ref g) s5) :
    wpAny (model X.prog X.w) X.A (eval (.GeneratorExp (.Call (.Name fn q1) [.Name fx q2, .Name c q3] [] q4) [⟨.Name c p1, src, [], 0⟩] sc p2) X.env) Z X.xe s := by
  have hdepth : X.A.depth + 17 < recursionLimit := by
    have := room.dp
    omega
  have hunits : X.A.units + 260 < cLine := by
    have := room.un
    omega
  refine wpAny_GeneratorExp_walksQD room.hd gs.co (closure_ok gs.free) gs.cell gs.dot gs.loc gs.kind (by omega)
    (thn (hsrc.run pins s σ H _ I start) fun vx sa ⟨v, HA, IA, rv, ⟨d, a, ks, ents, ed, ⟨ps, eT, trs⟩, hdk, hslot, htup, oks, zks, hR⟩⟩ => ?_) hfold
  subst ed
  obtain rfl : vx = Value.ref d := rv
  obtain ⟨es, ep, hsys, hraw, hsz, hkeys⟩ := dk_raw IA hdk
  -- the free name's value
  obtain ⟨lm, _, hloc⟩ := IA.loc
  obtain ⟨ux, rux, hlook⟩ := hloc ix fx (.ref a) hN hslot hvis
  obtain rfl : ux = Value.ref a := rux
  obtain ⟨cc, hcc, hcell2⟩ : ∃ cc, X.env.cells.lookup fx = some cc ∧ sa.heap.IsCell cc (some (.ref a)) := by
    rcases hlook with ⟨q, _⟩ | ⟨_, q⟩
    · rw [hcell] at q
      cases q
    · exact q
  obtain ⟨itk, rtk, ptk, _⟩ := IA.tuple htup
  have tks : TupS sa.heap a ks := ⟨itk, rtk, ptk⟩
  refine wpAny_pyIter_dict_raw hsys hraw ?_
  generalize enw : ({ cls := .type "dict_keyiterator", data := .fields #[.ref d, .int 0 0, .int es.size 0, .int ep 0] } : Obj) = nw
  have tA : sa.heap.get? T = some { cls := .none, data := .fields ps } := IA.hok T _ eT
  have tB : (sa.heap.push nw).get? T = some { cls := .none, data := .fields ps } := Heap.get?_push_of_some _ tA
  have ltT : T < sa.heap.objs.size := Heap.lt_size tA
  have cdB : PySem.W.CodeHd (sa.heap.push nw) cd T := tb.code.keeps fun b u q => Heap.get?_push_of_some _ (IA.bk b u q)
  have limB : (sa.heap.push nw).NoLimit := IA.nolimit.push nw
  have sizeB : (sa.heap.push nw).objs.size = sa.heap.objs.size + 1 := Heap.size_push ..
  have neD : d ≠ sa.heap.objs.size := Nat.ne_of_lt hraw.lt_size
  have dT : d ≠ T := fun q => by
    obtain ⟨o, ho, hc, hdt⟩ := hraw
    rw [q, tA] at ho
    cases ho
    cases hdt
  obtain ⟨nsS, ltS⟩ : cStatics ≠ T ∧ cStatics < sa.heap.objs.size := by
    obtain ⟨m0, n0, _⟩ := IA.nolimit
    refine ⟨fun q => ?_, n0.lt⟩
    obtain ⟨o0, es0, ep0, g0, d0, _⟩ := n0
    rw [q, tA] at g0
    cases g0
    cases d0
  have itB : (sa.heap.push nw).IsKeyIter sa.heap.objs.size d 0 es.size ep ∧ (sa.heap.push nw).DictRaw d es ep := by
    refine ⟨?_, hraw.push nw⟩
    have gz : (sa.heap.push nw).get? sa.heap.objs.size = some nw := Heap.get?_push_size (o := nw) _ (by rw [← enw]; rfl)
    refine ⟨_, gz, ?_⟩
    rw [← enw]
    exact ⟨rfl, rfl⟩
  have onward : ∀ (cv : Value) (hp : Heap) (k : Nat) (qs : Array Value), Heap.ExtBut T (sa.heap.push nw) hp →
      (sa.heap.push nw).objs.size ≤ hp.objs.size → hp.get? T = some { cls := .none, data := .fields qs } → (∃ more, qs = ps ++ more) → TriplesOk qs.toList →
      wpAny (model X.prog X.w) X.A (builtinsFor X.env.globals X.env.builtins)
        (fun bi s4 => ∃ Ia fp wr n₀ Pf St₀ pz F, Value.ref sa.heap.objs.size = .ref Ia ∧ (∀ A' : Around, A'.handled = none → Walks X.prog X.w A' Ia fp wr n₀ Pf St₀) ∧
          St₀ 0 s4.heap ∧ (∀ b ∈ fp, b < s4.heap.objs.size) ∧ s4.heap.NoLimit ∧ cStatics ∉ wr ∧
          (∀ ref : Heap, (∀ b o, s4.heap.get? b = some o → ref.get? b = some o) →
            QuietGenD X.prog X.w (genEnv sc (cloFrom X.env.cells sc.names []) s4.heap.objs.size cv bi X.env) c [] (.Call (.Name fn q1) [.Name fx q2, .Name c q3] [] q4) (List.range s4.heap.objs.size) wr Pf pz F ref (X.A.depth + 1) (X.A.units + 8)) ∧
          (∀ ga h5 tk gn, gn.bare = true → s4.heap.objs.size < ga → h5.objs.size = ga + 1 → (∀ b o, s4.heap.get? b = some o → h5.get? b = some o) →
            WalksS X.prog X.w X.A.in4 ga (ga :: s4.heap.objs.size :: List.range s4.heap.objs.size) (s4.heap.objs.size :: wr) (GenOnlyQ s4.gens.size) (passing pz n₀ 0).length
              (fun j y => ∃ i, (passing pz n₀ 0)[j]? = some i ∧ F i y)
              (GenAt X.prog X.w X.A.in4 ga s4.gens.size s4.heap.objs.size (List.range s4.heap.objs.size) wr pz n₀ F) →
            GenAt X.prog X.w X.A.in4 ga s4.gens.size s4.heap.objs.size (List.range s4.heap.objs.size) wr pz n₀ F 0 { s4 with gens := s4.gens.push gn, toks := tk, heap := h5 } →
            Z (.ref ga) { s4 with gens := s4.gens.push gn, toks := tk, heap := h5 }))
        X.xe { sa with heap := hp, toks := k } := by
    intro cv hp k qs ext grown tC ⟨more, em⟩ trC
    have keepC : ∀ b u, b ≠ T → sa.heap.get? b = some u → hp.get? b = some u := fun b u nb q => ext b u nb (Heap.get?_push_of_some _ q)
    obtain ⟨bm, ob, b1, b2, b3, b4, b5, b6, b7, b8⟩ := tb.bm
    have globC : hp.Ns mainGlobals X.mg := ((IA.mod.glob.keeps IA.bk).push nw).extBut ext tb.gP
    have sizeC : sa.heap.objs.size < hp.objs.size := by omega
    refine wpAny_builtinsFor (m := X.mg) (by rw [IA.ok.glob]; exact globC) b1 b2 (keepC _ _ b4 (IA.bk _ _ b5)) b6 b7 b8 ?_
    refine ⟨sa.heap.objs.size, [sa.heap.objs.size, d], [sa.heap.objs.size], es.size, _, _, fun _ => true,
      fun i y => y = .bool (trD ks ents i), rfl, fun A' hA => Walks.rawKeys hA sa.heap.objs.size d neD es ep, ?_, fun b hb => ?_, limB.extBut ext nsS, fun q => ?_, ?_, ?_⟩
    · exact ⟨itB.1.at fun o q => ext _ o (fun z => Nat.ne_of_lt ltT z.symm) q, itB.2.at fun o q => ext _ o dT q⟩
    · rcases List.mem_cons.mp hb with z | z
      · rw [z]; exact sizeC
      · rw [List.mem_singleton.mp z]
        exact Nat.lt_trans hraw.lt_size sizeC
    · rw [List.mem_singleton] at q
      exact Nat.ne_of_lt ltS q
    · intro ref href
      -- what stood ahead of the iterator stands in each state of the walk
      have still : ∀ (t : Heap), (∀ b ∈ List.range hp.objs.size, b ∉ [sa.heap.objs.size] → ∀ o, ref.get? b = some o → t.get? b = some o) → ∀ b o, b ≠ T → sa.heap.get? b = some o → t.get? b = some o := fun t hk b o nb q => by
        have lt := Heap.lt_size q
        refine hk b (List.mem_range.mpr (Nat.lt_trans lt sizeC)) (fun z => ?_) o (href b o (keepC b o nb q))
        rw [List.mem_singleton.mp z] at lt
        exact Nat.lt_irrefl _ lt
      refine ⟨fun B E2 i v s2 m2 _ _ _ _ _ _ _ => ?_, fun B E2 i v s2 m2 hB hBd hBu hv _ hns hmc hkeep => ?_⟩
      · rw [List.forIn_nil]
        exact wpAny_pure ⟨rfl, keeps_refl _⟩
      · have st := still s2.heap hkeep
        have mod2 : Mod X.K X.mg s2.heap := by
          have mb := IA.mod
          have kk : ∀ b o, X.base.get? b = some o → s2.heap.get? b = some o := fun b o q => st b o (fun z => by
            have h2 := IA.bs b o q
            rw [z, eT] at h2
            cases h2.2) (IA.bk b o q)
          exact mod_keeps mb kk
        obtain ⟨hi, ev⟩ := hv
        obtain ⟨⟨kk, vv⟩, hkv⟩ : ∃ p, ents[i]? = some p := ⟨_, List.getElem?_eq_getElem (by omega)⟩
        obtain ⟨qa, ls, ek, tls, ekk, ols, zls⟩ := hkeys i hi kk vv hkv
        rw [ek] at ev
        subst ev
        have tupT : ∀ {b : Addr} {zs : List Str}, TupS sa.heap b zs → TupS s2.heap b zs := fun {b zs} ⟨its, r, o, ho, hc, nn, hd2⟩ => ⟨its, r, o, st b o (fun z => by
          rw [z, tA] at ho
          cases ho
          cases hd2) ho, hc, nn, hd2⟩
        have cell2 : s2.heap.IsCell cc (some (.ref a)) := by
          obtain ⟨o, ho, hd2⟩ := hcell2
          exact ⟨o, st cc o (fun z => by
            rw [z, tA] at ho
            cases ho
            cases hd2) ho, hd2⟩
        have etr : trD ks ents i = decide (ls.take ks.length = ks) := by
          unfold trD
          rw [hkv]
          show pfT ks (kk, vv) = _
          unfold pfT
          rw [ekk]
        rw [etr]
        generalize ege : genEnv sc (cloFrom X.env.cells sc.names []) _ cv _ X.env = ge at hns ⊢
        have g1 : ge.scope = sc := by rw [← ege]; rfl
        have g2 : ge.globals = mainGlobals := by rw [← ege]; exact IA.ok.glob
        have g3 : ge.cells.lookup fx = some cc := by rw [← ege]; exact hclo _ _ hcc
        have gk : ge.scope.kind = .function := by rw [g1]; exact gs.kind
        refine wpAny_Call_Name_kw (Calls.Name_function_global gk (by show ge.scope.names.lookup fn = _; rw [g1]; exact hgl) (Calls.loadGlobal_global (by rw [g2]; exact mod2.glob) pf.gf ?_) nd1)
        refine PySem.W.callWith_K (K := X.K) (first := []) (h₀ := X.base) IA.mod.kin pf.kp ?_ (by rfl) (by rfl)
        rw [show starEach [.Name fx q2, .Name c q3] ge = (false, eval (.Name fx q2) ge) :: (false, eval (.Name c q3) ge) :: starEach [] ge by rfl]
        show wpAny _ _ (spliced ((false, eval (.Name fx q2) ge) :: (false, eval (.Name c q3) ge) :: backTo q4 (starEach [] ge))) _ _ s2
        refine Calls.spliced_cons (wpAny_Name (wpAny_loadName_free gk (by show ge.scope.names.lookup fx = _; rw [g1]; exact hfx) g3 cell2 ?_ nd4) nd2)
        refine Calls.spliced_cons (wpAny_Name (wpAny_loadName_local gk (by show ge.scope.names.lookup c = _; rw [g1]; exact gs.loc) hns hmc (Calls.spliced_nil ⟨mod2.kin, ?_⟩)) nd3)
        exact wpAny_mono (pf.run mod2 hB (by omega) (by omega) (tupT tks) (tupT tls) oks ols zks zls) (fun y s3 r => r) fun _ _ q => q
    · intro ga h5 tk5 gn bareN ltG sz5 keep5 walk5 at5
      simp only [GxR.passing_true, List.length_range] at walk5
      rw [hsz] at walk5 at5
      refine fin ks ents HA ga _ hR ⟨_, _, _, _, _, walk5.in4_1, ?_, ?_, fun s' mv => ?_⟩
      · exact at5
      · intro j y sj Qj Ej hy hQj
        obtain ⟨i, hij, hyb⟩ := hy
        obtain ⟨hj, ej⟩ := List.getElem?_eq_some_iff.mp hij
        rw [List.getElem_range] at ej
        subst ej
        rw [hyb]
        exact wpAny_truthy_bool hQj
      · have apart : ∀ b u, sa.heap.get? b = some u → b ∉ hp.objs.size :: [sa.heap.objs.size] := fun b u q hb => by
          have lt := Heap.lt_size q
          rcases List.mem_cons.mp hb with e | e
          · rw [e] at lt
            exact Nat.lt_asymm sizeC lt
          · rw [List.mem_singleton.mp e] at lt
            exact Nat.lt_irrefl _ lt
        have J := inv_tab (more := more) (h' := s'.heap) (g' := s'.gens) (d' := s'.drawn) (t' := s'.toks) IA eT
          (fun b u nb q => mv.heap b u (apart b u q) (keep5 b u (keepC b u nb q)))
          (by rw [← em]; exact mv.heap T _ (apart T _ tA) (keep5 T _ tC)) (AllBare.movedS (IA.bare.push bareN) mv)
        rw [sh_eta sa s' mv.os] at J
        exact ⟨upd HA T (.tbl (ps ++ more)), ⟨⟨ps ++ more, upd_same, by rw [← em]; exact trC⟩, fun b nb => upd_ne nb⟩, J⟩
  refine ⟨limB, ?_⟩
  cases hf : codeAmong p2 ps.toList with
  | none =>
    refine wpAny_genexprCodeX hcd (cdB.code tB trs) (cdB.tab tB) hf fun cv hp tk ext ge lt co _ tab _ => ?_
    obtain ⟨_, _, _, _, _, _, _, _, _, _, _, _, _, _, _, _, _, _, _, trC, _⟩ := co
    exact onward _ hp tk _ ext (Nat.le_trans ge (Nat.le_of_lt lt)) tab.2 ⟨_, rfl⟩ trC
  | some cv =>
    refine wpAny_genexprCode_hit hcd (cdB.code tB trs) hf ?_
    exact onward cv (sa.heap.push nw) sa.toks ps (Heap.ExtBut.refl _ _) (Nat.le_refl _) tB ⟨#[], by simp⟩ trs
/-- any(fn(fx, c) for c in e), e a dict whose keys are tuples of texts -/
def tAnyD (K : PySem.W.Frag) (T : Addr) (ix : Nat) (te : TE) : TE := fun σ H Q => te σ H fun v H1 => ∃ d a ks ents, v = .ref d ∧ TabG H1 T ∧ DkAt H1 d ents ∧ σ[ix]? = some (some (.ref a)) ∧ SqT K H1 a (ks.map V.str) ∧ TOk ks ∧ ks.length ≤ 1000 ∧
  ∀ H2, Tabbed T H1 H2 → Q (.bl (ents.any (pfT ks))) H2
theorem pe_anyD {cd T f : Addr} {src : Expr} {fn fx c : Str} {q1 q2 q3 q4 p1 p2 p3 pos : Pos} {sc : Scope} {te : TE} {lv ix : Nat}
    (room : Room lv X.A) (hlv : 4 ≤ lv) (hg : Gl X "any") (hm : X.mg "any" = none) (tb : TabB X.base X.mg cd T) (hcd : X.env.code = .ref cd) (gs : GenS X.env sc c) (hsrc : PE X src te)
    (pf : PfxOk X.prog X.w X.K X.mg fn f) (hgl : sc.names.lookup fn = some .globalImplicit) (hfx : sc.names.lookup fx = some .free) (hclo : ∀ (cells : List (Str × Addr)) (cc : Addr), cells.lookup fx = some cc → (cloFrom cells sc.names []).lookup fx = some cc)
    (hN : X.N[ix]? = some fx) (hvis : Vis X.env.scope fx) (hcell : X.env.kindOf fx = some .cell) (hfold : ∀ u, genFold src X.env u = pure u)
    (nd1 : (fn == ("__debug__" : Str)) = false) (nd2 : (fx == ("__debug__" : Str)) = false) (nd3 : (c == ("__debug__" : Str)) = false) (nd4 : (fx == ("__classdict__" : Str)) = false)
    (hst : starEach [.GeneratorExp (.Call (.Name fn q1) [.Name fx q2, .Name c q3] [] q4) [⟨.Name c p1, src, [], 0⟩] sc p2] X.env = (false, eval (.GeneratorExp (.Call (.Name fn q1) [.Name fx q2, .Name c q3] [] q4) [⟨.Name c p1, src, [], 0⟩] sc p2) X.env) :: starEach [] X.env := by rfl)
    (h : X.K = K := by rfl) :
    PE X (.Call (.Name "any" p3) [.GeneratorExp (.Call (.Name fn q1) [.Name fx q2, .Name c q3] [] q4) [⟨.Name c p1, src, [], 0⟩] sc p2] [] pos) (tAnyD K T ix te) := by
  subst h
  constructor
  intro pins s σ H Q I start
  refine wpAny_Call_Name_kw (ld_blt I hg hm boot_any (PyProof.Rows.callWith_builtin1 ?_ hst (by rfl)))
  rw [hst]
  show wpAny _ _ (spliced (_ :: backTo pos (starEach [] X.env))) _ _ s
  refine Calls.spliced_cons (gen_dict (R := fun ks ents H1 => ∀ H2, Tabbed T H1 H2 → Q (.bl (ents.any (pfT ks))) H2) room hlv tb hcd gs hsrc pf hgl hfx hclo hN hvis hcell hfold I nd1 nd2 nd3 nd4 start fun ks ents H1 g s5 hR ready => ?_)
  obtain ⟨fp, wr, G, F, St, W, at0, truth, back⟩ := ready
  refine Calls.spliced_nil (call_any_walkS (W.self 0 _ _ _ at0 ⟨g, fp, wr, G, _, F, St, _, rfl, W, at0, truth, fun s' mv => ?_⟩))
  obtain ⟨H2, t2, J⟩ := back s' mv
  exact ⟨.bl _, H2, J, rfl, by rw [any_trD]; exact hR H2 t2⟩
end
end RL

set_option Elab.async false
set_option linter.all false
set_option maxRecDepth 100000
set_option maxHeartbeats 4000000
namespace RL
open PySem PySem.Spec PyProof.Rows L2
/-! ### del d[k] with a tuple as the key; an error that leaves a walk of a dict -/
def sDDelT (td ty : TE) : TS := fun D σ H => td σ H fun x H1 => ty σ H1 fun y H2 => ∃ (a : Addr) (kvs : List (List Key × V)) (k : List Key) (b : Addr), x = .ref a ∧ H2 a = some (.dT kvs) ∧ y = .ref b ∧ H2 b = some (.tup (k.map kV)) ∧ (valV kvs k).isSome = true ∧ D.nx σ (upd H2 a (.dT (dropK kvs k)))
section
variable {X : Cx} {o i : Expr} {pos tpos : Pos} {td ty : TE}
theorem ps_ddelT (hu : X.A.units + 1 < cLine) (ho : PE X o td) (hi : PE X i ty) : PS X (.Delete [.Subscript o i tpos] pos) (sDDelT td ty) := by
  constructor
  intro pins s σ H D I h
  refine wpAny_Delete (wpAny_deleteEach_cons (wpAny_delete_Subscript (thn (ho.run pins s σ H _ I h) ?_)))
  rintro u s1 ⟨x, H1, I1, rx, q1⟩
  refine thn (hi.run pins s1 σ H1 _ I1 q1) ?_
  rintro iv s2 ⟨y, H2, I2, ry, a, kvs, k, b, ex, e, ey, eb, l, q2⟩
  subst ex ey
  obtain rfl : u = Value.ref a := rx
  obtain rfl : iv = Value.ref b := ry
  obtain ⟨z, hd, xs, rel, dd⟩ := dt_of I2.hok e
  have hz : xs.length ≤ sizeLine := by rw [← Paired.length rel]; exact z
  obtain ⟨p, hp⟩ : ∃ p, atKey xs k = some p := by
    have r := rel.val k
    cases q : atKey xs k with
    | some p => exact ⟨p, rfl⟩
    | none =>
      rw [q] at r
      cases ev : valV kvs k with
      | none => rw [ev] at l; cases l
      | some v0 => rw [ev] at r; exact (show False from r).elim
  refine wpAny_delItem_heap (tupleKind_room_in1 hu) (key_of I2.hok eb) hd dd hp (fun h' dd' hs => ?_) hz
  obtain ⟨q, es, ep, hq, h2, h3, h4, _, h5⟩ := dd'
  refine wpAny_deleteEach_nil ⟨σ, _, d_write (ob := .dT (dropK kvs k)) I2 (by rw [e]; exact True.intro) hs ⟨q, hq⟩ ⟨Nat.le_trans (dropK_le kvs k) z, hd, _, (DX.KT_drop k rel).keeps (fun c ys ec => ?_), q, es, ep, hq, h2, h3, h4, h5⟩, q2⟩
  rw [upd_ne (ne_of ec e (fun z => nomatch z))]
  exact ec
end
/-- the thing at e, if it was locked on the way, is unlocked -/
theorem cx_unlock {P : Program} {w : World} {outer : List Env} {H : Hp} {s s' : Shared} {E E' : XK} {v : Value}
    (c : L2.CX P w outer H s E' v s') (h : ∀ cls d H', E' cls d H' → E cls d H' ∨ ∃ e od u, H' e = some (.frz od u) ∧ (∀ o2 u2, H e ≠ some (.frz o2 u2)) ∧ (∀ xs, u ≠ .tup xs) ∧ (∀ b, u ≠ .own b) ∧ E cls d (upd H' e u)) : L2.CX P w outer H s E v s' := by
  obtain ⟨a, B, H', cls, d, ev, fl, hok, ub, na, hos, ag, hE⟩ := c
  rcases h cls d H' hE with hE | ⟨e, od, u, he, hn, ht, ho, hE⟩
  · exact ⟨a, B, H', cls, d, ev, fl, hok, ub, na, hos, ag, hE⟩
  have other : ∀ b o, H' b = some o → (∀ o2 u2, o ≠ .frz o2 u2) → b ≠ e := fun b o q ne z => by
    rw [z, he] at q
    cases q
    exact ne _ _ rfl
  have gone : ∀ b, H' b = none → b ≠ e := fun b q z => by
    rw [z, he] at q
    cases q
  refine ⟨a, B, upd H' e u, cls, d, ev, fl, fun b o q => ?_, ⟨ub.keep, ub.slot, fun b o q n => ?_, ub.there, fun b xs q => ?_, fun b o x q => ?_, fun b ps q => ?_⟩, by rw [upd_ne (gone a na)]; exact na, hos, ag, hE⟩
  · have own_ : ∀ c y, H' c = some (.own y) → upd H' e u c = some (.own y) := fun c y z => by
      rw [upd_ne (other c _ z fun _ _ q => nomatch q)]
      exact z
    have tup_ : ∀ c xs, H' c = some (.tup xs) → upd H' e u c = some (.tup xs) := fun c xs z => by
      rw [upd_ne (other c _ z fun _ _ q => nomatch q)]
      exact z
    by_cases hb : b = e
    · rw [hb, upd_same] at q
      cases q
      rw [hb]
      exact (hok e _ he).2.stay (fun c y _ z => z) (fun c z => own_ c _ z) tup_
    · rw [upd_ne hb] at q
      exact (hok b o q).stay (fun c y _ z => z) (fun c z => own_ c _ z) tup_
  · have z := ub.free b o q n
    rw [upd_ne (gone b z)]
    exact z
  · have z := ub.tups b xs q
    rw [upd_ne (other b _ z fun _ _ q => nomatch q)]
    exact z
  · have z := ub.frzs b o x q
    rw [upd_ne (fun y => hn o x (by rw [← y]; exact q))]
    exact z
  · obtain ⟨m, z⟩ := ub.tbls b ps q
    exact ⟨m, by rw [upd_ne (other b _ z fun _ _ q => nomatch q)]; exact z⟩
/-- a def whose error leaves with a thing locked keeps the same with it unlocked -/
theorem fn_unlock {P : Program} {w : World} {K : PySem.W.Frag} {mg : Str → Option Value} {base : Heap} {k : Nat} {f : Addr} {fd : FuncData} {ps : List Str} {sp sp' : Sp} (F : FnOk P w K mg base (L2.CX P w) k f fd ps sp')
    (h : ∀ vs H Q E, sp vs H Q E → ∃ E' : XK, sp' vs H Q E' ∧ ∀ cls d H', E' cls d H' → E cls d H' ∨ ∃ e od u, H' e = some (.frz od u) ∧ (∀ o2 u2, H e ≠ some (.frz o2 u2)) ∧ (∀ xs, u ≠ .tup xs) ∧ (∀ b, u ≠ .own b) ∧ E cls d (upd H' e u)) :
    FnOk P w K mg base (L2.CX P w) k f fd ps sp :=
  ⟨fun vs H Q E q => by
    obtain ⟨E', q', _⟩ := h vs H Q E q
    exact F.len vs H Q E' q', fun A outer s H args us vs Q E hr e0 hb hv q => by
    obtain ⟨E', q', hh⟩ := h vs H Q E q
    refine codeAny_mono (F.run A outer s H args us vs Q E' hr e0 hb hv q') fun r s' hq => ?_
    cases r with
    | error e => exact cx_unlock hq hh
    | ok fl => cases fl <;> exact hq⟩
end RL

set_option Elab.async false
set_option linter.all false
set_option maxRecDepth 100000
set_option maxHeartbeats 4000000
namespace RL
open PySem PySem.Spec PyProof.Rows L2
open Rep (rep)
open CwR

def ShS (l : List Str) : Prop := l.length ≤ 5 ∧ ∀ p ∈ l, p.length ≤ 60
theorem shs_fits {l : List Str} (h : ShS l) : (l.map (·.length)).sum + l.length * (" " : Str).length ≤ 16777216 := join_fits (n := 5) (m := 60) h.1 h.2 (by decide) (by decide)
/-- a tuple of texts that is known as such -/
structure Ky where
  l : List Str
instance : Rep Ky := ⟨fun _ t v G => ∃ a, v = .ref a ∧ G a = some (.tup (t.l.map V.str)), fun e ⟨a, h1, h2⟩ => ⟨a, h1, e _ _ h2 trivial⟩⟩
theorem ky_tpl {K : PySem.W.Frag} {k : Ky} {v : V} {G : Hp} (h : rep K k v G) : rep K (Tpl.mk k.l) v G := by
  obtain ⟨a, h1, h2⟩ := h
  exact ⟨a, _, h1, SqT.of h2, reps_of_flat _⟩
structure KyOk (k : List Str) : Prop where
  t : TOk k
  n : k.length ≤ 1000
theorem hu_of {k : Nat} {A : Around} (r : Room k A) : A.units + 1 < cLine := by have := r.un; omega
theorem q_asgX {te : TE} {tz : TS} {D : Ends} {σ : L2.St} {H : Hp} {i : Nat} (h : te σ H fun v H1 => tz D (σ.set i (some v)) H1) : tSeq (tAsg te (gName i)) tz D σ H := h
section
variable [Tb]
structure GrowF (F : Addr → Prop) (G H G' H' : Hp) : Prop where
  g : ∀ b o, G b = some o → ¬ F b → G' b = some o
  d : SameD G G'
  s : Sub G' H'
  k : ∀ b o, H b = some o → noTb o → ¬ F b → H' b = some o
  fr : ∀ b, H' b = none → H b = none
  f : ∀ b o, H b = some o → G b = none → G' b = none
variable {F F2 : Addr → Prop} {a : Addr} {G H G1 H1 G2 H2 : Hp}
theorem Grow.toF (g : Grow G H G1 H1) : GrowF F G H G1 H1 := ⟨fun b o h _ => g.g b o h, same_d g.g, g.s, fun b o h n _ => g.h.k b o h n, g.h.fr, g.f⟩
theorem GrowM.toF (m : GrowM a G H G1 H1) : GrowF (fun b => b = a) G H G1 H1 := ⟨m.g, m.d, m.s, m.k, m.fr, m.f⟩
theorem GrowF.next (m : GrowF F G H G1 H1) (k : GrowF F2 G1 H1 G2 H2) (h : ∀ b, F2 b → F b ∨ (G b = none ∧ H b = none)) : GrowF F G H G2 H2 :=
  ⟨fun b o e n => k.g b o (m.g b o e n) (fun z => (h b z).elim n fun q => by rw [q.1] at e; cases e), m.d.trans k.d, k.s,
   fun b o e t n => k.k b o (m.k b o e t n) t (fun z => (h b z).elim n fun q => by rw [q.2] at e; cases e), fun b e => m.fr b (k.fr b e), fun b o e n => by
    cases q : H1 b with
    | none => rw [m.fr b q] at e; cases e
    | some u => exact k.f b u q (m.f b o e n)⟩
theorem GrowF.trans (m : GrowF F G H G1 H1) (g : Grow G1 H1 G2 H2) : GrowF F G H G2 H2 := m.next (F2 := fun _ => False) g.toF fun b z => z.elim
theorem GrowF.wide (m : GrowF F G H G1 H1) (h : ∀ b, F b → F2 b) : GrowF F2 G H G1 H1 := ⟨fun b o e n => m.g b o e fun z => n (h b z), m.d, m.s, fun b o e t n => m.k b o e t fun z => n (h b z), m.fr, m.f⟩
end
/-- cells that G knows, none of them data -/
def FOk (F : Addr → Prop) (G : Hp) : Prop := ∀ b, F b → ∃ o, G b = some o ∧ ¬ dataO o
theorem pe_fldK {X : Cx} {K : PySem.W.Frag} {e : Expr} {f : Str} {ta : TE} {pos : Pos} (he : PE X e ta) (hb : attributeBase e f X.env (eval e X.env) = eval e X.env := by rfl) (h : X.K = K := by rfl) : PE X (.Attribute e f pos) (tFld K ta f) := by
  subst h
  exact pe_fld he hb
theorem yes_if {σ : L2.St} {H : Hp} {X Y : Hp → Prop} (h : X H) : tYes σ H fun b H3 => if b = true then X H3 else Y H3 := by
  show (if true = true then X H else Y H)
  rw [if_pos rfl]
  exact h
section
instance (o : HO) : Decidable (dataO o) := by cases o <;> first | exact .isTrue trivial | exact .isFalse fun z => z
def dpart (G : Hp) : Hp := fun b => match G b with
  | some o => if dataO o then some o else none
  | none => none
theorem dpart_of {G : Hp} {b : Addr} {o : HO} (h : G b = some o) (d : dataO o) : dpart G b = some o := by
  show (match G b with | some o => if dataO o then some o else none | none => none) = some o
  rw [h]
  exact if_pos d
theorem dpart_nd {G : Hp} {b : Addr} {o : HO} (h : G b = some o) (d : ¬ dataO o) : dpart G b = none := by
  show (match G b with | some o => if dataO o then some o else none | none => none) = none
  rw [h]
  exact if_neg d
theorem dpart_none {G : Hp} {b : Addr} (h : G b = none) : dpart G b = none := by
  show (match G b with | some o => if dataO o then some o else none | none => none) = none
  rw [h]
theorem dpart_le {G : Hp} {b : Addr} {o : HO} (h : dpart G b = some o) : G b = some o ∧ dataO o := by
  cases q : G b with
  | none => rw [dpart_none q] at h; cases h
  | some u =>
    by_cases d : dataO u
    · rw [dpart_of q d] at h
      cases h
      exact ⟨rfl, d⟩
    · rw [dpart_nd q d] at h
      cases h
end
section
variable [Tb]
theorem noTb_frz {od : Obj} {u : HO} : noTb (.frz od u) := fun q z => by cases z
theorem lock_sub {G H : Hp} {e : Addr} {od : Obj} {u : HO} (s : Sub G H) (he : H e = some u) (nd : ¬ dataO u) (nt : noTb u) : Sub (dpart G) (upd H e (.frz od u)) :=
  ⟨fun b o h => by
    obtain ⟨h1, d⟩ := dpart_le h
    have z := s.m b o h1
    have ne : b ≠ e := fun q => by
      rw [q, he] at z
      exact nd (by rw [Option.some.inj z.1]; exact d)
    rw [upd_ne ne]
    exact z, fun P hP => tab_mut (s.t P hP) fun q z => by
    rw [he] at z
    exact nt q (Option.some.inj z)⟩
/-- what grew while the thing at e was locked has grown with it unlocked -/
theorem un_lock {Ge He G H Gx Hx : Hp} {e : Addr} {od : Obj} {u : HO} (gr : Grow Ge He G H) (he : H e = some u) (nd : ¬ dataO u) (nt : noTb u) (g : Grow (dpart G) (upd H e (.frz od u)) Gx Hx) :
    Grow Ge He (jn G Gx) (upd Hx e u) ∧ Same Gx (jn G Gx) := by
  have hin : ∀ {b : Addr} {o : HO}, H b = some o → ∃ z, upd H e (.frz od u) b = some z := fun {b o} h => by
    by_cases hb : b = e
    · exact ⟨_, by rw [hb, upd_same]⟩
    · exact ⟨o, by rw [upd_ne hb]; exact h⟩
  have hx : Hx e = some (.frz od u) := g.h.k e _ upd_same noTb_frz
  have ge : ∀ {b : Addr} {o : HO}, Gx b = some o → G b = none → b ≠ e := fun {b o} h hn z => by
    rw [z] at h hn
    rw [g.f e _ upd_same (dpart_none hn)] at h
    cases h
  have jr : ∀ {b : Addr}, G b = none → jn G Gx b = Gx b := fun {b} h => by
    show (match G b with | some o => some o | none => Gx b) = Gx b
    rw [h]
  refine ⟨⟨gr.g.trans (jn_l _ _), ⟨fun b o h => ?_, fun P hP => tab_mut (g.s.t P hP) fun q z => by rw [hx] at z; cases z⟩, ⟨fun b o h n => ?_, fun b h => ?_⟩, fun b o h hn => ?_⟩, fun b o h => ?_⟩
  · cases q : G b with
    | some o1 =>
      rw [jn_l G Gx b o1 q] at h
      cases h
      obtain ⟨h1, h2⟩ := gr.s.m b o q
      refine ⟨?_, h2⟩
      by_cases hb : b = e
      · rw [hb, he] at h1
        rw [hb, upd_same]
        exact h1
      · rw [upd_ne hb]
        exact g.h.k b o (by rw [upd_ne hb]; exact h1) h2
    | none =>
      rw [jr q] at h
      obtain ⟨h1, h2⟩ := g.s.m b o h
      exact ⟨by rw [upd_ne (ge h q)]; exact h1, h2⟩
  · have h1 := gr.h.k b o h n
    by_cases hb : b = e
    · rw [hb, he] at h1
      rw [hb, upd_same]
      exact h1
    · rw [upd_ne hb]
      exact g.h.k b o (by rw [upd_ne hb]; exact h1) n
  · have ne : b ≠ e := fun z => by
      rw [z, upd_same] at h
      cases h
    rw [upd_ne ne] at h
    have h1 := g.h.fr b h
    rw [upd_ne ne] at h1
    exact gr.h.fr b h1
  · have hg := gr.f b o h hn
    obtain ⟨z, hz⟩ := gr.h.none h
    obtain ⟨z2, hz2⟩ := hin hz
    exact jn_none hg (g.f b _ hz2 (dpart_none hg))
  · cases q : G b with
    | none => rw [jr q]; exact h
    | some o1 =>
      rw [jn_l G Gx b o1 q]
      by_cases d : dataO o1
      · rw [g.g b o1 (dpart_of q d)] at h
        exact h
      · obtain ⟨z2, hz2⟩ := hin (gr.s _ _ q)
        rw [g.f b _ hz2 (dpart_nd q d)] at h
        cases h
end
def tDNewF : TE := fun _ H Q => ∀ p od, H p = none → Q (.ref p) (upd H p (.frz od (.dT [])))
theorem pe_dnewF {X : Cx} {pos : Pos} : PE X (.Dict [] [] pos) tDNewF := ⟨fun pins s σ H Q I h => by
  have I1 := I.laid (a := s.heap.objs.size) (o := .dT []) (t' := s.toks) (fun _ _ q => Heap.get?_push_of_some _ q) (Nat.le_refl _) (dt_empty s.heap I.big)
  obtain ⟨od, I2⟩ := I1.lock (d := s.heap.objs.size) (u := .dT []) upd_same trivial
  rw [upd_upd] at I2
  exact wpAny_Dict_empty ⟨.ref s.heap.objs.size, _, I2, rfl, h _ od (I.hok.fresh (Nat.le_refl _))⟩⟩
def tOrS (t1 t2 : TS) : TS := fun D σ H => t1 D σ H ∨ t2 D σ H
theorem ps_orS {X : Cx} {st : Stmt} {t1 t2 : TS} (h1 : PS X st t1) (h2 : PS X st t2) : PS X st (tOrS t1 t2) := ⟨fun pins s σ H D I hw => hw.elim (h1.run pins s σ H D I) (h2.run pins s σ H D I)⟩
theorem seq2 {t1 t2 tz : TS} {D : Ends} {σ : L2.St} {H : Hp} (P : L2.St → Hp → Prop) (rest : ∀ σ H, P σ H → tz D σ H) (k : (∀ σ H, P σ H → tz D σ H) → (t1 { D with nx := tz D } σ H ∨ t2 { D with nx := tz D } σ H)) : tSeq (tOrS t1 t2) tz D σ H := k rest
theorem sub_with [Tb] {G H : Hp} {q : Addr} {ys : List V} (s : Sub G H) (h : H q = some (.tup ys)) : Sub (upd G q (.tup ys)) H ∧ Same G (upd G q (.tup ys)) := by
  refine ⟨⟨fun b o e => ?_, s.t⟩, fun b o e => ?_⟩
  · by_cases hb : b = q
    · rw [hb, upd_same] at e
      cases e
      rw [hb]
      exact ⟨h, noTb_tup⟩
    · rw [upd_ne hb] at e
      exact s.m b o e
  · by_cases hb : b = q
    · have z := s _ _ e
      rw [hb, h] at z
      rw [hb, upd_same]
      exact z
    · rw [upd_ne hb]
      exact e
theorem kept_unlock {H Hx : Hp} {e : Addr} {od : Obj} {u : HO} (he : H e = some u) (k : Kept (upd H e (.frz od u)) Hx) : Kept H (upd Hx e u) := by
  refine ⟨fun b o h n => ?_, fun b h => ?_⟩
  · by_cases hb : b = e
    · rw [hb, he] at h
      rw [hb, upd_same]
      exact h
    · rw [upd_ne hb]
      exact k.k b o (by rw [upd_ne hb]; exact h) n
  · have ne : b ≠ e := fun z => by
      rw [z, upd_same] at h
      cases h
    rw [upd_ne ne] at h
    have h1 := k.fr b h
    rw [upd_ne ne] at h1
    exact h1

section
variable [Tb] {K : PySem.W.Frag} {σ : L2.St} {G : Hp}
theorem ev_kyT {te : TE} {k : Ky} (h : EvR K te σ G k) : EvR K te σ G (Tpl.mk k.l) := fun H e Q q => h H e _ fun v G1 H1 g r => q v G1 H1 g (ky_tpl r)
theorem ev_kyt {ts : TA} {l : List Str} (h : EvA K ts σ G l) (hl : l.length ≤ sizeLine) : EvR K (tTup ts) σ G (Ky.mk l) := fun H e Q q =>
  h H e _ fun vs G1 H1 g1 r1 => ⟨by rw [← paired_len r1]; exact hl, fun p hp => q _ _ _ (g1.trans (Grow.new g1.s hp)) ⟨p, rfl, by rw [upd_same, reps_flat r1]; rfl⟩⟩
theorem ev_tupleKy {ta : TE} {l : List Str} (ha : EvR K ta σ G l) : EvR K (tCB (fun xs H Q => ∃ p ys, xs = [.ref p] ∧ ((SqL K H p ys ∧ ∀ l, H l = none → Q (.ref l) (upd H l (.tup ys))) ∨ (SqT K H p ys ∧ Q (.ref p) H))) (tCons ta tNil)) σ G (Ky.mk l) := fun H e Q q =>
  ha H e _ fun v G1 H1 g1 ⟨a, xs, ev, hA, r⟩ => ⟨a, xs, by rw [ev], .inl ⟨SqL.of (g1.s _ _ hA), fun p hp => q _ _ _ (g1.trans (Grow.new g1.s hp)) ⟨p, rfl, by rw [upd_same, reps_flat r]; rfl⟩⟩⟩
theorem ev_sl3 {α β γ : Type} [Rep α] [Rep β] [Rep γ] {ta : TE} {t : T3 α β γ} (ha : EvR K ta σ G t) : EvR K (tSl (rSlA K) ta tNoPart (tPart (tC (.int 2)))) σ G (t.a, t.b) := fun H e Q q =>
  ha H e _ fun v G1 H1 g1 ⟨a, x, y, z, ev, hA, r1, r2, r3⟩ => ⟨2, rfl, a, _, ev, sqT_mono g1.s.get hA, fun hw => absurd hw.2 (show ¬ (HT.sIx 3 3 (some 2) = 3) by decide), fun _ p hp => q _ _ _ (g1.trans (Grow.new g1.s hp)) ⟨p, x, y, rfl, SqT.of upd_same, up (same_upd (g1.s.free hp)) r1, up (same_upd (g1.s.free hp)) r2⟩⟩
instance : Dat Ky := ⟨fun t => .tuple (t.l.map PyData.str), fun {K H x v G} s h => by
  obtain ⟨a, ev, hA⟩ := h
  rw [ev]
  exact .tup (SqT.of (s _ _ hA)) (dp_texts x.l)⟩
theorem trip_apart {α β γ : Type} [Rep α] [Rep β] [Rep γ] {p : T3 α β γ} {σ' : L2.St} {H : Hp} {Q : L2.St → Hp → Prop} {i j k : Nat} {v : V} (r : rep K p v G) (s : Sub G H) (h : ∀ u w x, rep K p.a u G → rep K p.b w G → rep K p.c x G → Q (((σ'.set i (some u)).set j (some w)).set k (some x)) H) :
    gTup K 3 (gCons (gName i) (gCons (gName j) (gCons (gName k) gNil))) v σ' H Q := by
  obtain ⟨a, u, w, x, ev, hA, r1, r2, r3⟩ := r
  exact ⟨a, [u, w, x], ev, sqT_mono s.get hA, rfl, u, [w, x], rfl, w, [x], rfl, x, [], rfl, rfl, h u w x r1 r2 r3⟩
def spr2 {S α β ρ : Type} [Rep α] [Rep β] [Rep ρ] (K : PySem.W.Frag) (Ob : S → Addr → Addr → Hp → Prop) (pre : S → α → β → Prop) (f : S → α → β → ρ) : Sp := fun vs H Q _ => ∃ s a dx x y w v G, vs = [.ref a, w, v] ∧ Sub G H ∧ Ob s a dx G ∧ rep K x w G ∧ rep K y v G ∧ pre s x y ∧ ∀ u G' H', Grow G H G' H' → rep K (f s x y) u G' → Q u H'
theorem ev_methR2 {S α β ρ : Type} [Rep α] [Rep β] [Rep ρ] {C a dx : Addr} {s : S} {x : α} {y : β} {i : Nat} {m : Str} {E : XK} {ta tb : TE} {Ob : S → Addr → Addr → Hp → Prop} {pre : S → α → β → Prop} {f : S → α → β → ρ} (hi : σ[i]? = some (some (.ref a))) (P : ObP C Ob) (ob : Ob s a dx G) (hm : ∀ fs, G a = some (.ins C dx fs) → fs.lookup m = none) (ha : EvR K ta σ G x) (hb : EvR K tb σ G y) (hp : pre s x y) : EvR K (tMeth C m (spr2 K Ob pre f) [] E (tVar i) (tCons ta (tCons tb tNil))) σ G (f s x y) := fun H e Q q => by
  obtain ⟨fs, hG⟩ := P.ins ob
  exact ⟨_, hi, a, dx, fs, rfl, e _ _ hG, hm fs hG, ha H e _ fun v G1 H1 g1 r1 => hb.mono g1.g H1 g1.s _ fun w G2 H2 g2 r2 => ⟨s, a, dx, x, y, v, w, G2, rfl, g2.s, P.up (g1.g.trans g2.g) ob, up g2.g r1, r2, hp, fun u G3 H3 g3 r3 => q u G3 H3 ((g1.trans g2).trans g3) r3⟩⟩
end

def topS (i : Nat) : Stmt := PySem.Challenge.pw_keyfocus_k40_bindings.main.body.getD i (.Pass ⟨0, 0, 0, 0⟩)
structure Adr where
  f_is_prefix : Addr
  d_is_prefix : FuncData
  f_shown : Addr
  d_shown : FuncData
  f_Bindings___init__ : Addr
  d_Bindings___init__ : FuncData
  f_Bindings_bind : Addr
  d_Bindings_bind : FuncData
  f_Bindings_unbind : Addr
  d_Bindings_unbind : FuncData
  f_Bindings_of : Addr
  d_Bindings_of : FuncData
  f_Bindings_is_bound : Addr
  d_Bindings_is_bound : FuncData
  f_Bindings_drop : Addr
  d_Bindings_drop : FuncData
  f_Bindings_match : Addr
  d_Bindings_match : FuncData
  f_Bindings_count : Addr
  d_Bindings_count : FuncData
  f__law_cell : Addr
  d__law_cell : FuncData
  f__law_draws : Addr
  d__law_draws : FuncData
  f__law_strokes : Addr
  d__law_strokes : FuncData
  f__law_begins : Addr
  d__law_begins : FuncData
  f__law_match : Addr
  d__law_match : FuncData
  f__law_told : Addr
  d__law_told : FuncData
  f__law_bound : Addr
  d__law_bound : FuncData
  f__law_is_it : Addr
  d__law_is_it : FuncData
  f_law : Addr
  d_law : FuncData
  c_Bindings_match : Addr
  t_Bindings_match : Addr
  c_Bindings : Addr
  x_FocusError : Addr
  x_Refused : Addr
  i_Refused : Addr
  di_Refused : FuncData
abbrev Inn := List (List Str × Str)
structure O_Bindings where
  cm : List (Str × Inn)
def ents (l : Inn) : List (List Key × V) := l.map fun p => (p.1.map Sum.inr, V.str p.2)
def kvD (L : List (Str × Addr × Inn)) : List (Key × V) := L.map fun t => (Sum.inr t.1, V.ref t.2.1)
structure InnOk (l : Inn) : Prop where
  k : ∀ p ∈ l, KyOk p.1 ∧ ShS p.1
  d : (l.map (·.1)).Nodup
  n : l.length ≤ 1000
structure AtB (C : Addr) (s : O_Bindings) (a dx d : Addr) (L : List (Str × Addr × Inn)) (G : Hp) : Prop where
  cm : s.cm = L.map fun t => (t.1, t.2.2)
  i : G a = some (.ins C dx [("_commands", .ref d)])
  x : G dx = some (.own a)
  m : G d = some (.dK (kvD L))
  n1 : (L.map (·.1)).Nodup
  n2 : (L.map (·.2.1)).Nodup
  e : ∀ t ∈ L, G t.2.1 = some (.dT (ents t.2.2)) ∧ InnOk t.2.2
  z : L.length ≤ 1000
def Ob_Bindings (K : PySem.W.Frag) (C : Addr) (s : O_Bindings) (a dx : Addr) (G : Hp) : Prop := ∃ d L, AtB C s a dx d L G
theorem AtB.up {C : Addr} {s : O_Bindings} {a dx d : Addr} {L : List (Str × Addr × Inn)} {G G' : Hp} (h : AtB C s a dx d L G) (e : Same G G') : AtB C s a dx d L G' :=
  ⟨h.cm, e _ _ h.i, e _ _ h.x, e _ _ h.m, h.n1, h.n2, fun t ht => ⟨e _ _ (h.e t ht).1, (h.e t ht).2⟩, h.z⟩
theorem ob_Bindings (K : PySem.W.Frag) (C : Addr) : ObP C (Ob_Bindings K C) := ⟨fun e ⟨d, L, h⟩ => ⟨d, L, h.up e⟩, fun ⟨d, L, h⟩ => ⟨_, h.i⟩⟩
theorem nm_B {K : PySem.W.Frag} {C : Addr} {s : O_Bindings} {a dx : Addr} {G : Hp} {m : Str} (hm : (m == ("_commands" : Str)) = false) (o : Ob_Bindings K C s a dx G) : ∀ fs, G a = some (.ins C dx fs) → fs.lookup m = none := fun fs e => by
  obtain ⟨d, L, h⟩ := o
  rw [h.i] at e
  cases e
  show List.lookup m [("_commands", V.ref d)] = none
  rw [List.lookup_cons, hm]
  rfl
/-- what the node has -/
def look (cm : List (Str × Inn)) (n : Str) : Inn := ((cm.find? fun t => decide (t.1 = n)).map (·.2)).getD []
theorem kv_look {L : List (Str × Addr × Inn)} {n : Str} : valV (kvD L) (Sum.inr n : Key) = (L.find? fun t => decide (t.1 = n)).map fun t => V.ref t.2.1 := by
  induction L with
  | nil => rfl
  | cons t L ih =>
    show valV ((Sum.inr t.1, V.ref t.2.1) :: kvD L) (Sum.inr n : Key) = _
    by_cases h : t.1 = n
    · rw [valV_pos (by rw [h]), List.find?_cons_of_pos (by simp [h])]
      rfl
    · rw [valV_neg (fun q => h (Sum.inr.inj q)), List.find?_cons_of_neg (by simp [h]), ih]
theorem look_L {L : List (Str × Addr × Inn)} {n : Str} : look (L.map fun t => (t.1, t.2.2)) n = ((L.find? fun t => decide (t.1 = n)).map (·.2.2)).getD [] := by
  unfold look
  rw [List.find?_map, show ((fun (t : Str × Inn) => decide (t.1 = n)) ∘ fun (t : Str × Addr × Inn) => (t.1, t.2.2)) = fun (t : Str × Addr × Inn) => decide (t.1 = n) from rfl]
  cases List.find? (fun (t : Str × Addr × Inn) => decide (t.1 = n)) L with
  | none => rfl
  | some t => rfl
theorem val_ents {l : Inn} {k : List Str} : valV (ents l) (k.map Sum.inr : List Key) = (l.find? fun p => decide (p.1 = k)).map fun p => V.str p.2 := by
  induction l with
  | nil => rfl
  | cons p l ih =>
    show valV ((p.1.map Sum.inr, V.str p.2) :: ents l) (k.map Sum.inr : List Key) = _
    have inj : ∀ {a b : List Str}, (a.map Sum.inr : List Key) = b.map Sum.inr → a = b := fun {a b} h => by
      have := congrArg keyS h
      rw [keyS_inr, keyS_inr] at this
      exact this
    by_cases h : p.1 = k
    · rw [valV_pos (by rw [h]), List.find?_cons_of_pos (by simp [h])]
      rfl
    · rw [valV_neg (fun q => h (inj q)), List.find?_cons_of_neg (by simp [h]), ih]
theorem kv_tup (k : List Str) : (k.map Sum.inr : List Key).map kV = k.map V.str := by
  rw [List.map_map]
  rfl
def has (l : Inn) (k : List Str) : Bool := (l.find? fun p => decide (p.1 = k)).isSome
theorem look_ok {C : Addr} {s : O_Bindings} {a dx d : Addr} {L : List (Str × Addr × Inn)} {G : Hp} (B : AtB C s a dx d L G) (n : Str) : InnOk (look s.cm n) := by
  rw [B.cm, look_L]
  cases q : L.find? fun t => decide (t.1 = n) with
  | none => exact ⟨fun p hp => (nomatch hp), List.nodup_nil, Nat.zero_le _⟩
  | some t => exact (B.e t (List.mem_of_find?_eq_some q)).2
/-- self._commands.get(node, {}) -/
theorem rd_get [Tb] {K : PySem.W.Frag} {C : Addr} {s : O_Bindings} {a dx d : Addr} {L : List (Str × Addr × Inn)} {G H : Hp} {σ : L2.St} {n : Str} {Q : VK} (eG : Sub G H) (B : AtB C s a dx d L G) (cl : Cls K C) (na : NoAttr K C "_commands")
    (h0 : σ[0]? = some (some (.ref a))) (h1 : σ[1]? = some (some (.str n))) (k : ∀ e H1, Grow G H G H1 → H1 e = some (.dT (ents (look s.cm n))) → Q (.ref e) H1) : tDGet2 (tFld K (tVar 0) "_commands") (tVar 1) tDNewT σ H Q := by
  refine ⟨_, h0, a, C, dx, _, _, rfl, eG _ _ B.i, cl, na, rfl, d, rfl, .inl ⟨_, .inl (eG _ _ B.m)⟩, _, h1, fun p hp => ?_⟩
  have gl := (Grow.refl eG).loose (o := .dT []) hp
  have sm := gl.s.get
  refine ⟨_, DGet.k (k := Sum.inr n) (sm _ _ B.m), ?_⟩
  rw [kv_look]
  cases q : L.find? fun t => decide (t.1 = n) with
  | none =>
    refine k p _ gl ?_
    rw [B.cm, look_L, q]
    exact upd_same
  | some t =>
    refine k t.2.1 _ gl ?_
    rw [B.cm, look_L, q]
    exact sm _ _ (B.e t (List.mem_of_find?_eq_some q)).1
theorem any_ents (k : List Str) (l : Inn) : (ents l).any (pfT k) = l.any fun p => decide (p.1.take k.length = k) := by
  unfold ents
  rw [List.any_map]
  congr 1
  funext p
  show decide ((keyS (p.1.map Sum.inr)).take k.length = k) = _
  rw [keyS_inr]
theorem dk_at {H : Hp} {e : Addr} {l : Inn} (h : H e = some (.dT (ents l))) (ok : InnOk l) : DkAt H e (ents l) := ⟨.inl h, fun p hp => by
  obtain ⟨q, hq, e1⟩ := List.mem_map.mp hp
  rw [← e1]
  exact ⟨q.1, rfl, (ok.k q hq).1.t, (ok.k q hq).1.n⟩⟩
theorem genS_free {env : Env} {sc : Scope} {x fx : Str} (h1 : sc.kind = .function) (h2 : sc.isCoroutine = false) (h3 : ∀ y ∈ sc.names, y.2 ≠ .cell) (h4 : sc.names.lookup (".0" : Str) = some NameKind.local) (h5 : sc.names.lookup x = some .local) (h6 : ∀ y ∈ sc.names, y.2 = .free → y.1 = fx) (h7 : ∃ c, env.cells.lookup fx = some c) : GxR.GenS env sc x :=
  ⟨h1, h2, h3, h4, h5, fun y hy h => by rw [h6 y hy h]; exact h7⟩
theorem clo_one {names : List (Str × NameKind)} {fx : Str} (hn : ∀ cells : List (Str × Addr), cloFrom cells names [] = [(fx, (cells.lookup fx).getD 0)]) : ∀ (cells : List (Str × Addr)) (cc : Addr), cells.lookup fx = some cc → (cloFrom cells names []).lookup fx = some cc := fun cells cc h => by
  rw [hn, h]
  show List.lookup fx [(fx, cc)] = some cc
  rw [List.lookup_cons, beq_self_eq_true]
def upds (cm : List (Str × Inn)) (n : Str) (l : Inn) : List (Str × Inn) := cm.map fun q => if q.1 = n then (q.1, l) else q
def updL (L : List (Str × Addr × Inn)) (n : Str) (l : Inn) : List (Str × Addr × Inn) := L.map fun t => if t.1 = n then (t.1, t.2.1, l) else t
theorem updL_1 (L : List (Str × Addr × Inn)) (n : Str) (l : Inn) : (updL L n l).map (·.1) = L.map (·.1) := by
  unfold updL
  rw [List.map_map]
  refine List.map_congr_left fun t _ => ?_
  show (if t.1 = n then (t.1, t.2.1, l) else t).1 = t.1
  split <;> rfl
theorem updL_2 (L : List (Str × Addr × Inn)) (n : Str) (l : Inn) : (updL L n l).map (·.2.1) = L.map (·.2.1) := by
  unfold updL
  rw [List.map_map]
  refine List.map_congr_left fun t _ => ?_
  show (if t.1 = n then (t.1, t.2.1, l) else t).2.1 = t.2.1
  split <;> rfl
theorem updL_kv (L : List (Str × Addr × Inn)) (n : Str) (l : Inn) : kvD (updL L n l) = kvD L := by
  unfold kvD updL
  rw [List.map_map]
  refine List.map_congr_left fun t _ => ?_
  show (Sum.inr (if t.1 = n then (t.1, t.2.1, l) else t).1, V.ref (if t.1 = n then (t.1, t.2.1, l) else t).2.1) = ((Sum.inr t.1 : Key), V.ref t.2.1)
  split <;> rfl
theorem nodup_inj {α β : Type} {f : α → β} : ∀ {l : List α} {x y : α}, (l.map f).Nodup → x ∈ l → y ∈ l → f x = f y → x = y
  | [], _, _, _, h, _, _ => nomatch h
  | a :: l, x, y, nd, hx, hy, e => by
    rw [List.map_cons, List.nodup_cons] at nd
    cases hx with
    | head =>
      cases hy with
      | head => rfl
      | tail _ hy => exact absurd (by rw [e]; exact List.mem_map.mpr ⟨y, hy, rfl⟩) nd.1
    | tail _ hx =>
      cases hy with
      | head => exact absurd (by rw [← e]; exact List.mem_map.mpr ⟨x, hx, rfl⟩) nd.1
      | tail _ hy => exact nodup_inj nd.2 hx hy e
/-- one node's dict is written -/
theorem AtB.put {C : Addr} {s : O_Bindings} {a dx d : Addr} {L : List (Str × Addr × Inn)} {G : Hp} (B : AtB C s a dx d L G) {t : Str × Addr × Inn} (ht : t ∈ L) {l : Inn} (ok : InnOk l) :
    AtB C ⟨upds s.cm t.1 l⟩ a dx d (updL L t.1 l) (upd G t.2.1 (.dT (ents l))) := by
  have he := (B.e t ht).1
  refine ⟨?_, ?_, ?_, ?_, by rw [updL_1]; exact B.n1, by rw [updL_2]; exact B.n2, fun u hu => ?_, by unfold updL; rw [List.length_map]; exact B.z⟩
  · show upds s.cm t.1 l = _
    rw [B.cm]
    unfold upds updL
    rw [List.map_map, List.map_map]
    refine List.map_congr_left fun u _ => ?_
    show (if u.1 = t.1 then (u.1, l) else (u.1, u.2.2)) = ((if u.1 = t.1 then (u.1, u.2.1, l) else u).1, (if u.1 = t.1 then (u.1, u.2.1, l) else u).2.2)
    split <;> rfl
  · rw [upd_ne (ne_of B.i he (by intro z; cases z))]
    exact B.i
  · rw [upd_ne (ne_of B.x he (by intro z; cases z))]
    exact B.x
  · rw [upd_ne (ne_of B.m he (by intro z; cases z)), updL_kv]
    exact B.m
  · obtain ⟨v, hv, e⟩ := List.mem_map.mp hu
    by_cases q : v.1 = t.1
    · rw [if_pos q] at e
      subst e
      rw [nodup_inj B.n1 hv ht q, upd_same]
      exact ⟨rfl, ok⟩
    · rw [if_neg q] at e
      subst e
      have ne : v.2.1 ≠ t.2.1 := fun z => q (by rw [nodup_inj B.n2 hv ht z])
      rw [upd_ne ne]
      exact B.e v hv
def spm2F {α β ρ : Type} [Rep α] [Rep β] [Rep ρ] [Tb] (K : PySem.W.Frag) (Ob : O_Bindings → Addr → Addr → Hp → Prop) (pre : O_Bindings → α → β → Prop) (f : O_Bindings → α → β → ρ × O_Bindings) : Sp := fun vs H Q _ => ∃ s a dx x y w v G, vs = [.ref a, w, v] ∧ Sub G H ∧ Ob s a dx G ∧ rep K x w G ∧ rep K y v G ∧ pre s x y ∧ ∀ u G' H' F, FOk F G → GrowF F G H G' H' → Ob (f s x y).2 a dx G' → rep K (f s x y).1 u G' → Q u H'
theorem drop_ents (k : List Str) (l : Inn) : dropK (ents l) (k.map Sum.inr : List Key) = ents (l.filter fun p => decide (p.1 ≠ k)) := by
  unfold ents dropK
  rw [List.filter_map]
  congr 1
  refine List.filter_congr fun p _ => ?_
  show decide (p.1.map Sum.inr ≠ (k.map Sum.inr : List Key)) = decide (p.1 ≠ k)
  refine decide_eq_decide.mpr ⟨fun h z => h (by rw [z]), fun h z => h ?_⟩
  have := congrArg keyS z
  rw [keyS_inr, keyS_inr] at this
  exact this
theorem inn_filter {l : Inn} (h : InnOk l) (f : List Str × Str → Bool) : InnOk (l.filter f) :=
  ⟨fun p hp => h.k p (List.mem_filter.mp hp).1, h.d.sublist ((List.filter_sublist).map _), Nat.le_trans (List.length_filter_le _ _) h.n⟩
theorem drop_kv (L : List (Str × Addr × Inn)) (n : Str) : dropK (kvD L) (Sum.inr n : Key) = kvD (L.filter fun t => decide (t.1 ≠ n)) := by
  unfold kvD dropK
  rw [List.filter_map]
  congr 1
  refine List.filter_congr fun t _ => ?_
  show decide ((Sum.inr t.1 : Key) ≠ Sum.inr n) = decide (t.1 ≠ n)
  exact decide_eq_decide.mpr ⟨fun h z => h (by rw [z]), fun h z => h (Sum.inr.inj z)⟩
theorem AtB.fewer {C : Addr} {s : O_Bindings} {a dx d : Addr} {L : List (Str × Addr × Inn)} {G : Hp} (B : AtB C s a dx d L G) (n : Str) :
    AtB C ⟨s.cm.filter fun q => decide (q.1 ≠ n)⟩ a dx d (L.filter fun t => decide (t.1 ≠ n)) (upd G d (.dK (kvD (L.filter fun t => decide (t.1 ≠ n))))) := by
  refine ⟨?_, ?_, ?_, upd_same, B.n1.sublist ((List.filter_sublist).map _), B.n2.sublist ((List.filter_sublist).map _), fun t ht => ?_, Nat.le_trans (List.length_filter_le _ _) B.z⟩
  · show s.cm.filter _ = _
    rw [B.cm, List.filter_map]
    rfl
  · rw [upd_ne (ne_of B.i B.m (by intro z; cases z))]
    exact B.i
  · rw [upd_ne (ne_of B.x B.m (by intro z; cases z))]
    exact B.x
  · have h := B.e t (List.mem_filter.mp ht).1
    rw [upd_ne (ne_of h.1 B.m (by intro z; cases z))]
    exact h
def spm1F {α ρ : Type} [Rep α] [Rep ρ] [Tb] (K : PySem.W.Frag) (Ob : O_Bindings → Addr → Addr → Hp → Prop) (pre : O_Bindings → α → Prop) (f : O_Bindings → α → ρ × O_Bindings) : Sp := fun vs H Q _ => ∃ s a dx x w G, vs = [.ref a, w] ∧ Sub G H ∧ Ob s a dx G ∧ rep K x w G ∧ pre s x ∧ ∀ u G' H' F, FOk F G → GrowF F G H G' H' → Ob (f s x).2 a dx G' → rep K (f s x).1 u G' → Q u H'
def only (q : Addr) (o : HO) : Hp := fun b => if b = q then some o else none
theorem only_same {q : Addr} {o : HO} : only q o q = some o := if_pos rfl
theorem sub_only [Tb] {H : Hp} {q : Addr} {xs : List V} (t : ∀ P ∈ Tb.ps, GxR.TabG H P) (h : H q = some (.tup xs)) : Sub (only q (.tup xs)) H := by
  refine ⟨fun b o e => ?_, t⟩
  unfold only at e
  split at e
  · rename_i z
    rw [z]
    cases e
    exact ⟨h, noTb_tup⟩
  · cases e
theorem nm_Bindings_count {K : PySem.W.Frag} {C : Addr} {s : O_Bindings} {a dx : Addr} {G : Hp} (o : Ob_Bindings K C s a dx G) : ∀ fs, G a = some (.ins C dx fs) → fs.lookup ("count" : Str) = none := nm_B (K := K) (by decide) o
theorem nm_Bindings_of {K : PySem.W.Frag} {C : Addr} {s : O_Bindings} {a dx : Addr} {G : Hp} (o : Ob_Bindings K C s a dx G) : ∀ fs, G a = some (.ins C dx fs) → fs.lookup ("of" : Str) = none := nm_B (K := K) (by decide) o
theorem nm_Bindings_match {K : PySem.W.Frag} {C : Addr} {s : O_Bindings} {a dx : Addr} {G : Hp} (o : Ob_Bindings K C s a dx G) : ∀ fs, G a = some (.ins C dx fs) → fs.lookup ("match" : Str) = none := nm_B (K := K) (by decide) o
theorem nm_Bindings_is_bound {K : PySem.W.Frag} {C : Addr} {s : O_Bindings} {a dx : Addr} {G : Hp} (o : Ob_Bindings K C s a dx G) : ∀ fs, G a = some (.ins C dx fs) → fs.lookup ("is_bound" : Str) = none := nm_B (K := K) (by decide) o
theorem nm_Bindings_unbind {K : PySem.W.Frag} {C : Addr} {s : O_Bindings} {a dx : Addr} {G : Hp} (o : Ob_Bindings K C s a dx G) : ∀ fs, G a = some (.ins C dx fs) → fs.lookup ("unbind" : Str) = none := nm_B (K := K) (by decide) o
theorem nm_Bindings_drop {K : PySem.W.Frag} {C : Addr} {s : O_Bindings} {a dx : Addr} {G : Hp} (o : Ob_Bindings K C s a dx G) : ∀ fs, G a = some (.ins C dx fs) → fs.lookup ("drop" : Str) = none := nm_B (K := K) (by decide) o
theorem nm_Bindings_bind {K : PySem.W.Frag} {C : Addr} {s : O_Bindings} {a dx : Addr} {G : Hp} (o : Ob_Bindings K C s a dx G) : ∀ fs, G a = some (.ins C dx fs) → fs.lookup ("bind" : Str) = none := nm_B (K := K) (by decide) o

abbrev s_init_Refused : Stmt := inClass (topS 2) 0
theorem sc_init_Refused : FnScope ["self", "what"] ["self", "what"] (defScope s_init_Refused) := ⟨rfl, rfl, rfl, by decide +kernel, rfl, by decide +kernel, by decide +kernel⟩
/-! ### is_prefix -/
abbrev s_is_prefix : Stmt := topS 4
abbrev n_is_prefix : List Str := ["one", "two"]
theorem sc_is_prefix : FnScope n_is_prefix ["one", "two"] (defScope s_is_prefix) := ⟨rfl, rfl, rfl, by decide +kernel, rfl, by decide +kernel, by decide +kernel⟩
/-! ### shown -/
abbrev s_shown : Stmt := topS 5
abbrev n_shown : List Str := ["strokes"]
theorem sc_shown : FnScope n_shown ["strokes"] (defScope s_shown) := ⟨rfl, rfl, rfl, by decide +kernel, rfl, by decide +kernel, by decide +kernel⟩
/-! ### Bindings___init__ -/
abbrev s_Bindings___init__ : Stmt := inClass (topS 8) 0
abbrev n_Bindings___init__ : List Str := ["self"]
theorem sc_Bindings___init__ : FnScope n_Bindings___init__ ["self"] (defScope s_Bindings___init__) := ⟨rfl, rfl, rfl, by decide +kernel, rfl, by decide +kernel, by decide +kernel⟩
/-! ### Bindings_bind -/
abbrev s_Bindings_bind : Stmt := inClass (topS 8) 1
abbrev n_Bindings_bind : List Str := ["self", "node", "strokes", "command", "bound"]
theorem sc_Bindings_bind : FnScope n_Bindings_bind ["self", "node", "strokes", "command"] (defScope s_Bindings_bind) := ⟨rfl, rfl, rfl, by decide +kernel, rfl, by decide +kernel, by decide +kernel⟩
/-! ### Bindings_unbind -/
abbrev s_Bindings_unbind : Stmt := inClass (topS 8) 2
abbrev n_Bindings_unbind : List Str := ["self", "node", "strokes"]
theorem sc_Bindings_unbind : FnScope n_Bindings_unbind ["self", "node", "strokes"] (defScope s_Bindings_unbind) := ⟨rfl, rfl, rfl, by decide +kernel, rfl, by decide +kernel, by decide +kernel⟩
/-! ### Bindings_of -/
abbrev s_Bindings_of : Stmt := inClass (topS 8) 3
abbrev n_Bindings_of : List Str := ["self", "node", "bound", "strokes"]
theorem sc_Bindings_of : FnScope n_Bindings_of ["self", "node"] (defScope s_Bindings_of) := ⟨rfl, rfl, rfl, by decide +kernel, rfl, by decide +kernel, by decide +kernel⟩
/-! ### Bindings_is_bound -/
abbrev s_Bindings_is_bound : Stmt := inClass (topS 8) 4
abbrev n_Bindings_is_bound : List Str := ["self", "node", "strokes"]
theorem sc_Bindings_is_bound : FnScope n_Bindings_is_bound ["self", "node", "strokes"] (defScope s_Bindings_is_bound) := ⟨rfl, rfl, rfl, by decide +kernel, rfl, by decide +kernel, by decide +kernel⟩
/-! ### Bindings_drop -/
abbrev s_Bindings_drop : Stmt := inClass (topS 8) 5
abbrev n_Bindings_drop : List Str := ["self", "names", "name"]
theorem sc_Bindings_drop : FnScope n_Bindings_drop ["self", "names"] (defScope s_Bindings_drop) := ⟨rfl, rfl, rfl, by decide +kernel, rfl, by decide +kernel, by decide +kernel⟩
/-! ### Bindings_match -/
abbrev s_Bindings_match : Stmt := inClass (topS 8) 6
abbrev n_Bindings_match : List Str := ["self", "node", "strokes", "bound"]
theorem sc_Bindings_match : FnScope n_Bindings_match ["self", "node", "strokes"] (defScope s_Bindings_match) := ⟨rfl, rfl, rfl, by decide +kernel, rfl, by decide +kernel, by decide +kernel⟩
/-! ### Bindings_count -/
abbrev s_Bindings_count : Stmt := inClass (topS 8) 7
abbrev n_Bindings_count : List Str := ["self", "node"]
theorem sc_Bindings_count : FnScope n_Bindings_count ["self"] (defScope s_Bindings_count) := ⟨rfl, rfl, rfl, by decide +kernel, rfl, by decide +kernel, by decide +kernel⟩
/-! ### _law_cell -/
abbrev s__law_cell : Stmt := topS 10
abbrev n__law_cell : List Str := ["script", "k"]
theorem sc__law_cell : FnScope n__law_cell ["script", "k"] (defScope s__law_cell) := ⟨rfl, rfl, rfl, by decide +kernel, rfl, by decide +kernel, by decide +kernel⟩
/-! ### _law_draws -/
abbrev s__law_draws : Stmt := topS 11
abbrev n__law_draws : List Str := ["cell", "count", "found", "is_wide", "k", "mixed"]
theorem sc__law_draws : FnScope n__law_draws ["cell", "count"] (defScope s__law_draws) := ⟨rfl, rfl, rfl, by decide +kernel, rfl, by decide +kernel, by decide +kernel⟩
/-! ### _law_strokes -/
abbrev s__law_strokes : Stmt := topS 12
abbrev n__law_strokes : List Str := ["draws", "at", "rows", "k"]
theorem sc__law_strokes : FnScope n__law_strokes ["draws", "at"] (defScope s__law_strokes) := ⟨rfl, rfl, rfl, by decide +kernel, rfl, by decide +kernel, by decide +kernel⟩
/-! ### _law_begins -/
abbrev s__law_begins : Stmt := topS 13
abbrev n__law_begins : List Str := ["one", "two"]
theorem sc__law_begins : FnScope n__law_begins ["one", "two"] (defScope s__law_begins) := ⟨rfl, rfl, rfl, by decide +kernel, rfl, by decide +kernel, by decide +kernel⟩
/-! ### _law_match -/
abbrev s__law_match : Stmt := topS 14
abbrev n__law_match : List Str := ["rows", "node", "strokes", "other", "bound", "command"]
theorem sc__law_match : FnScope n__law_match ["rows", "node", "strokes"] (defScope s__law_match) := ⟨rfl, rfl, rfl, by decide +kernel, rfl, by decide +kernel, by decide +kernel⟩
/-! ### _law_told -/
abbrev s__law_told : Stmt := topS 15
abbrev n__law_told : List Str := ["keys", "node", "strokes", "command", "e"]
theorem sc__law_told : FnScope n__law_told ["keys", "node", "strokes", "command"] (defScope s__law_told) := ⟨rfl, rfl, rfl, by decide +kernel, rfl, by decide +kernel, by decide +kernel⟩
/-! ### _law_bound -/
abbrev s__law_bound : Stmt := topS 16
abbrev n__law_bound : List Str := ["rows", "node", "strokes", "command", "other", "bound", "known"]
theorem sc__law_bound : FnScope n__law_bound ["rows", "node", "strokes", "command"] (defScope s__law_bound) := ⟨rfl, rfl, rfl, by decide +kernel, rfl, by decide +kernel, by decide +kernel⟩
/-! ### _law_is_it -/
abbrev s__law_is_it : Stmt := topS 17
abbrev n__law_is_it : List Str := ["keys", "rows", "probe", "node", "row"]
theorem sc__law_is_it : FnScope n__law_is_it ["keys", "rows", "probe"] (defScope s__law_is_it) := ⟨rfl, rfl, rfl, by decide +kernel, rfl, by decide +kernel, by decide +kernel⟩
/-! ### law -/
abbrev s_law : Stmt := topS 18
abbrev n_law : List Str := ["script", "keys", "rows", "k", "draws", "node", "strokes", "kind", "due", "command", "kept", "told", "names", "row"]
theorem sc_law : FnScope n_law ["script"] (defScope s_law) := ⟨rfl, rfl, rfl, by decide +kernel, rfl, by decide +kernel, by decide +kernel⟩
/-- what the top has written -/
structure Tx [Tb] (K : PySem.W.Frag) (mg : Str → Option Value) (base : Heap) (A : Adr) : Prop where
  F_is_prefix : Fun K "is_prefix" "is_prefix" s_is_prefix A.f_is_prefix A.d_is_prefix
  g_is_prefix : mg "is_prefix" = some (.ref A.f_is_prefix)
  b_is_prefix : Binds K A.d_is_prefix ["one", "two"] []
  F_shown : Fun K "shown" "shown" s_shown A.f_shown A.d_shown
  g_shown : mg "shown" = some (.ref A.f_shown)
  b_shown : Binds K A.d_shown ["strokes"] []
  F_Bindings___init__ : Fun K "__init__" "Bindings.__init__" s_Bindings___init__ A.f_Bindings___init__ A.d_Bindings___init__
  mk_Bindings : Mk K A.c_Bindings A.f_Bindings___init__
  b_Bindings___init__ : Binds K A.d_Bindings___init__ ["self"] []
  F_Bindings_bind : Fun K "bind" "Bindings.bind" s_Bindings_bind A.f_Bindings_bind A.d_Bindings_bind
  me_Bindings_bind : Meth K A.c_Bindings "bind" A.f_Bindings_bind
  b_Bindings_bind : Binds K A.d_Bindings_bind ["self", "node", "strokes", "command"] []
  F_Bindings_unbind : Fun K "unbind" "Bindings.unbind" s_Bindings_unbind A.f_Bindings_unbind A.d_Bindings_unbind
  me_Bindings_unbind : Meth K A.c_Bindings "unbind" A.f_Bindings_unbind
  b_Bindings_unbind : Binds K A.d_Bindings_unbind ["self", "node", "strokes"] []
  F_Bindings_of : Fun K "of" "Bindings.of" s_Bindings_of A.f_Bindings_of A.d_Bindings_of
  me_Bindings_of : Meth K A.c_Bindings "of" A.f_Bindings_of
  b_Bindings_of : Binds K A.d_Bindings_of ["self", "node"] []
  F_Bindings_is_bound : Fun K "is_bound" "Bindings.is_bound" s_Bindings_is_bound A.f_Bindings_is_bound A.d_Bindings_is_bound
  me_Bindings_is_bound : Meth K A.c_Bindings "is_bound" A.f_Bindings_is_bound
  b_Bindings_is_bound : Binds K A.d_Bindings_is_bound ["self", "node", "strokes"] []
  F_Bindings_drop : Fun K "drop" "Bindings.drop" s_Bindings_drop A.f_Bindings_drop A.d_Bindings_drop
  me_Bindings_drop : Meth K A.c_Bindings "drop" A.f_Bindings_drop
  b_Bindings_drop : Binds K A.d_Bindings_drop ["self", "names"] []
  F_Bindings_match : Fun K "match" "Bindings.match" s_Bindings_match A.f_Bindings_match A.d_Bindings_match
  me_Bindings_match : Meth K A.c_Bindings "match" A.f_Bindings_match
  b_Bindings_match : Binds K A.d_Bindings_match ["self", "node", "strokes"] []
  F_Bindings_count : Fun K "count" "Bindings.count" s_Bindings_count A.f_Bindings_count A.d_Bindings_count
  me_Bindings_count : Meth K A.c_Bindings "count" A.f_Bindings_count
  b_Bindings_count : Binds K A.d_Bindings_count ["self"] []
  F__law_cell : Fun K "_law_cell" "_law_cell" s__law_cell A.f__law_cell A.d__law_cell
  g__law_cell : mg "_law_cell" = some (.ref A.f__law_cell)
  b__law_cell : Binds K A.d__law_cell ["script", "k"] []
  F__law_draws : Fun K "_law_draws" "_law_draws" s__law_draws A.f__law_draws A.d__law_draws
  g__law_draws : mg "_law_draws" = some (.ref A.f__law_draws)
  b__law_draws : Binds K A.d__law_draws ["cell", "count"] []
  F__law_strokes : Fun K "_law_strokes" "_law_strokes" s__law_strokes A.f__law_strokes A.d__law_strokes
  g__law_strokes : mg "_law_strokes" = some (.ref A.f__law_strokes)
  b__law_strokes : Binds K A.d__law_strokes ["draws", "at"] []
  F__law_begins : Fun K "_law_begins" "_law_begins" s__law_begins A.f__law_begins A.d__law_begins
  g__law_begins : mg "_law_begins" = some (.ref A.f__law_begins)
  b__law_begins : Binds K A.d__law_begins ["one", "two"] []
  F__law_match : Fun K "_law_match" "_law_match" s__law_match A.f__law_match A.d__law_match
  g__law_match : mg "_law_match" = some (.ref A.f__law_match)
  b__law_match : Binds K A.d__law_match ["rows", "node", "strokes"] []
  F__law_told : Fun K "_law_told" "_law_told" s__law_told A.f__law_told A.d__law_told
  g__law_told : mg "_law_told" = some (.ref A.f__law_told)
  b__law_told : Binds K A.d__law_told ["keys", "node", "strokes", "command"] []
  F__law_bound : Fun K "_law_bound" "_law_bound" s__law_bound A.f__law_bound A.d__law_bound
  g__law_bound : mg "_law_bound" = some (.ref A.f__law_bound)
  b__law_bound : Binds K A.d__law_bound ["rows", "node", "strokes", "command"] []
  F__law_is_it : Fun K "_law_is_it" "_law_is_it" s__law_is_it A.f__law_is_it A.d__law_is_it
  g__law_is_it : mg "_law_is_it" = some (.ref A.f__law_is_it)
  b__law_is_it : Binds K A.d__law_is_it ["keys", "rows", "probe"] []
  F_law : Fun K "law" "law" s_law A.f_law A.d_law
  g_law : mg "law" = some (.ref A.f_law)
  b_law : Binds K A.d_law ["script"] []
  cl_Bindings : Cls K A.c_Bindings
  gC_Bindings : mg "Bindings" = some (.ref A.c_Bindings)
  na_Bindings__commands : NoAttr K A.c_Bindings "_commands"
  C_Bindings_match : A.d_Bindings_match.code = .ref A.c_Bindings_match
  TB_Bindings_match : GxR.TabB base mg A.c_Bindings_match A.t_Bindings_match
  TM_Bindings_match : A.t_Bindings_match ∈ Tb.ps
  c__MOST_BINDINGS : ∃ u, mg "_MOST_BINDINGS" = some u ∧ RelV (.int 40) u
  n_any : mg "any" = none
  n_bool : mg "bool" = none
  n_int : mg "int" = none
  n_isinstance : mg "isinstance" = none
  n_len : mg "len" = none
  n_range : mg "range" = none
  n_str : mg "str" = none
  n_sum : mg "sum" = none
  n_tuple : mg "tuple" = none
  x_Refused : ErrTxt K mg "Refused" "FocusError" "what" A.x_Refused A.x_FocusError A.i_Refused
  FI_Refused : Fun K "__init__" "Refused.__init__" s_init_Refused A.i_Refused A.di_Refused
  bi_Refused : Binds K A.di_Refused ["self", "what"] []
section
variable {P : Program} {w : World} {K : PySem.W.Frag} {mg : Str → Option Value} {base : Heap} {A : Adr} [Tb]
theorem ok_init_Refused (T : Tx K mg base A) : FnOk P w K mg base CX0 1 A.i_Refused A.di_Refused ["self", "what"] (spErr A.x_Refused "what" fun v => ∃ s, v = V.str s) := by
  refine T.FI_Refused.ok sc_init_Refused (fun vs H Q E h => ?_) (fun cdv A0 outer s H vs Q E hr h => ⟨_, pss_cons (ps_expr (pe_baseInit rfl T.x_Refused.gB T.x_Refused.rd T.x_Refused.vB (pa_cons (pv 0) (pa_cons (pv 1) pa_nil)))) (pss_one (ps_ost (pv 0) (pv 1))), ?_⟩)
  · obtain ⟨a, v, rfl, _⟩ := h
    rfl
  · obtain ⟨a, v, rfl, ⟨z, rfl⟩, ha, k⟩ := h
    exact ⟨_, rfl, _, rfl, a, A.x_Refused, [.str z], rfl, by show 1 ≤ 1000; decide, T.x_Refused.ox, ha, _, rfl, _, rfl, a, A.x_Refused, rfl, T.x_Refused.ox, T.x_Refused.nF, .inl ⟨ha, fun d hd hne => k d hd hne⟩⟩
/-! #### is_prefix -/
def m_is_prefix (d_one : (Tpl Str)) (d_two : (Tpl Str)) : Bool := (eqB ((Tpl.mk (cutL (d_two).l none (some ((d_one).l.length : Int))))).l (d_one).l)
abbrev p_is_prefix (K : PySem.W.Frag) : Sp := sp2 K (fun one two => TOk one.l ∧ TOk two.l) m_is_prefix
theorem ok_is_prefix (T : Tx K mg base A) : FnOk P w K mg base CX0 1 A.f_is_prefix A.d_is_prefix ["one", "two"] (p_is_prefix K) := by
  refine T.F_is_prefix.ok sc_is_prefix (fun vs He Q E h => ?_) (fun cdv A0 outer s He vs Q E hr h => ⟨_, (pss_one (ps_ret (pe_cmpR (op_eqK (K := K) hr.units) (pe_slice (sl_tupK (K := K)) (pv 1) po_none (po_some (pe_callB (call_lenK (K := K)) rfl T.n_len boot_len (pa_cons (pv 0) pa_nil)))) (pv 0) (nomark _)))), ?_⟩)
  · obtain ⟨d_one, d_two, w_one, w_two, G, rfl, eG, h_one, h_two, hpre, hQ⟩ := h
    rfl
  · obtain ⟨d_one, d_two, w_one, w_two, G, rfl, eG, h_one, h_two, hpre, hQ⟩ := h
    have gr : Grow G He G He := Grow.refl eG
    obtain ⟨Ge, eGe⟩ : ∃ z, z = G := ⟨G, rfl⟩
    have gr : Grow Ge He G He := by rw [eGe]; exact gr
    rw [← eGe] at hQ
    clear eGe
    have hM : m_is_prefix d_one d_two = (eqB ((Tpl.mk (cutL (d_two).l none (some ((d_one).l.length : Int))))).l (d_one).l) := rfl
    refine s_ret (K := K) gr.s (ev_eqT (ev_slT (ev_var rfl h_two) eo_none (eo_some (ev_lenT (ev_var rfl h_one)))) (ev_var rfl h_one) (by first | (exact ⟨fun p hp => hpre.2 p (cut_mem hp), hpre.1⟩) | (first | omega | decide | (show _ ≤ sizeLine; decide) | (show _ < sizeLine; decide)))) fun u Gr Hr gq hu => ?_
    exact hQ u Gr Hr (gr.trans gq) (by rw [hM]; exact hu)
/-! #### shown -/
def m_shown (d_strokes : (Tpl Str)) : Str := (Txt.join (" " : Str) (d_strokes).l)
abbrev p_shown (K : PySem.W.Frag) : Sp := sp1 K (fun s => ShS s.l) m_shown
theorem ok_shown (T : Tx K mg base A) : FnOk P w K mg base CX0 1 A.f_shown A.d_shown ["strokes"] (p_shown K) := by
  refine T.F_shown.ok sc_shown (fun vs He Q E h => ?_) (fun cdv A0 outer s He vs Q E hr h => ⟨_, (pss_one (ps_ret (pe_joinK (K := K) pe_str (pv 0)))), ?_⟩)
  · obtain ⟨d_strokes, w_strokes, G, rfl, eG, h_strokes, hpre, hQ⟩ := h
    rfl
  · obtain ⟨d_strokes, w_strokes, G, rfl, eG, h_strokes, hpre, hQ⟩ := h
    have gr : Grow G He G He := Grow.refl eG
    obtain ⟨Ge, eGe⟩ : ∃ z, z = G := ⟨G, rfl⟩
    have gr : Grow Ge He G He := by rw [eGe]; exact gr
    rw [← eGe] at hQ
    clear eGe
    have hM : m_shown d_strokes = (Txt.join (" " : Str) (d_strokes).l) := rfl
    refine s_ret (K := K) gr.s (ev_joinT ev_str (ev_var rfl h_strokes) (by first | (exact shs_fits hpre) | (first | omega | decide | (show _ ≤ sizeLine; decide) | (show _ < sizeLine; decide)))) fun u Gr Hr gq hu => ?_
    exact hQ u Gr Hr (gr.trans gq) (by rw [hM]; exact hu)
/-! #### Bindings___init__ -/
abbrev p_Bindings___init__ (K : PySem.W.Frag) (A : Adr) : Sp := spi0 (Ob_Bindings K A.c_Bindings) A.c_Bindings (O_Bindings.mk [])
theorem ok_Bindings___init__ (T : Tx K mg base A) : FnOk P w K mg base CX0 1 A.f_Bindings___init__ A.d_Bindings___init__ ["self"] (p_Bindings___init__ K A) := by
  refine T.F_Bindings___init__.ok sc_Bindings___init__ (fun vs He Q E h => ?_) (fun cdv A0 outer s He vs Q E hr h => ⟨_, pss_one (ps_fld (pv 0) pe_dnewK rfl), ?_⟩)
  · obtain ⟨a, dx, G, rfl, _⟩ := h
    rfl
  · obtain ⟨a, dx, G, rfl, eG, ha, hx, hQ⟩ := h
    intro p hp
    have g1 := Grow.new (o := .dK []) eG hp
    have ha1 := g1.g _ _ ha
    refine ⟨_, rfl, a, A.c_Bindings, dx, _, rfl, g1.s _ _ ha1, T.cl_Bindings, T.na_Bindings__commands, (show 0 < 1000 by decide), ?_⟩
    have gm : GrowM a _ _ (upd (upd G p (.dK [])) a (.ins A.c_Bindings dx (putF "_commands" (.ref p) []))) (upd (upd He p (.dK [])) a (.ins A.c_Bindings dx (putF "_commands" (.ref p) []))) := wr_own g1.s ha1 nd_ins nt_ins
    have ne : p ≠ a := fun z => by
      rw [z, eG _ _ ha] at hp
      cases hp
    exact hQ _ _ (g1.m gm) ⟨p, [], rfl, upd_same, gm.g _ _ (g1.g _ _ hx) (ne_of (g1.g _ _ hx) ha1 (by intro z; cases z)), by rw [upd_ne ne, upd_same]; rfl, List.nodup_nil, List.nodup_nil, fun t ht => (by cases ht), Nat.zero_le _⟩

/-! #### Bindings_bind -/
def m_Bindings_is_bound (s : O_Bindings) (n : Str) (k : Ky) : Bool := has (look s.cm n) k.l
abbrev p_Bindings_is_bound [Tb] (K : PySem.W.Frag) (A : Adr) : Sp := spr2 K (Ob_Bindings K A.c_Bindings) (fun _ _ _ => True) m_Bindings_is_bound
theorem ok_Bindings_is_bound (T : Tx K mg base A) : FnOk P w K mg base CX0 1 A.f_Bindings_is_bound A.d_Bindings_is_bound ["self", "node", "strokes"] (p_Bindings_is_bound K A) := by
  refine T.F_Bindings_is_bound.ok sc_Bindings_is_bound (fun vs He Q E h => ?_) (fun cdv A0 outer s He vs Q E hr h => ⟨_, pss_one (ps_ret (pe_cmp (pc_din (hu_of hr) (pv 2) (pe_dget2 (hu_of hr) (pe_fld (pv 0) rfl) (pv 1) pe_dnewT ⟨rfl, rfl, rfl, rfl⟩)))), ?_⟩)
  · obtain ⟨s, a, dx, x, y, w, v, G, rfl, _⟩ := h
    rfl
  · obtain ⟨s, a, dx, n, k, w, v, G, rfl, eG, ⟨d, L, B⟩, hw, ⟨b, ev, hb⟩, _, hQ⟩ := h
    obtain rfl : w = V.str n := hw
    subst ev
    refine ⟨_, rfl, ?_⟩
    refine ⟨_, rfl, a, A.c_Bindings, dx, _, _, rfl, eG _ _ B.i, T.cl_Bindings, T.na_Bindings__commands, rfl, ?_⟩
    refine ⟨d, rfl, .inl ⟨_, .inl (eG _ _ B.m)⟩, ?_⟩
    refine ⟨_, rfl, fun p hp => ?_⟩
    have gl := (Grow.refl eG).loose (o := .dT []) hp
    have sm := gl.s.get
    refine ⟨_, DGet.k (k := Sum.inr n) (sm _ _ B.m), ?_⟩
    have kt : upd He p (.dT []) b = some (.tup ((k.l.map Sum.inr : List Key).map kV)) := by rw [kv_tup]; exact sm _ _ hb
    rw [kv_look]
    cases q : L.find? fun t => decide (t.1 = n) with
    | none =>
      refine ⟨p, _, rfl, DGet.t (k := k.l.map Sum.inr) (kvs := []) upd_same kt, hQ _ G _ gl ?_⟩
      show V.bl _ = V.bl (has (look s.cm n) k.l)
      rw [B.cm, look_L, q]
      rfl
    | some t =>
      have ht := List.mem_of_find?_eq_some q
      refine ⟨t.2.1, _, rfl, DGet.t (k := k.l.map Sum.inr) (sm _ _ (B.e t ht).1) kt, hQ _ G _ gl ?_⟩
      show V.bl _ = V.bl (has (look s.cm n) k.l)
      rw [B.cm, look_L, q, val_ents]
      unfold has
      rw [Option.isSome_map]
      rfl

def m_match (s : O_Bindings) (n : Str) (k : List Str) : Option (Str × Str) := match (look s.cm n).find? fun p => decide (p.1 = k) with
  | some p => some ("exact", p.2)
  | none => cond ((look s.cm n).any fun p => decide (p.1.take k.length = k)) (some ("partial", "")) none
def m_Bindings_match (s : O_Bindings) (n : Str) (k : Ky) : Option (Str × Str) := m_match s n k.l
theorem pf_ok (T : Tx K mg base A) : PfxOk P w K mg "is_prefix" A.f_is_prefix := ⟨T.g_is_prefix, T.F_is_prefix.kp, fun m hd hdp hu t1 t2 o1 o2 z1 z2 => call_prefix T.F_is_prefix sc_is_prefix rfl rfl rfl rfl T.b_is_prefix m T.n_len hd hdp hu t1 t2 o1 o2 z1 z2⟩
abbrev p_Bindings_match [Tb] (K : PySem.W.Frag) (A : Adr) : Sp := spr2 K (Ob_Bindings K A.c_Bindings) (fun _ _ k => KyOk k.l) m_Bindings_match
theorem ok_Bindings_match (T : Tx K mg base A) : FnOk P w K mg base CX0 5 A.f_Bindings_match A.d_Bindings_match ["self", "node", "strokes"] (p_Bindings_match K A) := by
  refine okC T.F_Bindings_match T.C_Bindings_match sc_Bindings_match (fun vs He Q E h => ?_) (fun A0 outer s He vs Q E hr h => ⟨_, pss_cons (ps_set (i := 3) sc_Bindings_match.nd rfl (Or.inl rfl) (pe_dget2 (hu_of hr) (pe_fld (pv 0) rfl) (pv 1) pe_dnewT ⟨rfl, rfl, rfl, rfl⟩))
    (pss_cons (ps_if (pt_cmp (pc_din (hu_of hr) (pv 2) (pv 3))) (pss_one (ps_ret (pe_tup (pa_cons pe_str (pa_cons (pe_dget (hu_of hr) (pv 3) (pv 2) (fun _ _ => rfl)) pa_nil))))) pss_nil)
    (pss_cons (ps_if (pt_val (pe_anyD (K := K) (ix := 2) hr (Nat.le_refl 4) rfl T.n_any T.TB_Bindings_match rfl (genS_free (fx := "strokes") rfl rfl (by decide +kernel) rfl rfl (by decide +kernel) (cell_has rfl)) (pv 3) (pf_ok T) rfl rfl (clo_one fun _ => rfl) rfl (by first | exact .inl rfl | exact .inr (.inl rfl) | exact .inr rfl) rfl (fun _ => rfl) (by decide) (by decide) (by decide) (by decide)))
      (pss_one (ps_ret (pe_tup (pa_cons pe_str (pa_cons pe_str pa_nil))))) pss_nil)
    (pss_one (ps_ret pe_non)))), ?_⟩)
  · obtain ⟨s, a, dx, x, y, w, v, G, rfl, _⟩ := h
    rfl
  · obtain ⟨s, a, dx, n, k, w, v, G, rfl, eG, ⟨d, L, B⟩, hw, ⟨b, ev, hb⟩, hk, hQ⟩ := h
    obtain rfl : w = V.str n := hw
    subst ev
    refine q_asgX (rd_get eG B T.cl_Bindings T.na_Bindings__commands rfl rfl fun e H1 g1 he => ?_)
    have hb1 := g1.s _ _ hb
    have kt : H1 b = some (.tup ((k.l.map Sum.inr : List Key).map kV)) := by rw [kv_tup]; exact hb1
    refine ⟨_, rfl, _, rfl, e, _, rfl, DGet.t (k := k.l.map Sum.inr) he kt, _, rfl, ?_⟩
    rw [val_ents]
    cases q : (look s.cm n).find? fun p => decide (p.1 = k.l) with
    | some p =>
      refine iteT ⟨_, rfl, _, rfl, e, V.str p.2, rfl, ?_, by show 2 ≤ sizeLine; decide, fun t ht => ?_⟩
      · have z := DGet.t (k := k.l.map Sum.inr) he kt
        rw [val_ents, q] at z
        exact z
      · refine hQ _ _ _ (g1.trans (Grow.new g1.s ht)) ?_
        show rep K (m_match s n k.l) _ _
        unfold m_match
        rw [q]
        exact ⟨t, _, _, rfl, SqT.of upd_same, rfl, rfl⟩
    | none =>
      refine iteF ?_
      refine ⟨_, rfl, e, b, k.l, _, rfl, g1.s.t _ T.TM_Bindings_match, dk_at he (look_ok B n), rfl, SqT.of hb1, hk.t, hk.n, fun H2 t2 => ?_⟩
      have g2 := g1.tab (g1.s.t _ T.TM_Bindings_match) t2
      refine ⟨_, rfl, ?_⟩
      rw [any_ents]
      cases q2 : (look s.cm n).any fun p => decide (p.1.take k.l.length = k.l) with
      | true =>
        refine iteT ⟨by show 2 ≤ sizeLine; decide, fun t ht => ?_⟩
        refine hQ _ _ _ (g2.trans (Grow.new g2.s ht)) ?_
        show rep K (m_match s n k.l) _ _
        unfold m_match
        rw [q]
        show rep K (cond _ _ _ : Option (Str × Str)) _ _
        rw [q2]
        exact ⟨t, _, _, rfl, SqT.of upd_same, rfl, rfl⟩
      | false =>
        refine iteF ?_
        refine hQ _ G _ g2 ?_
        show rep K (m_match s n k.l) _ _
        unfold m_match
        rw [q]
        show rep K (cond _ _ _ : Option (Str × Str)) _ _
        rw [q2]
        rfl

def m_unbind (s : O_Bindings) (n : Str) (k : List Str) : Bool × O_Bindings := cond (has (look s.cm n) k) (true, ⟨upds s.cm n ((look s.cm n).filter fun p => decide (p.1 ≠ k))⟩) (false, s)
abbrev p_Bindings_unbind [Tb] (K : PySem.W.Frag) (A : Adr) : Sp := spm2F K (Ob_Bindings K A.c_Bindings) (fun _ _ k => KyOk k.l) fun s (n : Str) (k : Ky) => m_unbind s n k.l
theorem ok_Bindings_unbind (T : Tx K mg base A) : FnOk P w K mg base CX0 2 A.f_Bindings_unbind A.d_Bindings_unbind ["self", "node", "strokes"] (p_Bindings_unbind K A) := by
  refine T.F_Bindings_unbind.ok sc_Bindings_unbind (fun vs He Q E h => ?_) (fun cdv A0 outer s He vs Q E hr h => ⟨_, pss_cons (ps_if (pt_not (pt_val (pe_meth (pv 0) T.cl_Bindings T.me_Bindings_is_bound (ok_Bindings_is_bound T) (hr.mono (by decide)) T.b_Bindings_is_bound .nil pass0 (pa_cons (pv 1) (pa_cons (pv 2) pa_nil))))) (pss_one (ps_ret pe_bl)) pss_nil)
    (pss_cons (ps_ddelT (hu_of hr) (pe_dget (hu_of hr) (pe_fld (pv 0) rfl) (pv 1) (fun _ _ => rfl)) (pv 2)) (pss_one (ps_ret pe_bl))), ?_⟩)
  · obtain ⟨s, a, dx, x, y, w, v, G, rfl, _⟩ := h
    rfl
  · obtain ⟨s, a, dx, n, k, w, v, G, rfl, eG, ⟨d, L, B⟩, hw, ⟨b, ev, hb⟩, hk, hQ⟩ := h
    obtain rfl : w = V.str n := hw
    subst ev
    refine ⟨_, rfl, a, dx, _, rfl, eG _ _ B.i, nm_B (K := K) (by decide) ⟨d, L, B⟩ _ B.i, _, rfl, _, rfl, s, a, dx, n, k, _, _, G, rfl, eG, ⟨d, L, B⟩, rfl, ⟨b, rfl, hb⟩, trivial, fun u G1 H1 g1 hu => ⟨_, hu, ?_⟩⟩
    have B1 := B.up g1.g
    cases q : has (look s.cm n) k.l with
    | false =>
      refine xT (show (!has (look s.cm n) k.l) = true by rw [q]; rfl) ?_
      refine hQ _ _ _ (fun _ => False) (fun _ z => z.elim) g1.toF ⟨d, L, ?_⟩ ?_
      · show AtB _ (m_unbind s n k.l).2 _ _ _ _ _
        unfold m_unbind
        rw [q]
        exact B1
      · show V.bl false = V.bl (m_unbind s n k.l).1
        unfold m_unbind
        rw [q]
        rfl
    | true =>
      refine xF (show (!has (look s.cm n) k.l) = false by rw [q]; rfl) ?_
      have q0 := q
      rw [B.cm, look_L] at q0
      cases ql : L.find? fun t => decide (t.1 = n) with
      | none => rw [ql] at q0; cases q0
      | some t =>
        rw [ql] at q0
        have hl : look s.cm n = t.2.2 := by rw [B.cm, look_L, ql]; rfl
        have ht := List.mem_of_find?_eq_some ql
        have e0 := List.find?_some ql
        have en : t.1 = n := of_decide_eq_true e0
        have he1 := (B1.e t ht).1
        have dg := DGet.k (k := Sum.inr n) (g1.s _ _ B1.m)
        rw [kv_look, ql] at dg
        refine ⟨_, rfl, a, A.c_Bindings, dx, _, _, rfl, g1.s _ _ B1.i, T.cl_Bindings, T.na_Bindings__commands, rfl, _, rfl, d, _, rfl, dg, _, rfl, t.2.1, _, k.l.map Sum.inr, b, rfl, g1.s _ _ he1, rfl, by rw [kv_tup]; exact g1.s _ _ (g1.g _ _ hb), ?_, ?_⟩
        · rw [val_ents, Option.isSome_map]
          exact q0
        rw [drop_ents]
        have ok2 := inn_filter (B.e t ht).2 fun p => decide (p.1 ≠ k.l)
        have gm := (wr_own (o' := .dT (ents (t.2.2.filter fun p => decide (p.1 ≠ k.l)))) g1.s he1 (fun z => z) (fun q z => by cases z)).toF
        refine hQ _ _ _ (fun c => c = t.2.1) (fun c z => ⟨.dT (ents t.2.2), by rw [show c = t.2.1 from z]; exact (B.e t ht).1, fun y => y⟩) ((g1.toF (F := fun c => c = t.2.1)).next gm fun c z => .inl z) ⟨d, updL L t.1 (t.2.2.filter fun p => decide (p.1 ≠ k.l)), ?_⟩ ?_
        · show AtB _ (m_unbind s n k.l).2 _ _ _ _ _
          unfold m_unbind
          rw [q, hl, ← en]
          exact B1.put ht ok2
        · show V.bl true = V.bl (m_unbind s n k.l).1
          unfold m_unbind
          rw [q]
          rfl

def m_count (s : O_Bindings) : Int := (s.cm.map fun t => (t.2.length : Int)).sum
def m_Bindings_count := @m_count
abbrev p_Bindings_count [Tb] (K : PySem.W.Frag) (A : Adr) : Sp := spr0 K (Ob_Bindings K A.c_Bindings) (fun _ => True) m_Bindings_count
theorem ok_Bindings_count (T : Tx K mg base A) : FnOk P w K mg base CX0 1 A.f_Bindings_count A.d_Bindings_count ["self"] (p_Bindings_count K A) := by
  refine T.F_Bindings_count.ok sc_Bindings_count (fun vs He Q E h => ?_) (fun cdv A0 outer s He vs Q E hr h => ⟨_, pss_one (ps_ret (pe_lock (pe_callB (cr_sum rfl) rfl T.n_sum boot_sum (pa_cons
      (pe_lc (own := [("node", 1)]) (g := gName 1) (tt := tYes) rfl sc_Bindings_count.nd (pi_keys (pe_fld (pv 0) rfl)) (blkOk_by (N := n_Bindings_count) (sc := defScope s_Bindings_count) (by decide +kernel)) (fun _ _ _ _ _ => pg_name (i := 1) sc_Bindings_count.nd rfl (Or.inl rfl)) (fun _ _ _ _ _ => pts_nil)
        (fun _ _ _ _ _ => pe_callB call_len_dT rfl T.n_len boot_len (pa_cons (pe_dget (by exact hu_of hr) (pe_fldK (K := K) (pv 0)) (pv 1) (by exact fun _ _ => rfl)) pa_nil))) pa_nil)))), ?_⟩)
  · obtain ⟨s, a, dx, G, rfl, _⟩ := h
    rfl
  · obtain ⟨s, a, dx, G, rfl, eG, ⟨d, L, B⟩, _, hQ⟩ := h
    have hd := eG _ _ B.m
    refine ⟨d, _, hd, trivial, fun od => ?_⟩
    have ha := eG _ _ B.i
    have lk : ∀ b o, He b = some o → (∀ z, o ≠ .dK z) → upd He d (.frz od (.dK (kvD L))) b = some o := fun b o q ne => by
      rw [upd_ne (ne_of q hd (ne _))]
      exact q
    have ha2 := lk a _ ha (fun z q => nomatch q)
    refine ⟨_, rfl, a, A.c_Bindings, dx, _, _, rfl, ha2, T.cl_Bindings, T.na_Bindings__commands, rfl, d, od, rfl, .inl ⟨_, upd_same, fun Dl hD => ?_⟩⟩
    have neD : d ≠ Dl := ne_of_none upd_same hD
    obtain ⟨Hf, eHf⟩ : ∃ Hf, Hf = upd He d (.frz od (.dK (kvD L))) := ⟨_, rfl⟩
    rw [← eHf] at ha2 hD lk ⊢
    have hdf : Hf d = some (.frz od (.dK (kvD L))) := by rw [eHf, upd_same]
    have at_ : ∀ {z : HO} {b : Addr} {o : HO}, Hf b = some o → upd Hf Dl z b = some o := fun q => by
      rw [upd_ne (ne_of_none q hD)]
      exact q
    refine lc_it (walk_keys (d := d) (o := od) (kvs := kvD L)) (fun i H2 => H2 = upd Hf Dl (.lst ((L.take i).map fun t => V.int (t.2.2.length : Int)))) rfl (fun i H2 _ e => by rw [e]; exact at_ hdf) (fun i x H2 H3 hi e ⟨e3, k, v, hkv, ex⟩ => ?_) (fun H2 e => ?_)
    · subst e3 e ex
      have hiL : i < L.length := by unfold kvD at hi; rw [List.length_map] at hi; exact hi
      have hkv2 : (kvD L)[i]? = some (Sum.inr L[i].1, V.ref L[i].2.1) := by
        unfold kvD
        rw [List.getElem?_map, List.getElem?_eq_getElem hiL]
        rfl
      rw [hkv2] at hkv
      cases hkv
      have hm := List.getElem_mem hiL
      have hin := lk _ _ (eG _ _ (B.e _ hm).1) (fun z q => nomatch q)
      have dg : DGet (upd Hf Dl (.lst ((L.take i).map fun t => V.int (t.2.2.length : Int)))) d (kV (Sum.inr L[i].1)) (some (V.ref L[i].2.1)) := by
        refine .inl ⟨kvD L, Sum.inr L[i].1, .inr ⟨od, at_ hdf⟩, rfl, ?_⟩
        rw [kv_look]
        cases q : L.find? fun t => decide (t.1 = L[i].1) with
        | none => exact absurd (List.find?_eq_none.mp q _ hm) (by simp)
        | some t =>
          have e0 := List.find?_some q
          have : t = L[i] := nodup_inj B.n1 (List.mem_of_find?_eq_some q) hm (of_decide_eq_true e0)
          rw [this]
          rfl
      refine ⟨rfl, ?_⟩
      refine yes_if ?_
      refine ⟨_, rfl, a, A.c_Bindings, dx, _, _, rfl, at_ ha2, T.cl_Bindings, T.na_Bindings__commands, rfl, _, rfl, d, _, rfl, dg, L[i].2.1, _, rfl, at_ hin, ?_⟩
      refine ⟨_, upd_same, ?_, ?_⟩
      · rw [List.length_map, List.length_take]
        have := B.z
        show _ < 16777216
        omega
      · show upd (upd Hf Dl _) Dl _ = upd Hf Dl _
        rw [upd_upd]
        have e1 : L.take (i + 1) = L.take i ++ [L[i]] := by rw [List.take_add_one, List.getElem?_eq_getElem hiL]; rfl
        rw [e1, List.map_append]
        unfold ents
        rw [List.length_map]
        rfl
    · subst e
      have eL : (L.take (kvD L).length).map (fun t => V.int (t.2.2.length : Int)) = (L.map fun t => (t.2.2.length : Int)).map V.int := by
        rw [show (kvD L).length = L.length by unfold kvD; rw [List.length_map], List.take_length, List.map_map]
        rfl
      refine ⟨Dl, _, rfl, by rw [eL]; exact SqL.of upd_same, at_ hdf, ?_⟩
      have hDl : He Dl = none := by
        rw [eHf, upd_ne (Ne.symm neD)] at hD
        exact hD
      have eH : upd (upd Hf Dl (.lst ((L.take (kvD L).length).map fun t => V.int (t.2.2.length : Int)))) d (.dK (kvD L)) = upd He Dl (.lst ((L.take (kvD L).length).map fun t => V.int (t.2.2.length : Int))) := by
        funext b
        rw [eHf]
        by_cases h1 : b = d
        · rw [h1, upd_same, upd_ne neD]
          exact hd.symm
        · rw [upd_ne h1]
          by_cases h2 : b = Dl
          · rw [h2, upd_same, upd_same]
          · rw [upd_ne h2, upd_ne h2, upd_ne h1]
      rw [eH]
      refine hQ _ G _ ((Grow.refl eG).loose hDl) ?_
      show V.int _ = V.int (m_count s)
      unfold m_count
      rw [B.cm, List.map_map]
      rfl

def m_of (s : O_Bindings) (n : Str) : List (Str × Str) := (look s.cm n).map fun p => (m_shown ⟨p.1⟩, p.2)
def m_Bindings_of := @m_of
abbrev p_Bindings_of [Tb] (K : PySem.W.Frag) (A : Adr) : Sp := spr1 K (Ob_Bindings K A.c_Bindings) (fun _ _ => True) m_Bindings_of
theorem find_own {l : Inn} {i : Nat} (hi : i < l.length) (d : (l.map (·.1)).Nodup) : l.find? (fun p => decide (p.1 = l[i].1)) = some l[i] := by
  have hm := List.getElem_mem hi
  cases q : l.find? fun p => decide (p.1 = l[i].1) with
  | none => exact absurd (List.find?_eq_none.mp q _ hm) (by simp)
  | some t =>
    have e0 := List.find?_some q
    rw [nodup_inj d (List.mem_of_find?_eq_some q) hm (of_decide_eq_true e0)]
theorem ok_Bindings_of (T : Tx K mg base A) : FnOk P w K mg base CX0 2 A.f_Bindings_of A.d_Bindings_of ["self", "node"] (p_Bindings_of K A) := by
  refine T.F_Bindings_of.ok sc_Bindings_of (fun vs He Q E h => ?_) (fun cdv A0 outer s He vs Q E hr h => ⟨_, pss_cons (ps_set (i := 2) sc_Bindings_of.nd rfl (Or.inr rfl) (pe_dget2 (hu_of hr) (pe_fld (pv 0) rfl) (pv 1) pe_dnewT ⟨rfl, rfl, rfl, rfl⟩))
    (pss_one (ps_ret (pe_lock (pe_lc (own := [("strokes", 3)]) (g := gName 3) (tt := tYes) rfl sc_Bindings_of.nd (pi_keys (pv 2)) (blkOk_by (N := n_Bindings_of) (sc := defScope s_Bindings_of) (by decide +kernel)) (fun _ _ _ _ _ => pg_name (i := 3) sc_Bindings_of.nd rfl (Or.inl rfl)) (fun _ _ _ _ _ => pts_nil)
        (fun _ _ _ _ _ => pe_tup (pa_cons (pe_call (ok_shown T) (hr.mono (by decide)) rfl T.g_shown T.F_shown.kp T.b_shown .nil pass0 (pa_cons (pv 3) pa_nil)) (pa_cons (pe_dget (by exact hu_of hr) (pv 2) (pv 3) (by exact fun _ _ => rfl)) pa_nil))))))), ?_⟩)
  · obtain ⟨s, a, dx, x, w, G, rfl, _⟩ := h
    rfl
  · obtain ⟨s, a, dx, n, w, G, rfl, eG, ⟨d, L, B⟩, hw, _, hQ⟩ := h
    obtain rfl : w = V.str n := hw
    refine q_asgX (rd_get eG B T.cl_Bindings T.na_Bindings__commands rfl rfl fun e H1 g1 he => ?_)
    have ok := look_ok B n
    obtain ⟨l, el⟩ : ∃ l, l = look s.cm n := ⟨_, rfl⟩
    rw [← el] at he ok
    refine ⟨e, _, he, trivial, fun od => ?_⟩
    obtain ⟨Hf, eHf⟩ : ∃ Hf, Hf = upd H1 e (.frz od (.dT (ents l))) := ⟨_, rfl⟩
    have ndT : ¬ dataO (.dT (ents l)) := fun z => z
    have ntT : noTb (.dT (ents l)) := fun q z => by cases z
    have s0 : Sub (dpart G) Hf := by rw [eHf]; exact lock_sub g1.s he ndT ntT
    have hef : Hf e = some (.frz od (.dT (ents l))) := by rw [eHf, upd_same]
    rw [← eHf]
    refine ⟨_, rfl, e, od, rfl, .inr ⟨_, hef, fun Dl hD => ?_⟩⟩
    have hln : (ents l).length = l.length := by unfold ents; rw [List.length_map]
    refine lc_it (walk_keysT (d := e) (o := od) (kvs := ents l)) (fun i H2 => ∃ G2 vs, Grow (dpart G) Hf G2 H2 ∧ G2 Dl = none ∧ H2 Dl = some (.lst vs) ∧ Reps K ((l.take i).map fun p => (m_shown ⟨p.1⟩, p.2)) vs G2)
      ⟨dpart G, [], (Grow.refl s0).loose hD, s0.free hD, upd_same, .nil⟩ (fun i H2 _ ⟨G2, vs, g2, _⟩ => g2.h.k _ _ hef noTb_frz) (fun i x H2 H3 hi ⟨G2, vs, g2, nG, hDl, hvs⟩ ⟨e3, k, v, q, hkv, ex, hq⟩ => ?_) (fun H2 ⟨G2, vs, g2, nG, hDl, hvs⟩ => ?_)
    · subst e3 ex
      rw [hln] at hi
      have hkv2 : (ents l)[i]? = some (l[i].1.map Sum.inr, V.str l[i].2) := by
        unfold ents
        rw [List.getElem?_map, List.getElem?_eq_getElem hi]
        rfl
      rw [hkv2] at hkv
      cases hkv
      have hm := List.getElem_mem hi
      have hq2 := hq
      rw [kv_tup] at hq2
      refine ⟨rfl, yes_if ?_⟩
      refine ⟨_, rfl, ⟨l[i].1⟩, _, only q _, rfl, sub_only g2.s.t hq2, ⟨q, _, rfl, SqT.of only_same, reps_of_flat _⟩, (ok.k _ hm).2, fun u G5 H5 g5 hu => ?_⟩
      obtain rfl : u = V.str _ := hu
      have g3 : Grow (dpart G) Hf G2 H5 := ⟨g2.g, g2.s.keep g5.h g5.s.t, g2.h.trans g5.h, g2.f⟩
      have he5 : H5 e = some (.frz od (.dT (ents l))) := g3.h.k _ _ hef noTb_frz
      have hq5 := g5.h.k _ _ hq noTb_tup
      refine ⟨_, rfl, _, rfl, e, V.str l[i].2, rfl, .inr ⟨_, _, q, .inr ⟨od, he5⟩, rfl, hq5, ?_⟩, by show 2 ≤ sizeLine; decide, fun t ht => ?_⟩
      · rw [val_ents, find_own hi ok.d]
        rfl
      · have hD5 := g5.h.l hDl
        have ntD : t ≠ Dl := fun z => by rw [z, hD5] at ht; cases ht
        have g4 := g3.trans (Grow.new (o := .tup [V.str (m_shown ⟨l[i].1⟩), V.str l[i].2]) g3.s ht)
        have nG4 : upd G2 t (.tup [V.str (m_shown ⟨l[i].1⟩), V.str l[i].2]) Dl = none := by rw [upd_ne (Ne.symm ntD)]; exact nG
        refine ⟨vs, by rw [upd_ne (Ne.symm ntD)]; exact hD5, ?_, upd G2 t (.tup [V.str (m_shown ⟨l[i].1⟩), V.str l[i].2]), vs ++ [.ref t], g4.mut hD nG4 (by rw [upd_ne (Ne.symm ntD)]; exact lst_no hD5), nG4, upd_same, ?_⟩
        · have h1 := paired_len hvs
          rw [List.length_map, List.length_take] at h1
          have := ok.n
          show vs.length < 16777216
          omega
        · rw [take_snoc (List.getElem?_eq_getElem hi), List.map_append]
          exact paired_append (hvs.up (same_upd (g3.s.free ht))) (.cons ⟨t, _, _, rfl, SqT.of upd_same, rfl, rfl⟩ .nil)
    · rw [hln, List.take_length] at hvs
      have g3 := g2.fix hD nG hDl
      refine ⟨g2.h.k _ _ hef noTb_frz, ?_⟩
      rw [eHf] at g3
      obtain ⟨g4, sm⟩ := un_lock g1 he ndT ntT g3
      refine hQ _ _ _ g4 ⟨Dl, vs, rfl, sm _ _ upd_same, ?_⟩
      show Reps K (m_of s n) vs _
      unfold m_of
      rw [← el]
      exact (hvs.up (same_upd nG)).up sm

def dropN (cm : List (Str × Inn)) (n : Str) : List (Str × Inn) := cm.filter fun q => decide (q.1 ≠ n)
def m_drop (s : O_Bindings) (names : List Str) : Unit × O_Bindings := ((), ⟨names.foldl dropN s.cm⟩)
abbrev p_Bindings_drop [Tb] (K : PySem.W.Frag) (A : Adr) : Sp := spm1F K (Ob_Bindings K A.c_Bindings) (fun _ _ => True) m_drop
theorem ok_Bindings_drop (T : Tx K mg base A) : FnOk P w K mg base CX0 1 A.f_Bindings_drop A.d_Bindings_drop ["self", "names"] (p_Bindings_drop K A) := by
  refine T.F_Bindings_drop.ok sc_Bindings_drop (fun vs He Q E h => ?_) (fun cdv A0 outer s He vs Q E hr h => ⟨_, pss_one (ps_for PassesOwn.never rfl (pi_listK (K := K) (pv 1)) (pg_name (i := 2) sc_Bindings_drop.nd rfl (Or.inl rfl)) (pss_one (ps_expr (pe_dpop2 (pe_fld (pv 0) rfl) (pv 2) pe_non ⟨rfl, rfl, rfl, rfl⟩)))), ?_⟩)
  · obtain ⟨s, a, dx, x, w, G, rfl, _⟩ := h
    rfl
  · obtain ⟨s, a, dx, names, w, G, rfl, eG, ⟨d, L, B⟩, ⟨l, xs, ew, hl, hr2⟩, _, hQ⟩ := h
    subst ew
    have exs := reps_flat hr2
    subst exs
    have hd := eG _ _ B.m
    have htab : ∀ q, He d ≠ some (.tbl q) := fun q z => by rw [hd] at z; cases z
    have nl : l ≠ d := ne_of hl B.m (by intro z; cases z)
    have put : ∀ L', GrowF (fun c => c = d) G He (upd G d (.dK (kvD L'))) (upd He d (.dK (kvD L'))) := fun L' => (wr_own (o' := .dK (kvD L')) eG B.m (fun z => z) (fun q z => by cases z)).toF
    refine ⟨_, rfl, l, rfl, ⟨_, SqL.of (eG _ _ hl)⟩, for_list (K := K) (a := l) (xs := names.map Flat.toV) (fun i σ' H' => ∃ (L' : List (Str × Addr × Inn)) (o : Option V), σ' = [some (V.ref a), some (V.ref l), o] ∧ H' = upd He d (.dK (kvD L')) ∧ AtB A.c_Bindings ⟨(names.take i).foldl dropN s.cm⟩ a dx d L' (upd G d (.dK (kvD L')))) ⟨L, none, rfl, ?_, ?_⟩ (fun i σ' H' _ ⟨L', o, _, e, _⟩ => ?_) (fun i x σ' H' hx ⟨L', o, es, e, B2⟩ => ?_) (fun σ' H' ⟨L', o, es, e, B2⟩ => ?_)⟩
    · funext b
      by_cases hb : b = d
      · rw [hb, upd_same]; exact hd
      · rw [upd_ne hb]
    · rw [show upd G d (.dK (kvD L)) = G by
        funext b
        by_cases hb : b = d
        · rw [hb, upd_same]; exact B.m.symm
        · rw [upd_ne hb]]
      exact B
    · rw [e]
      exact SqL.of (by rw [upd_ne nl]; exact eG _ _ hl)
    · subst es e
      rw [List.getElem?_map] at hx
      obtain ⟨nm, hn, ex⟩ := Option.map_eq_some_iff.mp hx
      subst ex
      have s2 := (put L').s
      refine ⟨_, rfl, a, A.c_Bindings, dx, _, _, rfl, s2 _ _ B2.i, T.cl_Bindings, T.na_Bindings__commands, rfl, d, rfl, .inl ⟨_, .inl (s2 _ _ B2.m)⟩, _, rfl, _, Sum.inr nm, s2 _ _ B2.m, rfl, fun v hv => ?_, fun hv => ?_⟩
      · refine ⟨L'.filter fun t => decide (t.1 ≠ nm), _, rfl, by rw [drop_kv, upd_upd], ?_⟩
        have B3 := B2.fewer nm
        rw [upd_upd] at B3
        rw [take_snoc hn, List.foldl_append]
        exact B3
      · have hno : L'.filter (fun t => decide (t.1 ≠ nm)) = L' := by
          rw [kv_look] at hv
          refine List.filter_eq_self.mpr fun t ht => ?_
          have h0 := List.find?_eq_none.mp (Option.map_eq_none_iff.mp hv) t ht
          exact decide_eq_true fun z => h0 (decide_eq_true z)
        refine ⟨L', _, rfl, rfl, ?_⟩
        have B3 := B2.fewer nm
        rw [upd_upd, hno] at B3
        rw [take_snoc hn, List.foldl_append]
        exact B3
    · subst e
      rw [List.length_map, List.take_length] at B2
      exact hQ _ _ _ (fun c => c = d) (fun c z => ⟨.dK (kvD L), by rw [show c = d from z]; exact B.m, fun y => y⟩) (put L') ⟨d, L', B2⟩ rfl

def cfl (l : Inn) (k : List Str) : Bool := l.any fun p => m_is_prefix ⟨p.1⟩ ⟨k⟩ || m_is_prefix ⟨k⟩ ⟨p.1⟩
def bindL (cm : List (Str × Inn)) (n : Str) (k : List Str) (c : Str) : List (Str × Inn) := if (cm.any fun q => decide (q.1 = n)) = true then upds cm n (look cm n ++ [(k, c)]) else cm ++ [(n, [(k, c)])]
def m_bind (s : O_Bindings) (n : Str) (k : List Str) (c : Str) : Except Str (Unit × O_Bindings) :=
  cond (cfl (look s.cm n) k) (.error "conflicting key sequence") (cond (decide (40 ≤ m_count s)) (.error "too many bindings") (.ok ((), ⟨bindL s.cm n k c⟩)))
structure PreB (s : O_Bindings) (k : List Str) : Prop where
  ky : KyOk k
  sh : ShS k
  z : s.cm.length < 1000
def spB [Tb] (K : PySem.W.Frag) (X : Addr) (Ob : O_Bindings → Addr → Addr → Hp → Prop) : Sp := fun vs H Q E => ∃ s a dx n k c w G, vs = [.ref a, .str n, w, .str c] ∧ Sub G H ∧ Ob s a dx G ∧ rep K (Ky.mk k) w G ∧ PreB s k ∧
  (∀ r, m_bind s n k c = .ok r → ∀ u G' H' F, FOk F G → GrowF F G H G' H' → Ob r.2 a dx G' → rep K r.1 u G' → Q u H') ∧ ∀ z, m_bind s n k c = .error z → ErrAt X "what" (.str z) H E
def unE (H : Hp) (E : XK) : XK := fun cls d H' => E cls d H' ∨ ∃ e od u, H' e = some (.frz od u) ∧ (∀ o2 u2, H e ≠ some (.frz o2 u2)) ∧ (∀ xs, u ≠ .tup xs) ∧ (∀ b, u ≠ .own b) ∧ E cls d (upd H' e u)
def spB2 [Tb] (K : PySem.W.Frag) (X : Addr) (Ob : O_Bindings → Addr → Addr → Hp → Prop) : Sp := fun vs H Q E' => ∃ E, spB K X Ob vs H Q E ∧ E' = unE H E
theorem look_count {cm : List (Str × Inn)} {n : Str} : ((look cm n).length : Int) ≤ (cm.map fun t => (t.2.length : Int)).sum := by
  have pos : ∀ l : List (Str × Inn), 0 ≤ (l.map fun t => (t.2.length : Int)).sum := fun l => by
    induction l with
    | nil => exact Int.le_refl _
    | cons t l ih =>
      rw [List.map_cons, List.sum_cons]
      omega
  induction cm with
  | nil => exact Int.le_refl _
  | cons t cm ih =>
    rw [List.map_cons, List.sum_cons]
    by_cases h : t.1 = n
    · have e : look (t :: cm) n = t.2 := by
        unfold look
        rw [List.find?_cons_of_pos (by simp [h])]
        rfl
      rw [e]
      have := pos cm
      omega
    · have e : look (t :: cm) n = look cm n := by
        unfold look
        rw [List.find?_cons_of_neg (by simp [h])]
      rw [e]
      omega
theorem pfx_self (k : List Str) : m_is_prefix ⟨k⟩ ⟨k⟩ = true := by
  unfold m_is_prefix
  show eqB (cutL k none (some (k.length : Int))) k = true
  have : cutL k none (some (k.length : Int)) = k := by
    rw [cut_to k (by omega), Int.toNat_natCast, List.take_length]
  rw [this]
  exact eqB_self k
theorem cfl_none {l : Inn} {k : List Str} (h : cfl l k = false) : l.find? (fun p => decide (p.1 = k)) = none := by
  refine List.find?_eq_none.mpr fun p hp z => ?_
  have e : p.1 = k := of_decide_eq_true z
  have h2 := List.any_eq_false.mp h p hp
  rw [e, pfx_self] at h2
  exact h2 rfl
theorem ok_Bindings_bind2 (T : Tx K mg base A) : FnOk P w K mg base (L2.CX P w) 4 A.f_Bindings_bind A.d_Bindings_bind ["self", "node", "strokes", "command"] (spB2 K A.x_Refused (Ob_Bindings K A.c_Bindings)) := by
  refine T.F_Bindings_bind.okX sc_Bindings_bind (fun vs He Q E h => ?_) (fun cdv A0 outer s He vs Q E hr h => ⟨_, pss_cons (ps_orS
      (ps_lock (ps_for (passes_of rfl) rfl (pi_keys (pe_dget2 (hu_of hr) (pe_fld (pv 0) rfl) (pv 1) pe_dnewF ⟨rfl, rfl, rfl, rfl⟩)) (pg_name (i := 4) sc_Bindings_bind.nd rfl (Or.inl rfl)) (pss_one (ps_if (PW.pt (pw_or (pt_val (pe_call (ok_is_prefix T) (hr.mono (by decide)) rfl T.g_is_prefix T.F_is_prefix.kp T.b_is_prefix .nil pass0 (pa_cons (pv 4) (pa_cons (pv 2) pa_nil)))) (pw_or1 (pt_val (pe_call (ok_is_prefix T) (hr.mono (by decide)) rfl T.g_is_prefix T.F_is_prefix.kp T.b_is_prefix .nil pass0 (pa_cons (pv 2) (pa_cons (pv 4) pa_nil)))))))
        (pss_one (ps_raise rfl (takes_of rfl rfl rfl rfl) (pmk_oex T.x_Refused.ox T.x_Refused.iC T.x_Refused.tI (ok_init_Refused T) (hr.mono (by decide)) T.bi_Refused .nil pass0 rfl T.x_Refused.gC (pa_cons pe_str pa_nil)))) pss_nil))))
      (ps_for (passes_of rfl) rfl (pi_keys (pe_dget2 (hu_of hr) (pe_fld (pv 0) rfl) (pv 1) pe_dnewF ⟨rfl, rfl, rfl, rfl⟩)) (pg_name (i := 4) sc_Bindings_bind.nd rfl (Or.inl rfl)) (pss_one (ps_if (PW.pt (pw_or (pt_val (pe_call (ok_is_prefix T) (hr.mono (by decide)) rfl T.g_is_prefix T.F_is_prefix.kp T.b_is_prefix .nil pass0 (pa_cons (pv 4) (pa_cons (pv 2) pa_nil)))) (pw_or1 (pt_val (pe_call (ok_is_prefix T) (hr.mono (by decide)) rfl T.g_is_prefix T.F_is_prefix.kp T.b_is_prefix .nil pass0 (pa_cons (pv 2) (pa_cons (pv 4) pa_nil)))))))
        (pss_one (ps_raise rfl (takes_of rfl rfl rfl rfl) (pmk_oex T.x_Refused.ox T.x_Refused.iC T.x_Refused.tI (ok_init_Refused T) (hr.mono (by decide)) T.bi_Refused .nil pass0 rfl T.x_Refused.gC (pa_cons pe_str pa_nil)))) pss_nil))))
    (pss_cons (ps_if (pt_cmpR op_ge (pe_meth0 (pv 0) T.cl_Bindings T.me_Bindings_count (ok_Bindings_count T) (hr.mono (by decide)) T.b_Bindings_count .nil pass0) (C8.pe_gc rfl T.c__MOST_BINDINGS) (nomark _))
        (pss_one (ps_raise rfl (takes_of rfl rfl rfl rfl) (pmk_oex T.x_Refused.ox T.x_Refused.iC T.x_Refused.tI (ok_init_Refused T) (hr.mono (by decide)) T.bi_Refused .nil pass0 rfl T.x_Refused.gC (pa_cons pe_str pa_nil)))) pss_nil)
    (pss_one (ps_dput (hu_of hr) (pe_dsetd (pe_fld (pv 0) rfl) (pv 1) pe_dnewT ⟨rfl, rfl, rfl, rfl⟩) (pv 2) (pv 3) rfl))), ?_⟩)
  · obtain ⟨E0, ⟨s, a, dx, n, k, c, w, G, rfl, _⟩, _⟩ := h
    rfl
  · obtain ⟨E0, ⟨s, a, dx, n, k, c, w, G, rfl, eG, ⟨d, L, B⟩, ⟨b, ev, hb⟩, hpre, hQ, hE⟩, eE⟩ := h
    subst ev eE
    have hb : G b = some (.tup (k.map V.str)) := hb
    refine seq2 (fun σ H => ∃ o, σ = [some (.ref a), some (.str n), some (.ref b), some (.str c), o] ∧ Grow G He G H ∧ cfl (look s.cm n) k = false) (fun σ H2 ⟨o, es, g, hc⟩ => ?_) (fun rest => ?_)
    · subst es
      have B1 := B.up g.g
      refine q_if g.s (et_test (ev_ge (ev_methR0 rfl (ob_Bindings K A.c_Bindings) (s := s) ⟨d, L, B1⟩ (nm_B (K := K) (m := "count") (by decide) ⟨d, L, B1⟩) trivial) ev_int)) ?_ ?_
      · intro h40 G3 H3 g3
        refine err_made (K := K) g3.s ev_str (v := V.str ("too many bindings" : Str)) (fun _ _ z => z) ⟨_, rfl⟩ ?_
        have hM : m_bind s n k c = .error "too many bindings" := by
          unfold m_bind
          rw [hc, show decide (40 ≤ m_count s) = true from h40]
          rfl
        exact fun dd H4 sm ts q e => .inl (hE _ hM dd H4 ((g.trans g3).h.trans sm) ts ((g.trans g3).h.free q) e)
      · intro h40 G3 H3 g3
        have g := g.trans g3
        have B1 := B.up g.g
        have hb1 := g.g _ _ hb
        have hM : m_bind s n k c = .ok ((), ⟨bindL s.cm n k c⟩) := by
          unfold m_bind
          rw [hc, show decide (40 ≤ m_count s) = false from h40]
          rfl
        have hcnt : m_count s < 40 := by
          have := of_decide_eq_false (show decide (40 ≤ m_count s) = false from h40)
          omega
        have hlen : (look s.cm n).length < 40 := by
          have := look_count (cm := s.cm) (n := n)
          unfold m_count at hcnt
          omega
        have hno := cfl_none hc
        have ok2 : InnOk (look s.cm n ++ [(k, c)]) := by
          have o1 := look_ok B n
          refine ⟨fun p hp => ?_, ?_, by rw [List.length_append]; show _ + 1 ≤ 1000; omega⟩
          · rcases List.mem_append.mp hp with z | z
            · exact o1.k p z
            · rw [List.mem_singleton.mp z]
              exact ⟨hpre.ky, hpre.sh⟩
          · rw [List.map_append]
            refine List.nodup_append.mpr ⟨o1.d, by simp, fun x hx y hy z => ?_⟩
            obtain ⟨p, hp, e⟩ := List.mem_map.mp hx
            have hy2 : y = k := by simpa using hy
            exact List.find?_eq_none.mp hno p hp (decide_eq_true (by rw [e, z, hy2]))
        have hd := g.s _ _ B1.m
        refine s_next ?_
        refine ⟨_, rfl, _, rfl, a, A.c_Bindings, dx, _, _, rfl, g.s _ _ B1.i, T.cl_Bindings, T.na_Bindings__commands, rfl, d, rfl, .inl ⟨_, .inl hd⟩, _, rfl, fun p hp => ?_⟩
        have npd : d ≠ p := ne_of_none hd hp
        have hd3 : upd H3 p (.dT []) d = some (.dK (kvD L)) := by rw [upd_ne npd]; exact hd
        refine ⟨kvD L, Sum.inr n, hd3, rfl, by unfold kvD; rw [List.length_map]; have := B.z; show _ < 16777216; omega, fun v hv => ?_, fun hv => ?_⟩
        · rw [kv_look] at hv
          obtain ⟨t, ql, et⟩ := Option.map_eq_some_iff.mp hv
          subst et
          have hl : look s.cm n = t.2.2 := by rw [B.cm, look_L, ql]; rfl
          have ht := List.mem_of_find?_eq_some ql
          have e0 := List.find?_some ql
          have en : t.1 = n := of_decide_eq_true e0
          have gl := g.loose (o := .dT []) hp
          have he := (B1.e t ht).1
          have hb3 : upd H3 p (.dT []) b = some (.tup ((k.map Sum.inr : List Key).map kV)) := by rw [kv_tup]; exact gl.s _ _ hb1
          refine ⟨_, rfl, t.2.1, _, rfl, DPut.t (k := k.map Sum.inr) (gl.s _ _ he) hb3 (by unfold ents; rw [List.length_map, ← hl]; show _ < 16777216; omega), ?_⟩
          have ep : putK (ents t.2.2) (k.map Sum.inr : List Key) (V.str c) = ents (look s.cm n ++ [(k, c)]) := by
            rw [putK_new _ (by rw [val_ents, ← hl, hno]; rfl), hl]
            unfold ents
            rw [List.map_append]
            rfl
          rw [ep]
          have gm := (wr_own (o' := .dT (ents (look s.cm n ++ [(k, c)]))) gl.s he (fun z => z) (fun q z => by cases z)).toF
          refine hQ _ hM _ _ _ (fun c => c = t.2.1) (fun c z => ⟨.dT (ents t.2.2), by rw [show c = t.2.1 from z]; exact (B.e t ht).1, fun y => y⟩) ((gl.toF (F := fun c => c = t.2.1)).next gm fun c z => .inl z) ⟨d, updL L t.1 (look s.cm n ++ [(k, c)]), ?_⟩ rfl
          have : bindL s.cm n k c = upds s.cm t.1 (look s.cm n ++ [(k, c)]) := by
            unfold bindL
            rw [en, if_pos]
            rw [B.cm, List.any_map]
            exact List.any_eq_true.mpr ⟨t, ht, e0⟩
          show AtB _ ⟨bindL s.cm n k c⟩ _ _ _ _ _
          rw [this]
          exact B1.put ht ok2
        · have hv2 := hv
          rw [kv_look] at hv2
          have ql := Option.map_eq_none_iff.mp hv2
          have hl : look s.cm n = [] := by rw [B.cm, look_L, ql]; rfl
          rw [putK_new _ hv]
          have ek : kvD L ++ [((Sum.inr n : Key), V.ref p)] = kvD (L ++ [(n, p, [(k, c)])]) := by
            unfold kvD
            rw [List.map_append]
            rfl
          rw [ek]
          have g1 := Grow.new (o := .dT []) g.s hp
          have gp : G3 p = none := g.s.free hp
          have m1 := wr_own (o' := .dK (kvD (L ++ [(n, p, [(k, c)])]))) g1.s (g1.g _ _ B1.m) (fun z => z) (fun q z => by cases z)
          have hp1 : upd (upd G3 p (.dT [])) d (.dK (kvD (L ++ [(n, p, [(k, c)])]))) p = some (.dT []) := by rw [upd_ne (Ne.symm npd), upd_same]
          have m2 := wr_own (o' := .dT (ents [(k, c)])) m1.s hp1 (fun z => z) (fun q z => by cases z)
          have hbd : b ≠ d := ne_of hb1 B1.m (by intro z; cases z)
          have hb3 : upd (upd H3 p (.dT [])) d (.dK (kvD (L ++ [(n, p, [(k, c)])]))) b = some (.tup ((k.map Sum.inr : List Key).map kV)) := by rw [kv_tup, upd_ne hbd]; exact g1.s _ _ (g1.g _ _ hb1)
          refine ⟨_, rfl, p, _, rfl, DPut.t (k := k.map Sum.inr) (kvs := []) (m1.s _ _ hp1) hb3 (by decide), ?_⟩
          have ep : putK ([] : List (List Key × V)) (k.map Sum.inr : List Key) (V.str c) = ents [(k, c)] := putK_new _ rfl
          rw [ep]
          refine hQ _ hM _ _ _ (fun c => c = d) (fun c z => ⟨.dK (kvD L), by rw [show c = d from z]; exact B.m, fun y => y⟩)
            (((g.trans g1).toF (F := fun c => c = d)).next m1.toF (fun c z => .inl z) |>.next m2.toF fun c z => .inr (by rw [show c = p from z]; exact ⟨un g.g g.s |>.free hp, g.h.free hp⟩)) ⟨d, L ++ [(n, p, [(k, c)])], ?_⟩ rfl
          have hL : bindL s.cm n k c = s.cm ++ [(n, [(k, c)])] := by
            unfold bindL
            rw [if_neg]
            rw [B.cm, List.any_map]
            intro z
            obtain ⟨t, ht, e⟩ := List.any_eq_true.mp z
            exact List.find?_eq_none.mp ql t ht e
          show AtB _ ⟨bindL s.cm n k c⟩ _ _ _ _ _
          rw [hL]
          have far : ∀ {q : Addr} {o : HO}, G3 q = some o → q ≠ d → upd (upd (upd G3 p (.dT [])) d (.dK (kvD (L ++ [(n, p, [(k, c)])])))) p (.dT (ents [(k, c)])) q = some o := fun {q o} h ne => by
            have n2 : q ≠ p := fun z => by rw [z, gp] at h; cases h
            rw [upd_ne n2, upd_ne ne, upd_ne n2]
            exact h
          refine ⟨?_, far B1.i (ne_of B1.i B1.m (by intro z; cases z)), far B1.x (ne_of B1.x B1.m (by intro z; cases z)), by rw [upd_ne npd, upd_same], ?_, ?_, fun t ht => ?_, by rw [List.length_append]; have z := hpre.z; rw [B.cm, List.length_map] at z; show _ + 1 ≤ 1000; omega⟩
          · show s.cm ++ _ = _
            rw [B.cm, List.map_append]
            rfl
          · rw [List.map_append]
            refine List.nodup_append.mpr ⟨B.n1, by simp, fun x hx y hy z => ?_⟩
            obtain ⟨t, ht, e⟩ := List.mem_map.mp hx
            have hy2 : y = n := by simpa using hy
            exact List.find?_eq_none.mp ql t ht (decide_eq_true (by rw [e, z, hy2]))
          · rw [List.map_append]
            refine List.nodup_append.mpr ⟨B.n2, by simp, fun x hx y hy z => ?_⟩
            obtain ⟨t, ht, e⟩ := List.mem_map.mp hx
            have hy2 : y = p := by simpa using hy
            have h1 := (B1.e t ht).1
            rw [e, z, hy2, gp] at h1
            cases h1
          · rcases List.mem_append.mp ht with z | z
            · have h1 := B1.e t z
              exact ⟨far h1.1 (ne_of h1.1 B1.m (by intro z; cases z)), h1.2⟩
            · rw [List.mem_singleton.mp z]
              refine ⟨upd_same, ?_⟩
              rw [hl] at ok2
              exact ok2
    · have hd := eG _ _ B.m
      cases ql : L.find? fun t => decide (t.1 = n) with
      | none =>
        refine .inr ⟨_, rfl, a, A.c_Bindings, dx, _, _, rfl, eG _ _ B.i, T.cl_Bindings, T.na_Bindings__commands, rfl, d, rfl, .inl ⟨_, .inl hd⟩, _, rfl, fun p od hp => ⟨_, DGet.k (k := Sum.inr n) (by rw [upd_ne (ne_of_none hd hp)]; exact hd), ?_⟩⟩
        rw [kv_look, ql]
        refine ⟨p, od, rfl, .inr ⟨[], upd_same, for_it walk_keysT (fun i σ H => σ = [some (.ref a), some (.str n), some (.ref b), some (.str c), none] ∧ H = upd He p (.frz od (.dT []))) ⟨rfl, rfl⟩ (fun i σ H _ z => by rw [z.2, upd_same]) (fun i x σ H H' hi _ _ => absurd hi (Nat.not_lt_zero _)) fun σ H z => ?_⟩⟩
        obtain ⟨e1, e2⟩ := z
        subst e1 e2
        refine rest _ _ ⟨_, rfl, (Grow.refl eG).loose hp, ?_⟩
        rw [B.cm, look_L, ql]
        rfl
      | some t =>
        have hl : look s.cm n = t.2.2 := by rw [B.cm, look_L, ql]; rfl
        have ht := List.mem_of_find?_eq_some ql
        have he := eG _ _ (B.e t ht).1
        have ok := look_ok B n
        obtain ⟨l, el⟩ : ∃ l, l = look s.cm n := ⟨_, rfl⟩
        rw [← hl, ← el] at he
        rw [← el] at ok
        obtain ⟨e, ee⟩ : ∃ e, e = t.2.1 := ⟨_, rfl⟩
        rw [← ee] at he
        refine .inl ⟨e, _, he, trivial, fun od => ?_⟩
        have ndT : ¬ dataO (.dT (ents l)) := fun z => z
        have ntT : noTb (.dT (ents l)) := fun q z => by cases z
        obtain ⟨Hf, eHf⟩ : ∃ Hf, Hf = upd He e (.frz od (.dT (ents l))) := ⟨_, rfl⟩
        have s0 : Sub (dpart G) Hf := by rw [eHf]; exact lock_sub eG he ndT ntT
        have hef : Hf e = some (.frz od (.dT (ents l))) := by rw [eHf, upd_same]
        have oth : ∀ {q : Addr} {o : HO}, He q = some o → q ≠ e → Hf q = some o := fun h ne => by
          rw [eHf, upd_ne ne]
          exact h
        have hdf : Hf d = some (.dK (kvD L)) := oth hd (ne_of hd he (by intro z; cases z))
        have haf := oth (eG _ _ B.i) (ne_of (eG _ _ B.i) he (by intro z; cases z))
        rw [← eHf]
        refine ⟨_, rfl, a, A.c_Bindings, dx, _, _, rfl, haf, T.cl_Bindings, T.na_Bindings__commands, rfl, d, rfl, .inl ⟨_, .inl hdf⟩, _, rfl, fun p od2 hp => ⟨_, DGet.k (k := Sum.inr n) (by rw [upd_ne (ne_of_none hdf hp)]; exact hdf), ?_⟩⟩
        rw [kv_look, ql]
        have g0 : Grow (dpart G) Hf (dpart G) (upd Hf p (.frz od2 (.dT []))) := (Grow.refl s0).loose hp
        refine ⟨e, od, by rw [ee]; rfl, .inr ⟨ents l, g0.h.k _ _ hef noTb_frz, for_it walk_keysT (fun i σ H => ∃ o, σ = [some (.ref a), some (.str n), some (.ref b), some (.str c), o] ∧ Grow (dpart G) Hf (dpart G) H ∧ cfl (l.take i) k = false)
          ⟨none, rfl, g0, rfl⟩ (fun i σ H _ ⟨o, _, g, _⟩ => g.h.k _ _ hef noTb_frz) (fun i x σ H H' hi ⟨o, es, g, hc⟩ ⟨e3, kk, v, q, hkv, ex, hq⟩ => ?_) fun σ H ⟨o, es, g, hc⟩ => ?_⟩⟩
        · subst es e3 ex
          have hln : (ents l).length = l.length := by unfold ents; rw [List.length_map]
          rw [hln] at hi
          have hkv2 : (ents l)[i]? = some (l[i].1.map Sum.inr, V.str l[i].2) := by
            unfold ents
            rw [List.getElem?_map, List.getElem?_eq_getElem hi]
            rfl
          rw [hkv2] at hkv
          cases hkv
          have hm := List.getElem_mem hi
          rw [kv_tup] at hq
          have hbd := dpart_of hb trivial
          have okp := (ok.k _ hm).1
          obtain ⟨w1, sm1⟩ := sub_with g.s hq
          have errp : ∀ {H5 : Hp}, Grow (dpart G) Hf (dpart G) H5 → cfl l k = true → ErrAt A.x_Refused "what" (.str "conflicting key sequence") H5 (unE He E0) := fun {H5} g5 hc5 dd H6 k6 t6 n6 e6 => by
            have hM : m_bind s n k c = .error "conflicting key sequence" := by
              unfold m_bind
              rw [← el, hc5]
              rfl
            have kx := g5.h.trans k6
            have he6 := kx.k _ _ hef noTb_frz
            have nde : dd ≠ e := fun z => by
              have := g5.h.k _ _ hef noTb_frz
              rw [← z, n6] at this
              cases this
            refine .inr ⟨e, od, _, he6, (fun o2 u2 z => by rw [he] at z; cases z), (fun xs z => by cases z), (fun b z => by cases z), ?_⟩
            rw [eHf] at kx
            refine hE _ hM dd _ (kept_unlock he kx) (fun P hP => tab_mut (t6 P hP) fun q z => by rw [he6] at z; cases z) ?_ (by rw [upd_ne nde]; exact e6)
            have z := g5.h.free n6
            rw [eHf, upd_ne nde] at z
            exact z
          refine ⟨_, rfl, _, rfl, ⟨l[i].1⟩, ⟨k⟩, _, _, _, rfl, w1, ⟨q, _, rfl, SqT.of upd_same, reps_of_flat _⟩, ⟨b, _, rfl, SqT.of (sm1 _ _ hbd), reps_of_flat _⟩, ⟨okp.t, hpre.ky.t⟩, fun u G5 H5 g5 hu => ⟨_, hu, ?_⟩⟩
          have g1 : Grow (dpart G) Hf (dpart G) H5 := ⟨g.g, g.s.keep g5.h g5.s.t, g.h.trans g5.h, g.f⟩
          have tst : ∀ {x y : Bool}, m_is_prefix ⟨l[i].1⟩ ⟨k⟩ = x → m_is_prefix ⟨k⟩ ⟨l[i].1⟩ = y → cfl (l.take (i + 1)) k = (x || y) := fun {x y} h1 h2 => by
            rw [take_snoc (List.getElem?_eq_getElem hi)]
            unfold cfl at hc ⊢
            rw [List.any_append, hc, Bool.false_or, List.any_cons, List.any_nil, Bool.or_false, h1, h2]
          have all : ∀ {x : Bool}, (m_is_prefix ⟨l[i].1⟩ ⟨k⟩ || m_is_prefix ⟨k⟩ ⟨l[i].1⟩) = true → cfl l k = true := fun h => List.any_eq_true.mpr ⟨_, hm, h⟩
          cases c1 : m_is_prefix ⟨l[i].1⟩ ⟨k⟩ with
          | true =>
            refine iteT (iteT ?_)
            refine err_made (K := K) g1.s ev_str (v := V.str ("conflicting key sequence" : Str)) (fun _ _ z => z) ⟨_, rfl⟩ (errp g1 (all (x := true) (by rw [c1]; rfl)))
          | false =>
            refine iteF ?_
            have hq5 := g5.h.k _ _ hq noTb_tup
            obtain ⟨w2, sm2⟩ := sub_with g1.s hq5
            refine ⟨_, rfl, _, rfl, ⟨k⟩, ⟨l[i].1⟩, _, _, _, rfl, w2, ⟨b, _, rfl, SqT.of (sm2 _ _ hbd), reps_of_flat _⟩, ⟨q, _, rfl, SqT.of upd_same, reps_of_flat _⟩, ⟨hpre.ky.t, okp.t⟩, fun u G6 H6 g6 hu => ⟨_, hu, ?_⟩⟩
            have g2 : Grow (dpart G) Hf (dpart G) H6 := ⟨g1.g, g1.s.keep g6.h g6.s.t, g1.h.trans g6.h, g1.f⟩
            cases c2 : m_is_prefix ⟨k⟩ ⟨l[i].1⟩ with
            | true =>
              refine iteT ?_
              refine err_made (K := K) g2.s ev_str (v := V.str ("conflicting key sequence" : Str)) (fun _ _ z => z) ⟨_, rfl⟩ (errp g2 (all (x := true) (by rw [c1, c2]; rfl)))
            | false =>
              refine iteF ?_
              exact ⟨_, rfl, g2, tst c1 c2⟩
        · subst es
          have hln : (ents l).length = l.length := by unfold ents; rw [List.length_map]
          rw [hln, List.take_length] at hc
          refine ⟨g.h.k _ _ hef noTb_frz, rest _ _ ⟨o, rfl, ?_, by rw [← el]; exact hc⟩⟩
          rw [eHf] at g
          have g4 := (un_lock (Grow.refl eG) he ndT ntT g).1
          have ej : jn G (dpart G) = G := by
            funext z
            show (match G z with | some o => some o | none => dpart G z) = G z
            cases q : G z with
            | some o => rfl
            | none => exact dpart_none q
          rw [ej] at g4
          exact g4
theorem ok_Bindings_bind (T : Tx K mg base A) : FnOk P w K mg base (L2.CX P w) 4 A.f_Bindings_bind A.d_Bindings_bind ["self", "node", "strokes", "command"] (spB K A.x_Refused (Ob_Bindings K A.c_Bindings)) :=
  fn_unlock (ok_Bindings_bind2 T) fun vs H Q E h => ⟨unE H E, ⟨E, h, rfl⟩, fun cls d H' z => z⟩

/-! #### Bindings_unbind -/

/-! #### Bindings_of -/

/-! #### Bindings_is_bound -/

/-! #### Bindings_drop -/

/-! #### Bindings_match -/

/-! #### Bindings_count -/

/-! #### _law_cell -/
def m__law_cell (d_script : Scr) (d_k : Int) : Int := (cond (decide (d_k < ((d_script).l.length : Int))) (getI (d_script).l d_k) (0 : Int))
abbrev p__law_cell (K : PySem.W.Frag) : Sp := sp2 K (fun _ k => 0 ≤ k) m__law_cell
theorem ok__law_cell (T : Tx K mg base A) : FnOk P w K mg base CX0 1 A.f__law_cell A.d__law_cell ["script", "k"] (p__law_cell K) := by
  refine T.F__law_cell.ok sc__law_cell (fun vs He Q E h => ?_) (fun cdv A0 outer s He vs Q E hr h => ⟨_, (pss_cons (ps_if (pt_cmpR op_lt (pv 1) (pe_callB (call_lenK (K := K)) rfl T.n_len boot_len (pa_cons (pv 0) pa_nil)) (nomark _)) (pss_one (ps_ret (pe_ix (ix_listK (K := K)) (pv 0) (pv 1) fun _ _ => rfl))) pss_nil) (pss_one (ps_ret pe_int))), ?_⟩)
  · obtain ⟨d_script, d_k, w_script, w_k, G, rfl, eG, h_script, h_k, hpre, hQ⟩ := h
    rfl
  · obtain ⟨d_script, d_k, w_script, w_k, G, rfl, eG, h_script, h_k, hpre, hQ⟩ := h
    have gr : Grow G He G He := Grow.refl eG
    obtain ⟨Ge, eGe⟩ : ∃ z, z = G := ⟨G, rfl⟩
    have gr : Grow Ge He G He := by rw [eGe]; exact gr
    rw [← eGe] at hQ
    clear eGe
    have hM : m__law_cell d_script d_k = (cond (decide (d_k < ((d_script).l.length : Int))) (getI (d_script).l d_k) (0 : Int)) := rfl
    refine q_if gr.s (et_test (ev_lt (ev_var rfl h_k) (ev_lenScr (ev_var rfl h_script)))) ?_ ?_
    · intro hb2 G3 H4 g1
      have h_script := up g1.g h_script
      have h_k := up g1.g h_k
      have gr := gr.trans g1
      replace hM := condT hM hb2
      refine s_ret (K := K) gr.s (ev_ixScr (ev_var rfl h_script) (ev_var rfl h_k) (atI_get (by first | (exact at_in hpre (by exact of_decide_eq_true (by assumption))) | (first | decide | (refine at_in ?_ ?_ <;> omega) | (refine at_neg ?_ ?_ <;> omega))))) fun u Gr Hr gq hu => ?_
      exact hQ u Gr Hr (gr.trans gq) (by rw [hM]; exact hu)
    · intro hb2 G5 H6 g1
      have h_script := up g1.g h_script
      have h_k := up g1.g h_k
      have gr := gr.trans g1
      replace hM := condF hM hb2
      refine s_next ?_
      refine nx_mk ?_
      refine s_ret (K := K) gr.s ev_int fun u Gr Hr gq hu => ?_
      exact hQ u Gr Hr (gr.trans gq) (by rw [hM]; exact hu)
/-! #### _law_draws -/
def m__law_draws_1 (d_37 : Int) (d_35 : (List Int)) : ((List Int) × Int) := (d_35, d_37)
def m__law_draws_2 (d_21 : Int) (d_35 : (List Int)) : ((List Int) × Int) := (m__law_draws_1 (d_21 / (1009 : Int)) d_35)
def m__law_draws_3 (d_21 : Int) (d_59 : (List Int)) : ((List Int) × Int) := (d_59, d_21)
def m__law_draws_4 (d_21 : Int) (d_18 : (List Int)) (d_10 : Int) (d_48 : Int) : ((List Int) × Int) := (m__law_draws_3 d_21 (d_18 ++ [((((d_48 * d_48) + (d_21 * (31 : Int))) + d_10) % (1000003 : Int))]))
def m__law_draws_5 (d_21 : Int) (d_18 : (List Int)) (d_10 : Int) : ((List Int) × Int) := (m__law_draws_4 d_21 d_18 d_10 (((d_21 * (48271 : Int)) + (d_10 * (69621 : Int))) % (2147483647 : Int)))
def m__law_draws_6 (d_4 : Bool) (d_21 : Int) (d_18 : (List Int)) (d_10 : Int) : ((List Int) × Int) := (cond d_4 (m__law_draws_2 d_21 (d_18 ++ [(d_21 % (1009 : Int))])) (m__law_draws_5 d_21 d_18 d_10))
def m__law_draws_7 (d_4 : Bool) (s : (List Int) × Int) (d_10 : Int) : ((List Int) × Int) := m__law_draws_6 d_4 (s).2 (s).1 (d_10)
def m__law_draws_8  (s : (List Int) × Int) : (List Int) := (s).1
def m__law_draws_9 (d_cell : Int) (d_count : Int) (d_1 : (List Int)) (d_4 : Bool) : (List Int) := (m__law_draws_8 (List.foldl (m__law_draws_7 d_4) (d_1, d_cell) (rgs 0 d_count)))
def m__law_draws_10 (d_cell : Int) (d_count : Int) (d_1 : (List Int)) : (List Int) := (m__law_draws_9 d_cell d_count d_1 (decide (((10 : Int) ^ ((18 : Int)).toNat) ≤ d_cell)))
def m__law_draws (d_cell : Int) (d_count : Int) : (List Int) := (m__law_draws_10 d_cell d_count ([] : List Int))
abbrev p__law_draws (K : PySem.W.Frag) : Sp := sp2 K (fun _ n => 0 ≤ n ∧ n ≤ 1000) m__law_draws
theorem draws_step (b : Bool) (s : List Int × Int) (k : Int) : ∃ x, 0 ≤ x ∧ (m__law_draws_7 b s k).1 = s.1 ++ [x] := by
  cases b with
  | true => exact ⟨s.2 % 1009, Int.emod_nonneg _ (by decide), rfl⟩
  | false => exact ⟨_, Int.emod_nonneg _ (by decide), rfl⟩
theorem draws_fold (b : Bool) : ∀ (l : List Int) (s : List Int × Int), (List.foldl (m__law_draws_7 b) s l).1.length = s.1.length + l.length
  | [], s => rfl
  | k :: l, s => by
    obtain ⟨x, _, e⟩ := draws_step b s k
    rw [List.foldl_cons, draws_fold b l, e, List.length_append, List.length_cons, List.length_cons, List.length_nil]
    omega
theorem draws_nn (b : Bool) : ∀ (l : List Int) (s : List Int × Int), NN s.1 → NN (List.foldl (m__law_draws_7 b) s l).1
  | [], s, h => h
  | k :: l, s, h => by
    obtain ⟨x, hx, e⟩ := draws_step b s k
    rw [List.foldl_cons]
    refine draws_nn b l _ ?_
    rw [e]
    intro y hy
    rcases List.mem_append.mp hy with q | q
    · exact h y q
    · rw [List.mem_singleton.mp q]; exact hx
theorem draws_len (cell : Int) {n : Int} (h : 0 ≤ n) : (m__law_draws cell n).length = n.toNat := by
  show (List.foldl (m__law_draws_7 _) (([] : List Int), cell) (rgs 0 n)).1.length = _
  rw [draws_fold, rgs_len, List.length_nil]
  omega
theorem draws_pos (cell n : Int) : NN (m__law_draws cell n) := draws_nn _ _ _ (fun _ h => by cases h)

theorem ok__law_draws (T : Tx K mg base A) : FnOk P w K mg base CX0 1 A.f__law_draws A.d__law_draws ["cell", "count"] (p__law_draws K) := by
  refine T.F__law_draws.ok sc__law_draws (fun vs He Q E h => ?_) (fun cdv A0 outer s He vs Q E hr h => ⟨_, (pss_cons (ps_set (i := 2) sc__law_draws.nd rfl (Or.inl rfl) (pe_lst pa_nil)) (pss_cons (ps_set (i := 3) sc__law_draws.nd rfl (Or.inl rfl) (pe_cmpR op_ge (pv 0) (pe_op op_pow pe_int pe_int) (nomark _))) (pss_cons (ps_for PassesOwn.never rfl (pi_range1 rfl T.n_range (pa_cons (pv 1) pa_nil)) (pg_name (i := 4) sc__law_draws.nd rfl (Or.inl rfl)) (pss_one (ps_if (pt_val (pv 3)) (pss_cons (ps_expr (pe_bmK (K := K) PySem.F.plainAttrs_list PySem.F.slot_list_append PySem.F.type_list_append mt_append (pv 2) (pa_cons (pe_op op_mod (pe_callTy call_int1 rfl T.n_int boot_int (pa_cons (pv 0) pa_nil)) pe_int) pa_nil))) (pss_one (ps_set (i := 0) sc__law_draws.nd rfl (Or.inl rfl) (pe_op op_fdiv (pv 0) pe_int)))) (pss_cons (ps_set (i := 5) sc__law_draws.nd rfl (Or.inl rfl) (pe_op op_mod (pe_callTy call_int1 rfl T.n_int boot_int (pa_cons (pe_op op_add (pe_op op_mul (pv 0) pe_int) (pe_op op_mul (pv 4) pe_int)) pa_nil)) pe_int)) (pss_one (ps_expr (pe_bmK (K := K) PySem.F.plainAttrs_list PySem.F.slot_list_append PySem.F.type_list_append mt_append (pv 2) (pa_cons (pe_op op_mod (pe_callTy call_int1 rfl T.n_int boot_int (pa_cons (pe_op op_add (pe_op op_add (pe_op op_mul (pv 5) (pv 5)) (pe_op op_mul (pv 0) pe_int)) (pv 4)) pa_nil)) pe_int) pa_nil)))))))) (pss_one (ps_ret (pv 2)))))), ?_⟩)
  · obtain ⟨d_cell, d_count, w_cell, w_count, G, rfl, eG, h_cell, h_count, hpre, hQ⟩ := h
    rfl
  · obtain ⟨d_cell, d_count, w_cell, w_count, G, rfl, eG, h_cell, h_count, hpre, hQ⟩ := h
    have gr : Grow G He G He := Grow.refl eG
    obtain ⟨Ge, eGe⟩ : ∃ z, z = G := ⟨G, rfl⟩
    have gr : Grow Ge He G He := by rw [eGe]; exact gr
    rw [← eGe] at hQ
    clear eGe
    have hM : m__law_draws d_cell d_count = (m__law_draws_10 d_cell d_count ([] : List Int)) := rfl
    refine q_newF gr fun a3 H65 hF_3 hN_3 np3 hH_3 gr sm3 => ?_
    have h_2 := reps_nil (K := K) (α := Int) gr
    generalize ed_1 : ([] : List Int) = d_1 at h_2 hM
    unfold m__law_draws_10 at hM
    refine q_asg (K := K) gr.s (ev_ge (ev_var rfl h_cell) (ev_pow ev_int ev_int ⟨by decide, by decide, by decide⟩)) fun w_5 G8 H9 g7 (h_6 : rep K (decide (((10 : Int) ^ ((18 : Int)).toNat) ≤ d_cell)) w_5 G8) => ?_
    have h_cell := up g7.g h_cell
    have h_count := up g7.g h_count
    have hN_3 := g7.f _ _ hH_3 hN_3
    have hH_3 := g7.h.l hH_3
    have h_2 := Reps.up g7.g h_2
    have gr := gr.trans g7
    generalize ed_4 : (decide (((10 : Int) ^ ((18 : Int)).toNat) ≤ d_cell)) = d_4 at h_6 hM
    unfold m__law_draws_9 at hM
    refine q_forR1 (K := K) gr.s (ev_var rfl h_count) (by first | (first | exact lt_line (by omega) | exact ⟨by omega, by omega⟩) | (first | (constructor <;> omega) | (decide))) fun G13 H14 g16 => ?_
    have h_cell := up g16.g h_cell
    have h_count := up g16.g h_count
    have hN_3 := g16.f _ _ hH_3 hN_3
    have hH_3 := g16.h.l hH_3
    have h_2 := Reps.up g16.g h_2
    have h_6 := up g16.g h_6
    have gr := gr.trans g16
    refine ⟨fun i_ σ_ H_ => ∃ (G64 : Hp) (w_22 : V) (o_24 : Option V) (o_25 : Option V), Grow Ge He G64 H_ ∧ Same G13 G64 ∧ σ_ = [some w_22, some w_count, some (V.ref a3), some w_5, o_25, o_24] ∧ (∃ zs, Reps K (((List.foldl (m__law_draws_7 d_4) (d_1, d_cell) (List.take i_ (rgs 0 d_count)))).1 : (List Int)) zs G64 ∧ H_ a3 = some (.lst zs) ∧ G64 a3 = none) ∧ rep K (((List.foldl (m__law_draws_7 d_4) (d_1, d_cell) (List.take i_ (rgs 0 d_count)))).2 : Int) w_22 G64, ⟨_, w_cell, _, _, gr, Same.refl _, rfl, ⟨_, h_2, hH_3, hN_3⟩, h_cell⟩, ?_, ?_⟩
    · rintro i_0 σ_0 H_0 hlt_0 ⟨G64, w_22, o_24, o_25, gr, sg0, rfl, ⟨zs_3, h_20, hH_3, hN_3⟩, h_23⟩
      obtain ⟨d_10, hx0_0, hx0, lo_0, hi_0⟩ := rgs_at0 hlt_0
      rw [hx0_0]
      have h_12 : rep K d_10 (V.int d_10) G64 := rfl
      generalize ew_11 : V.int d_10 = w_11 at h_12
      have h_count := up sg0 h_count
      have h_6 := up sg0 h_6
      have hMo0 := hM
      clear hM
      have hM : (List.foldl (m__law_draws_7 d_4) (d_1, d_cell) (List.take (i_0 + 1) (rgs 0 d_count))) = (m__law_draws_7 d_4) (List.foldl (m__law_draws_7 d_4) (d_1, d_cell) (List.take i_0 (rgs 0 d_count))) d_10 := by rw [take_snoc hx0, List.foldl_append]; rfl
      have fl_0 := draws_fold d_4 (List.take i_0 (rgs 0 d_count)) (d_1, d_cell)
      rw [List.length_take, rgs_len] at fl_0
      have fz : d_1.length = 0 := by rw [← ed_1]; rfl
      generalize (List.foldl (m__law_draws_7 d_4) (d_1, d_cell) (List.take i_0 (rgs 0 d_count))) = st_0 at h_20 h_23 fl_0 hM
      obtain ⟨d_18, d_21⟩ := st_0
      dsimp only at h_20 h_23 fl_0
      conv at hM => rhs; unfold m__law_draws_7; unfold m__law_draws_6
      dsimp only at hM
      refine s_if gr.s (et_B (ev_var rfl h_6)) ?_ ?_
      · intro hb27 G28 H29 g26
        have h_23 := up g26.g h_23
        have h_count := up g26.g h_count
        have hN_3 := g26.f _ _ hH_3 hN_3
        have hH_3 := g26.h.l hH_3
        have h_20 := Reps.up g26.g h_20
        have h_6 := up g26.g h_6
        have h_12 := up g26.g h_12
        have sg0 := sg0.trans g26.g
        have gr := gr.trans g26
        replace hM := condT hM hb27
        refine q_appF (K := K) gr hF_3 hN_3 rfl hH_3 h_20 (by first | (first | exact lt_line (by omega) | exact ⟨by omega, by omega⟩) | (fail)) (ev_mod (ev_int1 (ev_var rfl h_23)) ev_int (by first | (first | exact lt_line (by omega) | exact ⟨by omega, by omega⟩) | (first | omega | decide | (show _ ≤ sizeLine; decide) | (show _ < sizeLine; decide)))) fun G31 H32 H45 zs43 g30 gr2 hN2 hH2 h_36 bt44 => ?_
        have h_23 := up g30.g h_23
        have h_count := up g30.g h_count
        have hN_3 := g30.f _ _ hH_3 hN_3
        have hH_3 := g30.h.l hH_3
        have h_20 := Reps.up g30.g h_20
        have h_6 := up g30.g h_6
        have h_12 := up g30.g h_12
        have sg0 := sg0.trans g30.g
        have gr := gr2
        have hN_3 := hN2
        have hH_3 := hH2
        generalize ed_35 : (d_18 ++ [(d_21 % (1009 : Int))]) = d_35 at h_36 hM
        unfold m__law_draws_2 at hM
        refine s_asg (K := K) gr.s (ev_fdiv (ev_var rfl h_23) ev_int ⟨(by first | (first | exact lt_line (by omega) | exact ⟨by omega, by omega⟩) | (first | omega | decide | (show _ ≤ sizeLine; decide) | (show _ < sizeLine; decide))), (by first | (first | exact lt_line (by omega) | exact ⟨by omega, by omega⟩) | (first | omega | decide | (show _ ≤ sizeLine; decide) | (show _ < sizeLine; decide)))⟩) fun w_38 G41 H42 g40 (h_39 : rep K (d_21 / (1009 : Int)) w_38 G41) => ?_
        have h_count := up g40.g h_count
        have hN_3 := g40.f _ _ hH_3 hN_3
        have hH_3 := g40.h.l hH_3
        have h_36 := Reps.up g40.g h_36
        have h_6 := up g40.g h_6
        have h_12 := up g40.g h_12
        have sg0 := sg0.trans g40.g
        have gr := gr.trans g40
        generalize ed_37 : (d_21 / (1009 : Int)) = d_37 at h_39 hM
        unfold m__law_draws_1 at hM
        exact ⟨_, w_38, _, _, gr, sg0, rfl, ⟨_, (by rw [hM]; exact h_36), hH_3, hN_3⟩, (by rw [hM]; exact h_39)⟩
      · intro hb27 G46 H47 g26
        have h_23 := up g26.g h_23
        have h_count := up g26.g h_count
        have hN_3 := g26.f _ _ hH_3 hN_3
        have hH_3 := g26.h.l hH_3
        have h_20 := Reps.up g26.g h_20
        have h_6 := up g26.g h_6
        have h_12 := up g26.g h_12
        have sg0 := sg0.trans g26.g
        have gr := gr.trans g26
        replace hM := condF hM hb27
        unfold m__law_draws_5 at hM
        refine q_asg (K := K) gr.s (ev_mod (ev_int1 (ev_add (ev_mul (ev_var rfl h_23) ev_int (by first | (first | exact lt_line (by omega) | exact ⟨by omega, by omega⟩) | (first | exact Or.inl ⟨by omega, by omega⟩ | exact Or.inr ⟨by omega, by omega⟩ | (exact Or.inr (by constructor <;> decide))))) (ev_mul (ev_var rfl h_12) ev_int (by first | (first | exact lt_line (by omega) | exact ⟨by omega, by omega⟩) | (first | exact Or.inl ⟨by omega, by omega⟩ | exact Or.inr ⟨by omega, by omega⟩ | (exact Or.inr (by constructor <;> decide))))))) ev_int (by first | (first | exact lt_line (by omega) | exact ⟨by omega, by omega⟩) | (first | omega | decide | (show _ ≤ sizeLine; decide) | (show _ < sizeLine; decide)))) fun w_49 G52 H53 g51 (h_50 : rep K (((d_21 * (48271 : Int)) + (d_10 * (69621 : Int))) % (2147483647 : Int)) w_49 G52) => ?_
        have h_23 := up g51.g h_23
        have h_count := up g51.g h_count
        have hN_3 := g51.f _ _ hH_3 hN_3
        have hH_3 := g51.h.l hH_3
        have h_20 := Reps.up g51.g h_20
        have h_6 := up g51.g h_6
        have h_12 := up g51.g h_12
        have sg0 := sg0.trans g51.g
        have gr := gr.trans g51
        generalize ed_48 : (((d_21 * (48271 : Int)) + (d_10 * (69621 : Int))) % (2147483647 : Int)) = d_48 at h_50 hM
        unfold m__law_draws_4 at hM
        refine s_appF (K := K) gr hF_3 hN_3 rfl hH_3 h_20 (by first | (first | exact lt_line (by omega) | exact ⟨by omega, by omega⟩) | (fail)) (ev_mod (ev_int1 (ev_add (ev_add (ev_mul (ev_var rfl h_50) (ev_var rfl h_50) (by first | (first | exact lt_line (by omega) | exact ⟨by omega, by omega⟩) | (first | exact Or.inl ⟨by omega, by omega⟩ | exact Or.inr ⟨by omega, by omega⟩ | (exact Or.inr (by constructor <;> decide))))) (ev_mul (ev_var rfl h_23) ev_int (by first | (first | exact lt_line (by omega) | exact ⟨by omega, by omega⟩) | (first | exact Or.inl ⟨by omega, by omega⟩ | exact Or.inr ⟨by omega, by omega⟩ | (exact Or.inr (by constructor <;> decide)))))) (ev_var rfl h_12))) ev_int (by first | (first | exact lt_line (by omega) | exact ⟨by omega, by omega⟩) | (first | omega | decide | (show _ ≤ sizeLine; decide) | (show _ < sizeLine; decide)))) fun G55 H56 H63 zs61 g54 gr2 hN2 hH2 h_60 bt62 => ?_
        have h_23 := up g54.g h_23
        have h_count := up g54.g h_count
        have hN_3 := g54.f _ _ hH_3 hN_3
        have hH_3 := g54.h.l hH_3
        have h_20 := Reps.up g54.g h_20
        have h_6 := up g54.g h_6
        have h_12 := up g54.g h_12
        have h_50 := up g54.g h_50
        have sg0 := sg0.trans g54.g
        have gr := gr2
        have hN_3 := hN2
        have hH_3 := hH2
        generalize ed_59 : (d_18 ++ [((((d_48 * d_48) + (d_21 * (31 : Int))) + d_10) % (1000003 : Int))]) = d_59 at h_60 hM
        unfold m__law_draws_3 at hM
        exact ⟨_, w_22, _, _, gr, sg0, rfl, ⟨_, (by rw [hM]; exact h_60), hH_3, hN_3⟩, (by rw [hM]; exact h_23)⟩
    · rintro σ_0 H_0 ⟨G64, w_22, o_24, o_25, gr, sg0, rfl, ⟨zs_3, h_20, hH_3, hN_3⟩, h_23⟩
      have h_count := up sg0 h_count
      have h_6 := up sg0 h_6
      rw [rgs_take0] at h_20
      rw [rgs_take0] at h_23
      generalize est_0 : (List.foldl (m__law_draws_7 d_4) (d_1, d_cell) (rgs 0 d_count)) = st_0 at h_20 h_23 hM
      obtain ⟨d_18, d_21⟩ := st_0
      dsimp only at h_20 h_23
      unfold m__law_draws_8 at hM
      try dsimp only at hM
      refine s_ret (K := K) (gr.fix hF_3 hN_3 hH_3).s (ev_var rfl (fix_rep h_20 hN_3)) fun u Gr Hr gq hu => ?_
      exact hQ u Gr Hr ((gr.fix hF_3 hN_3 hH_3).trans gq) (by rw [hM]; exact hu)
/-! #### _law_strokes -/
def m__law_strokes_1 (d_draws : (List Int)) (d_at : Int) (d_1 : (List Str)) : Ky := (Ky.mk (List.map (fun d_7 => (getI d_1 ((getI d_draws (d_at + d_7)) % (6 : Int)))) (rgs 0 ((1 : Int) + ((getI d_draws (d_at + (3 : Int))) % (3 : Int))))))
def m__law_strokes (d_draws : (List Int)) (d_at : Int) : Ky := (m__law_strokes_1 d_draws d_at (("Ctrl+K" : Str) :: (("O" : Str) :: (("Tab" : Str) :: (("F5" : Str) :: (("Ctrl+S" : Str) :: (("Right" : Str) :: ([] : List Str))))))))
abbrev p__law_strokes (K : PySem.W.Frag) : Sp := sp2 K (fun d i => d.length = 10 ∧ 0 ≤ i ∧ i ≤ 6) m__law_strokes
theorem ok__law_strokes (T : Tx K mg base A) : FnOk P w K mg base CX0 1 A.f__law_strokes A.d__law_strokes ["draws", "at"] (p__law_strokes K) := by
  refine T.F__law_strokes.ok sc__law_strokes (fun vs He Q E h => ?_) (fun cdv A0 outer s He vs Q E hr h => ⟨_, (pss_cons (ps_set (i := 2) sc__law_strokes.nd rfl (Or.inr rfl) (pe_lst (pa_cons pe_str (pa_cons pe_str (pa_cons pe_str (pa_cons pe_str (pa_cons pe_str (pa_cons pe_str pa_nil)))))))) (pss_one (ps_ret (pe_callTy (call_tupleK (K := K)) rfl T.n_tuple boot_tuple (pa_cons (pe_lc (own := [("k", 3)]) (g := gName 3) (tt := tYes) rfl sc__law_strokes.nd (pi_range1 rfl T.n_range (pa_cons (pe_op op_add pe_int (pe_op op_mod (pe_callTy call_int1 rfl T.n_int boot_int (pa_cons (pe_ix (ix_listK (K := K)) (pv 0) (pe_op op_add (pv 1) pe_int) fun _ _ => rfl) pa_nil)) pe_int)) pa_nil)) (blkOk_by (N := n__law_strokes) (sc := defScope s__law_strokes) (by decide +kernel)) (fun _ _ _ _ _ => pg_name (i := 3) sc__law_strokes.nd rfl (Or.inl rfl)) (fun _ _ _ _ _ => pts_nil) (fun _ _ _ _ _ => (pe_ix (ix_listK (K := K)) (pv 2) (pe_op op_mod (pe_callTy call_int1 rfl T.n_int boot_int (pa_cons (pe_ix (ix_listK (K := K)) (pv 0) (pe_op op_add (pv 1) (pv 3)) fun _ _ => rfl) pa_nil)) pe_int) fun _ _ => rfl))) pa_nil))))), ?_⟩)
  · obtain ⟨d_draws, d_at, w_draws, w_at, G, rfl, eG, h_draws, h_at, hpre, hQ⟩ := h
    rfl
  · obtain ⟨d_draws, d_at, w_draws, w_at, G, rfl, eG, h_draws, h_at, hpre, hQ⟩ := h
    have gr : Grow G He G He := Grow.refl eG
    obtain ⟨Ge, eGe⟩ : ∃ z, z = G := ⟨G, rfl⟩
    have gr : Grow Ge He G He := by rw [eGe]; exact gr
    rw [← eGe] at hQ
    clear eGe
    have hM : m__law_strokes d_draws d_at = (m__law_strokes_1 d_draws d_at (("Ctrl+K" : Str) :: (("O" : Str) :: (("Tab" : Str) :: (("F5" : Str) :: (("Ctrl+S" : Str) :: (("Right" : Str) :: ([] : List Str)))))))) := rfl
    refine q_asg (K := K) gr.s (ev_lst (ea_cons ev_str (ea_cons ev_str (ea_cons ev_str (ea_cons ev_str (ea_cons ev_str (ea_cons ev_str ea_nil)))))) (by first | (exact at_in (Int.emod_nonneg _ (by decide)) (by rw [fd]; exact Int.emod_lt_of_pos _ (by decide))) | (first | (show _ ≤ sizeLine; decide) | (simp only [List.length_cons, List.length_nil, List.length_append, sizeLine_eq]; omega) | (fail)))) fun w_2 G5 H6 g4 (h_3 : rep K (("Ctrl+K" : Str) :: (("O" : Str) :: (("Tab" : Str) :: (("F5" : Str) :: (("Ctrl+S" : Str) :: (("Right" : Str) :: ([] : List Str))))))) w_2 G5) => ?_
    have h_draws := up g4.g h_draws
    have h_at := up g4.g h_at
    have gr := gr.trans g4
    generalize ed_1 : (("Ctrl+K" : Str) :: (("O" : Str) :: (("Tab" : Str) :: (("F5" : Str) :: (("Ctrl+S" : Str) :: (("Right" : Str) :: ([] : List Str))))))) = d_1 at h_3 hM
    unfold m__law_strokes_1 at hM
    have fd : d_1.length = 6 := by rw [← ed_1]; rfl
    refine s_ret (K := K) gr.s (ev_tupleKy (ev_lcR1m (fun d_7 => (getI d_1 ((getI d_draws (d_at + d_7)) % (6 : Int)))) (ev_add ev_int (ev_mod (ev_int1 (ev_ixL (ev_var rfl h_draws) (ev_add (ev_var rfl h_at) ev_int) (atI_get (by first | (exact at_in (Int.emod_nonneg _ (by decide)) (by rw [fd]; exact Int.emod_lt_of_pos _ (by decide))) | (first | decide | (refine at_in ?_ ?_ <;> omega) | (refine at_neg ?_ ?_ <;> omega)))))) ev_int (by first | (exact at_in (Int.emod_nonneg _ (by decide)) (by rw [fd]; exact Int.emod_lt_of_pos _ (by decide))) | (first | omega | decide | (show _ ≤ sizeLine; decide) | (show _ < sizeLine; decide))))) (by first | (exact at_in (Int.emod_nonneg _ (by decide)) (by rw [fd]; exact Int.emod_lt_of_pos _ (by decide))) | (first | omega | decide | (show _ ≤ sizeLine; decide) | (show _ < sizeLine; decide))) (fun d_7 G_ H_ lo13 hi14 sg10 sh_ P k => by have h_draws := up sg10 h_draws; have h_at := up sg10 h_at; have h_3 := up sg10 h_3; have h_9 : rep K d_7 (V.int d_7) G_ := rfl; exact k _ rfl eb_yes (fun hc11 => (ev_ixL (ev_var rfl h_3) (ev_mod (ev_int1 (ev_ixL (ev_var rfl h_draws) (ev_add (ev_var rfl h_at) (ev_var rfl h_9)) (atI_get (by first | (exact at_in (Int.emod_nonneg _ (by decide)) (by rw [fd]; exact Int.emod_lt_of_pos _ (by decide))) | (first | decide | (refine at_in ?_ ?_ <;> omega) | (refine at_neg ?_ ?_ <;> omega)))))) ev_int (by first | (exact at_in (Int.emod_nonneg _ (by decide)) (by rw [fd]; exact Int.emod_lt_of_pos _ (by decide))) | (first | omega | decide | (show _ ≤ sizeLine; decide) | (show _ < sizeLine; decide)))) (atI_get (by first | (exact at_in (Int.emod_nonneg _ (by decide)) (by rw [fd]; exact Int.emod_lt_of_pos _ (by decide))) | (first | decide | (refine at_in ?_ ?_ <;> omega) | (refine at_neg ?_ ?_ <;> omega))))))))) fun u Gr Hr gq hu => ?_
    exact hQ u Gr Hr (gr.trans gq) (by rw [hM]; exact hu)
/-! #### _law_begins -/
def m__law_begins (d_one : (Tpl Str)) (d_two : (Tpl Str)) : Bool := (eqB ((Tpl.mk (cutL (d_two).l none (some ((d_one).l.length : Int))))).l (d_one).l)
abbrev p__law_begins (K : PySem.W.Frag) : Sp := sp2 K (fun one two => TOk one.l ∧ TOk two.l) m__law_begins
theorem ok__law_begins (T : Tx K mg base A) : FnOk P w K mg base CX0 1 A.f__law_begins A.d__law_begins ["one", "two"] (p__law_begins K) := by
  refine T.F__law_begins.ok sc__law_begins (fun vs He Q E h => ?_) (fun cdv A0 outer s He vs Q E hr h => ⟨_, (pss_one (ps_ret (pe_cmpR (op_eqK (K := K) hr.units) (pe_slice (sl_tupK (K := K)) (pv 1) po_none (po_some (pe_callB (call_lenK (K := K)) rfl T.n_len boot_len (pa_cons (pv 0) pa_nil)))) (pv 0) (nomark _)))), ?_⟩)
  · obtain ⟨d_one, d_two, w_one, w_two, G, rfl, eG, h_one, h_two, hpre, hQ⟩ := h
    rfl
  · obtain ⟨d_one, d_two, w_one, w_two, G, rfl, eG, h_one, h_two, hpre, hQ⟩ := h
    have gr : Grow G He G He := Grow.refl eG
    obtain ⟨Ge, eGe⟩ : ∃ z, z = G := ⟨G, rfl⟩
    have gr : Grow Ge He G He := by rw [eGe]; exact gr
    rw [← eGe] at hQ
    clear eGe
    have hM : m__law_begins d_one d_two = (eqB ((Tpl.mk (cutL (d_two).l none (some ((d_one).l.length : Int))))).l (d_one).l) := rfl
    refine s_ret (K := K) gr.s (ev_eqT (ev_slT (ev_var rfl h_two) eo_none (eo_some (ev_lenT (ev_var rfl h_one)))) (ev_var rfl h_one) (by first | (exact ⟨fun p hp => hpre.2 p (cut_mem hp), hpre.1⟩) | (first | omega | decide | (show _ ≤ sizeLine; decide) | (show _ < sizeLine; decide)))) fun u Gr Hr gq hu => ?_
    exact hQ u Gr Hr (gr.trans gq) (by rw [hM]; exact hu)
/-! #### _law_match -/
abbrev Row := T3 Str Ky Str
structure RowOk (r : Row) : Prop where
  a : PyData.strOk r.a = true
  k : KyOk r.b.l
  s : ShS r.b.l
  c : PyData.strOk r.c = true
def at_ (rows : List Row) (n : Str) : Inn := (rows.filter fun r => eqB r.a n).map fun r => (r.b.l, r.c)
def Free (l : Inn) : Prop := l.Pairwise fun p q => m_is_prefix ⟨p.1⟩ ⟨q.1⟩ = false ∧ m_is_prefix ⟨q.1⟩ ⟨p.1⟩ = false
structure RI (s : O_Bindings) (rows : List Row) : Prop where
  l : ∀ n, look s.cm n = at_ rows n
  nd : (s.cm.map (·.1)).Nodup
  ok : ∀ r ∈ rows, RowOk r
  n : rows.length ≤ 40
  f : ∀ n, Free (at_ rows n)
/-! data that may be laid -/
structure La (n : Nat) (d : PyData) : Prop where
  c : d.canLay0 = true
  d : d.depth ≤ n
theorem la_all {n : Nat} : ∀ {ds : List PyData}, (∀ x ∈ ds, La n x) → PyData.canLayAll0 ds = true ∧ PyData.depthAll ds ≤ n
  | [], _ => ⟨rfl, Nat.zero_le _⟩
  | x :: ds, h => by
    have h1 := h x List.mem_cons_self
    have h2 := la_all (ds := ds) fun y hy => h y (.tail _ hy)
    refine ⟨?_, ?_⟩
    · show (PyData.canLay0 x && PyData.canLayAll0 ds) = true
      rw [h1.c, h2.1]
      rfl
    · show max (PyData.depth x) (PyData.depthAll ds) ≤ n
      exact Nat.max_le.mpr ⟨h1.d, h2.2⟩
theorem la_tup {n : Nat} {ds : List PyData} (h : ∀ x ∈ ds, La n x) : La (n + 1) (.tuple ds) := ⟨(la_all h).1, Nat.succ_le_succ (la_all h).2⟩
theorem la_lst {n : Nat} {ds : List PyData} (h : ∀ x ∈ ds, La n x) : La (n + 1) (.list ds) := ⟨(la_all h).1, Nat.succ_le_succ (la_all h).2⟩
theorem la_str {n : Nat} {x : Str} (h : PyData.strOk x = true) : La n (.str x) := ⟨h, Nat.zero_le _⟩
theorem la_non {n : Nat} : La n .none := ⟨rfl, Nat.zero_le _⟩
theorem La.sh {n : Nat} {d : PyData} (h : La n d) (hn : n ≤ 64) : SeqAt.shaped d = true := by
  unfold SeqAt.shaped
  rw [h.c, Bool.true_and]
  exact decide_eq_true (Nat.le_trans h.d hn)
theorem La.self {n : Nat} {d : PyData} (h : La n d) : PyData.eqv d d = true := SeqAt.eqv_refl d h.c
theorem la_pair {a b : Str} (ha : PyData.strOk a = true) (hb : PyData.strOk b = true) : La 1 (.tuple [.str a, .str b]) := la_tup fun x hx => by
  rcases List.mem_cons.mp hx with e | hx
  · rw [e]; exact la_str ha
  · rw [List.mem_singleton.mp hx]; exact la_str hb
theorem la_ky {k : List Str} (h : TOk k) : La 1 (.tuple (k.map PyData.str)) := la_tup fun x hx => by
  obtain ⟨p, hp, e⟩ := List.mem_map.mp hx
  rw [← e]
  exact la_str (h p hp)
theorem la_nk {n : Str} {k : Ky} (hn : PyData.strOk n = true) (h : TOk k.l) : La 2 (Dat.d (n, k)) := la_tup fun x hx => by
  rcases List.mem_cons.mp hx with e | hx
  · rw [e]; exact la_str hn
  · rw [List.mem_singleton.mp hx]; exact la_ky h
theorem strOk_iff {x : Str} : PyData.strOk x = true ↔ ∀ c ∈ x.cps.toList, c < 0x110000 := by
  unfold PyData.strOk
  rw [← Array.all_toList, List.all_eq_true]
  exact ⟨fun h c hc => of_decide_eq_true (h c hc), fun h c hc => decide_eq_true (h c hc)⟩
theorem join_mem {c : Nat} {y : Str} : ∀ {l : List Str}, c ∈ TL.tl (Txt.join y l) → c ∈ TL.tl y ∨ ∃ p ∈ l, c ∈ TL.tl p
  | [], h => by
    rw [TL.join_eq] at h
    have e : TL.tl (Str.join y []) = [] := rfl
    rw [e] at h
    cases h
  | [x], h => by
    rw [join_one] at h
    exact .inr ⟨x, List.mem_cons_self, h⟩
  | x :: z :: r, h => by
    rw [join_cons2, TL.tl_append, TL.tl_append] at h
    rcases List.mem_append.mp h with q | q
    · rcases List.mem_append.mp q with q | q
      · exact .inr ⟨x, List.mem_cons_self, q⟩
      · exact .inl q
    · rcases join_mem q with q | ⟨p, hp, q⟩
      · exact .inl q
      · exact .inr ⟨p, .tail _ hp, q⟩
theorem join_ok {y : Str} {l : List Str} (hy : PyData.strOk y = true) (h : TOk l) : PyData.strOk (Txt.join y l) = true := strOk_iff.mpr fun c hc => by
  rcases join_mem hc with z | ⟨p, hp, z⟩
  · exact strOk_iff.mp hy c z
  · exact strOk_iff.mp (h p hp) c z
theorem la_of {l : Inn} (h : ∀ p ∈ l, TOk p.1 ∧ PyData.strOk p.2 = true) : La 2 (Dat.d (l.map fun p => (m_shown ⟨p.1⟩, p.2))) := la_lst fun x hx => by
  obtain ⟨q, hq, e⟩ := List.mem_map.mp hx
  obtain ⟨p, hp, e2⟩ := List.mem_map.mp hq
  rw [← e, ← e2]
  exact la_pair (join_ok (by decide +kernel) (h p hp).1) (h p hp).2
theorem la_ob {o : Option (Str × Str)} (h : ∀ p, o = some p → PyData.strOk p.1 = true ∧ PyData.strOk p.2 = true) : La 1 (Dat.d o) := by
  cases o with
  | none => exact la_non
  | some p => exact la_pair (h p rfl).1 (h p rfl).2
/-! ### bindings as a list of rows -/
theorem pfx_eq (k p : List Str) : m_is_prefix ⟨k⟩ ⟨p⟩ = decide (p.take k.length = k) := by
  show decide (cutL p none (some (k.length : Int)) = k) = _
  rw [cut_to p (by omega), Int.toNat_natCast]
theorem at_cons (r : Row) (rows : List Row) (n : Str) : at_ (r :: rows) n = if r.a = n then (r.b.l, r.c) :: at_ rows n else at_ rows n := by
  unfold at_
  by_cases h : r.a = n
  · rw [if_pos h, List.filter_cons_of_pos (p := fun r : Row => eqB r.a n) (decide_eq_true h)]
    rfl
  · rw [if_neg h, List.filter_cons_of_neg (p := fun r : Row => eqB r.a n) (by simpa [eqB] using h)]
theorem at_mem {rows : List Row} {n : Str} {p : List Str × Str} (h : p ∈ at_ rows n) : ∃ r ∈ rows, r.a = n ∧ p = (r.b.l, r.c) := by
  unfold at_ at h
  obtain ⟨r, hr, e⟩ := List.mem_map.mp h
  obtain ⟨h1, h2⟩ := List.mem_filter.mp hr
  exact ⟨r, h1, eqB_of h2, e.symm⟩
theorem at_app (a b : List Row) (n : Str) : at_ (a ++ b) n = at_ a n ++ at_ b n := by
  unfold at_
  rw [List.filter_append, List.map_append]
theorem look_mem : ∀ {cm : List (Str × Inn)} {t : Str × Inn}, (cm.map (·.1)).Nodup → t ∈ cm → look cm t.1 = t.2 := fun {cm t} nd ht => by
  unfold look
  cases q : cm.find? fun u => decide (u.1 = t.1) with
  | none => exact absurd (List.find?_eq_none.mp q t ht) (by simp)
  | some u =>
    have e0 := List.find?_some q
    have : u = t := nodup_inj nd (List.mem_of_find?_eq_some q) ht (of_decide_eq_true e0)
    rw [this]
    rfl
theorem len_split {α : Type} (p : α → Bool) : ∀ l : List α, l.length = (l.filter p).length + (l.filter fun x => !p x).length
  | [] => rfl
  | x :: l => by
    have := len_split p l
    cases h : p x with
    | true =>
      rw [List.filter_cons_of_pos h, List.filter_cons_of_neg (by simp [h]), List.length_cons, List.length_cons]
      omega
    | false =>
      rw [List.filter_cons_of_neg (by simp [h]), List.filter_cons_of_pos (by simp [h]), List.length_cons, List.length_cons]
      omega
theorem sum_keys : ∀ (cm : List (Str × Inn)) (rows : List Row), (cm.map (·.1)).Nodup → (∀ t ∈ cm, t.2 = at_ rows t.1) → (∀ r ∈ rows, ∃ t ∈ cm, t.1 = r.a) → (cm.map fun t => (t.2.length : Int)).sum = (rows.length : Int)
  | [], rows, _, _, h => by
    cases rows with
    | nil => rfl
    | cons r rows => obtain ⟨t, ht, _⟩ := h r List.mem_cons_self; cases ht
  | t :: cm, rows, nd, h1, h2 => by
    rw [List.map_cons, List.nodup_cons] at nd
    have e1 : ∀ u, u ≠ t.1 → at_ (rows.filter fun r => !eqB r.a t.1) u = at_ rows u := fun u hu => by
      unfold at_
      rw [List.filter_filter]
      congr 1
      refine List.filter_congr fun r _ => ?_
      by_cases h : r.a = u
      · have : eqB r.a t.1 = false := by simp [eqB, h, hu]
        rw [this]
        simp
      · simp [eqB, h]
    have ih := sum_keys cm (rows.filter fun r => !eqB r.a t.1) nd.2 (fun u hu => by
      rw [e1 u.1 fun z => nd.1 (List.mem_map.mpr ⟨u, hu, z⟩)]
      exact h1 u (.tail _ hu)) (fun r hr => by
      obtain ⟨h3, h4⟩ := List.mem_filter.mp hr
      obtain ⟨u, hu, e⟩ := h2 r h3
      cases hu with
      | head => rw [e] at h4; simp [eqB] at h4
      | tail _ hu => exact ⟨u, hu, e⟩)
    rw [List.map_cons, List.sum_cons, ih, h1 t List.mem_cons_self]
    unfold at_
    rw [List.length_map]
    have : rows.length = (rows.filter fun r => eqB r.a t.1).length + (rows.filter fun r => !eqB r.a t.1).length := by
      exact len_split (fun r : Row => eqB r.a t.1) rows
    omega
theorem RI.count {s : O_Bindings} {rows : List Row} (h : RI s rows) : m_count s = (rows.length : Int) := by
  refine sum_keys _ _ h.nd (fun t ht => by rw [← h.l]; exact (look_mem h.nd ht).symm) fun r hr => ?_
  have hm : (r.b.l, r.c) ∈ at_ rows r.a := List.mem_map.mpr ⟨r, List.mem_filter.mpr ⟨hr, eqB_self _⟩, rfl⟩
  rw [← h.l] at hm
  unfold look at hm
  cases q : s.cm.find? fun u => decide (u.1 = r.a) with
  | none => rw [q] at hm; cases hm
  | some t =>
    have e0 := List.find?_some q
    exact ⟨t, List.mem_of_find?_eq_some q, of_decide_eq_true e0⟩
theorem RI.at_ok {s : O_Bindings} {rows : List Row} (h : RI s rows) {n : Str} : ∀ p ∈ at_ rows n, TOk p.1 ∧ PyData.strOk p.2 = true := fun p hp => by
  obtain ⟨r, hr, _, e⟩ := at_mem hp
  rw [e]
  exact ⟨(h.ok r hr).k.t, (h.ok r hr).c⟩

theorem law_match_cons (r : Row) (rows : List Row) (n : Str) (k : Ky) : exitF (runL (fun (_ : Unit) (r : Row) => cond (eqB r.a n && eqB r.b.l k.l) (Step.ret (some (("exact" : Str), r.c))) (cond (eqB r.a n && m_is_prefix ⟨k.l⟩ ⟨r.b.l⟩) (Step.ret (some (("partial" : Str), ("" : Str)))) (Step.go ()))) () (r :: rows)) (fun _ => (none : Option (Str × Str))) =
    cond (eqB r.a n && eqB r.b.l k.l) (some (("exact" : Str), r.c)) (cond (eqB r.a n && m_is_prefix ⟨k.l⟩ ⟨r.b.l⟩) (some (("partial" : Str), ("" : Str))) (exitF (runL (fun (_ : Unit) (r : Row) => cond (eqB r.a n && eqB r.b.l k.l) (Step.ret (some (("exact" : Str), r.c))) (cond (eqB r.a n && m_is_prefix ⟨k.l⟩ ⟨r.b.l⟩) (Step.ret (some (("partial" : Str), ("" : Str)))) (Step.go ()))) () rows) (fun _ => (none : Option (Str × Str))))) := by
  simp only [runL]
  cases eqB r.a n && eqB r.b.l k.l with
  | true => rfl
  | false =>
    cases eqB r.a n && m_is_prefix ⟨k.l⟩ ⟨r.b.l⟩ with
    | true => rfl
    | false => rfl
def mtc (l : Inn) (k : List Str) : Option (Str × Str) := match l.find? fun p => decide (p.1 = k) with
  | some p => some (("exact" : Str), p.2)
  | none => cond (l.any fun p => decide (p.1.take k.length = k)) (some (("partial" : Str), ("" : Str))) none
theorem mtc_cons {p : List Str × Str} {l : Inn} {k : List Str} (f : Free (p :: l)) : mtc (p :: l) k = cond (eqB p.1 k) (some (("exact" : Str), p.2)) (cond (m_is_prefix ⟨k⟩ ⟨p.1⟩) (some (("partial" : Str), ("" : Str))) (mtc l k)) := by
  unfold mtc
  by_cases h : p.1 = k
  · rw [List.find?_cons_of_pos (p := fun p : List Str × Str => decide (p.1 = k)) (decide_eq_true h), show eqB p.1 k = true from decide_eq_true h]
    rfl
  · rw [List.find?_cons_of_neg (p := fun p : List Str × Str => decide (p.1 = k)) (by simp [h]), show eqB p.1 k = false from decide_eq_false h]
    rw [pfx_eq]
    show _ = cond (decide (p.1.take k.length = k)) _ _
    cases hp : decide (p.1.take k.length = k) with
    | true =>
      have no : l.find? (fun q => decide (q.1 = k)) = none := List.find?_eq_none.mpr fun q hq z => by
        have h2 := (List.rel_of_pairwise_cons f hq).2
        rw [of_decide_eq_true z, pfx_eq, hp] at h2
        cases h2
      rw [no]
      show cond (List.any (p :: l) _) _ _ = _
      rw [List.any_cons, hp]
      rfl
    | false =>
      rw [List.any_cons, hp, Bool.false_or]
      rfl
theorem mtc_rows {n : Str} {k : Ky} : ∀ {rows : List Row}, Free (at_ rows n) → exitF (runL (fun (_ : Unit) (r : Row) => cond (eqB r.a n && eqB r.b.l k.l) (Step.ret (some (("exact" : Str), r.c))) (cond (eqB r.a n && m_is_prefix ⟨k.l⟩ ⟨r.b.l⟩) (Step.ret (some (("partial" : Str), ("" : Str)))) (Step.go ()))) () rows) (fun _ => (none : Option (Str × Str))) = mtc (at_ rows n) k.l
  | [], _ => rfl
  | r :: rows, f => by
    rw [law_match_cons]
    rw [at_cons] at f ⊢
    by_cases h : r.a = n
    · rw [if_pos h] at f ⊢
      rw [mtc_cons f, show eqB r.a n = true from decide_eq_true h, Bool.true_and, Bool.true_and, mtc_rows (rows := rows) (List.Pairwise.of_cons f)]
    · rw [if_neg h] at f ⊢
      rw [show eqB r.a n = false from decide_eq_false h, Bool.false_and, Bool.false_and]
      exact mtc_rows f
theorem mtc_ok {l : Inn} {k : List Str} (h : ∀ p ∈ l, TOk p.1 ∧ PyData.strOk p.2 = true) : La 1 (Dat.d (mtc l k)) := la_ob fun p hp => by
  unfold mtc at hp
  cases q : l.find? fun p => decide (p.1 = k) with
  | some u =>
    rw [q] at hp
    cases hp
    exact ⟨show PyData.strOk ("exact" : Str) = true by decide +kernel, (h u (List.mem_of_find?_eq_some q)).2⟩
  | none =>
    rw [q] at hp
    cases q2 : l.any fun p => decide (p.1.take k.length = k) with
    | true =>
      rw [q2] at hp
      cases hp
      exact ⟨show PyData.strOk ("partial" : Str) = true by decide +kernel, show PyData.strOk ("" : Str) = true by decide +kernel⟩
    | false =>
      rw [q2] at hp
      cases hp
theorem mem_rows {n : Str} {k : Ky} : ∀ {rows : List Row}, memD (n, k) (rows.map fun r => (r.a, r.b)) = has (at_ rows n) k.l
  | [] => rfl
  | r :: rows => by
    have ih := mem_rows (n := n) (k := k) (rows := rows)
    unfold memD at ih ⊢
    rw [List.map_cons, List.map_cons, List.any_cons, ih, at_cons]
    show (PyData.eqv (.tuple [.str r.a, .tuple (r.b.l.map PyData.str)]) (.tuple [.str n, .tuple (k.l.map PyData.str)]) || _) = _
    rw [show PyData.eqv (.tuple [.str r.a, .tuple (r.b.l.map PyData.str)]) (.tuple [.str n, .tuple (k.l.map PyData.str)]) = ((PyData.eqv (.str r.a) (.str n)) && (PyData.eqvAll (r.b.l.map PyData.str) (k.l.map PyData.str) && true)) from rfl,
      show PyData.eqv (.str r.a) (.str n) = decide (r.a = n) from Flat.eqv r.a n, eqv_texts, Bool.and_true]
    unfold has
    by_cases h : r.a = n
    · rw [if_pos h, decide_eq_true h, Bool.true_and]
      by_cases h2 : r.b.l = k.l
      · rw [decide_eq_true h2, List.find?_cons_of_pos (p := fun p : List Str × Str => decide (p.1 = k.l)) (decide_eq_true h2)]
        rfl
      · rw [decide_eq_false h2, List.find?_cons_of_neg (p := fun p : List Str × Str => decide (p.1 = k.l)) (by simp [h2])]
        rfl
    · rw [if_neg h, decide_eq_false h]
      rfl

def m__law_match_1 (d_node : Str) (d_strokes : Ky) (d_12 : Str) (d_15 : Ky) : (Step (Unit) (Option (Str × Str))) := (cond ((eqB d_12 d_node) && (m__law_begins (Tpl.mk (d_strokes).l) (Tpl.mk (d_15).l))) (Step.ret (some (("partial" : Str), ("" : Str)))) (Step.go ()))
def m__law_match_2 (d_node : Str) (d_strokes : Ky) (d_12 : Str) (d_15 : Ky) (d_18 : Str) : (Step (Unit) (Option (Str × Str))) := (cond ((eqB d_12 d_node) && (eqB ((Tpl.mk (d_15).l)).l ((Tpl.mk (d_strokes).l)).l)) (Step.ret (some (("exact" : Str), d_18))) (m__law_match_1 d_node d_strokes d_12 d_15))
def m__law_match_3 (d_node : Str) (d_strokes : Ky) (s : Unit) (d_1 : (T3 Str Ky Str)) : (Step (Unit) (Option (Str × Str))) := m__law_match_2 d_node d_strokes (d_1.a) (d_1.b) (d_1.c)
def m__law_match_4  (s : Unit) : (Option (Str × Str)) := (none : (Option (Str × Str)))
def m__law_match (d_rows : (List (T3 Str Ky Str))) (d_node : Str) (d_strokes : Ky) : (Option (Str × Str)) := (exitF (runL (m__law_match_3 d_node d_strokes) () d_rows) m__law_match_4)
abbrev p__law_match (K : PySem.W.Frag) : Sp := sp3 K (fun rows n k => (∀ r ∈ rows, RowOk r) ∧ KyOk k.l) m__law_match
theorem ok__law_match (T : Tx K mg base A) : FnOk P w K mg base CX0 2 A.f__law_match A.d__law_match ["rows", "node", "strokes"] (p__law_match K) := by
  refine T.F__law_match.ok sc__law_match (fun vs He Q E h => ?_) (fun cdv A0 outer s He vs Q E hr h => ⟨_, (pss_cons (ps_for PassesOwn.never rfl (pi_listK (K := K) (pv 0)) (pg_tup rfl (pgs_cons (pg_name (i := 3) sc__law_match.nd rfl (Or.inl rfl)) (pgs_cons (pg_name (i := 4) sc__law_match.nd rfl (Or.inl rfl)) (pgs_cons (pg_name (i := 5) sc__law_match.nd rfl (Or.inl rfl)) pgs_nil)))) (pss_cons (ps_if (PW.pt (pw_and (pt_cmpR op_eq (pv 3) (pv 1) (nomark _)) (pw_and1 (pt_cmpR (op_eqK (K := K) hr.units) (pv 4) (pv 2) (nomark _))))) (pss_one (ps_ret (pe_tup (pa_cons pe_str (pa_cons (pv 5) pa_nil))))) pss_nil) (pss_one (ps_if (PW.pt (pw_and (pt_cmpR op_eq (pv 3) (pv 1) (nomark _)) (pw_and1 (pt_val (pe_call (ok__law_begins T) (hr.mono (by decide)) rfl T.g__law_begins T.F__law_begins.kp T.b__law_begins .nil pass0 (pa_cons (pv 2) (pa_cons (pv 4) pa_nil))))))) (pss_one (ps_ret (pe_tup (pa_cons pe_str (pa_cons pe_str pa_nil))))) pss_nil)))) (pss_one (ps_ret pe_non))), ?_⟩)
  · obtain ⟨d_rows, d_node, d_strokes, w_rows, w_node, w_strokes, G, rfl, eG, h_rows, h_node, h_strokes, hpre, hQ⟩ := h
    rfl
  · obtain ⟨d_rows, d_node, d_strokes, w_rows, w_node, w_strokes, G, rfl, eG, h_rows, h_node, h_strokes, hpre, hQ⟩ := h
    have gr : Grow G He G He := Grow.refl eG
    obtain ⟨Ge, eGe⟩ : ∃ z, z = G := ⟨G, rfl⟩
    have gr : Grow Ge He G He := by rw [eGe]; exact gr
    rw [← eGe] at hQ
    clear eGe
    have hM : m__law_match d_rows d_node d_strokes = (exitF (runL (m__law_match_3 d_node d_strokes) () d_rows) m__law_match_4) := rfl
    refine q_forL (K := K) gr.s (ev_var rfl h_rows) fun G4 H5 xs6 g7 rs8 => ?_
    have h_rows := up g7.g h_rows
    have h_node := up g7.g h_node
    have h_strokes := up g7.g h_strokes
    have gr := gr.trans g7
    refine ⟨fun i_ σ_ H_ => ∃ st_ : Unit, (runL (m__law_match_3 d_node d_strokes) () (List.take i_ d_rows)) = Step.go st_ ∧ ∃ (G37 : Hp) (o_9 : Option V) (o_10 : Option V) (o_11 : Option V), Grow Ge He G37 H_ ∧ Same G4 G37 ∧ σ_ = [some w_rows, some w_node, some w_strokes, o_9, o_10, o_11], ⟨(), rfl, _, _, _, _, gr, Same.refl _, rfl⟩, ?_, ?_, ?_⟩
    · rintro i_ σ_ H_ ⟨st_, hgo_, G37, o_9, o_10, o_11, gr, sg0, rfl⟩
      exact un sg0 gr.s
    · rintro i_0 d_1 w_2 σ_0 H_0 hx0 h_3 ⟨st_0, hgo0, G37, o_9, o_10, o_11, gr, sg0, rfl⟩
      have h_rows := up sg0 h_rows
      have h_node := up sg0 h_node
      have h_strokes := up sg0 h_strokes
      have h_3 := up sg0 h_3
      refine trip_apart h_3 gr.s fun w_13 w_16 w_19 h_14 h_17 h_20 => ?_
      have hMo0 := hM
      clear hM
      obtain ⟨⟩ := st_0
      have hM : (m__law_match_3 d_node d_strokes) () d_1 = (m__law_match_3 d_node d_strokes) () d_1 := rfl
      conv at hM => rhs; unfold m__law_match_3; unfold m__law_match_2
      have fp_1 : d_1.a = d_1.a := rfl
      have fp_2 : TOk d_1.b.l := ((hpre.1 _ (List.mem_of_getElem? hx0)).k.t)
      have fp_3 : d_1.c = d_1.c := rfl
      generalize d_1.a = d_12 at h_14 fp_1 hM
      generalize d_1.b = d_15 at h_17 fp_2 hM
      generalize d_1.c = d_18 at h_20 fp_3 hM
      refine q_if gr.s (et_and (et_test (ev_eq (ev_var rfl h_14) (ev_var rfl h_node))) (fun hb21 => (et_test (ev_eqT (ev_kyT (ev_var rfl h_17)) (ev_kyT (ev_var rfl h_strokes)) (by first | (first | exact ⟨fp_2, hpre.2.t⟩ | exact ⟨hpre.2.t, fp_2⟩) | (first | omega | decide | (show _ ≤ sizeLine; decide) | (show _ < sizeLine; decide))))))) ?_ ?_
      · intro hb24 G25 H26 g23
        have h_rows := up g23.g h_rows
        have h_node := up g23.g h_node
        have h_strokes := up g23.g h_strokes
        have h_14 := up g23.g h_14
        have h_17 := up g23.g h_17
        have h_20 := up g23.g h_20
        have sg0 := sg0.trans g23.g
        have gr := gr.trans g23
        replace hM := condT hM hb24
        refine s_ret (K := K) gr.s (ev_some (ev_tup2 ev_str (ev_var rfl h_20))) fun u Gr Hr gq hu => ?_
        exact hQ u Gr Hr (gr.trans gq) (by rw [(exitF_ret hMo0 (runL_ret hgo0 hx0 hM))]; exact hu)
      · intro hb24 G27 H28 g23
        have h_rows := up g23.g h_rows
        have h_node := up g23.g h_node
        have h_strokes := up g23.g h_strokes
        have h_14 := up g23.g h_14
        have h_17 := up g23.g h_17
        have h_20 := up g23.g h_20
        have sg0 := sg0.trans g23.g
        have gr := gr.trans g23
        replace hM := condF hM hb24
        unfold m__law_match_1 at hM
        refine s_next ?_
        refine nx_mk ?_
        refine s_if gr.s (et_and (et_test (ev_eq (ev_var rfl h_14) (ev_var rfl h_node))) (fun hb29 => (et_B (ev_call2 (ev_kyT (ev_var rfl h_strokes)) (ev_kyT (ev_var rfl h_17)) (by first | (first | exact ⟨fp_2, hpre.2.t⟩ | exact ⟨hpre.2.t, fp_2⟩) | (first | omega | decide)))))) ?_ ?_
        · intro hb32 G33 H34 g31
          have h_rows := up g31.g h_rows
          have h_node := up g31.g h_node
          have h_strokes := up g31.g h_strokes
          have h_14 := up g31.g h_14
          have h_17 := up g31.g h_17
          have h_20 := up g31.g h_20
          have sg0 := sg0.trans g31.g
          have gr := gr.trans g31
          replace hM := condT hM hb32
          refine s_ret (K := K) gr.s (ev_some (ev_tup2 ev_str ev_str)) fun u Gr Hr gq hu => ?_
          exact hQ u Gr Hr (gr.trans gq) (by rw [(exitF_ret hMo0 (runL_ret hgo0 hx0 hM))]; exact hu)
        · intro hb32 G35 H36 g31
          have h_rows := up g31.g h_rows
          have h_node := up g31.g h_node
          have h_strokes := up g31.g h_strokes
          have h_14 := up g31.g h_14
          have h_17 := up g31.g h_17
          have h_20 := up g31.g h_20
          have sg0 := sg0.trans g31.g
          have gr := gr.trans g31
          replace hM := condF hM hb32
          refine s_next ?_
          exact ⟨_, (runL_go hgo0 hx0 hM), _, _, _, _, gr, sg0, rfl⟩
    · rintro σ_0 H_0 ⟨st_0, hgo0, G37, o_9, o_10, o_11, gr, sg0, rfl⟩
      have h_rows := up sg0 h_rows
      have h_node := up sg0 h_node
      have h_strokes := up sg0 h_strokes
      rw [List.take_length] at hgo0
      rw [hgo0, exitF_go] at hM
      unfold m__law_match_4 at hM
      refine s_ret (K := K) gr.s (ev_non (α := (Str × Str))) fun u Gr Hr gq hu => ?_
      exact hQ u Gr Hr (gr.trans gq) (by rw [hM]; exact hu)
/-! #### _law_told -/
def m_told (s : O_Bindings) (n : Str) (k : List Str) (c : Str) : Option Str × O_Bindings := match m_bind s n k c with
  | .ok y => (none, y.2)
  | .error z => (some z, s)
def spTold [Tb] (K : PySem.W.Frag) (Ob : O_Bindings → Addr → Addr → Hp → Prop) : Sp := fun vs H Q _ => ∃ s a dx n k c w G, vs = [.ref a, .str n, w, .str c] ∧ Sub G H ∧ Ob s a dx G ∧ rep K (Ky.mk k) w G ∧ PreB s k ∧
  ∀ u G' H' F, FOk F G → GrowF F G H G' H' → Ob (m_told s n k c).2 a dx G' → rep K (m_told s n k c).1 u G' → Q u H'
abbrev p__law_told [Tb] (K : PySem.W.Frag) (A : Adr) : Sp := spTold K (Ob_Bindings K A.c_Bindings)
theorem ok__law_told (T : Tx K mg base A) : FnOk P w K mg base CX0 5 A.f__law_told A.d__law_told ["keys", "node", "strokes", "command"] (p__law_told K A) := by
  refine T.F__law_told.ok sc__law_told (fun vs He Q E h => ?_) (fun cdv A0 outer s He vs Q E hr h => ⟨_, pss_one (ps_try_as (i := 4) (Wout := fun _ _ _ _ => False) rfl rfl sc__law_told.nd rfl rfl ⟨rfl, by decide, .inl T.x_Refused.gC⟩ takes0
      (fun W pn xe tk _ => pss_one (ps_ret (pe_methT (pv 0) T.cl_Bindings T.me_Bindings_bind (ok_Bindings_bind T) (hr.mono (by decide)) T.b_Bindings_bind (fun σ => passAt tk σ) (pa_cons (pv 1) (pa_cons (pv 2) (pa_cons (pv 3) pa_nil))))))
      (fun a oe cls d pn hz hf => pss_one (ps_ret (pe_xf T.x_Refused.xf T.x_Refused.nF hz hf (pv 4))))), ?_⟩)
  · obtain ⟨s, a, dx, n, k, c, w, G, rfl, _⟩ := h
    rfl
  · obtain ⟨s, a, dx, n, k, c, w, G, rfl, eG, ob, hw, hpre, hQ⟩ := h
    obtain ⟨fs, hG⟩ := (ob_Bindings K A.c_Bindings).ins ob
    refine ⟨_, rfl, a, dx, fs, rfl, eG _ _ hG, nm_Bindings_bind (K := K) ob fs hG, _, rfl, _, rfl, _, rfl, s, a, dx, n, k, c, w, G, rfl, eG, ob, hw, hpre, fun y e u G' H' F hF gm o2 r => hQ u G' H' F hF gm (by unfold m_told; rw [e]; exact o2) (by unfold m_told; rw [e]; exact r), fun z e d H1 sm ts hn hd => ⟨true, T.x_Refused.te, fun _ b hb => ?_, fun q => nomatch q⟩⟩
    refine ⟨_, rfl, rfl, rfl, d, _, .str z, rfl, hd, rfl, ?_⟩
    have gr : Grow G He G H1 := ⟨Same.refl _, eG.keep sm ts, sm, fun _ _ _ h => h⟩
    exact hQ _ G H1 (fun _ => False) (fun _ z => z.elim) gr.toF (by unfold m_told; rw [e]; exact ob) (by unfold m_told; rw [e]; rfl)

/-! #### _law_bound -/
def cflR (rows : List Row) (n : Str) (k : List Str) : Bool := rows.any fun r => eqB r.a n && (m_is_prefix ⟨r.b.l⟩ ⟨k⟩ || m_is_prefix ⟨k⟩ ⟨r.b.l⟩)
def m_bound (rows : List Row) (n : Str) (k : List Str) : Option Str := cond (cflR rows n k) (some "conflicting key sequence") (cond (eqB (rows.length : Int) 40) (some "too many bindings") none)
structure PreR (rows : List Row) (k : List Str) : Prop where
  ok : ∀ r ∈ rows, RowOk r
  k : KyOk k
  n : rows.length ≤ 40
theorem sub_in [Tb] {G H : Hp} {r : Addr} {o : HO} (s : Sub G H) (hG : G r = none) (h : H r = some o) (n : noTb o) : Sub (upd G r o) H := ⟨fun b u e => by
  by_cases hb : b = r
  · rw [hb, upd_same] at e
    cases e
    rw [hb]
    exact ⟨h, n⟩
  · rw [upd_ne hb] at e
    exact s.m b u e, s.t⟩
theorem mut_loose [Tb] {G H : Hp} {r : Addr} {xs ys : List V} (s : Sub G H) (hG : G r = none) (h : H r = some (.lst xs)) : GrowF (fun b => b = r) G H G (upd H r (.lst ys)) :=
  ⟨fun b o e _ => e, same_d (Same.refl _), sub_upd2 s hG (lst_no h), fun b o e _ n => by rw [upd_ne n]; exact e, fun b e => by
    by_cases hb : b = r
    · rw [hb, upd_same] at e; cases e
    · rw [upd_ne hb] at e; exact e, fun b o _ e => e⟩
def spBound [Tb] (K : PySem.W.Frag) : Sp := fun vs H Q _ => ∃ rows r xs n k c w G, vs = [.ref r, .str n, w, .str c] ∧ Sub G H ∧ G r = none ∧ H r = some (.lst xs) ∧ Reps K (rows : List Row) xs G ∧ rep K (Ky.mk k) w G ∧ PreR rows k ∧
  (∀ z u H', m_bound rows n k = some z → u = .str z → Grow G H G H' → Q u H') ∧
  (m_bound rows n k = none → ∀ G' H' v, GrowF (fun b => b = r) G H G' H' → G' r = none → H' r = some (.lst (xs ++ [v])) → rep K (T3.mk n (Ky.mk k) c : Row) v G' → Q .non H')
abbrev p__law_bound [Tb] (K : PySem.W.Frag) : Sp := spBound K
theorem ok__law_bound (T : Tx K mg base A) : FnOk P w K mg base CX0 3 A.f__law_bound A.d__law_bound ["rows", "node", "strokes", "command"] (p__law_bound K) := by
  refine T.F__law_bound.ok sc__law_bound (fun vs He Q E h => ?_) (fun cdv A0 outer s He vs Q E hr h => ⟨_, pss_cons (ps_for PassesOwn.never rfl (pi_listK (K := K) (pv 0)) (pg_tup rfl (pgs_cons (pg_name (i := 4) sc__law_bound.nd rfl (Or.inl rfl)) (pgs_cons (pg_name (i := 5) sc__law_bound.nd rfl (Or.inl rfl)) (pgs_cons (pg_name (i := 6) sc__law_bound.nd rfl (Or.inl rfl)) pgs_nil))))
      (pss_one (ps_if (PW.pt (pw_and (pt_cmpR op_eq (pv 4) (pv 1) (nomark _)) (pw_and1 (PW.pt (pw_or (pt_val (pe_call (ok__law_begins T) (hr.mono (by decide)) rfl T.g__law_begins T.F__law_begins.kp T.b__law_begins .nil pass0 (pa_cons (pv 5) (pa_cons (pv 2) pa_nil)))) (pw_or1 (pt_val (pe_call (ok__law_begins T) (hr.mono (by decide)) rfl T.g__law_begins T.F__law_begins.kp T.b__law_begins .nil pass0 (pa_cons (pv 2) (pa_cons (pv 5) pa_nil))))))))))
        (pss_one (ps_ret pe_str)) pss_nil)))
    (pss_cons (ps_if (pt_cmpR op_eq (pe_callB (call_lenK (K := K)) rfl T.n_len boot_len (pa_cons (pv 0) pa_nil)) pe_int (nomark _)) (pss_one (ps_ret pe_str)) pss_nil)
    (pss_cons (ps_expr (pe_bmK (K := K) PySem.F.plainAttrs_list PySem.F.slot_list_append PySem.F.type_list_append mt_append (pv 0) (pa_cons (pe_tup (pa_cons (pv 1) (pa_cons (pv 2) (pa_cons (pv 3) pa_nil)))) pa_nil))) (pss_one (ps_ret pe_non)))), ?_⟩)
  · obtain ⟨rows, r, xs, n, k, c, w, G, rfl, _⟩ := h
    rfl
  · obtain ⟨rows, r, xs, n, k, c, w, G, rfl, eG, nG, hr2, hrs, hw, hpre, hS, hN⟩ := h
    have s1 := sub_in eG nG hr2 noTb_lst
    have sm1 : Same G (upd G r (.lst xs)) := same_upd nG
    have h_rows : rep K rows (.ref r) (upd G r (.lst xs)) := ⟨r, xs, rfl, upd_same, hrs.up sm1⟩
    have back : ∀ {G' H' : Hp}, Grow (upd G r (.lst xs)) He G' H' → Grow G He G H' := fun g => ⟨Same.refl _, eG.keep g.h g.s.t, g.h, fun _ _ _ e => e⟩
    refine q_forL (K := K) s1 (ev_var rfl h_rows) fun G2 H2 xs2 g rs => ⟨fun i σ' H' => ∃ o1 o2 o3, σ' = [some (.ref r), some (.str n), some w, some (.str c), o1, o2, o3] ∧ Grow (upd G r (.lst xs)) He G2 H' ∧ cflR (rows.take i) n k = false, ⟨none, none, none, rfl, g, rfl⟩, fun i σ' H' ⟨_, _, _, _, g, _⟩ => g.s, fun i x v σ' H' hx hv ⟨o1, o2, o3, es, g2, hc⟩ => ?_, fun σ' H' ⟨o1, o2, o3, es, g2, hc⟩ => ?_⟩
    · subst es
      have hw2 : rep K (Ky.mk k) w G2 := up (sm1.trans g.g) hw
      have okx := hpre.ok x (List.mem_of_getElem? hx)
      refine trip_apart hv g2.s fun u1 u2 u3 r1 r2 r3 => ?_
      refine s_if g2.s (et_and (et_test (ev_eq (ev_var rfl r1) (ev_var (x := n) rfl rfl))) fun _ => et_or (et_B (ev_call2 (ev_kyT (ev_var rfl r2)) (ev_kyT (ev_var rfl hw2)) ⟨okx.k.t, hpre.k.t⟩)) fun _ => et_B (ev_call2 (ev_kyT (ev_var rfl hw2)) (ev_kyT (ev_var rfl r2)) ⟨hpre.k.t, okx.k.t⟩)) ?_ ?_
      · intro hb G3 H3 g3
        refine s_ret (K := K) g3.s ev_str fun u G4 H4 g4 hu => ?_
        have hM : m_bound rows n k = some "conflicting key sequence" := by
          unfold m_bound cflR
          rw [List.any_eq_true.mpr ⟨x, List.mem_of_getElem? hx, hb⟩]
          rfl
        exact hS _ u H4 hM hu (back ((g2.trans g3).trans g4))
      · intro hb G3 H3 g3
        refine ⟨_, _, _, rfl, ⟨g2.g, g2.s.keep g3.h g3.s.t, g2.h.trans g3.h, g2.f⟩, ?_⟩
        rw [take_snoc hx]
        unfold cflR at hc ⊢
        rw [List.any_append, hc, Bool.false_or, List.any_cons, List.any_nil, Bool.or_false]
        exact hb
    · subst es
      rw [List.take_length] at hc
      have h_rows2 := up g2.g h_rows
      refine q_if g2.s (et_test (ev_eq (ev_lenL (ev_var rfl h_rows2)) ev_int)) ?_ ?_
      · intro hb G3 H3 g3
        refine s_ret (K := K) g3.s ev_str fun u G4 H4 g4 hu => ?_
        have hM : m_bound rows n k = some "too many bindings" := by
          unfold m_bound
          rw [hc, hb]
          rfl
        exact hS _ u H4 hM hu (back ((g2.trans g3).trans g4))
      · intro hb G3 H3 g3
        have hM : m_bound rows n k = none := by
          unfold m_bound
          rw [hc, hb]
          rfl
        have g5 := back (g2.trans g3)
        have hr5 := g5.h.l hr2
        refine s_next ?_
        refine q_app (K := K) g5.s (xs := xs) rfl hr5 (by rw [← paired_len hrs]; have := hpre.n; show _ < 16777216; omega) (ev_tup3 (x := n) (y := Ky.mk k) (z := c) (ev_var rfl rfl) (ev_var rfl hw) (ev_var rfl rfl)) fun v G6 H6 g6 hv => ?_
        refine hN hM G6 _ v ?_ (g6.f _ _ hr5 nG) upd_same hv
        exact ((g5.trans g6).toF (F := fun b => b = r)).next (mut_loose g6.s (g6.f _ _ hr5 nG) (g6.h.l hr5)) fun c z => .inl z

/-! #### _law_is_it -/
theorem law_match_is {rows : List Row} {n : Str} {k : Ky} (f : Free (at_ rows n)) : m__law_match rows n k = mtc (at_ rows n) k.l := mtc_rows f
theorem of_is {s : O_Bindings} {rows : List Row} (h : RI s rows) (n : Str) : m_Bindings_of s n = List.map (fun (d_16 : Row) => ((Txt.join (" " : Str) ((Tpl.mk ((d_16).b).l)).l), (d_16).c)) (List.filter (fun d_16 => (eqB (d_16).a n)) rows) := by
  show (look s.cm n).map _ = _
  rw [h.l]
  unfold at_
  rw [List.map_map]
  rfl
theorem la_of2 {s : O_Bindings} {rows : List Row} (h : RI s rows) (n : Str) : La 2 (Dat.d (m_Bindings_of s n)) := by
  show La 2 (Dat.d ((look s.cm n).map fun p => (m_shown ⟨p.1⟩, p.2)))
  rw [h.l]
  exact la_of h.at_ok
theorem sh_of {s : O_Bindings} {rows : List Row} {n : Str} (h : RI s rows) : SeqAt.shaped (Dat.d (m_Bindings_of s n)) = true ∧ SeqAt.shaped (Dat.d (List.map (fun (d_16 : Row) => ((Txt.join (" " : Str) ((Tpl.mk ((d_16).b).l)).l), (d_16).c)) (List.filter (fun d_16 => (eqB (d_16).a n)) rows))) = true := by
  rw [← of_is h]
  exact ⟨(la_of2 h n).sh (by decide), (la_of2 h n).sh (by decide)⟩
theorem match_is {s : O_Bindings} {rows : List Row} (h : RI s rows) (n : Str) (k : Ky) : m_Bindings_match s n k = mtc (at_ rows n) k.l := by
  show mtc (look s.cm n) k.l = _
  rw [h.l]
theorem sh_match {s : O_Bindings} {rows : List Row} {n : Str} {k : Ky} (h : RI s rows) : SeqAt.shaped (Dat.d (m_Bindings_match s n k)) = true ∧ SeqAt.shaped (Dat.d (m__law_match rows n k)) = true := by
  rw [match_is h, law_match_is (h.f n)]
  exact ⟨(mtc_ok h.at_ok).sh (by decide), (mtc_ok h.at_ok).sh (by decide)⟩
theorem sh_in {s : O_Bindings} {rows : List Row} {n : Str} {k : Ky} (hn : PyData.strOk n = true) (h : RI s rows) (hk : TOk k.l) : SeqAt.shaped (Dat.d (n, k)) = true ∧ SeqAt.shaped (Dat.d (List.map (fun d_34 : Row => (d_34.a, d_34.b)) rows)) = true :=
  ⟨(la_nk hn hk).sh (by decide), (la_lst (n := 2) fun x hx => by
    obtain ⟨q, hq, e⟩ := List.mem_map.mp hx
    obtain ⟨r, hr, e2⟩ := List.mem_map.mp hq
    rw [← e, ← e2]
    exact la_nk (h.ok r hr).a (h.ok r hr).k.t).sh (by decide)⟩
theorem node_ok {x : Str} (h : x ∈ [("a" : Str), ("b" : Str), ("root" : Str)]) : PyData.strOk x = true := by
  rcases List.mem_cons.mp h with e | h
  · rw [e]; decide +kernel
  rcases List.mem_cons.mp h with e | h
  · rw [e]; decide +kernel
  · rw [List.mem_singleton.mp h]; decide +kernel

def m__law_is_it_1 (d_keys : O_Bindings) (d_rows : (List (T3 Str Ky Str))) (d_probe : Ky) (d_7 : Str) : (Step (Unit) Bool) := (cond (!eqB (m_Bindings_is_bound d_keys d_7 d_probe) (memD (d_7, d_probe) (List.map (fun d_34 => ((d_34).a, (d_34).b)) d_rows))) (Step.ret false) (Step.go ()))
def m__law_is_it_2 (d_keys : O_Bindings) (d_rows : (List (T3 Str Ky Str))) (d_probe : Ky) (d_7 : Str) : (Step (Unit) Bool) := (cond (!PyData.eqv (Dat.d (m_Bindings_match d_keys d_7 d_probe)) (Dat.d (m__law_match d_rows d_7 d_probe))) (Step.ret false) (m__law_is_it_1 d_keys d_rows d_probe d_7))
def m__law_is_it_3 (d_keys : O_Bindings) (d_rows : (List (T3 Str Ky Str))) (d_probe : Ky) (d_7 : Str) : (Step (Unit) Bool) := (cond (!PyData.eqv (Dat.d (m_Bindings_of d_keys d_7)) (Dat.d (List.map (fun d_16 => ((Txt.join (" " : Str) ((Tpl.mk ((d_16).b).l)).l), (d_16).c)) (List.filter (fun d_16 => (eqB (d_16).a d_7)) d_rows)))) (Step.ret false) (m__law_is_it_2 d_keys d_rows d_probe d_7))
def m__law_is_it_4 (d_keys : O_Bindings) (d_rows : (List (T3 Str Ky Str))) (d_probe : Ky) (s : Unit) (d_7 : Str) : (Step (Unit) Bool) := m__law_is_it_3 d_keys d_rows d_probe (d_7)
def m__law_is_it_5  (s : Unit) : Bool := true
def m__law_is_it_6 (d_keys : O_Bindings) (d_rows : (List (T3 Str Ky Str))) (d_probe : Ky) : Bool := (exitF (runL (m__law_is_it_4 d_keys d_rows d_probe) () (("a" : Str) :: (("b" : Str) :: (("root" : Str) :: ([] : List Str))))) m__law_is_it_5)
def m__law_is_it (d_keys : O_Bindings) (d_rows : (List (T3 Str Ky Str))) (d_probe : Ky) : Bool := (cond (!eqB (m_Bindings_count d_keys ) ((d_rows).length : Int)) false (m__law_is_it_6 d_keys d_rows d_probe))
abbrev p__law_is_it (K : PySem.W.Frag) (A : Adr) : Sp := spr2 K (Ob_Bindings K A.c_Bindings) (fun s rows k => RI s rows ∧ KyOk k.l) m__law_is_it
theorem ok__law_is_it (T : Tx K mg base A) : FnOk P w K mg base CX0 6 A.f__law_is_it A.d__law_is_it ["keys", "rows", "probe"] (p__law_is_it K A) := by
  refine T.F__law_is_it.ok sc__law_is_it (fun vs He Q E h => ?_) (fun cdv A0 outer s He vs Q E hr h => ⟨_, (pss_cons (ps_if (pt_cmpR op_ne (pe_meth0 (pv 0) T.cl_Bindings T.me_Bindings_count (ok_Bindings_count T) (hr.mono (by decide)) T.b_Bindings_count .nil pass0) (pe_callB (call_lenK (K := K)) rfl T.n_len boot_len (pa_cons (pv 1) pa_nil)) (nomark _)) (pss_one (ps_ret pe_bl)) pss_nil) (pss_cons (ps_for PassesOwn.never rfl (pi_listK (K := K) (pe_lst (pa_cons pe_str (pa_cons pe_str (pa_cons pe_str pa_nil))))) (pg_name (i := 3) sc__law_is_it.nd rfl (Or.inr rfl)) (pss_cons (ps_if (pt_cmpR (op_neK (K := K) hr.units) (pe_meth (pv 0) T.cl_Bindings T.me_Bindings_of (ok_Bindings_of T) (hr.mono (by decide)) T.b_Bindings_of .nil pass0 (pa_cons (pv 3) pa_nil)) (pe_lc (own := [("row", 4)]) (g := gName 4) rfl sc__law_is_it.nd (pi_listK (K := K) (pv 1)) (blkOk_by (N := n__law_is_it) (sc := defScope s__law_is_it) (by decide +kernel)) (fun _ _ _ _ _ => pg_name (i := 4) sc__law_is_it.nd rfl (Or.inl rfl)) (fun _ _ _ _ _ => (pts_one (pt_cmpR op_eq (pe_ix (ix_tupK (K := K)) (pv 4) pe_int fun _ _ => rfl) (pv 3) (nomark _)))) (fun _ _ _ _ _ => (pe_tup (pa_cons (pe_joinK (K := K) pe_str (pe_ix (ix_tupK (K := K)) (pv 4) pe_int fun _ _ => rfl)) (pa_cons (pe_ix (ix_tupK (K := K)) (pv 4) pe_int fun _ _ => rfl) pa_nil))))) (nomark _)) (pss_one (ps_ret pe_bl)) pss_nil) (pss_cons (ps_if (pt_cmpR (op_neK (K := K) hr.units) (pe_meth (pv 0) T.cl_Bindings T.me_Bindings_match (ok_Bindings_match T) (hr.mono (by decide)) T.b_Bindings_match .nil pass0 (pa_cons (pv 3) (pa_cons (pv 2) pa_nil))) (pe_call (ok__law_match T) (hr.mono (by decide)) rfl T.g__law_match T.F__law_match.kp T.b__law_match .nil pass0 (pa_cons (pv 1) (pa_cons (pv 3) (pa_cons (pv 2) pa_nil)))) (nomark _)) (pss_one (ps_ret pe_bl)) pss_nil) (pss_one (ps_if (pt_cmpR op_ne (pe_meth (pv 0) T.cl_Bindings T.me_Bindings_is_bound (ok_Bindings_is_bound T) (hr.mono (by decide)) T.b_Bindings_is_bound .nil pass0 (pa_cons (pv 3) (pa_cons (pv 2) pa_nil))) (pe_cmpR (op_inDK (K := K) hr.units1) (pe_tup (pa_cons (pv 3) (pa_cons (pv 2) pa_nil))) (pe_lc (own := [("row", 4)]) (g := gName 4) (tt := tYes) rfl sc__law_is_it.nd (pi_listK (K := K) (pv 1)) (blkOk_by (N := n__law_is_it) (sc := defScope s__law_is_it) (by decide +kernel)) (fun _ _ _ _ _ => pg_name (i := 4) sc__law_is_it.nd rfl (Or.inl rfl)) (fun _ _ _ _ _ => pts_nil) (fun _ _ _ _ _ => (pe_slice (sl_tupK (K := K)) (pv 4) po_none (po_some pe_int)))) (by rfl)) (nomark _)) (pss_one (ps_ret pe_bl)) pss_nil))))) (pss_one (ps_ret pe_bl)))), ?_⟩)
  · obtain ⟨d_keys, a_keys, dx_keys, d_rows, d_probe, w_rows, w_probe, G, rfl, eG, hO_keys, h_rows, h_probe, hpre, hQ⟩ := h
    rfl
  · obtain ⟨d_keys, a_keys, dx_keys, d_rows, d_probe, w_rows, w_probe, G, rfl, eG, hO_keys, h_rows, h_probe, hpre, hQ⟩ := h
    have gr : Grow G He G He := Grow.refl eG
    obtain ⟨Ge, eGe⟩ : ∃ z, z = G := ⟨G, rfl⟩
    have gr : Grow Ge He G He := by rw [eGe]; exact gr
    rw [← eGe] at hQ
    clear eGe
    have hM : m__law_is_it d_keys d_rows d_probe = (cond (!eqB (m_Bindings_count d_keys ) ((d_rows).length : Int)) false (m__law_is_it_6 d_keys d_rows d_probe)) := rfl
    refine q_if gr.s (et_test (ev_ne (ev_methR0 rfl (ob_Bindings _ _) hO_keys (nm_Bindings_count hO_keys)  True.intro) (ev_lenL (ev_var rfl h_rows)))) ?_ ?_
    · intro hb2 G3 H4 g1
      have hO_keys := (ob_Bindings _ _).up (g1.g) hO_keys
      have h_rows := up g1.g h_rows
      have h_probe := up g1.g h_probe
      have gr := gr.trans g1
      replace hM := condT hM hb2
      refine s_ret (K := K) gr.s ev_bl fun u Gr Hr gq hu => ?_
      exact hQ u Gr Hr (gr.trans gq) (by rw [hM]; exact hu)
    · intro hb2 G5 H6 g1
      have hO_keys := (ob_Bindings _ _).up (g1.g) hO_keys
      have h_rows := up g1.g h_rows
      have h_probe := up g1.g h_probe
      have gr := gr.trans g1
      replace hM := condF hM hb2
      unfold m__law_is_it_6 at hM
      refine s_next ?_
      refine nx_mk ?_
      refine q_forL (K := K) gr.s (ev_lst (ea_cons ev_str (ea_cons ev_str (ea_cons ev_str ea_nil))) (by first | (first | exact hpre.2 | exact ⟨hpre.1.ok, hpre.2⟩ | (have := hpre.1.n; show _ < 16777216; omega) | exact shs_fits (hpre.1.ok _ (by assumption)).s | exact sh_of hpre.1 | exact sh_match hpre.1 | exact sh_in fn hpre.1 hpre.2.t) | (first | (show _ ≤ sizeLine; decide) | (simp only [List.length_cons, List.length_nil, List.length_append, sizeLine_eq]; omega) | (fail)))) fun G10 H11 xs12 g13 rs14 => ?_
      have hO_keys := (ob_Bindings _ _).up (g13.g) hO_keys
      have h_rows := up g13.g h_rows
      have h_probe := up g13.g h_probe
      have gr := gr.trans g13
      refine ⟨fun i_ σ_ H_ => ∃ st_ : Unit, (runL (m__law_is_it_4 d_keys d_rows d_probe) () (List.take i_ (("a" : Str) :: (("b" : Str) :: (("root" : Str) :: ([] : List Str)))))) = Step.go st_ ∧ ∃ (G46 : Hp) (o_15 : Option V), Grow Ge He G46 H_ ∧ Same G10 G46 ∧ σ_ = [some (V.ref a_keys), some w_rows, some w_probe, o_15, none], ⟨(), rfl, _, _, gr, Same.refl _, rfl⟩, ?_, ?_, ?_⟩
      · rintro i_ σ_ H_ ⟨st_, hgo_, G46, o_15, gr, sg0, rfl⟩
        exact un sg0 gr.s
      · rintro i_0 d_7 w_8 σ_0 H_0 hx0 h_9 ⟨st_0, hgo0, G46, o_15, gr, sg0, rfl⟩
        have hO_keys := (ob_Bindings _ _).up (sg0) hO_keys
        have h_rows := up sg0 h_rows
        have h_probe := up sg0 h_probe
        have h_9 := up sg0 h_9
        have hMo0 := hM
        clear hM
        obtain ⟨⟩ := st_0
        have hM : (m__law_is_it_4 d_keys d_rows d_probe) () d_7 = (m__law_is_it_4 d_keys d_rows d_probe) () d_7 := rfl
        conv at hM => rhs; unfold m__law_is_it_4; unfold m__law_is_it_3
        have fn : PyData.strOk d_7 = true := node_ok (List.mem_of_getElem? hx0)
        refine q_if gr.s (et_test (ev_neD (ev_methR1 rfl (ob_Bindings _ _) hO_keys (nm_Bindings_of hO_keys) (ev_var rfl h_9) True.intro) (ev_lcL (fun d_16 => (eqB (d_16).a d_7)) (fun d_16 => ((Txt.join (" " : Str) ((Tpl.mk ((d_16).b).l)).l), (d_16).c)) (ev_var rfl h_rows) (by first | (first | exact hpre.2 | exact ⟨hpre.1.ok, hpre.2⟩ | (have := hpre.1.n; show _ < 16777216; omega) | exact shs_fits (hpre.1.ok _ (by assumption)).s | exact sh_of hpre.1 | exact sh_match hpre.1 | exact sh_in fn hpre.1 hpre.2.t) | (first | omega | decide | (show _ ≤ sizeLine; decide) | (show _ < sizeLine; decide))) (fun d_16 w_17 G_ H_ sg19 sh_ hm21 h_18 P k => by have h_9 := up sg19 h_9; exact k _ rfl (et_test (ev_eq (ev_ix30 (ev_var rfl h_18)) (ev_var rfl h_9))) (fun hc20 => (ev_tup2 (ev_joinT ev_str (ev_kyT (ev_ix31 (ev_var rfl h_18))) (by first | (first | exact hpre.2 | exact ⟨hpre.1.ok, hpre.2⟩ | (have := hpre.1.n; show _ < 16777216; omega) | exact shs_fits (hpre.1.ok _ (by assumption)).s | exact sh_of hpre.1 | exact sh_match hpre.1 | exact sh_in fn hpre.1 hpre.2.t) | (first | omega | decide | (show _ ≤ sizeLine; decide) | (show _ < sizeLine; decide)))) (ev_ix32 (ev_var rfl h_18)))))) (by first | (first | exact hpre.2 | exact ⟨hpre.1.ok, hpre.2⟩ | (have := hpre.1.n; show _ < 16777216; omega) | exact shs_fits (hpre.1.ok _ (by assumption)).s | exact sh_of hpre.1 | exact sh_match hpre.1 | exact sh_in fn hpre.1 hpre.2.t) | (first | omega | decide | (show _ ≤ sizeLine; decide) | (show _ < sizeLine; decide))))) ?_ ?_
        · intro hb23 G24 H25 g22
          have hO_keys := (ob_Bindings _ _).up (g22.g) hO_keys
          have h_rows := up g22.g h_rows
          have h_probe := up g22.g h_probe
          have h_9 := up g22.g h_9
          have sg0 := sg0.trans g22.g
          have gr := gr.trans g22
          replace hM := condT hM hb23
          refine s_ret (K := K) gr.s ev_bl fun u Gr Hr gq hu => ?_
          exact hQ u Gr Hr (gr.trans gq) (by rw [(exitF_ret hMo0 (runL_ret hgo0 hx0 hM))]; exact hu)
        · intro hb23 G26 H27 g22
          have hO_keys := (ob_Bindings _ _).up (g22.g) hO_keys
          have h_rows := up g22.g h_rows
          have h_probe := up g22.g h_probe
          have h_9 := up g22.g h_9
          have sg0 := sg0.trans g22.g
          have gr := gr.trans g22
          replace hM := condF hM hb23
          unfold m__law_is_it_2 at hM
          refine s_next ?_
          refine nx_mk ?_
          refine q_if gr.s (et_test (ev_neD (ev_methR2 rfl (ob_Bindings _ _) hO_keys (nm_Bindings_match hO_keys) (ev_var rfl h_9) (ev_var rfl h_probe) (by first | (first | exact hpre.2 | exact ⟨hpre.1.ok, hpre.2⟩ | (have := hpre.1.n; show _ < 16777216; omega) | exact shs_fits (hpre.1.ok _ (by assumption)).s | exact sh_of hpre.1 | exact sh_match hpre.1 | exact sh_in fn hpre.1 hpre.2.t) | (first | omega | decide))) (ev_call3 (ev_var rfl h_rows) (ev_var rfl h_9) (ev_var rfl h_probe) (by first | (first | exact hpre.2 | exact ⟨hpre.1.ok, hpre.2⟩ | (have := hpre.1.n; show _ < 16777216; omega) | exact shs_fits (hpre.1.ok _ (by assumption)).s | exact sh_of hpre.1 | exact sh_match hpre.1 | exact sh_in fn hpre.1 hpre.2.t) | (first | omega | decide))) (by first | (first | exact hpre.2 | exact ⟨hpre.1.ok, hpre.2⟩ | (have := hpre.1.n; show _ < 16777216; omega) | exact shs_fits (hpre.1.ok _ (by assumption)).s | exact sh_of hpre.1 | exact sh_match hpre.1 | exact sh_in fn hpre.1 hpre.2.t) | (first | omega | decide | (show _ ≤ sizeLine; decide) | (show _ < sizeLine; decide))))) ?_ ?_
          · intro hb29 G30 H31 g28
            have hO_keys := (ob_Bindings _ _).up (g28.g) hO_keys
            have h_rows := up g28.g h_rows
            have h_probe := up g28.g h_probe
            have h_9 := up g28.g h_9
            have sg0 := sg0.trans g28.g
            have gr := gr.trans g28
            replace hM := condT hM hb29
            refine s_ret (K := K) gr.s ev_bl fun u Gr Hr gq hu => ?_
            exact hQ u Gr Hr (gr.trans gq) (by rw [(exitF_ret hMo0 (runL_ret hgo0 hx0 hM))]; exact hu)
          · intro hb29 G32 H33 g28
            have hO_keys := (ob_Bindings _ _).up (g28.g) hO_keys
            have h_rows := up g28.g h_rows
            have h_probe := up g28.g h_probe
            have h_9 := up g28.g h_9
            have sg0 := sg0.trans g28.g
            have gr := gr.trans g28
            replace hM := condF hM hb29
            unfold m__law_is_it_1 at hM
            refine s_next ?_
            refine nx_mk ?_
            refine s_if gr.s (et_test (ev_ne (ev_methR2 rfl (ob_Bindings _ _) hO_keys (nm_Bindings_is_bound hO_keys) (ev_var rfl h_9) (ev_var rfl h_probe) True.intro) (ev_inD (ev_tup2 (ev_var rfl h_9) (ev_var rfl h_probe)) (ev_lcLm (fun d_34 => ((d_34).a, (d_34).b)) (ev_var rfl h_rows) (by first | (first | exact hpre.2 | exact ⟨hpre.1.ok, hpre.2⟩ | (have := hpre.1.n; show _ < 16777216; omega) | exact shs_fits (hpre.1.ok _ (by assumption)).s | exact sh_of hpre.1 | exact sh_match hpre.1 | exact sh_in fn hpre.1 hpre.2.t) | (first | omega | decide | (show _ ≤ sizeLine; decide) | (show _ < sizeLine; decide))) (fun d_34 w_35 G_ H_ sg37 sh_ hm39 h_36 P k => by exact k _ rfl eb_yes (fun hc38 => (ev_sl3 (ev_var rfl h_36))))) (by first | (first | exact hpre.2 | exact ⟨hpre.1.ok, hpre.2⟩ | (have := hpre.1.n; show _ < 16777216; omega) | exact shs_fits (hpre.1.ok _ (by assumption)).s | exact sh_of hpre.1 | exact sh_match hpre.1 | exact sh_in fn hpre.1 hpre.2.t) | (first | omega | decide | (show _ ≤ sizeLine; decide) | (show _ < sizeLine; decide)))))) ?_ ?_
            · intro hb41 G42 H43 g40
              have hO_keys := (ob_Bindings _ _).up (g40.g) hO_keys
              have h_rows := up g40.g h_rows
              have h_probe := up g40.g h_probe
              have h_9 := up g40.g h_9
              have sg0 := sg0.trans g40.g
              have gr := gr.trans g40
              replace hM := condT hM hb41
              refine s_ret (K := K) gr.s ev_bl fun u Gr Hr gq hu => ?_
              exact hQ u Gr Hr (gr.trans gq) (by rw [(exitF_ret hMo0 (runL_ret hgo0 hx0 hM))]; exact hu)
            · intro hb41 G44 H45 g40
              have hO_keys := (ob_Bindings _ _).up (g40.g) hO_keys
              have h_rows := up g40.g h_rows
              have h_probe := up g40.g h_probe
              have h_9 := up g40.g h_9
              have sg0 := sg0.trans g40.g
              have gr := gr.trans g40
              replace hM := condF hM hb41
              refine s_next ?_
              exact ⟨_, (runL_go hgo0 hx0 hM), _, _, gr, sg0, rfl⟩
      · rintro σ_0 H_0 ⟨st_0, hgo0, G46, o_15, gr, sg0, rfl⟩
        have hO_keys := (ob_Bindings _ _).up (sg0) hO_keys
        have h_rows := up sg0 h_rows
        have h_probe := up sg0 h_probe
        rw [List.take_length] at hgo0
        rw [hgo0, exitF_go] at hM
        unfold m__law_is_it_5 at hM
        refine s_ret (K := K) gr.s ev_bl fun u Gr Hr gq hu => ?_
        exact hQ u Gr Hr (gr.trans gq) (by rw [hM]; exact hu)
theorem is_it_true {s : O_Bindings} {rows : List Row} {k : Ky} (h : RI s rows) : m__law_is_it s rows k = true := by
  unfold m__law_is_it
  rw [show m_Bindings_count s = (rows.length : Int) from h.count, show eqB (rows.length : Int) (rows.length : Int) = true from eqB_self _]
  show m__law_is_it_6 s rows k = true
  unfold m__law_is_it_6
  rw [runL_all fun n _ => ?_]
  · rfl
  show m__law_is_it_3 s rows k n = _
  unfold m__law_is_it_3
  rw [← of_is h n, (la_of2 h n).self]
  show m__law_is_it_2 s rows k n = _
  unfold m__law_is_it_2
  rw [law_match_is (h.f n), match_is h n k, (mtc_ok h.at_ok).self]
  show m__law_is_it_1 s rows k n = _
  unfold m__law_is_it_1
  rw [mem_rows, show m_Bindings_is_bound s n k = has (at_ rows n) k.l by show has (look s.cm n) k.l = _; rw [h.l], show ∀ b : Bool, eqB b b = true from fun b => eqB_self b]
  rfl
theorem any_at (rows : List Row) (n : Str) (f : List Str × Str → Bool) : (at_ rows n).any f = rows.any fun r => eqB r.a n && f (r.b.l, r.c) := by
  induction rows with
  | nil => rfl
  | cons r rows ih =>
    rw [at_cons, List.any_cons, ← ih]
    by_cases h : r.a = n
    · rw [if_pos h, List.any_cons, show eqB r.a n = true from decide_eq_true h, Bool.true_and]
    · rw [if_neg h, show eqB r.a n = false from decide_eq_false h, Bool.false_and, Bool.false_or]
theorem cfl_is {s : O_Bindings} {rows : List Row} (h : RI s rows) (n : Str) (k : List Str) : cfl (look s.cm n) k = cflR rows n k := by
  rw [h.l]
  unfold cfl cflR
  rw [any_at]
theorem bind_is {s : O_Bindings} {rows : List Row} (h : RI s rows) (n : Str) (k : List Str) (c : Str) : m_bind s n k c = match m_bound rows n k with | some z => .error z | none => .ok ((), ⟨bindL s.cm n k c⟩) := by
  unfold m_bind m_bound
  rw [cfl_is h, h.count]
  have e : decide ((40 : Int) ≤ (rows.length : Int)) = eqB (rows.length : Int) 40 := by
    have := h.n
    exact decide_eq_decide.mpr ⟨fun z => by omega, fun z => by omega⟩
  rw [e]
  cases cflR rows n k with
  | true => rfl
  | false =>
    cases eqB (rows.length : Int) 40 with
    | true => rfl
    | false => rfl
theorem look_upds {cm : List (Str × Inn)} {n m : Str} {l : Inn} : look (upds cm n l) m = if m = n then (if (cm.any fun q => decide (q.1 = n)) = true then l else []) else look cm m := by
  induction cm with
  | nil =>
    show [] = _
    split
    · rfl
    · rfl
  | cons q cm ih =>
    have e1 : upds (q :: cm) n l = (if q.1 = n then (q.1, l) else q) :: upds cm n l := rfl
    have hd : ∀ (x : Str × Inn) (y : List (Str × Inn)), look (x :: y) m = if x.1 = m then x.2 else look y m := fun x y => by
      unfold look
      by_cases h : x.1 = m
      · rw [List.find?_cons_of_pos (p := fun t : Str × Inn => decide (t.1 = m)) (decide_eq_true h), if_pos h]
        rfl
      · rw [List.find?_cons_of_neg (p := fun t : Str × Inn => decide (t.1 = m)) (by simp [h]), if_neg h]
    rw [e1, hd, hd, ih, List.any_cons]
    by_cases h1 : q.1 = n
    · rw [if_pos h1, decide_eq_true h1, Bool.true_or, if_pos rfl]
      by_cases h2 : m = n
      · rw [if_pos h2, if_pos (show q.1 = m by rw [h1, h2]), if_pos h2]
      · rw [if_neg h2, if_neg (show ¬ q.1 = m from fun z => h2 (by rw [← z, h1])), if_neg h2, if_neg (show ¬ q.1 = m from fun z => h2 (by rw [← z, h1]))]
    · rw [if_neg h1, decide_eq_false h1, Bool.false_or]
      by_cases h2 : m = n
      · rw [if_neg (show ¬ q.1 = m from fun z => h1 (by rw [z, h2])), if_pos h2, if_pos h2]
      · rw [if_neg h2, if_neg h2]
theorem look_app {cm : List (Str × Inn)} {n m : Str} {l : Inn} (h : (cm.any fun q => decide (q.1 = n)) = false) : look (cm ++ [(n, l)]) m = if m = n then l else look cm m := by
  induction cm with
  | nil =>
    show look [(n, l)] m = _
    unfold look
    by_cases h2 : m = n
    · rw [if_pos h2, List.find?_cons_of_pos (p := fun t : Str × Inn => decide (t.1 = m)) (decide_eq_true h2.symm)]
      rfl
    · rw [if_neg h2, List.find?_cons_of_neg (p := fun t : Str × Inn => decide (t.1 = m)) (by simp [Ne.symm h2])]
  | cons q cm ih =>
    rw [List.any_cons, Bool.or_eq_false_iff] at h
    have hd : ∀ (x : Str × Inn) (y : List (Str × Inn)), look (x :: y) m = if x.1 = m then x.2 else look y m := fun x y => by
      unfold look
      by_cases h : x.1 = m
      · rw [List.find?_cons_of_pos (p := fun t : Str × Inn => decide (t.1 = m)) (decide_eq_true h), if_pos h]
        rfl
      · rw [List.find?_cons_of_neg (p := fun t : Str × Inn => decide (t.1 = m)) (by simp [h]), if_neg h]
    rw [List.cons_append, hd, hd, ih h.2]
    by_cases h1 : q.1 = m
    · rw [if_pos h1, if_pos h1, if_neg (show ¬ m = n from fun z => (of_decide_eq_false h.1) (by rw [h1, z]))]
    · rw [if_neg h1, if_neg h1]
theorem look_none {cm : List (Str × Inn)} {n : Str} (h : (cm.any fun q => decide (q.1 = n)) = false) : look cm n = [] := by
  unfold look
  rw [List.find?_eq_none.mpr fun q hq => List.any_eq_false.mp h q hq]
  rfl
theorem look_bindL {cm : List (Str × Inn)} {n m : Str} {k : List Str} {c : Str} : look (bindL cm n k c) m = if m = n then look cm n ++ [(k, c)] else look cm m := by
  unfold bindL
  by_cases h : (cm.any fun q => decide (q.1 = n)) = true
  · rw [if_pos h, look_upds, if_pos h]
  · have h0 : (cm.any fun q => decide (q.1 = n)) = false := (Bool.not_eq_true _).mp h
    rw [if_neg h, look_app h0, look_none (n := n) h0]
    rfl
theorem upds_1 (cm : List (Str × Inn)) (n : Str) (l : Inn) : (upds cm n l).map (·.1) = cm.map (·.1) := by
  unfold upds
  rw [List.map_map]
  refine List.map_congr_left fun t _ => ?_
  show (if t.1 = n then (t.1, l) else t).1 = t.1
  split <;> rfl
theorem bindL_nd {cm : List (Str × Inn)} {n : Str} {k : List Str} {c : Str} (nd : (cm.map (·.1)).Nodup) : ((bindL cm n k c).map (·.1)).Nodup := by
  unfold bindL
  by_cases h : (cm.any fun q => decide (q.1 = n)) = true
  · rw [if_pos h, upds_1]
    exact nd
  · rw [if_neg h, List.map_append]
    refine List.nodup_append.mpr ⟨nd, by simp, fun x hx y hy z => ?_⟩
    obtain ⟨t, ht, e⟩ := List.mem_map.mp hx
    have hy2 : y = n := by simpa using hy
    exact h (List.any_eq_true.mpr ⟨t, ht, decide_eq_true (by rw [e, z, hy2])⟩)
theorem bindL_len {cm : List (Str × Inn)} {n : Str} {k : List Str} {c : Str} : (bindL cm n k c).length ≤ cm.length + 1 := by
  unfold bindL
  split
  · unfold upds
    rw [List.length_map]
    omega
  · rw [List.length_append]
    exact Nat.le_refl _
theorem RI.bind {s : O_Bindings} {rows : List Row} (h : RI s rows) {n c : Str} {k : Ky} (ok : RowOk ⟨n, k, c⟩) (hb : m_bound rows n k.l = none) : RI ⟨bindL s.cm n k.l c⟩ (rows ++ [⟨n, k, c⟩]) := by
  unfold m_bound at hb
  cases hc : cflR rows n k.l with
  | true => rw [hc] at hb; cases hb
  | false =>
    rw [hc] at hb
    cases h40 : eqB (rows.length : Int) 40 with
    | true => rw [h40] at hb; cases hb
    | false =>
      have h40' := of_decide_eq_false (show decide ((rows.length : Int) = 40) = false from h40)
      have e1 : ∀ m, at_ [(⟨n, k, c⟩ : Row)] m = if n = m then [(k.l, c)] else [] := fun m => at_cons _ _ _
      refine ⟨fun m => ?_, bindL_nd h.nd, fun r hr => ?_, ?_, fun m => ?_⟩
      · show look (bindL s.cm n k.l c) m = _
        rw [look_bindL, at_app, e1, h.l, h.l]
        by_cases e : m = n
        · rw [if_pos e, if_pos e.symm, e]
        · rw [if_neg e, if_neg (Ne.symm e), List.append_nil]
      · rcases List.mem_append.mp hr with z | z
        · exact h.ok r z
        · rw [List.mem_singleton.mp z]
          exact ok
      · rw [List.length_append]
        have := h.n
        show rows.length + 1 ≤ 40
        omega
      · rw [at_app, e1]
        by_cases e : n = m
        · rw [if_pos e]
          refine List.pairwise_append.mpr ⟨h.f m, List.pairwise_singleton _ _, fun p hp q hq => ?_⟩
          rw [List.mem_singleton.mp hq]
          unfold cflR at hc
          rw [← any_at rows n fun p => m_is_prefix ⟨p.1⟩ ⟨k.l⟩ || m_is_prefix ⟨k.l⟩ ⟨p.1⟩] at hc
          rw [← e] at hp
          have := List.any_eq_false.mp hc p hp
          rw [Bool.not_eq_true, Bool.or_eq_false_iff] at this
          exact this
        · rw [if_neg e, List.append_nil]
          exact h.f m
/-! unbind -/
def keepT (n : Str) (k : Ky) (r : Row) : Bool := !PyData.eqv (Dat.d (r.a, r.b)) (Dat.d (n, k))
theorem keep_is (n : Str) (k : Ky) (r : Row) : keepT n k r = !(eqB r.a n && decide (r.b.l = k.l)) := by
  show (!PyData.eqv (.tuple [.str r.a, .tuple (r.b.l.map PyData.str)]) (.tuple [.str n, .tuple (k.l.map PyData.str)])) = _
  rw [show PyData.eqv (.tuple [.str r.a, .tuple (r.b.l.map PyData.str)]) (.tuple [.str n, .tuple (k.l.map PyData.str)]) = ((PyData.eqv (.str r.a) (.str n)) && (PyData.eqvAll (r.b.l.map PyData.str) (k.l.map PyData.str) && true)) from rfl,
    show PyData.eqv (.str r.a) (.str n) = decide (r.a = n) from Flat.eqv r.a n, eqv_texts, Bool.and_true]
  rfl
theorem at_keep (rows : List Row) (n m : Str) (k : Ky) : at_ (rows.filter (keepT n k)) m = if m = n then (at_ rows n).filter (fun p => decide (p.1 ≠ k.l)) else at_ rows m := by
  induction rows with
  | nil =>
    split
    · rfl
    · rfl
  | cons r rows ih =>
    by_cases h : keepT n k r = true
    · rw [List.filter_cons_of_pos h, at_cons, ih, at_cons, at_cons]
      rw [keep_is] at h
      by_cases hm : m = n
      · rw [if_pos hm, if_pos hm]
        by_cases ha : r.a = n
        · have h2 : ¬ r.b.l = k.l := fun z => by
            rw [show eqB r.a n = true from decide_eq_true ha, decide_eq_true z] at h
            cases h
          rw [if_pos (ha.trans hm.symm), if_pos ha, List.filter_cons_of_pos (p := fun p : List Str × Str => decide (p.1 ≠ k.l)) (decide_eq_true h2)]
        · rw [if_neg (fun z => ha (z.trans hm)), if_neg ha]
      · rw [if_neg hm, if_neg hm]
    · rw [List.filter_cons_of_neg h, ih, at_cons, at_cons]
      rw [keep_is, Bool.not_eq_true, Bool.not_eq_false', Bool.and_eq_true] at h
      have ha : r.a = n := of_decide_eq_true h.1
      by_cases hm : m = n
      · rw [if_pos hm, if_pos hm, if_pos ha, List.filter_cons_of_neg (p := fun p : List Str × Str => decide (p.1 ≠ k.l)) (by simpa using of_decide_eq_true h.2)]
      · rw [if_neg hm, if_neg hm, if_neg (fun z => hm (z.symm.trans ha))]
theorem unbind_look {s : O_Bindings} {n m : Str} {k : List Str} : look (m_unbind s n k).2.cm m = if m = n then (look s.cm n).filter (fun p => decide (p.1 ≠ k)) else look s.cm m := by
  unfold m_unbind
  cases h : has (look s.cm n) k with
  | true =>
    show look (upds s.cm n _) m = _
    rw [look_upds]
    by_cases hm : m = n
    · rw [if_pos hm, if_pos hm]
      by_cases ha : (s.cm.any fun q => decide (q.1 = n)) = true
      · rw [if_pos ha]
      · rw [if_neg ha, look_none (Bool.not_eq_true _ ▸ ha)]
        rfl
    · rw [if_neg hm, if_neg hm]
  | false =>
    show look s.cm m = _
    by_cases hm : m = n
    · rw [if_pos hm, hm]
      refine (List.filter_eq_self.mpr fun p hp => ?_).symm
      unfold has at h
      rw [Option.isSome_eq_false_iff, Option.isNone_iff_eq_none] at h
      exact decide_eq_true fun z => List.find?_eq_none.mp h p hp (decide_eq_true z)
    · rw [if_neg hm]
theorem RI.unbind {s : O_Bindings} {rows : List Row} (h : RI s rows) (n : Str) (k : Ky) : RI (m_unbind s n k.l).2 (rows.filter (keepT n k)) := by
  refine ⟨fun m => ?_, ?_, fun r hr => h.ok r (List.mem_filter.mp hr).1, Nat.le_trans (List.length_filter_le _ _) h.n, fun m => ?_⟩
  · rw [unbind_look, at_keep, h.l, h.l]
  · unfold m_unbind
    cases has (look s.cm n) k.l with
    | true =>
      show ((upds s.cm n _).map (·.1)).Nodup
      rw [upds_1]
      exact h.nd
    | false => exact h.nd
  · rw [at_keep]
    split
    · exact List.Pairwise.filter _ (h.f n)
    · exact h.f m
theorem unbind_told {s : O_Bindings} {rows : List Row} (h : RI s rows) (n : Str) (k : Ky) : (m_unbind s n k.l).1 = decide (((rows.filter (keepT n k)).length : Int) < (rows.length : Int)) := by
  have e : (m_unbind s n k.l).1 = has (look s.cm n) k.l := by
    unfold m_unbind
    cases has (look s.cm n) k.l with
    | true => rfl
    | false => rfl
  rw [e, h.l]
  have e2 : has (at_ rows n) k.l = (at_ rows n).any fun p => decide (p.1 = k.l) := by
    unfold has
    rw [Bool.eq_iff_iff, List.find?_isSome, List.any_eq_true]
  rw [e2, any_at]
  have sp := len_split (keepT n k) rows
  cases q : rows.any fun r => eqB r.a n && decide (r.b.l = k.l) with
  | true =>
    obtain ⟨r, hr, z⟩ := List.any_eq_true.mp q
    have : 0 < (rows.filter fun x => !keepT n k x).length := List.length_pos_of_mem (List.mem_filter.mpr ⟨hr, by rw [keep_is, z]; rfl⟩)
    exact (decide_eq_true (by omega)).symm
  | false =>
    have : rows.filter (keepT n k) = rows := List.filter_eq_self.mpr fun r hr => by
      have z := List.any_eq_false.mp q r hr
      rw [Bool.not_eq_true] at z
      rw [keep_is, z]
      rfl
    rw [this]
    exact (decide_eq_false (by omega)).symm
/-! drop -/
theorem look_drop {cm : List (Str × Inn)} {x m : Str} : look (dropN cm x) m = if m = x then [] else look cm m := by
  unfold look dropN
  by_cases h : m = x
  · rw [if_pos h, List.find?_eq_none.mpr fun q hq z => ?_]
    · rfl
    · have h1 := of_decide_eq_true (List.mem_filter.mp hq).2
      exact h1 (by rw [of_decide_eq_true z, h])
  · rw [if_neg h, List.find?_filter]
    congr 2
    congr 1
    funext q
    by_cases z : q.1 = m
    · simp [z, h]
    · simp [z]
theorem look_drops : ∀ {names : List Str} {cm : List (Str × Inn)} {m : Str}, look (names.foldl dropN cm) m = if m ∈ names then [] else look cm m
  | [], cm, m => by rw [if_neg (fun z => nomatch z)]; rfl
  | x :: names, cm, m => by
    rw [List.foldl_cons, look_drops, look_drop]
    by_cases h1 : m ∈ names
    · rw [if_pos h1, if_pos (List.mem_cons_of_mem _ h1)]
    · rw [if_neg h1]
      by_cases h2 : m = x
      · rw [if_pos h2, if_pos (List.mem_cons.mpr (.inl h2))]
      · rw [if_neg h2, if_neg fun z => (List.mem_cons.mp z).elim h2 h1]
theorem drops_sub : ∀ {names : List Str} {cm : List (Str × Inn)}, (names.foldl dropN cm).Sublist cm
  | [], cm => List.Sublist.refl _
  | x :: names, cm => (drops_sub (names := names)).trans List.filter_sublist
theorem at_drop (rows : List Row) (names : List Str) (m : Str) : at_ (rows.filter fun r => !memB r.a names) m = if m ∈ names then [] else at_ rows m := by
  unfold at_
  rw [List.filter_filter]
  by_cases h : m ∈ names
  · rw [if_pos h, List.filter_eq_nil_iff.mpr fun r hr z => ?_]
    · rfl
    · rw [Bool.and_eq_true] at z
      have e : r.a = m := eqB_of z.1
      have : memB r.a names = true := decide_eq_true (by rw [e]; exact h)
      rw [this] at z
      cases z.2
  · rw [if_neg h]
    congr 1
    refine List.filter_congr fun r _ => ?_
    by_cases e : r.a = m
    · have : memB r.a names = false := decide_eq_false (by rw [e]; exact h)
      rw [this]
      simp
    · simp [eqB, e]
theorem RI.drop {s : O_Bindings} {rows : List Row} (h : RI s rows) (names : List Str) : RI (m_drop s names).2 (rows.filter fun r => !memB r.a names) := by
  refine ⟨fun m => ?_, (drops_sub.map _).nodup h.nd, fun r hr => h.ok r (List.mem_filter.mp hr).1, Nat.le_trans (List.length_filter_le _ _) h.n, fun m => ?_⟩
  · show look (names.foldl dropN s.cm) m = _
    rw [look_drops, at_drop, h.l]
  · rw [at_drop]
    split
    · exact List.Pairwise.nil
    · exact h.f m
theorem RI.nil : RI ⟨[]⟩ [] := ⟨fun _ => rfl, List.nodup_nil, fun r hr => (nomatch hr), Nat.zero_le _, fun _ => List.Pairwise.nil⟩
section
variable [Tb] {K : PySem.W.Frag} {C a dx : Addr} {He G H G' H' : Hp}
theorem ev_notInL {σ : L2.St} {ta tb : TE} {δ : Type} [Rep δ] [DecidableEq δ] [Flat δ] {x : δ} {l : List δ} (ha : EvR K ta σ G x) (hb : EvR K tb σ G l) : EvR K (tOp (rIn K true) ta tb) σ G (!memB x l) :=
  ev_op ha hb fun v w G1 H1 _ s hv ⟨b, ys, ew, hB, r⟩ Q q => by
    have e1 := Flat.eq.mp hv
    have e2 := reps_flat r
    subst e1 e2
    refine ⟨b, _, ew, .inl (SqL.of (s _ _ hB)), Flat.flat x, flat_all, ?_⟩
    rw [if_pos rfl, inV_flat]
    exact q _ G1 H1 (Grow.refl s) rfl
/-- the law's objects: what the entry knew is kept -/
structure LS (K : PySem.W.Frag) (C : Addr) (He G H : Hp) (a dx : Addr) (s : O_Bindings) : Prop where
  k : Kept He H
  sub : Sub G H
  nd : ∀ b o, G b = some o → ¬ dataO o → He b = none
  ob : Ob_Bindings K C s a dx G
/-- a list of rows that may change -/
structure Lo (K : PySem.W.Frag) (He G H : Hp) (r : Addr) (rows : List Row) : Prop where
  g : G r = none
  e : He r = none
  h : ∃ xs, H r = some (.lst xs) ∧ Reps K rows xs G
variable {s s' : O_Bindings} {r : Addr} {rows : List Row}
theorem LS.grow (h : LS K C He G H a dx s) (g : Grow G H G' H') : LS K C He G' H' a dx s := ⟨h.k.trans g.h, g.s, fun b o e n => by
    cases q : G b with
    | some o' =>
      rw [g.g _ _ q] at e
      cases e
      exact h.nd b _ q n
    | none =>
      cases q2 : H b with
      | some u => rw [g.f b u q2 q] at e; cases e
      | none => exact h.k.free q2, (ob_Bindings K C).up g.g h.ob⟩
theorem Lo.grow (h : Lo K He G H r rows) (g : Grow G H G' H') : Lo K He G' H' r rows := by
  obtain ⟨xs, h1, h2⟩ := h.h
  exact ⟨g.f _ _ h1 h.g, h.e, xs, g.h.l h1, h2.up g.g⟩
theorem LS.back (h : LS K C He G H a dx s) (k : Kept H H') (t : ∀ P ∈ Tb.ps, GxR.TabG H' P) : LS K C He G H' a dx s := ⟨h.k.trans k, h.sub.keep k t, h.nd, h.ob⟩
theorem Lo.back (h : Lo K He G H r rows) (k : Kept H H') : Lo K He G H' r rows := by
  obtain ⟨xs, h1, h2⟩ := h.h
  exact ⟨h.g, h.e, xs, k.l h1, h2⟩
theorem LS.growF {F : Addr → Prop} (h : LS K C He G H a dx s) (hF : FOk F G) (g : GrowF F G H G' H') (ob : Ob_Bindings K C s' a dx G') : LS K C He G' H' a dx s' := by
  have nF : ∀ b o, He b = some o → ¬ F b := fun b o e z => by
    obtain ⟨u, hu, n⟩ := hF b z
    rw [h.nd b u hu n] at e
    cases e
  refine ⟨⟨fun b o e n => g.k b o (h.k.k b o e n) n (nF b o e), fun b e => h.k.fr b (g.fr b e)⟩, g.s, fun b o e n => ?_, ob⟩
  cases q : G b with
  | some o' =>
    by_cases d : dataO o'
    · rw [g.d _ _ q d] at e
      cases e
      exact absurd d n
    · exact h.nd b _ q d
  | none =>
    cases q2 : H b with
    | some u => rw [g.f b u q2 q] at e; cases e
    | none => exact h.k.free q2
theorem Lo.growF {F : Addr → Prop} (h : Lo K He G H r rows) (hF : FOk F G) (g : GrowF F G H G' H') : Lo K He G' H' r rows := by
  obtain ⟨xs, h1, h2⟩ := h.h
  exact ⟨g.f _ _ h1 h.g, h.e, xs, g.k _ _ h1 noTb_lst (fun z => by
    obtain ⟨u, hu, _⟩ := hF r z
    rw [h.g] at hu
    cases hu), h2.upd g.d⟩
def nextRows (rows : List Row) (n : Str) (k : Ky) (c : Str) : List Row := match m_bound rows n k.l with
  | none => rows ++ [⟨n, k, c⟩]
  | some _ => rows
theorem x_bound {Q : VK} {E : XK} {n c : Str} {k : Ky} {w : V} (ls : LS K C He G H a dx s) (lo : Lo K He G H r rows) (hw : rep K k w G) (hp : PreR rows k.l)
    (κ : ∀ u G' H', LS K C He G' H' a dx s → Lo K He G' H' r (nextRows rows n k c) → SameD G G' → rep K (m_bound rows n k.l) u G' → Q u H') : spBound K [.ref r, .str n, w, .str c] H Q E := by
  obtain ⟨xs, h1, h2⟩ := lo.h
  refine ⟨rows, r, xs, n, k.l, c, w, G, rfl, ls.sub, lo.g, h1, h2, hw, hp, fun z u H1 hz hu g => ?_, fun hz G1 H1 v g ng hr hv => ?_⟩
  · refine κ u G H1 (ls.grow g) ?_ (same_d (Same.refl _)) (by rw [hz]; exact hu)
    unfold nextRows
    rw [hz]
    exact lo.grow g
  · have nF : ∀ b o, He b = some o → ¬ b = r := fun b o e z => by rw [z, lo.e] at e; cases e
    have gg : ∀ b o, G b = some o → G1 b = some o := fun b o e => g.g b o e fun z => by rw [z, lo.g] at e; cases e
    refine κ _ G1 H1 ⟨⟨fun b o e n => g.k b o (ls.k.k b o e n) n (nF b o e), fun b e => ls.k.fr b (g.fr b e)⟩, g.s, fun b o e n => ?_, (ob_Bindings K C).up gg ls.ob⟩ ⟨ng, lo.e, ?_⟩ g.d (by rw [hz]; rfl)
    · cases q : G b with
      | some o' =>
        rw [gg _ _ q] at e
        cases e
        exact ls.nd b _ q n
      | none =>
        cases q2 : H b with
        | some u => rw [g.f b u q2 q] at e; cases e
        | none => exact ls.k.free q2
    · unfold nextRows
      rw [hz]
      exact ⟨_, hr, paired_append (h2.upd g.d) (.cons hv .nil)⟩
theorem x_told {Q : VK} {E : XK} {n c : Str} {k : Ky} {w : V} (ls : LS K C He G H a dx s) (hw : rep K k w G) (hp : PreB s k.l)
    (κ : ∀ u G' H', LS K C He G' H' a dx (m_told s n k.l c).2 → (∀ r l, Lo K He G H r l → Lo K He G' H' r l) → SameD G G' → rep K (m_told s n k.l c).1 u G' → Q u H') : spTold K (Ob_Bindings K C) [.ref a, .str n, w, .str c] H Q E :=
  ⟨s, a, dx, n, k.l, c, w, G, rfl, ls.sub, ls.ob, hw, hp, fun u G1 H1 F hF g ob r => κ u G1 H1 (ls.growF hF g ob) (fun r l lo => lo.growF hF g) g.d r⟩
theorem x_unbind {Q : VK} {E : XK} {n : Str} {k : Ky} {w : V} (ls : LS K C He G H a dx s) (hw : rep K k w G) (hp : KyOk k.l)
    (κ : ∀ u G' H', LS K C He G' H' a dx (m_unbind s n k.l).2 → (∀ r l, Lo K He G H r l → Lo K He G' H' r l) → SameD G G' → rep K (m_unbind s n k.l).1 u G' → Q u H') : spm2F K (Ob_Bindings K C) (fun _ _ k => KyOk k.l) (fun s (n : Str) (k : Ky) => m_unbind s n k.l) [.ref a, .str n, w] H Q E :=
  ⟨s, a, dx, n, k, .str n, w, G, rfl, ls.sub, ls.ob, rfl, hw, hp, fun u G1 H1 F hF g ob r => κ u G1 H1 (ls.growF hF g ob) (fun r l lo => lo.growF hF g) g.d r⟩
theorem x_drop {Q : VK} {E : XK} {names : List Str} {w : V} (ls : LS K C He G H a dx s) (hw : rep K names w G)
    (κ : ∀ u G' H', LS K C He G' H' a dx (m_drop s names).2 → (∀ r l, Lo K He G H r l → Lo K He G' H' r l) → SameD G G' → Q u H') : spm1F K (Ob_Bindings K C) (fun _ _ => True) m_drop [.ref a, w] H Q E :=
  ⟨s, a, dx, names, w, G, rfl, ls.sub, ls.ob, hw, trivial, fun u G1 H1 F hF g ob _ => κ u G1 H1 (ls.growF hF g ob) (fun r l lo => lo.growF hF g) g.d⟩
/-- a comprehension over the rows -/
theorem x_filter {σ : L2.St} {tt : TT} {p : Row → Bool} {Q : VK} {j : Nat} (ls : LS K C He G H a dx s) (lo : Lo K He G H r rows) (hi : σ[2]? = some (some (.ref r))) (hz : rows.length ≤ 1000) (hj : j < σ.length)
    (ht : ∀ x v, x ∈ rows → rep K x v G → EvB tt ((wipe σ [j]).set j (some v)) G (p x))
    (κ : ∀ D H', LS K C He G H' a dx s → Lo K He G H' r rows → Lo K He G H' D (rows.filter p) → D ≠ r → Q (.ref D) H') : tLc (iList K (tVar 2)) (gName j) tt (tVar j) [j] σ H Q := by
  obtain ⟨xs, h1, h2⟩ := lo.h
  refine ⟨_, hi, r, rfl, ⟨xs, SqL.of h1⟩, fun D hD => ?_⟩
  have hDr : r ≠ D := ne_of_none h1 hD
  have hGD := ls.sub.free hD
  refine lc_it (walk_list (K := K) (a := r) (xs := xs)) (fun i H2 => ∃ ys, Grow G H G H2 ∧ H2 D = some (.lst ys) ∧ Reps K ((rows.take i).filter p) ys G) ⟨[], (Grow.refl ls.sub).loose hD, upd_same, .nil⟩ (fun i H2 _ ⟨_, g, _⟩ => SqL.of (g.h.l h1)) (fun i x H2 H3 hi ⟨ys, g, hDl, hys⟩ ⟨e3, hx⟩ => ?_) (fun H2 ⟨ys, g, hDl, hys⟩ => ?_)
  · subst e3
    obtain ⟨y, hy, ry⟩ := paired_get h2 hx
    refine ⟨by show (((σ.set j none).set j (some x)).set j none) = σ.set j none; rw [List.set_set, List.set_set], ?_⟩
    refine ht y x (List.mem_of_getElem? hy) ry H3 g.s _ fun G4 H4 g4 => ?_
    have g5 : Grow G H G H4 := ⟨Same.refl _, ls.sub.keep (g.h.trans g4.h) g4.s.t, g.h.trans g4.h, fun _ _ _ e => e⟩
    have hD4 := g4.h.l hDl
    cases hp : p y with
    | true =>
      refine iteT ⟨x, by show ((σ.set j none).set j (some x))[j]? = _; rw [List.set_set, List.getElem?_set_self hj], ys, hD4, ?_, ys ++ [x], g5.mut hD hGD (lst_no hD4), upd_same, ?_⟩
      · have e1 := paired_len hys
        have e2 := List.length_filter_le p (rows.take i)
        rw [List.length_take] at e2
        show _ < 16777216
        omega
      · rw [take_snoc hy, List.filter_append, show [y].filter p = [y] by rw [List.filter_cons_of_pos hp]; rfl]
        exact paired_append hys (.cons ry .nil)
    | false =>
      refine iteF ⟨ys, g5, hD4, ?_⟩
      rw [take_snoc hy, List.filter_append, show [y].filter p = [] by rw [List.filter_cons_of_neg (by rw [hp]; exact Bool.false_ne_true)]; rfl, List.append_nil]
      exact hys
  · rw [← paired_len h2, List.take_length] at hys
    exact κ D H2 (ls.grow g) (lo.grow g) ⟨hGD, ls.k.free hD, ys, hDl, hys⟩ (Ne.symm hDr)
theorem nextRI {n c : Str} {k : Ky} (h : RI s rows) (ok : RowOk ⟨n, k, c⟩) : RI (m_told s n k.l c).2 (nextRows rows n k c) ∧ (m_told s n k.l c).1 = m_bound rows n k.l ∧ (m_told s n k.l c).2.cm.length ≤ s.cm.length + 1 := by
  unfold m_told nextRows
  rw [bind_is h]
  cases q : m_bound rows n k.l with
  | none => exact ⟨h.bind ok q, rfl, bindL_len⟩
  | some z => exact ⟨h, rfl, Nat.le_succ _⟩
theorem seqP {t tz : TS} {D : Ends} {σ : L2.St} {H : Hp} (P : L2.St → Hp → Prop) (rest : ∀ σ H, P σ H → tz D σ H) (k : (∀ σ H, P σ H → tz D σ H) → t { D with nx := tz D } σ H) : tSeq t tz D σ H := k rest
end

/-! #### law -/
def m_law (_ : Scr) : Bool := true
abbrev p_law (K : PySem.W.Frag) : Sp := sp1 K (fun s => s.l.length ≤ 63) m_law
theorem law_true (ns : List Int) (_ : ns.length ≤ 63) : m_law ⟨ns⟩ = true := rfl
theorem n_ok : ∀ i : Fin 41, PyData.strOk (("n" : Str) ++ PySem.Str.ofString (toString (((i : Nat) : Int)))) = true ∧ ("n" : Str).length + (PySem.Str.ofString (toString (((i : Nat) : Int)))).length ≤ 100 := by decide +kernel
theorem pick3 {x : Int} {a b c : Str} (P : Str → Prop) (ha : P a) (hb : P b) (hc : P c) : P (getI [a, b, c] (x % 3)) := by
  have h1 := Int.emod_nonneg x (b := 3) (by decide)
  have h2 := Int.emod_lt_of_pos x (b := 3) (by decide)
  have : x % 3 = 0 ∨ x % 3 = 1 ∨ x % 3 = 2 := by omega
  rcases this with e | e | e
  · rw [e]; exact ha
  · rw [e]; exact hb
  · rw [e]; exact hc
theorem pick6 {x : Int} {a b c d e f : Str} (P : Str → Prop) (ha : P a) (hb : P b) (hc : P c) (hd : P d) (he : P e) (hf : P f) : P (getI [a, b, c, d, e, f] (x % 6)) := by
  have h1 := Int.emod_nonneg x (b := 6) (by decide)
  have h2 := Int.emod_lt_of_pos x (b := 6) (by decide)
  have : x % 6 = 0 ∨ x % 6 = 1 ∨ x % 6 = 2 ∨ x % 6 = 3 ∨ x % 6 = 4 ∨ x % 6 = 5 := by omega
  rcases this with z | z | z | z | z | z
  · rw [z]; exact ha
  · rw [z]; exact hb
  · rw [z]; exact hc
  · rw [z]; exact hd
  · rw [z]; exact he
  · rw [z]; exact hf
theorem str_ok (d : List Int) (i : Int) : KyOk (m__law_strokes d i).l ∧ ShS (m__law_strokes d i).l := by
  have hm : ∀ p ∈ (m__law_strokes d i).l, PyData.strOk p = true ∧ p.length ≤ 60 := fun p hp => by
    obtain ⟨k, _, e⟩ := List.mem_map.mp hp
    rw [← e]
    exact pick6 (fun z => PyData.strOk z = true ∧ z.length ≤ 60) (by decide +kernel) (by decide +kernel) (by decide +kernel) (by decide +kernel) (by decide +kernel) (by decide +kernel)
  have hl : (m__law_strokes d i).l.length ≤ 5 := by
    show (List.map _ (rgs 0 _)).length ≤ 5
    rw [List.length_map, rgs_len]
    have h1 := Int.emod_nonneg (getI d (i + 3)) (b := 3) (by decide)
    have h2 := Int.emod_lt_of_pos (getI d (i + 3)) (b := 3) (by decide)
    omega
  exact ⟨⟨fun p hp => (hm p hp).1, by omega⟩, hl, fun p hp => (hm p hp).2⟩
theorem fa_ok : KyOk [("F1" : Str), ("A" : Str)] ∧ ShS [("F1" : Str), ("A" : Str)] :=
  ⟨⟨fun p hp => by
    rcases List.mem_cons.mp hp with e | hp
    · rw [e]; decide +kernel
    · rw [List.mem_singleton.mp hp]; decide +kernel, by decide⟩, by decide, fun p hp => by
    rcases List.mem_cons.mp hp with e | hp
    · rw [e]; decide +kernel
    · rw [List.mem_singleton.mp hp]; decide +kernel⟩
theorem s_asgX {te : TE} {D : Ends} {σ : L2.St} {H : Hp} {i : Nat} (h : te σ H fun v H1 => D.nx (σ.set i (some v)) H1) : tAsg te (gName i) D σ H := h

theorem ok_law (T : Tx K mg base A) : FnOk P w K mg base CX0 7 A.f_law A.d_law ["script"] (p_law K) := by
  refine T.F_law.ok sc_law (fun vs He Q E h => ?_) (fun cdv A0 outer s He vs Q E hr h => ⟨_, (pss_cons (ps_set (i := 1) sc_law.nd rfl (Or.inl rfl) (pe_make0 T.mk_Bindings (ok_Bindings___init__ T) (hr.mono (by decide)) rfl T.gC_Bindings T.b_Bindings___init__ .nil pass0)) (pss_cons (ps_set (i := 2) sc_law.nd rfl (Or.inl rfl) (pe_lst pa_nil)) (pss_cons (ps_if (pt_cmpR op_eq (pe_op op_mod (pe_call (ok__law_cell T) (hr.mono (by decide)) rfl T.g__law_cell T.F__law_cell.kp T.b__law_cell .nil pass0 (pa_cons (pv 0) (pa_cons pe_int pa_nil))) pe_int) pe_int (nomark _)) (pss_one (ps_for PassesOwn.never rfl (pi_range1 rfl T.n_range (pa_cons (pe_op op_add pe_int (pe_op op_mod (pe_op op_fdiv (pe_call (ok__law_cell T) (hr.mono (by decide)) rfl T.g__law_cell T.F__law_cell.kp T.b__law_cell .nil pass0 (pa_cons (pv 0) (pa_cons pe_int pa_nil))) pe_int) pe_int)) pa_nil)) (pg_name (i := 3) sc_law.nd rfl (Or.inl rfl)) (pss_cons (ps_set (i := 8) sc_law.nd rfl (Or.inl rfl) (pe_call (ok__law_bound T) (hr.mono (by decide)) rfl T.g__law_bound T.F__law_bound.kp T.b__law_bound .nil pass0 (pa_cons (pv 2) (pa_cons (pe_op op_add_str pe_str (pe_callTy call_str_int rfl T.n_str boot_str (pa_cons (pv 3) pa_nil))) (pa_cons (pe_tup (pa_cons pe_str (pa_cons pe_str pa_nil))) (pa_cons pe_str pa_nil)))))) (pss_one (ps_if (pt_cmpR op_ne (pe_call (ok__law_told T) (hr.mono (by decide)) rfl T.g__law_told T.F__law_told.kp T.b__law_told .nil pass0 (pa_cons (pv 1) (pa_cons (pe_op op_add_str pe_str (pe_callTy call_str_int rfl T.n_str boot_str (pa_cons (pv 3) pa_nil))) (pa_cons (pe_tup (pa_cons pe_str (pa_cons pe_str pa_nil))) (pa_cons pe_str pa_nil))))) (pv 8) (nomark _)) (pss_one (ps_ret pe_bl)) pss_nil))))) pss_nil) (pss_cons (ps_for PassesOwn.never rfl (pi_range1 rfl T.n_range (pa_cons (pe_op op_mod (pe_call (ok__law_cell T) (hr.mono (by decide)) rfl T.g__law_cell T.F__law_cell.kp T.b__law_cell .nil pass0 (pa_cons (pv 0) (pa_cons pe_int pa_nil))) pe_int) pa_nil)) (pg_name (i := 3) sc_law.nd rfl (Or.inl rfl)) (pss_cons (ps_set (i := 4) sc_law.nd rfl (Or.inl rfl) (pe_call (ok__law_draws T) (hr.mono (by decide)) rfl T.g__law_draws T.F__law_draws.kp T.b__law_draws .nil pass0 (pa_cons (pe_call (ok__law_cell T) (hr.mono (by decide)) rfl T.g__law_cell T.F__law_cell.kp T.b__law_cell .nil pass0 (pa_cons (pv 0) (pa_cons (pe_op op_add pe_int (pv 3)) pa_nil))) (pa_cons pe_int pa_nil)))) (pss_cons (ps_set (i := 5) sc_law.nd rfl (Or.inr rfl) (pe_ix (ix_listK (K := K)) (pe_lst (pa_cons pe_str (pa_cons pe_str (pa_cons pe_str pa_nil)))) (pe_op op_mod (pe_callTy call_int1 rfl T.n_int boot_int (pa_cons (pe_ix (ix_listK (K := K)) (pv 4) pe_int fun _ _ => rfl) pa_nil)) pe_int) fun _ _ => rfl)) (pss_cons (ps_set (i := 6) sc_law.nd rfl (Or.inr rfl) (pe_call (ok__law_strokes T) (hr.mono (by decide)) rfl T.g__law_strokes T.F__law_strokes.kp T.b__law_strokes .nil pass0 (pa_cons (pv 4) (pa_cons pe_int pa_nil)))) (pss_cons (ps_set (i := 7) sc_law.nd rfl (Or.inl rfl) (pe_op op_mod (pe_callTy call_int1 rfl T.n_int boot_int (pa_cons (pe_ix (ix_listK (K := K)) (pv 4) pe_int fun _ _ => rfl) pa_nil)) pe_int)) (pss_cons (ps_if (pt_cmpR op_lt (pv 7) pe_int (nomark _)) (pss_cons (ps_set (i := 9) sc_law.nd rfl (Or.inl rfl) (pe_ix (ix_listK (K := K)) (pe_lst (pa_cons pe_str (pa_cons pe_str (pa_cons pe_str pa_nil)))) (pe_op op_mod (pe_callTy call_int1 rfl T.n_int boot_int (pa_cons (pe_ix (ix_listK (K := K)) (pv 4) pe_int fun _ _ => rfl) pa_nil)) pe_int) fun _ _ => rfl)) (pss_one (ps_if (pt_cmpR op_ne (pe_call (ok__law_told T) (hr.mono (by decide)) rfl T.g__law_told T.F__law_told.kp T.b__law_told .nil pass0 (pa_cons (pv 1) (pa_cons (pv 5) (pa_cons (pv 6) (pa_cons (pv 9) pa_nil))))) (pe_call (ok__law_bound T) (hr.mono (by decide)) rfl T.g__law_bound T.F__law_bound.kp T.b__law_bound .nil pass0 (pa_cons (pv 2) (pa_cons (pv 5) (pa_cons (pv 6) (pa_cons (pv 9) pa_nil))))) (nomark _)) (pss_one (ps_ret pe_bl)) pss_nil))) (pss_one (ps_if (pt_cmpR op_lt (pv 7) pe_int (nomark _)) (pss_cons (ps_setLc (i := 10) (own := [("row", 13)]) (g := gName 13) rfl sc_law.nd rfl rfl (sw_true rfl rfl rfl (by decide +kernel)) (pi_listK (K := K) (pv 2)) (blkOk_by (N := n_law) (sc := defScope s_law) (by decide +kernel)) (fun _ _ _ _ _ => pg_name (i := 13) sc_law.nd rfl (Or.inl rfl)) (fun _ _ _ _ _ => (pts_one (pt_cmpR (op_neK (K := K) (by exact hr.units)) (pe_slice (sl_tupK (K := K)) (pv 13) po_none (po_some pe_int)) (pe_tup (pa_cons (pv 5) (pa_cons (pv 6) pa_nil))) (nomark _)))) (fun _ _ _ _ _ => (pv 13))) (pss_cons (ps_set (i := 11) sc_law.nd rfl (Or.inl rfl) (pe_meth (pv 1) T.cl_Bindings T.me_Bindings_unbind (ok_Bindings_unbind T) (hr.mono (by decide)) T.b_Bindings_unbind .nil pass0 (pa_cons (pv 5) (pa_cons (pv 6) pa_nil)))) (pss_cons (ps_if (PW.pt (pw_or (pt_not (pt_val (pe_callB (call_isiK (K := K)) rfl T.n_isinstance boot_isinstance (pa_cons (pv 11) (pa_cons (pe_bltn (v := .ty "bool") rfl T.n_bool (by decide +kernel) rfl) pa_nil))))) (pw_or1 (pt_cmpR op_ne (pv 11) (pe_cmpR op_lt (pe_callB (call_lenK (K := K)) rfl T.n_len boot_len (pa_cons (pv 10) pa_nil)) (pe_callB (call_lenK (K := K)) rfl T.n_len boot_len (pa_cons (pv 2) pa_nil)) (nomark _)) (nomark _))))) (pss_one (ps_ret pe_bl)) pss_nil) (pss_one (ps_set (i := 2) sc_law.nd rfl (Or.inl rfl) (pv 10)))))) (pss_cons (ps_set (i := 12) sc_law.nd rfl (Or.inr rfl) (pe_ix (ix_listK (K := K)) (pe_lst (pa_cons (pe_lst (pa_cons pe_str pa_nil)) (pa_cons (pe_lst (pa_cons pe_str (pa_cons pe_str pa_nil))) (pa_cons (pe_lst pa_nil) (pa_cons (pe_lst (pa_cons pe_str (pa_cons pe_str pa_nil))) pa_nil))))) (pe_op op_mod (pe_callTy call_int1 rfl T.n_int boot_int (pa_cons (pe_ix (ix_listK (K := K)) (pv 4) pe_int fun _ _ => rfl) pa_nil)) pe_int) fun _ _ => rfl)) (pss_cons (ps_expr (pe_meth (pv 1) T.cl_Bindings T.me_Bindings_drop (ok_Bindings_drop T) (hr.mono (by decide)) T.b_Bindings_drop .nil pass0 (pa_cons (pv 12) pa_nil))) (pss_one (ps_setLc (i := 2) (own := [("row", 13)]) (g := gName 13) rfl sc_law.nd rfl rfl (sw_true rfl rfl rfl (by decide +kernel)) (pi_listK (K := K) (pv 2)) (blkOk_by (N := n_law) (sc := defScope s_law) (by decide +kernel)) (fun _ _ _ _ _ => pg_name (i := 13) sc_law.nd rfl (Or.inl rfl)) (fun _ _ _ _ _ => (pts_one (pt_cmpR (op_notInK (K := K)) (pe_ix (ix_tupK (K := K)) (pv 13) pe_int fun _ _ => rfl) (pv 12) (by rfl)))) (fun _ _ _ _ _ => (pv 13))))))))) (pss_one (ps_if (pt_not (pt_val (pe_call (ok__law_is_it T) (hr.mono (by decide)) rfl T.g__law_is_it T.F__law_is_it.kp T.b__law_is_it .nil pass0 (pa_cons (pv 1) (pa_cons (pv 2) (pa_cons (pe_call (ok__law_strokes T) (hr.mono (by decide)) rfl T.g__law_strokes T.F__law_strokes.kp T.b__law_strokes .nil pass0 (pa_cons (pv 4) (pa_cons pe_int pa_nil))) pa_nil)))))) (pss_one (ps_ret pe_bl)) pss_nil)))))))) (pss_one (ps_ret pe_bl)))))), ?_⟩)
  · obtain ⟨d_script, w_script, G, rfl, eG, h_script, hpre, hQ⟩ := h
    rfl
  · obtain ⟨d_script, w, G0, rfl, eG0, h_script0, hpre, hQ⟩ := h
    have s0 : Sub (dpart G0) He := ⟨fun b o e => eG0.m b o (dpart_le e).1, eG0.t⟩
    have h_script : rep K d_script w (dpart G0) := upd' (fun b o e d => dpart_of e d) h_script0
    have fin : ∀ {H' : Hp}, Kept He H' → (∀ P ∈ Tb.ps, GxR.TabG H' P) → Q (.bl true) H' := fun k t => hQ _ G0 _ ⟨Same.refl _, eG0.keep k t, k, fun _ _ _ e => e⟩ rfl
    refine q_make0 (Grow.refl s0) fun a dx G1 H1 aE _ g1 _ ob1 => ?_
    have ls1 : LS K A.c_Bindings He G1 H1 a dx ⟨[]⟩ := ⟨g1.h, g1.s, fun b o e n => by
      cases q : He b with
      | none => rfl
      | some u =>
        cases q2 : dpart G0 b with
        | none => rw [g1.f b u q q2] at e; cases e
        | some o' =>
          rw [g1.g _ _ q2] at e
          cases e
          exact absurd (dpart_le q2).2 n, ob1⟩
    have hs1 := up g1.g h_script
    refine q_new fun r0 hr0 => ?_
    have gl := (Grow.refl ls1.sub).loose (o := .lst []) hr0
    have ls2 := ls1.grow gl
    have lo2 : Lo K He G1 (upd H1 r0 (.lst [])) r0 [] := ⟨ls1.sub.free hr0, ls1.k.free hr0, [], upd_same, .nil⟩
    refine seqP (fun σ H => ∃ G s rows o3 o8, LS K A.c_Bindings He G H a dx s ∧ Lo K He G H r0 rows ∧ RI s rows ∧ s.cm.length ≤ 40 ∧ rep K d_script w G ∧ σ = [some w, some (.ref a), some (.ref r0), o3, none, none, none, none, o8, none, none, none, none, none]) ?_ fun rest => ?_
    · rintro σ H ⟨G, s, rows, o3, o8, ls, lo, ri, hz, hs, rfl⟩
      refine q_forR1 (K := K) ls.sub (ev_mod (ev_call2 (ev_var rfl hs) ev_int (by decide)) ev_int (by decide)) ?_ fun G4 H4 g4 => ?_
      · have h1 := Int.emod_nonneg (m__law_cell d_script 0) (b := 61) (by decide)
        have h2 := Int.emod_lt_of_pos (m__law_cell d_script 0) (b := 61) (by decide)
        constructor <;> omega
      refine ⟨fun i σ H => ∃ G s r rows o3 o4 o5 o6 o7 o8 o9 o10 o11 o12, LS K A.c_Bindings He G H a dx s ∧ Lo K He G H r rows ∧ RI s rows ∧ s.cm.length ≤ 40 + i ∧ rep K d_script w G ∧ σ = [some w, some (.ref a), some (.ref r), o3, o4, o5, o6, o7, o8, o9, o10, o11, o12, none],
        ⟨G4, s, r0, rows, o3, none, none, none, none, o8, none, none, none, none, ls.grow g4, lo.grow g4, ri, hz, up g4.g hs, rfl⟩, ?_, ?_⟩
      · rintro i σ1 H1 hi ⟨G, s, r, rows, o3, o4, o5, o6, o7, o8, o9, o10, o11, o12, ls, lo, ri, hz, hs, rfl⟩
        have hi61 : (i : Int) < 61 := Int.lt_trans hi (Int.emod_lt_of_pos _ (by decide))
        refine q_asg (K := K) ls.sub (ev_call2 (ev_call2 (ev_var rfl hs) (ev_add ev_int (ev_var (x := (i : Int)) rfl rfl)) (by omega)) ev_int (by decide)) fun wd G1 H1 g1 hd => ?_
        have ls := ls.grow g1
        have lo := lo.grow g1
        have hs := up g1.g hs
        have fd : (m__law_draws (m__law_cell d_script (2 + (i : Int))) 10).length = 10 := draws_len _ (by decide)
        generalize m__law_draws (m__law_cell d_script (2 + (i : Int))) 10 = dr at hd fd
        refine q_asg (K := K) ls.sub (ev_ixL (ev_lst (ea_cons ev_str (ea_cons ev_str (ea_cons ev_str ea_nil))) (by show 3 ≤ sizeLine; decide)) (ev_mod (ev_int1 (ev_ixL (ev_var rfl hd) ev_int (atI_get (at_in (by decide) (by rw [fd]; decide))))) ev_int (by decide)) (atI_get (at_in (Int.emod_nonneg _ (by decide)) (Int.emod_lt_of_pos _ (by decide))))) fun wn G2 H2 g2 hn => ?_
        have ls := ls.grow g2
        have lo := lo.grow g2
        have hs := up g2.g hs
        have hd := up g2.g hd
        have nok : PyData.strOk (getI [("a" : Str), ("b" : Str), ("root" : Str)] (getI dr 0 % 3)) = true := pick3 (fun z => PyData.strOk z = true) (by decide +kernel) (by decide +kernel) (by decide +kernel)
        generalize getI [("a" : Str), ("b" : Str), ("root" : Str)] (getI dr 0 % 3) = nd at hn nok
        obtain rfl : wn = V.str nd := hn
        refine q_asg (K := K) ls.sub (ev_call2 (ev_var rfl hd) ev_int ⟨fd, by decide, by decide⟩) fun wk G3 H3 g3 hk => ?_
        have ls := ls.grow g3
        have lo := lo.grow g3
        have hs := up g3.g hs
        have hd := up g3.g hd
        obtain ⟨kok, kss⟩ := str_ok dr 1
        generalize m__law_strokes dr 1 = ky at hk kok kss
        refine q_asg (K := K) ls.sub (ev_mod (ev_int1 (ev_ixL (ev_var rfl hd) ev_int (atI_get (at_in (by decide) (by rw [fd]; decide))))) ev_int (by decide)) fun wi G4 H4 g4 hkd => ?_
        have ls := ls.grow g4
        have lo := lo.grow g4
        have hs := up g4.g hs
        have hd := up g4.g hd
        have hk := up g4.g hk
        obtain rfl : wi = V.int _ := hkd
        refine seqP (fun σ H => ∃ G s r rows o3 o5 o6 o7 o8 o9 o10 o11 o12, LS K A.c_Bindings He G H a dx s ∧ Lo K He G H r rows ∧ RI s rows ∧ s.cm.length ≤ 40 + (i + 1) ∧ rep K d_script w G ∧ rep K dr wd G ∧ σ = [some w, some (.ref a), some (.ref r), o3, some wd, o5, o6, o7, o8, o9, o10, o11, o12, none]) ?_ fun rest => ?_
        · rintro σ H ⟨G, s, r, rows, o3, o5, o6, o7, o8, o9, o10, o11, o12, ls, lo, ri, hz, hs, hd, rfl⟩
          obtain ⟨xs, hr1, hr2⟩ := lo.h
          have s1 := sub_in ls.sub lo.g hr1 noTb_lst
          have sm1 : Same G (upd G r (.lst xs)) := same_upd lo.g
          refine s_ifX ?_
          refine ⟨_, rfl, _, rfl, ?_⟩
          refine (ev_call2 (ev_var rfl (up sm1 hd)) ev_int ⟨fd, by decide, by decide⟩) H s1 _ fun v G1 H1 g1 hv => ?_
          refine ⟨s, a, dx, rows, _, .ref r, v, G1, rfl, g1.s, (ob_Bindings K A.c_Bindings).up (sm1.trans g1.g) ls.ob, ⟨r, xs, rfl, g1.g _ _ upd_same, hr2.up (sm1.trans g1.g)⟩, hv, ⟨ri, (str_ok dr 6).1⟩, fun u G2 H2 g2 hu => ⟨_, hu, ?_⟩⟩
          rw [is_it_true ri]
          refine xF rfl ?_
          exact ⟨G, s, r, rows, _, _, _, _, _, _, _, _, _, _, ls.back (g1.h.trans g2.h) g2.s.t, lo.back (g1.h.trans g2.h), ri, hz, hs, rfl⟩
        · refine s_if ls.sub (et_test (ev_lt (K := K) (ev_var (x := getI dr 5 % 8) rfl rfl) ev_int)) ?_ ?_
          · intro _ G5 H5 g5
            have ls := ls.grow g5
            have lo := lo.grow g5
            have hs := up g5.g hs
            have hd := up g5.g hd
            have hk := up g5.g hk
            refine q_asg (K := K) ls.sub (ev_ixL (ev_lst (ea_cons ev_str (ea_cons ev_str (ea_cons ev_str ea_nil))) (by show 3 ≤ sizeLine; decide)) (ev_mod (ev_int1 (ev_ixL (ev_var rfl hd) ev_int (atI_get (at_in (by decide) (by rw [fd]; decide))))) ev_int (by decide)) (atI_get (at_in (Int.emod_nonneg _ (by decide)) (Int.emod_lt_of_pos _ (by decide))))) fun wc G6 H6 g6 hc => ?_
            have ls := ls.grow g6
            have lo := lo.grow g6
            have hs := up g6.g hs
            have hd := up g6.g hd
            have hk := up g6.g hk
            have cok : PyData.strOk (getI [("activate" : Str), ("focus a" : Str), ("run x" : Str)] (getI dr 6 % 3)) = true := pick3 (fun z => PyData.strOk z = true) (by decide +kernel) (by decide +kernel) (by decide +kernel)
            generalize getI [("activate" : Str), ("focus a" : Str), ("run x" : Str)] (getI dr 6 % 3) = cmd at hc cok
            obtain rfl : wc = V.str cmd := hc
            obtain ⟨ri2, et, hl2⟩ := nextRI (n := nd) (c := cmd) (k := ky) ri ⟨nok, kok, kss, cok⟩
            refine s_ifX ?_
            refine ⟨_, rfl, _, rfl, _, rfl, _, rfl, ?_⟩
            change spTold K (Ob_Bindings K A.c_Bindings) [.ref a, .str nd, wk, .str cmd] _ _ (fun _ _ _ => False)
            refine x_told ls hk ⟨kok, kss, by omega⟩ fun u G7 H7 ls7 tr sd hu => ?_
            refine ⟨_, rfl, _, rfl, _, rfl, _, rfl, ?_⟩
            change spBound K [.ref r, .str nd, wk, .str cmd] _ _ (fun _ _ _ => False)
            refine x_bound ls7 (tr _ _ lo) (upd' sd hk) ⟨ri.ok, kok, ri.n⟩ fun u2 G8 H8 ls8 lo8 sd2 hu2 => ?_
            have e1 := Flat.eq.mp hu
            have e2 := Flat.eq.mp hu2
            rw [et] at e1
            subst e1 e2
            refine ⟨Flat.sc _ _, _, rfl, ?_⟩
            rw [Flat.inj]
            refine xF (by simp) ?_
            exact rest _ _ ⟨G8, _, r, _, _, _, _, _, _, _, _, _, _, ls8, lo8, ri2, by omega, upd' sd2 (upd' sd hs), upd' sd2 (upd' sd hd), rfl⟩
          · intro _ G5 H5 g5
            have ls := ls.grow g5
            have lo := lo.grow g5
            have hs := up g5.g hs
            have hd := up g5.g hd
            have hk := up g5.g hk
            refine s_if ls.sub (et_test (ev_lt (K := K) (ev_var (x := getI dr 5 % 8) rfl rfl) ev_int)) ?_ ?_
            · intro _ G6 H6 g6
              have ls := ls.grow g6
              have lo := lo.grow g6
              have hs := up g6.g hs
              have hd := up g6.g hd
              have hk := up g6.g hk
              refine q_asgX (x_filter (j := 13) (p := keepT nd ky) ls lo rfl (Nat.le_trans ri.n (by decide)) (by show 13 < 14; decide) (fun x v hx hv => et_test (ev_neD (ev_sl3 (ev_var rfl hv)) (ev_tup2 (x := nd) (ev_var rfl rfl) (ev_var rfl hk)) ⟨(la_nk (ri.ok x hx).a (ri.ok x hx).k.t).sh (by decide), (la_nk nok kok.t).sh (by decide)⟩)) fun Dk H7 ls lo lod ne => ?_)
              obtain ⟨fs, hG⟩ := (ob_Bindings K A.c_Bindings).ins ls.ob
              refine q_asgX ⟨_, rfl, a, dx, fs, rfl, ls.sub _ _ hG, nm_Bindings_unbind (K := K) ls.ob fs hG, _, rfl, _, rfl, ?_⟩
              change spm2F K (Ob_Bindings K A.c_Bindings) (fun _ _ k => KyOk k.l) (fun s (n : Str) (k : Ky) => m_unbind s n k.l) [.ref a, .str nd, wk] _ _ (fun _ _ _ => False)
              refine x_unbind ls hk kok fun u G8 H8 ls tr sd hu => ?_
              have lo := tr _ _ lo
              have lod := tr _ _ lod
              have hs := upd' sd hs
              have hd := upd' sd hd
              have hu : u = .bl (m_unbind s nd ky.l).1 := hu
              subst hu
              obtain ⟨xs, hr1, hr2⟩ := lo.h
              obtain ⟨ys, hy1, hy2⟩ := lod.h
              have s1 := sub_in ls.sub lo.g hr1 noTb_lst
              have sm1 : Same G8 (upd G8 r (.lst xs)) := same_upd lo.g
              have nD : upd G8 r (.lst xs) Dk = none := by rw [upd_ne ne]; exact lod.g
              have s2 := sub_in s1 nD hy1 noTb_lst
              have sm2 := sm1.trans (same_upd (o := .lst ys) nD)
              have hrows : rep K rows (.ref r) (upd (upd G8 r (.lst xs)) Dk (.lst ys)) := ⟨r, xs, rfl, same_upd nD _ _ upd_same, hr2.up sm2⟩
              have hkept : rep K (rows.filter (keepT nd ky)) (.ref Dk) (upd (upd G8 r (.lst xs)) Dk (.lst ys)) := ⟨Dk, ys, rfl, upd_same, hy2.up sm2⟩
              refine q_if s2 (et_or (et_not (et_B (ev_isBool (ev_var (x := (m_unbind s nd ky.l).1) rfl rfl)))) fun _ => et_test (ev_ne (ev_var (x := (m_unbind s nd ky.l).1) rfl rfl) (ev_lt (ev_lenL (ev_var rfl hkept)) (ev_lenL (ev_var rfl hrows))))) ?_ ?_
              · intro hb
                rw [unbind_told ri] at hb
                simp [eqB] at hb
              · intro _ G9 H9 g9
                have hlen : (m_unbind s nd ky.l).2.cm.length = s.cm.length := by
                  unfold m_unbind
                  cases has (look s.cm nd) ky.l with
                  | true => show (upds s.cm nd _).length = _; unfold upds; rw [List.length_map]
                  | false => rfl
                refine ⟨_, rfl, rest _ _ ⟨G8, _, Dk, _, _, _, _, _, _, _, _, _, _, ls.back g9.h g9.s.t, lod.back g9.h, ri.unbind nd ky, by omega, hs, hd, rfl⟩⟩
            · intro _ G6 H6 g6
              have ls := ls.grow g6
              have lo := lo.grow g6
              have hs := up g6.g hs
              have hd := up g6.g hd
              refine q_asg (K := K) ls.sub (ev_ixL (ev_lst (ea_cons (ev_lst (ea_cons ev_str ea_nil) (by show 1 ≤ sizeLine; decide)) (ea_cons (ev_lst (ea_cons ev_str (ea_cons ev_str ea_nil)) (by show 2 ≤ sizeLine; decide)) (ea_cons (ev_lst (α := Str) ea_nil (by show 0 ≤ sizeLine; decide)) (ea_cons (ev_lst (ea_cons ev_str (ea_cons ev_str ea_nil)) (by show 2 ≤ sizeLine; decide)) ea_nil)))) (by show 4 ≤ sizeLine; decide)) (ev_mod (ev_int1 (ev_ixL (ev_var rfl hd) ev_int (atI_get (at_in (by decide) (by rw [fd]; decide))))) ev_int (by decide)) (atI_get (at_in (Int.emod_nonneg _ (by decide)) (Int.emod_lt_of_pos _ (by decide))))) fun wx G7 H7 g7 hx => ?_
              have ls := ls.grow g7
              have lo := lo.grow g7
              have hs := up g7.g hs
              have hd := up g7.g hd
              obtain ⟨nms, en⟩ : ∃ nms, nms = getI [[("b" : Str)], [("a" : Str), ("n3" : Str)], [], [("root" : Str), ("zz" : Str)]] (getI dr 7 % 4) := ⟨_, rfl⟩
              have hx : rep K nms wx G7 := by rw [en]; exact hx
              obtain ⟨fs, hG⟩ := (ob_Bindings K A.c_Bindings).ins ls.ob
              refine ⟨_, rfl, a, dx, fs, rfl, ls.sub _ _ hG, nm_Bindings_drop (K := K) ls.ob fs hG, _, rfl, ?_⟩
              change spm1F K (Ob_Bindings K A.c_Bindings) (fun _ _ => True) m_drop [.ref a, wx] _ _ (fun _ _ _ => False)
              refine x_drop ls hx fun u G8 H8 ls tr sd => ?_
              have lo := tr _ _ lo
              have hs := upd' sd hs
              have hd := upd' sd hd
              have hx := upd' sd hx
              refine s_asgX (x_filter (j := 13) (p := fun y => !memB y.a nms) ls lo rfl (Nat.le_trans ri.n (by decide)) (by show 13 < 14; decide) (fun x v _ hv => et_test (ev_notInL (ev_ix30 (ev_var rfl hv)) (ev_var rfl hx))) fun Dk H9 ls lo lod ne => ?_)
              have hlen : (m_drop s nms).2.cm.length ≤ s.cm.length := drops_sub.length_le
              exact rest _ _ ⟨G8, _, Dk, _, _, _, _, _, _, _, _, _, _, ls, lod, ri.drop nms, by omega, hs, hd, rfl⟩
      · rintro σ1 H1 ⟨G, s, r, rows, o3, o4, o5, o6, o7, o8, o9, o10, o11, o12, ls, lo, ri, hz, hs, rfl⟩
        refine s_ret (K := K) ls.sub ev_bl fun u Gr Hr gq hu => ?_
        obtain rfl : u = V.bl true := hu
        exact fin (ls.k.trans gq.h) gq.s.t
    · refine s_if ls2.sub (et_test (ev_eq (ev_mod (ev_call2 (ev_var rfl hs1) ev_int (by decide)) ev_int (by decide)) ev_int)) ?_ ?_
      · intro _ G3 H3 g3
        have ls3 := ls2.grow g3
        have lo3 := lo2.grow g3
        have hs3 := up g3.g hs1
        have h1 := Int.emod_nonneg (m__law_cell d_script 1 / 4) (b := 4) (by decide)
        have h2 := Int.emod_lt_of_pos (m__law_cell d_script 1 / 4) (b := 4) (by decide)
        refine s_forR1 (K := K) ls3.sub (ev_add ev_int (ev_mod (ev_fdiv (ev_call2 (ev_var rfl hs3) ev_int (by decide)) ev_int ⟨by decide, by decide⟩) ev_int (by decide))) (by constructor <;> omega) fun G4 H4 g4 => ?_
        refine ⟨fun i σ H => ∃ G s rows o3 o8, LS K A.c_Bindings He G H a dx s ∧ Lo K He G H r0 rows ∧ RI s rows ∧ s.cm.length ≤ i ∧ rep K d_script w G ∧ σ = [some w, some (.ref a), some (.ref r0), o3, none, none, none, none, o8, none, none, none, none, none],
          ⟨G4, ⟨[]⟩, [], none, none, ls3.grow g4, lo3.grow g4, RI.nil, Nat.le_refl _, up g4.g hs3, rfl⟩, ?_, ?_⟩
        · rintro i σ1 H1 hi ⟨G, s, rows, o3, o8, ls, lo, ri, hz, hs, rfl⟩
          have hi40 : i < 41 := by omega
          obtain ⟨nok, nl⟩ := n_ok ⟨i, hi40⟩
          have nok : PyData.strOk (("n" : Str) ++ PySem.Str.ofString (toString (i : Int))) = true := nok
          have nl : ("n" : Str).length + (PySem.Str.ofString (toString (i : Int))).length ≤ 100 := nl
          have lg : (i : Int).natAbs.log2 < 1920 := by rw [Int.natAbs_natCast]; exact Nat.lt_of_le_of_lt (Nat.log2_le_self i) (by omega)
          refine q_asgX ⟨_, rfl, ?_⟩
          refine (ev_addS (K := K) ev_str (ev_strI (ev_var (x := (i : Int)) rfl rfl) lg) (Nat.le_trans nl (by decide))) H1 ls.sub _ fun v1 G5 H5 g5 hv1 => ?_
          obtain rfl : v1 = V.str _ := hv1
          refine (ev_kyt (K := K) (l := [("F1" : Str), ("A" : Str)]) (ea_cons ev_str (ea_cons ev_str ea_nil)) (by show 2 ≤ sizeLine; decide)) H5 g5.s _ fun v2 G6 H6 g6 hv2 => ?_
          have ls := (ls.grow g5).grow g6
          have lo := (lo.grow g5).grow g6
          have hs := up g6.g (up g5.g hs)
          change spBound K [.ref r0, .str _, v2, .str "activate"] _ _ (fun _ _ _ => False)
          refine x_bound (k := ⟨[("F1" : Str), ("A" : Str)]⟩) ls lo hv2 ⟨ri.ok, fa_ok.1, ri.n⟩ fun u G7 H7 ls lo sd hu => ?_
          have hs := upd' sd hs
          refine s_ifX ?_
          refine ⟨_, rfl, ?_⟩
          refine (ev_addS (K := K) ev_str (ev_strI (ev_var (x := (i : Int)) rfl rfl) lg) (Nat.le_trans nl (by decide))) H7 ls.sub _ fun v1 G8 H8 g8 hv1 => ?_
          obtain rfl : v1 = V.str _ := hv1
          refine (ev_kyt (K := K) (l := [("F1" : Str), ("A" : Str)]) (ea_cons ev_str (ea_cons ev_str ea_nil)) (by show 2 ≤ sizeLine; decide)) H8 g8.s _ fun v3 G9 H9 g9 hv3 => ?_
          have ls := (ls.grow g8).grow g9
          have lo := (lo.grow g8).grow g9
          have hs := up g9.g (up g8.g hs)
          have hu := up g9.g (up g8.g hu)
          obtain ⟨ri2, et, hl2⟩ := nextRI (n := ("n" : Str) ++ PySem.Str.ofString (toString (i : Int))) (c := ("activate" : Str)) (k := ⟨[("F1" : Str), ("A" : Str)]⟩) ri ⟨nok, fa_ok.1, fa_ok.2, show PyData.strOk ("activate" : Str) = true by decide +kernel⟩
          change spTold K (Ob_Bindings K A.c_Bindings) [.ref a, .str _, v3, .str "activate"] _ _ (fun _ _ _ => False)
          refine x_told (k := ⟨[("F1" : Str), ("A" : Str)]⟩) ls hv3 ⟨fa_ok.1, fa_ok.2, by omega⟩ fun u2 G10 H10 ls10 tr sd2 hu2 => ?_
          refine ⟨_, rfl, ?_⟩
          have e1 := Flat.eq.mp hu2
          have e2 := Flat.eq.mp hu
          rw [et] at e1
          subst e1 e2
          refine ⟨Flat.sc _ _, _, rfl, ?_⟩
          rw [Flat.inj]
          refine xF (by simp) ?_
          exact ⟨G10, _, _, _, _, ls10, tr _ _ lo, ri2, by omega, upd' sd2 hs, rfl⟩
        · rintro σ1 H1 ⟨G, s, rows, o3, o8, ls, lo, ri, hz, hs, rfl⟩
          exact rest _ _ ⟨G, s, rows, o3, o8, ls, lo, ri, by omega, hs, rfl⟩
      · intro _ G3 H3 g3
        exact rest _ _ ⟨G3, ⟨[]⟩, [], none, none, ls2.grow g3, lo2.grow g3, RI.nil, Nat.zero_le _, up g3.g hs1, rfl⟩

end
section
variable [Tb]

end
theorem walk_tabsM {l : PySem.W.OpenLaw} {q : Program} {loose : List Str} {XP : (Str → Option Value) → Heap → Prop} {YP : World → Heap → Prop} {d : DefRec} {K : Params → PySem.W.Frag} {lv nm : Nat} {ts : List Addr}
    (hn : l.most = some nm) (hn2 : nm ≤ sizeLine) (hdf : d.params.defaults = []) (hr : Room lv callerA) (hY : ∀ (w : World) (h : Heap), YP w h → (K w.params).In h) (hT : ∀ (w : World) (h : Heap), YP w h → ∀ P ∈ ts, h.get? P = some { cls := .none, data := .fields #[] })
    (F : ∀ (w : World) (mg : Str → Option Value) (fa : Addr) (h : Heap), (K w.params).In h → h.Ns mainGlobals mg → mg d.name = some (.ref fa) →
      ∃ (fd : FuncData) (cs : List (Addr × Addr)) (sp : Sp), (∀ p ∈ cs, p.2 ∈ ts ∧ PySem.W.codeHdIn (K w.params) p.1 p.2 = true) ∧ (∀ p ∈ cs, (K w.params).lookup p.2 = none) ∧
        (∀ (s : Shared) (u : Value), BindsTo s fd ⟨[u], []⟩ [("script", u)]) ∧
        (∀ (H : Hp) (a : Addr) (ns : List Int), ns.length ≤ nm → (∀ p ∈ cs, H p.2 = some (.tbl #[])) → SqL (K w.params) H a (ns.map V.int) → sp [.ref a] H (fun v _ => v = .bl true) fun _ _ _ => False) ∧
        ∀ base : Heap, (K w.params).In base → base.Ns mainGlobals mg → (∀ p ∈ cs, GxR.TabB base mg p.1 p.2) → FnOk l.prog w (K w.params) mg base CX0 lv fa fd ["script"] sp) :
    PySem.W.WalkO q loose XP YP l.row.toRowW d [] (fun f vs => PySem.call f vs) := by
  refine Att.attach_callB hn hdf fun w s0 s1 mg mb fa o pm cd doc a vs ns G Y ho hd hcd hmg hobj hints hlen hbits hg => ?_
  have KX := hY w _ Y
  have YT := hT w _ Y
  obtain ⟨fd, cs, sp, hx, nT, hb, hsp, hF⟩ := F w mg fa _ KX G.T.g hmg
  have tabs : ∀ p ∈ cs, PySem.W.CodeHd s1.heap p.1 p.2 ∧ s1.heap.get? p.2 = some { cls := .none, data := .fields #[] } := fun p hp =>
    ⟨PySem.W.codeHd_of_K KX (hx p hp).2, YT p.2 (hx p hp).1⟩
  exact LamX.law_callTs KX G.T.g G.T.b G.T.builtins G.T.nolimit hg (fun p hp => (tabs p hp).2) nT (fun p hp => (tabs p hp).1) G.T.bmain hobj hints (Nat.le_trans hlen hn2) hr (CX := CX0) (fun base b1 b2 b3 => hF base b1 b2 fun p hp => ⟨(b3 p hp).code, (b3 p hp).bm, (b3 p hp).gP⟩) hb
    (fun H hH hS => hsp H a ns hlen hH hS) fun H e s' z => z
theorem all_mk {l : PySem.W.OpenLaw} {w : World} {K : PySem.W.Frag} {h : Heap} {mg : Str → Option Value} {fa : Addr} (X : K.In h) (G : h.Ns mainGlobals mg) (hfa : mg "law" = some (.ref fa))
    {OC0 : Addr}
    {f0 : Addr} {od0 an0 : Option Addr} {sl0 : Array (Option Value)} {oc0 kV0 dc0 pm0 cd0 ct0 : Value}
    {f1 : Addr} {od1 an1 : Option Addr} {sl1 : Array (Option Value)} {oc1 kV1 dc1 pm1 cd1 ct1 : Value}
    {f2 : Addr} {od2 an2 : Option Addr} {sl2 : Array (Option Value)} {oc2 kV2 dc2 pm2 cd2 ct2 : Value}
    {f3 : Addr} {od3 an3 : Option Addr} {sl3 : Array (Option Value)} {oc3 kV3 dc3 pm3 cd3 ct3 : Value}
    {f4 : Addr} {od4 an4 : Option Addr} {sl4 : Array (Option Value)} {oc4 kV4 dc4 pm4 cd4 ct4 : Value}
    {f5 : Addr} {od5 an5 : Option Addr} {sl5 : Array (Option Value)} {oc5 kV5 dc5 pm5 cd5 ct5 : Value}
    {f6 : Addr} {od6 an6 : Option Addr} {sl6 : Array (Option Value)} {oc6 kV6 dc6 pm6 cd6 ct6 : Value}
    {f7 : Addr} {od7 an7 : Option Addr} {sl7 : Array (Option Value)} {oc7 kV7 dc7 pm7 cd7 ct7 : Value}
    {f8 : Addr} {od8 an8 : Option Addr} {sl8 : Array (Option Value)} {oc8 kV8 dc8 pm8 cd8 ct8 : Value}
    {f9 : Addr} {od9 an9 : Option Addr} {sl9 : Array (Option Value)} {oc9 kV9 dc9 pm9 cd9 ct9 : Value}
    {f10 : Addr} {od10 an10 : Option Addr} {sl10 : Array (Option Value)} {oc10 kV10 dc10 pm10 cd10 ct10 : Value}
    {f11 : Addr} {od11 an11 : Option Addr} {sl11 : Array (Option Value)} {oc11 kV11 dc11 pm11 cd11 ct11 : Value}
    {f12 : Addr} {od12 an12 : Option Addr} {sl12 : Array (Option Value)} {oc12 kV12 dc12 pm12 cd12 ct12 : Value}
    {f13 : Addr} {od13 an13 : Option Addr} {sl13 : Array (Option Value)} {oc13 kV13 dc13 pm13 cd13 ct13 : Value}
    {f14 : Addr} {od14 an14 : Option Addr} {sl14 : Array (Option Value)} {oc14 kV14 dc14 pm14 cd14 ct14 : Value}
    {f15 : Addr} {od15 an15 : Option Addr} {sl15 : Array (Option Value)} {oc15 kV15 dc15 pm15 cd15 ct15 : Value}
    {f16 : Addr} {od16 an16 : Option Addr} {sl16 : Array (Option Value)} {oc16 kV16 dc16 pm16 cd16 ct16 : Value}
    {f17 : Addr} {od17 an17 : Option Addr} {sl17 : Array (Option Value)} {oc17 kV17 dc17 pm17 cd17 ct17 : Value}
    {f18 : Addr} {od18 an18 : Option Addr} {sl18 : Array (Option Value)} {oc18 kV18 dc18 pm18 cd18 ct18 : Value}
    {ci0 : Value}
    {B0 : Addr}
    {X0 I0 N0 : Addr} {xn0 xq0 : Str} {xb0 : List Value} {xs0 : List Str} {xu0 : List Value} {xa0 : Bool} {xc0 : Option Bool} {xd0 : Option Addr} {m00 m10 m20 m30 m50 : Option Value}
    {iod0 ian0 : Option Addr} {isl0 : Array (Option Value)} {ioc0 ikV0 idc0 ipm0 icd0 ict0 : Value}
    (o0C : PySem.W.nsIn K mainGlobals "Bindings" = some (some (.ref OC0)))
    (o0g : PySem.W.plainGet K OC0 Str.empty = true)
    (o0h : PySem.W.hasDictIn K OC0 = true)
    (o0o : PySem.W.plainOver K OC0 = true)
    (o0s : PySem.W.findIn K (.ref OC0) "__setattr__" = some (some (.builtin "object.__setattr__")))
    (o0m : PySem.W.makesIn K OC0 = true)
    (o0k : PySem.W.keepIn K (.ref OC0) = true)
    (o0f0 : PySem.W.findIn K (.ref OC0) "_commands" = some none)
    (a0 : PySem.W.nsIn K mainGlobals "is_prefix" = some (some (.ref f0)))
    (l0 : K.lookup f0 = some ⟨oc0, od0, .func (PySem.W.fnOf "is_prefix" "is_prefix" (defArgs s_is_prefix) (defBody s_is_prefix) (defScope s_is_prefix) .none kV0 dc0 pm0 an0 cd0 ct0), sl0⟩)
    (c0 : PySem.W.codeIn K cd0 "is_prefix" = true)
    (k0 : PySem.W.keepIn K (.ref f0) = true)
    (a1 : PySem.W.nsIn K mainGlobals "shown" = some (some (.ref f1)))
    (l1 : K.lookup f1 = some ⟨oc1, od1, .func (PySem.W.fnOf "shown" "shown" (defArgs s_shown) (defBody s_shown) (defScope s_shown) .none kV1 dc1 pm1 an1 cd1 ct1), sl1⟩)
    (c1 : PySem.W.codeIn K cd1 "shown" = true)
    (k1 : PySem.W.keepIn K (.ref f1) = true)
    (a2 : PySem.W.findIn K (.ref OC0) "__init__" = some (some (.ref f2)))
    (n2 : PySem.W.isFn K (.ref f2) = true)
    (l2 : K.lookup f2 = some ⟨oc2, od2, .func (PySem.W.fnOf "__init__" "Bindings.__init__" (defArgs s_Bindings___init__) (defBody s_Bindings___init__) (defScope s_Bindings___init__) .none kV2 dc2 pm2 an2 cd2 ct2), sl2⟩)
    (c2 : PySem.W.codeIn K cd2 "Bindings.__init__" = true)
    (k2 : PySem.W.keepIn K (.ref f2) = true)
    (a3 : PySem.W.findIn K (.ref OC0) "bind" = some (some (.ref f3)))
    (n3 : PySem.W.isFn K (.ref f3) = true)
    (l3 : K.lookup f3 = some ⟨oc3, od3, .func (PySem.W.fnOf "bind" "Bindings.bind" (defArgs s_Bindings_bind) (defBody s_Bindings_bind) (defScope s_Bindings_bind) .none kV3 dc3 pm3 an3 cd3 ct3), sl3⟩)
    (c3 : PySem.W.codeIn K cd3 "Bindings.bind" = true)
    (k3 : PySem.W.keepIn K (.ref f3) = true)
    (a4 : PySem.W.findIn K (.ref OC0) "unbind" = some (some (.ref f4)))
    (n4 : PySem.W.isFn K (.ref f4) = true)
    (l4 : K.lookup f4 = some ⟨oc4, od4, .func (PySem.W.fnOf "unbind" "Bindings.unbind" (defArgs s_Bindings_unbind) (defBody s_Bindings_unbind) (defScope s_Bindings_unbind) .none kV4 dc4 pm4 an4 cd4 ct4), sl4⟩)
    (c4 : PySem.W.codeIn K cd4 "Bindings.unbind" = true)
    (k4 : PySem.W.keepIn K (.ref f4) = true)
    (a5 : PySem.W.findIn K (.ref OC0) "of" = some (some (.ref f5)))
    (n5 : PySem.W.isFn K (.ref f5) = true)
    (l5 : K.lookup f5 = some ⟨oc5, od5, .func (PySem.W.fnOf "of" "Bindings.of" (defArgs s_Bindings_of) (defBody s_Bindings_of) (defScope s_Bindings_of) .none kV5 dc5 pm5 an5 cd5 ct5), sl5⟩)
    (c5 : PySem.W.codeIn K cd5 "Bindings.of" = true)
    (k5 : PySem.W.keepIn K (.ref f5) = true)
    (a6 : PySem.W.findIn K (.ref OC0) "is_bound" = some (some (.ref f6)))
    (n6 : PySem.W.isFn K (.ref f6) = true)
    (l6 : K.lookup f6 = some ⟨oc6, od6, .func (PySem.W.fnOf "is_bound" "Bindings.is_bound" (defArgs s_Bindings_is_bound) (defBody s_Bindings_is_bound) (defScope s_Bindings_is_bound) .none kV6 dc6 pm6 an6 cd6 ct6), sl6⟩)
    (c6 : PySem.W.codeIn K cd6 "Bindings.is_bound" = true)
    (k6 : PySem.W.keepIn K (.ref f6) = true)
    (a7 : PySem.W.findIn K (.ref OC0) "drop" = some (some (.ref f7)))
    (n7 : PySem.W.isFn K (.ref f7) = true)
    (l7 : K.lookup f7 = some ⟨oc7, od7, .func (PySem.W.fnOf "drop" "Bindings.drop" (defArgs s_Bindings_drop) (defBody s_Bindings_drop) (defScope s_Bindings_drop) .none kV7 dc7 pm7 an7 cd7 ct7), sl7⟩)
    (c7 : PySem.W.codeIn K cd7 "Bindings.drop" = true)
    (k7 : PySem.W.keepIn K (.ref f7) = true)
    (a8 : PySem.W.findIn K (.ref OC0) "match" = some (some (.ref f8)))
    (n8 : PySem.W.isFn K (.ref f8) = true)
    (l8 : K.lookup f8 = some ⟨oc8, od8, .func (PySem.W.fnOf "match" "Bindings.match" (defArgs s_Bindings_match) (defBody s_Bindings_match) (defScope s_Bindings_match) .none kV8 dc8 pm8 an8 cd8 ct8), sl8⟩)
    (c8 : PySem.W.codeIn K cd8 "Bindings.match" = true)
    (k8 : PySem.W.keepIn K (.ref f8) = true)
    (a9 : PySem.W.findIn K (.ref OC0) "count" = some (some (.ref f9)))
    (n9 : PySem.W.isFn K (.ref f9) = true)
    (l9 : K.lookup f9 = some ⟨oc9, od9, .func (PySem.W.fnOf "count" "Bindings.count" (defArgs s_Bindings_count) (defBody s_Bindings_count) (defScope s_Bindings_count) .none kV9 dc9 pm9 an9 cd9 ct9), sl9⟩)
    (c9 : PySem.W.codeIn K cd9 "Bindings.count" = true)
    (k9 : PySem.W.keepIn K (.ref f9) = true)
    (a10 : PySem.W.nsIn K mainGlobals "_law_cell" = some (some (.ref f10)))
    (l10 : K.lookup f10 = some ⟨oc10, od10, .func (PySem.W.fnOf "_law_cell" "_law_cell" (defArgs s__law_cell) (defBody s__law_cell) (defScope s__law_cell) .none kV10 dc10 pm10 an10 cd10 ct10), sl10⟩)
    (c10 : PySem.W.codeIn K cd10 "_law_cell" = true)
    (k10 : PySem.W.keepIn K (.ref f10) = true)
    (a11 : PySem.W.nsIn K mainGlobals "_law_draws" = some (some (.ref f11)))
    (l11 : K.lookup f11 = some ⟨oc11, od11, .func (PySem.W.fnOf "_law_draws" "_law_draws" (defArgs s__law_draws) (defBody s__law_draws) (defScope s__law_draws) .none kV11 dc11 pm11 an11 cd11 ct11), sl11⟩)
    (c11 : PySem.W.codeIn K cd11 "_law_draws" = true)
    (k11 : PySem.W.keepIn K (.ref f11) = true)
    (a12 : PySem.W.nsIn K mainGlobals "_law_strokes" = some (some (.ref f12)))
    (l12 : K.lookup f12 = some ⟨oc12, od12, .func (PySem.W.fnOf "_law_strokes" "_law_strokes" (defArgs s__law_strokes) (defBody s__law_strokes) (defScope s__law_strokes) .none kV12 dc12 pm12 an12 cd12 ct12), sl12⟩)
    (c12 : PySem.W.codeIn K cd12 "_law_strokes" = true)
    (k12 : PySem.W.keepIn K (.ref f12) = true)
    (a13 : PySem.W.nsIn K mainGlobals "_law_begins" = some (some (.ref f13)))
    (l13 : K.lookup f13 = some ⟨oc13, od13, .func (PySem.W.fnOf "_law_begins" "_law_begins" (defArgs s__law_begins) (defBody s__law_begins) (defScope s__law_begins) .none kV13 dc13 pm13 an13 cd13 ct13), sl13⟩)
    (c13 : PySem.W.codeIn K cd13 "_law_begins" = true)
    (k13 : PySem.W.keepIn K (.ref f13) = true)
    (a14 : PySem.W.nsIn K mainGlobals "_law_match" = some (some (.ref f14)))
    (l14 : K.lookup f14 = some ⟨oc14, od14, .func (PySem.W.fnOf "_law_match" "_law_match" (defArgs s__law_match) (defBody s__law_match) (defScope s__law_match) .none kV14 dc14 pm14 an14 cd14 ct14), sl14⟩)
    (c14 : PySem.W.codeIn K cd14 "_law_match" = true)
    (k14 : PySem.W.keepIn K (.ref f14) = true)
    (a15 : PySem.W.nsIn K mainGlobals "_law_told" = some (some (.ref f15)))
    (l15 : K.lookup f15 = some ⟨oc15, od15, .func (PySem.W.fnOf "_law_told" "_law_told" (defArgs s__law_told) (defBody s__law_told) (defScope s__law_told) .none kV15 dc15 pm15 an15 cd15 ct15), sl15⟩)
    (c15 : PySem.W.codeIn K cd15 "_law_told" = true)
    (k15 : PySem.W.keepIn K (.ref f15) = true)
    (a16 : PySem.W.nsIn K mainGlobals "_law_bound" = some (some (.ref f16)))
    (l16 : K.lookup f16 = some ⟨oc16, od16, .func (PySem.W.fnOf "_law_bound" "_law_bound" (defArgs s__law_bound) (defBody s__law_bound) (defScope s__law_bound) .none kV16 dc16 pm16 an16 cd16 ct16), sl16⟩)
    (c16 : PySem.W.codeIn K cd16 "_law_bound" = true)
    (k16 : PySem.W.keepIn K (.ref f16) = true)
    (a17 : PySem.W.nsIn K mainGlobals "_law_is_it" = some (some (.ref f17)))
    (l17 : K.lookup f17 = some ⟨oc17, od17, .func (PySem.W.fnOf "_law_is_it" "_law_is_it" (defArgs s__law_is_it) (defBody s__law_is_it) (defScope s__law_is_it) .none kV17 dc17 pm17 an17 cd17 ct17), sl17⟩)
    (c17 : PySem.W.codeIn K cd17 "_law_is_it" = true)
    (k17 : PySem.W.keepIn K (.ref f17) = true)
    (a18 : PySem.W.nsIn K mainGlobals "law" = some (some (.ref f18)))
    (l18 : K.lookup f18 = some ⟨oc18, od18, .func (PySem.W.fnOf "law" "law" (defArgs s_law) (defBody s_law) (defScope s_law) .none kV18 dc18 pm18 an18 cd18 ct18), sl18⟩)
    (c18 : PySem.W.codeIn K cd18 "law" = true)
    (k18 : PySem.W.keepIn K (.ref f18) = true)
    (ca0 : PySem.W.nsIn K mainGlobals "_MOST_BINDINGS" = some (some ci0))
    (cv0 : RelV (.int 40) ci0)
    (z0 : PySem.W.nsIn K mainGlobals "any" = some none)
    (z1 : PySem.W.nsIn K mainGlobals "bool" = some none)
    (z2 : PySem.W.nsIn K mainGlobals "int" = some none)
    (z3 : PySem.W.nsIn K mainGlobals "isinstance" = some none)
    (z4 : PySem.W.nsIn K mainGlobals "len" = some none)
    (z5 : PySem.W.nsIn K mainGlobals "range" = some none)
    (z6 : PySem.W.nsIn K mainGlobals "str" = some none)
    (z7 : PySem.W.nsIn K mainGlobals "sum" = some none)
    (z8 : PySem.W.nsIn K mainGlobals "tuple" = some none)
    (ba0 : PySem.W.nsIn K mainGlobals "FocusError" = some (some (.ref B0)))
    (br0 : PySem.W.readsIn K B0 (.type "type") = true)
    (bg0 : PySem.W.specialIn K (.ref B0) "__getattribute__" = some (some (.builtin "type.__getattribute__")))
    (bv0 : PySem.W.findCls K (.ref B0) (.type "type") "__init__" = some (.val (.builtin "ValueError.__init__")))
    (xna0 : PySem.W.nsIn K mainGlobals "Refused" = some (some (.ref X0)))
    (xl0 : K.lookup X0 = some (excClassObj xn0 xq0 X0 N0 xb0 [.ref B0, .type "ValueError", .type "Exception", .type "BaseException", .type "object"] true xs0 xu0 xa0 xc0 xd0 m00 m10 m20 m30 m50 "ValueError.__new__"))
    (xsa0 : PySem.W.findIn K (.ref X0) "__setattr__" = some (some (.builtin "object.__setattr__")))
    (xga0 : PySem.W.findIn K (.ref X0) "__getattribute__" = some (some (.builtin "BaseException.__getattribute__")))
    (xgg0 : PySem.W.findIn K (.ref X0) "__getattr__" = some none)
    (xnb0 : PySem.W.findIn K (.ref X0) "what" = some none)
    (xii0 : PySem.W.findIn K (.ref X0) "__init__" = some (some (.ref I0)))
    (xkc0 : PySem.W.keepIn K (.ref X0) = true)
    (xec0 : PySem.W.subIn K (.ref X0) (.type "BaseException") = some true)
    (xtc0 : PySem.W.typeIn K (.ref X0) = some (.type "type"))
    (xhc0 : PySem.W.hasDictIn K X0 = true)
    (xsc0 : PySem.W.subIn K (.ref X0) (.ref X0) = some true)
    (it0 : PySem.W.typeIn K (.ref I0) = some (.type "function"))
    (il0 : K.lookup I0 = some ⟨ioc0, iod0, .func (PySem.W.fnOf "__init__" "Refused.__init__" (defArgs s_init_Refused) (defBody s_init_Refused) (defScope s_init_Refused) .none ikV0 idc0 ipm0 ian0 icd0 ict0), isl0⟩)
    (ic0 : PySem.W.codeIn K icd0 "Refused.__init__" = true)
    (ik0 : PySem.W.keepIn K (.ref I0) = true)
    {tc0 tt0 : Addr} {ts : List Addr}
    (tr0 : tt0 ∈ ts)
    (ti0 : PySem.W.codeHdIn K tc0 tt0 = true)
    (tn0 : K.lookup tt0 = none)
    (tk0 : cd8 = .ref tc0)
    : ∃ (fd : FuncData) (cs : List (Addr × Addr)) (sp : Sp), (∀ p ∈ cs, p.2 ∈ ts ∧ PySem.W.codeHdIn K p.1 p.2 = true) ∧ (∀ p ∈ cs, K.lookup p.2 = none) ∧ (∀ (s : Shared) (u : Value), BindsTo s fd ⟨[u], []⟩ [("script", u)]) ∧
      (∀ (H : Hp) (a : Addr) (ns : List Int), ns.length ≤ 63 → (∀ p ∈ cs, H p.2 = some (.tbl #[])) → SqL K H a (ns.map V.int) → sp [.ref a] H (fun v _ => v = .bl true) fun _ _ _ => False) ∧
      ∀ base : Heap, K.In base → base.Ns mainGlobals mg → (∀ p ∈ cs, GxR.TabB base mg p.1 p.2) → FnOk l.prog w K mg base CX0 7 fa fd ["script"] sp := by
  letI tbI : Tb := ⟨[tt0]⟩
  have e := hfa.symm.trans (PySem.W.mg_of X G a18)
  cases e
  have F0 := fun_mk (st := s_is_prefix) l0 c0 k0
  have b0 := F0.binds (ps := ["one", "two"]) fun _ _ _ _ _ _ us hl => match us, hl with | [_, _], _ => rfl
  have F1 := fun_mk (st := s_shown) l1 c1 k1
  have b1 := F1.binds (ps := ["strokes"]) fun _ _ _ _ _ _ us hl => match us, hl with | [_], _ => rfl
  have F2 := fun_mk (st := s_Bindings___init__) l2 c2 k2
  have b2 := F2.binds (ps := ["self"]) fun _ _ _ _ _ _ us hl => match us, hl with | [_], _ => rfl
  have F3 := fun_mk (st := s_Bindings_bind) l3 c3 k3
  have b3 := F3.binds (ps := ["self", "node", "strokes", "command"]) fun _ _ _ _ _ _ us hl => match us, hl with | [_, _, _, _], _ => rfl
  have F4 := fun_mk (st := s_Bindings_unbind) l4 c4 k4
  have b4 := F4.binds (ps := ["self", "node", "strokes"]) fun _ _ _ _ _ _ us hl => match us, hl with | [_, _, _], _ => rfl
  have F5 := fun_mk (st := s_Bindings_of) l5 c5 k5
  have b5 := F5.binds (ps := ["self", "node"]) fun _ _ _ _ _ _ us hl => match us, hl with | [_, _], _ => rfl
  have F6 := fun_mk (st := s_Bindings_is_bound) l6 c6 k6
  have b6 := F6.binds (ps := ["self", "node", "strokes"]) fun _ _ _ _ _ _ us hl => match us, hl with | [_, _, _], _ => rfl
  have F7 := fun_mk (st := s_Bindings_drop) l7 c7 k7
  have b7 := F7.binds (ps := ["self", "names"]) fun _ _ _ _ _ _ us hl => match us, hl with | [_, _], _ => rfl
  have F8 := fun_mk (st := s_Bindings_match) l8 c8 k8
  have b8 := F8.binds (ps := ["self", "node", "strokes"]) fun _ _ _ _ _ _ us hl => match us, hl with | [_, _, _], _ => rfl
  have F9 := fun_mk (st := s_Bindings_count) l9 c9 k9
  have b9 := F9.binds (ps := ["self"]) fun _ _ _ _ _ _ us hl => match us, hl with | [_], _ => rfl
  have F10 := fun_mk (st := s__law_cell) l10 c10 k10
  have b10 := F10.binds (ps := ["script", "k"]) fun _ _ _ _ _ _ us hl => match us, hl with | [_, _], _ => rfl
  have F11 := fun_mk (st := s__law_draws) l11 c11 k11
  have b11 := F11.binds (ps := ["cell", "count"]) fun _ _ _ _ _ _ us hl => match us, hl with | [_, _], _ => rfl
  have F12 := fun_mk (st := s__law_strokes) l12 c12 k12
  have b12 := F12.binds (ps := ["draws", "at"]) fun _ _ _ _ _ _ us hl => match us, hl with | [_, _], _ => rfl
  have F13 := fun_mk (st := s__law_begins) l13 c13 k13
  have b13 := F13.binds (ps := ["one", "two"]) fun _ _ _ _ _ _ us hl => match us, hl with | [_, _], _ => rfl
  have F14 := fun_mk (st := s__law_match) l14 c14 k14
  have b14 := F14.binds (ps := ["rows", "node", "strokes"]) fun _ _ _ _ _ _ us hl => match us, hl with | [_, _, _], _ => rfl
  have F15 := fun_mk (st := s__law_told) l15 c15 k15
  have b15 := F15.binds (ps := ["keys", "node", "strokes", "command"]) fun _ _ _ _ _ _ us hl => match us, hl with | [_, _, _, _], _ => rfl
  have F16 := fun_mk (st := s__law_bound) l16 c16 k16
  have b16 := F16.binds (ps := ["rows", "node", "strokes", "command"]) fun _ _ _ _ _ _ us hl => match us, hl with | [_, _, _, _], _ => rfl
  have F17 := fun_mk (st := s__law_is_it) l17 c17 k17
  have b17 := F17.binds (ps := ["keys", "rows", "probe"]) fun _ _ _ _ _ _ us hl => match us, hl with | [_, _, _], _ => rfl
  have F18 := fun_mk (st := s_law) l18 c18 k18
  have b18 := F18.binds (ps := ["script"]) fun _ _ _ _ _ _ us hl => match us, hl with | [_], _ => rfl
  have E0 := fun_mk (st := s_init_Refused) il0 ic0 ik0
  have eb0 := E0.binds (ps := ["self", "what"]) fun _ _ _ _ _ _ us hl => match us, hl with | [_, _], _ => rfl
  refine ⟨?fd, [(tc0, tt0)], p_law K, (List.forall_mem_cons.mpr ⟨⟨tr0, ti0⟩, (fun _ h => by cases h)⟩), (List.forall_mem_cons.mpr ⟨tn0, (fun _ h => by cases h)⟩), ?hb, fun H a ns hl hT hS => ?hsp, fun base _ _ TB => ?hF⟩
  case hF =>
    have T : Tx K mg base { f_is_prefix := f0, d_is_prefix := _, f_shown := f1, d_shown := _, f_Bindings___init__ := f2, d_Bindings___init__ := _, f_Bindings_bind := f3, d_Bindings_bind := _, f_Bindings_unbind := f4, d_Bindings_unbind := _, f_Bindings_of := f5, d_Bindings_of := _, f_Bindings_is_bound := f6, d_Bindings_is_bound := _, f_Bindings_drop := f7, d_Bindings_drop := _, f_Bindings_match := f8, d_Bindings_match := _, f_Bindings_count := f9, d_Bindings_count := _, f__law_cell := f10, d__law_cell := _, f__law_draws := f11, d__law_draws := _, f__law_strokes := f12, d__law_strokes := _, f__law_begins := f13, d__law_begins := _, f__law_match := f14, d__law_match := _, f__law_told := f15, d__law_told := _, f__law_bound := f16, d__law_bound := _, f__law_is_it := f17, d__law_is_it := _, f_law := fa, d_law := _, x_FocusError := B0, x_Refused := X0, i_Refused := I0, di_Refused := _, c_Bindings := OC0, c_Bindings_match := tc0, t_Bindings_match := tt0 } := { F_is_prefix := F0, b_is_prefix := b0, g_is_prefix := PySem.W.mg_of X G a0, F_shown := F1, b_shown := b1, g_shown := PySem.W.mg_of X G a1, F_Bindings___init__ := F2, b_Bindings___init__ := b2, mk_Bindings := ⟨o0m, a2, n2, o0k⟩, F_Bindings_bind := F3, b_Bindings_bind := b3, me_Bindings_bind := ⟨a3, n3, k3⟩, F_Bindings_unbind := F4, b_Bindings_unbind := b4, me_Bindings_unbind := ⟨a4, n4, k4⟩, F_Bindings_of := F5, b_Bindings_of := b5, me_Bindings_of := ⟨a5, n5, k5⟩, F_Bindings_is_bound := F6, b_Bindings_is_bound := b6, me_Bindings_is_bound := ⟨a6, n6, k6⟩, F_Bindings_drop := F7, b_Bindings_drop := b7, me_Bindings_drop := ⟨a7, n7, k7⟩, F_Bindings_match := F8, b_Bindings_match := b8, me_Bindings_match := ⟨a8, n8, k8⟩, F_Bindings_count := F9, b_Bindings_count := b9, me_Bindings_count := ⟨a9, n9, k9⟩, F__law_cell := F10, b__law_cell := b10, g__law_cell := PySem.W.mg_of X G a10, F__law_draws := F11, b__law_draws := b11, g__law_draws := PySem.W.mg_of X G a11, F__law_strokes := F12, b__law_strokes := b12, g__law_strokes := PySem.W.mg_of X G a12, F__law_begins := F13, b__law_begins := b13, g__law_begins := PySem.W.mg_of X G a13, F__law_match := F14, b__law_match := b14, g__law_match := PySem.W.mg_of X G a14, F__law_told := F15, b__law_told := b15, g__law_told := PySem.W.mg_of X G a15, F__law_bound := F16, b__law_bound := b16, g__law_bound := PySem.W.mg_of X G a16, F__law_is_it := F17, b__law_is_it := b17, g__law_is_it := PySem.W.mg_of X G a17, F_law := F18, b_law := b18, g_law := PySem.W.mg_of X G a18, cl_Bindings := ⟨o0g, o0h, o0o, o0s⟩, gC_Bindings := PySem.W.mg_of X G o0C, na_Bindings__commands := o0f0, c__MOST_BINDINGS := ⟨_, PySem.W.mg_of X G ca0, cv0⟩, n_any := PySem.W.mg_none_of X G z0, n_bool := PySem.W.mg_none_of X G z1, n_int := PySem.W.mg_none_of X G z2, n_isinstance := PySem.W.mg_none_of X G z3, n_len := PySem.W.mg_none_of X G z4, n_range := PySem.W.mg_none_of X G z5, n_str := PySem.W.mg_none_of X G z6, n_sum := PySem.W.mg_none_of X G z7, n_tuple := PySem.W.mg_none_of X G z8, x_Refused := { gC := PySem.W.mg_of X G xna0, gB := PySem.W.mg_of X G ba0, ox := { cls := ⟨_, _, _, _, _, _, _, _, _, _, _, _, _, _, _, xl0, rfl⟩, sa := xsa0, exC := xec0, tyC := xtc0, kC := xkc0 }, iC := xii0, tI := it0, rd := ⟨br0, bg0⟩, vB := bv0, nF := xnb0, xf := ⟨xga0, xgg0, xec0, xhc0⟩, te := PySem.W.exm_ref xec0 xhc0 xtc0 xsc0 }, FI_Refused := E0, bi_Refused := eb0, C_Bindings_match := tk0, TB_Bindings_match := TB _ List.mem_cons_self, TM_Bindings_match := List.mem_cons_self }
    exact ok_law T
  case hb => exact fun s v => .of_eq rfl
  case hsp =>
    obtain ⟨g1, g2⟩ := law_start (H := H) (List.forall_mem_cons.mpr ⟨hT _ List.mem_cons_self, (fun _ h => by cases h)⟩) hS
    exact ⟨⟨ns⟩, .ref a, strip H, rfl, g1, g2, hl, fun u G2 H2 _ r => by rw [law_true ns hl] at r; exact r⟩

end RL
local macro_rules | `(tactic| o_head ($_f:ident $K $as $pf)) => `(tactic| o_head (PySem.W.kmHook $K $as $pf [109]))
open PySem PySem.W PyProof.Rows in
set_option maxRecDepth 100000 in
set_option maxHeartbeats 0 in
theorem PySem.Challenge.cw_keyfocus_k40_bindings_holds : PySem.Challenge.rw_keyfocus_k40_bindings.Holds := by
  w_on; o_law; k_head; (case hw => w_witness2)
  k_fill
  refine RL.walk_tabsM (ts := [109]) (l := PySem.Challenge.rw_keyfocus_k40_bindings) (lv := 7) (nm := 63) rfl (by decide) rfl ⟨rfl, by decide, by decide⟩ (fun w h Y => PySem.W.km_in_of Y) (fun w h Y => PySem.W.km_tabs_of Y) ?F
  case F =>
    intro w mg fa h KX G hmg
    refine' RL.all_mk KX G hmg ?o0C ?o0g ?o0h ?o0o ?o0s ?o0m ?o0k ?o0f0 ?a0 ?l0 ?c0 ?k0 ?a1 ?l1 ?c1 ?k1 ?a2 ?n2 ?l2 ?c2 ?k2 ?a3 ?n3 ?l3 ?c3 ?k3 ?a4 ?n4 ?l4 ?c4 ?k4 ?a5 ?n5 ?l5 ?c5 ?k5 ?a6 ?n6 ?l6 ?c6 ?k6 ?a7 ?n7 ?l7 ?c7 ?k7 ?a8 ?n8 ?l8 ?c8 ?k8 ?a9 ?n9 ?l9 ?c9 ?k9 ?a10 ?l10 ?c10 ?k10 ?a11 ?l11 ?c11 ?k11 ?a12 ?l12 ?c12 ?k12 ?a13 ?l13 ?c13 ?k13 ?a14 ?l14 ?c14 ?k14 ?a15 ?l15 ?c15 ?k15 ?a16 ?l16 ?c16 ?k16 ?a17 ?l17 ?c17 ?k17 ?a18 ?l18 ?c18 ?k18 ?ca0 ?cv0 ?z0 ?z1 ?z2 ?z3 ?z4 ?z5 ?z6 ?z7 ?z8 ?ba0 ?br0 ?bg0 ?bv0 ?xna0 ?xl0 ?xsa0 ?xga0 ?xgg0 ?xnb0 ?xii0 ?xkc0 ?xec0 ?xtc0 ?xhc0 ?xsc0 ?it0 ?il0 ?ic0 ?ik0 ?tr0 ?ti0 ?tn0 ?tk0
    (case o0C => first | k_is | rfl)
    (case o0g => first | k_is | rfl)
    (case o0h => first | k_is | rfl)
    (case o0o => first | k_is | rfl)
    (case o0s => first | k_is | rfl)
    (case o0m => first | k_is | rfl)
    (case o0k => first | k_is | rfl)
    (case o0f0 => first | k_is | rfl)
    (case a0 => first | k_is | rfl)
    (case l0 => first | k_is | rfl)
    (case c0 => first | k_is | rfl)
    (case k0 => first | k_is | rfl)
    (case a1 => first | k_is | rfl)
    (case l1 => first | k_is | rfl)
    (case c1 => first | k_is | rfl)
    (case k1 => first | k_is | rfl)
    (case a2 => first | k_is | rfl)
    (case n2 => first | k_is | rfl)
    (case l2 => first | k_is | rfl)
    (case c2 => first | k_is | rfl)
    (case k2 => first | k_is | rfl)
    (case a3 => first | k_is | rfl)
    (case n3 => first | k_is | rfl)
    (case l3 => first | k_is | rfl)
    (case c3 => first | k_is | rfl)
    (case k3 => first | k_is | rfl)
    (case a4 => first | k_is | rfl)
    (case n4 => first | k_is | rfl)
    (case l4 => first | k_is | rfl)
    (case c4 => first | k_is | rfl)
    (case k4 => first | k_is | rfl)
    (case a5 => first | k_is | rfl)
    (case n5 => first | k_is | rfl)
    (case l5 => first | k_is | rfl)
    (case c5 => first | k_is | rfl)
    (case k5 => first | k_is | rfl)
    (case a6 => first | k_is | rfl)
    (case n6 => first | k_is | rfl)
    (case l6 => first | k_is | rfl)
    (case c6 => first | k_is | rfl)
    (case k6 => first | k_is | rfl)
    (case a7 => first | k_is | rfl)
    (case n7 => first | k_is | rfl)
    (case l7 => first | k_is | rfl)
    (case c7 => first | k_is | rfl)
    (case k7 => first | k_is | rfl)
    (case a8 => first | k_is | rfl)
    (case n8 => first | k_is | rfl)
    (case l8 => first | k_is | rfl)
    (case c8 => first | k_is | rfl)
    (case k8 => first | k_is | rfl)
    (case a9 => first | k_is | rfl)
    (case n9 => first | k_is | rfl)
    (case l9 => first | k_is | rfl)
    (case c9 => first | k_is | rfl)
    (case k9 => first | k_is | rfl)
    (case a10 => first | k_is | rfl)
    (case l10 => first | k_is | rfl)
    (case c10 => first | k_is | rfl)
    (case k10 => first | k_is | rfl)
    (case a11 => first | k_is | rfl)
    (case l11 => first | k_is | rfl)
    (case c11 => first | k_is | rfl)
    (case k11 => first | k_is | rfl)
    (case a12 => first | k_is | rfl)
    (case l12 => first | k_is | rfl)
    (case c12 => first | k_is | rfl)
    (case k12 => first | k_is | rfl)
    (case a13 => first | k_is | rfl)
    (case l13 => first | k_is | rfl)
    (case c13 => first | k_is | rfl)
    (case k13 => first | k_is | rfl)
    (case a14 => first | k_is | rfl)
    (case l14 => first | k_is | rfl)
    (case c14 => first | k_is | rfl)
    (case k14 => first | k_is | rfl)
    (case a15 => first | k_is | rfl)
    (case l15 => first | k_is | rfl)
    (case c15 => first | k_is | rfl)
    (case k15 => first | k_is | rfl)
    (case a16 => first | k_is | rfl)
    (case l16 => first | k_is | rfl)
    (case c16 => first | k_is | rfl)
    (case k16 => first | k_is | rfl)
    (case a17 => first | k_is | rfl)
    (case l17 => first | k_is | rfl)
    (case c17 => first | k_is | rfl)
    (case k17 => first | k_is | rfl)
    (case a18 => first | k_is | rfl)
    (case l18 => first | k_is | rfl)
    (case c18 => first | k_is | rfl)
    (case k18 => first | k_is | rfl)
    (case ca0 => first | k_is | rfl)
    (case cv0 => exact ⟨_, rfl⟩)
    (case z0 => first | k_is | rfl)
    (case z1 => first | k_is | rfl)
    (case z2 => first | k_is | rfl)
    (case z3 => first | k_is | rfl)
    (case z4 => first | k_is | rfl)
    (case z5 => first | k_is | rfl)
    (case z6 => first | k_is | rfl)
    (case z7 => first | k_is | rfl)
    (case z8 => first | k_is | rfl)
    (case ba0 => first | k_is | rfl)
    (case br0 => first | k_is | rfl)
    (case bg0 => first | k_is | rfl)
    (case bv0 => first | k_is | rfl)
    (case xna0 => first | k_is | rfl)
    (case xl0 => first | k_is | rfl)
    (case xsa0 => first | k_is | rfl)
    (case xga0 => first | k_is | rfl)
    (case xgg0 => first | k_is | rfl)
    (case xnb0 => first | k_is | rfl)
    (case xii0 => first | k_is | rfl)
    (case xkc0 => first | k_is | rfl)
    (case xec0 => first | k_is | rfl)
    (case xtc0 => first | k_is | rfl)
    (case xhc0 => first | k_is | rfl)
    (case xsc0 => first | k_is | rfl)
    (case it0 => first | k_is | rfl)
    (case il0 => first | k_is | rfl)
    (case ic0 => first | k_is | rfl)
    (case ik0 => first | k_is | rfl)
    (case tk0 => first | k_is | rfl)
    (case tr0 => exact List.mem_cons_self)
    (case ti0 => kernel_rfl)
    (case tn0 => first | k_is | rfl)
#print axioms PySem.Challenge.cw_keyfocus_k40_bindings_holds