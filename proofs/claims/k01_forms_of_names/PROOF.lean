import PyProof.Rows.All
import Wide.All
import OpenK.AllK
import Wide.FinOn
import HandS.ForMost
import HandS.TupAny
import HandS.IsInst
import HandS.Wide
import HandS.Deep
import HandS.AnyAll
import HandS.Codes
import HandS.Style
import HandS.Conv
import KE.KSortedM
import HandS.GenOver
import HandS.GenList
import HandS.EndOwn
import PySem.Challenge.RW_heldflows_k01_forms_of_names
set_option Elab.async false
set_option linter.all false
set_option maxRecDepth 100000
/-! trees, states, and what a reading over them is worth -/
namespace Wp
open PySem PySem.Spec PyProof.Rows L2

/-- a value as a tree: tuples by their items, frozen lists by theirs, all that changes by its address -/
inductive T where
  | non | bl (b : Bool) | int (i : Int) | str (s : Str) | tup (ts : List T) | fl (ts : List T) | ref (a : Addr)

/-- a list that never changes: known, or of the written part -/
def FzL (K : PySem.W.Frag) (H : Hp) (a : Addr) (xs : List V) : Prop :=
  (∃ o, H a = some (.frz o (.lst xs))) ∨
    ∃ (o : Obj) (its : Array Value) (n : Nat), K.lookup a = some o ∧ o.cls = .type "list" ∧ o.dict = none ∧ o.data = .seq its n ∧ its.size ≤ sizeLine ∧ Vals xs its.toList
theorem FzL.sq {K : PySem.W.Frag} {H : Hp} {a : Addr} {xs : List V} (h : FzL K H a xs) : SqL K H a xs := by
  rcases h with ⟨o, h⟩ | h
  · exact .inl (.inr ⟨o, h⟩)
  · exact .inr h

mutual
inductive Rep (K : PySem.W.Frag) (H : Hp) : T → V → Prop
  | non : Rep K H .non .non
  | bl (b : Bool) : Rep K H (.bl b) (.bl b)
  | int (i : Int) : Rep K H (.int i) (.int i)
  | str (x : Str) : Rep K H (.str x) (.str x)
  | ref (a : Addr) : Rep K H (.ref a) (.ref a)
  | tup {a : Addr} {xs : List V} {ts : List T} : SqT K H a xs → Reps K H ts xs → Rep K H (.tup ts) (.ref a)
  | fl {a : Addr} {xs : List V} {ts : List T} : FzL K H a xs → Reps K H ts xs → Rep K H (.fl ts) (.ref a)
inductive Reps (K : PySem.W.Frag) (H : Hp) : List T → List V → Prop
  | nil : Reps K H [] []
  | cons {t : T} {ts : List T} {v : V} {vs : List V} : Rep K H t v → Reps K H ts vs → Reps K H (t :: ts) (v :: vs)
end

/-- what stays -/
structure Ext (H H' : Hp) : Prop where
  tups : ∀ b xs, H b = some (.tup xs) → H' b = some (.tup xs)
  frzs : ∀ b o u, H b = some (.frz o u) → H' b = some (.frz o u)
  tabs : ∀ b, GxR.TabG H b → GxR.TabG H' b
theorem Ext.refl (H : Hp) : Ext H H := ⟨fun _ _ h => h, fun _ _ _ h => h, fun _ h => h⟩
theorem Ext.trans {H H1 H2 : Hp} (a : Ext H H1) (b : Ext H1 H2) : Ext H H2 := ⟨fun x xs h => b.tups x xs (a.tups x xs h), fun x o u h => b.frzs x o u (a.frzs x o u h), fun x h => b.tabs x (a.tabs x h)⟩
theorem Ext.new {H : Hp} {p : Addr} {o : HO} (h : H p = none) : Ext H (upd H p o) :=
  ⟨fun b xs e => by rw [upd_ne (ne_of_none e h)]; exact e, fun b o u e => by rw [upd_ne (ne_of_none e h)]; exact e, fun b ⟨ps, e, t⟩ => ⟨ps, by rw [upd_ne (ne_of_none e h)]; exact e, t⟩⟩
/-- what may be written over -/
def Soft : HO → Prop
  | .tup _ => False
  | .frz _ _ => False
  | .tbl _ => False
  | _ => True
theorem Ext.put {H : Hp} {p : Addr} {o u : HO} (h : H p = some u) (hs : Soft u) : Ext H (upd H p o) :=
  ⟨fun b xs e => by
    rw [upd_ne]
    · exact e
    · intro z; subst z; rw [h] at e; cases e; exact hs,
   fun b o u e => by
    rw [upd_ne]
    · exact e
    · intro z; subst z; rw [h] at e; cases e; exact hs,
   fun b ⟨ps, e, t⟩ => ⟨ps, by
    rw [upd_ne]
    · exact e
    · intro z; subst z; rw [h] at e; cases e; exact hs, t⟩⟩
theorem Ext.sqT {K : PySem.W.Frag} {H H' : Hp} {a : Addr} {xs : List V} (e : Ext H H') (h : SqT K H a xs) : SqT K H' a xs := by
  rcases h with (h | ⟨o, h⟩) | h
  · exact .inl (.inl (e.tups _ _ h))
  · exact .inl (.inr ⟨o, e.frzs _ _ _ h⟩)
  · exact .inr h
theorem Ext.fzL {K : PySem.W.Frag} {H H' : Hp} {a : Addr} {xs : List V} (e : Ext H H') (h : FzL K H a xs) : FzL K H' a xs := by
  rcases h with ⟨o, h⟩ | h
  · exact .inl ⟨o, e.frzs _ _ _ h⟩
  · exact .inr h
mutual
theorem Rep.mono {K : PySem.W.Frag} {H H' : Hp} (e : Ext H H') : ∀ (t : T) (v : V), Rep K H t v → Rep K H' t v
  | .non, _, h => by cases h; exact .non
  | .bl b, _, h => by cases h; exact .bl b
  | .int i, _, h => by cases h; exact .int i
  | .str x, _, h => by cases h; exact .str x
  | .ref a, _, h => by cases h; exact .ref a
  | .tup ts, _, h => by
    cases h with
    | tup h1 h2 => exact .tup (e.sqT h1) (Reps.mono e ts _ h2)
  | .fl ts, _, h => by
    cases h with
    | fl h1 h2 => exact .fl (e.fzL h1) (Reps.mono e ts _ h2)
theorem Reps.mono {K : PySem.W.Frag} {H H' : Hp} (e : Ext H H') : ∀ (ts : List T) (vs : List V), Reps K H ts vs → Reps K H' ts vs
  | [], _, h => by cases h; exact .nil
  | t :: ts, _, h => by
    cases h with
    | cons h1 h2 => exact .cons (Rep.mono e t _ h1) (Reps.mono e ts _ h2)
end
section
variable {K : PySem.W.Frag} {H : Hp}
theorem Reps.length : ∀ {ts : List T} {vs : List V}, Reps K H ts vs → ts.length = vs.length
  | [], _, h => by cases h; rfl
  | t :: ts, _, h => by
    cases h with
    | cons h1 h2 => rw [List.length_cons, List.length_cons, Reps.length h2]
theorem Reps.get : ∀ {ts : List T} {vs : List V} {i : Nat} {t : T}, Reps K H ts vs → ts[i]? = some t → ∃ v, vs[i]? = some v ∧ Rep K H t v
  | [], _, _, _, _, e => by simp at e
  | t :: ts, _, 0, x, h, e => by
    cases h with
    | cons h1 h2 =>
      simp at e
      subst e
      exact ⟨_, rfl, h1⟩
  | t :: ts, _, i + 1, x, h, e => by
    cases h with
    | cons h1 h2 =>
      obtain ⟨v, e1, e2⟩ := Reps.get (i := i) h2 (by simpa using e)
      exact ⟨v, by simpa using e1, e2⟩
theorem Reps.getV : ∀ {ts : List T} {vs : List V} {i : Nat} {v : V}, Reps K H ts vs → vs[i]? = some v → ∃ t, ts[i]? = some t ∧ Rep K H t v
  | [], _, _, _, h, e => by cases h; simp at e
  | t :: ts, _, 0, x, h, e => by
    cases h with
    | cons h1 h2 =>
      simp at e
      subst e
      exact ⟨_, rfl, h1⟩
  | t :: ts, _, i + 1, x, h, e => by
    cases h with
    | cons h1 h2 =>
      obtain ⟨v, e1, e2⟩ := Reps.getV (i := i) h2 (by simpa using e)
      exact ⟨v, by simpa using e1, e2⟩
theorem Reps.append : ∀ {ts us : List T} {vs ws : List V}, Reps K H ts vs → Reps K H us ws → Reps K H (ts ++ us) (vs ++ ws)
  | [], _, _, _, h, g => by cases h; exact g
  | t :: ts, _, _, _, h, g => by
    cases h with
    | cons h1 h2 => exact .cons h1 (Reps.append h2 g)
theorem Reps.take : ∀ {ts : List T} {vs : List V} (n : Nat), Reps K H ts vs → Reps K H (ts.take n) (vs.take n)
  | _, _, 0, _ => .nil
  | [], _, n + 1, h => by cases h; exact .nil
  | t :: ts, _, n + 1, h => by
    cases h with
    | cons h1 h2 => exact .cons h1 (Reps.take n h2)
theorem Reps.drop : ∀ {ts : List T} {vs : List V} (n : Nat), Reps K H ts vs → Reps K H (ts.drop n) (vs.drop n)
  | _, _, 0, h => h
  | [], _, n + 1, h => by cases h; exact .nil
  | t :: ts, _, n + 1, h => by
    cases h with
    | cons h1 h2 => exact Reps.drop n h2
theorem Reps.set {t : T} {v : V} (r : Rep K H t v) : ∀ {ts : List T} {vs : List V} (i : Nat), Reps K H ts vs → Reps K H (ts.set i t) (vs.set i v)
  | [], _, _, h => by cases h; exact .nil
  | t :: ts, _, 0, h => by
    cases h with
    | cons h1 h2 => exact .cons r h2
  | t :: ts, _, i + 1, h => by
    cases h with
    | cons h1 h2 => exact .cons h1 (Reps.set r i h2)
theorem Reps.reverse : ∀ {ts : List T} {vs : List V}, Reps K H ts vs → Reps K H ts.reverse vs.reverse
  | [], _, h => by cases h; exact .nil
  | t :: ts, _, h => by
    cases h with
    | cons h1 h2 =>
      rw [List.reverse_cons, List.reverse_cons]
      exact Reps.append (Reps.reverse h2) (.cons h1 .nil)
theorem Reps.ints : ∀ (ns : List Int), Reps K H (ns.map T.int) (ns.map V.int)
  | [] => .nil
  | n :: ns => .cons (.int n) (Reps.ints ns)
theorem Reps.intsV : ∀ {ns : List Int} {vs : List V}, Reps K H (ns.map T.int) vs → vs = ns.map V.int
  | [], _, h => by cases h; rfl
  | n :: ns, _, h => by
    cases h with
    | cons h1 h2 =>
      cases h1
      rw [Reps.intsV h2]
      rfl
theorem Reps.blsV : ∀ {ns : List Bool} {vs : List V}, Reps K H (ns.map T.bl) vs → vs = ns.map V.bl
  | [], _, h => by cases h; rfl
  | n :: ns, _, h => by
    cases h with
    | cons h1 h2 =>
      cases h1
      rw [Reps.blsV h2]
      rfl
theorem Reps.strsV : ∀ {ns : List Str} {vs : List V}, Reps K H (ns.map T.str) vs → vs = ns.map V.str
  | [], _, h => by cases h; rfl
  | n :: ns, _, h => by
    cases h with
    | cons h1 h2 =>
      cases h1
      rw [Reps.strsV h2]
      rfl
end

/-! ### the state: what may change -/
inductive O where
  | lst (ts : List T)
  | ins (C : Addr) (fs : List (Str × T))
abbrev Sta := Addr → Option O
def upS (S : Sta) (a : Addr) (o : O) : Sta := fun b => if b = a then some o else S b
theorem upS_same {S : Sta} {a : Addr} {o : O} : upS S a o a = some o := by unfold upS; rw [if_pos rfl]
theorem upS_ne {S : Sta} {a b : Addr} {o : O} (h : b ≠ a) : upS S a o b = S b := by unfold upS; rw [if_neg h]
theorem upS_upS {S : Sta} {a : Addr} {o u : O} : upS (upS S a o) a u = upS S a u := by
  funext b; unfold upS; split <;> rfl
theorem upS_self {S : Sta} {a : Addr} {o : O} (h : S a = some o) : upS S a o = S := by
  funext b; unfold upS; split
  · rename_i e; subst e; exact h.symm
  · rfl
inductive FRep (K : PySem.W.Frag) (H : Hp) : List (Str × T) → List (Str × V) → Prop
  | nil : FRep K H [] []
  | cons {f : Str} {t : T} {v : V} {fs : List (Str × T)} {gs : List (Str × V)} : Rep K H t v → FRep K H fs gs → FRep K H ((f, t) :: fs) ((f, v) :: gs)
theorem FRep.mono {K : PySem.W.Frag} {H H' : Hp} (e : Ext H H') : ∀ {fs : List (Str × T)} {gs : List (Str × V)}, FRep K H fs gs → FRep K H' fs gs
  | _, _, .nil => .nil
  | _, _, .cons h1 h2 => .cons (Rep.mono e _ _ h1) (FRep.mono e h2)
theorem FRep.length {K : PySem.W.Frag} {H : Hp} : ∀ {fs : List (Str × T)} {gs : List (Str × V)}, FRep K H fs gs → fs.length = gs.length
  | _, _, .nil => rfl
  | _, _, .cons h1 h2 => by rw [List.length_cons, List.length_cons, FRep.length h2]
def ORep (K : PySem.W.Frag) (H : Hp) (a : Addr) : O → Prop
  | .lst ts => ∃ xs, H a = some (.lst xs) ∧ Reps K H ts xs
  | .ins C fs => ∃ dx gs, H a = some (.ins C dx gs) ∧ FRep K H fs gs
def St (K : PySem.W.Frag) (S : Sta) (H : Hp) : Prop := ∀ a o, S a = some o → ORep K H a o
section
variable {K : PySem.W.Frag} {S : Sta} {H H' : Hp} {a p : Addr}
theorem St.has (h : St K S H) {o : O} (e : S a = some o) : ∃ u, H a = some u ∧ Soft u := by
  have q := h a o e
  cases o with
  | lst ts => obtain ⟨xs, e, _⟩ := q; exact ⟨_, e, trivial⟩
  | ins C fs => obtain ⟨dx, gs, e, _⟩ := q; exact ⟨_, e, trivial⟩
theorem St.free (h : St K S H) (e : H p = none) : S p = none := by
  cases q : S p with
  | none => rfl
  | some o =>
    obtain ⟨u, hu, _⟩ := h.has q
    rw [e] at hu
    cases hu
/-- all that S speaks of stays as it is -/
theorem St.keep (h : St K S H) (e : Ext H H') (k : ∀ a o, S a = some o → H' a = H a) : St K S H' := fun a o q => by
  have r := h a o q
  have z := k a o q
  cases o with
  | lst ts => obtain ⟨xs, e1, e2⟩ := r; exact ⟨xs, z.trans e1, Reps.mono e _ _ e2⟩
  | ins C fs => obtain ⟨dx, gs, e1, e2⟩ := r; exact ⟨dx, gs, z.trans e1, FRep.mono e e2⟩
theorem St.new (h : St K S H) (e : H p = none) (u : HO) : St K S (upd H p u) :=
  h.keep (Ext.new e) fun a o q => by
    obtain ⟨u', hu, _⟩ := h.has q
    exact upd_ne (ne_of_none hu e)
theorem St.put (h : St K S H') {o : O} (g : ORep K H' a o) : St K (upS S a o) H' := fun b u q => by
  by_cases hb : b = a
  · subst hb
    rw [upS_same] at q
    cases q
    exact g
  · rw [upS_ne hb] at q
    exact h b u q
/-- a list is written anew -/
theorem St.setL (h : St K S H) {xs : List V} {ts' : List T} {xs' : List V} (e : H a = Option.some (.lst xs)) (r : Reps K H ts' xs') : Ext H (upd H a (.lst xs')) ∧ St K (upS S a (.lst ts')) (upd H a (.lst xs')) := by
  have ex : Ext H (upd H a (.lst xs')) := Ext.put e trivial
  refine ⟨ex, fun b u q => ?_⟩
  by_cases hb : b = a
  · subst hb
    rw [upS_same] at q
    cases q
    exact ⟨xs', upd_same, Reps.mono ex _ _ r⟩
  · rw [upS_ne hb] at q
    have z := h b u q
    cases u with
    | lst ts => obtain ⟨ys, e1, e2⟩ := z; exact ⟨ys, by rw [upd_ne hb]; exact e1, Reps.mono ex _ _ e2⟩
    | ins C fs => obtain ⟨dx, gs, e1, e2⟩ := z; exact ⟨dx, gs, by rw [upd_ne hb]; exact e1, FRep.mono ex e2⟩
/-- a new list -/
theorem St.newL (h : St K S H) {ts : List T} {xs : List V} (e : H p = Option.none) (r : Reps K H ts xs) : Ext H (upd H p (.lst xs)) ∧ St K (upS S p (.lst ts)) (upd H p (.lst xs)) := by
  have ex : Ext H (upd H p (.lst xs)) := Ext.new e
  exact ⟨ex, (h.new e _).put ⟨xs, upd_same, Reps.mono ex _ _ r⟩⟩
/-- less is known -/
theorem St.less {S' : Sta} (h : St K S H) (k : ∀ a o, S' a = Option.some o → S a = Option.some o) : St K S' H := fun a o q => h a o (k a o q)
end

/-! ### readings over trees -/
abbrev Sl := List (Option T)
abbrev WE := Sl → Sta → (T → Sta → Prop) → Prop
abbrev WT := Sl → Sta → (Bool → Sta → Prop) → Prop
abbrev WA := Sl → Sta → (List T → Sta → Prop) → Prop
structure WEnds where
  nx : Sl → Sta → Prop
  rt : T → Sta → Prop
  bk : Sl → Sta → Prop := fun _ _ => False
  ct : Sl → Sta → Prop := fun _ _ => False
abbrev WS := WEnds → Sl → Sta → Prop
def SlR (K : PySem.W.Frag) (H : Hp) (st : Sl) (σ : L2.St) : Prop := st.length = σ.length ∧ ∀ (i : Nat) (t : T), st[i]? = some (some t) → ∃ v, σ[i]? = some (some v) ∧ Rep K H t v
theorem SlR.mono {K : PySem.W.Frag} {H H' : Hp} {st : Sl} {σ : L2.St} (e : Ext H H') (h : SlR K H st σ) : SlR K H' st σ := ⟨h.1, fun i t q => by
  obtain ⟨v, e1, e2⟩ := h.2 i t q
  exact ⟨v, e1, Rep.mono e _ _ e2⟩⟩
theorem SlR.set {K : PySem.W.Frag} {H : Hp} {st : Sl} {σ : L2.St} {t : T} {v : V} (h : SlR K H st σ) (r : Rep K H t v) (i : Nat) : SlR K H (st.set i (some t)) (σ.set i (some v)) := by
  refine ⟨by rw [List.length_set, List.length_set]; exact h.1, fun j u q => ?_⟩
  by_cases hj : i = j
  · subst hj
    by_cases hl : i < st.length
    · rw [List.getElem?_set_self hl] at q
      cases q
      exact ⟨v, by rw [List.getElem?_set_self (h.1 ▸ hl)], r⟩
    · rw [List.getElem?_eq_none (by rw [List.length_set]; omega)] at q
      cases q
  · rw [List.getElem?_set_ne hj] at q
    obtain ⟨w, e1, e2⟩ := h.2 j u q
    exact ⟨w, by rw [List.getElem?_set_ne hj]; exact e1, e2⟩

def fin (K : PySem.W.Frag) (H : Hp) (Q : VK) : T → Sta → Prop := fun t S => ∀ H' v, Ext H H' → St K S H' → Rep K H' t v → Q v H'
def finB (K : PySem.W.Frag) (H : Hp) (Q : Bool → Hp → Prop) : Bool → Sta → Prop := fun b S => ∀ H', Ext H H' → St K S H' → Q b H'
def finA (K : PySem.W.Frag) (H : Hp) (Q : List V → Hp → Prop) : List T → Sta → Prop := fun ts S => ∀ H' vs, Ext H H' → St K S H' → Reps K H' ts vs → Q vs H'
def finS (K : PySem.W.Frag) (H : Hp) (Q : L2.St → Hp → Prop) : Sl → Sta → Prop := fun st S => ∀ H' σ, Ext H H' → St K S H' → SlR K H' st σ → Q σ H'
def finD (K : PySem.W.Frag) (H : Hp) (D : Ends) : WEnds := { nx := finS K H D.nx, rt := fin K H D.rt, bk := finS K H D.bk, ct := finS K H D.ct }
/-- on to what follows -/
def goS (f : Sl → Sta → Prop) (σ : Sl) (S : Sta) : Prop := f σ S
/-- either way of a test -/
def wif (b : Bool) (A C : Prop) : Prop := match b with
  | true => A
  | false => C
theorem wif_true {A C : Prop} : wif true A C = A := rfl
theorem wif_false {A C : Prop} : wif false A C = C := rfl
theorem if_dec {p : Prop} [Decidable p] {A C : Prop} (h1 : p → A) (h2 : ¬ p → C) : wif (decide p) A C := by
  by_cases h : p
  · rw [decide_eq_true h]; exact h1 h
  · rw [decide_eq_false h]; exact h2 h
theorem if_bool {p : Bool} {A C : Prop} (h1 : p = true → A) (h2 : p = false → C) : wif p A C := by
  cases p
  · exact h2 rfl
  · exact h1 rfl
abbrev Im2 {α : Type} (P Q : α → Sta → Prop) : Prop := ∀ v S, P v S → Q v S
structure ImD (D0 D : WEnds) : Prop where
  nx : Im2 D0.nx D.nx
  rt : Im2 D0.rt D.rt
  bk : Im2 D0.bk D.bk
  ct : Im2 D0.ct D.ct
def LE (B : Hp) (X : Cx) (t : WE) : TE := fun σ H Q => ∃ st S Q0, Ext B H ∧ SlR X.K H st σ ∧ St X.K S H ∧ t st S Q0 ∧ Im2 Q0 (fin X.K H Q)
def LT (B : Hp) (X : Cx) (t : WT) : TT := fun σ H Q => ∃ st S Q0, Ext B H ∧ SlR X.K H st σ ∧ St X.K S H ∧ t st S Q0 ∧ Im2 Q0 (finB X.K H Q)
def LA (B : Hp) (X : Cx) (t : WA) : TA := fun σ H Q => ∃ st S Q0, Ext B H ∧ SlR X.K H st σ ∧ St X.K S H ∧ t st S Q0 ∧ Im2 Q0 (finA X.K H Q)
def LS (B : Hp) (X : Cx) (t : WS) : TS := fun D σ H => ∃ st S D0, Ext B H ∧ SlR X.K H st σ ∧ St X.K S H ∧ t D0 st S ∧ ImD D0 (finD X.K H D)
def JE (B : Hp) (X : Cx) (e : Expr) (t : WE) : Prop := PE X e (LE B X t)
def JT (B : Hp) (X : Cx) (e : Expr) (t : WT) : Prop := PT X e (LT B X t)
def JW (B : Hp) (X : Cx) (e : Expr) (t : WT) : Prop := PW X e (LT B X t)
def JA (B : Hp) (X : Cx) (es : List Expr) (t : WA) : Prop := PA X es (LA B X t)
def JS (B : Hp) (X : Cx) (s : Stmt) (t : WS) : Prop := PS X s (LS B X t)
def JSs (B : Hp) (X : Cx) (ss : List Stmt) (t : WS) : Prop := PSs X ss (LS B X t)
theorem JW.jt {B : Hp} {X : Cx} {e : Expr} {t : WT} (h : JW B X e t) : JT B X e t := PW.pt h

theorem pe_imp {X : Cx} {e : Expr} {t t' : TE} (h : PE X e t) (k : ∀ σ H Q, t' σ H Q → t σ H Q) : PE X e t' := ⟨fun pins s σ H Q I q => h.run pins s σ H Q I (k σ H Q q)⟩
theorem pt_imp {X : Cx} {e : Expr} {t t' : TT} (h : PT X e t) (k : ∀ σ H Q, t' σ H Q → t σ H Q) : PT X e t' := ⟨fun pins s σ H Q I q => h.run pins s σ H Q I (k σ H Q q)⟩
theorem pw_imp {X : Cx} {e : Expr} {t t' : TT} (h : PW X e t) (k : ∀ σ H Q, t' σ H Q → t σ H Q) : PW X e t' := ⟨fun wh pins s σ H Q I q => h.run wh pins s σ H Q I (k σ H Q q)⟩
theorem pa_imp {X : Cx} {e : List Expr} {t t' : TA} (h : PA X e t) (k : ∀ σ H Q, t' σ H Q → t σ H Q) : PA X e t' := ⟨fun pos pins s σ H Q I q => h.run pos pins s σ H Q I (k σ H Q q)⟩
theorem ps_imp {X : Cx} {s : Stmt} {t t' : TS} (h : PS X s t) (k : ∀ D σ H, t' D σ H → t D σ H) : PS X s t' := ⟨fun pins s σ H D I q => h.run pins s σ H D I (k D σ H q)⟩
theorem pss_imp {X : Cx} {s : List Stmt} {t t' : TS} (h : PSs X s t) (k : ∀ D σ H, t' D σ H → t D σ H) : PSs X s t' := ⟨fun pins s σ H D I q => h.run pins s σ H D I (k D σ H q)⟩
theorem fin_ext {K : PySem.W.Frag} {H H1 : Hp} {Q : VK} {t : T} {S : Sta} (e : Ext H H1) (h : fin K H Q t S) : fin K H1 Q t S := fun H' v e' s r => h H' v (e.trans e') s r
theorem finB_ext {K : PySem.W.Frag} {H H1 : Hp} {Q : Bool → Hp → Prop} {t : Bool} {S : Sta} (e : Ext H H1) (h : finB K H Q t S) : finB K H1 Q t S := fun H' e' s => h H' (e.trans e') s
theorem finA_ext {K : PySem.W.Frag} {H H1 : Hp} {Q : List V → Hp → Prop} {t : List T} {S : Sta} (e : Ext H H1) (h : finA K H Q t S) : finA K H1 Q t S := fun H' v e' s r => h H' v (e.trans e') s r
end Wp

set_option Elab.async false
set_option linter.all false
set_option maxRecDepth 100000
/-! expressions -/
namespace Wp
open PySem PySem.Spec PyProof.Rows L2
section
variable {B : Hp} {X : Cx} {a b c : Expr} {ta tb tc : WE} {pos : Pos}
/-! ### names, constants -/
def wVar (i : Nat) (σ : Sl) (S : Sta) (Q : T → Sta → Prop) : Prop := ∃ v, σ[i]? = some (some v) ∧ Q v S
def wC (t : T) (u0 : Sl) (S : Sta) (Q : T → Sta → Prop) : Prop := Q t S
theorem j_var (i : Nat) {x : Str} (hN : X.N[i]? = some x := by rfl) (hv : Vis X.env.scope x := by first | exact Or.inl rfl | exact Or.inr (Or.inl rfl) | exact Or.inr (Or.inr rfl)) (hd : (x == ("__debug__" : Str)) = false := by decide)
    (hcd : (x == ("__classdict__" : Str)) = false := by decide) : JE B X (.Name x pos) (wVar i) :=
  pe_imp (pe_var hN hv hd hcd) fun σ H Q ⟨st, S, Q0, _, r, s, ⟨v, e, q⟩, im⟩ => by
    obtain ⟨u, e1, e2⟩ := r.2 i v e
    exact ⟨u, e1, im v S q H u (Ext.refl H) s e2⟩
theorem j_const {e : Expr} {t : T} {v : V} (h : PE X e (tC v)) (r : ∀ H, Rep X.K H t v) : JE B X e (wC t) :=
  pe_imp h fun σ H Q ⟨st, S, Q0, _, _, s, q, im⟩ => im t S q H v (Ext.refl H) s (r H)
theorem j_int {i j} : JE B X (.Constant (.int i) j pos) (wC (.int i)) := j_const pe_int fun _ => .int i
theorem j_bl {i j} : JE B X (.Constant (.bool i) j pos) (wC (.bl i)) := j_const pe_bl fun _ => .bl i
theorem j_non {j} : JE B X (.Constant .none j pos) (wC .non) := j_const pe_non fun _ => .non
theorem j_str {i j} : JE B X (.Constant (.str i) j pos) (wC (.str i)) := j_const pe_str fun _ => .str i
theorem j_globI {x : Str} {i : Int} {t : Tok} (hg : Gl X x) (hm : X.mg x = some (.int i t)) (hd : (x == ("__debug__" : Str)) = false := by decide) : JE B X (.Name x pos) (wC (.int i)) :=
  j_const (pe_glob (v := V.int i) hg hm (show ∃ t', Value.int i t = Value.int i t' from ⟨t, rfl⟩) hd) fun _ => .int i
theorem j_globS {x : Str} {i : Str} {t : Tok} (hg : Gl X x) (hm : X.mg x = some (.str i t)) (hd : (x == ("__debug__" : Str)) = false := by decide) : JE B X (.Name x pos) (wC (.str i)) :=
  j_const (pe_glob (v := V.str i) hg hm (show ∃ t', Value.str i t = Value.str i t' from ⟨t, rfl⟩) hd) fun _ => .str i

/-! ### operations -/
abbrev R3 := T → T → Sta → (T → Sta → Prop) → Prop
def L3 (K : PySem.W.Frag) (r : R3) : R2 := fun x y H Q => ∃ a b S Q0, Rep K H a x ∧ Rep K H b y ∧ St K S H ∧ r a b S Q0 ∧ Im2 Q0 (fin K H Q)
def OpT (X : Cx) (f : Value → Value → Sem Value) (r : R3) : Prop := OpR X f (L3 X.K r)
def wOp (r : R3) (ta tb : WE) (σ : Sl) (S : Sta) (Q : T → Sta → Prop) : Prop := ta σ S fun x S1 => tb σ S1 fun y S2 => r x y S2 Q
theorem le_op {r : R3} {σ : L2.St} {H : Hp} {Q : VK} (h : LE B X (wOp r ta tb) σ H Q) : tOp (L3 X.K r) (LE B X ta) (LE B X tb) σ H Q := by
  obtain ⟨st, S, Q0, he, hr, hs, h, im⟩ := h
  refine ⟨st, S, _, he, hr, hs, h, fun x S1 h1 H1 v e1 s1 r1 => ?_⟩
  refine ⟨st, S1, _, he.trans e1, hr.mono e1, s1, h1, fun y S2 h2 H2 u e2 s2 r2 => ?_⟩
  exact ⟨x, y, S2, Q0, Rep.mono e2 _ _ r1, r2, s2, h2, fun z S3 q => fin_ext (e1.trans e2) (im z S3 q)⟩
theorem j_op {op : Operator} {r : R3} (ho : OpT X (binaryOp op) r) (ha : JE B X a ta) (hb : JE B X b tb) : JE B X (.BinOp a op b pos) (wOp r ta tb) := pe_imp (pe_op ho ha hb) fun _ _ _ h => le_op h
theorem j_cmp {op : CmpOp} {r : R3} (ho : OpT X (compareOp op) r) (ha : JE B X a ta) (hb : JE B X b tb) (hm : behindInMarks op b = false) : JE B X (.Compare a [op] [b] pos) (wOp r ta tb) := pe_imp (pe_cmpR ho ha hb hm) fun _ _ _ h => le_op h
/-- a value that is a bool, as a test -/
def wTest (t : WE) (σ : Sl) (S : Sta) (Q : Bool → Sta → Prop) : Prop := t σ S fun x S1 => match x with
  | .bl c => Q c S1
  | _ => False
theorem le_test {t : WE} {σ : L2.St} {H : Hp} {Q : Bool → Hp → Prop} (h : LT B X (wTest t) σ H Q) : LE B X t σ H fun x H' => ∃ k, x = V.bl k ∧ Q k H' := by
  obtain ⟨st, S, Q0, he, hr, hs, h, im⟩ := h
  refine ⟨st, S, _, he, hr, hs, h, fun x S1 h1 H1 v e1 s1 r1 => ?_⟩
  cases x with
  | bl c =>
    cases r1
    exact ⟨c, rfl, im c S1 h1 H1 e1 s1⟩
  | _ => exact h1.elim
theorem jt_val {e : Expr} {t : WE} (h : JE B X e t) (he : ∀ whole, isTrue e X.env whole = (do let v ← whole; standAt e.pos; holding [v] (truthy v)) := by intro _; rfl) : JT B X e (wTest t) :=
  pt_imp (pt_val h he) fun _ _ _ h => le_test h
theorem jt_cmp {op : CmpOp} {r : R3} (ho : OpT X (compareOp op) r) (ha : JE B X a ta) (hb : JE B X b tb) (hm : behindInMarks op b = false) : JT B X (.Compare a [op] [b] pos) (wTest (wOp r ta tb)) :=
  pt_imp (pt_cmpR ho ha hb hm) fun σ H Q h => le_op (le_test h)
/-! ### chains a < b < c -/
def wChain (r r' : R3) (ta tb tc : WE) (σ : Sl) (S : Sta) (Q : T → Sta → Prop) : Prop := ta σ S fun x S1 => tb σ S1 fun y S2 => r x y S2 fun z S3 => match z with
  | .bl k => wif k (tc σ S3 fun u S4 => r' y u S4 Q) (Q (.bl false) S3)
  | _ => False
theorem le_chain {r r' : R3} {σ : L2.St} {H : Hp} {Q : VK} (h : LE B X (wChain r r' ta tb tc) σ H Q) : tChain (L3 X.K r) (L3 X.K r') (LE B X ta) (LE B X tb) (LE B X tc) σ H Q := by
  obtain ⟨st, S, Q0, he, hr, hs, h, im⟩ := h
  refine ⟨st, S, _, he, hr, hs, h, fun x S1 h1 H1 v e1 s1 r1 => ?_⟩
  refine ⟨st, S1, _, he.trans e1, hr.mono e1, s1, h1, fun y S2 h2 H2 u e2 s2 r2 => ?_⟩
  refine ⟨x, y, S2, _, Rep.mono e2 _ _ r1, r2, s2, h2, fun z S3 q H3 w e3 s3 r3 => ?_⟩
  cases z with
  | bl k =>
    cases r3
    refine ⟨k, rfl, ?_⟩
    cases k with
    | true =>
      rw [if_pos rfl]
      have q : tc st S3 fun u S4 => r' y u S4 Q0 := q
      refine ⟨st, S3, _, (he.trans e1).trans (e2.trans e3), hr.mono (e1.trans (e2.trans e3)), s3, q, fun u' S4 h4 H4 v4 e4 s4 r4 => ?_⟩
      exact ⟨y, u', S4, Q0, Rep.mono (e3.trans e4) _ _ r2, r4, s4, h4, fun z S5 q5 => fin_ext (e1.trans (e2.trans (e3.trans e4))) (im z S5 q5)⟩
    | false =>
      rw [if_neg Bool.false_ne_true]
      have q : Q0 (.bl false) S3 := q
      exact im _ _ q H3 _ (e1.trans (e2.trans e3)) s3 (.bl false)
  | _ => exact q.elim
theorem j_chain {op op' : CmpOp} {r r' : R3} (ho : OpT X (compareOp op) r) (ho' : OpT X (compareOp op') r') (ha : JE B X a ta) (hb : JE B X b tb) (hc : JE B X c tc)
    (hm : lastMarks [op, op'] [b, c] = false := by with_unfolding_all rfl) : JE B X (.Compare a [op, op'] [b, c] pos) (wChain r r' ta tb tc) := pe_imp (pe_chain ho ho' ha hb hc hm) fun _ _ _ h => le_chain h
theorem jt_chain {op op' : CmpOp} {r r' : R3} (ho : OpT X (compareOp op) r) (ho' : OpT X (compareOp op') r') (ha : JE B X a ta) (hb : JE B X b tb) (hc : JE B X c tc)
    (hm : lastMarks [op, op'] [b, c] = false := by with_unfolding_all rfl) : JT B X (.Compare a [op, op'] [b, c] pos) (wTest (wChain r r' ta tb tc)) := pt_imp (pt_chain ho ho' ha hb hc hm) fun _ _ _ h => le_chain (le_test h)

/-! ### and, or, not, if -/
variable {rest : List Expr} {t u : WT}
def wAnd (t u : WT) (σ : Sl) (S : Sta) (Q : Bool → Sta → Prop) : Prop := t σ S fun c S1 => wif c (u σ S1 Q) (Q false S1)
def wOr (t u : WT) (σ : Sl) (S : Sta) (Q : Bool → Sta → Prop) : Prop := t σ S fun c S1 => wif c (Q true S1) (u σ S1 Q)
def wNot (t : WT) (σ : Sl) (S : Sta) (Q : Bool → Sta → Prop) : Prop := t σ S fun c S1 => Q (!c) S1
theorem jw_and1 (ha : JT B X a t) : JW B X (.BoolOp .And [a] pos) t := pw_and1 ha
theorem jw_or1 (ha : JT B X a t) : JW B X (.BoolOp .Or [a] pos) t := pw_or1 ha
theorem jw_and (ha : JT B X a t) (hb : JW B X (.BoolOp .And (b :: rest) pos) u) : JW B X (.BoolOp .And (a :: b :: rest) pos) (wAnd t u) :=
  pw_imp (pw_and ha hb) fun σ H Q ⟨st, S, Q0, he, hr, hs, h, im⟩ => by
    refine ⟨st, S, _, he, hr, hs, h, fun k S1 h1 H1 e1 s1 => ?_⟩
    cases k with
    | true =>
      rw [if_pos rfl]
      exact ⟨st, S1, Q0, he.trans e1, hr.mono e1, s1, h1, fun z S3 q => finB_ext e1 (im z S3 q)⟩
    | false =>
      rw [if_neg Bool.false_ne_true]
      exact im _ _ h1 H1 e1 s1
theorem jw_or (ha : JT B X a t) (hb : JW B X (.BoolOp .Or (b :: rest) pos) u) : JW B X (.BoolOp .Or (a :: b :: rest) pos) (wOr t u) :=
  pw_imp (pw_or ha hb) fun σ H Q ⟨st, S, Q0, he, hr, hs, h, im⟩ => by
    refine ⟨st, S, _, he, hr, hs, h, fun k S1 h1 H1 e1 s1 => ?_⟩
    cases k with
    | true =>
      rw [if_pos rfl]
      exact im _ _ h1 H1 e1 s1
    | false =>
      rw [if_neg Bool.false_ne_true]
      exact ⟨st, S1, Q0, he.trans e1, hr.mono e1, s1, h1, fun z S3 q => finB_ext e1 (im z S3 q)⟩
theorem jt_not (ha : JT B X a t) : JT B X (.UnaryOp .Not a pos) (wNot t) :=
  pt_imp (pt_not ha) fun σ H Q ⟨st, S, Q0, he, hr, hs, h, im⟩ => ⟨st, S, _, he, hr, hs, h, fun k S1 h1 H1 e1 s1 => im _ _ h1 H1 e1 s1⟩
/-- .. as values -/
def wAndV (ta tb : WE) (σ : Sl) (S : Sta) (Q : T → Sta → Prop) : Prop := ta σ S fun x S1 => match x with
  | .bl k => wif k (tb σ S1 Q) (Q (.bl false) S1)
  | _ => False
def wOrV (ta tb : WE) (σ : Sl) (S : Sta) (Q : T → Sta → Prop) : Prop := ta σ S fun x S1 => match x with
  | .bl k => wif k (Q (.bl true) S1) (tb σ S1 Q)
  | _ => False
def wNotV (t : WE) (σ : Sl) (S : Sta) (Q : T → Sta → Prop) : Prop := t σ S fun x S1 => match x with
  | .bl c => Q (.bl (!c)) S1
  | _ => False
theorem j_one {op} {t : WE} (h : JE B X a t) : JE B X (.BoolOp op [a] pos) t := pe_one h
theorem j_and (ha : JE B X a ta) (hb : JE B X (.BoolOp .And (b :: rest) pos) tb) : JE B X (.BoolOp .And (a :: b :: rest) pos) (wAndV ta tb) :=
  pe_imp (pe_and ha hb) fun σ H Q ⟨st, S, Q0, he, hr, hs, h, im⟩ => by
    refine ⟨st, S, _, he, hr, hs, h, fun x S1 h1 H1 v e1 s1 r1 => ?_⟩
    cases x with
    | bl k =>
      cases r1
      refine ⟨k, rfl, ?_⟩
      cases k with
      | true =>
        rw [if_pos rfl]
        exact ⟨st, S1, Q0, he.trans e1, hr.mono e1, s1, h1, fun z S3 q => fin_ext e1 (im z S3 q)⟩
      | false =>
        rw [if_neg Bool.false_ne_true]
        exact im _ _ h1 H1 _ e1 s1 (.bl false)
    | _ => exact h1.elim
theorem j_or (ha : JE B X a ta) (hb : JE B X (.BoolOp .Or (b :: rest) pos) tb) : JE B X (.BoolOp .Or (a :: b :: rest) pos) (wOrV ta tb) :=
  pe_imp (pe_or ha hb) fun σ H Q ⟨st, S, Q0, he, hr, hs, h, im⟩ => by
    refine ⟨st, S, _, he, hr, hs, h, fun x S1 h1 H1 v e1 s1 r1 => ?_⟩
    cases x with
    | bl k =>
      cases r1
      refine ⟨k, rfl, ?_⟩
      cases k with
      | true =>
        rw [if_pos rfl]
        exact im _ _ h1 H1 _ e1 s1 (.bl true)
      | false =>
        rw [if_neg Bool.false_ne_true]
        exact ⟨st, S1, Q0, he.trans e1, hr.mono e1, s1, h1, fun z S3 q => fin_ext e1 (im z S3 q)⟩
    | _ => exact h1.elim
theorem j_not (ha : JE B X a ta) : JE B X (.UnaryOp .Not a pos) (wNotV ta) :=
  pe_imp (pe_not ha) fun σ H Q ⟨st, S, Q0, he, hr, hs, h, im⟩ => by
    refine ⟨st, S, _, he, hr, hs, h, fun x S1 h1 H1 v e1 s1 r1 => ?_⟩
    cases x with
    | bl k =>
      cases r1
      exact ⟨k, rfl, im _ _ h1 H1 _ e1 s1 (.bl _)⟩
    | _ => exact h1.elim
def wIf (t : WT) (ta tb : WE) (σ : Sl) (S : Sta) (Q : T → Sta → Prop) : Prop := t σ S fun c S1 => wif c (ta σ S1 Q) (tb σ S1 Q)
theorem j_ifExp (hc : JT B X c t) (ha : JE B X a ta) (hb : JE B X b tb) : JE B X (.IfExp c a b pos) (wIf t ta tb) :=
  pe_imp (pe_ifExp hc ha hb) fun σ H Q ⟨st, S, Q0, he, hr, hs, h, im⟩ => by
    refine ⟨st, S, _, he, hr, hs, h, fun k S1 h1 H1 e1 s1 => ?_⟩
    cases k with
    | true =>
      rw [if_pos rfl]
      exact ⟨st, S1, Q0, he.trans e1, hr.mono e1, s1, h1, fun z S3 q => fin_ext e1 (im z S3 q)⟩
    | false =>
      rw [if_neg Bool.false_ne_true]
      exact ⟨st, S1, Q0, he.trans e1, hr.mono e1, s1, h1, fun z S3 q => fin_ext e1 (im z S3 q)⟩

/-! ### argument lists, displays -/
def wNil (u0 : Sl) (S : Sta) (Q : List T → Sta → Prop) : Prop := Q [] S
def wCons (ta : WE) (tr : WA) (σ : Sl) (S : Sta) (Q : List T → Sta → Prop) : Prop := ta σ S fun x S1 => tr σ S1 fun xs S2 => Q (x :: xs) S2
variable {es : List Expr} {tr : WA}
theorem ja_nil : JA B X [] wNil := pa_imp pa_nil fun σ H Q ⟨st, S, Q0, he, hr, hs, h, im⟩ => im _ _ h H [] (Ext.refl H) hs .nil
theorem ja_cons (ha : JE B X a ta) (hr : JA B X es tr) (hs : starEach (a :: es) X.env = (false, eval a X.env) :: starEach es X.env := by rfl) : JA B X (a :: es) (wCons ta tr) :=
  pa_imp (pa_cons ha hr hs) fun σ H Q ⟨st, S, Q0, he, hr, hs, h, im⟩ => by
    refine ⟨st, S, _, he, hr, hs, h, fun x S1 h1 H1 v e1 s1 r1 => ?_⟩
    refine ⟨st, S1, _, he.trans e1, hr.mono e1, s1, h1, fun xs S2 h2 H2 vs e2 s2 r2 => ?_⟩
    exact im _ _ h2 H2 _ (e1.trans e2) s2 (.cons (Rep.mono e2 _ _ r1) r2)
def wTup (t : WA) (σ : Sl) (S : Sta) (Q : T → Sta → Prop) : Prop := t σ S fun xs S1 => xs.length ≤ sizeLine ∧ Q (.tup xs) S1
def wLst (t : WA) (σ : Sl) (S : Sta) (Q : T → Sta → Prop) : Prop := t σ S fun xs S1 => xs.length ≤ sizeLine ∧ ∀ p, S1 p = none → Q (.ref p) (upS S1 p (.lst xs))
theorem j_tup {x1} (h : JA B X es tr) : JE B X (.Tuple es x1 pos) (wTup tr) :=
  pe_imp (pe_tup h) fun σ H Q ⟨st, S, Q0, he, hr, hs, h, im⟩ => by
    refine ⟨st, S, _, he, hr, hs, h, fun xs S1 h1 H1 vs e1 s1 r1 => ?_⟩
    refine ⟨by rw [← r1.length]; exact h1.1, fun p hp => ?_⟩
    exact im _ _ h1.2 _ _ (e1.trans (Ext.new hp)) (s1.new hp _) (.tup (.inl (.inl upd_same)) (Reps.mono (Ext.new hp) _ _ r1))
theorem j_lst (h : JA B X es tr) : JE B X (.List es pos) (wLst tr) :=
  pe_imp (pe_lst h) fun σ H Q ⟨st, S, Q0, he, hr, hs, h, im⟩ => by
    refine ⟨st, S, _, he, hr, hs, h, fun xs S1 h1 H1 vs e1 s1 r1 => ?_⟩
    refine ⟨by rw [← r1.length]; exact h1.1, fun p hp => ?_⟩
    obtain ⟨e2, s2⟩ := s1.newL hp r1
    exact im _ _ (h1.2 p (s1.free hp)) _ _ (e1.trans e2) s2 (.ref p)
end
end Wp

set_option Elab.async false
set_option linter.all false
set_option maxRecDepth 100000
/-! operations on values -/
namespace Wp
open PySem PySem.Spec PyProof.Rows L2
section
variable {B : Hp} {X : Cx}
/-! ### arithmetic -/
def rInt (C : Int → Int → Prop) (g : Int → Int → T) (x : T) (y : T) (S : Sta) (Q : T → Sta → Prop) : Prop := match x, y with
  | .int i, .int j => C i j ∧ Q (g i j) S
  | _, _ => False
theorem opT_I {f : Value → Value → Sem Value} {C : Int → Int → Prop} {gV : Int → Int → V} {gT : Int → Int → T} (h : OpR X f (rI C gV)) (hr : ∀ H i j, Rep X.K H (gT i j) (gV i j)) : OpT X f (rInt C gT) := by
  intro pins s σ H x y v u Q I rx ry ⟨a, b, S, Q0, ra, rb, hs, q, im⟩
  cases a with
  | int i =>
    cases b with
    | int j =>
      cases ra
      cases rb
      exact h pins s σ H _ _ v u Q I rx ry ⟨i, j, rfl, rfl, q.1, im _ _ q.2 H _ (Ext.refl H) hs (hr H i j)⟩
    | _ => exact q.elim
  | _ => exact q.elim
theorem opT_I0 {f : Value → Value → Sem Value} {gV : Int → Int → V} {gT : Int → Int → T} (h : OpR X f (rI0 gV)) (hr : ∀ H i j, Rep X.K H (gT i j) (gV i j)) : OpT X f (rInt (fun _ _ => True) gT) := by
  intro pins s σ H x y v u Q I rx ry ⟨a, b, S, Q0, ra, rb, hs, q, im⟩
  cases a with
  | int i =>
    cases b with
    | int j =>
      cases ra
      cases rb
      exact h pins s σ H _ _ v u Q I rx ry ⟨i, j, rfl, rfl, im _ _ q.2 H _ (Ext.refl H) hs (hr H i j)⟩
    | _ => exact q.elim
  | _ => exact q.elim
def rSub : R3 := rInt (fun _ _ => True) fun i j => .int (i - j)
def rMul : R3 := rInt CMul fun i j => .int (i * j)
def rMod : R3 := rInt (fun _ j => 0 < j) fun i j => .int (i % j)
def rFdiv : R3 := rInt (fun _ j => 0 < j ∧ j < 2 ^ 62) fun i j => .int (i / j)
def rPow : R3 := rInt CPow fun i j => .int (i ^ j.toNat)
theorem o_sub : OpT X (binaryOp .Sub) rSub := opT_I0 op_sub fun _ _ _ => .int _
theorem o_mul : OpT X (binaryOp .Mult) rMul := opT_I op_mul fun _ _ _ => .int _
theorem o_mod : OpT X (binaryOp .Mod) rMod := opT_I op_mod fun _ _ _ => .int _
theorem o_pow : OpT X (binaryOp .Pow) rPow := opT_I op_pow fun _ _ _ => .int _
theorem o_fdiv : OpT X (binaryOp .FloorDiv) rFdiv := by
  intro pins s σ H x y v u Q I rx ry ⟨a, b, S, Q0, ra, rb, hs, q, im⟩
  refine opT_I (gT := fun i j => .int (i / j)) op_fdivW (fun _ _ _ => .int _) pins s σ H x y v u Q I rx ry ⟨a, b, S, Q0, ra, rb, hs, ?_, im⟩
  cases a with
  | int i =>
    cases b with
    | int j => exact ⟨wide_div (b := 62) q.1.1 (by have h1 := q.1.1; have h2 := q.1.2; omega) (by decide) (by decide), q.2⟩
    | _ => exact q.elim
  | _ => exact q.elim
/-- + : numbers, tuples, texts, lists -/
def rAdd (x : T) (y : T) (S : Sta) (Q : T → Sta → Prop) : Prop := match x, y with
  | .int i, .int j => Q (.int (i + j)) S
  | .tup a, .tup b => a.length + b.length ≤ sizeLine ∧ Q (.tup (a ++ b)) S
  | .str a, .str b => a.length + b.length ≤ sizeLine ∧ Q (.str (a ++ b)) S
  | .ref p, .ref q => ∃ xs, S p = some (.lst xs) ∧ ∃ ys, S q = some (.lst ys) ∧ xs.length + ys.length ≤ sizeLine ∧ ∀ r, S r = none → Q (.ref r) (upS S r (.lst (xs ++ ys)))
  | _, _ => False
theorem o_add : OpT X (binaryOp .Add) rAdd := by
  intro pins s σ H x y v u Q I rx ry ⟨a, b, S, Q0, ra, rb, hs, q, im⟩
  cases a with
  | int i =>
    cases b with
    | int j =>
      cases ra
      cases rb
      exact op_add pins s σ H _ _ v u Q I rx ry ⟨i, j, rfl, rfl, im _ _ q H _ (Ext.refl H) hs (.int _)⟩
    | _ => exact q.elim
  | str i =>
    cases b with
    | str j =>
      cases ra
      cases rb
      exact op_add_str pins s σ H _ _ v u Q I rx ry ⟨i, j, rfl, rfl, q.1, im _ _ q.2 H _ (Ext.refl H) hs (.str _)⟩
    | _ => exact q.elim
  | tup ts =>
    cases b with
    | tup us =>
      cases ra with
      | @tup p xs _ h1 h2 =>
        cases rb with
        | @tup p' ys _ g1 g2 =>
          have rr := Reps.append h2 g2
          refine op_catA pins s σ H _ _ v u Q I rx ry ⟨p, p', xs, ys, rfl, rfl, h1, g1, by rw [← h2.length, ← g2.length]; exact q.1, fun e => ?_, fun e e' => ?_, fun e e' r hr => ?_⟩
          · subst e
            cases h2
            exact im _ _ q.2 H _ (Ext.refl H) hs (.tup g1 g2)
          · subst e'
            cases g2
            have q2 := q.2
            rw [List.append_nil] at q2
            exact im _ _ q2 H _ (Ext.refl H) hs (.tup h1 h2)
          · exact im _ _ q.2 _ _ (Ext.new hr) (hs.new hr _) (.tup (.inl (.inl upd_same)) (Reps.mono (Ext.new hr) _ _ rr))
    | _ => exact q.elim
  | ref p =>
    cases b with
    | ref p' =>
      cases ra
      cases rb
      obtain ⟨ts, e1, us, e2, hz, q⟩ := q
      obtain ⟨xs, h1, r1⟩ := hs p _ e1
      obtain ⟨ys, h2, r2⟩ := hs p' _ e2
      refine op_cat pins s σ H _ _ v u Q I rx ry ⟨p, p', xs, ys, rfl, rfl, h1, h2, by rw [← r1.length, ← r2.length]; exact hz, fun r hr => ?_⟩
      obtain ⟨e3, s3⟩ := hs.newL hr (Reps.append r1 r2)
      exact im _ _ (q r (hs.free hr)) _ _ e3 s3 (.ref r)
    | _ => exact q.elim
  | _ => exact q.elim
/-! ### order -/
def rCmp (p : Int → Int → Bool) (ps : List Nat → List Nat → Bool) (x : T) (y : T) (S : Sta) (Q : T → Sta → Prop) : Prop := match x, y with
  | .int i, .int j => Q (.bl (p i j)) S
  | .str a, .str b => Q (.bl (ps a.cps.toList b.cps.toList)) S
  | _, _ => False
def rLt : R3 := rCmp (fun i j => decide (i < j)) fun a b => decide (a < b)
def rLe : R3 := rCmp (fun i j => decide (i ≤ j)) fun a b => !decide (b < a)
def rGtI : R3 := rInt (fun _ _ => True) fun i j => .bl (decide (j < i))
def rGeI : R3 := rInt (fun _ _ => True) fun i j => .bl (decide (j ≤ i))
theorem o_lt : OpT X (compareOp .Lt) rLt := by
  intro pins s σ H x y v u Q I rx ry ⟨a, b, S, Q0, ra, rb, hs, q, im⟩
  cases a with
  | int i =>
    cases b with
    | int j =>
      cases ra
      cases rb
      exact op_lt pins s σ H _ _ v u Q I rx ry ⟨i, j, rfl, rfl, im _ _ q H _ (Ext.refl H) hs (.bl _)⟩
    | _ => exact q.elim
  | str i =>
    cases b with
    | str j =>
      cases ra
      cases rb
      exact op_lt_str pins s σ H _ _ v u Q I rx ry ⟨i, j, rfl, rfl, im _ _ q H _ (Ext.refl H) hs (.bl _)⟩
    | _ => exact q.elim
  | _ => exact q.elim
theorem o_le : OpT X (compareOp .LtE) rLe := by
  intro pins s σ H x y v u Q I rx ry ⟨a, b, S, Q0, ra, rb, hs, q, im⟩
  cases a with
  | int i =>
    cases b with
    | int j =>
      cases ra
      cases rb
      exact op_le pins s σ H _ _ v u Q I rx ry ⟨i, j, rfl, rfl, im _ _ q H _ (Ext.refl H) hs (.bl _)⟩
    | _ => exact q.elim
  | str i =>
    cases b with
    | str j =>
      cases ra
      cases rb
      exact op_le_str pins s σ H _ _ v u Q I rx ry ⟨i, j, rfl, rfl, im _ _ q H _ (Ext.refl H) hs (.bl _)⟩
    | _ => exact q.elim
  | _ => exact q.elim
theorem o_gt : OpT X (compareOp .Gt) rGtI := opT_I0 op_gt fun _ _ _ => .bl _
theorem o_ge : OpT X (compareOp .GtE) rGeI := opT_I0 op_ge fun _ _ _ => .bl _
/-! ### is None -/
def isNon : T → Bool
  | .non => true
  | _ => false
def rIsN (neg : Bool) (x : T) (y : T) (S : Sta) (Q : T → Sta → Prop) : Prop := match y with
  | .non => Q (.bl (neg != isNon x)) S
  | _ => False
theorem isNon_rep {K : PySem.W.Frag} {H : Hp} {t : T} {v : V} (r : Rep K H t v) : decide (v = .non) = isNon t := by
  cases r <;> rfl
theorem o_isN : OpT X (compareOp .Is) (rIsN false) := by
  intro pins s σ H x y v u Q I rx ry ⟨a, b, S, Q0, ra, rb, hs, q, im⟩
  cases b with
  | non =>
    cases rb
    refine op_isN pins s σ H _ _ v u Q I rx ry ⟨rfl, ?_⟩
    rw [isNon_rep ra]
    have q : Q0 (.bl (false != isNon a)) S := q
    rw [Bool.false_bne] at q
    exact im _ _ q H _ (Ext.refl H) hs (.bl _)
  | _ => exact q.elim
theorem o_notN : OpT X (compareOp .IsNot) (rIsN true) := by
  intro pins s σ H x y v u Q I rx ry ⟨a, b, S, Q0, ra, rb, hs, q, im⟩
  cases b with
  | non =>
    cases rb
    refine op_notN pins s σ H _ _ v u Q I rx ry ⟨rfl, ?_⟩
    rw [isNon_rep ra]
    have q : Q0 (.bl (true != isNon a)) S := q
    rw [Bool.true_bne] at q
    exact im _ _ q H _ (Ext.refl H) hs (.bl _)
  | _ => exact q.elim
/-! ### == -/
mutual
def toD : T → Option PyData
  | .non => some .none
  | .bl b => some (.bool b)
  | .int i => some (.int i)
  | .str s => some (.str s)
  | .tup ts => (toDs ts).map .tuple
  | .fl ts => (toDs ts).map .list
  | .ref _ => none
def toDs : List T → Option (List PyData)
  | [] => some []
  | t :: ts => match toD t, toDs ts with
    | some d, some ds => some (d :: ds)
    | _, _ => none
end
def dd (S : Sta) : T → Option PyData
  | .ref p => match S p with
    | some (.lst ts) => (toDs ts).map .list
    | _ => none
  | t => toD t
mutual
theorem Rep.dp {K : PySem.W.Frag} {H : Hp} : ∀ (t : T) (v : V) (d : PyData), Rep K H t v → toD t = some d → Dp K H v d
  | .non, _, _, r, e => by cases r; simp only [toD, Option.some.injEq] at e; subst e; exact .non
  | .bl b, _, _, r, e => by cases r; simp only [toD, Option.some.injEq] at e; subst e; exact .bl b
  | .int b, _, _, r, e => by cases r; simp only [toD, Option.some.injEq] at e; subst e; exact .int b
  | .str b, _, _, r, e => by cases r; simp only [toD, Option.some.injEq] at e; subst e; exact .str b
  | .ref a, _, _, r, e => by simp only [toD] at e; cases e
  | .tup ts, _, d, r, e => by
    cases r with
    | tup h1 h2 =>
      simp only [toD, Option.map_eq_some_iff] at e
      obtain ⟨ds, e1, e2⟩ := e
      subst e2
      exact .tup h1 (Reps.dp ts _ ds h2 e1)
  | .fl ts, _, d, r, e => by
    cases r with
    | fl h1 h2 =>
      simp only [toD, Option.map_eq_some_iff] at e
      obtain ⟨ds, e1, e2⟩ := e
      subst e2
      exact .lst h1.sq (Reps.dp ts _ ds h2 e1)
theorem Reps.dp {K : PySem.W.Frag} {H : Hp} : ∀ (ts : List T) (vs : List V) (ds : List PyData), Reps K H ts vs → toDs ts = some ds → DpAll K H vs ds
  | [], _, _, r, e => by cases r; simp only [toDs, Option.some.injEq] at e; subst e; exact .nil
  | t :: ts, _, ds, r, e => by
    cases r with
    | cons h1 h2 =>
      simp only [toDs] at e
      cases e1 : toD t with
      | none => rw [e1] at e; cases e
      | some d =>
        cases e2 : toDs ts with
        | none => rw [e1, e2] at e; cases e
        | some es =>
          rw [e1, e2] at e
          cases e
          exact .cons (Rep.dp t _ d h1 e1) (Reps.dp ts _ es h2 e2)
end
theorem dd_dp {K : PySem.W.Frag} {H : Hp} {S : Sta} {t : T} {v : V} {d : PyData} (hs : St K S H) (r : Rep K H t v) (e : dd S t = some d) : Dp K H v d := by
  cases t with
  | ref p =>
    cases r
    simp only [dd] at e
    cases q : S p with
    | none => rw [q] at e; cases e
    | some o =>
      rw [q] at e
      cases o with
      | ins C fs => cases e
      | lst ts =>
        simp only [Option.map_eq_some_iff] at e
        obtain ⟨ds, e1, e2⟩ := e
        subst e2
        obtain ⟨xs, h1, h2⟩ := hs p _ q
        exact .lst (.inl (.inl h1)) (Reps.dp ts _ ds h2 e1)
  | non => exact Rep.dp _ _ _ r e
  | bl b => exact Rep.dp _ _ _ r e
  | int b => exact Rep.dp _ _ _ r e
  | str b => exact Rep.dp _ _ _ r e
  | tup b => exact Rep.dp _ _ _ r e
  | fl b => exact Rep.dp _ _ _ r e
def rEq (neg : Bool) (x : T) (y : T) (S : Sta) (Q : T → Sta → Prop) : Prop := ∃ d, dd S x = some d ∧ ∃ e, dd S y = some e ∧ SeqAt.shaped d = true ∧ SeqAt.shaped e = true ∧ Q (.bl (neg != PyData.eqv d e)) S
theorem o_eq (hu : X.A.units + 64 < cLine) : OpT X (compareOp .Eq) (rEq false) := by
  intro pins s σ H x y v u Q I rx ry ⟨a, b, S, Q0, ra, rb, hs, ⟨d, h1, e, h2, h3, h4, q⟩, im⟩
  refine op_eqD hu pins s σ H _ _ v u Q I rx ry ⟨d, e, dd_dp hs ra h1, dd_dp hs rb h2, h3, h4, ?_⟩
  rw [Bool.false_bne] at q
  exact im _ _ q H _ (Ext.refl H) hs (.bl _)
theorem o_ne (hu : X.A.units + 64 < cLine) : OpT X (compareOp .NotEq) (rEq true) := by
  intro pins s σ H x y v u Q I rx ry ⟨a, b, S, Q0, ra, rb, hs, ⟨d, h1, e, h2, h3, h4, q⟩, im⟩
  refine op_neD hu pins s σ H _ _ v u Q I rx ry ⟨d, e, dd_dp hs ra h1, dd_dp hs rb h2, h3, h4, ?_⟩
  rw [Bool.true_bne] at q
  exact im _ _ q H _ (Ext.refl H) hs (.bl _)
/-! ### x in a list, a tuple: flat values -/
def flatT : T → Bool
  | .non => true
  | .bl _ => true
  | .int _ => true
  | .str _ => true
  | _ => false
def eqF : T → T → Bool
  | .non, .non => true
  | .bl a, .bl b => a == b
  | .bl a, .int b => (if a then 1 else 0) == b
  | .int a, .bl b => a == (if b then 1 else 0)
  | .int a, .int b => a == b
  | .str a, .str b => a == b
  | _, _ => false
def inF (x : T) (ts : List T) : Bool := ts.any fun y => eqF y x
theorem flat_rep {K : PySem.W.Frag} {H : Hp} {t : T} {v : V} (r : Rep K H t v) (f : flatT t = true) : flatV v = true := by
  cases r <;> first | rfl | cases f
theorem eqF_rep {K : PySem.W.Frag} {H : Hp} {t u : T} {v w : V} (r : Rep K H t v) (q : Rep K H u w) (f : flatT t = true) (g : flatT u = true) : eqV v w = eqF t u := by
  cases r <;> first | (cases f; done) | (cases q <;> first | (cases g; done) | rfl)
theorem flats_rep {K : PySem.W.Frag} {H : Hp} : ∀ {ts : List T} {vs : List V}, Reps K H ts vs → ts.all flatT = true → vs.all flatV = true
  | [], _, h, _ => by cases h; rfl
  | t :: ts, _, h, f => by
    cases h with
    | cons h1 h2 =>
      rw [List.all_cons, Bool.and_eq_true] at f ⊢
      exact ⟨flat_rep h1 f.1, flats_rep h2 f.2⟩
theorem inF_rep {K : PySem.W.Frag} {H : Hp} {x : T} {w : V} (r : Rep K H x w) (g : flatT x = true) : ∀ {ts : List T} {vs : List V}, Reps K H ts vs → ts.all flatT = true → inV w vs = inF x ts
  | [], _, h, _ => by cases h; rfl
  | t :: ts, _, h, f => by
    cases h with
    | cons h1 h2 =>
      rw [List.all_cons, Bool.and_eq_true] at f
      have ih := inF_rep r g h2 f.2
      unfold inV inF at ih ⊢
      rw [List.any_cons, List.any_cons, ih, eqF_rep h1 r f.1 g]
/-- the items of a list or a tuple, as they stand -/
def itemsT (S : Sta) : T → Option (List T)
  | .tup ts => some ts
  | .fl ts => some ts
  | .ref p => match S p with
    | some (.lst ts) => some ts
    | _ => none
  | _ => none
theorem items_sq {K : PySem.W.Frag} {H : Hp} {S : Sta} {t : T} {v : V} {ts : List T} (hs : St K S H) (r : Rep K H t v) (e : itemsT S t = some ts) : ∃ p xs, v = .ref p ∧ (SqL K H p xs ∨ SqT K H p xs) ∧ Reps K H ts xs := by
  cases r with
  | tup h1 h2 => cases e; exact ⟨_, _, rfl, .inr h1, h2⟩
  | fl h1 h2 => cases e; exact ⟨_, _, rfl, .inl h1.sq, h2⟩
  | ref a =>
    simp only [itemsT] at e
    cases q : S a with
    | none => rw [q] at e; cases e
    | some o =>
      rw [q] at e
      cases o with
      | ins C fs => cases e
      | lst us =>
        cases e
        obtain ⟨xs, h1, h2⟩ := hs a _ q
        exact ⟨a, xs, rfl, .inl (.inl (.inl h1)), h2⟩
  | _ => cases e
def rIn (neg : Bool) (x : T) (y : T) (S : Sta) (Q : T → Sta → Prop) : Prop := ∃ ts, itemsT S y = some ts ∧ flatT x = true ∧ ts.all flatT = true ∧ Q (.bl (neg != inF x ts)) S
theorem o_in : OpT X (compareOp .In) (rIn false) := by
  intro pins s σ H x y v u Q I rx ry ⟨a, b, S, Q0, ra, rb, hs, ⟨ts, e, f, g, q⟩, im⟩
  obtain ⟨p, xs, rfl, h, r⟩ := items_sq hs rb e
  refine op_in_seq pins s σ H _ _ v u Q I rx ry ⟨p, xs, rfl, h, flat_rep ra f, flats_rep r g, ?_⟩
  rw [if_neg Bool.false_ne_true, inF_rep ra f r g]
  rw [Bool.false_bne] at q
  exact im _ _ q H _ (Ext.refl H) hs (.bl _)
theorem o_notIn : OpT X (compareOp .NotIn) (rIn true) := by
  intro pins s σ H x y v u Q I rx ry ⟨a, b, S, Q0, ra, rb, hs, ⟨ts, e, f, g, q⟩, im⟩
  obtain ⟨p, xs, rfl, h, r⟩ := items_sq hs rb e
  refine op_notIn_seq pins s σ H _ _ v u Q I rx ry ⟨p, xs, rfl, h, flat_rep ra f, flats_rep r g, ?_⟩
  rw [if_pos rfl, inF_rep ra f r g]
  rw [Bool.true_bne] at q
  exact im _ _ q H _ (Ext.refl H) hs (.bl _)
end
end Wp

set_option Elab.async false
set_option linter.all false
set_option maxRecDepth 100000
/-! subscripts, slices, calls -/
namespace Wp
open PySem PySem.Spec PyProof.Rows L2
section
variable {B : Hp} {X : Cx} {a b : Expr} {ta tb : WE} {pos : Pos}
/-! ### o[i] -/
def rIx (x : T) (y : T) (S : Sta) (Q : T → Sta → Prop) : Prop := match y with
  | .int i => match x with
    | .str s => s.length ≤ sizeLine ∧ ∃ c, atI s.cps.toList i = some c ∧ Q (.str ⟨#[c]⟩) S
    | x => ∃ ts, itemsT S x = some ts ∧ ∃ t, atI ts i = some t ∧ Q t S
  | _ => False
theorem ixN_lt {n : Nat} {i : Int} {j : Nat} (h : ixN n i = some j) : j < n := (ixN_seq h).2.1
theorem atI_rep {K : PySem.W.Frag} {H : Hp} {ts : List T} {vs : List V} {i : Int} {t : T} (r : Reps K H ts vs) (h : atI ts i = some t) : ∃ v, atI vs i = some v ∧ Rep K H t v := by
  unfold atI at h ⊢
  rw [← r.length]
  cases e : ixN ts.length i with
  | none => rw [e] at h; cases h
  | some j =>
    rw [e] at h
    exact r.get h
theorem ix_T : IxR X (L3 X.K rIx) := by
  intro value slice pins s σ H x y v u Q I rx ry ⟨a, b, S, Q0, ra, rb, hs, q, im⟩ hsub
  cases b with
  | int i =>
    have go : ∀ ts t, itemsT S a = some ts → atI ts i = some t → Q0 t S → wpAny (model X.prog X.w) X.A (subscriptTail value slice v u) (EP X pins σ Q) X.xe s := fun ts t e1 e2 q => by
      obtain ⟨p, xs, rfl, h, r⟩ := items_sq hs ra e1
      obtain ⟨w, e3, rw'⟩ := atI_rep r e2
      cases rb
      have qq := im _ _ q H _ (Ext.refl H) hs rw'
      rcases h with h | h
      · exact ix_list value slice pins s σ H _ _ v u Q I rx ry ⟨p, xs, i, w, rfl, rfl, h, e3, qq⟩ hsub
      · exact ix_tup value slice pins s σ H _ _ v u Q I rx ry ⟨p, xs, i, w, rfl, rfl, h, e3, qq⟩ hsub
    cases a with
    | str z =>
      obtain ⟨hz, c, e, q⟩ := q
      cases ra
      cases rb
      exact ix_str value slice pins s σ H _ _ v u Q I rx ry ⟨z, i, c, rfl, rfl, hz, e, im _ _ q H _ (Ext.refl H) hs (.str _)⟩ hsub
    | non => obtain ⟨ts, e1, t, e2, q⟩ := q; exact go ts t e1 e2 q
    | bl _ => obtain ⟨ts, e1, t, e2, q⟩ := q; exact go ts t e1 e2 q
    | int _ => obtain ⟨ts, e1, t, e2, q⟩ := q; exact go ts t e1 e2 q
    | tup _ => obtain ⟨ts, e1, t, e2, q⟩ := q; exact go ts t e1 e2 q
    | fl _ => obtain ⟨ts, e1, t, e2, q⟩ := q; exact go ts t e1 e2 q
    | ref _ => obtain ⟨ts, e1, t, e2, q⟩ := q; exact go ts t e1 e2 q
  | _ => exact q.elim
theorem j_ix (ha : JE B X a ta) (hb : JE B X b tb) (hs : PlainIx b) : JE B X (.Subscript a b pos) (wOp rIx ta tb) := pe_imp (pe_ix ix_T ha hb hs) fun _ _ _ h => le_op h
/-! ### o[i:j] -/
abbrev WO := Sl → Sta → (Option Int → Sta → Prop) → Prop
def finO (K : PySem.W.Frag) (H : Hp) (Q : Option Int → Hp → Prop) : Option Int → Sta → Prop := fun b S => ∀ H', Ext H H' → St K S H' → Q b H'
def LO (B : Hp) (X : Cx) (t : WO) : TO := fun σ H Q => ∃ st S Q0, Ext B H ∧ SlR X.K H st σ ∧ St X.K S H ∧ t st S Q0 ∧ Im2 Q0 (finO X.K H Q)
def JO (B : Hp) (X : Cx) (e : Option Expr) (t : WO) : Prop := PO X e (LO B X t)
theorem po_imp {e : Option Expr} {t t' : TO} (h : PO X e t) (k : ∀ σ H Q, t' σ H Q → t σ H Q) : PO X e t' := ⟨fun pins s σ H Q I q => h.run pins s σ H Q I (k σ H Q q)⟩
def wNoPart (u0 : Sl) (S : Sta) (Q : Option Int → Sta → Prop) : Prop := Q none S
def wPart (t : WE) (σ : Sl) (S : Sta) (Q : Option Int → Sta → Prop) : Prop := t σ S fun x S1 => match x with
  | .int i => Q (some i) S1
  | _ => False
theorem jo_none : JO B X none wNoPart := po_imp po_none fun σ H Q ⟨st, S, Q0, he, hr, hs, h, im⟩ => im _ _ h H (Ext.refl H) hs
theorem jo_some (h : JE B X a ta) : JO B X (some a) (wPart ta) := po_imp (po_some h) fun σ H Q ⟨st, S, Q0, he, hr, hs, h, im⟩ => by
  refine ⟨st, S, _, he, hr, hs, h, fun x S1 h1 H1 v e1 s1 r1 => ?_⟩
  cases x with
  | int i =>
    cases r1
    exact ⟨i, rfl, im _ _ h1 H1 e1 s1⟩
  | _ => exact h1.elim
def cutT (xs : List T) (lo hi : Option Int) : List T := (xs.drop (HT.sIx xs.length 0 lo)).take (HT.sIx xs.length xs.length hi - HT.sIx xs.length 0 lo)
theorem cut_rep {K : PySem.W.Frag} {H : Hp} {ts : List T} {vs : List V} (r : Reps K H ts vs) (lo hi : Option Int) : Reps K H (cutT ts lo hi) (cutV vs lo hi) := by
  unfold cutT cutV
  rw [r.length]
  exact (r.drop _).take _
theorem cutT_all (xs : List T) (lo hi : Option Int) (h : HT.sIx xs.length 0 lo = 0 ∧ HT.sIx xs.length xs.length hi = xs.length) : cutT xs lo hi = xs := by
  unfold cutT
  rw [h.1, h.2]
  simp
def rSl : T → Option Int → Option Int → Sta → (T → Sta → Prop) → Prop := fun x lo hi S Q => match x with
  | .str z => z.length ≤ sizeLine ∧ Q (.str (Txt.slice z lo hi)) S
  | .tup ts => Q (.tup (cutT ts lo hi)) S
  | x => ∃ ts, itemsT S x = some ts ∧ ∀ p, S p = none → Q (.ref p) (upS S p (.lst (cutT ts lo hi)))
def L3s (K : PySem.W.Frag) (r : T → Option Int → Option Int → Sta → (T → Sta → Prop) → Prop) : V → Option Int → Option Int → Hp → VK → Prop := fun x lo hi H Q => ∃ a S Q0, Rep K H a x ∧ St K S H ∧ r a lo hi S Q0 ∧ Im2 Q0 (fin K H Q)
theorem sl_T : L2.SlR X (L3s X.K rSl) := by
  intro pins s σ H x v vl vu lo hi sl Q I rx hso pl pu ⟨a, S, Q0, ra, hs, q, im⟩
  cases a with
  | str z =>
    cases ra
    exact C8.sl_txt pins s σ H _ v vl vu lo hi sl Q I rx hso pl pu ⟨z, rfl, q.1, im _ _ q.2 H _ (Ext.refl H) hs (.str _)⟩
  | tup ts =>
    cases ra with
    | @tup p xs _ h1 h2 =>
      refine sl_tupA pins s σ H _ v vl vu lo hi sl Q I rx hso pl pu ⟨p, xs, rfl, h1, fun hw => ?_, fun hw p' hp' => ?_⟩
      · rw [← h2.length] at hw
        have q : Q0 (.tup (cutT ts lo hi)) S := q
        rw [cutT_all ts lo hi hw] at q
        exact im _ _ q H _ (Ext.refl H) hs (.tup h1 h2)
      · exact im _ _ q _ _ (Ext.new hp') (hs.new hp' _) (.tup (.inl (.inl upd_same)) (Reps.mono (Ext.new hp') _ _ (cut_rep h2 lo hi)))
  | fl ts =>
    cases ra with
    | @fl p xs _ h1 h2 =>
      obtain ⟨us, e, q⟩ := q
      cases e
      refine sl_list pins s σ H _ v vl vu lo hi sl Q I rx hso pl pu ⟨p, xs, rfl, h1.sq, fun p' hp' => ?_⟩
      obtain ⟨e3, s3⟩ := hs.newL hp' (cut_rep h2 lo hi)
      exact im _ _ (q p' (hs.free hp')) _ _ e3 s3 (.ref p')
  | ref p =>
    obtain ⟨us, e, q⟩ := q
    simp only [itemsT] at e
    cases ra
    cases eS : S p with
    | none => rw [eS] at e; cases e
    | some o =>
      rw [eS] at e
      cases o with
      | ins C fs => cases e
      | lst ws =>
        cases e
        obtain ⟨xs, h1, h2⟩ := hs p _ eS
        refine sl_list pins s σ H _ v vl vu lo hi sl Q I rx hso pl pu ⟨p, xs, rfl, .inl (.inl h1), fun p' hp' => ?_⟩
        obtain ⟨e3, s3⟩ := hs.newL hp' (cut_rep h2 lo hi)
        exact im _ _ (q p' (hs.free hp')) _ _ e3 s3 (.ref p')
  | non => obtain ⟨us, e, q⟩ := q; cases e
  | bl _ => obtain ⟨us, e, q⟩ := q; cases e
  | int _ => obtain ⟨us, e, q⟩ := q; cases e
def wSl (te : WE) (tl th : WO) (σ : Sl) (S : Sta) (Q : T → Sta → Prop) : Prop := te σ S fun x S1 => tl σ S1 fun l S2 => th σ S2 fun u S3 => rSl x l u S3 Q
theorem j_slice {lo hi : Option Expr} {tl th : WO} {p2 : Pos} (he : JE B X a ta) (hl : JO B X lo tl) (hu : JO B X hi th) : JE B X (.Subscript a (.Slice lo hi none p2) pos) (wSl ta tl th) :=
  pe_imp (pe_slice sl_T he hl hu) fun σ H Q ⟨st, S, Q0, he, hr, hs, h, im⟩ => by
    refine ⟨st, S, _, he, hr, hs, h, fun x S1 h1 H1 v e1 s1 r1 => ?_⟩
    refine ⟨st, S1, _, he.trans e1, hr.mono e1, s1, h1, fun l S2 h2 H2 e2 s2 => ?_⟩
    refine ⟨st, S2, _, he.trans (e1.trans e2), hr.mono (e1.trans e2), s2, h2, fun u S3 h3 H3 e3 s3 => ?_⟩
    exact ⟨x, S3, Q0, Rep.mono (e2.trans e3) _ _ r1, s3, h3, fun z S4 q => fin_ext (e1.trans (e2.trans e3)) (im z S4 q)⟩
/-! ### -x -/
def rNeg : T → Sta → (T → Sta → Prop) → Prop := fun x S Q => match x with
  | .int i => Q (.int (-i)) S
  | _ => False
def wNeg (t : WE) (σ : Sl) (S : Sta) (Q : T → Sta → Prop) : Prop := t σ S fun x S1 => rNeg x S1 Q
theorem j_neg (ha : JE B X a ta) : JE B X (.UnaryOp .USub a pos) (wNeg ta) := pe_imp (pe_un un_neg ha) fun σ H Q ⟨st, S, Q0, he, hr, hs, h, im⟩ => by
  refine ⟨st, S, _, he, hr, hs, h, fun x S1 h1 H1 v e1 s1 r1 => ?_⟩
  cases x with
  | int i =>
    cases r1
    exact ⟨i, rfl, im _ _ h1 H1 _ e1 s1 (.int _)⟩
  | _ => exact h1.elim

/-! ### calls of built-ins by values -/
abbrev RC3 := List T → Sta → (T → Sta → Prop) → Prop
def LC (K : PySem.W.Frag) (r : RC3) : List V → Hp → VK → Prop := fun xs H Q => ∃ ts S Q0, Reps K H ts xs ∧ St K S H ∧ r ts S Q0 ∧ Im2 Q0 (fin K H Q)
def wCB (r : RC3) (t : WA) (σ : Sl) (S : Sta) (Q : T → Sta → Prop) : Prop := t σ S fun xs S1 => r xs S1 Q
variable {es : List Expr} {tr : WA}
theorem le_cb {r : RC3} {σ : L2.St} {H : Hp} {Q : VK} (h : LE B X (wCB r tr) σ H Q) : tCB (LC X.K r) (LA B X tr) σ H Q := by
  obtain ⟨st, S, Q0, he, hr, hs, h, im⟩ := h
  refine ⟨st, S, _, he, hr, hs, h, fun xs S1 h1 H1 v e1 s1 r1 => ?_⟩
  exact ⟨xs, S1, Q0, r1, s1, h1, fun z S4 q => fin_ext e1 (im z S4 q)⟩
theorem j_callB {id : String} {r : RC3} {x : Str} {p : Pos} (hc : CallR X (.builtin id) (LC X.K r)) (hg : Gl X x) (hm : X.mg x = none) (hv : bootBuiltins x = some (.builtin id)) (ha : JA B X (a :: es) tr) (hn : x ≠ "__name__" := by decide) (hdb : (x == ("__debug__" : Str)) = false := by decide)
    (he : starEach (a :: es) X.env = (false, eval a X.env) :: starEach es X.env := by rfl) (hpl : (backTo pos (starEach es X.env)).any (·.1) = false := by rfl) : JE B X (.Call (.Name x p) (a :: es) [] pos) (wCB r tr) :=
  pe_imp (pe_callB hc hg hm hv ha hn hdb he hpl) fun _ _ _ h => le_cb h
theorem j_callTy {T : String} {r : RC3} {x : Str} {p : Pos} (hc : CallR X (.type T) (LC X.K r)) (hg : Gl X x) (hm : X.mg x = none) (hv : bootBuiltins x = some (.type T)) (ha : JA B X (a :: es) tr) (hn : x ≠ "__name__" := by decide) (hdb : (x == ("__debug__" : Str)) = false := by decide)
    (he : starEach (a :: es) X.env = (false, eval a X.env) :: starEach es X.env := by rfl) (hpl : (backTo pos (starEach es X.env)).any (·.1) = false := by rfl) : JE B X (.Call (.Name x p) (a :: es) [] pos) (wCB r tr) :=
  pe_imp (pe_callTy hc hg hm hv ha hn hdb he hpl) fun _ _ _ h => le_cb h
def rLen1 (x : T) (S : Sta) (Q : T → Sta → Prop) : Prop := match x with
  | .str z => z.length ≤ sizeLine ∧ Q (.int z.length) S
  | x => ∃ ts, itemsT S x = some ts ∧ Q (.int ts.length) S
def rLen (xs : List T) (S : Sta) (Q : T → Sta → Prop) : Prop := match xs with
  | [x] => rLen1 x S Q
  | _ => False
theorem Reps.one {K : PySem.W.Frag} {H : Hp} {t : T} {vs : List V} (r : Reps K H [t] vs) : ∃ v, vs = [v] ∧ Rep K H t v := by
  cases r with
  | cons h1 h2 => cases h2; exact ⟨_, rfl, h1⟩
theorem Reps.two {K : PySem.W.Frag} {H : Hp} {t u : T} {vs : List V} (r : Reps K H [t, u] vs) : ∃ v w, vs = [v, w] ∧ Rep K H t v ∧ Rep K H u w := by
  cases r with
  | cons h1 h2 =>
    obtain ⟨w, e, h3⟩ := h2.one
    subst e
    exact ⟨_, _, rfl, h1, h3⟩
theorem c_len : CallR X (.builtin "len") (LC X.K rLen) := by
  intro pins s σ H xs us Q I rx ⟨ts, S, Q0, r, hs, q, im⟩
  match ts, q with
  | [t], q =>
    obtain ⟨v, rfl, r1⟩ := r.one
    have go : ∀ us', itemsT S t = some us' → Q0 (.int us'.length) S → wpAny (model X.prog X.w) X.A (call (.builtin "len") us) (EP X pins σ Q) X.xe s := fun us' e q => by
      obtain ⟨p, ys, rfl, h, r2⟩ := items_sq hs r1 e
      refine call_len_seq pins s σ H _ us Q I rx ⟨p, ys, rfl, h, ?_⟩
      rw [← r2.length]
      exact im _ _ q H _ (Ext.refl H) hs (.int _)
    cases t with
    | str z =>
      cases r1
      exact call_len_str pins s σ H _ us Q I rx ⟨z, rfl, q.1, im _ _ q.2 H _ (Ext.refl H) hs (.int _)⟩
    | non => obtain ⟨ts, e, q⟩ := q; exact go ts e q
    | bl _ => obtain ⟨ts, e, q⟩ := q; exact go ts e q
    | int _ => obtain ⟨ts, e, q⟩ := q; exact go ts e q
    | tup _ => obtain ⟨ts, e, q⟩ := q; exact go ts e q
    | fl _ => obtain ⟨ts, e, q⟩ := q; exact go ts e q
    | ref _ => obtain ⟨ts, e, q⟩ := q; exact go ts e q
def rInt1 (xs : List T) (S : Sta) (Q : T → Sta → Prop) : Prop := match xs with
  | [.int i] => Q (.int i) S
  | [.bl b] => Q (.int (if b then 1 else 0)) S
  | _ => False
theorem c_int : CallR X (.type "int") (LC X.K rInt1) := by
  intro pins s σ H xs us Q I rx ⟨ts, S, Q0, r, hs, q, im⟩
  match ts, q with
  | [.int i], q =>
    obtain ⟨v, rfl, r1⟩ := r.one
    cases r1
    exact call_int1 pins s σ H _ us Q I rx (.inl ⟨i, rfl, im _ _ q H _ (Ext.refl H) hs (.int _)⟩)
  | [.bl i], q =>
    obtain ⟨v, rfl, r1⟩ := r.one
    cases r1
    exact call_int1 pins s σ H _ us Q I rx (.inr ⟨i, rfl, im _ _ q H _ (Ext.refl H) hs (.int _)⟩)
def rAbs (xs : List T) (S : Sta) (Q : T → Sta → Prop) : Prop := match xs with
  | [.int i] => Q (.int (if i < 0 then -i else i)) S
  | _ => False
theorem c_abs : CallR X (.builtin "abs") (LC X.K rAbs) := by
  intro pins s σ H xs us Q I rx ⟨ts, S, Q0, r, hs, q, im⟩
  match ts, q with
  | [.int i], q =>
    obtain ⟨v, rfl, r1⟩ := r.one
    cases r1
    exact call_abs pins s σ H _ us Q I rx ⟨i, rfl, im _ _ q H _ (Ext.refl H) hs (.int _)⟩
def rMax2 (xs : List T) (S : Sta) (Q : T → Sta → Prop) : Prop := match xs with
  | [.int i, .int j] => Q (.int (if j > i then j else i)) S
  | _ => False
def rMin2 (xs : List T) (S : Sta) (Q : T → Sta → Prop) : Prop := match xs with
  | [.int i, .int j] => Q (.int (if j < i then j else i)) S
  | _ => False
theorem c_max2 (hc : X.calm = true) : CallR X (.builtin "max") (LC X.K rMax2) := by
  intro pins s σ H xs us Q I rx ⟨ts, S, Q0, r, hs, q, im⟩
  match ts, q with
  | [.int i, .int j], q =>
    obtain ⟨v, w, rfl, r1, r2⟩ := r.two
    cases r1
    cases r2
    exact call_max2 hc pins s σ H _ us Q I rx ⟨i, j, rfl, im _ _ q H _ (Ext.refl H) hs (.int _)⟩
theorem c_min2 (hc : X.calm = true) : CallR X (.builtin "min") (LC X.K rMin2) := by
  intro pins s σ H xs us Q I rx ⟨ts, S, Q0, r, hs, q, im⟩
  match ts, q with
  | [.int i, .int j], q =>
    obtain ⟨v, w, rfl, r1, r2⟩ := r.two
    cases r1
    cases r2
    exact call_min2 hc pins s σ H _ us Q I rx ⟨i, j, rfl, im _ _ q H _ (Ext.refl H) hs (.int _)⟩
/-- list(xs), tuple(xs) -/
def rListOf (xs : List T) (S : Sta) (Q : T → Sta → Prop) : Prop := match xs with
  | [x] => ∃ ts, itemsT S x = some ts ∧ ∀ p, S p = none → Q (.ref p) (upS S p (.lst ts))
  | _ => False
theorem c_list : CallR X (.type "list") (LC X.K rListOf) := by
  intro pins s σ H xs us Q I rx ⟨ts, S, Q0, r, hs, q, im⟩
  match ts, q with
  | [t], ⟨us', e, q⟩ =>
    obtain ⟨v, rfl, r1⟩ := r.one
    obtain ⟨p, ys, rfl, h, r2⟩ := items_sq hs r1 e
    refine call_list_of pins s σ H _ us Q I rx ⟨p, ys, rfl, h, fun l hl => ?_⟩
    obtain ⟨e3, s3⟩ := hs.newL hl r2
    exact im _ _ (q l (hs.free hl)) _ _ e3 s3 (.ref l)
def rTupOf (xs : List T) (S : Sta) (Q : T → Sta → Prop) : Prop := match xs with
  | [x] => ∃ ts, itemsT S x = some ts ∧ Q (.tup ts) S
  | _ => False
theorem c_tup : CallR X (.type "tuple") (LC X.K rTupOf) := by
  intro pins s σ H xs us Q I rx ⟨ts, S, Q0, r, hs, q, im⟩
  match ts, q with
  | [t], ⟨us', e, q⟩ =>
    obtain ⟨v, rfl, r1⟩ := r.one
    obtain ⟨p, ys, rfl, h, r2⟩ := items_sq hs r1 e
    rcases h with h | h
    · exact call_tuple_of pins s σ H _ us Q I rx ⟨p, ys, rfl, .inl ⟨h, fun l hl => im _ _ q _ _ (Ext.new hl) (hs.new hl _) (.tup (.inl (.inl upd_same)) (Reps.mono (Ext.new hl) _ _ r2))⟩⟩
    · exact call_tuple_of pins s σ H _ us Q I rx ⟨p, ys, rfl, .inr ⟨h, im _ _ q H _ (Ext.refl H) hs (.tup h r2)⟩⟩
/-- sorted, ints -/
def rSortI (xs : List T) (S : Sta) (Q : T → Sta → Prop) : Prop := match xs with
  | [x] => ∃ ns : List Int, itemsT S x = some (ns.map T.int) ∧ ns.length < 64 ∧ (match x with | .tup _ => False | _ => True) ∧ ∀ (ms : List Int) (p : Addr), ms.Perm ns → ms.Pairwise (· ≤ ·) → S p = none → Q (.ref p) (upS S p (.lst (ms.map T.int)))
  | _ => False
theorem c_sortI : CallR X (.builtin "sorted") (LC X.K rSortI) := by
  intro pins s σ H xs us Q I rx ⟨ts, S, Q0, r, hs, q, im⟩
  match ts, q with
  | [t], ⟨ns, e, hl, hx, q⟩ =>
    obtain ⟨v, rfl, r1⟩ := r.one
    obtain ⟨p, ys, rfl, h, r2⟩ := items_sq hs r1 e
    have ey := r2.intsV
    subst ey
    have h' : SqL X.K H p (ns.map V.int) := by
      rcases h with h | h
      · exact h
      · cases t with
        | tup _ => exact hx.elim
        | fl us =>
          cases r1 with
          | @fl _ xs _ h1 h2 =>
            cases e
            rw [← h2.intsV]
            exact h1.sq
        | ref a =>
          cases r1
          simp only [itemsT] at e
          cases eS : S p with
          | none => rw [eS] at e; cases e
          | some o =>
            rw [eS] at e
            cases o with
            | ins C fs => cases e
            | lst ws =>
              cases e
              obtain ⟨zs, g1, g2⟩ := hs p _ eS
              rw [← g2.intsV]
              exact .inl (.inl g1)
        | non => cases e
        | bl _ => cases e
        | int _ => cases e
        | str _ => cases e
    refine cr_sorted pins s σ H _ us Q I rx ⟨p, ns, rfl, h', hl, fun ms l g1 g2 g3 => ?_⟩
    obtain ⟨e3, s3⟩ := hs.newL g3 (Reps.ints (K := X.K) ms)
    exact im _ _ (q ms l g1 g2 (hs.free g3)) _ _ e3 s3 (.ref l)
/-! ### isinstance of a built-in class -/
def tyT (S : Sta) : T → Option String
  | .non => some "NoneType"
  | .bl _ => some "bool"
  | .int _ => some "int"
  | .str _ => some "str"
  | .tup _ => some "tuple"
  | .fl _ => some "list"
  | .ref p => match S p with
    | some (.lst _) => some "list"
    | _ => none
theorem ty_rep {K : PySem.W.Frag} {H : Hp} {S : Sta} {t : T} {v : V} {n : String} (hs : St K S H) (r : Rep K H t v) (e : tyT S t = some n) : TyX K H v (.type n) := by
  cases r with
  | non => cases e; exact .base .non
  | bl b => cases e; exact .base (.bl b)
  | int i => cases e; exact .base (.int i)
  | str x => cases e; exact .base (.str x)
  | tup h1 h2 =>
    cases e
    rcases h1 with (h | ⟨o, h⟩) | ⟨o, its, n, h, hc, _⟩
    · exact .base (.tup h)
    · exact .fTuple h
    · exact .kTuple h hc
  | fl h1 h2 =>
    cases e
    rcases h1 with ⟨o, h⟩ | ⟨o, its, n, h, hc, _⟩
    · exact .base (.frz h)
    · exact .kList h hc
  | ref a =>
    simp only [tyT] at e
    cases eS : S a with
    | none => rw [eS] at e; cases e
    | some o =>
      rw [eS] at e
      cases o with
      | ins C fs => cases e
      | lst ws =>
        cases e
        obtain ⟨xs, h1, _⟩ := hs a _ eS
        exact .base (.lst h1)
/-- the answer for a class of the five -/
def isB (n c : String) : Bool := n == c || (n == "bool" && c == "int")
def kinds : List String := ["NoneType", "bool", "int", "str", "tuple", "list"]
theorem kit_all : (kinds.all fun n => ["bool", "int", "str", "tuple", "list", "dict"].all fun c => decide (kitB n c = some (isB n c))) = true := by decide +kernel
theorem kit_one {K : PySem.W.Frag} {n c : String} (hn : n ∈ kinds) (hc : c ∈ ["bool", "int", "str", "tuple", "list", "dict"]) : PySem.W.kitOne K (.type n) (.type c) = some (isB n c) := by
  have h := List.all_eq_true.mp kit_all n hn
  have h2 := List.all_eq_true.mp h c hc
  exact kit_ty (of_decide_eq_true h2)
theorem ty_kinds {S : Sta} {t : T} {n : String} (e : tyT S t = some n) : n ∈ kinds := by
  cases t with
  | ref p =>
    simp only [tyT] at e
    split at e
    · cases e; decide
    · cases e
  | _ => cases e; decide
def rIsi (c : String) (xs : List T) (S : Sta) (Q : T → Sta → Prop) : Prop := match xs with
  | [x, _] => ∃ n, tyT S x = some n ∧ Q (.bl (isB n c)) S
  | _ => False
def wIsi (c : String) (t : WE) (σ : Sl) (S : Sta) (Q : T → Sta → Prop) : Prop := t σ S fun x S1 => ∃ n, tyT S1 x = some n ∧ Q (.bl (isB n c)) S1
theorem j_isi {c : Str} {cs : String} {p p2 pos : Pos} (hg : Gl X "isinstance") (hm : X.mg "isinstance" = none) (hv : bootBuiltins "isinstance" = some (.builtin "isinstance")) (ha : JE B X a ta)
    (hgc : Gl X c) (hmc : X.mg c = none) (hvc : bootBuiltins c = some (.type cs)) (hc : cs ∈ ["bool", "int", "str", "tuple", "list", "dict"]) (hnc : c ≠ "__name__" := by decide) (hdc : (c == ("__debug__" : Str)) = false := by decide)
    (hs2 : starEach [.Name c p2] X.env = (false, eval (.Name c p2) X.env) :: starEach [] X.env := by rfl)
    (he : starEach [a, .Name c p2] X.env = (false, eval a X.env) :: starEach [.Name c p2] X.env := by rfl) (hpl : (backTo pos (starEach [.Name c p2] X.env)).any (·.1) = false := by rfl) :
    JE B X (.Call (.Name "isinstance" p) [a, .Name c p2] [] pos) (wIsi cs ta) := by
  have hb : PE X (.Name c p2) (tC (.ty cs)) := pe_bltn hgc hmc hvc (show Value.type cs = Value.type cs from rfl) hnc hdc
  refine pe_imp (pe_callB call_isi hg hm hv (pa_cons ha (pa_cons hb pa_nil hs2) he) (by decide) (by decide) he hpl) fun σ H Q ⟨st, S, Q0, he, hr, hs, h, im⟩ => ?_
  refine ⟨st, S, _, he, hr, hs, h, fun x S1 h1 H1 v e1 s1 r1 => ?_⟩
  obtain ⟨n, e, q⟩ := h1
  exact ⟨v, .ty cs, .type n, .type cs, isB n cs, rfl, .ty cs, ty_rep s1 r1 e, kit_one (ty_kinds e) hc, im _ _ q H1 _ e1 s1 (.bl _)⟩
end
end Wp

set_option Elab.async false
set_option linter.all false
set_option maxRecDepth 100000
/-! statements, loops, defs -/
namespace Wp
open PySem PySem.Spec PyProof.Rows L2
theorem finS_ext {K : PySem.W.Frag} {H H1 : Hp} {Q : L2.St → Hp → Prop} {t : Sl} {S : Sta} (e : Ext H H1) (h : finS K H Q t S) : finS K H1 Q t S := fun H' v e' s r => h H' v (e.trans e') s r
theorem ImD.ext {K : PySem.W.Frag} {H H1 : Hp} {D0 : WEnds} {D : Ends} (e : Ext H H1) (h : ImD D0 (finD K H D)) : ImD D0 (finD K H1 D) :=
  ⟨fun v S q => finS_ext e (h.nx v S q), fun v S q => fin_ext e (h.rt v S q), fun v S q => finS_ext e (h.bk v S q), fun v S q => finS_ext e (h.ct v S q)⟩
section
variable {B : Hp} {X : Cx} {st : Stmt} {rest : List Stmt} {t u : WS} {e : Expr} {te : WE} {pos : Pos}
/-! ### blocks and small statements -/
def wNext (D : WEnds) (σ : Sl) (S : Sta) : Prop := goS D.nx σ S
def wSeq (t u : WS) (D : WEnds) (σ : Sl) (S : Sta) : Prop := t { D with nx := u D } σ S
theorem jss_nil : JSs B X [] wNext := pss_imp pss_nil fun D σ H ⟨st, S, D0, he, hr, hs, h, im⟩ => im.nx _ _ h H σ (Ext.refl H) hs hr
theorem jss_cons (h1 : JS B X st t) (h2 : JSs B X rest u) : JSs B X (st :: rest) (wSeq t u) := pss_imp (pss_cons h1 h2) fun D σ H ⟨st, S, D0, he, hr, hs, h, im⟩ => by
  refine ⟨st, S, _, he, hr, hs, h, fun st1 S1 h1 H1 σ1 e1 s1 r1 => ?_, im.rt, im.bk, im.ct⟩
  exact ⟨st1, S1, D0, he.trans e1, r1, s1, h1, im.ext e1⟩
theorem jss_one (h1 : JS B X st t) : JSs B X [st] t := pss_one h1
def wBreak (D : WEnds) (σ : Sl) (S : Sta) : Prop := goS D.bk σ S
def wCont (D : WEnds) (σ : Sl) (S : Sta) : Prop := goS D.ct σ S
theorem js_pass : JS B X (.Pass pos) wNext := ps_imp ps_pass fun D σ H ⟨st, S, D0, he, hr, hs, h, im⟩ => im.nx _ _ h H σ (Ext.refl H) hs hr
theorem js_break : JS B X (.Break pos) wBreak := ps_imp ps_break fun D σ H ⟨st, S, D0, he, hr, hs, h, im⟩ => im.bk _ _ h H σ (Ext.refl H) hs hr
theorem js_continue : JS B X (.Continue pos) wCont := ps_imp ps_continue fun D σ H ⟨st, S, D0, he, hr, hs, h, im⟩ => im.ct _ _ h H σ (Ext.refl H) hs hr
theorem js_doc {x j pos'} : JS B X (.Expr (.Constant (.str x) j pos) pos') wNext := ps_imp ps_doc fun D σ H ⟨st, S, D0, he, hr, hs, h, im⟩ => im.nx _ _ h H σ (Ext.refl H) hs hr
def wDrop (te : WE) (D : WEnds) (σ : Sl) (S : Sta) : Prop := te σ S fun _ S1 => goS D.nx σ S1
theorem js_expr (he : JE B X e te) (hs : swapsWith e none pos.line X.env = pure false := by rfl) : JS B X (.Expr e pos) (wDrop te) := ps_imp (ps_expr he hs) fun D σ H ⟨st, S, D0, he, hr, hs, h, im⟩ =>
  ⟨st, S, _, he, hr, hs, h, fun x S1 h1 H1 v e1 s1 r1 => im.nx _ _ h1 H1 σ e1 s1 (hr.mono e1)⟩
def wRet (te : WE) (D : WEnds) (σ : Sl) (S : Sta) : Prop := te σ S D.rt
theorem js_ret (he : JE B X e te) : JS B X (.Return (some e) pos) (wRet te) := ps_imp (ps_ret he) fun D σ H ⟨st, S, D0, he, hr, hs, h, im⟩ => ⟨st, S, _, he, hr, hs, h, im.rt⟩
def wRetN (D : WEnds) (u1 : Sl) (S : Sta) : Prop := D.rt .non S
theorem js_retN : JS B X (.Return none pos) wRetN := ps_imp ps_retN fun D σ H ⟨st, S, D0, he, hr, hs, h, im⟩ => im.rt _ _ h H _ (Ext.refl H) hs .non
def wIfS (c : WT) (t u : WS) (D : WEnds) (σ : Sl) (S : Sta) : Prop := c σ S fun b S1 => wif b (t D σ S1) (u D σ S1)
theorem js_if {c : Expr} {a b : List Stmt} {tc : WT} (hc : JT B X c tc) (ha : JSs B X a t) (hb : JSs B X b u) : JS B X (.If c a b pos) (wIfS tc t u) := ps_imp (ps_if hc ha hb) fun D σ H ⟨st, S, D0, he, hr, hs, h, im⟩ => by
  refine ⟨st, S, _, he, hr, hs, h, fun k S1 h1 H1 e1 s1 => ?_⟩
  cases k with
  | true =>
    rw [if_pos rfl]
    exact ⟨st, S1, D0, he.trans e1, hr.mono e1, s1, h1, im.ext e1⟩
  | false =>
    rw [if_neg Bool.false_ne_true]
    exact ⟨st, S1, D0, he.trans e1, hr.mono e1, s1, h1, im.ext e1⟩
def wNever (u0 : WEnds) (u1 : Sl) (u2 : Sta) : Prop := False
theorem js_never : JS B X st wNever := ps_imp ps_never fun D σ H ⟨st, S, D0, he, hr, hs, h, im⟩ => h
theorem jss_never {sts : List Stmt} : JSs B X sts wNever := pss_imp pss_never fun D σ H ⟨st, S, D0, he, hr, hs, h, im⟩ => h

/-! ### targets; vs: the slots that a target writes -/
abbrev WG := T → Sl → Sta → (Sl → Sta → Prop) → Prop
abbrev WGs := List T → Sl → Sta → (Sl → Sta → Prop) → Prop
def finG (K : PySem.W.Frag) (vs : List Nat) (H : Hp) (σ : L2.St) (Q : L2.St → Hp → Prop) : Sl → Sta → Prop := fun st S => ∀ H' σ', Ext H H' → St K S H' → SlR K H' st σ' → wipe σ' vs = wipe σ vs → Q σ' H'
def LG (X : Cx) (vs : List Nat) (g : WG) : TG := fun v σ H Q => ∃ t st S Q0, Rep X.K H t v ∧ SlR X.K H st σ ∧ St X.K S H ∧ g t st S Q0 ∧ Im2 Q0 (finG X.K vs H σ Q)
def LGs (X : Cx) (vs : List Nat) (g : WGs) : TGs := fun v σ H Q => ∃ t st S Q0, Reps X.K H t v ∧ SlR X.K H st σ ∧ St X.K S H ∧ g t st S Q0 ∧ Im2 Q0 (finG X.K vs H σ Q)
def JG (X : Cx) (tg : Expr) (vs : List Nat) (g : WG) : Prop := PG X tg (LG X vs g)
def JGs (X : Cx) (tg : List Expr) (vs : List Nat) (g : WGs) : Prop := PGs X tg (LGs X vs g)
theorem pg_imp {e : Expr} {t t' : TG} (h : PG X e t) (k : ∀ v σ H Q, t' v σ H Q → t v σ H Q) : PG X e t' := ⟨fun pins s σ H v u Q I r q => h.run pins s σ H v u Q I r (k v σ H Q q)⟩
theorem pgs_imp {e : List Expr} {t t' : TGs} (h : PGs X e t) (k : ∀ v σ H Q, t' v σ H Q → t v σ H Q) : PGs X e t' := ⟨fun pins s σ H v u Q I r q => h.run pins s σ H v u Q I r (k v σ H Q q)⟩
theorem wipe_set_mem {v : Option V} {i : Nat} : ∀ {vs : List Nat} {σ : L2.St}, i ∈ vs → wipe (σ.set i v) vs = wipe σ vs
  | [], _, h => by cases h
  | w :: vs, σ, h => by
    unfold wipe
    by_cases hw : i = w
    · subst hw
      by_cases hm : i ∈ vs
      · rw [wipe_set_mem hm]
      · have z : ∀ {us : List Nat} {τ : L2.St}, i ∉ us → wipe (τ.set i v) us = (wipe τ us).set i v := fun {us τ} hu => by
          induction us generalizing τ with
          | nil => rfl
          | cons u us ih =>
            unfold wipe
            rw [ih (fun q => hu (List.mem_cons_of_mem _ q)), List.set_comm _ _ (fun q => hu (by rw [q]; exact List.mem_cons_self))]
        rw [z hm, List.set_set]
    · rw [wipe_set_mem ((List.mem_cons.mp h).resolve_left hw)]
def gNm (i : Nat) (v : T) (σ : Sl) (S : Sta) (Q : Sl → Sta → Prop) : Prop := Q (σ.set i (some v)) S
theorem jg_name {x : Str} {i : Nat} {vs : List Nat} (hN : X.N.Nodup) (hi : X.N[i]? = some x) (hx : Loc X.env.scope x) (hv : i ∈ vs) (hf : X.fn x = true ∨ X.env.scope.names.lookup x = some .local := by first | exact .inl rfl | exact .inr rfl | assumption) : JG X (.Name x pos) vs (gNm i) :=
  pg_imp (pg_name hN hi hx hf) fun v σ H Q ⟨t, st, S, Q0, rv, hr, hs, h, im⟩ => im _ _ h H _ (Ext.refl H) hs (hr.set rv i) (wipe_set_mem hv)
def gN0 (vs : List T) (σ : Sl) (S : Sta) (Q : Sl → Sta → Prop) : Prop := vs = [] ∧ Q σ S
def gC (t : WG) (u : WGs) (vs : List T) (σ : Sl) (S : Sta) (Q : Sl → Sta → Prop) : Prop := match vs with
  | v :: r => t v σ S fun σ' S' => u r σ' S' Q
  | [] => False
theorem jgs_nil {vs : List Nat} : JGs X [] vs gN0 := pgs_imp pgs_nil fun v σ H Q ⟨t, st, S, Q0, rv, hr, hs, h, im⟩ => by
  obtain ⟨e, h⟩ := h
  subst e
  cases rv
  exact ⟨rfl, im _ _ h H _ (Ext.refl H) hs hr rfl⟩
theorem jgs_cons {es : List Expr} {vs : List Nat} {t : WG} {u : WGs} (h1 : JG X e vs t) (h2 : JGs X es vs u)
    (hs : (assignEach (e :: es) X.env).map (·.2) = assign e X.env :: (assignEach es X.env).map (·.2) := by rfl) : JGs X (e :: es) vs (gC t u) := pgs_imp (pgs_cons h1 h2 hs) fun v σ H Q ⟨ts, st, S, Q0, rv, hr, hs, h, im⟩ => by
  cases ts with
  | nil => exact h.elim
  | cons x ts =>
    cases rv with
    | cons r1 r2 =>
      refine ⟨_, _, rfl, x, st, S, _, r1, hr, hs, h, fun st1 S1 h1 H1 σ1 e1 s1 q1 w1 => ?_⟩
      refine ⟨ts, st1, S1, Q0, Reps.mono e1 _ _ r2, q1, s1, h1, fun st2 S2 h2 H2 σ2 e2 s2 q2 w2 => ?_⟩
      exact im _ _ h2 H2 σ2 (e1.trans e2) s2 q2 (w2.trans w1)
def gTp (n : Nat) (u : WGs) (v : T) (σ : Sl) (S : Sta) (Q : Sl → Sta → Prop) : Prop := match v with
  | .tup ts => ts.length = n ∧ u ts σ S Q
  | _ => False
theorem jg_tup {es : List Expr} {k : Nat} {n : Nat} {vs : List Nat} {u : WGs} (hc : X.calm = true) (h : JGs X es vs u)
    (hn : (assignEach es X.env).length = n := by rfl) (hst : (assignEach es X.env).findIdx? (·.1) = none := by rfl) : JG X (.Tuple es k pos) vs (gTp n u) := pg_imp (pg_tup hc h hn hst) fun v σ H Q ⟨t, st, S, Q0, rv, hr, hs, h, im⟩ => by
  cases t with
  | tup ts =>
    cases rv with
    | @tup a xs _ g1 g2 => exact ⟨a, xs, rfl, g1, by rw [← g2.length]; exact h.1, ts, st, S, Q0, g2, hr, hs, h.2, im⟩
  | _ => exact h.elim
/-- o[i] = v -/
def rSet : T → T → T → Sta → (Sta → Prop) → Prop := fun o i v S Q => match o, i with
  | .ref p, .int k => ∃ xs, S p = some (.lst xs) ∧ ∃ j, ixN xs.length k = some j ∧ Q (upS S p (.lst (xs.set j v)))
  | _, _ => False
def L3t (K : PySem.W.Frag) (r : T → T → T → Sta → (Sta → Prop) → Prop) : TSet := fun o i v H Q => ∃ a b c S Q0, Rep K H a o ∧ Rep K H b i ∧ Rep K H c v ∧ St K S H ∧ r a b c S Q0 ∧ ∀ S', Q0 S' → ∀ H', Ext H H' → St K S' H' → Q H'
theorem set_T : PSet X (L3t X.K rSet) := by
  intro pins s σ H o i v ov iv u Q I ro ri rv ⟨a, b, c, S, Q0, ra, rb, rc, hs, q, im⟩
  cases a with
  | ref p =>
    cases b with
    | int k =>
      obtain ⟨xs, e1, j, e2, q⟩ := q
      cases ra
      cases rb
      obtain ⟨ys, h1, h2⟩ := hs p _ e1
      obtain ⟨e3, s3⟩ := hs.setL h1 (h2.set rc j)
      exact set_list pins s σ H _ _ v ov iv u Q I ro ri rv ⟨p, ys, k, j, rfl, rfl, h1, by rw [← h2.length]; exact e2, im _ q _ e3 s3⟩
    | _ => exact q.elim
  | _ => exact q.elim
def gIx (to ti : WE) (v : T) (σ : Sl) (S : Sta) (Q : Sl → Sta → Prop) : Prop := to σ S fun o S1 => ti σ S1 fun i S2 => rSet o i v S2 fun S3 => Q σ S3
/-- only where the entry's Ext is at hand: a statement's target -/
def LG2 (B : Hp) (X : Cx) (g : WG) : TG := fun v σ H Q => ∃ t st S Q0, Ext B H ∧ Rep X.K H t v ∧ SlR X.K H st σ ∧ St X.K S H ∧ g t st S Q0 ∧ Im2 Q0 (finS X.K H Q)
def JG2 (B : Hp) (X : Cx) (tg : Expr) (g : WG) : Prop := PG X tg (LG2 B X g)
theorem JG.two {tg : Expr} {vs : List Nat} {g : WG} (h : JG X tg vs g) : JG2 B X tg g := pg_imp h fun v σ H Q ⟨t, st, S, Q0, he, rv, hr, hs, h, im⟩ => ⟨t, st, S, Q0, rv, hr, hs, h, fun st1 S1 h1 H1 σ1 e1 s1 r1 _ => im _ _ h1 H1 σ1 e1 s1 r1⟩
theorem jg_ix {o i : Expr} {to ti : WE} (ho : JE B X o to) (hi : JE B X i ti)
    (ha : ∀ v, assign (.Subscript o i pos) X.env v = (do
      let ov ← holding [v] (eval o X.env)
      let iv ← holding [v, ov] (eval i X.env)
      standAt pos
      holding [v, ov, iv] (setItem ov iv v)
      release [v, ov, iv] []) := by intro _; rfl) : JG2 B X (.Subscript o i pos) (gIx to ti) := pg_imp (pg_sub ho hi set_T ha) fun v σ H Q ⟨t, st, S, Q0, he, rv, hr, hs, h, im⟩ => by
  refine ⟨st, S, _, he, hr, hs, h, fun x S1 h1 H1 v1 e1 s1 r1 => ?_⟩
  refine ⟨st, S1, _, he.trans e1, hr.mono e1, s1, h1, fun y S2 h2 H2 v2 e2 s2 r2 => ?_⟩
  exact ⟨x, y, t, S2, _, Rep.mono e2 _ _ r1, r2, Rep.mono (e1.trans e2) _ _ rv, s2, h2, fun S3 q H3 e3 s3 => im _ _ q H3 σ (e1.trans (e2.trans e3)) s3 (hr.mono (e1.trans (e2.trans e3)))⟩
def wAsg (te : WE) (g : WG) (D : WEnds) (σ : Sl) (S : Sta) : Prop := te σ S fun x S1 => g x σ S1 (goS D.nx)
theorem js_asg {tg : Expr} {g : WG} (he : JE B X e te) (hg : JG2 B X tg g) (hs : swapsWithSole [tg] e pos.line X.env = pure false := by rfl) (hw : swappedStores [tg] e X.env = pure none := by rfl)
    (h1 : (assignEach [tg] X.env).map (·.2) = [assign tg X.env] := by rfl) : JS B X (.Assign [tg] e pos) (wAsg te g) := ps_imp (ps_asg he hg hs hw h1) fun D σ H ⟨st, S, D0, he, hr, hs, h, im⟩ => by
  refine ⟨st, S, _, he, hr, hs, h, fun x S1 h1 H1 v1 e1 s1 r1 => ?_⟩
  exact ⟨x, st, S1, D0.nx, he.trans e1, r1, hr.mono e1, s1, h1, fun a S2 q => finS_ext e1 (im.nx a S2 q)⟩
def wSet (i : Nat) (te : WE) (D : WEnds) (σ : Sl) (S : Sta) : Prop := te σ S fun x S1 => goS D.nx (σ.set i (some x)) S1
theorem js_set {i : Nat} {x : Str} {pos' : Pos} (hN : X.N.Nodup) (hi : X.N[i]? = some x) (hx : Loc X.env.scope x) (he : JE B X e te) (hs : swapsWith e (some (.Name x pos')) pos.line X.env = pure false := by rfl) (hf : X.fn x = true ∨ X.env.scope.names.lookup x = some .local := by first | exact .inl rfl | exact .inr rfl | assumption) :
    JS B X (.Assign [.Name x pos'] e pos) (wSet i te) := ps_imp (ps_set hN hi hx he hs hf) fun D σ H ⟨st, S, D0, he, hr, hs, h, im⟩ => by
  refine ⟨st, S, _, he, hr, hs, h, fun x S1 h1 H1 v1 e1 s1 r1 => ?_⟩
  exact im.nx _ _ h1 H1 _ e1 s1 ((hr.mono e1).set r1 i)
/-- x op= e, a name -/
def wAug (i : Nat) (r : R3) (te : WE) (D : WEnds) (σ : Sl) (S : Sta) : Prop := ∃ x, σ[i]? = some (some x) ∧ te σ S fun y S1 => r x y S1 fun z S2 => goS D.nx (σ.set i (some z)) S2
theorem js_aug {i : Nat} {x : Str} {op : Operator} {r : R3} {pos' : Pos} (hN : X.N.Nodup) (hi : X.N[i]? = some x) (hx : Loc X.env.scope x) (he : JE B X e te) (ho : OpT X (inplaceOp op) r) (hf : X.fn x = true ∨ X.env.scope.names.lookup x = some .local := by first | exact .inl rfl | exact .inr rfl | assumption) :
    JS B X (.AugAssign (.Name x pos') op e pos) (wAug i r te) := ps_imp (ps_aug (ti := L3 X.K r) hN hi hx he (fun pins s σ H x y v u Q I rx ry q => ho pins s σ H x y v u Q I rx ry q) hf) fun D σ H ⟨st, S, D0, he, hr, hs, h, im⟩ => by
  obtain ⟨y, e1, h⟩ := h
  obtain ⟨v, g1, g2⟩ := hr.2 i y e1
  refine ⟨v, g1, st, S, _, he, hr, hs, h, fun x S1 h1 H1 v1 e1 s1 r1 => ?_⟩
  exact ⟨y, x, S1, _, Rep.mono e1 _ _ g2, r1, s1, h1, fun z S2 q H2 w e2 s2 r2 => im.nx _ _ q H2 _ (e1.trans e2) s2 ((hr.mono (e1.trans e2)).set r2 i)⟩

/-! ### while -/
def wWhile (c : WT) (tb : WS) (D : WEnds) (σ : Sl) (S : Sta) : Prop := ∃ W : Nat → Sl → Sta → Prop, (∃ m, W m σ S) ∧ ∀ m σ S, W m σ S →
  c σ S fun b S1 => wif b (tb { D with nx := fun σ' S' => ∃ m', m' < m ∧ W m' σ' S', ct := fun σ' S' => ∃ m', m' < m ∧ W m' σ' S', bk := D.nx } σ S1) (D.nx σ S1)
theorem js_while {c : Expr} {body : List Stmt} {tc : WT} {tb : WS} (hp : PassesOwn (model X.prog X.w) X.A X.env X.xe) (hc : JT B X c tc) (hb : JSs B X body tb) : JS B X (.While c body [] pos) (wWhile tc tb) :=
  ps_imp (ps_while hp hc hb) fun D σ H ⟨st, S, D0, he, hr, hs, h, im⟩ => by
    obtain ⟨W, ⟨m, w0⟩, turn⟩ := h
    refine ⟨fun m σ' H' => ∃ st' S', Ext H H' ∧ SlR X.K H' st' σ' ∧ St X.K S' H' ∧ W m st' S', ⟨m, st, S, Ext.refl H, hr, hs, w0⟩, fun m σ1 H1 ⟨st1, S1, e1, r1, s1, w1⟩ => ?_⟩
    refine ⟨st1, S1, _, he.trans e1, r1, s1, turn m st1 S1 w1, fun k S2 h2 H2 e2 s2 => ?_⟩
    cases k with
    | true =>
      rw [if_pos rfl]
      have nx : ∀ st3 S3, (∃ m', m' < m ∧ W m' st3 S3) → finS X.K H2 (fun σ' H' => ∃ m', m' < m ∧ ∃ st' S', Ext H H' ∧ SlR X.K H' st' σ' ∧ St X.K S' H' ∧ W m' st' S') st3 S3 := fun st3 S3 ⟨m', hm, w3⟩ H3 σ3 e3 s3 r3 =>
        ⟨m', hm, st3, S3, e1.trans (e2.trans e3), r3, s3, w3⟩
      refine ⟨_, fun σ' H' q => q, st1, S2, _, he.trans (e1.trans e2), r1.mono e2, s2, h2, ⟨nx, fun v S3 q => fin_ext (e1.trans e2) (im.rt v S3 q), fun a S3 q => finS_ext (e1.trans e2) (im.nx a S3 q), nx⟩⟩
    | false =>
      rw [if_neg Bool.false_ne_true]
      exact im.nx _ _ h2 H2 _ (e1.trans e2) s2 (r1.mono e2)

/-! ### what a loop walks: its items, and what must stay true of the state -/
abbrev WI := Sl → Sta → (List T → (Sta → Prop) → Sta → Prop) → Prop
/-- the iterator yields just these -/
def Yields (K : PySem.W.Frag) (xs : List T) (stb : Sta → Prop) (H1 : Hp) (J : It) : Prop :=
  ∀ i S H, Ext H1 H → St K S H → stb S → (i < xs.length → J.go i H) ∧ (xs.length ≤ i → J.stop i H) ∧ ∀ x H', J.yld i H x H' → i < xs.length → Ext H H' ∧ St K S H' ∧ (∀ st σ, SlR K H st σ → SlR K H' st σ) ∧ ∃ t, xs[i]? = some t ∧ Rep K H' t x
def LI (B : Hp) (X : Cx) (w : WI) : TI := fun σ H R => ∃ st S Q0, Ext B H ∧ SlR X.K H st σ ∧ St X.K S H ∧ w st S Q0 ∧ ∀ xs stb S1, Q0 xs stb S1 → ∀ H1, Ext H H1 → St X.K S1 H1 → ∀ J, Yields X.K xs stb H1 J → R J H1
def JI (B : Hp) (X : Cx) (tg iter : Expr) (w : WI) : Prop := PI X tg iter (LI B X w)
theorem pi_imp {tg e : Expr} {t t' : TI} (h : PI X tg e t) (k : ∀ σ H Q, t' σ H Q → t σ H Q) : PI X tg e t' := ⟨fun pins s σ H R I q => h.run pins s σ H R I (k σ H R q)⟩
def iTupW (te : WE) (σ : Sl) (S : Sta) (R : List T → (Sta → Prop) → Sta → Prop) : Prop := te σ S fun x S1 => match x with
  | .tup ts => R ts (fun _ => True) S1
  | _ => False
theorem ji_tup {tg : Expr} (he : JE B X e te) : JI B X tg e (iTupW te) := pi_imp (pi_tup he) fun σ H R ⟨st, S, Q0, he, hr, hs, h, im⟩ => by
  refine ⟨st, S, _, he, hr, hs, h, fun x S1 h1 H1 v1 e1 s1 r1 => ?_⟩
  cases x with
  | tup ts =>
    cases r1 with
    | @tup a xs _ g1 g2 =>
      refine ⟨a, rfl, ⟨xs, g1⟩, im _ _ _ h1 H1 e1 s1 _ fun i S2 H2 e2 s2 _ => ⟨fun hi => ?_, fun hi => ⟨xs, e2.sqT g1, by rw [← g2.length]; exact hi⟩, fun x H' y hi => ?_⟩⟩
      · obtain ⟨v, g3, _⟩ := g2.get (List.getElem?_eq_getElem hi)
        exact ⟨xs, v, e2.sqT g1, g3⟩
      · obtain ⟨eH, y⟩ := y
        subst eH
        obtain ⟨v, g3, g4⟩ := g2.get (List.getElem?_eq_getElem hi)
        have ev : x = v := Option.some.inj ((y xs (e2.sqT g1)).symm.trans g3)
        subst ev
        exact ⟨Ext.refl _, s2, fun _ _ q => q, _, List.getElem?_eq_getElem hi, Rep.mono e2 _ _ g4⟩
  | _ => exact h1.elim
/-- a list: it must stand as it is through the loop -/
def iLstW (te : WE) (σ : Sl) (S : Sta) (R : List T → (Sta → Prop) → Sta → Prop) : Prop := te σ S fun x S1 => match x with
  | .fl ts => R ts (fun _ => True) S1
  | .ref p => ∃ ts, S1 p = some (.lst ts) ∧ R ts (fun S' => S' p = some (.lst ts)) S1
  | _ => False
theorem ji_lst {tg : Expr} (he : JE B X e te) : JI B X tg e (iLstW te) := pi_imp (pi_list he) fun σ H R ⟨st, S, Q0, he, hr, hs, h, im⟩ => by
  refine ⟨st, S, _, he, hr, hs, h, fun x S1 h1 H1 v1 e1 s1 r1 => ?_⟩
  cases x with
  | fl ts =>
    cases r1 with
    | @fl a xs _ g1 g2 =>
      refine ⟨a, rfl, ⟨xs, g1.sq⟩, im _ _ _ h1 H1 e1 s1 _ fun i S2 H2 e2 s2 _ => ⟨fun hi => ?_, fun hi => ⟨xs, (e2.fzL g1).sq, by rw [← g2.length]; exact hi⟩, fun x H' y hi => ?_⟩⟩
      · obtain ⟨v, g3, _⟩ := g2.get (List.getElem?_eq_getElem hi)
        exact ⟨xs, v, (e2.fzL g1).sq, g3⟩
      · obtain ⟨eH, y⟩ := y
        subst eH
        obtain ⟨v, g3, g4⟩ := g2.get (List.getElem?_eq_getElem hi)
        have ev : x = v := Option.some.inj ((y xs ((e2.fzL g1).sq)).symm.trans g3)
        subst ev
        exact ⟨Ext.refl _, s2, fun _ _ q => q, _, List.getElem?_eq_getElem hi, Rep.mono e2 _ _ g4⟩
  | ref p =>
    obtain ⟨ts, eS, h1⟩ := h1
    cases r1
    obtain ⟨xs0, g10, g20⟩ := s1 p _ eS
    refine ⟨p, rfl, ⟨xs0, .inl (.inl g10)⟩, im _ _ _ h1 H1 e1 s1 _ fun i S2 H2 e2 s2 stb => ?_⟩
    obtain ⟨xs, g1, g2⟩ := s2 p _ stb
    refine ⟨fun hi => ?_, fun hi => ⟨xs, .inl (.inl g1), by rw [← g2.length]; exact hi⟩, fun x H' y hi => ?_⟩
    · obtain ⟨v, g3, _⟩ := g2.get (List.getElem?_eq_getElem hi)
      exact ⟨xs, v, .inl (.inl g1), g3⟩
    · obtain ⟨eH, y⟩ := y
      subst eH
      obtain ⟨v, g3, g4⟩ := g2.get (List.getElem?_eq_getElem hi)
      have ev : x = v := Option.some.inj ((y xs (.inl (.inl g1))).symm.trans g3)
      subst ev
      exact ⟨Ext.refl _, s2, fun _ _ q => q, _, List.getElem?_eq_getElem hi, g4⟩
  | _ => exact h1.elim
/-- range -/
def rangeT (lo : Int) (n : Nat) : List T := (List.range n).map fun (i : Nat) => T.int (lo + (i : Int))
theorem range_yields {K : PySem.W.Frag} {H : Hp} (lo : Int) (n : Nat) : Yields K (rangeT lo n) (fun _ => True) H (Itr lo n) := fun i S H1 e1 s1 _ => by
  have hl : (rangeT lo n).length = n := by unfold rangeT; rw [List.length_map, List.length_range]
  refine ⟨fun hi => by rw [hl] at hi; exact hi, fun hi => by rw [hl] at hi; exact hi, fun x H' y hi => ?_⟩
  obtain ⟨eH, ex⟩ := y
  subst eH ex
  rw [hl] at hi
  refine ⟨Ext.refl _, s1, fun _ _ q => q, .int (lo + (i : Int)), ?_, .int _⟩
  unfold rangeT
  rw [List.getElem?_map, List.getElem?_range hi]
  rfl
def iRg1 (ta : WA) (σ : Sl) (S : Sta) (R : List T → (Sta → Prop) → Sta → Prop) : Prop := ta σ S fun xs S1 => match xs with
  | [.int j] => -(2 ^ 62) ≤ j ∧ j < 2 ^ 62 ∧ R (rangeT 0 j.toNat) (fun _ => True) S1
  | _ => False
def iRg2 (ta : WA) (σ : Sl) (S : Sta) (R : List T → (Sta → Prop) → Sta → Prop) : Prop := ta σ S fun xs S1 => match xs with
  | [.int i, .int j] => (-(2 ^ 62) ≤ i ∧ i < 2 ^ 62 ∧ -(2 ^ 62) ≤ j ∧ j < 2 ^ 62) ∧ R (rangeT i (j - i).toNat) (fun _ => True) S1
  | _ => False
theorem ji_rg1 {tg a : Expr} {ta : WA} {p : Pos} (hg : Gl X "range") (hm : X.mg "range" = none) (ha : JA B X [a] ta) (hs : starEach [a] X.env = [(false, eval a X.env)] := by rfl) : JI B X tg (.Call (.Name "range" p) [a] [] pos) (iRg1 ta) :=
  pi_imp (pi_range1 hg hm ha hs) fun σ H R ⟨st, S, Q0, he, hr, hs, h, im⟩ => by
    refine ⟨st, S, _, he, hr, hs, h, fun xs S1 h1 H1 v1 e1 s1 r1 => ?_⟩
    match xs, h1 with
    | [.int j], h1 =>
      obtain ⟨v, rfl, r2⟩ := r1.one
      cases r2
      exact ⟨j, rfl, h1.1, h1.2.1, im _ _ _ h1.2.2 H1 e1 s1 _ (range_yields 0 j.toNat)⟩
theorem ji_rg2 {tg a b : Expr} {ta : WA} {p : Pos} (hg : Gl X "range") (hm : X.mg "range" = none) (ha : JA B X [a, b] ta) (hs : starEach [a, b] X.env = [(false, eval a X.env), (false, eval b X.env)] := by rfl) (hs2 : starEach [b] X.env = [(false, eval b X.env)] := by rfl) : JI B X tg (.Call (.Name "range" p) [a, b] [] pos) (iRg2 ta) :=
  pi_imp (pi_range2 hg hm ha hs hs2) fun σ H R ⟨st, S, Q0, he, hr, hs, h, im⟩ => by
    refine ⟨st, S, _, he, hr, hs, h, fun xs S1 h1 H1 v1 e1 s1 r1 => ?_⟩
    match xs, h1 with
    | [.int i, .int j], h1 =>
      obtain ⟨v, w, rfl, r2, r3⟩ := r1.two
      cases r2
      cases r3
      exact ⟨i, j, rfl, h1.1, im _ _ _ h1.2 H1 e1 s1 _ (range_yields i (j - i).toNat)⟩
/-- .. -/
def loopW (g : WG) (tb : WS) (stb : Sta → Prop) (D : WEnds) : List T → Sl → Sta → Prop
  | [], σ, S => stb S ∧ D.nx σ S
  | x :: xs, σ, S => stb S ∧ g x σ S fun σ2 S2 => tb { D with nx := loopW g tb stb D xs, ct := loopW g tb stb D xs, bk := D.nx } σ2 S2
def wFor (wi : WI) (g : WG) (tb : WS) (D : WEnds) (σ : Sl) (S : Sta) : Prop := wi σ S fun xs stb S1 => loopW g tb stb D xs σ S1
theorem loopW_stb {g : WG} {tb : WS} {stb : Sta → Prop} {D : WEnds} {xs : List T} {σ : Sl} {S : Sta} (h : loopW g tb stb D xs σ S) : stb S := by
  cases xs <;> exact h.1
theorem js_for {tg iter : Expr} {body : List Stmt} {wi : WI} {g : WG} {vs : List Nat} {tb : WS} (hp : PassesOwn (model X.prog X.w) X.A X.env X.xe) (hc : X.calm = true) (hi : JI B X tg iter wi) (hg : JG X tg vs g) (hb : JSs B X body tb)
    (hs : ∀ x, foldedSetIterable iter X.env x = pure x := by intro _; rfl) : JS B X (.For tg iter body [] pos) (wFor wi g tb) := ps_imp (ps_for hp hc hi hg hb hs) fun D σ H ⟨st, S, D0, he, hr, hs, h, im⟩ => by
  refine ⟨st, S, _, he, hr, hs, h, fun xs stb S1 h1 H1 e1 s1 J yl => ?_⟩
  refine ⟨fun i m σ' H' => m = xs.length - i ∧ i ≤ xs.length ∧ ∃ st' S', Ext H1 H' ∧ SlR X.K H' st' σ' ∧ St X.K S' H' ∧ loopW g tb stb D0 (xs.drop i) st' S', ⟨xs.length, by omega, Nat.zero_le _, st, S1, Ext.refl _, hr.mono e1, s1, h1⟩, fun i m σ2 H2 hW => ?_⟩
  obtain ⟨hm, hi, st2, S2, e2, r2, s2, h2⟩ := hW
  obtain ⟨y1, y2, y3⟩ := yl i S2 H2 e2 s2 (loopW_stb h2)
  by_cases hlt : i < xs.length
  · refine .inr ⟨y1 hlt, fun σ' H' => ∃ st' S', Ext H1 H' ∧ SlR X.K H' st' σ' ∧ St X.K S' H' ∧ loopW g tb stb D0 (xs.drop (i + 1)) st' S', fun σ' H' q => ⟨m - 1, by omega, by omega, by omega, q⟩, fun x H3 hy => ?_⟩
    obtain ⟨e3, s3, sl3, t, et, rt⟩ := y3 x H3 hy hlt
    have r3 := sl3 _ _ r2
    rw [List.drop_eq_getElem_cons hlt] at h2
    have et' : xs[i] = t := by rw [List.getElem?_eq_getElem hlt] at et; exact Option.some.inj et
    rw [et'] at h2
    refine ⟨t, st2, S2, _, rt, r3, s3, h2.2, fun st4 S4 h4 H4 σ4 e4 s4 r4 _ => ?_⟩
    have eb : Ext H1 H4 := e2.trans (e3.trans e4)
    have nx : ∀ st5 S5, loopW g tb stb D0 (xs.drop (i + 1)) st5 S5 → finS X.K H4 (fun σ' H' => ∃ st' S', Ext H1 H' ∧ SlR X.K H' st' σ' ∧ St X.K S' H' ∧ loopW g tb stb D0 (xs.drop (i + 1)) st' S') st5 S5 := fun st5 S5 h5 H5 σ5 e5 s5 r5 => ⟨st5, S5, eb.trans e5, r5, s5, h5⟩
    exact ⟨st4, S4, _, he.trans (e1.trans eb), r4, s4, h4, ⟨nx, fun v S5 q => fin_ext (e1.trans eb) (im.rt v S5 q), fun a S5 q => finS_ext (e1.trans eb) (im.nx a S5 q), nx⟩⟩
  · have ei : i = xs.length := by omega
    subst ei
    rw [List.drop_length] at h2
    exact .inl ⟨y2 (Nat.le_refl _), im.nx _ _ h2.2 H2 σ2 (e1.trans e2) s2 r2⟩
end
end Wp

set_option Elab.async false
set_option linter.all false
set_option maxRecDepth 100000
/-! comprehensions, calls, defs, a law's end -/
namespace Wp
open PySem PySem.Spec PyProof.Rows L2
def wipeT (σ : Sl) : List Nat → Sl
  | [] => σ
  | v :: vs => (wipeT σ vs).set v none
theorem SlR.wipe {K : PySem.W.Frag} {H : Hp} {st : Sl} {σ : L2.St} (h : SlR K H st σ) : ∀ vs : List Nat, SlR K H (wipeT st vs) (L2.wipe σ vs)
  | [] => h
  | v :: vs => by
    have ih := SlR.wipe h vs
    unfold wipeT L2.wipe
    refine ⟨by rw [List.length_set, List.length_set]; exact ih.1, fun j u q => ?_⟩
    by_cases hj : v = j
    · subst hj
      by_cases hl : v < (wipeT st vs).length
      · rw [List.getElem?_set_self hl] at q
        cases q
      · rw [List.getElem?_eq_none (by rw [List.length_set]; omega)] at q
        cases q
    · rw [List.getElem?_set_ne hj] at q
      obtain ⟨w, e1, e2⟩ := ih.2 j u q
      exact ⟨w, by rw [List.getElem?_set_ne hj]; exact e1, e2⟩
section
variable {B : Hp} {X : Cx} {pos : Pos}
def wYes (u0 : Sl) (S : Sta) (Q : Bool → Sta → Prop) : Prop := Q true S
def JTs (B : Hp) (X : Cx) (ifs : List Expr) (t : WT) : Prop := PTs X ifs (LT B X t)
theorem pts_imp {ifs : List Expr} {t t' : TT} (h : PTs X ifs t) (k : ∀ σ H Q, t' σ H Q → t σ H Q) : PTs X ifs t' := ⟨fun pins s σ H Q I q => h.run pins s σ H Q I (k σ H Q q)⟩
theorem jts_nil : JTs B X [] wYes := pts_imp pts_nil fun σ H Q ⟨st, S, Q0, he, hr, hs, h, im⟩ => im _ _ h H (Ext.refl H) hs
theorem jts_one {c : Expr} {t : WT} (h : JT B X c t) : JTs B X [c] t := pts_one h
def compW (g : WG) (tt : WT) (te : WE) (stb : Sta → Prop) (σ : Sl) (D : Addr) (Q : T → Sta → Prop) : List T → Sta → Prop
  | [], S => stb S ∧ Q (.ref D) S
  | x :: xs, S => stb S ∧ g x σ S fun σ2 S2 => tt σ2 S2 fun b S3 => wif b (te σ2 S3 fun y S4 => ∃ acc, S4 D = some (.lst acc) ∧ acc.length < sizeLine ∧ compW g tt te stb σ D Q xs (upS S4 D (.lst (acc ++ [y])))) (compW g tt te stb σ D Q xs S3)
def wLc (wi : WI) (g : WG) (tt : WT) (te : WE) (vs : List Nat) (σ : Sl) (S : Sta) (Q : T → Sta → Prop) : Prop := wi σ S fun xs stb S1 => ∀ D, S1 D = none → compW g tt te stb (wipeT σ vs) D Q xs (upS S1 D (.lst []))
theorem compW_stb {g : WG} {tt : WT} {te : WE} {stb : Sta → Prop} {σ : Sl} {D : Addr} {Q : T → Sta → Prop} {xs : List T} {S : Sta} (h : compW g tt te stb σ D Q xs S) : stb S := by
  cases xs <;> exact h.1
theorem le_lc {wi : WI} {g : WG} {tt : WT} {te : WE} {vs : List Nat} {σ : L2.St} {H : Hp} {Q : VK} (h : LE B X (wLc wi g tt te vs) σ H Q) : tLc (LI B X wi) (LG X vs g) (LT B X tt) (LE B X te) vs σ H Q := by
  obtain ⟨st, S, Q0, he, hr, hs, h, im⟩ := h
  refine ⟨st, S, _, he, hr, hs, h, fun xs stb S1 h1 H1 e1 s1 J yl => ?_⟩
  intro D hD
  obtain ⟨eD, sD⟩ := s1.newL (ts := []) hD .nil
  refine ⟨fun i m H' => m = xs.length - i ∧ i ≤ xs.length ∧ ∃ S', Ext H1 H' ∧ St X.K S' H' ∧ compW g tt te stb (wipeT st vs) D Q0 (xs.drop i) S', ⟨xs.length, by omega, Nat.zero_le _, _, eD, sD, h1 D (s1.free hD)⟩, fun i m H2 hW => ?_⟩
  obtain ⟨hm, hi, S2, e2, s2, h2⟩ := hW
  obtain ⟨y1, y2, y3⟩ := yl i S2 H2 e2 s2 (compW_stb h2)
  by_cases hlt : i < xs.length
  · refine .inr ⟨y1 hlt, fun H' => ∃ S', Ext H1 H' ∧ St X.K S' H' ∧ compW g tt te stb (wipeT st vs) D Q0 (xs.drop (i + 1)) S', fun H' q => ⟨m - 1, by omega, by omega, by omega, q⟩, fun x H3 hy => ?_⟩
    obtain ⟨e3, s3, sl3, t, et, rt⟩ := y3 x H3 hy hlt
    have r2 : SlR X.K H2 (wipeT st vs) (L2.wipe σ vs) := ((hr.mono e1).mono e2).wipe vs
    have r3 := sl3 _ _ r2
    rw [List.drop_eq_getElem_cons hlt] at h2
    have et' : xs[i] = t := by rw [List.getElem?_eq_getElem hlt] at et; exact Option.some.inj et
    rw [et'] at h2
    refine ⟨t, wipeT st vs, S2, _, rt, r3, s3, h2.2, fun st4 S4 h4 H4 σ4 e4 s4 r4 w4 => ?_⟩
    have ww : L2.wipe (L2.wipe σ vs) vs = L2.wipe σ vs := by
      have key : ∀ (us ws : List Nat) (τ : L2.St), (∀ i ∈ us, i ∈ ws) → L2.wipe (L2.wipe τ ws) us = L2.wipe τ ws := fun us => by
        induction us with
        | nil => intro ws τ _; rfl
        | cons u us ih =>
          intro ws τ hu
          show (L2.wipe (L2.wipe τ ws) us).set u none = L2.wipe τ ws
          rw [ih ws τ fun i hi => hu i (List.mem_cons_of_mem _ hi)]
          have hmem := hu u List.mem_cons_self
          have set_none : ∀ (ws : List Nat), u ∈ ws → (L2.wipe τ ws).set u none = L2.wipe τ ws := fun ws => by
            induction ws with
            | nil => intro h; cases h
            | cons w ws ih2 =>
              intro h
              show ((L2.wipe τ ws).set w none).set u none = (L2.wipe τ ws).set w none
              by_cases hw : u = w
              · subst hw; rw [List.set_set]
              · rw [List.set_comm _ _ (fun z => hw z.symm), ih2 ((List.mem_cons.mp h).resolve_left hw)]
          exact set_none ws hmem
      exact key vs vs σ fun i hi => hi
    refine ⟨w4.trans ww, ?_⟩
    have eb : Ext H1 H4 := e2.trans (e3.trans e4)
    refine ⟨st4, S4, _, he.trans (e1.trans eb), r4, s4, h4, fun b S5 h5 H5 e5 s5 => ?_⟩
    cases b with
    | true =>
      rw [if_pos rfl]
      refine ⟨st4, S5, _, he.trans (e1.trans (eb.trans e5)), r4.mono e5, s5, h5, fun y S6 h6 H6 v6 e6 s6 r6 => ?_⟩
      obtain ⟨acc, ea, hl, h6⟩ := h6
      obtain ⟨ys, g1, g2⟩ := s6 D _ ea
      obtain ⟨e7, s7⟩ := s6.setL g1 (Reps.append g2 (.cons r6 .nil))
      exact ⟨ys, g1, by rw [← g2.length]; exact hl, _, (eb.trans e5).trans (e6.trans e7), s7, h6⟩
    | false =>
      rw [if_neg Bool.false_ne_true]
      exact ⟨S5, eb.trans e5, s5, h5⟩
  · have ei : i = xs.length := by omega
    subst ei
    rw [List.drop_length] at h2
    exact .inl ⟨y2 (Nat.le_refl _), im _ _ h2.2 H2 _ (e1.trans e2) s2 (.ref D)⟩
theorem j_lc {elt tg iter : Expr} {ifs : List Expr} {scope : Scope} {own : List (Str × Nat)} {wi : WI} {g : WG} {tt : WT} {te : WE} (hc : X.calm = true) (hN : X.N.Nodup) (hi : JI B X tg iter wi) (ok : BlkOk X.N X.env.scope scope own)
    (hg : ∀ (s : Shared) (H : Hp) (C : Addr) (cl : List (Str × Addr)) (fp : List Addr), JG (X.blk s H scope (compEnvC scope cl C X.env) fp) tg (own.map (·.2)) g) (ht : ∀ (s : Shared) (H : Hp) (C : Addr) (cl : List (Str × Addr)) (fp : List Addr), JTs B (X.blk s H scope (compEnvC scope cl C X.env) fp) ifs tt)
    (he : ∀ (s : Shared) (H : Hp) (C : Addr) (cl : List (Str × Addr)) (fp : List Addr), JE B (X.blk s H scope (compEnvC scope cl C X.env) fp) elt te) (hs : ∀ x, foldedSetIterable iter X.env x = pure x := by intro _; rfl) :
    JE B X (.ListComp elt [⟨tg, iter, ifs, 0⟩] scope pos) (wLc wi g tt te (own.map (·.2))) := pe_imp (pe_lc (g := LG X (own.map fun (p : Str × Nat) => p.2) g) (tt := LT B X tt) (te := LE B X te) hc hN hi ok (fun s H C cl fp => hg s H C cl fp) (fun s H C cl fp => ht s H C cl fp) (fun s H C cl fp => he s H C cl fp) hs) fun σ H Q h => le_lc h
/-- name = [..] on one line -/
theorem js_setLc {i : Nat} {y : Str} {py : Pos} {elt tg iter : Expr} {ifs : List Expr} {scope : Scope} {own : List (Str × Nat)} {spos : Pos} {wi : WI} {g : WG} {tt : WT} {te : WE} (hc : X.calm = true) (hN : X.N.Nodup) (hy : X.N[i]? = some y) (hyl : X.env.scope.names.lookup y = some .local)
    (hsw : swapsWith (.ListComp elt [⟨tg, iter, ifs, 0⟩] scope pos) (some (.Name y py)) spos.line X.env = pure true) (hi : JI B X tg iter wi) (ok : BlkOk X.N X.env.scope scope own)
    (hg : ∀ (s : Shared) (H : Hp) (C : Addr) (cl : List (Str × Addr)) (fp : List Addr), JG (X.blk s H scope (compEnvC scope cl C X.env) fp) tg (own.map (·.2)) g) (ht : ∀ (s : Shared) (H : Hp) (C : Addr) (cl : List (Str × Addr)) (fp : List Addr), JTs B (X.blk s H scope (compEnvC scope cl C X.env) fp) ifs tt)
    (he : ∀ (s : Shared) (H : Hp) (C : Addr) (cl : List (Str × Addr)) (fp : List Addr), JE B (X.blk s H scope (compEnvC scope cl C X.env) fp) elt te) (hs : ∀ x, foldedSetIterable iter X.env x = pure x := by intro _; rfl) :
    JS B X (.Assign [.Name y py] (.ListComp elt [⟨tg, iter, ifs, 0⟩] scope pos) spos) (wSet i (wLc wi g tt te (own.map (·.2)))) := ps_imp (ps_setLc (g := LG X (own.map fun (p : Str × Nat) => p.2) g) (tt := LT B X tt) (te := LE B X te) hc hN hy hyl hsw hi ok (fun s H C cl fp => hg s H C cl fp) (fun s H C cl fp => ht s H C cl fp) (fun s H C cl fp => he s H C cl fp) hs) fun D σ H ⟨st, S, D0, he, hr, hs, h, im⟩ => by
  refine le_lc (Q := fun x H1 => gName i x σ H1 D.nx) ⟨st, S, _, he, hr, hs, h, fun x S1 h1 H1 v e1 s1 r1 => ?_⟩
  exact im.nx _ _ h1 H1 _ e1 s1 ((hr.mono e1).set r1 i)

/-! ### calls of the program's own defs -/
/-- arguments, state, the end, the end by an error (its class) -/
abbrev WSp := List T → Sta → (T → Sta → Prop) → (Addr → Sta → Prop) → Prop
def Lsp (tl : List Addr) (K : PySem.W.Frag) (n : Nat) (w : WSp) : Sp := fun vs H Q E => (∀ P ∈ tl, GxR.TabG H P) ∧ ∃ ts S Q0 E0, ts.length = n ∧ Reps K H ts vs ∧ St K S H ∧ w ts S Q0 E0 ∧ Im2 Q0 (fin K H Q) ∧ ∀ C S' H', E0 C S' → Ext H H' → St K S' H' → E (.ref C) none H'
theorem lsp_len {tl : List Addr} {K : PySem.W.Frag} {n : Nat} {w : WSp} {vs : List V} {H : Hp} {Q : VK} {E : XK} (h : Lsp tl K n w vs H Q E) : vs.length = n := by
  obtain ⟨_, ts, S, Q0, E0, h1, h2, _⟩ := h
  rw [← h2.length, h1]
def wCall (n : Nat) (w : WSp) (t : WA) (σ : Sl) (S : Sta) (Q : T → Sta → Prop) : Prop := t σ S fun ts S1 => ts.length = n ∧ w ts S1 Q fun _ _ => False
variable {k : Nat} {f C : Addr} {fd : FuncData} {ps : List Str} {x m : Str} {p apos : Pos} {e o : Expr} {es : List Expr} {ta : WE} {t : WA} {n : Nat} {w : WSp} {tl : List Addr}
theorem j_call (F : FnOk X.prog X.w X.K X.mg X.base CX0 k f fd ps (Lsp tl X.K n w)) (ht : ∀ P ∈ tl, GxR.TabG B P) (hr : Room k X.A) (hg : Gl X x) (hm : X.mg x = some (.ref f)) (hk : PySem.W.keepIn X.K (.ref f) = true) (hb : Binds X.K fd ps [])
    (ha : JA B X (e :: es) t) (hdb : (x == ("__debug__" : Str)) = false := by decide) (he : starEach (e :: es) X.env = (false, eval e X.env) :: starEach es X.env := by rfl) (hpl : (backTo pos (starEach es X.env)).any (·.1) = false := by rfl) :
    JE B X (.Call (.Name x p) (e :: es) [] pos) (wCall n w t) := pe_imp (pe_call F hr hg hm hk hb .nil pass0 ha hdb he hpl) fun σ H Q ⟨st, S, Q0, he, hr, hs, h, im⟩ => by
  refine ⟨st, S, _, he, hr, hs, h, fun xs S1 h1 H1 vs e1 s1 r1 => ?_⟩
  refine ⟨fun P hP => (he.trans e1).tabs P (ht P hP), xs, S1, Q0, fun _ _ => False, h1.1, by rw [List.append_nil]; exact r1, s1, h1.2, fun z S2 q => fin_ext e1 (im z S2 q), fun C S' H' q => q.elim⟩
theorem j_call0 (F : FnOk X.prog X.w X.K X.mg X.base CX0 k f fd ps (Lsp tl X.K n w)) (ht : ∀ P ∈ tl, GxR.TabG B P) (hr : Room k X.A) (hg : Gl X x) (hm : X.mg x = some (.ref f)) (hk : PySem.W.keepIn X.K (.ref f) = true) (hb : Binds X.K fd ps [])
    (hdb : (x == ("__debug__" : Str)) = false := by decide) :
    JE B X (.Call (.Name x p) [] [] pos) (wCall n w wNil) := pe_imp (pe_call0 F hr hg hm hk hb .nil pass0 hdb) fun σ H Q ⟨st, S, Q0, he, hr, hs, h, im⟩ =>
  ⟨fun P hP => he.tabs P (ht P hP), [], S, Q0, fun _ _ => False, h.1, .nil, hs, h.2, im, fun C S' H' q => q.elim⟩
end
/-! ### a def keeps its promise -/
def startT (N : List Str) (ts : List T) : Sl := ts.map some ++ List.replicate (N.length - ts.length) none
theorem start_rep {K : PySem.W.Frag} {H : Hp} {N : List Str} {ts : List T} {vs : List V} (r : Reps K H ts vs) : SlR K H (startT N ts) (L2.start N vs) := by
  have hl := r.length
  refine ⟨by unfold startT L2.start; simp [hl], fun i t q => ?_⟩
  unfold startT at q
  by_cases hi : i < ts.length
  · rw [List.getElem?_append_left (by simpa using hi), List.getElem?_map] at q
    cases e : ts[i]? with
    | none => rw [e] at q; cases q
    | some t' =>
      rw [e] at q
      cases q
      obtain ⟨v, e1, e2⟩ := r.get e
      refine ⟨v, ?_, e2⟩
      unfold L2.start
      rw [List.getElem?_append_left (by simp; omega), List.getElem?_map, e1]
      rfl
  · rw [List.getElem?_append_right (by simpa using hi), List.getElem?_replicate] at q
    split at q <;> cases q
section
variable {P : Program} {w : World} {K : PySem.W.Frag} {mg : Str → Option Value} {base : Heap}
theorem fnT {x qual : Str} {st : Stmt} {f : Addr} {fd : FuncData} {N ps : List Str} {k : Nat} {sp : WSp} {tl : List Addr} {t : WS} (F : Fun K x qual st f fd) (S : FnScope N ps (defScope st))
    (hb : ∀ (cdv : Value) (A : Around) (outer : List Env) (s : Shared) (H : Hp) (E : XK), Room k (A.deeper (envOfC qual (defScope st) s.heap.objs.size f cdv)) → cdv = fd.code → (∀ P ∈ tl, GxR.TabG H P) → JSs H (cxOf CX0 P w K mg base N qual (defScope st) f cdv A outer s H E).nox (defBody st) t)
    (hw : ∀ ts S Q E, ts.length = ps.length → sp ts S Q E → t { nx := fun _ S' => Q .non S', rt := Q } (startT N ts) S) : FnOk P w K mg base CX0 (k + 1) f fd ps (Lsp tl K ps.length sp) := by
  obtain ⟨oc, od, kV, doc, pm, an, cdv, ct, osl, rfl, lk, hcd⟩ := F.ex
  refine fn_of lk hcd S (fun vs H Q E h => lsp_len h) fun A outer s H vs Q E hr h => ?_
  obtain ⟨hT, ts, S0, Q0, E0, h1, h2, h3, h4, im, _⟩ := h
  refine ⟨_, PSs.nox (hb cdv A outer s H E hr rfl hT), ?_⟩
  exact ⟨startT N ts, S0, _, Ext.refl H, start_rep h2, h3, hw ts S0 Q0 E0 h1 h4, ⟨fun a S1 q H1 σ1 e1 s1 r1 => im _ _ q H1 _ e1 s1 .non, im, fun _ _ q => q.elim, fun _ _ q => q.elim⟩⟩
/-- another promise, less asked -/
theorem fn_imp {k : Nat} {f : Addr} {fd : FuncData} {ps : List Str} {n : Nat} {sp sp' : WSp} {tl : List Addr} (F : FnOk P w K mg base CX0 k f fd ps (Lsp tl K n sp)) (h : ∀ ts S Q E, sp' ts S Q E → sp ts S Q E) : FnOk P w K mg base CX0 k f fd ps (Lsp tl K n sp') :=
  F.imp fun vs H Q E ⟨hT, ts, S, Q0, E0, h1, h2, h3, h4, h5⟩ => ⟨hT, ts, S, Q0, E0, h1, h2, h3, h _ _ _ _ h4, h5⟩
end
/-- a law's promise: over a list of ints of at most 63, True -/
def spLaw : WSp := fun ts S Q _ => ∃ ns : List Int, ts = [.fl (ns.map .int)] ∧ ns.length ≤ 63 ∧ (∀ a, S a = none) ∧ ∀ S', Q (.bl true) S'
theorem law_sp (K : PySem.W.Frag) (H : Hp) (a : Addr) (ns : List Int) (hl : ns.length ≤ 63) (ho : Only H) (hs : SqL K H a (ns.map V.int)) : Lsp [] K 1 spLaw [.ref a] H (fun v _ => v = .bl true) fun _ _ _ => False := by
  have hf : FzL K H a (ns.map V.int) := by
    rcases hs with (h | ⟨o, h⟩) | h
    · rcases ho a with z | ⟨ob, xs, z⟩
      · rw [h] at z; cases z
      · rw [h] at z; cases z
    · exact .inl ⟨o, h⟩
    · exact .inr h
  refine ⟨fun _ z => (by cases z), [.fl (ns.map .int)], fun _ => none, fun v _ => v = .bl true, fun _ _ => False, rfl, .cons (.fl hf (Reps.ints ns)) .nil, (fun b o q => by cases q), ⟨ns, rfl, hl, fun _ => rfl, fun _ => rfl⟩, fun v S e H' u _ _ r => ?_, fun _ _ _ q => q.elim⟩
  subst e
  cases r
  rfl
end Wp

set_option Elab.async false
set_option linter.all false
set_option maxRecDepth 100000
/-! a def of the text, called; sequences walked -/
namespace Wp
open PySem PySem.Spec PyProof.Rows L2
def DefT (K : PySem.W.Frag) (mg : Str → Option Value) (x : Str) (st : Stmt) (ps : List Str) : Prop := ∃ f fd, Fun K x x st f fd ∧ mg x = some (.ref f) ∧ Binds K fd ps []
def Cal (P : Program) (w : World) (K : PySem.W.Frag) (mg : Str → Option Value) (base : Heap) (tl : List Addr) (k : Nat) (x : Str) (ps : List Str) (s : WSp) : Prop :=
  ∃ f fd, FnOk P w K mg base CX0 k f fd ps (Lsp tl K ps.length s) ∧ mg x = some (.ref f) ∧ PySem.W.keepIn K (.ref f) = true ∧ Binds K fd ps []
section
variable {P : Program} {w : World} {K : PySem.W.Frag} {mg : Str → Option Value} {base : Heap} {k j : Nat} {x : Str} {st : Stmt} {ps : List Str} {s s' : WSp} {tl : List Addr}
theorem DefT.cal (D : DefT K mg x st ps) (h : ∀ f fd, Fun K x x st f fd → FnOk P w K mg base CX0 k f fd ps (Lsp tl K ps.length s)) : Cal P w K mg base tl k x ps s := by
  obtain ⟨f, fd, F, m, b⟩ := D
  exact ⟨f, fd, h f fd F, m, F.kp, b⟩
theorem Cal.mono (c : Cal P w K mg base tl j x ps s) (h : j ≤ k) : Cal P w K mg base tl k x ps s := by
  obtain ⟨f, fd, F, m, kp, b⟩ := c
  exact ⟨f, fd, F.mono h, m, kp, b⟩
theorem Cal.imp (c : Cal P w K mg base tl k x ps s) (h : ∀ ts S Q E, s' ts S Q E → s ts S Q E) : Cal P w K mg base tl k x ps s' := by
  obtain ⟨f, fd, F, m, kp, b⟩ := c
  exact ⟨f, fd, fn_imp F h, m, kp, b⟩
theorem defT_mk {f : Addr} {oc : Value} {od an : Option Addr} {osl : Array (Option Value)} {kV doc pm cdv ct : Value} (hm : mg x = some (.ref f)) (l : K.lookup f = some ⟨oc, od, .func (PySem.W.fnOf x x (defArgs st) (defBody st) (defScope st) .none kV doc pm an cdv ct), osl⟩)
    (c : PySem.W.codeIn K cdv x = true) (k : PySem.W.keepIn K (.ref f) = true)
    (h : ∀ (kV doc pm : Value) (an : Option Addr) (cdv ct : Value) (us : List Value), us.length = ps.length → bindArgs (PySem.W.fnOf x x (defArgs st) (defBody st) (defScope st) .none kV doc pm an cdv ct) ⟨us, []⟩ = pure (ps.zip us)) : DefT K mg x st ps :=
  ⟨f, _, fun_mk l c k, hm, (fun_mk l c k).binds h⟩
end
section
variable {B : Hp} {X : Cx} {x : Str} {p pos : Pos} {e : Expr} {es : List Expr} {t : WA} {te : WE} {k : Nat} {ps : List Str} {s : WSp} {tl : List Addr}
theorem j_c (c : Cal X.prog X.w X.K X.mg X.base tl k x ps s) (ht : ∀ P ∈ tl, GxR.TabG B P) (hr : Room k X.A) (hg : Gl X x) (ha : JA B X (e :: es) t) (hdb : (x == ("__debug__" : Str)) = false := by decide)
    (he : starEach (e :: es) X.env = (false, eval e X.env) :: starEach es X.env := by rfl) (hpl : (backTo pos (starEach es X.env)).any (·.1) = false := by rfl) : JE B X (.Call (.Name x p) (e :: es) [] pos) (wCall ps.length s t) := by
  obtain ⟨f, fd, F, m, kp, b⟩ := c
  exact j_call F ht hr hg m kp b ha hdb he hpl
theorem j_c0 (c : Cal X.prog X.w X.K X.mg X.base tl k x ps s) (ht : ∀ P ∈ tl, GxR.TabG B P) (hr : Room k X.A) (hg : Gl X x) (hdb : (x == ("__debug__" : Str)) = false := by decide) : JE B X (.Call (.Name x p) [] [] pos) (wCall ps.length s wNil) := by
  obtain ⟨f, fd, F, m, kp, b⟩ := c
  exact j_call0 F ht hr hg m kp b hdb
theorem j_cI {i : Int} (hg : Gl X x) (h : ∃ t, X.mg x = some (.int i t)) (hd : (x == ("__debug__" : Str)) = false := by decide) : JE B X (.Name x pos) (wC (.int i)) := by
  obtain ⟨t, h⟩ := h
  exact j_globI hg h hd
theorem j_cS {i : Str} (hg : Gl X x) (h : ∃ t, X.mg x = some (.str i t)) (hd : (x == ("__debug__" : Str)) = false := by decide) : JE B X (.Name x pos) (wC (.str i)) := by
  obtain ⟨t, h⟩ := h
  exact j_globS hg h hd
/-- a list or a tuple, walked -/
def iSeqW (te : WE) (σ : Sl) (S : Sta) (R : List T → (Sta → Prop) → Sta → Prop) : Prop := te σ S fun x S1 => match x with
  | .tup ts => R ts (fun _ => True) S1
  | .fl ts => R ts (fun _ => True) S1
  | .ref p => ∃ ts, S1 p = some (.lst ts) ∧ R ts (fun S' => S' p = some (.lst ts)) S1
  | _ => False
/-- the two sources told apart where the value has come -/
theorem pi_both {tg l : Expr} {tl : TE} (hl : PE X l tl) : PI X tg l fun σ H R => tl σ H fun x H1 => ∃ a, x = .ref a ∧ ((∃ xs, SqL X.K H1 a xs) ∧ R (Itl X.K a) H1 ∨ (∃ xs, SqT X.K H1 a xs) ∧ R (Itt X.K a) H1) := by
  refine ⟨fun pins s σ H R I h => ?_⟩
  refine thn (hl.run pins s σ H _ I h) fun v s1 ⟨x, H1, I1, r1, q1⟩ => ?_
  obtain ⟨a, e, q1⟩ := q1
  subst e
  cases r1
  rcases q1 with ⟨⟨xs, hq⟩, q⟩ | ⟨⟨xs, hq⟩, q⟩
  · obtain ⟨its, rv, p, hz⟩ := I1.list hq
    refine wpAny_pyIter_list p.isList ?_
    refine ⟨s1.heap.objs.size, [s1.heap.objs.size], _, _, H1, rfl, I1.kept (t' := s1.toks) fun b o e => Heap.get?_push_of_some _ e, turn_list a _, ⟨_, Heap.get?_push_size _ rfl, rfl, rfl⟩, fun b hb => ?_, q⟩
    have e : b = s1.heap.objs.size := by simpa using hb
    subst e
    exact I1.fpOk (Nat.le_refl _) (I1.hok.fresh (Nat.le_refl _))
  · obtain ⟨its, rv, p, hz⟩ := I1.tuple hq
    refine wpAny_pyIter_tuple (show s1.heap.IsTuple a its.toArray from p) ?_
    refine ⟨s1.heap.objs.size, [s1.heap.objs.size], _, _, H1, rfl, I1.kept (t' := s1.toks) fun b o e => Heap.get?_push_of_some _ e, turn_tuple a _, ⟨_, Heap.get?_push_size _ rfl, rfl, rfl⟩, fun b hb => ?_, q⟩
    have e : b = s1.heap.objs.size := by simpa using hb
    subst e
    exact I1.fpOk (Nat.le_refl _) (I1.hok.fresh (Nat.le_refl _))
theorem ji_seq {tg : Expr} (he : JE B X e te) : JI B X tg e (iSeqW te) := pi_imp (pi_both he) fun σ H R ⟨st, S, Q0, he, hr, hs, h, im⟩ => by
  refine ⟨st, S, _, he, hr, hs, h, fun x S1 h1 H1 v1 e1 s1 r1 => ?_⟩
  cases x with
  | tup ts =>
    cases r1 with
    | @tup a xs _ g1 g2 =>
      refine ⟨a, rfl, .inr ⟨⟨xs, g1⟩, im _ _ _ h1 H1 e1 s1 _ fun i S2 H2 e2 s2 _ => ⟨fun hi => ?_, fun hi => ⟨xs, e2.sqT g1, by rw [← g2.length]; exact hi⟩, fun x H' y hi => ?_⟩⟩⟩
      · obtain ⟨v, g3, _⟩ := g2.get (List.getElem?_eq_getElem hi)
        exact ⟨xs, v, e2.sqT g1, g3⟩
      · obtain ⟨eH, y⟩ := y
        subst eH
        obtain ⟨v, g3, g4⟩ := g2.get (List.getElem?_eq_getElem hi)
        have ev : x = v := Option.some.inj ((y xs (e2.sqT g1)).symm.trans g3)
        subst ev
        exact ⟨Ext.refl _, s2, fun _ _ q => q, _, List.getElem?_eq_getElem hi, Rep.mono e2 _ _ g4⟩
  | fl ts =>
    cases r1 with
    | @fl a xs _ g1 g2 =>
      refine ⟨a, rfl, .inl ⟨⟨xs, g1.sq⟩, im _ _ _ h1 H1 e1 s1 _ fun i S2 H2 e2 s2 _ => ⟨fun hi => ?_, fun hi => ⟨xs, (e2.fzL g1).sq, by rw [← g2.length]; exact hi⟩, fun x H' y hi => ?_⟩⟩⟩
      · obtain ⟨v, g3, _⟩ := g2.get (List.getElem?_eq_getElem hi)
        exact ⟨xs, v, (e2.fzL g1).sq, g3⟩
      · obtain ⟨eH, y⟩ := y
        subst eH
        obtain ⟨v, g3, g4⟩ := g2.get (List.getElem?_eq_getElem hi)
        have ev : x = v := Option.some.inj ((y xs ((e2.fzL g1).sq)).symm.trans g3)
        subst ev
        exact ⟨Ext.refl _, s2, fun _ _ q => q, _, List.getElem?_eq_getElem hi, Rep.mono e2 _ _ g4⟩
  | ref p =>
    obtain ⟨ts, eS, h1⟩ := h1
    cases r1
    obtain ⟨xs0, g10, g20⟩ := s1 p _ eS
    refine ⟨p, rfl, .inl ⟨⟨xs0, .inl (.inl g10)⟩, im _ _ _ h1 H1 e1 s1 _ fun i S2 H2 e2 s2 stb => ?_⟩⟩
    obtain ⟨xs, g1, g2⟩ := s2 p _ stb
    refine ⟨fun hi => ?_, fun hi => ⟨xs, .inl (.inl g1), by rw [← g2.length]; exact hi⟩, fun x H' y hi => ?_⟩
    · obtain ⟨v, g3, _⟩ := g2.get (List.getElem?_eq_getElem hi)
      exact ⟨xs, v, .inl (.inl g1), g3⟩
    · obtain ⟨eH, y⟩ := y
      subst eH
      obtain ⟨v, g3, g4⟩ := g2.get (List.getElem?_eq_getElem hi)
      have ev : x = v := Option.some.inj ((y xs (.inl (.inl g1))).symm.trans g3)
      subst ev
      exact ⟨Ext.refl _, s2, fun _ _ q => q, _, List.getElem?_eq_getElem hi, g4⟩
  | _ => exact h1.elim
end
/-! ### a law's last lines -/
theorem law_walk {l : PySem.W.OpenLaw} {k : Nat} {q : Program} {loose : List Str} {XP : (Str → Option Value) → Heap → Prop} {YP : World → Heap → Prop} {d : DefRec} {K : Params → PySem.W.Frag} {x : Str}
    (hn : l.most = some 63) (hdf : d.params.defaults = []) (hr : Room k callerA)
    (hY : ∀ (w : World) (h : Heap), YP w h → (K w.params).In h)
    (F : ∀ (w : World) (mg : Str → Option Value) (fa : Addr) (h : Heap), (K w.params).In h → h.Ns mainGlobals mg → mg d.name = some (.ref fa) →
      ∃ fd : FuncData, (∀ (s : Shared) (u : Value), BindsTo s fd ⟨[u], []⟩ [(x, u)]) ∧
        ∀ base : Heap, (K w.params).In base → base.Ns mainGlobals mg → FnOk l.prog w (K w.params) mg base CX0 k fa fd [x] (Lsp [] (K w.params) 1 spLaw)) :
    PySem.W.WalkO q loose XP YP l.row.toRowW d [] (fun f vs => PySem.call f vs) :=
  L2.walk_ofK (CX := CX0) (sp := fun K => Lsp [] K 1 spLaw) hn (by decide) hdf hr hY F (fun K H a ns hl ho hs => law_sp K H a ns hl ho hs) fun H s e s' h => h
end Wp

set_option Elab.async false
set_option linter.all false
set_option maxRecDepth 100000
/-! more built-ins, methods of lists -/
namespace Wp
open PySem PySem.Spec PyProof.Rows L2
section
variable {B : Hp} {X : Cx} {a b : Expr} {ta tb : WE} {pos : Pos}
/-- list(range(n)) -/
def wLstRg (ta : WE) (σ : Sl) (S : Sta) (Q : T → Sta → Prop) : Prop := ta σ S fun x S1 => match x with
  | .int n => (n ≤ 2 ^ 24 ∧ -(2 ^ 62) ≤ n) ∧ ∀ p, S1 p = none → Q (.ref p) (upS S1 p (.lst (rangeT 0 n.toNat)))
  | _ => False
theorem rangeT_rep {K : PySem.W.Frag} {H : Hp} (lo : Int) : ∀ (l : List Nat), Reps K H (l.map fun (i : Nat) => T.int (lo + (i : Int))) (l.map fun (i : Nat) => V.int (lo + (i : Nat)))
  | [] => .nil
  | i :: l => .cons (.int _) (rangeT_rep lo l)
theorem j_listRg1 {p p2 pos2 : Pos} (hg : Gl X "list") (hm : X.mg "list" = none) (hg2 : Gl X "range") (hm2 : X.mg "range" = none) (hc : X.calm = true) (ha : JE B X a ta) (na : starEach [a] X.env = (false, eval a X.env) :: starEach [] X.env := by rfl)
    (na2 : starEach [.Call (.Name "range" p2) [a] [] pos2] X.env = (false, eval (.Call (.Name "range" p2) [a] [] pos2) X.env) :: starEach [] X.env := by rfl) : JE B X (.Call (.Name "list" p) [.Call (.Name "range" p2) [a] [] pos2] [] pos) (wLstRg ta) :=
  pe_imp (pe_listRg hc hg hm (prg_1 hg2 hm2 ha na) na2) fun σ H Q ⟨st, S, Q0, he, hr, hs, h, im⟩ => by
    refine ⟨st, S, _, he, hr, hs, h, fun x S1 h1 H1 v e1 s1 r1 => ?_⟩
    cases x with
    | int n =>
      cases r1
      refine ⟨n, rfl, ⟨by omega, by omega, by have := h1.1.2; omega, by have := h1.1.1; omega, by have := h1.1.1; omega⟩, fun q hq => ?_⟩
      have rr : Reps X.K H1 (rangeT 0 n.toNat) (rgV 0 n) := by
        unfold rangeT rgV
        rw [show (n - 0).toNat = n.toNat by rw [Int.sub_zero]]
        exact rangeT_rep 0 _
      obtain ⟨e2, s2⟩ := s1.newL hq rr
      exact im _ _ (h1.2 q (s1.free hq)) _ _ (e1.trans e2) s2 (.ref q)
    | _ => exact h1.elim
/-- is of bools -/
def rBIs (neg : Bool) (x : T) (y : T) (S : Sta) (Q : T → Sta → Prop) : Prop := match x, y with
  | .bl a, .bl b => Q (.bl (neg != (a == b))) S
  | _, _ => False
theorem o_isB : OpT X (compareOp .Is) (rBIs false) := by
  intro pins s σ H x y v u Q I rx ry ⟨a, b, S, Q0, ra, rb, hs, q, im⟩
  match a, b, q with
  | .bl a, .bl b, q =>
    cases ra
    cases rb
    refine op_isBl pins s σ H _ _ v u Q I rx ry ⟨a, b, rfl, rfl, ?_⟩
    have e : decide (a = b) = (false != (a == b)) := by cases a <;> cases b <;> rfl
    rw [e]
    exact im _ _ q H _ (Ext.refl H) hs (.bl _)
theorem o_notB : OpT X (compareOp .IsNot) (rBIs true) := by
  intro pins s σ H x y v u Q I rx ry ⟨a, b, S, Q0, ra, rb, hs, q, im⟩
  match a, b, q with
  | .bl a, .bl b, q =>
    cases ra
    cases rb
    refine op_notBl pins s σ H _ _ v u Q I rx ry ⟨a, b, rfl, rfl, ?_⟩
    have e : (!decide (a = b)) = (true != (a == b)) := by cases a <;> cases b <;> rfl
    rw [e]
    exact im _ _ q H _ (Ext.refl H) hs (.bl _)
/-! ### methods of a list that may change -/
abbrev RM3 := T → List T → Sta → (T → Sta → Prop) → Prop
def LM (K : PySem.W.Frag) (r : RM3) : V → List V → Hp → VK → Prop := fun x xs H Q => ∃ t ts S Q0, Rep K H t x ∧ Reps K H ts xs ∧ St K S H ∧ r t ts S Q0 ∧ Im2 Q0 (fin K H Q)
def wMt (r : RM3) (to : WE) (t : WA) (σ : Sl) (S : Sta) (Q : T → Sta → Prop) : Prop := to σ S fun x S1 => match x with
  | .ref p => (∃ xs, S1 p = some (.lst xs)) ∧ t σ S1 fun ts S2 => r (.ref p) ts S2 Q
  | _ => False
variable {o e : Expr} {es : List Expr} {to : WE} {t : WA} {name : Str} {apos cpos : Pos} {id : String} {r : RM3}
theorem j_mtL (slot : Slot "list" name id) (hty : typeOf (.builtin id) = pure (.type "method_descriptor")) (hm : MtR X id (LM X.K r)) (ho : JE B X o to) (ha : JA B X (e :: es) t)
    (hbase : attributeBase o name X.env (eval o X.env) = eval o X.env := by rfl)
    (hfew : ((backTo cpos (starEach (e :: es) X.env)).all (fun x => !x.1) && (backToKw cpos (keywordEach [] X.env)).all (fun x => x.1.isSome)
      && decide ((e :: es).length + ([] : List Keyword).length + (if ([] : List Keyword).isEmpty then 0 else 1) < 30)) = true := by rfl)
    (hline : (apos.endLine == cpos.line) = true := by rfl) (hs : starEach (e :: es) X.env = (false, eval e X.env) :: starEach es X.env := by rfl) (hplain : (backTo cpos (starEach es X.env)).any (·.1) = false := by rfl) :
    JE B X (.Call (.Attribute o name apos) (e :: es) [] cpos) (wMt r to t) := pe_imp (pe_bm PySem.F.plainAttrs_list slot hty hm ho ha hbase hfew hline hs hplain) fun σ H Q ⟨st, S, Q0, he, hr, hs, h, im⟩ => by
  refine ⟨st, S, _, he, hr, hs, h, fun x S1 h1 H1 v e1 s1 r1 => ?_⟩
  cases x with
  | ref p =>
   obtain ⟨⟨xs, e2⟩, h1⟩ := h1
   cases r1
   obtain ⟨ys, g1, g2⟩ := s1 p _ e2
   refine ⟨.inl ⟨rfl, ys, .inl (.inl g1)⟩, st, S1, _, he.trans e1, hr.mono e1, s1, h1, fun ts S2 h2 H2 vs e3 s3 r3 => ?_⟩
   exact ⟨_, ts, S2, Q0, .ref p, r3, s3, h2, fun z S4 q => fin_ext (e1.trans e3) (im z S4 q)⟩
  | _ => exact h1.elim
theorem j_mtL0 (slot : Slot "list" name id) (hty : typeOf (.builtin id) = pure (.type "method_descriptor")) (hm : MtR X id (LM X.K r)) (ho : JE B X o to)
    (hbase : attributeBase o name X.env (eval o X.env) = eval o X.env := by rfl) (hline : (apos.endLine == cpos.line) = true := by rfl) :
    JE B X (.Call (.Attribute o name apos) [] [] cpos) (wMt r to wNil) := pe_imp (pe_bm0 PySem.F.plainAttrs_list slot hty hm ho hbase hline) fun σ H Q ⟨st, S, Q0, he, hr, hs, h, im⟩ => by
  refine ⟨st, S, _, he, hr, hs, h, fun x S1 h1 H1 v e1 s1 r1 => ?_⟩
  cases x with
  | ref p =>
   obtain ⟨⟨xs, e2⟩, h1⟩ := h1
   cases r1
   obtain ⟨ys, g1, g2⟩ := s1 p _ e2
   refine ⟨.inl ⟨rfl, ys, .inl (.inl g1)⟩, ?_⟩
   exact ⟨_, [], S1, Q0, .ref p, .nil, s1, h1, fun z S4 q => fin_ext e1 (im z S4 q)⟩
  | _ => exact h1.elim
def rAppendT (x : Wp.T) (ts : List Wp.T) (S : Sta) (Q : Wp.T → Sta → Prop) : Prop := match x, ts with
  | .ref p, [t] => ∃ xs, S p = some (.lst xs) ∧ xs.length < sizeLine ∧ Q .non (upS S p (.lst (xs ++ [t])))
  | _, _ => False
theorem m_append : MtR X "list.append" (LM X.K rAppendT) := by
  intro pins s σ H x xs v us Q I rx rxs ⟨t, ts, S, Q0, rt, rts, hs, q, im⟩
  match t, ts, q with
  | .ref p, [y], ⟨zs, e, hl, q⟩ =>
    cases rt
    obtain ⟨w, rfl, rw'⟩ := rts.one
    obtain ⟨ys, g1, g2⟩ := hs p _ e
    obtain ⟨e2, s2⟩ := hs.setL g1 (Reps.append g2 (.cons rw' .nil))
    exact mt_append pins s σ H _ _ v us Q I rx rxs ⟨p, ys, w, rfl, rfl, g1, by rw [← g2.length]; exact hl, im _ _ q _ _ e2 s2 .non⟩
def rExtendT (x : Wp.T) (ts : List Wp.T) (S : Sta) (Q : Wp.T → Sta → Prop) : Prop := match x, ts with
  | .ref p, [.ref p2] => ∃ xs, S p = some (.lst xs) ∧ ∃ ys, S p2 = some (.lst ys) ∧ xs.length + ys.length ≤ sizeLine ∧ Q .non (upS S p (.lst (xs ++ ys)))
  | _, _ => False
theorem m_extend : MtR X "list.extend" (LM X.K rExtendT) := by
  intro pins s σ H x xs v us Q I rx rxs ⟨t, ts, S, Q0, rt, rts, hs, q, im⟩
  match t, ts, q with
  | .ref p, [.ref p2], ⟨zs, e, ws, e', hl, q⟩ =>
    cases rt
    obtain ⟨w, rfl, rw'⟩ := rts.one
    cases rw'
    obtain ⟨ys, g1, g2⟩ := hs p _ e
    obtain ⟨vs, g3, g4⟩ := hs p2 _ e'
    obtain ⟨e2, s2⟩ := hs.setL g1 (Reps.append g2 g4)
    exact mt_extend pins s σ H _ _ v us Q I rx rxs ⟨p, p2, ys, vs, rfl, rfl, g1, g3, by rw [← g2.length, ← g4.length]; exact hl, im _ _ q _ _ e2 s2 .non⟩
def rReverseT (x : Wp.T) (ts : List Wp.T) (S : Sta) (Q : Wp.T → Sta → Prop) : Prop := match x, ts with
  | .ref p, [] => ∃ xs, S p = some (.lst xs) ∧ Q .non (upS S p (.lst xs.reverse))
  | _, _ => False
theorem m_reverse : MtR X "list.reverse" (LM X.K rReverseT) := by
  intro pins s σ H x xs v us Q I rx rxs ⟨t, ts, S, Q0, rt, rts, hs, q, im⟩
  match t, ts, q with
  | .ref p, [], ⟨zs, e, q⟩ =>
    cases rt
    cases rts
    obtain ⟨ys, g1, g2⟩ := hs p _ e
    obtain ⟨e2, s2⟩ := hs.setL g1 g2.reverse
    exact mt_reverse pins s σ H _ _ v us Q I rx rxs ⟨p, ys, rfl, rfl, g1, im _ _ q _ _ e2 s2 .non⟩
/-- xs.index(x), x in it, flat -/
def rIndexT (x : Wp.T) (ts : List Wp.T) (S : Sta) (Q : Wp.T → Sta → Prop) : Prop := match x, ts with
  | .ref p, [y] => ∃ xs, S p = some (.lst xs) ∧ flatT y = true ∧ xs.all flatT = true ∧ ∃ (j : Nat) (z : Wp.T), xs[j]? = some z ∧ eqF z y = true ∧ (∀ (m : Nat) (z' : Wp.T), m < j → xs[m]? = some z' → eqF z' y = false) ∧ Q (.int (j : Nat)) S
  | _, _ => False
theorem m_index : MtR X "list.index" (LM X.K rIndexT) := by
  intro pins s σ H x xs v us Q I rx rxs ⟨t, ts, S, Q0, rt, rts, hs, q, im⟩
  match t, ts, q with
  | .ref p, [y], ⟨zs, e, f1, f2, j, z, ej, ez, hno, q⟩ =>
    cases rt
    obtain ⟨w, rfl, rw'⟩ := rts.one
    obtain ⟨ys, g1, g2⟩ := hs p _ e
    obtain ⟨zv, g3, g4⟩ := g2.get ej
    have fz : flatT z = true := List.all_eq_true.mp f2 z (List.mem_of_getElem? ej)
    refine mt_index pins s σ H _ _ v us Q I rx rxs ⟨p, ys, w, j, zv, rfl, rfl, .inl (.inl g1), flat_rep rw' f1, flats_rep g2 f2, g3, by rw [eqF_rep g4 rw' fz f1]; exact ez, fun m z' hm hz' => ?_, im _ _ q _ _ (Ext.refl H) hs (.int _)⟩
    obtain ⟨zt, g5, g6⟩ := g2.getV hz'
    rw [eqF_rep g6 rw' (List.all_eq_true.mp f2 zt (List.mem_of_getElem? g5)) f1]
    exact hno m zt hm g5
/-! ### sum of ints, ord, divmod -/
def rSumI (xs : List T) (S : Sta) (Q : T → Sta → Prop) : Prop := match xs with
  | [.ref p] => ∃ ns : List Int, S p = some (.lst (ns.map .int)) ∧ Q (.int ns.sum) S
  | _ => False
theorem c_sumI (hc : X.calm = true) : CallR X (.builtin "sum") (LC X.K rSumI) := by
  intro pins s σ H xs us Q I rx ⟨ts, S, Q0, r, hs, q, im⟩
  match ts, q with
  | [.ref p], ⟨ns, e, q⟩ =>
    obtain ⟨v, rfl, r1⟩ := r.one
    cases r1
    obtain ⟨ys, g1, g2⟩ := hs p _ e
    have ey := g2.intsV
    subst ey
    exact cr_sum hc pins s σ H _ us Q I rx ⟨p, ns, rfl, .inl (.inl g1), im _ _ q _ _ (Ext.refl H) hs (.int _)⟩
def rOrd (xs : List T) (S : Sta) (Q : T → Sta → Prop) : Prop := match xs with
  | [.str z] => z.length = 1 ∧ Q (.int (z.cps.getD 0 0 : Nat)) S
  | _ => False
theorem c_ord : CallR X (.builtin "ord") (LC X.K rOrd) := by
  intro pins s σ H xs us Q I rx ⟨ts, S, Q0, r, hs, q, im⟩
  match ts, q with
  | [.str z], q =>
    obtain ⟨v, rfl, r1⟩ := r.one
    cases r1
    exact call_ord pins s σ H _ us Q I rx ⟨z, rfl, q.1, im _ _ q.2 _ _ (Ext.refl H) hs (.int _)⟩
def rDivmod (xs : List T) (S : Sta) (Q : T → Sta → Prop) : Prop := match xs with
  | [.int i, .int j] => (0 < j ∧ j < 1073741824) ∧ Q (.tup [.int (i / j), .int (i % j)]) S
  | _ => False
theorem c_divmod : CallR X (.builtin "divmod") (LC X.K rDivmod) := by
  intro pins s σ H xs us Q I rx ⟨ts, S, Q0, r, hs, q, im⟩
  match ts, q with
  | [.int i, .int j], q =>
    obtain ⟨v, w, rfl, r1, r2⟩ := r.two
    cases r1
    cases r2
    exact call_divmod pins s σ H _ us Q I rx ⟨i, j, rfl, q.1, fun p hp => im _ _ q.2 _ _ (Ext.new hp) (hs.new hp _) (.tup (.inl (.inl upd_same)) (.cons (.int _) (.cons (.int _) .nil)))⟩
end
end Wp

set_option Elab.async false
set_option linter.all false
set_option maxRecDepth 100000
/-! lemmas for the reading's simplification -/
namespace Wp
open PySem PySem.Spec PyProof.Rows L2
theorem cmul_l {i j : Int} (h1 : -(2 ^ 64) < i) (h2 : i < 2 ^ 64) : CMul i j = True := eq_true (.inl ⟨h1, h2⟩)
theorem cmul_r {i j : Int} (h1 : -(2 ^ 64) < j) (h2 : j < 2 ^ 64) : CMul i j = True := eq_true (.inr ⟨h1, h2⟩)
theorem ex_some {α : Type} {a : α} {P : α → Prop} : (∃ v, some (some a) = some (some v) ∧ P v) = P a := by
  apply propext
  constructor
  · rintro ⟨v, e, h⟩; cases e; exact h
  · intro h; exact ⟨a, rfl, h⟩
theorem ex_some1 {α : Type} {a : α} {P : α → Prop} : (∃ v, some a = some v ∧ P v) = P a := by
  apply propext
  constructor
  · rintro ⟨v, e, h⟩; cases e; exact h
  · intro h; exact ⟨a, rfl, h⟩
theorem ex_eq {α : Type} {a : α} {P : α → Prop} : (∃ v, a = v ∧ P v) = P a := by
  apply propext
  constructor
  · rintro ⟨v, e, h⟩; cases e; exact h
  · intro h; exact ⟨a, rfl, h⟩
theorem cpow_lit {i j : Int} (h1 : 0 ≤ j) (h2 : j ≤ 1000000) (h3 : i.natAbs < 2 ^ 64) : CPow i j = True := eq_true ⟨h1, h2, h3⟩
theorem size_le {n : Nat} (h : n ≤ 10000000) : (n ≤ sizeLine) = True := eq_true (Nat.le_trans h (by rw [sizeLine_eq]; decide))
theorem size_lt {n : Nat} (h : n < 10000000) : (n < sizeLine) = True := eq_true (Nat.lt_of_lt_of_le h (by rw [sizeLine_eq]; decide))
theorem itemsT_ref {S : Sta} {p : Addr} {ts : List T} (h : S p = some (.lst ts)) : itemsT S (.ref p) = some ts := by simp only [itemsT, h]
theorem tyT_ref {S : Sta} {p : Addr} {ts : List T} (h : S p = some (.lst ts)) : tyT S (.ref p) = some "list" := by simp only [tyT, h]
theorem atI_zero {α : Type} {x : α} {xs : List α} : atI (x :: xs) 0 = some x := atI_nat (j := 0) rfl
theorem atI_lit {α : Type} {xs : List α} {j : Nat} : atI xs ((j : Nat) : Int) = xs[j]? := by
  unfold atI ixN
  by_cases h : j < xs.length
  · rw [if_pos (by omega), if_pos (by omega)]
    simp
  · rw [if_pos (by omega), if_neg (by omega)]
    simp
    omega
theorem atI_0 {α : Type} {xs : List α} : atI xs 0 = xs[0]? := atI_lit (j := 0)
theorem atI_1 {α : Type} {xs : List α} : atI xs 1 = xs[1]? := atI_lit (j := 1)
theorem atI_2 {α : Type} {xs : List α} : atI xs 2 = xs[2]? := atI_lit (j := 2)
theorem atI_3 {α : Type} {xs : List α} : atI xs 3 = xs[3]? := atI_lit (j := 3)
theorem atI_4 {α : Type} {xs : List α} : atI xs 4 = xs[4]? := atI_lit (j := 4)
theorem atI_5 {α : Type} {xs : List α} : atI xs 5 = xs[5]? := atI_lit (j := 5)
theorem atI_6 {α : Type} {xs : List α} : atI xs 6 = xs[6]? := atI_lit (j := 6)
/-- an item at an open place in bounds -/
theorem atI_in {α : Type} {xs : List α} {i : Int} (h0 : 0 ≤ i) (h1 : i < xs.length) : ∃ x, atI xs i = some x ∧ x ∈ xs := by
  obtain ⟨n, rfl⟩ : ∃ n : Nat, i = n := ⟨i.toNat, by omega⟩
  rw [atI_lit]
  have h : n < xs.length := by omega
  exact ⟨xs[n], List.getElem?_eq_getElem h, List.getElem_mem h⟩
theorem ixN_lit {n j : Nat} (h : j < n) : ixN n ((j : Nat) : Int) = some j := by
  unfold ixN
  rw [if_pos (by omega), if_pos (by omega)]
  simp
theorem ixN_0 {n : Nat} : ixN (n + 1) 0 = some 0 := ixN_lit (j := 0) (by omega)
theorem ixN_1 {n : Nat} : ixN (n + 2) 1 = some 1 := ixN_lit (j := 1) (by omega)
theorem ixN_2 {n : Nat} : ixN (n + 3) 2 = some 2 := ixN_lit (j := 2) (by omega)
theorem rangeT_mem {n : Nat} {t : T} (h : t ∈ rangeT 0 n) : ∃ i : Nat, i < n ∧ t = .int i := by
  unfold rangeT at h
  obtain ⟨i, hi, e⟩ := List.mem_map.mp h
  exact ⟨i, List.mem_range.mp hi, by rw [← e, Int.zero_add]⟩
theorem eqvAll_ints : ∀ (ns ms : List Int), PyData.eqvAll (ns.map PyData.int) (ms.map PyData.int) = (ns == ms)
  | [], [] => by simp only [List.map_nil, PyData.eqvAll]; rfl
  | [], m :: ms => by simp only [List.map_nil, List.map_cons, PyData.eqvAll]; rfl
  | n :: ns, [] => by simp only [List.map_nil, List.map_cons, PyData.eqvAll]; rfl
  | n :: ns, m :: ms => by
    simp only [List.map_cons, PyData.eqvAll, PyData.eqv, eqvAll_ints ns ms]
    rfl
theorem toDs_ints : ∀ ns : List Int, toDs (ns.map T.int) = some (ns.map PyData.int)
  | [] => by simp only [List.map_nil, toDs]
  | n :: ns => by simp only [List.map_cons, toDs, toD, toDs_ints ns]
theorem layAll_ints : ∀ ns : List Int, PyData.canLayAll0 (ns.map PyData.int) = true
  | [] => by simp only [List.map_nil, PyData.canLayAll0]
  | n :: ns => by simp only [List.map_cons, PyData.canLayAll0, PyData.canLay0, layAll_ints ns, Bool.and_self]
theorem depAll_ints : ∀ ns : List Int, PyData.depthAll (ns.map PyData.int) ≤ 1
  | [] => by simp only [List.map_nil, PyData.depthAll]; omega
  | n :: ns => by
    have := depAll_ints ns
    simp only [List.map_cons, PyData.depthAll, PyData.depth]
    omega
theorem shaped_ints (ns : List Int) : SeqAt.shaped (.list (ns.map PyData.int)) = true := by
  have h := depAll_ints ns
  unfold SeqAt.shaped
  rw [Bool.and_eq_true]
  refine ⟨by simp only [PyData.canLay0]; exact layAll_ints ns, decide_eq_true ?_⟩
  simp only [PyData.depth]
  omega
theorem shaped_int (i : Int) : SeqAt.shaped (.int i) = true := by
  unfold SeqAt.shaped
  rw [Bool.and_eq_true]
  refine ⟨by simp only [PyData.canLay0], decide_eq_true ?_⟩
  simp only [PyData.depth]
  omega
theorem shaped_bool (i : Bool) : SeqAt.shaped (.bool i) = true := by
  unfold SeqAt.shaped
  rw [Bool.and_eq_true]
  refine ⟨by simp only [PyData.canLay0], decide_eq_true ?_⟩
  simp only [PyData.depth]
  omega
theorem shaped_none : SeqAt.shaped .none = true := by
  unfold SeqAt.shaped
  rw [Bool.and_eq_true]
  refine ⟨by simp only [PyData.canLay0], decide_eq_true ?_⟩
  simp only [PyData.depth]
  omega
theorem shaped_str {x : Str} (h : PyData.strOk x = true) : SeqAt.shaped (.str x) = true := by
  unfold SeqAt.shaped
  rw [Bool.and_eq_true]
  refine ⟨by simp only [PyData.canLay0]; exact h, decide_eq_true ?_⟩
  simp only [PyData.depth]
  omega
/-- == of scalars -/
def scalT : T → Bool
  | .non => true
  | .bl _ => true
  | .int _ => true
  | .str x => PyData.strOk x
  | _ => false
theorem rEq_scal {neg : Bool} {x y : T} {S : Sta} {Q : T → Sta → Prop} (hx : scalT x = true) (hy : scalT y = true) (q : Q (.bl (neg != eqF x y)) S) : rEq neg x y S Q := by
  cases x with
  | non => cases y with
    | non => exact ⟨_, rfl, _, rfl, shaped_none, shaped_none, by simpa only [PyData.eqv, eqF] using q⟩
    | bl b => exact ⟨_, rfl, _, rfl, shaped_none, shaped_bool b, by simpa only [PyData.eqv, eqF] using q⟩
    | int b => exact ⟨_, rfl, _, rfl, shaped_none, shaped_int b, by simpa only [PyData.eqv, eqF] using q⟩
    | str b => exact ⟨_, rfl, _, rfl, shaped_none, shaped_str hy, by simpa only [PyData.eqv, eqF] using q⟩
    | _ => cases hy
  | bl a => cases y with
    | non => exact ⟨_, rfl, _, rfl, shaped_bool a, shaped_none, by simpa only [PyData.eqv, eqF] using q⟩
    | bl b => exact ⟨_, rfl, _, rfl, shaped_bool a, shaped_bool b, by simpa only [PyData.eqv, eqF] using q⟩
    | int b => exact ⟨_, rfl, _, rfl, shaped_bool a, shaped_int b, by simpa only [PyData.eqv, eqF] using q⟩
    | str b => exact ⟨_, rfl, _, rfl, shaped_bool a, shaped_str hy, by simpa only [PyData.eqv, eqF] using q⟩
    | _ => cases hy
  | int a => cases y with
    | non => exact ⟨_, rfl, _, rfl, shaped_int a, shaped_none, by simpa only [PyData.eqv, eqF] using q⟩
    | bl b => exact ⟨_, rfl, _, rfl, shaped_int a, shaped_bool b, by simpa only [PyData.eqv, eqF] using q⟩
    | int b => exact ⟨_, rfl, _, rfl, shaped_int a, shaped_int b, by simpa only [PyData.eqv, eqF] using q⟩
    | str b => exact ⟨_, rfl, _, rfl, shaped_int a, shaped_str hy, by simpa only [PyData.eqv, eqF] using q⟩
    | _ => cases hy
  | str a => cases y with
    | non => exact ⟨_, rfl, _, rfl, shaped_str hx, shaped_none, by simpa only [PyData.eqv, eqF] using q⟩
    | bl b => exact ⟨_, rfl, _, rfl, shaped_str hx, shaped_bool b, by simpa only [PyData.eqv, eqF] using q⟩
    | int b => exact ⟨_, rfl, _, rfl, shaped_str hx, shaped_int b, by simpa only [PyData.eqv, eqF] using q⟩
    | str b => exact ⟨_, rfl, _, rfl, shaped_str hx, shaped_str hy, by simpa only [PyData.eqv, eqF] using q⟩
    | _ => cases hy
  | _ => cases hx
theorem rEq_ints {neg : Bool} {a b : T} {S : Sta} {ns ms : List Int} {Q : T → Sta → Prop} (ha : dd S a = some (.list (ns.map .int))) (hb : dd S b = some (.list (ms.map .int))) (q : Q (.bl (neg != (ns == ms))) S) : rEq neg a b S Q :=
  ⟨_, ha, _, hb, shaped_ints ns, shaped_ints ms, by simpa only [PyData.eqv, eqvAll_ints] using q⟩
theorem dd_ints {S : Sta} {p : Addr} {ns : List Int} (h : S p = some (.lst (ns.map T.int))) : dd S (.ref p) = some (.list (ns.map .int)) := by
  simp only [dd, h, toDs_ints, Option.map_some]
theorem eqF_int {i j : Int} : eqF (.int i) (.int j) = (i == j) := rfl
theorem rEq_int {neg : Bool} {i j : Int} {S : Sta} {Q : T → Sta → Prop} : rEq neg (.int i) (.int j) S Q = Q (.bl (neg != (i == j))) S := by
  apply propext
  constructor
  · rintro ⟨d, e1, e, e2, _, _, q⟩
    cases e1
    cases e2
    simpa only [PyData.eqv] using q
  · intro q
    exact rEq_scal rfl rfl q
theorem ex_lst {a : List T} {P : List T → Prop} : (∃ v, some (O.lst a) = some (O.lst v) ∧ P v) = P a := by
  apply propext
  constructor
  · rintro ⟨v, e, h⟩; cases e; exact h
  · intro h; exact ⟨a, rfl, h⟩
theorem ex_lst0 {a : List T} : (∃ v, some (O.lst a) = some (O.lst v)) = True := eq_true ⟨a, rfl⟩
end Wp
namespace Wp
open PySem PySem.Spec PyProof.Rows L2
/-- a comprehension whose elements change nothing -/
theorem compW_pure {te : WE} {i : Nat} {σ : Sl} {D : Addr} {Q : T → Sta → Prop} {stb : Sta → Prop} (f : T → T) (hst : ∀ S, stb S) : ∀ (xs acc : List T) (S : Sta),
    (∀ x ∈ xs, ∀ (acc' : List T) (R : T → Sta → Prop), R (f x) (upS S D (.lst acc')) → te (σ.set i (some x)) (upS S D (.lst acc')) R) → acc.length + xs.length ≤ 1000000 → Q (.ref D) (upS S D (.lst (acc ++ xs.map f))) → compW (gNm i) wYes te stb σ D Q xs (upS S D (.lst acc))
  | [], acc, S, _, _, q => by
    rw [List.map_nil, List.append_nil] at q
    exact ⟨hst _, q⟩
  | x :: xs, acc, S, h, hl, q => by
    refine ⟨hst _, h x List.mem_cons_self acc _ ?_⟩
    refine ⟨acc, upS_same, ?_, ?_⟩
    · rw [List.length_cons] at hl
      exact Nat.lt_of_lt_of_le (show acc.length < 10000000 by omega) (by rw [sizeLine_eq]; decide)
    · rw [upS_upS]
      refine compW_pure f hst xs (acc ++ [f x]) S (fun y hy acc' R r => h y (List.mem_cons_of_mem _ hy) acc' R r) ?_ ?_
      · rw [List.length_append, List.length_cons, List.length_nil]
        rw [List.length_cons] at hl
        omega
      · rw [List.append_assoc]
        exact q
theorem rangeT_len {n : Nat} : (rangeT 0 n).length = n := by unfold rangeT; rw [List.length_map, List.length_range]
theorem rangeT_map {n : Nat} (f : T → T) : (rangeT 0 n).map f = (List.range n).map fun (j : Nat) => f (.int j) := by
  unfold rangeT
  rw [List.map_map]
  refine List.map_congr_left fun j _ => ?_
  show f (.int (0 + (j : Int))) = _
  rw [Int.zero_add]
end Wp
namespace Wp
theorem isB_0 : isB "NoneType" "bool" = false := by decide
theorem isB_1 : isB "NoneType" "int" = false := by decide
theorem isB_2 : isB "NoneType" "str" = false := by decide
theorem isB_3 : isB "NoneType" "tuple" = false := by decide
theorem isB_4 : isB "NoneType" "list" = false := by decide
theorem isB_5 : isB "NoneType" "dict" = false := by decide
theorem isB_6 : isB "bool" "bool" = true := by decide
theorem isB_7 : isB "bool" "int" = true := by decide
theorem isB_8 : isB "bool" "str" = false := by decide
theorem isB_9 : isB "bool" "tuple" = false := by decide
theorem isB_10 : isB "bool" "list" = false := by decide
theorem isB_11 : isB "bool" "dict" = false := by decide
theorem isB_12 : isB "int" "bool" = false := by decide
theorem isB_13 : isB "int" "int" = true := by decide
theorem isB_14 : isB "int" "str" = false := by decide
theorem isB_15 : isB "int" "tuple" = false := by decide
theorem isB_16 : isB "int" "list" = false := by decide
theorem isB_17 : isB "int" "dict" = false := by decide
theorem isB_18 : isB "str" "bool" = false := by decide
theorem isB_19 : isB "str" "int" = false := by decide
theorem isB_20 : isB "str" "str" = true := by decide
theorem isB_21 : isB "str" "tuple" = false := by decide
theorem isB_22 : isB "str" "list" = false := by decide
theorem isB_23 : isB "str" "dict" = false := by decide
theorem isB_24 : isB "tuple" "bool" = false := by decide
theorem isB_25 : isB "tuple" "int" = false := by decide
theorem isB_26 : isB "tuple" "str" = false := by decide
theorem isB_27 : isB "tuple" "tuple" = true := by decide
theorem isB_28 : isB "tuple" "list" = false := by decide
theorem isB_29 : isB "tuple" "dict" = false := by decide
theorem isB_30 : isB "list" "bool" = false := by decide
theorem isB_31 : isB "list" "int" = false := by decide
theorem isB_32 : isB "list" "str" = false := by decide
theorem isB_33 : isB "list" "tuple" = false := by decide
theorem isB_34 : isB "list" "list" = true := by decide
theorem isB_35 : isB "list" "dict" = false := by decide
end Wp
namespace Wp
theorem goS_i {f : Sl → Sta → Prop} {σ : Sl} {S : Sta} (h : f σ S) : goS f σ S := h
end Wp
namespace Wp
theorem rangeT_ints {n : Nat} : rangeT 0 n = ((List.range n).map fun (j : Nat) => (j : Int)).map T.int := by
  unfold rangeT
  rw [List.map_map]
  refine List.map_congr_left fun j _ => ?_
  show T.int (0 + (j : Int)) = _
  rw [Int.zero_add]
  rfl
end Wp

set_option Elab.async false
set_option linter.all false
set_option maxRecDepth 100000
set_option maxHeartbeats 1000000
/-! all, any of a generator expression whose element is any expression -/
namespace Wp
open PySem PySem.Spec PyProof.Rows L2 GxR
/-- the context of a generator expression's frame -/
abbrev gblk (X : Cx) (A : Around) (s : Shared) (H : Hp) (cenv : Env) (fp : List Addr) (pn : List (Addr × Obj)) : Cx :=
  { X with A := A, s_0 := s, H_0 := H, env := cenv, outer := X.stack, stack := cenv :: X.stack, ex := fp, fn := fun _ => false, pn := pn, xe := fun _ _ => False }
theorem ne_of_none_left {H : Hp} {a b : Addr} {u : HO} (h : H a = none) (h' : H b = some u) : a ≠ b := by
  intro e; subst e; rw [h] at h'; cases h'
section
variable {X : Cx} {pins : List (Addr × Obj)} {σ : L2.St} {H : Hp} {s : Shared}
theorem inv_same {s' : Shared} (I : Inv X pins σ H s) (h1 : s'.heap = s.heap) (h2 : s'.os = s.os) (h3 : AllBare s'.gens) : Inv X pins σ H s' := by
  obtain ⟨hh, g, d, t, o⟩ := s'
  have e1 : hh = s.heap := h1
  have e2 : o = s.os := h2
  subst e1 e2
  exact ⟨I.ok, I.os, h3, I.base, I.loc, I.cell, I.free, I.freeC, I.pin, I.hok, I.len⟩
theorem gen_start {scope : Scope} {own : List (Str × Nat)} {fp : List Addr} {code : Value} {A : Around} {a : Addr} {go : Obj} {h5 : Heap} {gens5 : Array GenState} {tk : Nat} {m : Str → Option Value} (I : Inv X pins σ H s) (ok : BlkOk X.N X.env.scope scope own) (hN : X.N.Nodup)
    (hfp : ∀ b ∈ fp, FpOk X pins H b ∧ b < s.heap.objs.size) (nc : ∀ y ∈ scope.names, y.2 ≠ .cell) (hA : A.handled = X.A.handled)
    (hF : A.frames = some (genEnv scope (cloFrom X.env.cells scope.names []) s.heap.objs.size code builtinsNs X.env :: X.stack))
    (hn : h5.Ns s.heap.objs.size m) (hk : ∀ b o, s.heap.get? b = some o → h5.get? b = some o) (ha : h5.get? a = some go) (haC : s.heap.objs.size < a) (hgo : ∀ v, go.data ≠ .cell v) (hb : AllBare gens5) :
    Inv (gblk X A s H (genEnv scope (cloFrom X.env.cells scope.names []) s.heap.objs.size code builtinsNs X.env) fp [(a, go)]) [] (L2.wipe σ (own.map (·.2))) H { s with heap := h5, gens := gens5, toks := tk } := by
  have hfree : ∀ y ∈ scope.names, y.2 = .free → ∃ c, X.env.cells.lookup y.1 = some c := fun y hy e => by
    rcases ok.free y hy e with k | k
    · exact I.ok.has _ (.inl k)
    · exact I.ok.has _ (.inr k)
  have cm : ∀ {y c}, (y, c) ∈ cloFrom X.env.cells scope.names [] → X.env.cells.lookup y = some c ∧ c < s.heap.objs.size := fun {y c} hm => by
    rcases cloFrom_mem hm with hm | ⟨h1, rfl⟩
    · cases hm
    · obtain ⟨c, hc⟩ := hfree _ h1 rfl
      rw [hc]
      obtain ⟨w, z⟩ := I.cell _ _ hc
      exact ⟨rfl, z.lt⟩
  have mem : ∀ {y c}, (cloFrom X.env.cells scope.names []).lookup y = some c → X.env.cells.lookup y = some c ∧ c < s.heap.objs.size := fun {y c} e => cm (PySem.mem_of_lookup e)
  have look : ∀ {y}, scope.names.lookup y = some .free → ∃ c, (cloFrom X.env.cells scope.names []).lookup y = some c ∧ X.env.cells.lookup y = some c := fun {y} hl => by
    have hy : (y, NameKind.free) ∈ scope.names := PySem.mem_of_lookup hl
    obtain ⟨c', e'⟩ := mem_lookup (cloFrom_has (cells := X.env.cells) (acc := []) hy)
    exact ⟨c', e', (mem e').1⟩
  have nofr : ∀ b, s.heap.objs.size ≤ b → b ∉ frs X.stack := fun b hb hm => by
    rcases List.mem_cons.mp (I.stkSub b hm) with z | z
    · have := I.lt
      rw [z] at hb
      exact absurd (Nat.lt_of_lt_of_le this hb) (Nat.lt_irrefl _)
    · exact I.nofs hb z
  refine ⟨⟨I.ok.mod, ok.kind, I.ok.glob, rfl, Nat.le_refl _, fun y z c e1 e2 => I.ok.inj y z c (mem e1).1 (mem e2).1, fun y hy => ?_, fun y c z e => (by cases z), fun h => hA.trans (I.ok.hd h), hF, .inr ⟨rfl, rfl⟩, fun b hb => ⟨Nat.ne_of_lt (hfp b hb).2, fun y c e z => ?_⟩,
      I.bs, Nat.le_trans I.ok.bsz I.sz, fun b o e hb => ?_, fun b hb z => ?_, I.stack, I.stkFree⟩,
    rfl, hb, Un.kept hk, ⟨m, hn, fun i y av e1 e2 e3 => ?_⟩, fun y c e => ?_, I.hok.fresh (Nat.le_refl _), fun y c e => I.freeC y c (mem e).1, fun p hp => ?_, I.hok.kept hk, by rw [wipe_length]; exact I.len⟩
  · rcases hy with hy | hy
    · exact absurd rfl (nc _ (PySem.mem_of_lookup (show scope.names.lookup y = some .cell from hy)))
    · obtain ⟨c, h1, _⟩ := look hy
      exact ⟨c, h1⟩
  · exact (hfp b hb).1.2.2.2.2.1 y c (mem e).1 z
  · rcases (hfp b hb).1.2.2.2.1 with z | z
    · exact I.ok.noex b o e z
    · exact absurd (Nat.lt_of_lt_of_le (Heap.lt_size e) (Nat.le_trans I.ok.bsz z)) (Nat.lt_irrefl _)
  · rcases List.mem_cons.mp (I.stkSub b z) with z | z
    · exact (hfp b hb).1.2.1 z
    · exact (hfp b hb).1.2.2.1 z
  · obtain ⟨e2, hne⟩ := wipe_some e2
    have hfr : scope.names.lookup y = some .free := by
      have no : ∀ k, scope.names.lookup y = some k → ¬ (k = .local ∨ k = .cell) := fun k hk hh => by
        rcases ok.own _ (PySem.mem_of_lookup hk) hh with e' | e'
        · obtain ⟨p, hp, hpy⟩ := List.mem_map.mp e'
          have e3 := ok.ix p hp
          have : p.1 = y := hpy
          rw [this] at e3
          exact hne (List.mem_map.mpr ⟨p, hp, nodup_ix hN e3 e1⟩)
        · exact e' (List.mem_of_getElem? e1)
      rcases (show Vis scope y from e3) with e3 | e3 | e3
      · exact absurd (.inl rfl) (no _ e3)
      · exact absurd (.inr rfl) (no _ e3)
      · exact e3
    obtain ⟨m0, _, hl⟩ := I.loc
    have hvis : Vis X.env.scope y := (ok.free _ (PySem.mem_of_lookup hfr) rfl).elim (fun k => .inr (.inl k)) (fun k => .inr (.inr k))
    obtain ⟨w, r, q⟩ := hl i y av e1 e2 hvis
    refine ⟨w, r, .inr ⟨.inr hfr, ?_⟩⟩
    obtain ⟨c, h1, h2⟩ := look hfr
    rcases q with ⟨k, _⟩ | ⟨_, c', e', z⟩
    · have k : X.env.scope.names.lookup y = some .local := k
      rcases ok.free _ (PySem.mem_of_lookup hfr) rfl with k' | k' <;> rw [show X.env.scope.names.lookup y = _ from k'] at k <;> cases k
    · rw [h2] at e'; cases e'
      exact ⟨c, h1, z.keeps hk⟩
  · obtain ⟨w, z⟩ := I.cell y c (mem e).1
    exact ⟨w, z.keeps hk⟩
  · have e : p = (a, go) := by simpa using hp
    subst e
    exact ⟨ha, I.hok.fresh (Nat.le_of_lt haC), Nat.ne_of_gt haC, nofr _ (Nat.le_of_lt haC), hgo⟩
end
/-! ### the generator's own loop -/
def gR (X : Cx) (σ : L2.St) (g : Nat) (Q : VK) (sa : Bool) : GenEnd := fun n s₀ r s₁ => r = .ok .next ∧ (g < s₁.gens.size ∧ ∃ H', Inv X [] σ H' s₁ ∧ Q (.bl (!sa)) H')
def gY (X : Cx) (g : Nat) (Q : VK) (sa : Bool) : Protocol := fun n s₀ v s kap => ∃ b : Bool, v = .bool b ∧ g < s.gens.size ∧ ∃ H' σ', Inv X [] σ' H' s ∧ (b = sa → Q (.bl sa) H') ∧
  (b ≠ sa → ∀ s'' : Shared, s''.heap = s.heap → s''.os = s.os → AllBare s''.gens → g < s''.gens.size → kap (.send .none) s'')
/-- a turn of the reading -/
def TurnG (J : It) (gT : TG) (te : TE) (vs : List Nat) (σ : L2.St) (Q : VK) (sa : Bool) (W : Nat → Nat → Hp → Prop) : Prop := ∀ i m H, W i m H →
  (J.stop i H ∧ Q (.bl (!sa)) H) ∨ (J.go i H ∧ ∃ Nx : Hp → Prop, (∀ H', Nx H' → ∃ m', m' < m ∧ W (i + 1) m' H') ∧ ∀ x H', J.yld i H x H' → gT x (L2.wipe σ vs) H' fun σ2 H2 => L2.wipe σ2 vs = L2.wipe σ vs ∧
    te σ2 H2 fun y H4 => ∃ b : Bool, y = .bl b ∧ (b = sa → Q (.bl sa) H4) ∧ (b ≠ sa → Nx H4))
theorem seg_gl {X : Cx} {A₁ : Around} {tg iter elt : Expr} {scope : Scope} {gpos : Pos} {it : Addr} {g : Nat} {fp : List Addr} {tn : Nat → Heap → Prop} {J : It} {W : Nat → Nat → Hp → Prop} {vs : List Nat} {σ : L2.St} {Q : VK} {sa : Bool} {gT : TG} {te : TE}
    (hA : X.A = A₁.over (.compLoop (.GeneratorExp elt [⟨tg, iter, [], 0⟩] scope gpos) 0 (.ref it) .none X.env) []) (hex : X.ex = fp) (hxe : X.xe = fun _ _ => False) (hc : X.calm = true) (T : Turn X.prog X.w X.K tg J fp it tn) (hco : X.env.scope.isCoroutine = false) (pg : PG X tg gT) (pe : PE X elt te)
    (nop : ∀ b ∈ fp, ∀ p ∈ X.pn, p.1 ≠ b)
    (turn : TurnG J gT te vs σ Q sa W) :
    ∀ (n m i : Nat) (s₀ s : Shared) (H' : Hp), m < n → Inv X [] (L2.wipe σ vs) H' s → tn i s.heap → (∀ b ∈ fp, H' b = none) → W i m H' → g < s.gens.size →
      Seg (model X.prog X.w) A₁ (gR X (L2.wipe σ vs) g Q sa) (gY X g Q sa) n s₀ (.compLoop (.GeneratorExp elt [⟨tg, iter, [], 0⟩] scope gpos) 0 (.ref it) .none X.env)
        ((model X.prog X.w).den (.compLoop (.GeneratorExp elt [⟨tg, iter, [], 0⟩] scope gpos) 0 (.ref it) .none X.env)) [] s := by
  have stat : ∀ {σ' : L2.St} {H' : Hp} {s' : Shared}, Inv X [] σ' H' s' → (∀ b ∈ fp, H' b = none) → ∀ b ∈ fp, FpOk X [] H' b := fun {σ' H' s'} I' hn b hb =>
    ⟨hn b hb, (I'.ok.exf b (by rw [hex]; exact hb)).1, I'.ok.exfs b (by rw [hex]; exact hb), .inl (by rw [hex]; exact hb), fun x c e => (I'.ok.exf b (by rw [hex]; exact hb)).2 x c e, fun p hp => nop b hb p (by simpa using hp)⟩
  intro n
  induction n with
  | zero => intro m i s₀ s H' hm; exact absurd hm (Nat.not_lt_zero _)
  | succ n ih =>
    intro m i s₀ s H5 hm I5 st5 n5 w5 hg
    show Seg _ A₁ _ _ (n + 1) s₀ _ ((compTurn (.GeneratorExp elt [⟨tg, iter, [], 0⟩] scope gpos) 0 (.ref it) .none X.env).onRaise (leaving X.env)) [] s
    rw [compTurn_gen, Sem.onRaise_eq_wrap]
    refine seg_bind_wrap (wpAny_standAt ?_)
    refine seg_bind_wrap ?_
    rw [← hA]
    rcases turn i m H5 w5 with ⟨stop, qq⟩ | ⟨go, Nx, hNx, step⟩
    · refine GenW.wpAny_gsz hg (thnF (T.done X rfl rfl rfl hc i [] s _ H5 (fun _ _ => False) I5 (stat I5 n5) st5 stop) fun r s6 ⟨hr, I6⟩ g6 => ?_)
      subst hr
      exact seg_end (.ok .next) ⟨rfl, g6, H5, I6, qq⟩
    · refine GenW.wpAny_gsz hg (thnF (T.item X rfl rfl rfl hc i [] s _ H5 (fun _ _ => False) I5 (stat I5 n5) st5 go) fun r s6 ⟨u, hr, h6⟩ g6 => ?_)
      subst hr
      refine seg_bind_wrap ?_
      rw [← hA]
      refine GenW.wpAny_gsz g6 (thnF h6 fun _ s7 ⟨x, H7, I7, r7, y7, st7, n7⟩ g7 => ?_)
      have I7' := I7.pinned (stat I7 n7) (T.obj _ _ st7)
      refine seg_bind_wrap ?_
      rw [← hA]
      have pg7 := pg.run _ s7 _ H7 x u _ I7' r7 (step x H7 y7)
      have pe7 := pe.run
      rw [hxe] at pg7 pe7
      refine GenW.wpAny_gsz g7 (thnF pg7 fun _ s8 ⟨σ8, H8, I8, hw8, q8⟩ g8 => ?_)
      refine seg_bind_wrap ?_
      simp only [List.forIn_nil]
      refine wpAny_pure ?_
      simp only [if_true]
      have hy : ∀ v, yieldOut X.env v = yieldValue v := fun v => by simp only [yieldOut, hco, Bool.false_eq_true, if_false]
      simp only [hy]
      rw [Sem.bind_eq_wrap', Sem.bind_eq_wrap', Sem.wrap_wrap, Sem.wrap_wrap]
      refine seg_wrap ?_
      rw [← hA]
      refine GenW.wpAny_gsz g8 (thnF (pe7 _ s8 σ8 H8 _ I8 q8) fun y s9 ⟨yv, H9, I9, r9, b, eb, q1, q2⟩ g9 => ?_)
      subst eb
      have ey : y = Value.bool b := r9
      subst ey
      refine seg_at (seg_yield rfl rfl rfl ⟨b, rfl, g9, H9, σ8, I9.unpinned, q1, fun hb s'' e1 e2 e3 e4 => ?_⟩)
      obtain ⟨m', hm', w'⟩ := hNx H9 (q2 hb)
      have pin' : ∀ b ∈ fp, ∀ o, s7.heap.get? b = some o → s9.heap.get? b = some o ∧ H9 b = none := fun b hb o e =>
        let z := I9.pin (b, o) (List.mem_append_right _ (List.mem_append_right _ (mem_pinsAt hb e)))
        ⟨z.1, z.2.1⟩
      have hl : (L2.wipe σ vs).length = σ8.length := by rw [← hw8, wipe_length]
      have I10 : Inv X [] (L2.wipe σ vs) H9 s'' := inv_same ((I9.unpinned (pins := [])).weak hl (fun j v e => by rw [← hw8] at e; exact (wipe_some e).1)) e1 e2 e3
      refine seg_again rfl (ih m' (i + 1) s'' s'' H9 (by omega) I10 (T.keep _ _ _ st7 fun b hb o e => by rw [e1]; exact (pin' b hb o e).1) (fun b hb => ?_) w' e4)
      obtain ⟨o, e, _⟩ := T.obj _ _ st7 b hb
      exact (pin' b hb o e).2
/-! ### woken by pyNext; the consumers -/
def GReady (P : Program) (w : World) (A₁ : Around) (R : GenEnd) (Y : Protocol) (a : Addr) (g n : Nat) (s : Shared) : Prop := s.heap.IsGen a g ∧ s.heap.NoLimit ∧ AllBare s.gens ∧ ∃ gs, s.gens[g]? = some gs ∧
  ∀ s'' : Shared, s''.heap = s.heap → s''.os = s.os → AllBare s''.gens → g < s''.gens.size → gs.Goes (model P w) A₁ R Y n (.send .none) s''
section
variable {X : Cx} {A : Around} {σb : L2.St} {g : Nat} {a : Addr} {go : Obj} {Q : VK} {sa : Bool}
theorem next_g {n : Nat} {s : Shared} {E : Value → Shared → Prop} {Qn : Option Value → Shared → Prop} (hh : A.handled = none) (hroom : A.depth < recursionLimit) (hpn : X.pn = [(a, go)]) (hgo : ∃ nm qn, go.cls = .type "generator" ∧ go.data = .fields #[.int g 0, nm, qn] ∧ go.slots = #[])
    (hr : GReady X.prog X.w A.in1 (gR X σb g Q sa) (gY X g Q sa) a g n s)
    (h1 : ∀ b s' n', b ≠ sa → n = n' + 1 → GReady X.prog X.w A.in1 (gR X σb g Q sa) (gY X g Q sa) a g n' s' → Qn (some (.bool b)) s')
    (h2 : ∀ s' H' σ', Inv X [] σ' H' s' → Q (.bl sa) H' → Qn (some (.bool sa)) s') (h3 : ∀ s' H' σ', Inv X [] σ' H' s' → Q (.bl (!sa)) H' → Qn none s') : wpAny (model X.prog X.w) A (pyNext (.ref a)) Qn E s := by
  obtain ⟨hg, hl, hb, gs, hgs, hgo2⟩ := hr
  have hgl : g < s.gens.size := (Array.getElem?_eq_some_iff.mp hgs).1
  refine wpAny_pyNext_genexpQ (P := fun n s₀ s₁ => g < s₁.gens.size ∧ ∃ H', Inv X [] σb H' s₁ ∧ Q (.bl (!sa)) H') hh hl hroom hg hgs (hgo2 _ rfl rfl (allBare_setGen hb rfl) (by rw [GenW.setGen_size]; exact hgl)) (fun v s₁ gs' hbare hv => ?_) (fun s₁ hp h' hk => ?_)
  · obtain ⟨b, rfl, hg1, H', σ', I, q1, q2⟩ := hv
    by_cases e : b = sa
    · subst e
      exact h2 _ H' σ' (inv_same I rfl rfl (allBare_setGen I.bare hbare)) (q1 rfl)
    · cases n with
      | zero => exact (q2 e s₁ rfl rfl I.bare hg1 : False).elim
      | succ m =>
        obtain ⟨nm, qn, z1, z2, z3⟩ := hgo
        refine h1 b _ m e rfl ⟨⟨go, nm, qn, (I.pin (a, go) (by rw [hpn]; simp)).1, z1, z2, z3⟩, I.nolimit, allBare_setGen I.bare hbare, gs', setGen_at hg1, fun s'' e1 e2 e3 e4 => q2 e s'' e1 e2 e3 e4⟩
  · obtain ⟨hg1, H', I, q⟩ := hp
    exact h3 _ H' σb (inv_same (I.kept (t' := s₁.toks) hk) rfl rfl (allBare_setGen I.bare rfl)) q
variable {R : Result → Shared → Prop}
theorem all_g (hh : A.handled = none) (hroom : A.depth < recursionLimit) (hpn : X.pn = [(a, go)]) (hgo : ∃ nm qn, go.cls = .type "generator" ∧ go.data = .fields #[.int g 0, nm, qn] ∧ go.slots = #[])
    (hR : ∀ b s' H' σ', Inv X [] σ' H' s' → Q (.bl b) H' → R (.ok (.ret (.bool b))) s') :
    ∀ (n : Nat) (s : Shared), GReady X.prog X.w A.in1.in1 (gR X σb g Q false) (gY X g Q false) a g n s → codeAny (model X.prog X.w) A (.builtin "all.loop" ⟨[.ref a], []⟩) R s := by
  intro n
  induction n with
  | zero =>
    intro s hr
    refine codeAny_builtin F.entry_all_loop ?_
    rw [Around.under_plainId F.plain_all_loop _]
    show wpAny _ A.in1 (pyNext (.ref a) >>= _) _ _ s
    refine wpAny_bind (next_g (A := A.in1) hh hroom hpn hgo hr (fun b s' n' _ z _ => (by cases z)) (fun s' H' σ' I q => ?_) fun s' H' σ' I q => ?_)
    · refine wpAny_bind (wpAny_holding (wpAny_truthy_bool ?_))
      refine wpAny_bind (wpAny_letGo ?_)
      simp only [Bool.false_eq_true, if_false]
      exact wpAny_bind (wpAny_rule (wpAny_pure (hR false _ H' σ' I q)))
    · exact wpAny_bind (wpAny_rule (wpAny_pure (hR true _ H' σ' I q)))
  | succ n ih =>
    intro s hr
    refine codeAny_builtin F.entry_all_loop ?_
    rw [Around.under_plainId F.plain_all_loop _]
    show wpAny _ A.in1 (pyNext (.ref a) >>= _) _ _ s
    refine wpAny_bind (next_g (A := A.in1) hh hroom hpn hgo hr (fun b s' n' hb z hr' => ?_) (fun s' H' σ' I q => ?_) fun s' H' σ' I q => ?_)
    · cases z
      have eb : b = true := by cases b; exact absurd rfl hb; rfl
      subst eb
      refine wpAny_bind (wpAny_holding (wpAny_truthy_bool ?_))
      refine wpAny_bind (wpAny_letGo ?_)
      simp only [if_true]
      exact wpAny_pure ⟨plainId_quiet F.plain_all_loop _, ih _ hr'⟩
    · refine wpAny_bind (wpAny_holding (wpAny_truthy_bool ?_))
      refine wpAny_bind (wpAny_letGo ?_)
      simp only [Bool.false_eq_true, if_false]
      exact wpAny_bind (wpAny_rule (wpAny_pure (hR false _ H' σ' I q)))
    · exact wpAny_bind (wpAny_rule (wpAny_pure (hR true _ H' σ' I q)))
theorem any_g (hh : A.handled = none) (hroom : A.depth < recursionLimit) (hpn : X.pn = [(a, go)]) (hgo : ∃ nm qn, go.cls = .type "generator" ∧ go.data = .fields #[.int g 0, nm, qn] ∧ go.slots = #[])
    (hR : ∀ b s' H' σ', Inv X [] σ' H' s' → Q (.bl b) H' → R (.ok (.ret (.bool b))) s') :
    ∀ (n : Nat) (s : Shared), GReady X.prog X.w A.in1.in1 (gR X σb g Q true) (gY X g Q true) a g n s → codeAny (model X.prog X.w) A (.builtin "any.loop" ⟨[.ref a], []⟩) R s := by
  intro n
  induction n with
  | zero =>
    intro s hr
    refine codeAny_builtin F.entry_any_loop ?_
    rw [Around.under_plainId F.plain_any_loop _]
    show wpAny _ A.in1 (pyNext (.ref a) >>= _) _ _ s
    refine wpAny_bind (next_g (A := A.in1) hh hroom hpn hgo hr (fun b s' n' _ z _ => (by cases z)) (fun s' H' σ' I q => ?_) fun s' H' σ' I q => ?_)
    · refine wpAny_bind (wpAny_holding (wpAny_truthy_bool ?_))
      refine wpAny_bind (wpAny_letGo ?_)
      simp only [if_true]
      exact wpAny_bind (wpAny_rule (wpAny_pure (hR true _ H' σ' I q)))
    · exact wpAny_bind (wpAny_rule (wpAny_pure (hR false _ H' σ' I q)))
  | succ n ih =>
    intro s hr
    refine codeAny_builtin F.entry_any_loop ?_
    rw [Around.under_plainId F.plain_any_loop _]
    show wpAny _ A.in1 (pyNext (.ref a) >>= _) _ _ s
    refine wpAny_bind (next_g (A := A.in1) hh hroom hpn hgo hr (fun b s' n' hb z hr' => ?_) (fun s' H' σ' I q => ?_) fun s' H' σ' I q => ?_)
    · cases z
      have eb : b = false := by cases b; rfl; exact absurd rfl hb
      subst eb
      refine wpAny_bind (wpAny_holding (wpAny_truthy_bool ?_))
      refine wpAny_bind (wpAny_letGo ?_)
      simp only [Bool.false_eq_true, if_false]
      exact wpAny_pure ⟨plainId_quiet F.plain_any_loop _, ih _ hr'⟩
    · refine wpAny_bind (wpAny_holding (wpAny_truthy_bool ?_))
      refine wpAny_bind (wpAny_letGo ?_)
      simp only [if_true]
      exact wpAny_bind (wpAny_rule (wpAny_pure (hR true _ H' σ' I q)))
    · exact wpAny_bind (wpAny_rule (wpAny_pure (hR false _ H' σ' I q)))
end
/-! ### made -/
theorem over_gen {A : Around} {elt : Expr} {gs : List Comprehension} {sc : Scope} {p : Pos} {v u : Value} {env : Env} : A.over (.compLoop (.GeneratorExp elt gs sc p) 0 v u env) [] = A.deeper env := by
  first
    | rfl
    | (obtain ⟨hd, d, fr, gs, u⟩ := A; simp [Around.over, Around.deeper, marksOver, frameCount, unitsOf, envsOf, guardsOf, pushEnvs, pushGuards, Code.envs, Code.env?, Code.isFrame, Code.guards, Code.isGuard, Code.weight, Code.frames, Code.isCreation, Code.isCaller, Code.cUnits])
theorem seg_gs {X : Cx} {A₁ : Around} {tg iter elt : Expr} {scope : Scope} {gpos : Pos} {it : Addr} {g : Nat} {fp : List Addr} {tn : Nat → Heap → Prop} {J : It} {W : Nat → Nat → Hp → Prop} {vs : List Nat} {σ : L2.St} {Q : VK} {sa : Bool} {gT : TG} {te : TE}
    (hA : X.A = A₁.over (.compLoop (.GeneratorExp elt [⟨tg, iter, [], 0⟩] scope gpos) 0 (.ref it) .none X.env) []) (hex : X.ex = fp) (hxe : X.xe = fun _ _ => False) (hc : X.calm = true) (T : Turn X.prog X.w X.K tg J fp it tn) (hco : X.env.scope.isCoroutine = false) (pg : PG X tg gT) (pe : PE X elt te)
    (nop : ∀ b ∈ fp, ∀ p ∈ X.pn, p.1 ≠ b)
    (turn : TurnG J gT te vs σ Q sa W) (n m : Nat) (s : Shared) (H' : Hp) (hm : m < n) (I : Inv X [] (L2.wipe σ vs) H' s) (st : tn 0 s.heap) (hn : ∀ b ∈ fp, H' b = none) (w : W 0 m H') (hg : g < s.gens.size) :
      Seg (model X.prog X.w) A₁ (gR X (L2.wipe σ vs) g Q sa) (gY X g Q sa) n s (.compStart (.GeneratorExp elt [⟨tg, iter, [], 0⟩] scope gpos) 0 (.ref it) .none X.env)
        ((model X.prog X.w).den (.compStart (.GeneratorExp elt [⟨tg, iter, [], 0⟩] scope gpos) 0 (.ref it) .none X.env)) [] s := by
  have loop := seg_gl hA hex hxe hc T hco pg pe nop turn n m 0 s s H' hm I st hn w hg
  show Seg _ A₁ _ _ _ s _ ((compStart (.GeneratorExp elt [⟨tg, iter, [], 0⟩] scope gpos) 0 (.ref it) .none X.env).onRaise (leaving X.env)) [] s
  unfold compStart
  rw [Sem.onRaise_eq_wrap]
  show Seg _ A₁ _ _ _ s _ ((ask >>= _).wrap _ _ _ _) [] s
  refine seg_bind_wrap (wpAny_askSetting ?_)
  split
  · exact seg_again rfl loop
  · first
      | exact seg_bind_wrap (wpAny_rule (seg_bind_wrap (wpAny_standAt (seg_bind_wrap (T.self _ 0 s _ _ st (seg_again rfl loop))))))
      | (refine seg_bind_wrap (wpAny_rule ?_); show Seg _ A₁ _ _ _ s _ ((standAt iter.pos >>= _).wrap _ _ _ _) [] s; exact seg_bind_wrap (wpAny_standAt (seg_bind_wrap (T.self _ 0 s _ _ st (seg_again rfl loop)))))

def tAG (P : Addr) (sa : Bool) (wi : TI) (gT : TG) (te : TE) (vs : List Nat) : TE := fun σ H Q => wi σ H fun J H1 => TabG H1 P ∧ ∀ H2, Tabbed P H1 H2 → ∃ W : Nat → Nat → Hp → Prop, (∃ m, W 0 m H2) ∧ TurnG J gT te vs σ Q sa W
section
variable {X : Cx} {pins : List (Addr × Obj)} {σ : L2.St} {H : Hp} {s : Shared}
theorem gen_core {c P : Addr} {elt tg iter : Expr} {gpos : Pos} {scope : Scope} {own : List (Str × Nat)} {sa : Bool} {wi : TI} {gT : TG} {te : TE} {k : Nat} {Q : VK} {Q' : Value → Shared → Prop}
    (hr : Room (k + 1) X.A) (hc : X.calm = true) (hN : X.N.Nodup) (TB : TabB X.base X.mg c P) (hcode : X.env.code = .ref c) (ok : BlkOk X.N X.env.scope scope own) (nc : ∀ y ∈ scope.names, y.2 ≠ .cell) (hco : scope.isCoroutine = false) (dot : scope.names.lookup (".0" : Str) = some NameKind.local)
    (hi : PI X tg iter wi) (hs : ∀ v, genFold iter X.env v = pure v)
    (hg : ∀ (A : Around) (s : Shared) (H : Hp) (C : Addr) (code : Value) (fp : List Addr) (pn : List (Addr × Obj)), Room k A → PG (gblk X A s H (genEnv scope (cloFrom X.env.cells scope.names []) C code builtinsNs X.env) fp pn) tg gT)
    (he : ∀ (A : Around) (s : Shared) (H : Hp) (C : Addr) (code : Value) (fp : List Addr) (pn : List (Addr × Obj)), Room k A → PE (gblk X A s H (genEnv scope (cloFrom X.env.cells scope.names []) C code builtinsNs X.env) fp pn) elt te)
    (I : Inv X pins σ H s) (h : tAG P sa wi gT te (own.map (·.2)) σ H Q)
    (hQ : ∀ (Xb : Cx) (σb : L2.St) (a : Addr) (g : Nat) (go : Obj) (n : Nat) (s5 : Shared), Xb.prog = X.prog → Xb.w = X.w → Xb.pn = [(a, go)] → (∃ nm qn, go.cls = .type "generator" ∧ go.data = .fields #[.int g 0, nm, qn] ∧ go.slots = #[]) →
      GReady X.prog X.w X.A.in1.in1 (gR Xb σb g Q sa) (gY Xb g Q sa) a g n s5 → (∀ s' H' σ', Inv Xb [] σ' H' s' → Inv X pins σ H' s') → Q' (.ref a) s5) :
    wpAny (model X.prog X.w) X.A (eval (.GeneratorExp elt [⟨tg, iter, [], 0⟩] scope gpos) X.env) Q' X.xe s := by
  have hfree : ∀ y ∈ scope.names, y.2 = .free → ∃ c, X.env.cells.lookup y.1 = some c := fun y hy e => by
    rcases ok.free y hy e with k | k
    · exact I.ok.has _ (.inl k)
    · exact I.ok.has _ (.inr k)
  refine wpAny_GeneratorExp_make hco (closure_ok hfree) nc dot ok.kind (by have := hr.dp; omega) (thn (hi.run pins s σ H _ I h) fun xv s1 hx => thn hx fun itv s2 h2 => ?_) hs
  obtain ⟨it, fp, tn, J, H2, e, I2, T, st2, f2, hTab, q⟩ := h2
  subst e
  obtain ⟨ps, hP, ht⟩ := hTab
  have hPs : s2.heap.get? P = some { cls := .none, data := .fields ps } := I2.hok P _ hP
  have cd : PySem.W.CodeHd s2.heap c P := TB.code.keeps fun b u e => I2.bk b u e
  refine ⟨I2.nolimit, ?_⟩
  have cont : ∀ (code : Value) (h3 : Heap) (tk : Nat) (ps' : Array Value), Heap.ExtBut P s2.heap h3 → s2.heap.objs.size ≤ h3.objs.size → h3.get? P = some { cls := .none, data := .fields ps' } → (∃ more, ps' = ps ++ more) → TriplesOk ps'.toList →
      wpAny (model X.prog X.w) X.A (builtinsFor X.env.globals X.env.builtins) (fun bi s₄ =>
        ∀ h', h'.Ns s₄.heap.objs.size (fun y => if y = ".0" then some (.ref it) else none) → Heap.SameBut s₄.heap.objs.size (s₄.heap.push { cls := .type "frame", data := .dict #[] }) h' →
          Q' (.ref h'.objs.size) { s₄ with
            gens := s₄.gens.push (.fresh (.compStart (.GeneratorExp elt [⟨tg, iter, [], 0⟩] scope gpos) 0 (.ref it) .none (genEnv scope (cloFrom X.env.cells scope.names []) s₄.heap.objs.size code bi X.env))),
            toks := s₄.toks + 1 + 1 + 1,
            heap := h'.push { cls := .type "generator", data := .fields #[.int s₄.gens.size 0, .str "<genexpr>" (s₄.toks + 1), .str (X.env.qual ++ "<genexpr>") (s₄.toks + 1 + 1)] } }) X.xe { s2 with heap := h3, toks := tk } := by
    intro code h3 tk ps' hx hsz hP3 hmore ht3
    obtain ⟨bm, ob, e1, e2, e3, e4, e5, e6, e7, e8⟩ := TB.bm
    have keep3 : ∀ b u, b ≠ P → s2.heap.get? b = some u → h3.get? b = some u := fun b u hb e => hx b u hb e
    refine wpAny_builtinsFor (m := X.mg) (by rw [I2.ok.glob]; exact (I2.mod.glob.keeps I2.bk).extBut hx TB.gP) e1 e2 (keep3 _ _ e4 (I2.bk _ _ e5)) e6 e7 e8 ?_
    intro h' hn' hs'
    obtain ⟨more, em⟩ := hmore
    have I3 := inv_tab (more := more) (h' := h3) (g' := s2.gens) (d' := s2.drawn) (t' := tk) I2 hP keep3 (by rw [← em]; exact hP3) I2.bare
    have hT3 : Tabbed P H2 (upd H2 P (.tbl (ps ++ more))) := ⟨⟨ps ++ more, upd_same, by rw [← em]; exact ht3⟩, fun b hb => upd_ne hb⟩
    obtain ⟨W, ⟨m0, w0⟩, turn⟩ := q _ hT3
    generalize hH3 : upd H2 P (.tbl (ps ++ more)) = H3 at I3 w0 hT3
    have szf : ∀ b ∈ fp, b < s2.heap.objs.size := fun b hb => by
      obtain ⟨o, e, _⟩ := T.obj _ _ st2 b hb
      exact Heap.lt_size e
    have fneP : ∀ b ∈ fp, b ≠ P := fun b hb => ne_of_none_left (f2 b hb).1 hP
    have f3 : ∀ b ∈ fp, FpOk X pins H3 b ∧ b < h3.objs.size := fun b hb => by
      refine ⟨⟨?_, (f2 b hb).2⟩, Nat.lt_of_lt_of_le (szf b hb) hsz⟩
      rw [← hH3, upd_ne (fneP b hb)]
      exact (f2 b hb).1
    have hsz' : h'.objs.size = h3.objs.size + 1 := by rw [hs'.1, Heap.size_push]
    have keep5 : ∀ (o5 : Obj) b o, h3.get? b = some o → (h'.push o5).get? b = some o := fun o5 b o e => Heap.get?_push_of_some _ (hs'.extBut b o (Nat.ne_of_lt (Heap.lt_size e)) (Heap.get?_push_of_some _ e))
    have st5 : ∀ (o5 : Obj), tn 0 (h'.push o5) := fun o5 => T.keep _ _ _ st2 fun b hb o e => keep5 o5 b o (keep3 b o (fneP b hb) e)
    have hroom : Room k (X.A.in1.in1.deeper (genEnv scope (cloFrom X.env.cells scope.names []) h3.objs.size code builtinsNs X.env)) := ⟨hr.hd, by have := hr.dp; show X.A.depth + 1 + 3 * k + 5 < _; omega, by have := hr.un; show X.A.units + 1 + 1 + 3 + 16 * k + 200 < _; omega⟩
    generalize hgo : ({ cls := .type "generator", data := .fields #[.int s2.gens.size 0, .str "<genexpr>" (tk + 1), .str (X.env.qual ++ "<genexpr>") (tk + 1 + 1)] } : Obj) = go
    have hfr : go.isFreed = false := by rw [← hgo]; rfl
    have hgd : ∃ nm qn, go.cls = .type "generator" ∧ go.data = .fields #[.int s2.gens.size 0, nm, qn] ∧ go.slots = #[] := by rw [← hgo]; exact ⟨_, _, rfl, rfl, rfl⟩
    have I5 := gen_start (A := X.A.in1.in1.deeper (genEnv scope (cloFrom X.env.cells scope.names []) h3.objs.size code builtinsNs X.env)) (code := code) (a := h'.objs.size) (go := go) (h5 := h'.push go) (tk := tk + 1 + 1 + 1)
      (gens5 := s2.gens.push (.fresh (.compStart (.GeneratorExp elt [⟨tg, iter, [], 0⟩] scope gpos) 0 (.ref it) .none (genEnv scope (cloFrom X.env.cells scope.names []) h3.objs.size code builtinsNs X.env))))
      I3 ok hN f3 nc rfl (Around.frames_deeper (A := X.A.in1.in1) I.ok.frames) (hn'.push _) (keep5 go) (Heap.get?_push_size _ hfr) (show h3.objs.size < h'.objs.size by rw [hsz']; exact Nat.lt_succ_self _) (fun v e => by obtain ⟨_, _, _, z, _⟩ := hgd; rw [z] at e; cases e) (I2.bare.push rfl)
    refine hQ (gblk X (X.A.in1.in1.deeper (genEnv scope (cloFrom X.env.cells scope.names []) h3.objs.size code builtinsNs X.env)) { s2 with heap := h3, toks := tk } H3 (genEnv scope (cloFrom X.env.cells scope.names []) h3.objs.size code builtinsNs X.env) fp [(h'.objs.size, go)])
      (L2.wipe σ (own.map (·.2))) h'.objs.size s2.gens.size go (m0 + 1) _ rfl rfl rfl hgd ⟨?_, I5.nolimit, I5.bare, _, Array.getElem?_push_size .., fun s'' z1 z2 z3 z4 => ⟨rfl, ?_⟩⟩ fun s' H' σ' I6 => ?_
    · obtain ⟨nm, qn, z1, z2, z3⟩ := hgd
      exact ⟨go, nm, qn, Heap.get?_push_size _ hfr, z1, z2, z3⟩
    · refine seg_gs (X := gblk X (X.A.in1.in1.deeper (genEnv scope (cloFrom X.env.cells scope.names []) h3.objs.size code builtinsNs X.env)) { s2 with heap := h3, toks := tk } H3 (genEnv scope (cloFrom X.env.cells scope.names []) h3.objs.size code builtinsNs X.env) fp [(h'.objs.size, go)]) (tn := tn) (J := J) (W := W) (gT := gT) (te := te) over_gen.symm rfl rfl hc T hco (hg _ _ _ _ _ _ _ hroom) (he _ _ _ _ _ _ _ hroom) (fun b hb p hp => ?_) turn (m0 + 1) m0 s'' H3 (Nat.lt_succ_self _) (inv_same I5 z1 z2 z3) (by rw [z1]; exact st5 go) (fun b hb => (f3 b hb).1.1) w0 z4
      have e : p = (h'.objs.size, go) := by simpa using hp
      subst e
      have h1 : b < h'.objs.size := by rw [hsz']; exact Nat.lt_succ_of_lt (f3 b hb).2
      exact Nat.ne_of_gt h1
    · exact I3.call' (ch := fp) I6.os I6.base I6.hok I6.bare fun b hb => ⟨(f3 b hb).1.2.2.2.1, (f3 b hb).1.2.1, (f3 b hb).1.2.2.2.2.1, (f3 b hb).1.2.2.2.2.2⟩
  cases hf : codeAmong gpos ps.toList with
  | none =>
    refine wpAny_genexprCodeX hcode (cd.code hPs ht) (cd.tab hPs) hf fun c' h' tk hx hge hlt hco' _ htab' _ => ?_
    obtain ⟨o1, vs, f1, tf, fl, tg, inF, tx, tt, op, _, _, _, _, _, _, _, _, _, htr, _⟩ := hco'
    exact cont _ h' tk _ hx (Nat.le_trans hge (Nat.le_of_lt hlt)) htab'.2 ⟨_, rfl⟩ htr
  | some cv =>
    refine wpAny_genexprCode_hit hcode (cd.code hPs ht) hf ?_
    exact cont cv s2.heap s2.toks ps (Heap.ExtBut.refl _ _) (Nat.le_refl _) hPs ⟨#[], by simp⟩ ht
theorem pe_ag {nm : Str} {c P : Addr} {elt tg iter : Expr} {p pos gpos : Pos} {scope : Scope} {own : List (Str × Nat)} {sa : Bool} {wi : TI} {gT : TG} {te : TE} {k : Nat}
    (hr : Room (k + 1) X.A) (hc : X.calm = true) (hN : X.N.Nodup) (TB : TabB X.base X.mg c P) (hcode : X.env.code = .ref c) (ok : BlkOk X.N X.env.scope scope own) (nc : ∀ y ∈ scope.names, y.2 ≠ .cell) (hco : scope.isCoroutine = false) (dot : scope.names.lookup (".0" : Str) = some NameKind.local)
    (hi : PI X tg iter wi) (hs : ∀ v, genFold iter X.env v = pure v)
    (hg : ∀ (A : Around) (s : Shared) (H : Hp) (C : Addr) (code : Value) (fp : List Addr) (pn : List (Addr × Obj)), Room k A → PG (gblk X A s H (genEnv scope (cloFrom X.env.cells scope.names []) C code builtinsNs X.env) fp pn) tg gT)
    (he : ∀ (A : Around) (s : Shared) (H : Hp) (C : Addr) (code : Value) (fp : List Addr) (pn : List (Addr × Obj)), Room k A → PE (gblk X A s H (genEnv scope (cloFrom X.env.cells scope.names []) C code builtinsNs X.env) fp pn) elt te)
    (hx : Gl X nm) (hm : X.mg nm = none) (hw : (nm = "all" ∧ sa = false) ∨ (nm = "any" ∧ sa = true))
    (hst : starEach [.GeneratorExp elt [⟨tg, iter, [], 0⟩] scope gpos] X.env = (false, eval (.GeneratorExp elt [⟨tg, iter, [], 0⟩] scope gpos) X.env) :: starEach [] X.env := by rfl) :
    PE X (.Call (.Name nm p) [.GeneratorExp elt [⟨tg, iter, [], 0⟩] scope gpos] [] pos) (tAG P sa wi gT te (own.map (·.2))) := by
  refine ⟨fun pins s σ H Q I h => ?_⟩
  rcases hw with ⟨rfl, rfl⟩ | ⟨rfl, rfl⟩
  · refine wpAny_Call_Name_kw (ld_blt I hx hm boot_all ?_)
    refine PyProof.Rows.callWith_builtin1 ?_ hst (by rfl)
    rw [hst]
    show wpAny _ _ (spliced ((false, eval (.GeneratorExp elt [⟨tg, iter, [], 0⟩] scope gpos) X.env) :: backTo pos (starEach [] X.env))) _ _ s
    refine Calls.spliced_cons (gen_core hr hc hN TB hcode ok nc hco dot hi hs hg he I h fun Xb σb a g go n s5 q1 q2 hpn hgo hG hI => ?_)
    refine Calls.spliced_nil ?_
    refine call_function_tree F.kind_all F.plain_all F.entry_all (F.args_all1 _) ?_
    unfold Builtin.«all»
    refine wpAny_bind (m := oneArg "all" _) (wpAny_pure ?_)
    refine wpAny_bind (wpAny_pyIter_gen hG.1 ?_)
    rw [← q1, ← q2] at hG ⊢
    exact wpAny_pure ⟨plainId_quiet F.plain_all_loop _, all_g (X := Xb) hr.hd (by have := hr.dp; omega) hpn hgo (fun b s' H' σ' I' q => ⟨.bl b, H', hI s' H' σ' I', rfl, q⟩) n s5 hG⟩
  · refine wpAny_Call_Name_kw (ld_blt I hx hm boot_any ?_)
    refine PyProof.Rows.callWith_builtin1 ?_ hst (by rfl)
    rw [hst]
    show wpAny _ _ (spliced ((false, eval (.GeneratorExp elt [⟨tg, iter, [], 0⟩] scope gpos) X.env) :: backTo pos (starEach [] X.env))) _ _ s
    refine Calls.spliced_cons (gen_core hr hc hN TB hcode ok nc hco dot hi hs hg he I h fun Xb σb a g go n s5 q1 q2 hpn hgo hG hI => ?_)
    refine Calls.spliced_nil ?_
    refine call_function_tree F.kind_any F.plain_any F.entry_any (F.args_any1 _) ?_
    unfold Builtin.«any»
    refine wpAny_bind (m := oneArg "any" _) (wpAny_pure ?_)
    refine wpAny_bind (wpAny_pyIter_gen hG.1 ?_)
    rw [← q1, ← q2] at hG ⊢
    exact wpAny_pure ⟨plainId_quiet F.plain_any_loop _, any_g (X := Xb) hr.hd (by have := hr.dp; omega) hpn hgo (fun b s' H' σ' I' q => ⟨.bl b, H', hI s' H' σ' I', rfl, q⟩) n s5 hG⟩
end
end Wp

set_option Elab.async false
set_option linter.all false
set_option maxRecDepth 100000
set_option maxHeartbeats 1000000
/-! all, any over trees; the end of a law whose defs hold generator expressions -/
namespace Wp
open PySem PySem.Spec PyProof.Rows L2 GxR
theorem tabbed_ext {P : Addr} {H1 H2 : Hp} (h : TabG H1 P) (t : Tabbed P H1 H2) : Ext H1 H2 := by
  obtain ⟨ps, e, ht⟩ := h
  refine ⟨fun b xs q => ?_, fun b o u q => ?_, fun b ⟨qs, q, z⟩ => ?_⟩
  · rw [t.2 b (fun z => by rw [z, e] at q; cases q)]; exact q
  · rw [t.2 b (fun z => by rw [z, e] at q; cases q)]; exact q
  · by_cases hb : b = P
    · rw [hb]; exact t.1
    · exact ⟨qs, by rw [t.2 b hb]; exact q, z⟩
theorem tabbed_st {K : PySem.W.Frag} {S : Sta} {P : Addr} {H1 H2 : Hp} (h : TabG H1 P) (t : Tabbed P H1 H2) (s : St K S H1) : St K S H2 :=
  s.keep (tabbed_ext h t) fun a o q => t.2 a fun z => by
    obtain ⟨ps, e, _⟩ := h
    obtain ⟨u, hu, hs⟩ := s.has q
    rw [z, e] at hu
    cases hu
    exact hs
section
variable {B : Hp} {X : Cx}
def allW (g : WG) (te : WE) (stb : Sta → Prop) (σ : Sl) (Q : T → Sta → Prop) : List T → Sta → Prop
  | [], S => stb S ∧ Q (.bl true) S
  | x :: xs, S => stb S ∧ g x σ S fun σ2 S2 => te σ2 S2 fun y S3 => match y with
    | .bl b => wif b (allW g te stb σ Q xs S3) (Q (.bl false) S3)
    | _ => False
def anyW (g : WG) (te : WE) (stb : Sta → Prop) (σ : Sl) (Q : T → Sta → Prop) : List T → Sta → Prop
  | [], S => stb S ∧ Q (.bl false) S
  | x :: xs, S => stb S ∧ g x σ S fun σ2 S2 => te σ2 S2 fun y S3 => match y with
    | .bl b => wif b (Q (.bl true) S3) (anyW g te stb σ Q xs S3)
    | _ => False
def agW (sa : Bool) : WG → WE → (Sta → Prop) → Sl → (T → Sta → Prop) → List T → Sta → Prop := match sa with
  | false => allW
  | true => anyW
def wAll (wi : WI) (g : WG) (te : WE) (vs : List Nat) (σ : Sl) (S : Sta) (Q : T → Sta → Prop) : Prop := wi σ S fun xs stb S1 => allW g te stb (wipeT σ vs) Q xs S1
def wAny (wi : WI) (g : WG) (te : WE) (vs : List Nat) (σ : Sl) (S : Sta) (Q : T → Sta → Prop) : Prop := wi σ S fun xs stb S1 => anyW g te stb (wipeT σ vs) Q xs S1
def wAg (sa : Bool) (wi : WI) (g : WG) (te : WE) (vs : List Nat) (σ : Sl) (S : Sta) (Q : T → Sta → Prop) : Prop := wi σ S fun xs stb S1 => agW sa g te stb (wipeT σ vs) Q xs S1
theorem agW_stb {sa : Bool} {g : WG} {te : WE} {stb : Sta → Prop} {σ : Sl} {Q : T → Sta → Prop} {xs : List T} {S : Sta} (h : agW sa g te stb σ Q xs S) : stb S := by
  cases sa <;> cases xs <;> exact h.1
theorem agW_nil {sa : Bool} {g : WG} {te : WE} {stb : Sta → Prop} {σ : Sl} {Q : T → Sta → Prop} {S : Sta} (h : agW sa g te stb σ Q [] S) : Q (.bl (!sa)) S := by
  cases sa <;> exact h.2
theorem agW_cons {sa : Bool} {g : WG} {te : WE} {stb : Sta → Prop} {σ : Sl} {Q : T → Sta → Prop} {x : T} {xs : List T} {S : Sta} (h : agW sa g te stb σ Q (x :: xs) S) :
    ∃ F : Bool → Sta → Prop, (∀ b S3, F b S3 → (b = sa → Q (.bl sa) S3) ∧ (b ≠ sa → agW sa g te stb σ Q xs S3)) ∧ g x σ S fun σ2 S2 => te σ2 S2 fun y S3 => match y with
      | .bl b => F b S3
      | _ => False := by
  cases sa with
  | false => exact ⟨fun b S3 => wif b (allW g te stb σ Q xs S3) (Q (.bl false) S3), fun b S3 z => by cases b <;> exact ⟨fun e => (by first | exact z | cases e), fun e => (by first | exact z | exact absurd rfl e)⟩, h.2⟩
  | true => exact ⟨fun b S3 => wif b (Q (.bl true) S3) (anyW g te stb σ Q xs S3), fun b S3 z => by cases b <;> exact ⟨fun e => (by first | exact z | cases e), fun e => (by first | exact z | exact absurd rfl e)⟩, h.2⟩
theorem wipe_wipe (σ : L2.St) (vs : List Nat) : L2.wipe (L2.wipe σ vs) vs = L2.wipe σ vs := by
  have key : ∀ (us ws : List Nat) (τ : L2.St), (∀ i ∈ us, i ∈ ws) → L2.wipe (L2.wipe τ ws) us = L2.wipe τ ws := fun us => by
    induction us with
    | nil => intro ws τ _; rfl
    | cons u us ih =>
      intro ws τ hu
      show (L2.wipe (L2.wipe τ ws) us).set u none = L2.wipe τ ws
      rw [ih ws τ fun i hi => hu i (List.mem_cons_of_mem _ hi)]
      have hmem := hu u List.mem_cons_self
      have set_none : ∀ (ws : List Nat), u ∈ ws → (L2.wipe τ ws).set u none = L2.wipe τ ws := fun ws => by
        induction ws with
        | nil => intro h; cases h
        | cons w ws ih2 =>
          intro h
          show ((L2.wipe τ ws).set w none).set u none = (L2.wipe τ ws).set w none
          by_cases hw : u = w
          · subst hw; rw [List.set_set]
          · rw [List.set_comm _ _ (fun z => hw z.symm), ih2 ((List.mem_cons.mp h).resolve_left hw)]
      exact set_none ws hmem
  exact key vs vs σ fun i hi => hi
theorem le_ag {P : Addr} {sa : Bool} {wi : WI} {g : WG} {te : WE} {vs : List Nat} {σ : L2.St} {H : Hp} {Q : VK} (hB : TabG B P) (h : LE B X (wAg sa wi g te vs) σ H Q) : tAG P sa (LI B X wi) (LG X vs g) (LE B X te) vs σ H Q := by
  obtain ⟨st, S, Q0, he, hr, hs, h, im⟩ := h
  refine ⟨st, S, _, he, hr, hs, h, fun xs stb S1 h1 H1 e1 s1 J yl => ?_⟩
  have hP1 : TabG H1 P := (he.trans e1).tabs P hB
  refine ⟨hP1, fun HT hT => ?_⟩
  have eT := tabbed_ext hP1 hT
  refine ⟨fun i m H' => m = xs.length - i ∧ i ≤ xs.length ∧ ∃ S', Ext H1 H' ∧ St X.K S' H' ∧ agW sa g te stb (wipeT st vs) Q0 (xs.drop i) S', ⟨xs.length, by omega, Nat.zero_le _, _, eT, tabbed_st hP1 hT s1, h1⟩, fun i m H2 hW => ?_⟩
  obtain ⟨hm, hi, S2, e2, s2, h2⟩ := hW
  obtain ⟨y1, y2, y3⟩ := yl i S2 H2 e2 s2 (agW_stb h2)
  by_cases hlt : i < xs.length
  · refine .inr ⟨y1 hlt, fun H' => ∃ S', Ext H1 H' ∧ St X.K S' H' ∧ agW sa g te stb (wipeT st vs) Q0 (xs.drop (i + 1)) S', fun H' q => ⟨m - 1, by omega, by omega, by omega, q⟩, fun x H3 hy => ?_⟩
    obtain ⟨e3, s3, sl3, t, et, rt⟩ := y3 x H3 hy hlt
    have r3 := sl3 _ _ (((hr.mono e1).mono e2).wipe vs)
    rw [List.drop_eq_getElem_cons hlt] at h2
    have et' : xs[i] = t := by rw [List.getElem?_eq_getElem hlt] at et; exact Option.some.inj et
    rw [et'] at h2
    obtain ⟨F, hF, h2⟩ := agW_cons h2
    refine ⟨t, wipeT st vs, S2, _, rt, r3, s3, h2, fun st4 S4 h4 H4 σ4 e4 s4 r4 w4 => ⟨w4.trans (wipe_wipe σ vs), ?_⟩⟩
    have eb : Ext H1 H4 := e2.trans (e3.trans e4)
    refine ⟨st4, S4, _, he.trans (e1.trans eb), r4, s4, h4, fun y S6 h6 H6 v6 e6 s6 r6 => ?_⟩
    cases y with
    | bl b =>
      cases r6
      have z := hF b S6 h6
      exact ⟨b, rfl, fun hb => im _ _ (z.1 hb) H6 _ (e1.trans (eb.trans e6)) s6 (.bl _), fun hb => ⟨S6, eb.trans e6, s6, z.2 hb⟩⟩
    | _ => exact h6.elim
  · have ei : i = xs.length := by omega
    subst ei
    rw [List.drop_length] at h2
    exact .inl ⟨y2 (Nat.le_refl _), im _ _ (agW_nil h2) H2 _ (e1.trans e2) s2 (.bl _)⟩
/-- the table of a def with a generator expression -/
structure Tab1 (base : Heap) (mg : Str → Option Value) (tl : List Addr) (fd : FuncData) (c P : Addr) : Prop where
  code : fd.code = .ref c
  tab : TabB base mg c P
  mem : P ∈ tl
theorem j_ag {nm : Str} {c P : Addr} {elt tg iter : Expr} {p pos gpos : Pos} {scope : Scope} {own : List (Str × Nat)} {sa : Bool} {wi : WI} {g : WG} {te : WE} {k : Nat}
    (hr : Room (k + 1) X.A) (hc : X.calm = true) (hN : X.N.Nodup) (TB : TabB X.base X.mg c P) (hcode : X.env.code = .ref c) (hB : TabG B P) (ok : BlkOk X.N X.env.scope scope own) (nc : ∀ y ∈ scope.names, y.2 ≠ .cell) (hco : scope.isCoroutine = false) (dot : scope.names.lookup (".0" : Str) = some NameKind.local)
    (hi : JI B X tg iter wi) (hs : ∀ v, genFold iter X.env v = pure v)
    (hg : ∀ (A : Around) (s : Shared) (H : Hp) (C : Addr) (code : Value) (fp : List Addr) (pn : List (Addr × Obj)), Room k A → JG (gblk X A s H (genEnv scope (cloFrom X.env.cells scope.names []) C code builtinsNs X.env) fp pn) tg (own.map (·.2)) g)
    (he : ∀ (A : Around) (s : Shared) (H : Hp) (C : Addr) (code : Value) (fp : List Addr) (pn : List (Addr × Obj)), Room k A → JE B (gblk X A s H (genEnv scope (cloFrom X.env.cells scope.names []) C code builtinsNs X.env) fp pn) elt te)
    (hx : Gl X nm) (hm : X.mg nm = none) (hw : (nm = "all" ∧ sa = false) ∨ (nm = "any" ∧ sa = true))
    (hst : starEach [.GeneratorExp elt [⟨tg, iter, [], 0⟩] scope gpos] X.env = (false, eval (.GeneratorExp elt [⟨tg, iter, [], 0⟩] scope gpos) X.env) :: starEach [] X.env := by rfl) :
    JE B X (.Call (.Name nm p) [.GeneratorExp elt [⟨tg, iter, [], 0⟩] scope gpos] [] pos) (wAg sa wi g te (own.map (·.2))) :=
  pe_imp (pe_ag (gT := LG X (own.map fun (p : Str × Nat) => p.2) g) (te := LE B X te) hr hc hN TB hcode ok nc hco dot hi hs (fun A s H C code fp pn h => hg A s H C code fp pn h) (fun A s H C code fp pn h => he A s H C code fp pn h) hx hm hw hst) fun σ H Q h => le_ag hB h
theorem j_all {c P : Addr} {fd : FuncData} {tl : List Addr} {elt tg iter : Expr} {p pos gpos : Pos} {scope : Scope} {own : List (Str × Nat)} {wi : WI} {g : WG} {te : WE} {k : Nat}
    (hr : Room (k + 1) X.A) (t1 : Tab1 X.base X.mg tl fd c P) (hcd : X.env.code = fd.code) (ht : ∀ P ∈ tl, TabG B P) (hc : X.calm = true) (hN : X.N.Nodup) (ok : BlkOk X.N X.env.scope scope own) (nc : ∀ y ∈ scope.names, y.2 ≠ .cell)
    (hi : JI B X tg iter wi) (hs : ∀ v, genFold iter X.env v = pure v)
    (hg : ∀ (A : Around) (s : Shared) (H : Hp) (C : Addr) (code : Value) (fp : List Addr) (pn : List (Addr × Obj)), Room k A → JG (gblk X A s H (genEnv scope (cloFrom X.env.cells scope.names []) C code builtinsNs X.env) fp pn) tg (own.map (·.2)) g)
    (he : ∀ (A : Around) (s : Shared) (H : Hp) (C : Addr) (code : Value) (fp : List Addr) (pn : List (Addr × Obj)), Room k A → JE B (gblk X A s H (genEnv scope (cloFrom X.env.cells scope.names []) C code builtinsNs X.env) fp pn) elt te)
    (hx : Gl X "all") (hm : X.mg "all" = none) (hco : scope.isCoroutine = false := by rfl) (dot : scope.names.lookup (".0" : Str) = some NameKind.local := by rfl) :
    JE B X (.Call (.Name "all" p) [.GeneratorExp elt [⟨tg, iter, [], 0⟩] scope gpos] [] pos) (wAll wi g te (own.map (·.2))) :=
  j_ag (sa := false) hr hc hN t1.tab (hcd.trans t1.code) (ht P t1.mem) ok nc hco dot hi hs hg he hx hm (.inl ⟨rfl, rfl⟩)
theorem j_any {c P : Addr} {fd : FuncData} {tl : List Addr} {elt tg iter : Expr} {p pos gpos : Pos} {scope : Scope} {own : List (Str × Nat)} {wi : WI} {g : WG} {te : WE} {k : Nat}
    (hr : Room (k + 1) X.A) (t1 : Tab1 X.base X.mg tl fd c P) (hcd : X.env.code = fd.code) (ht : ∀ P ∈ tl, TabG B P) (hc : X.calm = true) (hN : X.N.Nodup) (ok : BlkOk X.N X.env.scope scope own) (nc : ∀ y ∈ scope.names, y.2 ≠ .cell)
    (hi : JI B X tg iter wi) (hs : ∀ v, genFold iter X.env v = pure v)
    (hg : ∀ (A : Around) (s : Shared) (H : Hp) (C : Addr) (code : Value) (fp : List Addr) (pn : List (Addr × Obj)), Room k A → JG (gblk X A s H (genEnv scope (cloFrom X.env.cells scope.names []) C code builtinsNs X.env) fp pn) tg (own.map (·.2)) g)
    (he : ∀ (A : Around) (s : Shared) (H : Hp) (C : Addr) (code : Value) (fp : List Addr) (pn : List (Addr × Obj)), Room k A → JE B (gblk X A s H (genEnv scope (cloFrom X.env.cells scope.names []) C code builtinsNs X.env) fp pn) elt te)
    (hx : Gl X "any") (hm : X.mg "any" = none) (hco : scope.isCoroutine = false := by rfl) (dot : scope.names.lookup (".0" : Str) = some NameKind.local := by rfl) :
    JE B X (.Call (.Name "any" p) [.GeneratorExp elt [⟨tg, iter, [], 0⟩] scope gpos] [] pos) (wAny wi g te (own.map (·.2))) :=
  j_ag (sa := true) hr hc hN t1.tab (hcd.trans t1.code) (ht P t1.mem) ok nc hco dot hi hs hg he hx hm (.inr ⟨rfl, rfl⟩)
end
end Wp
namespace Wp
open PySem PySem.Spec PyProof.Rows L2 GxR
/-! ### the end -/
/-- a def's code and its table, in what is known -/
structure TabK (K : PySem.W.Frag) (fd : FuncData) (c P : Addr) : Prop where
  code : fd.code = .ref c
  at_ : ∃ (e : Value) (dd : Option Addr) (vs : Array Value) (sl : Array (Option Value)), K.lookup c = some ⟨e, dd, .fields vs, sl⟩ ∧ vs[11]? = some (.ref P)
  no : K.lookup P = none
def DefG (K : PySem.W.Frag) (mg : Str → Option Value) (x : Str) (st : Stmt) (ps : List Str) : Prop := ∃ f fd c P, Fun K x x st f fd ∧ mg x = some (.ref f) ∧ Binds K fd ps [] ∧ TabK K fd c P
theorem defG_mk {K : PySem.W.Frag} {mg : Str → Option Value} {x : Str} {st : Stmt} {ps : List Str} {f cc PP : Addr} {oc : Value} {od an : Option Addr} {osl : Array (Option Value)} {kV doc pm cdv ct : Value} {e : Value} {dd : Option Addr} {vs : Array Value} {sl : Array (Option Value)}
    (hm : mg x = some (.ref f)) (l : K.lookup f = some ⟨oc, od, .func (PySem.W.fnOf x x (defArgs st) (defBody st) (defScope st) .none kV doc pm an cdv ct), osl⟩)
    (c : PySem.W.codeIn K cdv x = true) (k : PySem.W.keepIn K (.ref f) = true) (x1 : cdv = .ref cc) (x2 : K.lookup cc = some ⟨e, dd, .fields vs, sl⟩) (x3 : vs[11]? = some (.ref PP)) (x4 : (K.lookup PP).isNone = true)
    (h : ∀ (kV doc pm : Value) (an : Option Addr) (cdv ct : Value) (us : List Value), us.length = ps.length → bindArgs (PySem.W.fnOf x x (defArgs st) (defBody st) (defScope st) .none kV doc pm an cdv ct) ⟨us, []⟩ = pure (ps.zip us)) : DefG K mg x st ps :=
  ⟨f, _, cc, PP, fun_mk l c k, hm, (fun_mk l c k).binds h, x1, ⟨e, dd, vs, sl, x2, x3⟩, by simpa using x4⟩
/-- the empty tables at the head -/
def TabsE (K : PySem.W.Frag) (mg : Str → Option Value) (h : Heap) (names : List Str) : Prop := ∀ x ∈ names, ∀ f fd c P, mg x = some (.ref f) → (∃ oc od osl, K.lookup f = some ⟨oc, od, .func fd, osl⟩) → TabK K fd c P → h.get? P = some { cls := .none, data := .fields #[] } ∧ PySem.W.CodeHd h c P
theorem fn_frz {P : Program} {w : World} {K : PySem.W.Frag} {mg : Str → Option Value} {base : Heap} {k : Nat} {f : Addr} {fd : FuncData} {ps : List Str} {sp : Sp} (F : FnOk P w K mg base CX0 k f fd ps sp) :
    FnOk P w K mg base CX0 k f fd ps (fun vs H Q E => sp vs H Q E ∨ ∃ a xs, H a = some (.lst xs) ∧ ∀ o, sp vs (upd H a (.frz o (.lst xs))) Q E) := by
  refine ⟨fun vs H Q E h => ?_, fun A outer s H args us vs Q E hr e0 hb hv h => ?_⟩
  · rcases h with h | ⟨a, xs, _, h⟩
    · exact F.len _ _ _ _ h
    · exact F.len _ _ _ _ (h { cls := .none, data := .fields #[] })
  · rcases h with h | ⟨a, xs, ha, h⟩
    · exact F.run A outer s H args us vs Q E hr e0 hb hv h
    · obtain ⟨hz, its, n, rv, ho⟩ := e0.hok a _ ha
      generalize hob : ({ cls := .type "list", data := .seq its.toArray n } : Obj) = ob at ho
      have ne : ∀ {b : Addr} {u : HO}, H b = some u → u ≠ .lst xs → b ≠ a := fun {b u} e d z => by
        rw [z, ha] at e
        exact d (Option.some.inj e).symm
      have nn : ∀ {b : Addr}, H b = none → b ≠ a := fun {b} e z => by rw [z, ha] at e; cases e
      have at_ : ∀ {b : Addr}, b ≠ a → upd H a (.frz ob (.lst xs)) b = H b := fun {b} hb => upd_ne hb
      have hok' : HOk P w (upd H a (.frz ob (.lst xs))) s.heap := fun b u e => by
        by_cases hb : b = a
        · subst hb
          rw [upd_same] at e
          cases e
          exact ⟨ho, hz, its, n, rv, by rw [hob]; exact ho⟩
        · rw [at_ hb] at e
          exact (e0.hok b u e).stay (fun c v _ q => q) (fun c q => by rw [at_ (ne q (fun z => by cases z))]; exact q) fun c ys q => by rw [at_ (ne q (fun z => by cases z))]; exact q
      have e0' : Env0 P w K mg base A outer s (upd H a (.frz ob (.lst xs))) := ⟨e0.frames, e0.mod, fun b o e => ⟨(e0.bs b o e).1, by rw [at_ (nn (e0.bs b o e).2)]; exact (e0.bs b o e).2⟩, e0.bsz, e0.funs, fun b hb => by rw [at_ (nn (e0.frf b hb))]; exact e0.frf b hb, hok', e0.bare⟩
      refine codeAny_mono (F.run A outer s _ args us vs Q E hr e0' hb hv (h ob)) fun r s' hR => ?_
      cases r with
      | error e => exact hR
      | ok fl =>
        cases fl with
        | next => exact hR
        | brk => exact hR
        | cont => exact hR
        | ret u =>
          obtain ⟨v, H2, os, bare, un, hok2, rl, q⟩ := hR
          refine ⟨v, H2, os, bare, ⟨fun b o e n hb hx => un.keep b o e (by rw [at_ (nn n)]; exact n) hb hx, fun b o e n hb hx => un.slot b o e (by rw [at_ (nn n)]; exact n) hb hx, fun b o e n hx => un.free b o e (by rw [at_ (nn n)]; exact n) hx, un.there,
            fun b ys e => un.tups b ys (by rw [at_ (ne e (fun z => by cases z))]; exact e), fun b o ys e => un.frzs b o ys (by rw [at_ (ne e (fun z => by cases z))]; exact e), fun b qs e => un.tbls b qs (by rw [at_ (ne e (fun z => by cases z))]; exact e)⟩, hok2, rl, q⟩
theorem law_spT {tl : List Addr} (K : PySem.W.Frag) (H : Hp) (a : Addr) (ns : List Int) (hl : ns.length ≤ 63) (hT : ∀ P ∈ tl, TabG H P) (hf : FzL K H a (ns.map V.int)) : Lsp tl K 1 spLaw [.ref a] H (fun v _ => v = .bl true) fun _ _ _ => False := by
  refine ⟨hT, [.fl (ns.map .int)], fun _ => none, fun v _ => v = .bl true, fun _ _ => False, rfl, .cons (.fl hf (Reps.ints ns)) .nil, (fun b o q => by cases q), ⟨ns, rfl, hl, fun _ => rfl, fun _ => rfl⟩, fun v S e H' u _ _ r => ?_, fun _ _ _ q => q.elim⟩
  subst e
  cases r
  rfl
theorem law_spF {cs : List (Addr × Addr)} (K : PySem.W.Frag) (H : Hp) (a : Addr) (ns : List Int) (hl : ns.length ≤ 63) (hT : ∀ p ∈ cs, H p.2 = some (.tbl #[])) (hs : SqL K H a (ns.map V.int)) :
    (fun vs H Q E => Lsp (cs.map (·.2)) K 1 spLaw vs H Q E ∨ ∃ a xs, H a = some (.lst xs) ∧ ∀ o, Lsp (cs.map (·.2)) K 1 spLaw vs (upd H a (.frz o (.lst xs))) Q E) [.ref a] H (fun v _ => v = .bl true) fun _ _ _ => False := by
  have tg : ∀ P ∈ cs.map (·.2), TabG H P := fun P hP => by
    obtain ⟨p, hp, e⟩ := List.mem_map.mp hP
    subst e
    exact ⟨#[], hT p hp, by first | trivial | simp [TriplesOk]⟩
  rcases hs with (h | ⟨o, h⟩) | h
  · refine .inr ⟨a, _, h, fun o => law_spT K _ a ns hl (fun P hP => ?_) (.inl ⟨o, upd_same⟩)⟩
    obtain ⟨ps, e, t⟩ := tg P hP
    exact ⟨ps, by rw [upd_ne (fun z => by rw [z, h] at e; cases e)]; exact e, t⟩
  · exact .inl (law_spT K H a ns hl tg (.inl ⟨o, h⟩))
  · exact .inl (law_spT K H a ns hl tg (.inr h))
/-- the end: cs, the codes and tables of the defs that hold generator expressions -/
theorem law_walkT {l : PySem.W.OpenLaw} {k : Nat} {q : Program} {loose : List Str} {XP : (Str → Option Value) → Heap → Prop} {YP : World → Heap → Prop} {d : DefRec} {K : Params → PySem.W.Frag} {x : Str} (names : List Str)
    (hn : l.most = some 63) (hdf : d.params.defaults = []) (hr : Room k callerA) (hrec : (names.all fun x => (recsOf q).any fun e => e.name == x) = true)
    (hY : ∀ (w : World) (h : Heap), YP w h → (K w.params).In h)
    (F : ∀ (w : World) (mg : Str → Option Value) (fa : Addr) (h : Heap), (K w.params).In h → h.Ns mainGlobals mg → mg d.name = some (.ref fa) → TabsE (K w.params) mg h names →
      ∃ (fd : FuncData) (cs : List (Addr × Addr)), (∀ (s : Shared) (u : Value), BindsTo s fd ⟨[u], []⟩ [(x, u)]) ∧ (∀ p ∈ cs, h.get? p.2 = some { cls := .none, data := .fields #[] }) ∧ (∀ p ∈ cs, (K w.params).lookup p.2 = none) ∧ (∀ p ∈ cs, PySem.W.CodeHd h p.1 p.2) ∧
        ∀ base : Heap, (K w.params).In base → base.Ns mainGlobals mg → (∀ p ∈ cs, TabB base mg p.1 p.2) → FnOk l.prog w (K w.params) mg base CX0 k fa fd [x] (Lsp (cs.map (·.2)) (K w.params) 1 spLaw)) :
    PySem.W.WalkO q loose XP YP l.row.toRowW d [] (fun f vs => PySem.call f vs) := by
  refine Att.attach_callB hn hdf fun w s₀ s₁ mg mb fa o pm cd doc a vs ns G Y ho hd hcd hmg hobj hints hlen hbits hg => ?_
  have KX := hY w _ Y
  have tabs : TabsE (K w.params) mg s₁.heap names := fun x hx f fd c P k1 ⟨oc, od, osl, k2⟩ t => by
    obtain ⟨dL, hm, hn1⟩ := List.any_eq_true.mp (List.all_eq_true.mp hrec x hx)
    have hn2 : dL.name = x := beq_iff_eq.mp hn1
    obtain ⟨a', o', fd', c', P', h1, h2, h3, h4, h5, h6⟩ := G.T.tab dL hm
    rw [hn2, k1] at h1
    cases h1
    have g1 := KX _ _ k2
    rw [g1] at h2
    cases h2
    cases h3
    rw [t.code] at h4
    cases h4
    obtain ⟨e, dd, vs, sl, q1, q2⟩ := t.at_
    have hP := h6.2
    have hcd := PySem.W.CodeHd.of h5 h6
    obtain ⟨⟨oc2, vc, e1, _, e3, e4⟩, _⟩ := h6
    have g2 := KX _ _ q1
    rw [g2] at e1
    cases e1
    cases e3
    rw [q2] at e4
    cases e4
    exact ⟨hP, hcd⟩
  obtain ⟨fd, cs, hb, hT, nT, C, hF⟩ := F w mg fa _ KX G.T.g hmg tabs
  exact LamX.law_callTs KX G.T.g G.T.b G.T.builtins G.T.nolimit hg hT nT C G.T.bmain hobj hints (Nat.le_trans hlen (by decide)) hr (fun base hb hg2 hTB => fn_frz (hF base hb hg2 fun p hp => let z := hTB p hp; ⟨z.1, z.2, z.3⟩)) hb (fun H hH hS => law_spF (K w.params) H a ns hlen hH hS) fun H e s' h => h
end Wp

set_option Elab.async false
set_option linter.all false
set_option maxRecDepth 100000
namespace Gn
open PySem PySem.Spec PyProof.Rows L2 Wp
def topS (i : Nat) : Stmt := PySem.Challenge.pw_heldflows_k01_forms_of_names.main.body.getD i (.Pass ⟨0, 0, 0, 0⟩)
abbrev st_is_integer : Stmt := topS 5
abbrev N_is_integer : List Str := ["value", "least", "greatest"]
theorem sc_is_integer : FnScope N_is_integer ["value", "least", "greatest"] (defScope st_is_integer) := ⟨rfl, rfl, rfl, by decide +kernel, rfl, by decide +kernel, by decide +kernel⟩
abbrev st_is_bytes : Stmt := topS 6
abbrev N_is_bytes : List Str := ["value", "item"]
theorem sc_is_bytes : FnScope N_is_bytes ["value"] (defScope st_is_bytes) := ⟨rfl, rfl, rfl, by decide +kernel, rfl, by decide +kernel, by decide +kernel⟩
abbrev st_is_flow : Stmt := topS 7
abbrev N_is_flow : List Str := ["value"]
theorem sc_is_flow : FnScope N_is_flow ["value"] (defScope st_is_flow) := ⟨rfl, rfl, rfl, by decide +kernel, rfl, by decide +kernel, by decide +kernel⟩
abbrev st_is_birth : Stmt := topS 8
abbrev N_is_birth : List Str := ["value"]
theorem sc_is_birth : FnScope N_is_birth ["value"] (defScope st_is_birth) := ⟨rfl, rfl, rfl, by decide +kernel, rfl, by decide +kernel, by decide +kernel⟩
abbrev st_is_life : Stmt := topS 9
abbrev N_is_life : List Str := ["value"]
theorem sc_is_life : FnScope N_is_life ["value"] (defScope st_is_life) := ⟨rfl, rfl, rfl, by decide +kernel, rfl, by decide +kernel, by decide +kernel⟩
abbrev st_is_address : Stmt := topS 10
abbrev N_is_address : List Str := ["value", "word"]
theorem sc_is_address : FnScope N_is_address ["value"] (defScope st_is_address) := ⟨rfl, rfl, rfl, by decide +kernel, rfl, by decide +kernel, by decide +kernel⟩
abbrev st__is_tuple : Stmt := topS 12
abbrev N__is_tuple : List Str := ["value", "many"]
theorem sc__is_tuple : FnScope N__is_tuple ["value", "many"] (defScope st__is_tuple) := ⟨rfl, rfl, rfl, by decide +kernel, rfl, by decide +kernel, by decide +kernel⟩
abbrev st__is_below : Stmt := topS 13
abbrev N__is_below : List Str := ["value", "many"]
theorem sc__is_below : FnScope N__is_below ["value", "many"] (defScope st__is_below) := ⟨rfl, rfl, rfl, by decide +kernel, rfl, by decide +kernel, by decide +kernel⟩
abbrev st__is_ordinal : Stmt := topS 14
abbrev N__is_ordinal : List Str := ["value"]
theorem sc__is_ordinal : FnScope N__is_ordinal ["value"] (defScope st__is_ordinal) := ⟨rfl, rfl, rfl, by decide +kernel, rfl, by decide +kernel, by decide +kernel⟩
abbrev st_first_word : Stmt := topS 11
abbrev N_first_word : List Str := ["value"]
theorem sc_first_word : FnScope N_first_word ["value"] (defScope st_first_word) := ⟨rfl, rfl, rfl, by decide +kernel, rfl, by decide +kernel, by decide +kernel⟩
abbrev st__law_bag : Stmt := topS 16
abbrev N__law_bag : List Str := ["script", "k", "cell"]
theorem sc__law_bag : FnScope N__law_bag ["script", "k"] (defScope st__law_bag) := ⟨rfl, rfl, rfl, by decide +kernel, rfl, by decide +kernel, by decide +kernel⟩
abbrev st__law_draw : Stmt := topS 17
abbrev N__law_draw : List Str := ["bag", "many", "seed", "rest"]
theorem sc__law_draw : FnScope N__law_draw ["bag", "many"] (defScope st__law_draw) := ⟨rfl, rfl, rfl, by decide +kernel, rfl, by decide +kernel, by decide +kernel⟩
abbrev st__law_count : Stmt := topS 18
abbrev N__law_count : List Str := ["bag", "least"]
theorem sc__law_count : FnScope N__law_count ["bag", "least"] (defScope st__law_count) := ⟨rfl, rfl, rfl, by decide +kernel, rfl, by decide +kernel, by decide +kernel⟩
abbrev st__law_flow : Stmt := topS 19
abbrev N__law_flow : List Str := ["bag"]
theorem sc__law_flow : FnScope N__law_flow ["bag"] (defScope st__law_flow) := ⟨rfl, rfl, rfl, by decide +kernel, rfl, by decide +kernel, by decide +kernel⟩
abbrev st__law_birth : Stmt := topS 20
abbrev N__law_birth : List Str := ["bag"]
theorem sc__law_birth : FnScope N__law_birth ["bag"] (defScope st__law_birth) := ⟨rfl, rfl, rfl, by decide +kernel, rfl, by decide +kernel, by decide +kernel⟩
abbrev st__law_life : Stmt := topS 21
abbrev N__law_life : List Str := ["bag"]
theorem sc__law_life : FnScope N__law_life ["bag"] (defScope st__law_life) := ⟨rfl, rfl, rfl, by decide +kernel, rfl, by decide +kernel, by decide +kernel⟩
abbrev st__law_is_int : Stmt := topS 22
abbrev N__law_is_int : List Str := ["value", "least", "most"]
theorem sc__law_is_int : FnScope N__law_is_int ["value", "least", "most"] (defScope st__law_is_int) := ⟨rfl, rfl, rfl, by decide +kernel, rfl, by decide +kernel, by decide +kernel⟩
abbrev st__law_is_pair : Stmt := topS 23
abbrev N__law_is_pair : List Str := ["value", "more", "one"]
theorem sc__law_is_pair : FnScope N__law_is_pair ["value", "more"] (defScope st__law_is_pair) := ⟨rfl, rfl, rfl, by decide +kernel, rfl, by decide +kernel, by decide +kernel⟩
abbrev st__law_are_bytes : Stmt := topS 24
abbrev N__law_are_bytes : List Str := ["value", "one"]
theorem sc__law_are_bytes : FnScope N__law_are_bytes ["value"] (defScope st__law_are_bytes) := ⟨rfl, rfl, rfl, by decide +kernel, rfl, by decide +kernel, by decide +kernel⟩
abbrev st__law_spoilt : Stmt := topS 25
abbrev N__law_spoilt : List Str := ["bag", "value", "odd", "at", "choice"]
theorem sc__law_spoilt : FnScope N__law_spoilt ["bag", "value", "odd"] (defScope st__law_spoilt) := ⟨rfl, rfl, rfl, by decide +kernel, rfl, by decide +kernel, by decide +kernel⟩
abbrev st__law_is_address : Stmt := topS 26
abbrev N__law_is_address : List Str := ["value", "places"]
theorem sc__law_is_address : FnScope N__law_is_address ["value"] (defScope st__law_is_address) := ⟨rfl, rfl, rfl, by decide +kernel, rfl, by decide +kernel, by decide +kernel⟩
abbrev st__law_odd : Stmt := topS 27
abbrev N__law_odd : List Str := ["bag", "odd"]
theorem sc__law_odd : FnScope N__law_odd ["bag"] (defScope st__law_odd) := ⟨rfl, rfl, rfl, by decide +kernel, rfl, by decide +kernel, by decide +kernel⟩
abbrev st__law_tells : Stmt := topS 28
abbrev N__law_tells : List Str := ["actual", "due"]
theorem sc__law_tells : FnScope N__law_tells ["actual", "due"] (defScope st__law_tells) := ⟨rfl, rfl, rfl, by decide +kernel, rfl, by decide +kernel, by decide +kernel⟩
abbrev st__law_right : Stmt := topS 29
abbrev N__law_right : List Str := ["value"]
theorem sc__law_right : FnScope N__law_right ["value"] (defScope st__law_right) := ⟨rfl, rfl, rfl, by decide +kernel, rfl, by decide +kernel, by decide +kernel⟩
abbrev st_law : Stmt := topS 30
abbrev N_law : List Str := ["script", "k", "bag", "place", "row", "j", "value", "least", "most", "near"]
theorem sc_law : FnScope N_law ["script"] (defScope st_law) := ⟨rfl, rfl, rfl, by decide +kernel, rfl, by decide +kernel, by decide +kernel⟩
/-- what the top has left -/
structure Facts (K : PySem.W.Frag) (mg : Str → Option Value) : Prop where
  d_is_integer : DefT K mg "is_integer" st_is_integer ["value", "least", "greatest"]
  d_is_bytes : DefG K mg "is_bytes" st_is_bytes ["value"]
  d_is_flow : DefT K mg "is_flow" st_is_flow ["value"]
  d_is_birth : DefT K mg "is_birth" st_is_birth ["value"]
  d_is_life : DefT K mg "is_life" st_is_life ["value"]
  d_is_address : DefT K mg "is_address" st_is_address ["value"]
  d__is_tuple : DefT K mg "_is_tuple" st__is_tuple ["value", "many"]
  d__is_below : DefT K mg "_is_below" st__is_below ["value", "many"]
  d__is_ordinal : DefT K mg "_is_ordinal" st__is_ordinal ["value"]
  d_first_word : DefT K mg "first_word" st_first_word ["value"]
  d__law_bag : DefT K mg "_law_bag" st__law_bag ["script", "k"]
  d__law_draw : DefT K mg "_law_draw" st__law_draw ["bag", "many"]
  d__law_count : DefT K mg "_law_count" st__law_count ["bag", "least"]
  d__law_flow : DefT K mg "_law_flow" st__law_flow ["bag"]
  d__law_birth : DefT K mg "_law_birth" st__law_birth ["bag"]
  d__law_life : DefT K mg "_law_life" st__law_life ["bag"]
  d__law_is_int : DefT K mg "_law_is_int" st__law_is_int ["value", "least", "most"]
  d__law_is_pair : DefT K mg "_law_is_pair" st__law_is_pair ["value", "more"]
  d__law_are_bytes : DefT K mg "_law_are_bytes" st__law_are_bytes ["value"]
  d__law_spoilt : DefT K mg "_law_spoilt" st__law_spoilt ["bag", "value", "odd"]
  d__law_is_address : DefT K mg "_law_is_address" st__law_is_address ["value"]
  d__law_odd : DefT K mg "_law_odd" st__law_odd ["bag"]
  d__law_tells : DefT K mg "_law_tells" st__law_tells ["actual", "due"]
  d__law_right : DefT K mg "_law_right" st__law_right ["value"]
  d_law : DefT K mg "law" st_law ["script"]
  c_MOST_AGENTS : ∃ t, mg "MOST_AGENTS" = some (.int 6 t)
  c_MOST_CLIENTS : ∃ t, mg "MOST_CLIENTS" = some (.int 6 t)
  c_MOST_COUNT : ∃ t, mg "MOST_COUNT" = some (.int 1000000 t)
  c_MOST_MUXES : ∃ t, mg "MOST_MUXES" = some (.int 3 t)
  z_all : mg "all" = none
  z_bool : mg "bool" = none
  z_int : mg "int" = none
  z_isinstance : mg "isinstance" = none
  z_len : mg "len" = none
  z_max : mg "max" = none
  z_min : mg "min" = none
  z_range : mg "range" = none
  z_str : mg "str" = none
  z_tuple : mg "tuple" = none
def b_is_integer : WS :=
  (wRet (wAndV (wIsi "int" (wVar 0)) (wAndV (wNotV (wIsi "bool" (wVar 0))) (wChain rLe rLe (wVar 1) (wVar 0) (wVar 2)))))
def l1_is_bytes (s_is_integer : WSp) : WE :=
  (wCall 3 s_is_integer (wCons (wVar 1) (wCons (wC (.int 0)) (wCons (wC (.int 255)) wNil))))
def b_is_bytes (s_is_integer : WSp) : WS :=
  (wRet (wAndV (wIsi "tuple" (wVar 0)) (wAll (iSeqW (wVar 0)) (gNm 1) (l1_is_bytes s_is_integer) [1])))
def b_is_flow (s__is_tuple s__is_below s__is_ordinal : WSp) : WS :=
  (wRet (wAndV (wCall 2 s__is_tuple (wCons (wVar 0) (wCons (wC (.int 2)) wNil))) (wAndV (wCall 2 s__is_below (wCons (wOp rIx (wVar 0) (wC (.int 0))) (wCons (wC (.int 6)) wNil))) (wCall 1 s__is_ordinal (wCons (wOp rIx (wVar 0) (wC (.int 1))) wNil)))))
def b_is_birth (s__is_tuple s__is_below s__is_ordinal : WSp) : WS :=
  (wRet (wAndV (wCall 2 s__is_tuple (wCons (wVar 0) (wCons (wC (.int 2)) wNil))) (wAndV (wCall 2 s__is_below (wCons (wOp rIx (wVar 0) (wC (.int 0))) (wCons (wC (.int 6)) wNil))) (wCall 1 s__is_ordinal (wCons (wOp rIx (wVar 0) (wC (.int 1))) wNil)))))
def b_is_life (s__is_tuple s_is_birth s__is_ordinal : WSp) : WS :=
  (wRet (wAndV (wCall 2 s__is_tuple (wCons (wVar 0) (wCons (wC (.int 3)) wNil))) (wAndV (wCall 1 s_is_birth (wCons (wSl (wVar 0) wNoPart (wPart (wC (.int 2)))) wNil)) (wCall 1 s__is_ordinal (wCons (wOp rIx (wVar 0) (wC (.int 2))) wNil)))))
def b_is_address (s_first_word s__is_below : WSp) : WS :=
  (wSeq (wSet 1 (wCall 1 s_first_word (wCons (wVar 0) wNil)))
    (wSeq (wIfS (wTest (wOp (rEq false) (wVar 1) (wC (.str "controller")))) (wRet (wOp (rEq false) (wCB rLen (wCons (wVar 0) wNil)) (wC (.int 1)))) wNext)
    (wSeq (wIfS (wTest (wOp (rEq false) (wVar 1) (wC (.str "client")))) (wRet (wAndV (wOp (rEq false) (wCB rLen (wCons (wVar 0) wNil)) (wC (.int 2))) (wCall 2 s__is_below (wCons (wOp rIx (wVar 0) (wC (.int 1))) (wCons (wC (.int 6)) wNil))))) wNext)
    (wSeq (wIfS (wTest (wOp (rEq false) (wVar 1) (wC (.str "mux")))) (wRet (wAndV (wOp (rEq false) (wCB rLen (wCons (wVar 0) wNil)) (wC (.int 2))) (wCall 2 s__is_below (wCons (wOp rIx (wVar 0) (wC (.int 1))) (wCons (wC (.int 3)) wNil))))) wNext)
    (wSeq (wIfS (wTest (wOp (rEq false) (wVar 1) (wC (.str "agent")))) (wRet (wAndV (wOp (rEq false) (wCB rLen (wCons (wVar 0) wNil)) (wC (.int 2))) (wCall 2 s__is_below (wCons (wOp rIx (wVar 0) (wC (.int 1))) (wCons (wC (.int 6)) wNil))))) wNext)
    (wRet (wC (.bl false))))))))
def b__is_tuple : WS :=
  (wRet (wAndV (wIsi "tuple" (wVar 0)) (wOp (rEq false) (wCB rLen (wCons (wVar 0) wNil)) (wVar 1))))
def b__is_below (s_is_integer : WSp) : WS :=
  (wRet (wCall 3 s_is_integer (wCons (wVar 0) (wCons (wC (.int 0)) (wCons (wOp rSub (wVar 1) (wC (.int 1))) wNil)))))
def b__is_ordinal (s_is_integer : WSp) : WS :=
  (wRet (wCall 3 s_is_integer (wCons (wVar 0) (wCons (wC (.int 1)) (wCons (wC (.int 1000000)) wNil)))))
def b_first_word : WS :=
  (wSeq (wIfS (wAnd (wTest (wIsi "tuple" (wVar 0))) (wAnd (wTest (wOp rGtI (wCB rLen (wCons (wVar 0) wNil)) (wC (.int 0)))) (wTest (wIsi "str" (wOp rIx (wVar 0) (wC (.int 0))))))) (wRet (wOp rIx (wVar 0) (wC (.int 0)))) wNext)
    (wRet (wC .non)))
def b__law_bag : WS :=
  (wSeq (wSet 2 (wC (.int 0)))
    (wSeq (wIfS (wTest (wOp rLt (wVar 1) (wCB rLen (wCons (wVar 0) wNil)))) (wSet 2 (wCB rInt1 (wCons (wOp rIx (wVar 0) (wVar 1)) wNil))) wNext)
    (wSeq (wIfS (wTest (wOp rGeI (wVar 2) (wOp rPow (wC (.int 10)) (wC (.int 18))))) (wRet (wLst (wCons (wVar 2) (wCons (wVar 2) (wCons (wVar 1) wNil))))) wNext)
    (wRet (wLst (wCons (wC (.int 0)) (wCons (wVar 2) (wCons (wVar 1) wNil))))))))
def b__law_draw : WS :=
  (wSeq (wIfS (wTest (wOp (rEq false) (wOp rIx (wVar 0) (wC (.int 0))) (wC (.int 0)))) (wSeq (wSet 2 (wOp rMod (wCB rInt1 (wCons (wOp rAdd (wOp rAdd (wOp rMul (wOp rIx (wVar 0) (wC (.int 1))) (wC (.int 48271))) (wOp rMul (wOp rIx (wVar 0) (wC (.int 2))) (wC (.int 69621)))) (wC (.int 11))) wNil)) (wC (.int 2147483647))))
    (wSeq (wAsg (wOp rAdd (wOp rMul (wVar 2) (wC (.int 2147483629))) (wOp rMod (wCB rInt1 (wCons (wOp rAdd (wOp rMul (wVar 2) (wVar 2)) (wOp rMul (wOp rIx (wVar 0) (wC (.int 2))) (wC (.int 16807)))) wNil)) (wC (.int 2147483629)))) (gIx (wVar 0) (wC (.int 0))))
    (wAsg (wVar 2) (gIx (wVar 0) (wC (.int 1)))))) wNext)
    (wSeq (wSet 3 (wOp rIx (wVar 0) (wC (.int 0))))
    (wSeq (wAsg (wOp rFdiv (wVar 3) (wVar 1)) (gIx (wVar 0) (wC (.int 0))))
    (wRet (wOp rMod (wCB rInt1 (wCons (wVar 3) wNil)) (wVar 1))))))
def b__law_count (s__law_draw : WSp) : WS :=
  (wRet (wOp rIx (wLst (wCons (wVar 1) (wCons (wC (.int 1)) (wCons (wC (.int 2)) (wCons (wC (.int 999999)) (wCons (wC (.int 1000000)) (wCons (wOp rAdd (wC (.int 1)) (wCall 2 s__law_draw (wCons (wVar 0) (wCons (wC (.int 1000000)) wNil)))) wNil))))))) (wCall 2 s__law_draw (wCons (wVar 0) (wCons (wC (.int 6)) wNil)))))
def b__law_flow (s__law_count s__law_draw : WSp) : WS :=
  (wRet (wTup (wCons (wCall 2 s__law_draw (wCons (wVar 0) (wCons (wC (.int 6)) wNil))) (wCons (wCall 2 s__law_count (wCons (wVar 0) (wCons (wC (.int 1)) wNil))) wNil))))
def b__law_birth (s__law_count s__law_draw : WSp) : WS :=
  (wRet (wTup (wCons (wCall 2 s__law_draw (wCons (wVar 0) (wCons (wC (.int 6)) wNil))) (wCons (wCall 2 s__law_count (wCons (wVar 0) (wCons (wC (.int 1)) wNil))) wNil))))
def b__law_life (s__law_birth s__law_count : WSp) : WS :=
  (wRet (wOp rAdd (wCall 1 s__law_birth (wCons (wVar 0) wNil)) (wTup (wCons (wCall 2 s__law_count (wCons (wVar 0) (wCons (wC (.int 1)) wNil))) wNil))))
def b__law_is_int : WS :=
  (wRet (wAndV (wIsi "int" (wVar 0)) (wAndV (wNotV (wIsi "bool" (wVar 0))) (wAndV (wOp rLe (wVar 1) (wVar 0)) (wOp rLe (wVar 0) (wVar 2))))))
def l1__law_is_pair (s__law_is_int : WSp) : WE :=
  (wCall 3 s__law_is_int (wCons (wVar 2) (wCons (wC (.int 1)) (wCons (wC (.int 1000000)) wNil))))
def b__law_is_pair (s__law_is_int : WSp) : WS :=
  (wSeq (wIfS (wOr (wNot (wTest (wIsi "tuple" (wVar 0)))) (wOr (wTest (wOp (rEq true) (wCB rLen (wCons (wVar 0) wNil)) (wOp rAdd (wC (.int 2)) (wVar 1)))) (wNot (wTest (wCall 3 s__law_is_int (wCons (wOp rIx (wVar 0) (wC (.int 0))) (wCons (wC (.int 0)) (wCons (wC (.int 5)) wNil)))))))) (wRet (wC (.bl false))) wNext)
    (wRet (wOp (rIn true) (wC (.bl false)) (wLc (iSeqW (wSl (wVar 0) (wPart (wC (.int 1))) wNoPart)) (gNm 2) wYes (l1__law_is_pair s__law_is_int) [2]))))
def l1__law_are_bytes (s__law_is_int : WSp) : WE :=
  (wCall 3 s__law_is_int (wCons (wVar 1) (wCons (wC (.int 0)) (wCons (wC (.int 255)) wNil))))
def b__law_are_bytes (s__law_is_int : WSp) : WS :=
  (wRet (wAndV (wIsi "tuple" (wVar 0)) (wOp (rIn true) (wC (.bl false)) (wLc (iSeqW (wVar 0)) (gNm 1) wYes (l1__law_are_bytes s__law_is_int) [1]))))
def b__law_spoilt (s__law_draw s__law_spoilt : WSp) : WS :=
  (wSeq (wIfS (wOr (wNot (wTest (wIsi "tuple" (wVar 1)))) (wOr (wTest (wOp (rEq false) (wCB rLen (wCons (wVar 1) wNil)) (wC (.int 0)))) (wTest (wOp (rEq false) (wCall 2 s__law_draw (wCons (wVar 0) (wCons (wC (.int 7)) wNil))) (wC (.int 0)))))) (wRet (wVar 2)) wNext)
    (wSeq (wSet 3 (wCall 2 s__law_draw (wCons (wVar 0) (wCons (wCB rLen (wCons (wVar 1) wNil)) wNil))))
    (wSeq (wSet 4 (wCall 2 s__law_draw (wCons (wVar 0) (wCons (wC (.int 16)) wNil))))
    (wSeq (wIfS (wTest (wOp (rEq false) (wVar 4) (wC (.int 0)))) (wRet (wOp rAdd (wSl (wVar 1) wNoPart (wPart (wVar 3))) (wSl (wVar 1) (wPart (wOp rAdd (wVar 3) (wC (.int 1)))) wNoPart))) wNext)
    (wSeq (wIfS (wTest (wOp (rEq false) (wVar 4) (wC (.int 1)))) (wRet (wOp rAdd (wOp rAdd (wSl (wVar 1) wNoPart (wPart (wVar 3))) (wTup (wCons (wVar 2) wNil))) (wSl (wVar 1) (wPart (wVar 3)) wNoPart))) wNext)
    (wSeq (wIfS (wTest (wOp (rEq false) (wVar 4) (wC (.int 2)))) (wRet (wOp rAdd (wOp rAdd (wSl (wVar 1) wNoPart (wPart (wVar 3))) (wSl (wVar 1) (wPart (wVar 3)) (wPart (wOp rAdd (wVar 3) (wC (.int 1)))))) (wSl (wVar 1) (wPart (wVar 3)) wNoPart))) wNext)
    (wSeq (wIfS (wTest (wOp (rEq false) (wVar 4) (wC (.int 3)))) (wRet (wOp rAdd (wOp rAdd (wOp rAdd (wSl (wVar 1) wNoPart (wPart (wVar 3))) (wSl (wVar 1) (wPart (wOp rAdd (wVar 3) (wC (.int 1)))) (wPart (wOp rAdd (wVar 3) (wC (.int 2)))))) (wSl (wVar 1) (wPart (wVar 3)) (wPart (wOp rAdd (wVar 3) (wC (.int 1)))))) (wSl (wVar 1) (wPart (wOp rAdd (wVar 3) (wC (.int 2)))) wNoPart))) wNext)
    (wRet (wOp rAdd (wOp rAdd (wSl (wVar 1) wNoPart (wPart (wVar 3))) (wTup (wCons (wCall 3 s__law_spoilt (wCons (wVar 0) (wCons (wOp rIx (wVar 1) (wVar 3)) (wCons (wVar 2) wNil)))) wNil))) (wSl (wVar 1) (wPart (wOp rAdd (wVar 3) (wC (.int 1)))) wNoPart))))))))))
def b__law_is_address (s__law_is_int : WSp) : WS :=
  (wSeq (wIfS (wOr (wNot (wTest (wIsi "tuple" (wVar 0)))) (wOr (wTest (wOp (rIn true) (wCB rLen (wCons (wVar 0) wNil)) (wLst (wCons (wC (.int 1)) (wCons (wC (.int 2)) wNil))))) (wNot (wTest (wIsi "str" (wOp rIx (wVar 0) (wC (.int 0)))))))) (wRet (wC (.bl false))) wNext)
    (wSeq (wIfS (wTest (wOp (rEq false) (wCB rLen (wCons (wVar 0) wNil)) (wC (.int 1)))) (wRet (wOp (rEq false) (wOp rIx (wVar 0) (wC (.int 0))) (wC (.str "controller")))) wNext)
    (wSeq (wSet 1 (wLst (wCons (wC (.str "client")) (wCons (wC (.str "mux")) (wCons (wC (.str "agent")) wNil)))))
    (wRet (wAndV (wOp (rIn false) (wOp rIx (wVar 0) (wC (.int 0))) (wVar 1)) (wCall 3 s__law_is_int (wCons (wOp rIx (wVar 0) (wC (.int 1))) (wCons (wC (.int 0)) (wCons (wOp rIx (wLst (wCons (wC (.int 5)) (wCons (wC (.int 2)) (wCons (wC (.int 5)) wNil)))) (wMt rIndexT (wVar 1) (wCons (wOp rIx (wVar 0) (wC (.int 0))) wNil))) wNil)))))))))
def b__law_odd (s__law_draw : WSp) : WS :=
  (wSeq (wSet 1 (wLst (wCons (wC (.int 0)) (wCons (wC (.int 1)) (wCons (wC (.int 2)) (wCons (wC (.int 3)) (wCons (wC (.int 5)) (wCons (wC (.int 6)) (wCons (wNeg (wC (.int 1))) (wCons (wC (.int 255)) (wCons (wC (.int 256)) (wCons (wC (.int 1000000)) (wCons (wC (.int 1000001)) (wCons (wC (.bl true)) (wCons (wC (.bl false)) (wCons (wC .non) (wCons (wC (.str "")) (wCons (wC (.str "client")) (wCons (wC (.str "mux")) (wCons (wC (.str "agent")) (wCons (wC (.str "controller")) (wCons (wC (.str "agents")) wNil))))))))))))))))))))))
    (wSeq (wSet 1 (wOp rAdd (wVar 1) (wLst (wCons (wTup wNil) (wCons (wTup (wCons (wC (.int 0)) wNil)) (wCons (wTup (wCons (wC (.int 0)) (wCons (wC (.int 1)) wNil))) (wCons (wTup (wCons (wC (.int 0)) (wCons (wC (.int 1)) (wCons (wC (.int 1)) wNil)))) (wCons (wLst (wCons (wC (.int 0)) (wCons (wC (.int 1)) wNil))) (wCons (wTup (wCons (wC (.str "client")) (wCons (wC (.int 0)) wNil))) (wCons (wTup (wCons (wC (.str "controller")) wNil)) (wCons (wTup (wCons (wC (.str "mux")) (wCons (wC (.int 2)) wNil))) (wCons (wOp rPow (wC (.int 10)) (wC (.int 30))) (wCons (wC (.str "0")) wNil)))))))))))))
    (wRet (wOp rIx (wVar 1) (wCall 2 s__law_draw (wCons (wVar 0) (wCons (wC (.int 30)) wNil)))))))
def b__law_tells : WS :=
  (wRet (wAndV (wIsi "bool" (wVar 0)) (wOp (rEq false) (wVar 0) (wVar 1))))
def b__law_right (s__law_tells s__law_is_pair s_is_flow s_is_birth s_is_life s__law_is_address s_is_address s__law_are_bytes s_is_bytes : WSp) : WS :=
  (wSeq (wIfS (wOr (wNot (wTest (wCall 2 s__law_tells (wCons (wCall 1 s_is_flow (wCons (wVar 0) wNil)) (wCons (wCall 2 s__law_is_pair (wCons (wVar 0) (wCons (wC (.int 0)) wNil))) wNil))))) (wNot (wTest (wCall 2 s__law_tells (wCons (wCall 1 s_is_birth (wCons (wVar 0) wNil)) (wCons (wCall 2 s__law_is_pair (wCons (wVar 0) (wCons (wC (.int 0)) wNil))) wNil)))))) (wRet (wC (.bl false))) wNext)
    (wSeq (wIfS (wOr (wNot (wTest (wCall 2 s__law_tells (wCons (wCall 1 s_is_life (wCons (wVar 0) wNil)) (wCons (wCall 2 s__law_is_pair (wCons (wVar 0) (wCons (wC (.int 1)) wNil))) wNil))))) (wNot (wTest (wCall 2 s__law_tells (wCons (wCall 1 s_is_address (wCons (wVar 0) wNil)) (wCons (wCall 1 s__law_is_address (wCons (wVar 0) wNil)) wNil)))))) (wRet (wC (.bl false))) wNext)
    (wRet (wCall 2 s__law_tells (wCons (wCall 1 s_is_bytes (wCons (wVar 0) wNil)) (wCons (wCall 1 s__law_are_bytes (wCons (wVar 0) wNil)) wNil))))))
def l1_law (s__law_bag s__law_draw s__law_life s__law_flow s__law_right s__law_spoilt s__law_odd s__law_tells s__law_is_int s_is_integer : WSp) : WE :=
  (wCall 2 s__law_draw (wCons (wVar 2) (wCons (wC (.int 256)) wNil)))
def l2_law (s__law_bag s__law_draw s__law_life s__law_flow s__law_right s__law_spoilt s__law_odd s__law_tells s__law_is_int s_is_integer : WSp) : WS :=
  (wIfS (wOr (wNot (wTest (wCall 1 s__law_right (wCons (wVar 6) wNil)))) (wNot (wTest (wCall 1 s__law_right (wCons (wCall 3 s__law_spoilt (wCons (wVar 2) (wCons (wVar 6) (wCons (wCall 1 s__law_odd (wCons (wVar 2) wNil)) wNil)))) wNil))))) (wRet (wC (.bl false))) wNext)
def l3_law (s__law_bag s__law_draw s__law_life s__law_flow s__law_right s__law_spoilt s__law_odd s__law_tells s__law_is_int s_is_integer : WSp) : WS :=
  (wSeq (wSet 2 (wCall 2 s__law_bag (wCons (wVar 0) (wCons (wVar 1) wNil))))
    (wSeq (wSet 3 (wLst (wCons (wTup (wCons (wC (.str "client")) (wCons (wCall 2 s__law_draw (wCons (wVar 2) (wCons (wC (.int 7)) wNil))) wNil))) (wCons (wTup (wCons (wC (.str "mux")) (wCons (wCall 2 s__law_draw (wCons (wVar 2) (wCons (wC (.int 4)) wNil))) wNil))) (wCons (wTup (wCons (wC (.str "agent")) (wCons (wCall 2 s__law_draw (wCons (wVar 2) (wCons (wC (.int 7)) wNil))) wNil))) (wCons (wTup (wCons (wC (.str "controller")) wNil)) wNil))))))
    (wSeq (wSet 4 (wCB rTupOf (wCons (wLc (iRg1 (wCons (wCall 2 s__law_draw (wCons (wVar 2) (wCons (wC (.int 5)) wNil))) wNil)) (gNm 5) wYes (l1_law s__law_bag s__law_draw s__law_life s__law_flow s__law_right s__law_spoilt s__law_odd s__law_tells s__law_is_int s_is_integer) [5]) wNil)))
    (wSeq (wFor (iSeqW (wLst (wCons (wCall 1 s__law_flow (wCons (wVar 2) wNil)) (wCons (wCall 1 s__law_life (wCons (wVar 2) wNil)) (wCons (wOp rIx (wVar 3) (wCall 2 s__law_draw (wCons (wVar 2) (wCons (wC (.int 4)) wNil)))) (wCons (wVar 4) wNil)))))) (gNm 6) (l2_law s__law_bag s__law_draw s__law_life s__law_flow s__law_right s__law_spoilt s__law_odd s__law_tells s__law_is_int s_is_integer))
    (wSeq (wSet 6 (wCall 1 s__law_odd (wCons (wVar 2) wNil)))
    (wSeq (wSet 7 (wOp rIx (wLst (wCons (wC (.int 0)) (wCons (wC (.int 1)) (wCons (wNeg (wC (.int 3))) (wCons (wC (.int 255)) (wCons (wC (.int 1000000)) wNil)))))) (wCall 2 s__law_draw (wCons (wVar 2) (wCons (wC (.int 5)) wNil)))))
    (wSeq (wSet 8 (wOp rAdd (wVar 7) (wOp rIx (wLst (wCons (wC (.int 0)) (wCons (wC (.int 1)) (wCons (wC (.int 2)) (wCons (wOp rPow (wC (.int 10)) (wC (.int 6))) wNil))))) (wCall 2 s__law_draw (wCons (wVar 2) (wCons (wC (.int 4)) wNil))))))
    (wSeq (wIfS (wNot (wTest (wCall 2 s__law_tells (wCons (wCall 3 s_is_integer (wCons (wVar 6) (wCons (wVar 7) (wCons (wVar 8) wNil)))) (wCons (wCall 3 s__law_is_int (wCons (wVar 6) (wCons (wVar 7) (wCons (wVar 8) wNil)))) wNil))))) (wRet (wC (.bl false))) wNext)
    (wSeq (wSet 9 (wOp rSub (wOp rAdd (wVar 7) (wCall 2 s__law_draw (wCons (wVar 2) (wCons (wC (.int 5)) wNil)))) (wC (.int 2))))
    (wIfS (wNot (wTest (wCall 2 s__law_tells (wCons (wCall 3 s_is_integer (wCons (wVar 9) (wCons (wVar 7) (wCons (wVar 8) wNil)))) (wCons (wAndV (wOp rLe (wVar 7) (wVar 9)) (wOp rLe (wVar 9) (wVar 8))) wNil))))) (wRet (wC (.bl false))) wNext))))))))))
def b_law (s__law_bag s__law_draw s__law_life s__law_flow s__law_right s__law_spoilt s__law_odd s__law_tells s__law_is_int s_is_integer : WSp) : WS :=
  (wSeq (wFor (iRg1 (wCons (wCB rMax2 (wCons (wC (.int 1)) (wCons (wCB rMin2 (wCons (wC (.int 20)) (wCons (wCB rLen (wCons (wVar 0) wNil)) wNil))) wNil))) wNil)) (gNm 1) (l3_law s__law_bag s__law_draw s__law_life s__law_flow s__law_right s__law_spoilt s__law_odd s__law_tells s__law_is_int s_is_integer))
    (wRet (wC (.bl true))))
section
variable {P : Program} {w : World} {K : PySem.W.Frag} {mg : Str → Option Value} {base : Heap}
theorem fn_is_integer (T : Facts K mg) {k : Nat} {f : Addr} {fd : FuncData} {tl : List Addr}  {sp : WSp} (F : Fun K "is_integer" "is_integer" st_is_integer f fd) 
    (hw : ∀ ts S Q E, ts.length = 3 → sp ts S Q E → b_is_integer  { nx := fun _ S' => Q .non S', rt := Q } (startT N_is_integer ts) S) :
    FnOk P w K mg base CX0 (k + 1) f fd ["value", "least", "greatest"] (Lsp tl K 3 sp) :=
  fnT F sc_is_integer (fun cdv A outer s H E hr hcd ht => (jss_one (js_ret (j_and (j_isi (cs := "int") (by rfl) T.z_isinstance (by rfl) (j_var 0) (by rfl) T.z_int (by rfl) (by decide)) (j_and (j_not (j_isi (cs := "bool") (by rfl) T.z_isinstance (by rfl) (j_var 0) (by rfl) T.z_bool (by rfl) (by decide))) (j_one (j_chain o_le o_le (j_var 1) (j_var 0) (j_var 2)))))))) hw
theorem fn_is_bytes (T : Facts K mg) {k : Nat} {f : Addr} {fd : FuncData} {tl : List Addr} {s_is_integer : WSp} {sp : WSp} (F : Fun K "is_bytes" "is_bytes" st_is_bytes f fd) {cT PT : Addr} (t1 : Tab1 base mg tl fd cT PT) (C_is_integer : Cal P w K mg base tl k "is_integer" ["value", "least", "greatest"] s_is_integer)
    (hw : ∀ ts S Q E, ts.length = 1 → sp ts S Q E → b_is_bytes s_is_integer { nx := fun _ S' => Q .non S', rt := Q } (startT N_is_bytes ts) S) :
    FnOk P w K mg base CX0 (k + 2) f fd ["value"] (Lsp tl K 1 sp) :=
  fnT F sc_is_bytes (fun cdv A outer s H E hr1 hcd ht => have hr := Room.mono hr1 (Nat.le_succ k); (jss_one (js_ret (j_and (j_isi (cs := "tuple") (by rfl) T.z_isinstance (by rfl) (j_var 0) (by rfl) T.z_tuple (by rfl) (by decide)) (j_one (j_all (own := [("item", 1)]) hr1 t1 hcd ht rfl sc_is_bytes.nd (blkOk_by (N := N_is_bytes) (sc := defScope st_is_bytes) (by decide +kernel)) (by decide +kernel) (ji_seq (j_var 0)) (fun _ => rfl) (fun _ _ _ _ _ _ _ hr => (jg_name (i := 1) (vs := [1]) sc_is_bytes.nd rfl (by first | exact .inl rfl | exact .inr rfl) (by decide))) (fun _ _ _ _ _ _ _ hr => (j_c C_is_integer ht hr (by rfl) (ja_cons (j_var 1) (ja_cons j_int (ja_cons j_int ja_nil))))) (by rfl) T.z_all)))))) hw
theorem fn_is_flow (T : Facts K mg) {k : Nat} {f : Addr} {fd : FuncData} {tl : List Addr} {s__is_tuple s__is_below s__is_ordinal : WSp} {sp : WSp} (F : Fun K "is_flow" "is_flow" st_is_flow f fd) (C__is_tuple : Cal P w K mg base tl k "_is_tuple" ["value", "many"] s__is_tuple) (C__is_below : Cal P w K mg base tl k "_is_below" ["value", "many"] s__is_below) (C__is_ordinal : Cal P w K mg base tl k "_is_ordinal" ["value"] s__is_ordinal)
    (hw : ∀ ts S Q E, ts.length = 1 → sp ts S Q E → b_is_flow s__is_tuple s__is_below s__is_ordinal { nx := fun _ S' => Q .non S', rt := Q } (startT N_is_flow ts) S) :
    FnOk P w K mg base CX0 (k + 1) f fd ["value"] (Lsp tl K 1 sp) :=
  fnT F sc_is_flow (fun cdv A outer s H E hr hcd ht => (jss_one (js_ret (j_and (j_c C__is_tuple ht hr (by rfl) (ja_cons (j_var 0) (ja_cons j_int ja_nil))) (j_and (j_c C__is_below ht hr (by rfl) (ja_cons (j_ix (j_var 0) j_int (fun _ _ => rfl)) (ja_cons (j_cI (by rfl) T.c_MOST_CLIENTS) ja_nil))) (j_one (j_c C__is_ordinal ht hr (by rfl) (ja_cons (j_ix (j_var 0) j_int (fun _ _ => rfl)) ja_nil)))))))) hw
theorem fn_is_birth (T : Facts K mg) {k : Nat} {f : Addr} {fd : FuncData} {tl : List Addr} {s__is_tuple s__is_below s__is_ordinal : WSp} {sp : WSp} (F : Fun K "is_birth" "is_birth" st_is_birth f fd) (C__is_tuple : Cal P w K mg base tl k "_is_tuple" ["value", "many"] s__is_tuple) (C__is_below : Cal P w K mg base tl k "_is_below" ["value", "many"] s__is_below) (C__is_ordinal : Cal P w K mg base tl k "_is_ordinal" ["value"] s__is_ordinal)
    (hw : ∀ ts S Q E, ts.length = 1 → sp ts S Q E → b_is_birth s__is_tuple s__is_below s__is_ordinal { nx := fun _ S' => Q .non S', rt := Q } (startT N_is_birth ts) S) :
    FnOk P w K mg base CX0 (k + 1) f fd ["value"] (Lsp tl K 1 sp) :=
  fnT F sc_is_birth (fun cdv A outer s H E hr hcd ht => (jss_one (js_ret (j_and (j_c C__is_tuple ht hr (by rfl) (ja_cons (j_var 0) (ja_cons j_int ja_nil))) (j_and (j_c C__is_below ht hr (by rfl) (ja_cons (j_ix (j_var 0) j_int (fun _ _ => rfl)) (ja_cons (j_cI (by rfl) T.c_MOST_AGENTS) ja_nil))) (j_one (j_c C__is_ordinal ht hr (by rfl) (ja_cons (j_ix (j_var 0) j_int (fun _ _ => rfl)) ja_nil)))))))) hw
theorem fn_is_life (T : Facts K mg) {k : Nat} {f : Addr} {fd : FuncData} {tl : List Addr} {s__is_tuple s_is_birth s__is_ordinal : WSp} {sp : WSp} (F : Fun K "is_life" "is_life" st_is_life f fd) (C__is_tuple : Cal P w K mg base tl k "_is_tuple" ["value", "many"] s__is_tuple) (C_is_birth : Cal P w K mg base tl k "is_birth" ["value"] s_is_birth) (C__is_ordinal : Cal P w K mg base tl k "_is_ordinal" ["value"] s__is_ordinal)
    (hw : ∀ ts S Q E, ts.length = 1 → sp ts S Q E → b_is_life s__is_tuple s_is_birth s__is_ordinal { nx := fun _ S' => Q .non S', rt := Q } (startT N_is_life ts) S) :
    FnOk P w K mg base CX0 (k + 1) f fd ["value"] (Lsp tl K 1 sp) :=
  fnT F sc_is_life (fun cdv A outer s H E hr hcd ht => (jss_one (js_ret (j_and (j_c C__is_tuple ht hr (by rfl) (ja_cons (j_var 0) (ja_cons j_int ja_nil))) (j_and (j_c C_is_birth ht hr (by rfl) (ja_cons (j_slice (j_var 0) jo_none (jo_some j_int)) ja_nil)) (j_one (j_c C__is_ordinal ht hr (by rfl) (ja_cons (j_ix (j_var 0) j_int (fun _ _ => rfl)) ja_nil)))))))) hw
theorem fn_is_address (T : Facts K mg) {k : Nat} {f : Addr} {fd : FuncData} {tl : List Addr} {s_first_word s__is_below : WSp} {sp : WSp} (F : Fun K "is_address" "is_address" st_is_address f fd) (C_first_word : Cal P w K mg base tl k "first_word" ["value"] s_first_word) (C__is_below : Cal P w K mg base tl k "_is_below" ["value", "many"] s__is_below)
    (hw : ∀ ts S Q E, ts.length = 1 → sp ts S Q E → b_is_address s_first_word s__is_below { nx := fun _ S' => Q .non S', rt := Q } (startT N_is_address ts) S) :
    FnOk P w K mg base CX0 (k + 1) f fd ["value"] (Lsp tl K 1 sp) :=
  fnT F sc_is_address (fun cdv A outer s H E hr hcd ht => (jss_cons (js_set (i := 1) sc_is_address.nd rfl (by first | exact .inl rfl | exact .inr rfl) (j_c C_first_word ht hr (by rfl) (ja_cons (j_var 0) ja_nil)))
    (jss_cons (js_if (jt_cmp (o_eq hr.units) (j_var 1) j_str (nomark _)) (jss_one (js_ret (j_cmp (o_eq hr.units) (j_callB c_len (by rfl) T.z_len PySem.boot_len (ja_cons (j_var 0) ja_nil)) j_int (nomark _)))) jss_nil)
    (jss_cons (js_if (jt_cmp (o_eq hr.units) (j_var 1) j_str (nomark _)) (jss_one (js_ret (j_and (j_cmp (o_eq hr.units) (j_callB c_len (by rfl) T.z_len PySem.boot_len (ja_cons (j_var 0) ja_nil)) j_int (nomark _)) (j_one (j_c C__is_below ht hr (by rfl) (ja_cons (j_ix (j_var 0) j_int (fun _ _ => rfl)) (ja_cons (j_cI (by rfl) T.c_MOST_CLIENTS) ja_nil))))))) jss_nil)
    (jss_cons (js_if (jt_cmp (o_eq hr.units) (j_var 1) j_str (nomark _)) (jss_one (js_ret (j_and (j_cmp (o_eq hr.units) (j_callB c_len (by rfl) T.z_len PySem.boot_len (ja_cons (j_var 0) ja_nil)) j_int (nomark _)) (j_one (j_c C__is_below ht hr (by rfl) (ja_cons (j_ix (j_var 0) j_int (fun _ _ => rfl)) (ja_cons (j_cI (by rfl) T.c_MOST_MUXES) ja_nil))))))) jss_nil)
    (jss_cons (js_if (jt_cmp (o_eq hr.units) (j_var 1) j_str (nomark _)) (jss_one (js_ret (j_and (j_cmp (o_eq hr.units) (j_callB c_len (by rfl) T.z_len PySem.boot_len (ja_cons (j_var 0) ja_nil)) j_int (nomark _)) (j_one (j_c C__is_below ht hr (by rfl) (ja_cons (j_ix (j_var 0) j_int (fun _ _ => rfl)) (ja_cons (j_cI (by rfl) T.c_MOST_AGENTS) ja_nil))))))) jss_nil)
    (jss_one (js_ret j_bl)))))))) hw
theorem fn__is_tuple (T : Facts K mg) {k : Nat} {f : Addr} {fd : FuncData} {tl : List Addr}  {sp : WSp} (F : Fun K "_is_tuple" "_is_tuple" st__is_tuple f fd) 
    (hw : ∀ ts S Q E, ts.length = 2 → sp ts S Q E → b__is_tuple  { nx := fun _ S' => Q .non S', rt := Q } (startT N__is_tuple ts) S) :
    FnOk P w K mg base CX0 (k + 1) f fd ["value", "many"] (Lsp tl K 2 sp) :=
  fnT F sc__is_tuple (fun cdv A outer s H E hr hcd ht => (jss_one (js_ret (j_and (j_isi (cs := "tuple") (by rfl) T.z_isinstance (by rfl) (j_var 0) (by rfl) T.z_tuple (by rfl) (by decide)) (j_one (j_cmp (o_eq hr.units) (j_callB c_len (by rfl) T.z_len PySem.boot_len (ja_cons (j_var 0) ja_nil)) (j_var 1) (nomark _))))))) hw
theorem fn__is_below (T : Facts K mg) {k : Nat} {f : Addr} {fd : FuncData} {tl : List Addr} {s_is_integer : WSp} {sp : WSp} (F : Fun K "_is_below" "_is_below" st__is_below f fd) (C_is_integer : Cal P w K mg base tl k "is_integer" ["value", "least", "greatest"] s_is_integer)
    (hw : ∀ ts S Q E, ts.length = 2 → sp ts S Q E → b__is_below s_is_integer { nx := fun _ S' => Q .non S', rt := Q } (startT N__is_below ts) S) :
    FnOk P w K mg base CX0 (k + 1) f fd ["value", "many"] (Lsp tl K 2 sp) :=
  fnT F sc__is_below (fun cdv A outer s H E hr hcd ht => (jss_one (js_ret (j_c C_is_integer ht hr (by rfl) (ja_cons (j_var 0) (ja_cons j_int (ja_cons (j_op o_sub (j_var 1) j_int) ja_nil))))))) hw
theorem fn__is_ordinal (T : Facts K mg) {k : Nat} {f : Addr} {fd : FuncData} {tl : List Addr} {s_is_integer : WSp} {sp : WSp} (F : Fun K "_is_ordinal" "_is_ordinal" st__is_ordinal f fd) (C_is_integer : Cal P w K mg base tl k "is_integer" ["value", "least", "greatest"] s_is_integer)
    (hw : ∀ ts S Q E, ts.length = 1 → sp ts S Q E → b__is_ordinal s_is_integer { nx := fun _ S' => Q .non S', rt := Q } (startT N__is_ordinal ts) S) :
    FnOk P w K mg base CX0 (k + 1) f fd ["value"] (Lsp tl K 1 sp) :=
  fnT F sc__is_ordinal (fun cdv A outer s H E hr hcd ht => (jss_one (js_ret (j_c C_is_integer ht hr (by rfl) (ja_cons (j_var 0) (ja_cons j_int (ja_cons (j_cI (by rfl) T.c_MOST_COUNT) ja_nil))))))) hw
theorem fn_first_word (T : Facts K mg) {k : Nat} {f : Addr} {fd : FuncData} {tl : List Addr}  {sp : WSp} (F : Fun K "first_word" "first_word" st_first_word f fd) 
    (hw : ∀ ts S Q E, ts.length = 1 → sp ts S Q E → b_first_word  { nx := fun _ S' => Q .non S', rt := Q } (startT N_first_word ts) S) :
    FnOk P w K mg base CX0 (k + 1) f fd ["value"] (Lsp tl K 1 sp) :=
  fnT F sc_first_word (fun cdv A outer s H E hr hcd ht => (jss_cons (js_if (JW.jt (jw_and (jt_val (j_isi (cs := "tuple") (by rfl) T.z_isinstance (by rfl) (j_var 0) (by rfl) T.z_tuple (by rfl) (by decide))) (jw_and (jt_cmp o_gt (j_callB c_len (by rfl) T.z_len PySem.boot_len (ja_cons (j_var 0) ja_nil)) j_int (nomark _)) (jw_and1 (jt_val (j_isi (cs := "str") (by rfl) T.z_isinstance (by rfl) (j_ix (j_var 0) j_int (fun _ _ => rfl)) (by rfl) T.z_str (by rfl) (by decide))))))) (jss_one (js_ret (j_ix (j_var 0) j_int (fun _ _ => rfl)))) jss_nil)
    (jss_one (js_ret j_non)))) hw
theorem fn__law_bag (T : Facts K mg) {k : Nat} {f : Addr} {fd : FuncData} {tl : List Addr}  {sp : WSp} (F : Fun K "_law_bag" "_law_bag" st__law_bag f fd) 
    (hw : ∀ ts S Q E, ts.length = 2 → sp ts S Q E → b__law_bag  { nx := fun _ S' => Q .non S', rt := Q } (startT N__law_bag ts) S) :
    FnOk P w K mg base CX0 (k + 1) f fd ["script", "k"] (Lsp tl K 2 sp) :=
  fnT F sc__law_bag (fun cdv A outer s H E hr hcd ht => (jss_cons (js_set (i := 2) sc__law_bag.nd rfl (by first | exact .inl rfl | exact .inr rfl) j_int)
    (jss_cons (js_if (jt_cmp o_lt (j_var 1) (j_callB c_len (by rfl) T.z_len PySem.boot_len (ja_cons (j_var 0) ja_nil)) (nomark _)) (jss_one (js_set (i := 2) sc__law_bag.nd rfl (by first | exact .inl rfl | exact .inr rfl) (j_callTy c_int (by rfl) T.z_int (by rfl) (ja_cons (j_ix (j_var 0) (j_var 1) (fun _ _ => rfl)) ja_nil)))) jss_nil)
    (jss_cons (js_if (jt_cmp o_ge (j_var 2) (j_op o_pow j_int j_int) (nomark _)) (jss_one (js_ret (j_lst (ja_cons (j_var 2) (ja_cons (j_var 2) (ja_cons (j_var 1) ja_nil)))))) jss_nil)
    (jss_one (js_ret (j_lst (ja_cons j_int (ja_cons (j_var 2) (ja_cons (j_var 1) ja_nil)))))))))) hw
theorem fn__law_draw (T : Facts K mg) {k : Nat} {f : Addr} {fd : FuncData} {tl : List Addr}  {sp : WSp} (F : Fun K "_law_draw" "_law_draw" st__law_draw f fd) 
    (hw : ∀ ts S Q E, ts.length = 2 → sp ts S Q E → b__law_draw  { nx := fun _ S' => Q .non S', rt := Q } (startT N__law_draw ts) S) :
    FnOk P w K mg base CX0 (k + 1) f fd ["bag", "many"] (Lsp tl K 2 sp) :=
  fnT F sc__law_draw (fun cdv A outer s H E hr hcd ht => (jss_cons (js_if (jt_cmp (o_eq hr.units) (j_ix (j_var 0) j_int (fun _ _ => rfl)) j_int (nomark _)) (jss_cons (js_set (i := 2) sc__law_draw.nd rfl (by first | exact .inl rfl | exact .inr rfl) (j_op o_mod (j_callTy c_int (by rfl) T.z_int (by rfl) (ja_cons (j_op o_add (j_op o_add (j_op o_mul (j_ix (j_var 0) j_int (fun _ _ => rfl)) j_int) (j_op o_mul (j_ix (j_var 0) j_int (fun _ _ => rfl)) j_int)) j_int) ja_nil)) j_int))
    (jss_cons (js_asg (j_op o_add (j_op o_mul (j_var 2) j_int) (j_op o_mod (j_callTy c_int (by rfl) T.z_int (by rfl) (ja_cons (j_op o_add (j_op o_mul (j_var 2) (j_var 2)) (j_op o_mul (j_ix (j_var 0) j_int (fun _ _ => rfl)) j_int)) ja_nil)) j_int)) (jg_ix (j_var 0) j_int))
    (jss_one (js_asg (j_var 2) (jg_ix (j_var 0) j_int))))) jss_nil)
    (jss_cons (js_set (i := 3) sc__law_draw.nd rfl (by first | exact .inl rfl | exact .inr rfl) (j_ix (j_var 0) j_int (fun _ _ => rfl)))
    (jss_cons (js_asg (j_op o_fdiv (j_var 3) (j_var 1)) (jg_ix (j_var 0) j_int))
    (jss_one (js_ret (j_op o_mod (j_callTy c_int (by rfl) T.z_int (by rfl) (ja_cons (j_var 3) ja_nil)) (j_var 1)))))))) hw
theorem fn__law_count (T : Facts K mg) {k : Nat} {f : Addr} {fd : FuncData} {tl : List Addr} {s__law_draw : WSp} {sp : WSp} (F : Fun K "_law_count" "_law_count" st__law_count f fd) (C__law_draw : Cal P w K mg base tl k "_law_draw" ["bag", "many"] s__law_draw)
    (hw : ∀ ts S Q E, ts.length = 2 → sp ts S Q E → b__law_count s__law_draw { nx := fun _ S' => Q .non S', rt := Q } (startT N__law_count ts) S) :
    FnOk P w K mg base CX0 (k + 1) f fd ["bag", "least"] (Lsp tl K 2 sp) :=
  fnT F sc__law_count (fun cdv A outer s H E hr hcd ht => (jss_one (js_ret (j_ix (j_lst (ja_cons (j_var 1) (ja_cons j_int (ja_cons j_int (ja_cons j_int (ja_cons j_int (ja_cons (j_op o_add j_int (j_c C__law_draw ht hr (by rfl) (ja_cons (j_var 0) (ja_cons j_int ja_nil)))) ja_nil))))))) (j_c C__law_draw ht hr (by rfl) (ja_cons (j_var 0) (ja_cons j_int ja_nil))) (fun _ _ => rfl))))) hw
theorem fn__law_flow (T : Facts K mg) {k : Nat} {f : Addr} {fd : FuncData} {tl : List Addr} {s__law_count s__law_draw : WSp} {sp : WSp} (F : Fun K "_law_flow" "_law_flow" st__law_flow f fd) (C__law_count : Cal P w K mg base tl k "_law_count" ["bag", "least"] s__law_count) (C__law_draw : Cal P w K mg base tl k "_law_draw" ["bag", "many"] s__law_draw)
    (hw : ∀ ts S Q E, ts.length = 1 → sp ts S Q E → b__law_flow s__law_count s__law_draw { nx := fun _ S' => Q .non S', rt := Q } (startT N__law_flow ts) S) :
    FnOk P w K mg base CX0 (k + 1) f fd ["bag"] (Lsp tl K 1 sp) :=
  fnT F sc__law_flow (fun cdv A outer s H E hr hcd ht => (jss_one (js_ret (j_tup (ja_cons (j_c C__law_draw ht hr (by rfl) (ja_cons (j_var 0) (ja_cons j_int ja_nil))) (ja_cons (j_c C__law_count ht hr (by rfl) (ja_cons (j_var 0) (ja_cons j_int ja_nil))) ja_nil)))))) hw
theorem fn__law_birth (T : Facts K mg) {k : Nat} {f : Addr} {fd : FuncData} {tl : List Addr} {s__law_count s__law_draw : WSp} {sp : WSp} (F : Fun K "_law_birth" "_law_birth" st__law_birth f fd) (C__law_count : Cal P w K mg base tl k "_law_count" ["bag", "least"] s__law_count) (C__law_draw : Cal P w K mg base tl k "_law_draw" ["bag", "many"] s__law_draw)
    (hw : ∀ ts S Q E, ts.length = 1 → sp ts S Q E → b__law_birth s__law_count s__law_draw { nx := fun _ S' => Q .non S', rt := Q } (startT N__law_birth ts) S) :
    FnOk P w K mg base CX0 (k + 1) f fd ["bag"] (Lsp tl K 1 sp) :=
  fnT F sc__law_birth (fun cdv A outer s H E hr hcd ht => (jss_one (js_ret (j_tup (ja_cons (j_c C__law_draw ht hr (by rfl) (ja_cons (j_var 0) (ja_cons j_int ja_nil))) (ja_cons (j_c C__law_count ht hr (by rfl) (ja_cons (j_var 0) (ja_cons j_int ja_nil))) ja_nil)))))) hw
theorem fn__law_life (T : Facts K mg) {k : Nat} {f : Addr} {fd : FuncData} {tl : List Addr} {s__law_birth s__law_count : WSp} {sp : WSp} (F : Fun K "_law_life" "_law_life" st__law_life f fd) (C__law_birth : Cal P w K mg base tl k "_law_birth" ["bag"] s__law_birth) (C__law_count : Cal P w K mg base tl k "_law_count" ["bag", "least"] s__law_count)
    (hw : ∀ ts S Q E, ts.length = 1 → sp ts S Q E → b__law_life s__law_birth s__law_count { nx := fun _ S' => Q .non S', rt := Q } (startT N__law_life ts) S) :
    FnOk P w K mg base CX0 (k + 1) f fd ["bag"] (Lsp tl K 1 sp) :=
  fnT F sc__law_life (fun cdv A outer s H E hr hcd ht => (jss_one (js_ret (j_op o_add (j_c C__law_birth ht hr (by rfl) (ja_cons (j_var 0) ja_nil)) (j_tup (ja_cons (j_c C__law_count ht hr (by rfl) (ja_cons (j_var 0) (ja_cons j_int ja_nil))) ja_nil)))))) hw
theorem fn__law_is_int (T : Facts K mg) {k : Nat} {f : Addr} {fd : FuncData} {tl : List Addr}  {sp : WSp} (F : Fun K "_law_is_int" "_law_is_int" st__law_is_int f fd) 
    (hw : ∀ ts S Q E, ts.length = 3 → sp ts S Q E → b__law_is_int  { nx := fun _ S' => Q .non S', rt := Q } (startT N__law_is_int ts) S) :
    FnOk P w K mg base CX0 (k + 1) f fd ["value", "least", "most"] (Lsp tl K 3 sp) :=
  fnT F sc__law_is_int (fun cdv A outer s H E hr hcd ht => (jss_one (js_ret (j_and (j_isi (cs := "int") (by rfl) T.z_isinstance (by rfl) (j_var 0) (by rfl) T.z_int (by rfl) (by decide)) (j_and (j_not (j_isi (cs := "bool") (by rfl) T.z_isinstance (by rfl) (j_var 0) (by rfl) T.z_bool (by rfl) (by decide))) (j_and (j_cmp o_le (j_var 1) (j_var 0) (nomark _)) (j_one (j_cmp o_le (j_var 0) (j_var 2) (nomark _))))))))) hw
theorem fn__law_is_pair (T : Facts K mg) {k : Nat} {f : Addr} {fd : FuncData} {tl : List Addr} {s__law_is_int : WSp} {sp : WSp} (F : Fun K "_law_is_pair" "_law_is_pair" st__law_is_pair f fd) (C__law_is_int : Cal P w K mg base tl k "_law_is_int" ["value", "least", "most"] s__law_is_int)
    (hw : ∀ ts S Q E, ts.length = 2 → sp ts S Q E → b__law_is_pair s__law_is_int { nx := fun _ S' => Q .non S', rt := Q } (startT N__law_is_pair ts) S) :
    FnOk P w K mg base CX0 (k + 1) f fd ["value", "more"] (Lsp tl K 2 sp) :=
  fnT F sc__law_is_pair (fun cdv A outer s H E hr hcd ht => (jss_cons (js_if (JW.jt (jw_or (jt_not (jt_val (j_isi (cs := "tuple") (by rfl) T.z_isinstance (by rfl) (j_var 0) (by rfl) T.z_tuple (by rfl) (by decide)))) (jw_or (jt_cmp (o_ne hr.units) (j_callB c_len (by rfl) T.z_len PySem.boot_len (ja_cons (j_var 0) ja_nil)) (j_op o_add j_int (j_var 1)) (nomark _)) (jw_or1 (jt_not (jt_val (j_c C__law_is_int ht hr (by rfl) (ja_cons (j_ix (j_var 0) j_int (fun _ _ => rfl)) (ja_cons j_int (ja_cons j_int ja_nil)))))))))) (jss_one (js_ret j_bl)) jss_nil)
    (jss_one (js_ret (j_cmp o_notIn j_bl (j_lc (own := [("one", 2)]) rfl sc__law_is_pair.nd (ji_seq (j_slice (j_var 0) (jo_some j_int) jo_none)) (blkOk_by (N := N__law_is_pair) (sc := defScope st__law_is_pair) (by decide +kernel)) (fun _ _ _ _ _ => (jg_name (i := 2) (vs := [2]) sc__law_is_pair.nd rfl (by first | exact .inl rfl | exact .inr rfl) (by decide))) (fun _ _ _ _ _ => jts_nil) (fun _ _ _ _ _ => (j_c C__law_is_int ht hr (by rfl) (ja_cons (j_var 2) (ja_cons j_int (ja_cons j_int ja_nil)))))) (by rfl)))))) hw
theorem fn__law_are_bytes (T : Facts K mg) {k : Nat} {f : Addr} {fd : FuncData} {tl : List Addr} {s__law_is_int : WSp} {sp : WSp} (F : Fun K "_law_are_bytes" "_law_are_bytes" st__law_are_bytes f fd) (C__law_is_int : Cal P w K mg base tl k "_law_is_int" ["value", "least", "most"] s__law_is_int)
    (hw : ∀ ts S Q E, ts.length = 1 → sp ts S Q E → b__law_are_bytes s__law_is_int { nx := fun _ S' => Q .non S', rt := Q } (startT N__law_are_bytes ts) S) :
    FnOk P w K mg base CX0 (k + 1) f fd ["value"] (Lsp tl K 1 sp) :=
  fnT F sc__law_are_bytes (fun cdv A outer s H E hr hcd ht => (jss_one (js_ret (j_and (j_isi (cs := "tuple") (by rfl) T.z_isinstance (by rfl) (j_var 0) (by rfl) T.z_tuple (by rfl) (by decide)) (j_one (j_cmp o_notIn j_bl (j_lc (own := [("one", 1)]) rfl sc__law_are_bytes.nd (ji_seq (j_var 0)) (blkOk_by (N := N__law_are_bytes) (sc := defScope st__law_are_bytes) (by decide +kernel)) (fun _ _ _ _ _ => (jg_name (i := 1) (vs := [1]) sc__law_are_bytes.nd rfl (by first | exact .inl rfl | exact .inr rfl) (by decide))) (fun _ _ _ _ _ => jts_nil) (fun _ _ _ _ _ => (j_c C__law_is_int ht hr (by rfl) (ja_cons (j_var 1) (ja_cons j_int (ja_cons j_int ja_nil)))))) (by rfl))))))) hw
theorem fn__law_spoilt (T : Facts K mg) {k : Nat} {f : Addr} {fd : FuncData} {tl : List Addr} {s__law_draw s__law_spoilt : WSp} {sp : WSp} (F : Fun K "_law_spoilt" "_law_spoilt" st__law_spoilt f fd) (C__law_draw : Cal P w K mg base tl k "_law_draw" ["bag", "many"] s__law_draw) (C__law_spoilt : Cal P w K mg base tl k "_law_spoilt" ["bag", "value", "odd"] s__law_spoilt)
    (hw : ∀ ts S Q E, ts.length = 3 → sp ts S Q E → b__law_spoilt s__law_draw s__law_spoilt { nx := fun _ S' => Q .non S', rt := Q } (startT N__law_spoilt ts) S) :
    FnOk P w K mg base CX0 (k + 1) f fd ["bag", "value", "odd"] (Lsp tl K 3 sp) :=
  fnT F sc__law_spoilt (fun cdv A outer s H E hr hcd ht => (jss_cons (js_if (JW.jt (jw_or (jt_not (jt_val (j_isi (cs := "tuple") (by rfl) T.z_isinstance (by rfl) (j_var 1) (by rfl) T.z_tuple (by rfl) (by decide)))) (jw_or (jt_cmp (o_eq hr.units) (j_callB c_len (by rfl) T.z_len PySem.boot_len (ja_cons (j_var 1) ja_nil)) j_int (nomark _)) (jw_or1 (jt_cmp (o_eq hr.units) (j_c C__law_draw ht hr (by rfl) (ja_cons (j_var 0) (ja_cons j_int ja_nil))) j_int (nomark _)))))) (jss_one (js_ret (j_var 2))) jss_nil)
    (jss_cons (js_set (i := 3) sc__law_spoilt.nd rfl (by first | exact .inl rfl | exact .inr rfl) (j_c C__law_draw ht hr (by rfl) (ja_cons (j_var 0) (ja_cons (j_callB c_len (by rfl) T.z_len PySem.boot_len (ja_cons (j_var 1) ja_nil)) ja_nil))))
    (jss_cons (js_set (i := 4) sc__law_spoilt.nd rfl (by first | exact .inl rfl | exact .inr rfl) (j_c C__law_draw ht hr (by rfl) (ja_cons (j_var 0) (ja_cons j_int ja_nil))))
    (jss_cons (js_if (jt_cmp (o_eq hr.units) (j_var 4) j_int (nomark _)) (jss_one (js_ret (j_op o_add (j_slice (j_var 1) jo_none (jo_some (j_var 3))) (j_slice (j_var 1) (jo_some (j_op o_add (j_var 3) j_int)) jo_none)))) jss_nil)
    (jss_cons (js_if (jt_cmp (o_eq hr.units) (j_var 4) j_int (nomark _)) (jss_one (js_ret (j_op o_add (j_op o_add (j_slice (j_var 1) jo_none (jo_some (j_var 3))) (j_tup (ja_cons (j_var 2) ja_nil))) (j_slice (j_var 1) (jo_some (j_var 3)) jo_none)))) jss_nil)
    (jss_cons (js_if (jt_cmp (o_eq hr.units) (j_var 4) j_int (nomark _)) (jss_one (js_ret (j_op o_add (j_op o_add (j_slice (j_var 1) jo_none (jo_some (j_var 3))) (j_slice (j_var 1) (jo_some (j_var 3)) (jo_some (j_op o_add (j_var 3) j_int)))) (j_slice (j_var 1) (jo_some (j_var 3)) jo_none)))) jss_nil)
    (jss_cons (js_if (jt_cmp (o_eq hr.units) (j_var 4) j_int (nomark _)) (jss_one (js_ret (j_op o_add (j_op o_add (j_op o_add (j_slice (j_var 1) jo_none (jo_some (j_var 3))) (j_slice (j_var 1) (jo_some (j_op o_add (j_var 3) j_int)) (jo_some (j_op o_add (j_var 3) j_int)))) (j_slice (j_var 1) (jo_some (j_var 3)) (jo_some (j_op o_add (j_var 3) j_int)))) (j_slice (j_var 1) (jo_some (j_op o_add (j_var 3) j_int)) jo_none)))) jss_nil)
    (jss_one (js_ret (j_op o_add (j_op o_add (j_slice (j_var 1) jo_none (jo_some (j_var 3))) (j_tup (ja_cons (j_c C__law_spoilt ht hr (by rfl) (ja_cons (j_var 0) (ja_cons (j_ix (j_var 1) (j_var 3) (fun _ _ => rfl)) (ja_cons (j_var 2) ja_nil)))) ja_nil))) (j_slice (j_var 1) (jo_some (j_op o_add (j_var 3) j_int)) jo_none)))))))))))) hw
theorem fn__law_is_address (T : Facts K mg) {k : Nat} {f : Addr} {fd : FuncData} {tl : List Addr} {s__law_is_int : WSp} {sp : WSp} (F : Fun K "_law_is_address" "_law_is_address" st__law_is_address f fd) (C__law_is_int : Cal P w K mg base tl k "_law_is_int" ["value", "least", "most"] s__law_is_int)
    (hw : ∀ ts S Q E, ts.length = 1 → sp ts S Q E → b__law_is_address s__law_is_int { nx := fun _ S' => Q .non S', rt := Q } (startT N__law_is_address ts) S) :
    FnOk P w K mg base CX0 (k + 1) f fd ["value"] (Lsp tl K 1 sp) :=
  fnT F sc__law_is_address (fun cdv A outer s H E hr hcd ht => (jss_cons (js_if (JW.jt (jw_or (jt_not (jt_val (j_isi (cs := "tuple") (by rfl) T.z_isinstance (by rfl) (j_var 0) (by rfl) T.z_tuple (by rfl) (by decide)))) (jw_or (jt_cmp o_notIn (j_callB c_len (by rfl) T.z_len PySem.boot_len (ja_cons (j_var 0) ja_nil)) (j_lst (ja_cons j_int (ja_cons j_int ja_nil))) (by rfl)) (jw_or1 (jt_not (jt_val (j_isi (cs := "str") (by rfl) T.z_isinstance (by rfl) (j_ix (j_var 0) j_int (fun _ _ => rfl)) (by rfl) T.z_str (by rfl) (by decide)))))))) (jss_one (js_ret j_bl)) jss_nil)
    (jss_cons (js_if (jt_cmp (o_eq hr.units) (j_callB c_len (by rfl) T.z_len PySem.boot_len (ja_cons (j_var 0) ja_nil)) j_int (nomark _)) (jss_one (js_ret (j_cmp (o_eq hr.units) (j_ix (j_var 0) j_int (fun _ _ => rfl)) j_str (nomark _)))) jss_nil)
    (jss_cons (js_set (i := 1) sc__law_is_address.nd rfl (by first | exact .inl rfl | exact .inr rfl) (j_lst (ja_cons j_str (ja_cons j_str (ja_cons j_str ja_nil)))))
    (jss_one (js_ret (j_and (j_cmp o_in (j_ix (j_var 0) j_int (fun _ _ => rfl)) (j_var 1) (by rfl)) (j_one (j_c C__law_is_int ht hr (by rfl) (ja_cons (j_ix (j_var 0) j_int (fun _ _ => rfl)) (ja_cons j_int (ja_cons (j_ix (j_lst (ja_cons j_int (ja_cons j_int (ja_cons j_int ja_nil)))) (j_mtL PySem.F.slot_list_index PySem.F.type_list_index m_index (j_var 1) (ja_cons (j_ix (j_var 0) j_int (fun _ _ => rfl)) ja_nil)) (fun _ _ => rfl)) ja_nil)))))))))))) hw
theorem fn__law_odd (T : Facts K mg) {k : Nat} {f : Addr} {fd : FuncData} {tl : List Addr} {s__law_draw : WSp} {sp : WSp} (F : Fun K "_law_odd" "_law_odd" st__law_odd f fd) (C__law_draw : Cal P w K mg base tl k "_law_draw" ["bag", "many"] s__law_draw)
    (hw : ∀ ts S Q E, ts.length = 1 → sp ts S Q E → b__law_odd s__law_draw { nx := fun _ S' => Q .non S', rt := Q } (startT N__law_odd ts) S) :
    FnOk P w K mg base CX0 (k + 1) f fd ["bag"] (Lsp tl K 1 sp) :=
  fnT F sc__law_odd (fun cdv A outer s H E hr hcd ht => (jss_cons (js_set (i := 1) sc__law_odd.nd rfl (by first | exact .inl rfl | exact .inr rfl) (j_lst (ja_cons j_int (ja_cons j_int (ja_cons j_int (ja_cons j_int (ja_cons j_int (ja_cons j_int (ja_cons (j_neg j_int) (ja_cons j_int (ja_cons j_int (ja_cons j_int (ja_cons j_int (ja_cons j_bl (ja_cons j_bl (ja_cons j_non (ja_cons j_str (ja_cons j_str (ja_cons j_str (ja_cons j_str (ja_cons j_str (ja_cons j_str ja_nil))))))))))))))))))))))
    (jss_cons (js_set (i := 1) sc__law_odd.nd rfl (by first | exact .inl rfl | exact .inr rfl) (j_op o_add (j_var 1) (j_lst (ja_cons (j_tup ja_nil) (ja_cons (j_tup (ja_cons j_int ja_nil)) (ja_cons (j_tup (ja_cons j_int (ja_cons j_int ja_nil))) (ja_cons (j_tup (ja_cons j_int (ja_cons j_int (ja_cons j_int ja_nil)))) (ja_cons (j_lst (ja_cons j_int (ja_cons j_int ja_nil))) (ja_cons (j_tup (ja_cons j_str (ja_cons j_int ja_nil))) (ja_cons (j_tup (ja_cons j_str ja_nil)) (ja_cons (j_tup (ja_cons j_str (ja_cons j_int ja_nil))) (ja_cons (j_op o_pow j_int j_int) (ja_cons j_str ja_nil)))))))))))))
    (jss_one (js_ret (j_ix (j_var 1) (j_c C__law_draw ht hr (by rfl) (ja_cons (j_var 0) (ja_cons j_int ja_nil))) (fun _ _ => rfl))))))) hw
theorem fn__law_tells (T : Facts K mg) {k : Nat} {f : Addr} {fd : FuncData} {tl : List Addr}  {sp : WSp} (F : Fun K "_law_tells" "_law_tells" st__law_tells f fd) 
    (hw : ∀ ts S Q E, ts.length = 2 → sp ts S Q E → b__law_tells  { nx := fun _ S' => Q .non S', rt := Q } (startT N__law_tells ts) S) :
    FnOk P w K mg base CX0 (k + 1) f fd ["actual", "due"] (Lsp tl K 2 sp) :=
  fnT F sc__law_tells (fun cdv A outer s H E hr hcd ht => (jss_one (js_ret (j_and (j_isi (cs := "bool") (by rfl) T.z_isinstance (by rfl) (j_var 0) (by rfl) T.z_bool (by rfl) (by decide)) (j_one (j_cmp (o_eq hr.units) (j_var 0) (j_var 1) (nomark _))))))) hw
theorem fn__law_right (T : Facts K mg) {k : Nat} {f : Addr} {fd : FuncData} {tl : List Addr} {s__law_tells s__law_is_pair s_is_flow s_is_birth s_is_life s__law_is_address s_is_address s__law_are_bytes s_is_bytes : WSp} {sp : WSp} (F : Fun K "_law_right" "_law_right" st__law_right f fd) (C__law_tells : Cal P w K mg base tl k "_law_tells" ["actual", "due"] s__law_tells) (C__law_is_pair : Cal P w K mg base tl k "_law_is_pair" ["value", "more"] s__law_is_pair) (C_is_flow : Cal P w K mg base tl k "is_flow" ["value"] s_is_flow) (C_is_birth : Cal P w K mg base tl k "is_birth" ["value"] s_is_birth) (C_is_life : Cal P w K mg base tl k "is_life" ["value"] s_is_life) (C__law_is_address : Cal P w K mg base tl k "_law_is_address" ["value"] s__law_is_address) (C_is_address : Cal P w K mg base tl k "is_address" ["value"] s_is_address) (C__law_are_bytes : Cal P w K mg base tl k "_law_are_bytes" ["value"] s__law_are_bytes) (C_is_bytes : Cal P w K mg base tl k "is_bytes" ["value"] s_is_bytes)
    (hw : ∀ ts S Q E, ts.length = 1 → sp ts S Q E → b__law_right s__law_tells s__law_is_pair s_is_flow s_is_birth s_is_life s__law_is_address s_is_address s__law_are_bytes s_is_bytes { nx := fun _ S' => Q .non S', rt := Q } (startT N__law_right ts) S) :
    FnOk P w K mg base CX0 (k + 1) f fd ["value"] (Lsp tl K 1 sp) :=
  fnT F sc__law_right (fun cdv A outer s H E hr hcd ht => (jss_cons (js_if (JW.jt (jw_or (jt_not (jt_val (j_c C__law_tells ht hr (by rfl) (ja_cons (j_c C_is_flow ht hr (by rfl) (ja_cons (j_var 0) ja_nil)) (ja_cons (j_c C__law_is_pair ht hr (by rfl) (ja_cons (j_var 0) (ja_cons j_int ja_nil))) ja_nil))))) (jw_or1 (jt_not (jt_val (j_c C__law_tells ht hr (by rfl) (ja_cons (j_c C_is_birth ht hr (by rfl) (ja_cons (j_var 0) ja_nil)) (ja_cons (j_c C__law_is_pair ht hr (by rfl) (ja_cons (j_var 0) (ja_cons j_int ja_nil))) ja_nil)))))))) (jss_one (js_ret j_bl)) jss_nil)
    (jss_cons (js_if (JW.jt (jw_or (jt_not (jt_val (j_c C__law_tells ht hr (by rfl) (ja_cons (j_c C_is_life ht hr (by rfl) (ja_cons (j_var 0) ja_nil)) (ja_cons (j_c C__law_is_pair ht hr (by rfl) (ja_cons (j_var 0) (ja_cons j_int ja_nil))) ja_nil))))) (jw_or1 (jt_not (jt_val (j_c C__law_tells ht hr (by rfl) (ja_cons (j_c C_is_address ht hr (by rfl) (ja_cons (j_var 0) ja_nil)) (ja_cons (j_c C__law_is_address ht hr (by rfl) (ja_cons (j_var 0) ja_nil)) ja_nil)))))))) (jss_one (js_ret j_bl)) jss_nil)
    (jss_one (js_ret (j_c C__law_tells ht hr (by rfl) (ja_cons (j_c C_is_bytes ht hr (by rfl) (ja_cons (j_var 0) ja_nil)) (ja_cons (j_c C__law_are_bytes ht hr (by rfl) (ja_cons (j_var 0) ja_nil)) ja_nil)))))))) hw
theorem fn_law (T : Facts K mg) {k : Nat} {f : Addr} {fd : FuncData} {tl : List Addr} {s__law_bag s__law_draw s__law_life s__law_flow s__law_right s__law_spoilt s__law_odd s__law_tells s__law_is_int s_is_integer : WSp} {sp : WSp} (F : Fun K "law" "law" st_law f fd) (C__law_bag : Cal P w K mg base tl k "_law_bag" ["script", "k"] s__law_bag) (C__law_draw : Cal P w K mg base tl k "_law_draw" ["bag", "many"] s__law_draw) (C__law_life : Cal P w K mg base tl k "_law_life" ["bag"] s__law_life) (C__law_flow : Cal P w K mg base tl k "_law_flow" ["bag"] s__law_flow) (C__law_right : Cal P w K mg base tl k "_law_right" ["value"] s__law_right) (C__law_spoilt : Cal P w K mg base tl k "_law_spoilt" ["bag", "value", "odd"] s__law_spoilt) (C__law_odd : Cal P w K mg base tl k "_law_odd" ["bag"] s__law_odd) (C__law_tells : Cal P w K mg base tl k "_law_tells" ["actual", "due"] s__law_tells) (C__law_is_int : Cal P w K mg base tl k "_law_is_int" ["value", "least", "most"] s__law_is_int) (C_is_integer : Cal P w K mg base tl k "is_integer" ["value", "least", "greatest"] s_is_integer)
    (hw : ∀ ts S Q E, ts.length = 1 → sp ts S Q E → b_law s__law_bag s__law_draw s__law_life s__law_flow s__law_right s__law_spoilt s__law_odd s__law_tells s__law_is_int s_is_integer { nx := fun _ S' => Q .non S', rt := Q } (startT N_law ts) S) :
    FnOk P w K mg base CX0 (k + 1) f fd ["script"] (Lsp tl K 1 sp) :=
  fnT F sc_law (fun cdv A outer s H E hr hcd ht => (jss_cons (js_for PassesOwn.never rfl (ji_rg1 (by rfl) T.z_range (ja_cons (j_callB (c_max2 rfl) (by rfl) T.z_max (by rfl) (ja_cons j_int (ja_cons (j_callB (c_min2 rfl) (by rfl) T.z_min (by rfl) (ja_cons j_int (ja_cons (j_callB c_len (by rfl) T.z_len PySem.boot_len (ja_cons (j_var 0) ja_nil)) ja_nil))) ja_nil))) ja_nil)) (jg_name (i := 1) (vs := [1]) sc_law.nd rfl (by first | exact .inl rfl | exact .inr rfl) (by decide))
    (jss_cons (js_set (i := 2) sc_law.nd rfl (by first | exact .inl rfl | exact .inr rfl) (j_c C__law_bag ht hr (by rfl) (ja_cons (j_var 0) (ja_cons (j_var 1) ja_nil))))
    (jss_cons (js_set (i := 3) sc_law.nd rfl (by first | exact .inl rfl | exact .inr rfl) (j_lst (ja_cons (j_tup (ja_cons j_str (ja_cons (j_c C__law_draw ht hr (by rfl) (ja_cons (j_var 2) (ja_cons j_int ja_nil))) ja_nil))) (ja_cons (j_tup (ja_cons j_str (ja_cons (j_c C__law_draw ht hr (by rfl) (ja_cons (j_var 2) (ja_cons j_int ja_nil))) ja_nil))) (ja_cons (j_tup (ja_cons j_str (ja_cons (j_c C__law_draw ht hr (by rfl) (ja_cons (j_var 2) (ja_cons j_int ja_nil))) ja_nil))) (ja_cons (j_tup (ja_cons j_str ja_nil)) ja_nil))))))
    (jss_cons (js_set (i := 4) sc_law.nd rfl (by first | exact .inl rfl | exact .inr rfl) (j_callTy c_tup (by rfl) T.z_tuple (by rfl) (ja_cons (j_lc (own := [("j", 5)]) rfl sc_law.nd (ji_rg1 (by rfl) T.z_range (ja_cons (j_c C__law_draw ht hr (by rfl) (ja_cons (j_var 2) (ja_cons j_int ja_nil))) ja_nil)) (blkOk_by (N := N_law) (sc := defScope st_law) (by decide +kernel)) (fun _ _ _ _ _ => (jg_name (i := 5) (vs := [5]) sc_law.nd rfl (by first | exact .inl rfl | exact .inr rfl) (by decide))) (fun _ _ _ _ _ => jts_nil) (fun _ _ _ _ _ => (j_c C__law_draw ht hr (by rfl) (ja_cons (j_var 2) (ja_cons j_int ja_nil))))) ja_nil)))
    (jss_cons (js_for PassesOwn.never rfl (ji_seq (j_lst (ja_cons (j_c C__law_flow ht hr (by rfl) (ja_cons (j_var 2) ja_nil)) (ja_cons (j_c C__law_life ht hr (by rfl) (ja_cons (j_var 2) ja_nil)) (ja_cons (j_ix (j_var 3) (j_c C__law_draw ht hr (by rfl) (ja_cons (j_var 2) (ja_cons j_int ja_nil))) (fun _ _ => rfl)) (ja_cons (j_var 4) ja_nil)))))) (jg_name (i := 6) (vs := [6]) sc_law.nd rfl (by first | exact .inl rfl | exact .inr rfl) (by decide))
    (jss_one (js_if (JW.jt (jw_or (jt_not (jt_val (j_c C__law_right ht hr (by rfl) (ja_cons (j_var 6) ja_nil)))) (jw_or1 (jt_not (jt_val (j_c C__law_right ht hr (by rfl) (ja_cons (j_c C__law_spoilt ht hr (by rfl) (ja_cons (j_var 2) (ja_cons (j_var 6) (ja_cons (j_c C__law_odd ht hr (by rfl) (ja_cons (j_var 2) ja_nil)) ja_nil)))) ja_nil))))))) (jss_one (js_ret j_bl)) jss_nil)))
    (jss_cons (js_set (i := 6) sc_law.nd rfl (by first | exact .inl rfl | exact .inr rfl) (j_c C__law_odd ht hr (by rfl) (ja_cons (j_var 2) ja_nil)))
    (jss_cons (js_set (i := 7) sc_law.nd rfl (by first | exact .inl rfl | exact .inr rfl) (j_ix (j_lst (ja_cons j_int (ja_cons j_int (ja_cons (j_neg j_int) (ja_cons j_int (ja_cons j_int ja_nil)))))) (j_c C__law_draw ht hr (by rfl) (ja_cons (j_var 2) (ja_cons j_int ja_nil))) (fun _ _ => rfl)))
    (jss_cons (js_set (i := 8) sc_law.nd rfl (by first | exact .inl rfl | exact .inr rfl) (j_op o_add (j_var 7) (j_ix (j_lst (ja_cons j_int (ja_cons j_int (ja_cons j_int (ja_cons (j_op o_pow j_int j_int) ja_nil))))) (j_c C__law_draw ht hr (by rfl) (ja_cons (j_var 2) (ja_cons j_int ja_nil))) (fun _ _ => rfl))))
    (jss_cons (js_if (jt_not (jt_val (j_c C__law_tells ht hr (by rfl) (ja_cons (j_c C_is_integer ht hr (by rfl) (ja_cons (j_var 6) (ja_cons (j_var 7) (ja_cons (j_var 8) ja_nil)))) (ja_cons (j_c C__law_is_int ht hr (by rfl) (ja_cons (j_var 6) (ja_cons (j_var 7) (ja_cons (j_var 8) ja_nil)))) ja_nil))))) (jss_one (js_ret j_bl)) jss_nil)
    (jss_cons (js_set (i := 9) sc_law.nd rfl (by first | exact .inl rfl | exact .inr rfl) (j_op o_sub (j_op o_add (j_var 7) (j_c C__law_draw ht hr (by rfl) (ja_cons (j_var 2) (ja_cons j_int ja_nil)))) j_int))
    (jss_one (js_if (jt_not (jt_val (j_c C__law_tells ht hr (by rfl) (ja_cons (j_c C_is_integer ht hr (by rfl) (ja_cons (j_var 9) (ja_cons (j_var 7) (ja_cons (j_var 8) ja_nil)))) (ja_cons (j_and (j_cmp o_le (j_var 7) (j_var 9) (nomark _)) (j_one (j_cmp o_le (j_var 9) (j_var 8) (nomark _)))) ja_nil))))) (jss_one (js_ret j_bl)) jss_nil))))))))))))
    (jss_one (js_ret j_bl)))) hw
end
theorem facts_mk {K : PySem.W.Frag} {h : Heap} {mg : Str → Option Value} (X : K.In h) (G : h.Ns mainGlobals mg)
    {f0 : Addr} {od0 an0 : Option Addr} {sl0 : Array (Option Value)} {oc0 kV0 dc0 pm0 cd0 ct0 : Value}
    (a0 : PySem.W.nsIn K mainGlobals "is_integer" = some (some (.ref f0))) (l0 : K.lookup f0 = some ⟨oc0, od0, .func (PySem.W.fnOf "is_integer" "is_integer" (defArgs st_is_integer) (defBody st_is_integer) (defScope st_is_integer) .none kV0 dc0 pm0 an0 cd0 ct0), sl0⟩) (c0 : PySem.W.codeIn K cd0 "is_integer" = true) (k0 : PySem.W.keepIn K (.ref f0) = true)
    {f1 : Addr} {od1 an1 : Option Addr} {sl1 : Array (Option Value)} {oc1 kV1 dc1 pm1 cd1 ct1 : Value}
    (a1 : PySem.W.nsIn K mainGlobals "is_bytes" = some (some (.ref f1))) (l1 : K.lookup f1 = some ⟨oc1, od1, .func (PySem.W.fnOf "is_bytes" "is_bytes" (defArgs st_is_bytes) (defBody st_is_bytes) (defScope st_is_bytes) .none kV1 dc1 pm1 an1 cd1 ct1), sl1⟩) (c1 : PySem.W.codeIn K cd1 "is_bytes" = true) (k1 : PySem.W.keepIn K (.ref f1) = true)
    {cc1 PP1 : Addr} {te1 : Value} {td1 : Option Addr} {tv1 : Array Value} {ts1 : Array (Option Value)} (x1 : cd1 = .ref cc1) (y1 : K.lookup cc1 = some ⟨te1, td1, .fields tv1, ts1⟩) (u1 : tv1[11]? = some (.ref PP1)) (v1 : (K.lookup PP1).isNone = true)
    {f2 : Addr} {od2 an2 : Option Addr} {sl2 : Array (Option Value)} {oc2 kV2 dc2 pm2 cd2 ct2 : Value}
    (a2 : PySem.W.nsIn K mainGlobals "is_flow" = some (some (.ref f2))) (l2 : K.lookup f2 = some ⟨oc2, od2, .func (PySem.W.fnOf "is_flow" "is_flow" (defArgs st_is_flow) (defBody st_is_flow) (defScope st_is_flow) .none kV2 dc2 pm2 an2 cd2 ct2), sl2⟩) (c2 : PySem.W.codeIn K cd2 "is_flow" = true) (k2 : PySem.W.keepIn K (.ref f2) = true)
    {f3 : Addr} {od3 an3 : Option Addr} {sl3 : Array (Option Value)} {oc3 kV3 dc3 pm3 cd3 ct3 : Value}
    (a3 : PySem.W.nsIn K mainGlobals "is_birth" = some (some (.ref f3))) (l3 : K.lookup f3 = some ⟨oc3, od3, .func (PySem.W.fnOf "is_birth" "is_birth" (defArgs st_is_birth) (defBody st_is_birth) (defScope st_is_birth) .none kV3 dc3 pm3 an3 cd3 ct3), sl3⟩) (c3 : PySem.W.codeIn K cd3 "is_birth" = true) (k3 : PySem.W.keepIn K (.ref f3) = true)
    {f4 : Addr} {od4 an4 : Option Addr} {sl4 : Array (Option Value)} {oc4 kV4 dc4 pm4 cd4 ct4 : Value}
    (a4 : PySem.W.nsIn K mainGlobals "is_life" = some (some (.ref f4))) (l4 : K.lookup f4 = some ⟨oc4, od4, .func (PySem.W.fnOf "is_life" "is_life" (defArgs st_is_life) (defBody st_is_life) (defScope st_is_life) .none kV4 dc4 pm4 an4 cd4 ct4), sl4⟩) (c4 : PySem.W.codeIn K cd4 "is_life" = true) (k4 : PySem.W.keepIn K (.ref f4) = true)
    {f5 : Addr} {od5 an5 : Option Addr} {sl5 : Array (Option Value)} {oc5 kV5 dc5 pm5 cd5 ct5 : Value}
    (a5 : PySem.W.nsIn K mainGlobals "is_address" = some (some (.ref f5))) (l5 : K.lookup f5 = some ⟨oc5, od5, .func (PySem.W.fnOf "is_address" "is_address" (defArgs st_is_address) (defBody st_is_address) (defScope st_is_address) .none kV5 dc5 pm5 an5 cd5 ct5), sl5⟩) (c5 : PySem.W.codeIn K cd5 "is_address" = true) (k5 : PySem.W.keepIn K (.ref f5) = true)
    {f6 : Addr} {od6 an6 : Option Addr} {sl6 : Array (Option Value)} {oc6 kV6 dc6 pm6 cd6 ct6 : Value}
    (a6 : PySem.W.nsIn K mainGlobals "_is_tuple" = some (some (.ref f6))) (l6 : K.lookup f6 = some ⟨oc6, od6, .func (PySem.W.fnOf "_is_tuple" "_is_tuple" (defArgs st__is_tuple) (defBody st__is_tuple) (defScope st__is_tuple) .none kV6 dc6 pm6 an6 cd6 ct6), sl6⟩) (c6 : PySem.W.codeIn K cd6 "_is_tuple" = true) (k6 : PySem.W.keepIn K (.ref f6) = true)
    {f7 : Addr} {od7 an7 : Option Addr} {sl7 : Array (Option Value)} {oc7 kV7 dc7 pm7 cd7 ct7 : Value}
    (a7 : PySem.W.nsIn K mainGlobals "_is_below" = some (some (.ref f7))) (l7 : K.lookup f7 = some ⟨oc7, od7, .func (PySem.W.fnOf "_is_below" "_is_below" (defArgs st__is_below) (defBody st__is_below) (defScope st__is_below) .none kV7 dc7 pm7 an7 cd7 ct7), sl7⟩) (c7 : PySem.W.codeIn K cd7 "_is_below" = true) (k7 : PySem.W.keepIn K (.ref f7) = true)
    {f8 : Addr} {od8 an8 : Option Addr} {sl8 : Array (Option Value)} {oc8 kV8 dc8 pm8 cd8 ct8 : Value}
    (a8 : PySem.W.nsIn K mainGlobals "_is_ordinal" = some (some (.ref f8))) (l8 : K.lookup f8 = some ⟨oc8, od8, .func (PySem.W.fnOf "_is_ordinal" "_is_ordinal" (defArgs st__is_ordinal) (defBody st__is_ordinal) (defScope st__is_ordinal) .none kV8 dc8 pm8 an8 cd8 ct8), sl8⟩) (c8 : PySem.W.codeIn K cd8 "_is_ordinal" = true) (k8 : PySem.W.keepIn K (.ref f8) = true)
    {f9 : Addr} {od9 an9 : Option Addr} {sl9 : Array (Option Value)} {oc9 kV9 dc9 pm9 cd9 ct9 : Value}
    (a9 : PySem.W.nsIn K mainGlobals "first_word" = some (some (.ref f9))) (l9 : K.lookup f9 = some ⟨oc9, od9, .func (PySem.W.fnOf "first_word" "first_word" (defArgs st_first_word) (defBody st_first_word) (defScope st_first_word) .none kV9 dc9 pm9 an9 cd9 ct9), sl9⟩) (c9 : PySem.W.codeIn K cd9 "first_word" = true) (k9 : PySem.W.keepIn K (.ref f9) = true)
    {f10 : Addr} {od10 an10 : Option Addr} {sl10 : Array (Option Value)} {oc10 kV10 dc10 pm10 cd10 ct10 : Value}
    (a10 : PySem.W.nsIn K mainGlobals "_law_bag" = some (some (.ref f10))) (l10 : K.lookup f10 = some ⟨oc10, od10, .func (PySem.W.fnOf "_law_bag" "_law_bag" (defArgs st__law_bag) (defBody st__law_bag) (defScope st__law_bag) .none kV10 dc10 pm10 an10 cd10 ct10), sl10⟩) (c10 : PySem.W.codeIn K cd10 "_law_bag" = true) (k10 : PySem.W.keepIn K (.ref f10) = true)
    {f11 : Addr} {od11 an11 : Option Addr} {sl11 : Array (Option Value)} {oc11 kV11 dc11 pm11 cd11 ct11 : Value}
    (a11 : PySem.W.nsIn K mainGlobals "_law_draw" = some (some (.ref f11))) (l11 : K.lookup f11 = some ⟨oc11, od11, .func (PySem.W.fnOf "_law_draw" "_law_draw" (defArgs st__law_draw) (defBody st__law_draw) (defScope st__law_draw) .none kV11 dc11 pm11 an11 cd11 ct11), sl11⟩) (c11 : PySem.W.codeIn K cd11 "_law_draw" = true) (k11 : PySem.W.keepIn K (.ref f11) = true)
    {f12 : Addr} {od12 an12 : Option Addr} {sl12 : Array (Option Value)} {oc12 kV12 dc12 pm12 cd12 ct12 : Value}
    (a12 : PySem.W.nsIn K mainGlobals "_law_count" = some (some (.ref f12))) (l12 : K.lookup f12 = some ⟨oc12, od12, .func (PySem.W.fnOf "_law_count" "_law_count" (defArgs st__law_count) (defBody st__law_count) (defScope st__law_count) .none kV12 dc12 pm12 an12 cd12 ct12), sl12⟩) (c12 : PySem.W.codeIn K cd12 "_law_count" = true) (k12 : PySem.W.keepIn K (.ref f12) = true)
    {f13 : Addr} {od13 an13 : Option Addr} {sl13 : Array (Option Value)} {oc13 kV13 dc13 pm13 cd13 ct13 : Value}
    (a13 : PySem.W.nsIn K mainGlobals "_law_flow" = some (some (.ref f13))) (l13 : K.lookup f13 = some ⟨oc13, od13, .func (PySem.W.fnOf "_law_flow" "_law_flow" (defArgs st__law_flow) (defBody st__law_flow) (defScope st__law_flow) .none kV13 dc13 pm13 an13 cd13 ct13), sl13⟩) (c13 : PySem.W.codeIn K cd13 "_law_flow" = true) (k13 : PySem.W.keepIn K (.ref f13) = true)
    {f14 : Addr} {od14 an14 : Option Addr} {sl14 : Array (Option Value)} {oc14 kV14 dc14 pm14 cd14 ct14 : Value}
    (a14 : PySem.W.nsIn K mainGlobals "_law_birth" = some (some (.ref f14))) (l14 : K.lookup f14 = some ⟨oc14, od14, .func (PySem.W.fnOf "_law_birth" "_law_birth" (defArgs st__law_birth) (defBody st__law_birth) (defScope st__law_birth) .none kV14 dc14 pm14 an14 cd14 ct14), sl14⟩) (c14 : PySem.W.codeIn K cd14 "_law_birth" = true) (k14 : PySem.W.keepIn K (.ref f14) = true)
    {f15 : Addr} {od15 an15 : Option Addr} {sl15 : Array (Option Value)} {oc15 kV15 dc15 pm15 cd15 ct15 : Value}
    (a15 : PySem.W.nsIn K mainGlobals "_law_life" = some (some (.ref f15))) (l15 : K.lookup f15 = some ⟨oc15, od15, .func (PySem.W.fnOf "_law_life" "_law_life" (defArgs st__law_life) (defBody st__law_life) (defScope st__law_life) .none kV15 dc15 pm15 an15 cd15 ct15), sl15⟩) (c15 : PySem.W.codeIn K cd15 "_law_life" = true) (k15 : PySem.W.keepIn K (.ref f15) = true)
    {f16 : Addr} {od16 an16 : Option Addr} {sl16 : Array (Option Value)} {oc16 kV16 dc16 pm16 cd16 ct16 : Value}
    (a16 : PySem.W.nsIn K mainGlobals "_law_is_int" = some (some (.ref f16))) (l16 : K.lookup f16 = some ⟨oc16, od16, .func (PySem.W.fnOf "_law_is_int" "_law_is_int" (defArgs st__law_is_int) (defBody st__law_is_int) (defScope st__law_is_int) .none kV16 dc16 pm16 an16 cd16 ct16), sl16⟩) (c16 : PySem.W.codeIn K cd16 "_law_is_int" = true) (k16 : PySem.W.keepIn K (.ref f16) = true)
    {f17 : Addr} {od17 an17 : Option Addr} {sl17 : Array (Option Value)} {oc17 kV17 dc17 pm17 cd17 ct17 : Value}
    (a17 : PySem.W.nsIn K mainGlobals "_law_is_pair" = some (some (.ref f17))) (l17 : K.lookup f17 = some ⟨oc17, od17, .func (PySem.W.fnOf "_law_is_pair" "_law_is_pair" (defArgs st__law_is_pair) (defBody st__law_is_pair) (defScope st__law_is_pair) .none kV17 dc17 pm17 an17 cd17 ct17), sl17⟩) (c17 : PySem.W.codeIn K cd17 "_law_is_pair" = true) (k17 : PySem.W.keepIn K (.ref f17) = true)
    {f18 : Addr} {od18 an18 : Option Addr} {sl18 : Array (Option Value)} {oc18 kV18 dc18 pm18 cd18 ct18 : Value}
    (a18 : PySem.W.nsIn K mainGlobals "_law_are_bytes" = some (some (.ref f18))) (l18 : K.lookup f18 = some ⟨oc18, od18, .func (PySem.W.fnOf "_law_are_bytes" "_law_are_bytes" (defArgs st__law_are_bytes) (defBody st__law_are_bytes) (defScope st__law_are_bytes) .none kV18 dc18 pm18 an18 cd18 ct18), sl18⟩) (c18 : PySem.W.codeIn K cd18 "_law_are_bytes" = true) (k18 : PySem.W.keepIn K (.ref f18) = true)
    {f19 : Addr} {od19 an19 : Option Addr} {sl19 : Array (Option Value)} {oc19 kV19 dc19 pm19 cd19 ct19 : Value}
    (a19 : PySem.W.nsIn K mainGlobals "_law_spoilt" = some (some (.ref f19))) (l19 : K.lookup f19 = some ⟨oc19, od19, .func (PySem.W.fnOf "_law_spoilt" "_law_spoilt" (defArgs st__law_spoilt) (defBody st__law_spoilt) (defScope st__law_spoilt) .none kV19 dc19 pm19 an19 cd19 ct19), sl19⟩) (c19 : PySem.W.codeIn K cd19 "_law_spoilt" = true) (k19 : PySem.W.keepIn K (.ref f19) = true)
    {f20 : Addr} {od20 an20 : Option Addr} {sl20 : Array (Option Value)} {oc20 kV20 dc20 pm20 cd20 ct20 : Value}
    (a20 : PySem.W.nsIn K mainGlobals "_law_is_address" = some (some (.ref f20))) (l20 : K.lookup f20 = some ⟨oc20, od20, .func (PySem.W.fnOf "_law_is_address" "_law_is_address" (defArgs st__law_is_address) (defBody st__law_is_address) (defScope st__law_is_address) .none kV20 dc20 pm20 an20 cd20 ct20), sl20⟩) (c20 : PySem.W.codeIn K cd20 "_law_is_address" = true) (k20 : PySem.W.keepIn K (.ref f20) = true)
    {f21 : Addr} {od21 an21 : Option Addr} {sl21 : Array (Option Value)} {oc21 kV21 dc21 pm21 cd21 ct21 : Value}
    (a21 : PySem.W.nsIn K mainGlobals "_law_odd" = some (some (.ref f21))) (l21 : K.lookup f21 = some ⟨oc21, od21, .func (PySem.W.fnOf "_law_odd" "_law_odd" (defArgs st__law_odd) (defBody st__law_odd) (defScope st__law_odd) .none kV21 dc21 pm21 an21 cd21 ct21), sl21⟩) (c21 : PySem.W.codeIn K cd21 "_law_odd" = true) (k21 : PySem.W.keepIn K (.ref f21) = true)
    {f22 : Addr} {od22 an22 : Option Addr} {sl22 : Array (Option Value)} {oc22 kV22 dc22 pm22 cd22 ct22 : Value}
    (a22 : PySem.W.nsIn K mainGlobals "_law_tells" = some (some (.ref f22))) (l22 : K.lookup f22 = some ⟨oc22, od22, .func (PySem.W.fnOf "_law_tells" "_law_tells" (defArgs st__law_tells) (defBody st__law_tells) (defScope st__law_tells) .none kV22 dc22 pm22 an22 cd22 ct22), sl22⟩) (c22 : PySem.W.codeIn K cd22 "_law_tells" = true) (k22 : PySem.W.keepIn K (.ref f22) = true)
    {f23 : Addr} {od23 an23 : Option Addr} {sl23 : Array (Option Value)} {oc23 kV23 dc23 pm23 cd23 ct23 : Value}
    (a23 : PySem.W.nsIn K mainGlobals "_law_right" = some (some (.ref f23))) (l23 : K.lookup f23 = some ⟨oc23, od23, .func (PySem.W.fnOf "_law_right" "_law_right" (defArgs st__law_right) (defBody st__law_right) (defScope st__law_right) .none kV23 dc23 pm23 an23 cd23 ct23), sl23⟩) (c23 : PySem.W.codeIn K cd23 "_law_right" = true) (k23 : PySem.W.keepIn K (.ref f23) = true)
    {f24 : Addr} {od24 an24 : Option Addr} {sl24 : Array (Option Value)} {oc24 kV24 dc24 pm24 cd24 ct24 : Value}
    (a24 : PySem.W.nsIn K mainGlobals "law" = some (some (.ref f24))) (l24 : K.lookup f24 = some ⟨oc24, od24, .func (PySem.W.fnOf "law" "law" (defArgs st_law) (defBody st_law) (defScope st_law) .none kV24 dc24 pm24 an24 cd24 ct24), sl24⟩) (c24 : PySem.W.codeIn K cd24 "law" = true) (k24 : PySem.W.keepIn K (.ref f24) = true)
    {t_MOST_AGENTS : Tok} (n_MOST_AGENTS : PySem.W.nsIn K mainGlobals "MOST_AGENTS" = some (some (.int 6 t_MOST_AGENTS)))
    {t_MOST_CLIENTS : Tok} (n_MOST_CLIENTS : PySem.W.nsIn K mainGlobals "MOST_CLIENTS" = some (some (.int 6 t_MOST_CLIENTS)))
    {t_MOST_COUNT : Tok} (n_MOST_COUNT : PySem.W.nsIn K mainGlobals "MOST_COUNT" = some (some (.int 1000000 t_MOST_COUNT)))
    {t_MOST_MUXES : Tok} (n_MOST_MUXES : PySem.W.nsIn K mainGlobals "MOST_MUXES" = some (some (.int 3 t_MOST_MUXES)))
    (z_all : PySem.W.nsIn K mainGlobals "all" = some none)
    (z_bool : PySem.W.nsIn K mainGlobals "bool" = some none)
    (z_int : PySem.W.nsIn K mainGlobals "int" = some none)
    (z_isinstance : PySem.W.nsIn K mainGlobals "isinstance" = some none)
    (z_len : PySem.W.nsIn K mainGlobals "len" = some none)
    (z_max : PySem.W.nsIn K mainGlobals "max" = some none)
    (z_min : PySem.W.nsIn K mainGlobals "min" = some none)
    (z_range : PySem.W.nsIn K mainGlobals "range" = some none)
    (z_str : PySem.W.nsIn K mainGlobals "str" = some none)
    (z_tuple : PySem.W.nsIn K mainGlobals "tuple" = some none) : Facts K mg where
  d_is_integer := defT_mk (PySem.W.mg_of X G a0) l0 c0 k0 fun _ _ _ _ _ _ us hl => match us, hl with | [_, _, _], _ => rfl
  d_is_bytes := defG_mk (PySem.W.mg_of X G a1) l1 c1 k1 x1 y1 u1 v1 fun _ _ _ _ _ _ us hl => match us, hl with | [_], _ => rfl
  d_is_flow := defT_mk (PySem.W.mg_of X G a2) l2 c2 k2 fun _ _ _ _ _ _ us hl => match us, hl with | [_], _ => rfl
  d_is_birth := defT_mk (PySem.W.mg_of X G a3) l3 c3 k3 fun _ _ _ _ _ _ us hl => match us, hl with | [_], _ => rfl
  d_is_life := defT_mk (PySem.W.mg_of X G a4) l4 c4 k4 fun _ _ _ _ _ _ us hl => match us, hl with | [_], _ => rfl
  d_is_address := defT_mk (PySem.W.mg_of X G a5) l5 c5 k5 fun _ _ _ _ _ _ us hl => match us, hl with | [_], _ => rfl
  d__is_tuple := defT_mk (PySem.W.mg_of X G a6) l6 c6 k6 fun _ _ _ _ _ _ us hl => match us, hl with | [_, _], _ => rfl
  d__is_below := defT_mk (PySem.W.mg_of X G a7) l7 c7 k7 fun _ _ _ _ _ _ us hl => match us, hl with | [_, _], _ => rfl
  d__is_ordinal := defT_mk (PySem.W.mg_of X G a8) l8 c8 k8 fun _ _ _ _ _ _ us hl => match us, hl with | [_], _ => rfl
  d_first_word := defT_mk (PySem.W.mg_of X G a9) l9 c9 k9 fun _ _ _ _ _ _ us hl => match us, hl with | [_], _ => rfl
  d__law_bag := defT_mk (PySem.W.mg_of X G a10) l10 c10 k10 fun _ _ _ _ _ _ us hl => match us, hl with | [_, _], _ => rfl
  d__law_draw := defT_mk (PySem.W.mg_of X G a11) l11 c11 k11 fun _ _ _ _ _ _ us hl => match us, hl with | [_, _], _ => rfl
  d__law_count := defT_mk (PySem.W.mg_of X G a12) l12 c12 k12 fun _ _ _ _ _ _ us hl => match us, hl with | [_, _], _ => rfl
  d__law_flow := defT_mk (PySem.W.mg_of X G a13) l13 c13 k13 fun _ _ _ _ _ _ us hl => match us, hl with | [_], _ => rfl
  d__law_birth := defT_mk (PySem.W.mg_of X G a14) l14 c14 k14 fun _ _ _ _ _ _ us hl => match us, hl with | [_], _ => rfl
  d__law_life := defT_mk (PySem.W.mg_of X G a15) l15 c15 k15 fun _ _ _ _ _ _ us hl => match us, hl with | [_], _ => rfl
  d__law_is_int := defT_mk (PySem.W.mg_of X G a16) l16 c16 k16 fun _ _ _ _ _ _ us hl => match us, hl with | [_, _, _], _ => rfl
  d__law_is_pair := defT_mk (PySem.W.mg_of X G a17) l17 c17 k17 fun _ _ _ _ _ _ us hl => match us, hl with | [_, _], _ => rfl
  d__law_are_bytes := defT_mk (PySem.W.mg_of X G a18) l18 c18 k18 fun _ _ _ _ _ _ us hl => match us, hl with | [_], _ => rfl
  d__law_spoilt := defT_mk (PySem.W.mg_of X G a19) l19 c19 k19 fun _ _ _ _ _ _ us hl => match us, hl with | [_, _, _], _ => rfl
  d__law_is_address := defT_mk (PySem.W.mg_of X G a20) l20 c20 k20 fun _ _ _ _ _ _ us hl => match us, hl with | [_], _ => rfl
  d__law_odd := defT_mk (PySem.W.mg_of X G a21) l21 c21 k21 fun _ _ _ _ _ _ us hl => match us, hl with | [_], _ => rfl
  d__law_tells := defT_mk (PySem.W.mg_of X G a22) l22 c22 k22 fun _ _ _ _ _ _ us hl => match us, hl with | [_, _], _ => rfl
  d__law_right := defT_mk (PySem.W.mg_of X G a23) l23 c23 k23 fun _ _ _ _ _ _ us hl => match us, hl with | [_], _ => rfl
  d_law := defT_mk (PySem.W.mg_of X G a24) l24 c24 k24 fun _ _ _ _ _ _ us hl => match us, hl with | [_], _ => rfl
  c_MOST_AGENTS := ⟨t_MOST_AGENTS, PySem.W.mg_of X G n_MOST_AGENTS⟩
  c_MOST_CLIENTS := ⟨t_MOST_CLIENTS, PySem.W.mg_of X G n_MOST_CLIENTS⟩
  c_MOST_COUNT := ⟨t_MOST_COUNT, PySem.W.mg_of X G n_MOST_COUNT⟩
  c_MOST_MUXES := ⟨t_MOST_MUXES, PySem.W.mg_of X G n_MOST_MUXES⟩
  z_all := PySem.W.mg_none_of X G z_all
  z_bool := PySem.W.mg_none_of X G z_bool
  z_int := PySem.W.mg_none_of X G z_int
  z_isinstance := PySem.W.mg_none_of X G z_isinstance
  z_len := PySem.W.mg_none_of X G z_len
  z_max := PySem.W.mg_none_of X G z_max
  z_min := PySem.W.mg_none_of X G z_min
  z_range := PySem.W.mg_none_of X G z_range
  z_str := PySem.W.mg_none_of X G z_str
  z_tuple := PySem.W.mg_none_of X G z_tuple
end Gn

set_option Elab.async false
set_option linter.all false
set_option maxRecDepth 100000
namespace My
open PySem PySem.Spec PyProof.Rows L2 Wp Gn
local macro_rules | `(tactic| walk_at "go") => `(tactic| (with_reducible refine goS_i ?_))
local macro_rules | `(tactic| walk_at "wp") => `(tactic| simp (disch := omega) only [wSeq, wNext, wSet, wVar, wC, wOp, wRet, wIfS, wTest, wCall, wCons, wNil, wTup, wLst, wAsg, gTp, gC, gNm, gN0, gIx, rSet, Wp.rAdd, rMul, rMod, Wp.rSub, rFdiv, rPow, rInt, Wp.rIx, rLt, rLe, rCmp, rGeI, rGtI, wCB, rLen, rLen1, rInt1, rMax2, rMin2,
  wIsi, wNot, wOr, wAnd, wAndV, wOrV, wNotV, wFor, iRg1, iSeqW, wAll, wChain, wSl, wNoPart, wPart, rSl, wNeg, rNeg, wLc, wYes, wDrop, wipeT, List.map, List.set_cons_zero, List.set_cons_succ, List.getElem?_cons_zero, List.getElem?_cons_succ, List.length_cons, List.length_nil, List.cons_append, List.nil_append, List.replicate, Wp.startT,
  true_and, and_true, wif_true, wif_false, ex_some, ex_some1, ex_eq, ex_lst, ex_lst0, rEq_int, Bool.false_bne, Bool.true_bne, Int.reduceLT, Int.reduceLE, Int.reduceAdd, Nat.reduceAdd, upS, upS_upS, eq_self, ite_true, ite_false, beq_self_eq_true, Bool.not_true, Bool.not_false, isB_0, isB_1, isB_2, isB_3, isB_4, isB_5, isB_6, isB_7, isB_8, isB_9, isB_10, isB_11, isB_12, isB_13, isB_14, isB_15, isB_16, isB_17, isB_18, isB_19, isB_20, isB_21, isB_22, isB_23, isB_24, isB_25, isB_26, isB_27, isB_28, isB_29, isB_30, isB_31, isB_32, isB_33, isB_34, isB_35, cmul_l, cmul_r, cpow_lit, size_le, size_lt, atI_0, atI_1, atI_2, atI_3, atI_4, atI_5, atI_6, ixN_0, ixN_1, ixN_2, itemsT, tyT, reduceIte, *])
local macro_rules | `(tactic| walk_at "run") => `(tactic| repeat (first | walk_at "wp" | walk_at "go"))
/-! ### values -/
inductive Kn (S : Sta) : T → Prop
  | non : Kn S .non
  | bl (b : Bool) : Kn S (.bl b)
  | int (i : Int) : Kn S (.int i)
  | str (x : Str) (h : PyData.strOk x = true) : Kn S (.str x)
  | ref (p : Addr) (xs : List T) (h : S p = some (.lst xs)) : Kn S (.ref p)
  | tup (ts : List T) (hl : ts.length ≤ 1000) (h : ∀ t ∈ ts, Kn S t) : Kn S (.tup ts)
theorem Kn.mono {S S' : Sta} (k : ∀ p xs, S p = some (.lst xs) → ∃ ys, S' p = some (.lst ys)) {t : T} (h : Kn S t) : Kn S' t := by
  induction h with
  | non => exact .non
  | bl b => exact .bl b
  | int i => exact .int i
  | str x h => exact .str x h
  | ref p xs h =>
    obtain ⟨ys, e⟩ := k p xs h
    exact .ref p ys e
  | tup ts hl h ih => exact .tup ts hl ih
/-! ### what the program's tests tell -/
def isI : T → Int → Int → Bool
  | .int i, a, b => decide (a ≤ i) && decide (i ≤ b)
  | _, _, _ => false
def spIsI : WSp := fun ts S Q _ => match ts with
  | [v, .int a, .int b] => Kn S v ∧ Q (.bl (isI v a b)) S
  | _ => False
theorem hw_is_integer : ∀ ts S Q E, ts.length = 3 → spIsI ts S Q E → b_is_integer { nx := fun _ S' => Q .non S', rt := Q } (Wp.startT N_is_integer ts) S := by
  intro ts S Q E _ h
  match ts, h with
  | [v, .int a, .int b], ⟨kn, h⟩ =>
    unfold b_is_integer N_is_integer
    cases kn with
    | int i =>
      simp only [isI] at h
      walk_at "run"
      refine if_dec (fun h1 => ?_) (fun h1 => ?_)
      · simp only [h1, decide_true, Bool.true_and] at h
        exact h
      · simp only [h1, decide_false, Bool.false_and] at h
        exact h
    | _ => 
      simp only [isI] at h
      walk_at "run"
def isTu (v : T) (m : Int) : Bool := match v with
  | .tup ts => (ts.length : Int) == m
  | _ => false
def spTu : WSp := fun ts S Q _ => match ts with
  | [v, .int m] => Kn S v ∧ Q (.bl (isTu v m)) S
  | _ => False
theorem hw_is_tuple : ∀ ts S Q E, ts.length = 2 → spTu ts S Q E → b__is_tuple { nx := fun _ S' => Q .non S', rt := Q } (Wp.startT N__is_tuple ts) S := by
  intro ts S Q E _ h
  match ts, h with
  | [v, .int m], ⟨kn, h⟩ =>
    unfold b__is_tuple N__is_tuple
    cases kn with
    | _ =>
      simp only [isTu] at h
      walk_at "run"
def spBe : WSp := fun ts S Q _ => match ts with
  | [v, .int m] => Kn S v ∧ Q (.bl (isI v 0 (m - 1))) S
  | _ => False
theorem hw_is_below : ∀ ts S Q E, ts.length = 2 → spBe ts S Q E → b__is_below spIsI { nx := fun _ S' => Q .non S', rt := Q } (Wp.startT N__is_below ts) S := by
  intro ts S Q E _ h
  match ts, h with
  | [v, .int m], ⟨kn, h⟩ =>
    unfold b__is_below N__is_below
    walk_at "run"
    exact ⟨kn, h⟩
def spOr : WSp := fun ts S Q _ => match ts with
  | [v] => Kn S v ∧ Q (.bl (isI v 1 1000000)) S
  | _ => False
theorem hw_is_ordinal : ∀ ts S Q E, ts.length = 1 → spOr ts S Q E → b__is_ordinal spIsI { nx := fun _ S' => Q .non S', rt := Q } (Wp.startT N__is_ordinal ts) S := by
  intro ts S Q E _ h
  match ts, h with
  | [v], ⟨kn, h⟩ =>
    unfold b__is_ordinal N__is_ordinal
    walk_at "run"
    exact ⟨kn, h⟩
/-! ### flows, births, lives, bytes, addresses -/
def isPr : T → Bool
  | .tup [a, b] => isI a 0 5 && isI b 1 1000000
  | _ => false
def isLf : T → Bool
  | .tup [a, b, c] => (isI a 0 5 && isI b 1 1000000) && isI c 1 1000000
  | _ => false
def isBy : T → Bool
  | .tup ts => ts.all fun t => isI t 0 255
  | _ => false
def spPr : WSp := fun ts S Q _ => match ts with
  | [v] => Kn S v ∧ Q (.bl (isPr v)) S
  | _ => False
theorem tu_le {a b c : T} {r : List T} : isTu (.tup (a :: b :: c :: r)) 2 = false := by
  simp only [isTu, List.length_cons, beq_eq_false_iff_ne]
  omega
theorem tu_le3 {a b c d : T} {r : List T} : isTu (.tup (a :: b :: c :: d :: r)) 3 = false := by
  simp only [isTu, List.length_cons, beq_eq_false_iff_ne]
  omega
theorem hw_is_flow : ∀ ts S Q E, ts.length = 1 → spPr ts S Q E → b_is_flow spTu spBe spOr { nx := fun _ S' => Q .non S', rt := Q } (Wp.startT N_is_flow ts) S := by
  intro ts S Q E _ h
  match ts, h with
  | [v], ⟨kn, h⟩ =>
    unfold b_is_flow N_is_flow
    walk_at "run"
    refine ⟨kn, ?_⟩
    cases kn with
    | tup xs hl hk =>
      match xs, hl, hk, h with
      | [], _, _, h => exact h
      | [a], _, _, h => exact h
      | [a, b], _, hk, h =>
        walk_at "run"
        refine ⟨hk a (by simp), ?_⟩
        show wif (isI a 0 5) _ _
        simp only [isPr] at h
        refine if_bool (fun e => ?_) (fun e => ?_)
        · walk_at "run"
          refine ⟨hk b (by simp), ?_⟩
          rw [e, Bool.true_and] at h
          exact h
        · rw [e, Bool.false_and] at h
          exact h
      | a :: b :: c :: r, _, _, h =>
        rw [tu_le]
        exact h
    | _ => exact h
theorem hw_is_birth : ∀ ts S Q E, ts.length = 1 → spPr ts S Q E → b_is_birth spTu spBe spOr { nx := fun _ S' => Q .non S', rt := Q } (Wp.startT N_is_birth ts) S := by
  intro ts S Q E _ h
  match ts, h with
  | [v], ⟨kn, h⟩ =>
    unfold b_is_birth N_is_birth
    walk_at "run"
    refine ⟨kn, ?_⟩
    cases kn with
    | tup xs hl hk =>
      match xs, hl, hk, h with
      | [], _, _, h => exact h
      | [a], _, _, h => exact h
      | [a, b], _, hk, h =>
        walk_at "run"
        refine ⟨hk a (by simp), ?_⟩
        show wif (isI a 0 5) _ _
        simp only [isPr] at h
        refine if_bool (fun e => ?_) (fun e => ?_)
        · walk_at "run"
          refine ⟨hk b (by simp), ?_⟩
          rw [e, Bool.true_and] at h
          exact h
        · rw [e, Bool.false_and] at h
          exact h
      | a :: b :: c :: r, _, _, h =>
        rw [tu_le]
        exact h
    | _ => exact h
def spLf : WSp := fun ts S Q _ => match ts with
  | [v] => Kn S v ∧ Q (.bl (isLf v)) S
  | _ => False
theorem cut2 {a b c : T} : cutT [a, b, c] none (some 2) = [a, b] := rfl
theorem hw_is_life : ∀ ts S Q E, ts.length = 1 → spLf ts S Q E → b_is_life spTu spPr spOr { nx := fun _ S' => Q .non S', rt := Q } (Wp.startT N_is_life ts) S := by
  intro ts S Q E _ h
  match ts, h with
  | [v], ⟨kn, h⟩ =>
    unfold b_is_life N_is_life
    walk_at "run"
    refine ⟨kn, ?_⟩
    cases kn with
    | tup xs hl hk =>
      match xs, hl, hk, h with
      | [], _, _, h => exact h
      | [a], _, _, h => exact h
      | [a, b], _, _, h => exact h
      | [a, b, c], _, hk, h =>
        walk_at "run"
        rw [cut2]
        refine ⟨.tup _ (by simp) (fun t ht => hk t (by simp only [List.mem_cons, List.not_mem_nil, or_false] at ht ⊢; rcases ht with e | e <;> simp [e])), ?_⟩
        show wif (isPr (.tup [a, b])) _ _
        simp only [isLf] at h
        refine if_bool (fun e => ?_) (fun e => ?_)
        · walk_at "run"
          refine ⟨hk c (by simp), ?_⟩
          simp only [isPr] at e
          rw [e, Bool.true_and] at h
          exact h
        · simp only [isPr] at e
          rw [e, Bool.false_and] at h
          exact h
      | a :: b :: c :: d :: r, _, _, h =>
        rw [tu_le3]
        exact h
    | _ => exact h
def spBy : WSp := fun ts S Q _ => match ts with
  | [v] => Kn S v ∧ Q (.bl (isBy v)) S
  | _ => False
theorem all_bytes (S : Sta) (Q : T → Sta → Prop) (a0 : Option T) : ∀ (xs : List T) (y : Option T), (∀ t ∈ xs, Kn S t) → Q (.bl (xs.all fun t => isI t 0 255)) S → allW (gNm 1) (l1_is_bytes spIsI) (fun _ => True) [a0, y] Q xs S
  | [], y, _, q => ⟨trivial, q⟩
  | x :: xs, y, hk, q => by
    refine ⟨trivial, ?_⟩
    have ih := all_bytes S Q a0 xs y (fun t ht => hk t (List.mem_cons_of_mem _ ht))
    generalize allW (gNm 1) (l1_is_bytes spIsI) (fun _ => True) [a0, y] Q xs = LP at ih ⊢
    unfold l1_is_bytes
    walk_at "run"
    refine ⟨hk x List.mem_cons_self, ?_⟩
    show wif (isI x 0 255) _ _
    rw [List.all_cons] at q
    refine if_bool (fun e => ?_) (fun e => ?_)
    · rw [e, Bool.true_and] at q
      exact ih q
    · rw [e, Bool.false_and] at q
      exact q
theorem hw_is_bytes : ∀ ts S Q E, ts.length = 1 → spBy ts S Q E → b_is_bytes spIsI { nx := fun _ S' => Q .non S', rt := Q } (Wp.startT N_is_bytes ts) S := by
  intro ts S Q E _ h
  match ts, h with
  | [v], ⟨kn, h⟩ =>
    unfold b_is_bytes N_is_bytes
    cases kn with
    | tup xs hl hk =>
      walk_at "run"
      exact all_bytes S Q _ xs _ hk h
    | _ =>
      simp only [isBy] at h
      walk_at "run"
def fw : T → T
  | .tup (.str w :: _) => .str w
  | _ => .non
def spFw : WSp := fun ts S Q _ => match ts with
  | [v] => Kn S v ∧ Q (fw v) S
  | _ => False
theorem hw_first_word : ∀ ts S Q E, ts.length = 1 → spFw ts S Q E → b_first_word { nx := fun _ S' => Q .non S', rt := Q } (Wp.startT N_first_word ts) S := by
  intro ts S Q E _ h
  match ts, h with
  | [v], ⟨kn, h⟩ =>
    unfold b_first_word N_first_word
    cases kn with
    | tup xs hl hk =>
      match xs, hl, hk, h with
      | [], _, _, h =>
        simp only [fw] at h
        walk_at "run"
        exact if_dec (fun z => absurd z (by simp)) (fun _ => by walk_at "run")
      | a :: r, _, hk, h =>
        walk_at "run"
        refine if_dec (fun _ => ?_) (fun z => absurd (by omega) z)
        have ka := hk a (by simp)
        walk_at "run"
        cases ka with
        | _ =>
          simp only [fw] at h
          walk_at "run"
    | _ =>
      simp only [fw] at h
      walk_at "run"
def isAd : T → Bool
  | .tup [.str w] => w == "controller"
  | .tup [.str w, a] => if w = "client" ∨ w = "agent" then isI a 0 5 else if w = "mux" then isI a 0 2 else false
  | _ => false
def spAd : WSp := fun ts S Q _ => match ts with
  | [v] => Kn S v ∧ Q (.bl (isAd v)) S
  | _ => False
theorem rEq_str {x y : Str} {S : Sta} {Q : T → Sta → Prop} (hx : PyData.strOk x = true) (hy : PyData.strOk y = true) (q : Q (.bl (x == y)) S) : Wp.rEq false (.str x) (.str y) S Q := rEq_scal hx hy (by rw [Bool.false_bne]; exact q)
theorem rEq_ns {y : Str} {S : Sta} {Q : T → Sta → Prop} (hy : PyData.strOk y = true) (q : Q (.bl false) S) : Wp.rEq false .non (.str y) S Q := rEq_scal rfl hy q
theorem hw_is_address : ∀ ts S Q E, ts.length = 1 → spAd ts S Q E → b_is_address spFw spBe { nx := fun _ S' => Q .non S', rt := Q } (Wp.startT N_is_address ts) S := by
  intro ts S Q E _ h
  match ts, h with
  | [v], ⟨kn, h⟩ =>
    unfold b_is_address N_is_address
    walk_at "run"
    refine ⟨kn, ?_⟩
    have non : ∀ {v : T}, isAd v = false → fw v = .non → Q (.bl (isAd v)) S → _ := fun {v} (e1 : isAd v = false) (e2 : fw v = .non) (h : Q (.bl (isAd v)) S) => (show
      (fun x S1 => goS (wSeq (wIfS (wTest (wOp (Wp.rEq false) (wVar 1) (wC (.str "controller")))) (wRet (wOp (Wp.rEq false) (wCB rLen (wCons (wVar 0) wNil)) (wC (.int 1)))) wNext)
    (wSeq (wIfS (wTest (wOp (Wp.rEq false) (wVar 1) (wC (.str "client")))) (wRet (wAndV (wOp (Wp.rEq false) (wCB rLen (wCons (wVar 0) wNil)) (wC (.int 2))) (wCall 2 spBe (wCons (wOp Wp.rIx (wVar 0) (wC (.int 1))) (wCons (wC (.int 6)) wNil))))) wNext)
    (wSeq (wIfS (wTest (wOp (Wp.rEq false) (wVar 1) (wC (.str "mux")))) (wRet (wAndV (wOp (Wp.rEq false) (wCB rLen (wCons (wVar 0) wNil)) (wC (.int 2))) (wCall 2 spBe (wCons (wOp Wp.rIx (wVar 0) (wC (.int 1))) (wCons (wC (.int 3)) wNil))))) wNext)
    (wSeq (wIfS (wTest (wOp (Wp.rEq false) (wVar 1) (wC (.str "agent")))) (wRet (wAndV (wOp (Wp.rEq false) (wCB rLen (wCons (wVar 0) wNil)) (wC (.int 2))) (wCall 2 spBe (wCons (wOp Wp.rIx (wVar 0) (wC (.int 1))) (wCons (wC (.int 6)) wNil))))) wNext)
    (wRet (wC (.bl false)))))) { nx := fun _ S' => Q .non S', rt := Q }) [some v, some x] S1) (fw v) S from by
        rw [e1] at h
        rw [e2]
        walk_at "run"
        refine rEq_ns (by decide +kernel) ?_
        walk_at "run"
        refine rEq_ns (by decide +kernel) ?_
        walk_at "run"
        refine rEq_ns (by decide +kernel) ?_
        walk_at "run"
        refine rEq_ns (by decide +kernel) ?_
        walk_at "run")
    cases kn with
    | tup xs hl hk =>
      match xs, hl, hk, h with
      | [], _, _, h => exact non rfl rfl h
      | a :: r, _, hk, h =>
        have ka := hk a (by simp)
        cases ka with
        | str w hw =>
          have h1 : ∀ b : T, b ∈ r → Kn S b := fun b hb => hk b (List.mem_cons_of_mem _ hb)
          simp only [fw]
          walk_at "run"
          refine rEq_str hw (by decide +kernel) ?_
          refine if_bool (fun e => ?_) (fun e => ?_)
          · have e := eq_of_beq e
            subst e
            match r, h with
            | [], h => walk_at "run"; exact h
            | b :: r, h =>
              walk_at "run"
              have z : ∀ n : Nat, (((n + 1 + 1 : Nat) : Int) == 1) = false := fun n => by simp only [beq_eq_false_iff_ne]; omega
              rw [z]
              have z2 : isAd (.tup (.str "controller" :: b :: r)) = false := by
                match r with
                | [] => simp only [isAd, show ¬ ((("controller" : Str) = "client") ∨ (("controller" : Str) = "agent")) by decide +kernel, show ¬ (("controller" : Str) = "mux") by decide +kernel, if_false]
                | c :: r => rfl
              rw [z2] at h
              exact h
          · walk_at "run"
            refine rEq_str hw (by decide +kernel) ?_
            refine if_bool (fun e2 => ?_) (fun e2 => ?_)
            · have e2 := eq_of_beq e2
              subst e2
              match r, h, h1 with
              | [], h, _ => walk_at "run"; exact h
              | [b], h, h1 => walk_at "run"; exact ⟨h1 b (by simp), h⟩
              | b :: c :: r, h, _ =>
                walk_at "run"
                refine if_bool (fun z => absurd (eq_of_beq z) (by omega)) (fun _ => h)
            · walk_at "run"
              refine rEq_str hw (by decide +kernel) ?_
              refine if_bool (fun e3 => ?_) (fun e3 => ?_)
              · have e3 := eq_of_beq e3
                subst e3
                match r, h, h1 with
                | [], h, _ => walk_at "run"; exact h
                | [b], h, h1 => walk_at "run"; exact ⟨h1 b (by simp), h⟩
                | b :: c :: r, h, _ =>
                  walk_at "run"
                  refine if_bool (fun z => absurd (eq_of_beq z) (by omega)) (fun _ => h)
              · walk_at "run"
                refine rEq_str hw (by decide +kernel) ?_
                refine if_bool (fun e4 => ?_) (fun e4 => ?_)
                · have e4 := eq_of_beq e4
                  subst e4
                  match r, h, h1 with
                  | [], h, _ => walk_at "run"; exact h
                  | [b], h, h1 => walk_at "run"; exact ⟨h1 b (by simp), h⟩
                  | b :: c :: r, h, _ =>
                    walk_at "run"
                    refine if_bool (fun z => absurd (eq_of_beq z) (by omega)) (fun _ => h)
                · walk_at "run"
                  have n1 : w ≠ "controller" := fun z => by rw [z] at e; exact absurd e (by decide)
                  have n2 : w ≠ "client" := fun z => by rw [z] at e2; exact absurd e2 (by decide)
                  have n3 : w ≠ "mux" := fun z => by rw [z] at e3; exact absurd e3 (by decide)
                  have n4 : w ≠ "agent" := fun z => by rw [z] at e4; exact absurd e4 (by decide)
                  match r, h with
                  | [], h => simp only [isAd, e] at h; exact h
                  | [b], h => simp only [isAd, n2, n3, n4, or_self, if_false] at h; exact h
                  | b :: c :: r, h => exact h
        | _ => exact non rfl rfl h
    | _ => exact non rfl rfl h
end My

set_option Elab.async false
set_option linter.all false
set_option maxRecDepth 100000
namespace My
open PySem PySem.Spec PyProof.Rows L2 Wp Gn
local macro_rules | `(tactic| walk_at "go") => `(tactic| (with_reducible refine goS_i ?_))
local macro_rules | `(tactic| walk_at "wp") => `(tactic| simp (disch := omega) only [wSeq, wNext, wSet, wVar, wC, wOp, wRet, wIfS, wTest, wCall, wCons, wNil, wTup, wLst, wAsg, gTp, gC, gNm, gN0, gIx, rSet, Wp.rAdd, rMul, rMod, Wp.rSub, rFdiv, rPow, rInt, Wp.rIx, rLt, rLe, rCmp, rGeI, rGtI, wCB, rLen, rLen1, rInt1, rMax2, rMin2,
  wIsi, wNot, wOr, wAnd, wAndV, wOrV, wNotV, wFor, iRg1, iSeqW, wAll, wChain, wSl, wNoPart, wPart, rSl, wNeg, rNeg, wLc, wYes, wDrop, wipeT, List.map, List.set_cons_zero, List.set_cons_succ, List.getElem?_cons_zero, List.getElem?_cons_succ, List.length_cons, List.length_nil, List.cons_append, List.nil_append, List.replicate, Wp.startT,
  true_and, and_true, wif_true, wif_false, ex_some, ex_some1, ex_eq, ex_lst, ex_lst0, rEq_int, Bool.false_bne, Bool.true_bne, Int.reduceLT, Int.reduceLE, Int.reduceAdd, Nat.reduceAdd, upS, upS_upS, eq_self, ite_true, ite_false, beq_self_eq_true, Bool.not_true, Bool.not_false, isB_0, isB_1, isB_2, isB_3, isB_4, isB_5, isB_6, isB_7, isB_8, isB_9, isB_10, isB_11, isB_12, isB_13, isB_14, isB_15, isB_16, isB_17, isB_18, isB_19, isB_20, isB_21, isB_22, isB_23, isB_24, isB_25, isB_26, isB_27, isB_28, isB_29, isB_30, isB_31, isB_32, isB_33, isB_34, isB_35, cmul_l, cmul_r, cpow_lit, size_le, size_lt, atI_0, atI_1, atI_2, atI_3, atI_4, atI_5, atI_6, ixN_0, ixN_1, ixN_2, itemsT, tyT, reduceIte, *])
local macro_rules | `(tactic| walk_at "run") => `(tactic| repeat (first | walk_at "wp" | walk_at "go"))
local macro_rules | `(tactic| walk_at "wq") => `(tactic| simp (disch := omega) only [wSeq, wNext, wSet, wVar, wC, wOp, wRet, wIfS, wTest, wCall, wCons, wNil, wTup, wLst, wAsg, gTp, gC, gNm, gN0, gIx, rSet, Wp.rAdd, rMul, rMod, Wp.rSub, rFdiv, rPow, rInt, Wp.rIx, rLt, rLe, rCmp, rGeI, rGtI, wCB, rLen, rLen1, rInt1, rMax2, rMin2,
  wIsi, wNot, wOr, wAnd, wAndV, wOrV, wNotV, wFor, iRg1, iSeqW, wAll, wChain, wSl, wNoPart, wPart, rSl, wNeg, rNeg, wLc, wYes, wDrop, wipeT, List.map, List.set_cons_zero, List.set_cons_succ, List.getElem?_cons_zero, List.getElem?_cons_succ, List.length_cons, List.length_nil, List.cons_append, List.nil_append, List.replicate, Wp.startT,
  true_and, and_true, wif_true, wif_false, ex_some, ex_some1, ex_eq, ex_lst, ex_lst0, rEq_int, Bool.false_bne, Bool.true_bne, Int.reduceLT, Int.reduceLE, Int.reduceAdd, Nat.reduceAdd, eq_self, ite_true, ite_false, beq_self_eq_true, Bool.not_true, Bool.not_false, isB_0, isB_1, isB_2, isB_3, isB_4, isB_5, isB_6, isB_7, isB_8, isB_9, isB_10, isB_11, isB_12, isB_13, isB_14, isB_15, isB_16, isB_17, isB_18, isB_19, isB_20, isB_21, isB_22, isB_23, isB_24, isB_25, isB_26, isB_27, isB_28, isB_29, isB_30, isB_31, isB_32, isB_33, isB_34, isB_35, cmul_l, cmul_r, cpow_lit, size_le, size_lt, atI_0, atI_1, atI_2, atI_3, atI_4, atI_5, atI_6, ixN_0, ixN_1, ixN_2, itemsT, tyT, reduceIte, *])
local macro_rules | `(tactic| walk_at "r2") => `(tactic| repeat (first | walk_at "wq" | walk_at "go"))
/-! ### states -/
def IsBag (S : Sta) (p : Addr) : Prop := ∃ a b c : Int, S p = some (.lst [.int a, .int b, .int c])
def Gr (S S' : Sta) : Prop := ∀ a o, S a = some o → S' a = some o
theorem Gr.refl (S : Sta) : Gr S S := fun _ _ h => h
theorem Gr.trans {S S1 S2 : Sta} (a : Gr S S1) (b : Gr S1 S2) : Gr S S2 := fun x o h => b x o (a x o h)
theorem gr_new {S : Sta} {q : Addr} {o : O} (h : S q = none) : Gr S (upS S q o) := fun a u e => by
  unfold upS; rw [if_neg (fun z => by rw [z, h] at e; cases e)]; exact e
theorem al_ {S : Sta} {q : Addr} {o : O} (h : S q = none) : ∃ S1 : Sta, upS S q o = S1 ∧ Gr S S1 ∧ S1 q = some o := ⟨_, rfl, gr_new h, upS_same⟩
/-- all stays but the bag at p -/
structure Grb (p : Addr) (S S' : Sta) : Prop where
  keep : ∀ a o, S a = some o → a ≠ p → S' a = some o
  bag : IsBag S' p
theorem Grb.trans {p : Addr} {S S1 S2 : Sta} (a : Grb p S S1) (b : Grb p S1 S2) : Grb p S S2 := ⟨fun x o h n => b.keep x o (a.keep x o h n) n, b.bag⟩
theorem Grb.refl {p : Addr} {S : Sta} (h : IsBag S p) : Grb p S S := ⟨fun _ _ h _ => h, h⟩
theorem IsBag.gr {p : Addr} {S S' : Sta} (h : IsBag S p) (g : Gr S S') : IsBag S' p := by
  obtain ⟨a, b, c, e⟩ := h
  exact ⟨a, b, c, g _ _ e⟩
theorem Grb.gr {p : Addr} {S S1 S2 : Sta} (a : Grb p S S1) (g : Gr S1 S2) : Grb p S S2 := ⟨fun x o h n => g _ _ (a.keep x o h n), a.bag.gr g⟩
theorem Gr.grb {p : Addr} {S S1 : Sta} (h : IsBag S p) (g : Gr S S1) : Grb p S S1 := ⟨fun x o e _ => g _ _ e, h.gr g⟩
theorem Gr.lists {S S' : Sta} (g : Gr S S') : ∀ p xs, S p = some (.lst xs) → ∃ ys, S' p = some (.lst ys) := fun p xs e => ⟨xs, g p _ e⟩
theorem Grb.lists {p : Addr} {S S' : Sta} (g : Grb p S S') : ∀ q xs, S q = some (.lst xs) → ∃ ys, S' q = some (.lst ys) := fun q xs e => by
  by_cases h : q = p
  · obtain ⟨a, b, c, z⟩ := g.bag
    exact ⟨_, by rw [h]; exact z⟩
  · exact ⟨xs, g.keep q _ e h⟩
theorem new_ne {S : Sta} {p q : Addr} (h : IsBag S p) (hq : S q = none) : q ≠ p := fun e => by
  obtain ⟨a, b, c, z⟩ := h
  rw [e, z] at hq; cases hq
def spBag : WSp := fun ts S Q _ => match ts with
  | [.fl us, .int k] => ∃ ns : List Int, us = ns.map T.int ∧ 0 ≤ k ∧ ns.length ≤ 1000 ∧ ∀ (p : Addr) (a b c : Int), S p = none → Q (.ref p) (upS S p (.lst [.int a, .int b, .int c]))
  | _ => False
theorem hw_bag : ∀ ts S Q E, ts.length = 2 → spBag ts S Q E → b__law_bag { nx := fun _ S' => Q .non S', rt := Q } (Wp.startT N__law_bag ts) S := by
  intro ts S Q E _ h
  match ts, h with
  | [.fl us, .int k], ⟨ns, e, h0, hl, h⟩ =>
    subst e
    unfold b__law_bag N__law_bag
    walk_at "run"
    refine if_dec (fun hk => ?_) (fun hk => ?_)
    · obtain ⟨x, hx, hm⟩ := atI_in (xs := ns.map T.int) h0 hk
      obtain ⟨n, _, rfl⟩ := List.mem_map.mp hm
      walk_at "run"
      refine if_dec (fun _ => ?_) (fun _ => ?_)
      · walk_at "run"
        exact fun p hp => h p _ _ _ hp
      · walk_at "run"
        exact fun p hp => h p _ _ _ hp
    · walk_at "run"
      refine if_dec (fun _ => ?_) (fun _ => ?_)
      · walk_at "run"
        exact fun p hp => h p _ _ _ hp
      · walk_at "run"
        exact fun p hp => h p _ _ _ hp
def spDraw0 : WSp := fun ts S Q _ => match ts with
  | [.ref p, .int m] => IsBag S p ∧ 0 < m ∧ m < 2 ^ 62 ∧ ∀ (r a b c : Int), 0 ≤ r → r < m → Q (.int r) (upS S p (.lst [.int a, .int b, .int c]))
  | _ => False
theorem hw_draw : ∀ ts S Q E, ts.length = 2 → spDraw0 ts S Q E → b__law_draw { nx := fun _ S' => Q .non S', rt := Q } (Wp.startT N__law_draw ts) S := by
  intro ts S Q E _ h
  match ts, h with
  | [.ref p, .int m], ⟨⟨a, b, c, hS⟩, h0, h1, h⟩ =>
    unfold b__law_draw N__law_draw
    walk_at "run"
    refine if_bool (fun _ => ?_) (fun _ => ?_)
    · walk_at "run"
      exact h _ _ _ _ (Int.emod_nonneg _ (by omega)) (Int.emod_lt_of_pos _ h0)
    · walk_at "run"
      exact h _ _ _ _ (Int.emod_nonneg _ (by omega)) (Int.emod_lt_of_pos _ h0)
def spDraw : WSp := fun ts S Q _ => match ts with
  | [.ref p, .int m] => IsBag S p ∧ 0 < m ∧ m < 2 ^ 62 ∧ ∀ (r : Int) (S' : Sta), 0 ≤ r → r < m → Grb p S S' → Q (.int r) S'
  | _ => False
theorem draw_imp : ∀ ts S Q E, spDraw ts S Q E → spDraw0 ts S Q E := fun ts S Q E h => by
  match ts, h with
  | [.ref p, .int m], ⟨h1, h2, h3, h4⟩ => exact ⟨h1, h2, h3, fun r a b c g1 g2 => h4 r _ g1 g2 ⟨fun x o e n => by rw [upS_ne n]; exact e, _, _, _, upS_same⟩⟩
theorem hw_draw1 : ∀ ts S Q E, ts.length = 2 → spDraw ts S Q E → b__law_draw { nx := fun _ S' => Q .non S', rt := Q } (Wp.startT N__law_draw ts) S := fun ts S Q E hl h => hw_draw ts S Q E hl (draw_imp ts S Q E h)
def spCount : WSp := fun ts S Q _ => match ts with
  | [.ref p, .int l] => IsBag S p ∧ ∀ (n : Int) (S' : Sta), Grb p S S' → Q (.int n) S'
  | _ => False
theorem ints_at {xs : List T} {r : Int} (hx : ∀ t ∈ xs, ∃ n, t = .int n) (h0 : 0 ≤ r) (h1 : r < xs.length) : ∃ n, atI xs r = some (.int n) := by
  obtain ⟨t, e, m⟩ := atI_in h0 h1
  obtain ⟨n, rfl⟩ := hx t m
  exact ⟨n, e⟩
theorem hw_count : ∀ ts S Q E, ts.length = 2 → spCount ts S Q E → b__law_count spDraw { nx := fun _ S' => Q .non S', rt := Q } (Wp.startT N__law_count ts) S := by
  intro ts S Q E _ h
  match ts, h with
  | [.ref p, .int l], ⟨hb, h⟩ =>
    unfold b__law_count N__law_count
    walk_at "r2"
    refine ⟨hb, by omega, by omega, fun d S1 _ _ g1 => ?_⟩
    walk_at "r2"
    intro q hq
    have hqp : q ≠ p := new_ne g1.bag hq
    obtain ⟨S2, e, g2, e2⟩ := al_ hq
    rw [e]
    refine ⟨g1.bag.gr g2, by omega, by omega, fun r S3 h0 h1 g3 => ?_⟩
    have e3 := g3.keep _ _ e2 hqp
    walk_at "r2"
    obtain ⟨n, en⟩ := ints_at (xs := [.int l, .int 1, .int 2, .int 999999, .int 1000000, .int (1 + d)]) (fun t ht => by simp only [List.mem_cons, List.not_mem_nil, or_false] at ht; rcases ht with e | e | e | e | e | e <;> exact ⟨_, e⟩) h0 (by simp; omega)
    rw [en]
    walk_at "r2"
    exact h n S3 ((g1.gr g2).trans g3)
def spFlow : WSp := fun ts S Q _ => match ts with
  | [.ref p] => IsBag S p ∧ ∀ (a b : Int) (S' : Sta), Grb p S S' → Q (.tup [.int a, .int b]) S'
  | _ => False
theorem hw_flow : ∀ ts S Q E, ts.length = 1 → spFlow ts S Q E → b__law_flow spCount spDraw { nx := fun _ S' => Q .non S', rt := Q } (Wp.startT N__law_flow ts) S := by
  intro ts S Q E _ h
  match ts, h with
  | [.ref p], ⟨hb, h⟩ =>
    unfold b__law_flow N__law_flow
    walk_at "r2"
    refine ⟨hb, by omega, by omega, fun d S1 _ _ g1 => ?_⟩
    walk_at "r2"
    refine ⟨g1.bag, fun n S2 g2 => ?_⟩
    walk_at "r2"
    exact h d n S2 (g1.trans g2)
theorem hw_birth : ∀ ts S Q E, ts.length = 1 → spFlow ts S Q E → b__law_birth spCount spDraw { nx := fun _ S' => Q .non S', rt := Q } (Wp.startT N__law_birth ts) S := by
  intro ts S Q E _ h
  match ts, h with
  | [.ref p], ⟨hb, h⟩ =>
    unfold b__law_birth N__law_birth
    walk_at "r2"
    refine ⟨hb, by omega, by omega, fun d S1 _ _ g1 => ?_⟩
    walk_at "r2"
    refine ⟨g1.bag, fun n S2 g2 => ?_⟩
    walk_at "r2"
    exact h d n S2 (g1.trans g2)
def spLife : WSp := fun ts S Q _ => match ts with
  | [.ref p] => IsBag S p ∧ ∀ (a b c : Int) (S' : Sta), Grb p S S' → Q (.tup [.int a, .int b, .int c]) S'
  | _ => False
theorem hw_life : ∀ ts S Q E, ts.length = 1 → spLife ts S Q E → b__law_life spFlow spCount { nx := fun _ S' => Q .non S', rt := Q } (Wp.startT N__law_life ts) S := by
  intro ts S Q E _ h
  match ts, h with
  | [.ref p], ⟨hb, h⟩ =>
    unfold b__law_life N__law_life
    walk_at "r2"
    refine ⟨hb, fun a b S1 g1 => ?_⟩
    walk_at "r2"
    refine ⟨g1.bag, fun n S2 g2 => ?_⟩
    walk_at "r2"
    exact h a b n S2 (g1.trans g2)
theorem hw_is_int : ∀ ts S Q E, ts.length = 3 → spIsI ts S Q E → b__law_is_int { nx := fun _ S' => Q .non S', rt := Q } (Wp.startT N__law_is_int ts) S := by
  intro ts S Q E _ h
  match ts, h with
  | [v, .int a, .int b], ⟨kn, h⟩ =>
    unfold b__law_is_int N__law_is_int
    cases kn with
    | int i =>
      simp only [isI] at h
      walk_at "run"
      refine if_dec (fun h1 => ?_) (fun h1 => ?_)
      · simp only [h1, decide_true, Bool.true_and] at h
        exact h
      · simp only [h1, decide_false, Bool.false_and] at h
        exact h
    | _ => 
      simp only [isI] at h
      walk_at "run"
def spTells : WSp := fun ts S Q _ => match ts with
  | [.bl a, .bl b] => Q (.bl (a == b)) S
  | _ => False
theorem hw_tells : ∀ ts S Q E, ts.length = 2 → spTells ts S Q E → b__law_tells { nx := fun _ S' => Q .non S', rt := Q } (Wp.startT N__law_tells ts) S := by
  intro ts S Q E _ h
  match ts, h with
  | [.bl a, .bl b], h =>
    unfold b__law_tells N__law_tells
    walk_at "r2"
    exact rEq_scal rfl rfl (by rw [Bool.false_bne]; exact h)
end My

set_option Elab.async false
set_option linter.all false
set_option maxRecDepth 100000
namespace My
open PySem PySem.Spec PyProof.Rows L2 Wp Gn
local macro_rules | `(tactic| walk_at "go") => `(tactic| (with_reducible refine goS_i ?_))
local macro_rules | `(tactic| walk_at "wp") => `(tactic| simp (disch := omega) only [wSeq, wNext, wSet, wVar, wC, wOp, wRet, wIfS, wTest, wCall, wCons, wNil, wTup, wLst, wAsg, gTp, gC, gNm, gN0, gIx, rSet, Wp.rAdd, rMul, rMod, Wp.rSub, rFdiv, rPow, rInt, Wp.rIx, rLt, rLe, rCmp, rGeI, rGtI, wCB, rLen, rLen1, rInt1, rMax2, rMin2,
  wIsi, wNot, wOr, wAnd, wAndV, wOrV, wNotV, wFor, iRg1, iSeqW, wAll, wChain, wSl, wNoPart, wPart, rSl, wNeg, rNeg, wLc, wYes, wDrop, wipeT, List.map, List.set_cons_zero, List.set_cons_succ, List.getElem?_cons_zero, List.getElem?_cons_succ, List.length_cons, List.length_nil, List.cons_append, List.nil_append, List.replicate, Wp.startT,
  true_and, and_true, wif_true, wif_false, ex_some, ex_some1, ex_eq, ex_lst, ex_lst0, rEq_int, Bool.false_bne, Bool.true_bne, Int.reduceLT, Int.reduceLE, Int.reduceAdd, Nat.reduceAdd, upS, upS_upS, eq_self, ite_true, ite_false, beq_self_eq_true, Bool.not_true, Bool.not_false, isB_0, isB_1, isB_2, isB_3, isB_4, isB_5, isB_6, isB_7, isB_8, isB_9, isB_10, isB_11, isB_12, isB_13, isB_14, isB_15, isB_16, isB_17, isB_18, isB_19, isB_20, isB_21, isB_22, isB_23, isB_24, isB_25, isB_26, isB_27, isB_28, isB_29, isB_30, isB_31, isB_32, isB_33, isB_34, isB_35, cmul_l, cmul_r, cpow_lit, size_le, size_lt, atI_0, atI_1, atI_2, atI_3, atI_4, atI_5, atI_6, ixN_0, ixN_1, ixN_2, itemsT, tyT, reduceIte, *])
local macro_rules | `(tactic| walk_at "run") => `(tactic| repeat (first | walk_at "wp" | walk_at "go"))
local macro_rules | `(tactic| walk_at "wq") => `(tactic| simp (disch := omega) only [wSeq, wNext, wSet, wVar, wC, wOp, wRet, wIfS, wTest, wCall, wCons, wNil, wTup, wLst, wAsg, gTp, gC, gNm, gN0, gIx, rSet, Wp.rAdd, rMul, rMod, Wp.rSub, rFdiv, rPow, rInt, Wp.rIx, rLt, rLe, rCmp, rGeI, rGtI, wCB, rLen, rLen1, rInt1, rMax2, rMin2,
  wIsi, wNot, wOr, wAnd, wAndV, wOrV, wNotV, wFor, iRg1, iSeqW, wAll, wChain, wSl, wNoPart, wPart, rSl, wNeg, rNeg, wLc, wYes, wDrop, wipeT, List.map, List.set_cons_zero, List.set_cons_succ, List.getElem?_cons_zero, List.getElem?_cons_succ, List.length_cons, List.length_nil, List.cons_append, List.nil_append, List.replicate, Wp.startT,
  true_and, and_true, wif_true, wif_false, ex_some, ex_some1, ex_eq, ex_lst, ex_lst0, rEq_int, Bool.false_bne, Bool.true_bne, Int.reduceLT, Int.reduceLE, Int.reduceAdd, Nat.reduceAdd, eq_self, ite_true, ite_false, beq_self_eq_true, Bool.not_true, Bool.not_false, isB_0, isB_1, isB_2, isB_3, isB_4, isB_5, isB_6, isB_7, isB_8, isB_9, isB_10, isB_11, isB_12, isB_13, isB_14, isB_15, isB_16, isB_17, isB_18, isB_19, isB_20, isB_21, isB_22, isB_23, isB_24, isB_25, isB_26, isB_27, isB_28, isB_29, isB_30, isB_31, isB_32, isB_33, isB_34, isB_35, cmul_l, cmul_r, cpow_lit, size_le, size_lt, atI_0, atI_1, atI_2, atI_3, atI_4, atI_5, atI_6, ixN_0, ixN_1, ixN_2, itemsT, tyT, reduceIte, *])
local macro_rules | `(tactic| walk_at "r2") => `(tactic| repeat (first | walk_at "wq" | walk_at "go"))
/-! ### the law's own tests -/
def isPm : T → Int → Bool
  | .tup (a :: r), m => (((r.length + 1 : Nat) : Int) == 2 + m) && (isI a 0 5 && r.all fun t => isI t 1 1000000)
  | _, _ => false
theorem pm0 (v : T) : isPm v 0 = isPr v := by
  match v with
  | .tup [] => rfl
  | .tup [a] => rfl
  | .tup [a, b] => simp [isPm, isPr]
  | .tup (a :: b :: c :: r) =>
    have z : ((((b :: c :: r).length + 1 : Nat) : Int) == 2 + 0) = false := by simp only [List.length_cons, beq_eq_false_iff_ne]; omega
    simp only [isPm, z, Bool.false_and]
    rfl
  | .non => rfl
  | .bl _ => rfl
  | .int _ => rfl
  | .str _ => rfl
  | .fl _ => rfl
  | .ref _ => rfl
theorem pm1 (v : T) : isPm v 1 = isLf v := by
  match v with
  | .tup [] => rfl
  | .tup [a] => rfl
  | .tup [a, b] => rfl
  | .tup [a, b, c] => simp [isPm, isLf, Bool.and_assoc]
  | .tup (a :: b :: c :: d :: r) =>
    have z : ((((b :: c :: d :: r).length + 1 : Nat) : Int) == 2 + 1) = false := by simp only [List.length_cons, beq_eq_false_iff_ne]; omega
    simp only [isPm, z, Bool.false_and]
    rfl
  | .non => rfl
  | .bl _ => rfl
  | .int _ => rfl
  | .str _ => rfl
  | .fl _ => rfl
  | .ref _ => rfl
theorem inF_bls (f : T → Bool) : ∀ xs : List T, (true != inF (.bl false) (xs.map fun x => .bl (f x))) = xs.all f
  | [] => rfl
  | x :: xs => by
    have ih := inF_bls f xs
    simp only [inF, List.map_cons, List.any_cons, List.all_cons] at ih ⊢
    rw [← ih]
    cases f x <;> simp [eqF]
theorem flat_bls (f : T → Bool) (xs : List T) : (xs.map fun x => T.bl (f x)).all flatT = true := by
  simp [flatT]
theorem cut1 {a : T} {r : List T} : cutT (a :: r) (some 1) none = r := by
  have h1 : HT.sIx (r.length + 1) 0 (some 1) = 1 := by
    simp only [HT.sIx]
    first | rfl | omega | (split <;> omega)
  have h2 : HT.sIx (r.length + 1) (r.length + 1) none = r.length + 1 := rfl
  unfold cutT
  rw [List.length_cons, h1, h2]
  simp
def spPm : WSp := fun ts S Q _ => match ts with
  | [v, .int m] => Kn S v ∧ 0 ≤ m ∧ ∀ S', Gr S S' → Q (.bl (isPm v m)) S'
  | _ => False
theorem hw_is_pair : ∀ ts S Q E, ts.length = 2 → spPm ts S Q E → b__law_is_pair spIsI { nx := fun _ S' => Q .non S', rt := Q } (Wp.startT N__law_is_pair ts) S := by
  intro ts S Q E _ h
  match ts, h with
  | [v, .int m], ⟨kn, hm, h⟩ =>
    unfold b__law_is_pair N__law_is_pair
    cases kn with
    | tup xs hl hk =>
      match xs, hl, hk, h with
      | [], _, _, h =>
        walk_at "r2"
        refine if_bool (fun _ => ?_) (fun e => absurd e (by simp; omega))
        walk_at "r2"
        exact h S (Gr.refl S)
      | a :: r, hl, hk, h =>
        walk_at "r2"
        refine if_bool (fun e => ?_) (fun e => ?_)
        · walk_at "r2"
          have e2 : ((((r.length + 1 : Nat) : Int)) == 2 + m) = false := by simpa using e
          have z : isPm (.tup (a :: r)) m = false := by simp only [isPm, e2, Bool.false_and]
          rw [z] at h
          exact h S (Gr.refl S)
        · have e2 : ((((r.length + 1 : Nat) : Int)) == 2 + m) = true := by simpa using e
          walk_at "r2"
          refine ⟨hk a List.mem_cons_self, ?_⟩
          show wif (!isI a 0 5) _ _
          have hz : isPm (.tup (a :: r)) m = (isI a 0 5 && r.all fun t => isI t 1 1000000) := by simp only [isPm, e2, Bool.true_and]
          rw [hz] at h
          refine if_bool (fun e3 => ?_) (fun e3 => ?_)
          · have e4 : isI a 0 5 = false := by simpa using e3
            walk_at "r2"
            rw [e4, Bool.false_and] at h
            exact h S (Gr.refl S)
          · have e4 : isI a 0 5 = true := by simpa using e3
            rw [e4, Bool.true_and] at h
            walk_at "r2"
            rw [cut1]
            intro D hD
            refine compW_pure (fun x => .bl (isI x 1 1000000)) (fun _ => trivial) _ [] _ (fun x hx acc R q => ?_) ?_ ?_
            · unfold l1__law_is_pair
              walk_at "r2"
              exact ⟨(hk x (List.mem_cons_of_mem _ hx)).mono (gr_new hD).lists, q⟩
            · simp only [List.length_cons, List.length_nil] at hl ⊢
              omega
            · refine ⟨_, itemsT_ref upS_same, rfl, ?_, ?_⟩
              · rw [List.nil_append]
                exact flat_bls _ r
              · rw [List.nil_append, inF_bls (fun x => isI x 1 1000000)]
                exact h _ (gr_new hD)
    | _ =>
      simp only [isPm] at h
      walk_at "r2"
      exact h S (Gr.refl S)
def spBy2 : WSp := fun ts S Q _ => match ts with
  | [v] => Kn S v ∧ ∀ S', Gr S S' → Q (.bl (isBy v)) S'
  | _ => False
theorem hw_are_bytes : ∀ ts S Q E, ts.length = 1 → spBy2 ts S Q E → b__law_are_bytes spIsI { nx := fun _ S' => Q .non S', rt := Q } (Wp.startT N__law_are_bytes ts) S := by
  intro ts S Q E _ h
  match ts, h with
  | [v], ⟨kn, h⟩ =>
    unfold b__law_are_bytes N__law_are_bytes
    cases kn with
    | tup xs hl hk =>
      walk_at "r2"
      intro D hD
      refine compW_pure (fun x => .bl (isI x 0 255)) (fun _ => trivial) _ [] _ (fun x hx acc R q => ?_) ?_ ?_
      · unfold l1__law_are_bytes
        walk_at "r2"
        exact ⟨(hk x hx).mono (gr_new hD).lists, q⟩
      · simp only [List.length_nil]
        omega
      · refine ⟨_, itemsT_ref upS_same, rfl, ?_, ?_⟩
        · rw [List.nil_append]
          exact flat_bls _ xs
        · rw [List.nil_append, inF_bls (fun x => isI x 0 255)]
          exact h _ (gr_new hD)
    | _ =>
      simp only [isBy] at h
      walk_at "r2"
      exact h S (Gr.refl S)
def spAd2 : WSp := fun ts S Q _ => match ts with
  | [v] => Kn S v ∧ ∀ S', Gr S S' → Q (.bl (isAd v)) S'
  | _ => False
theorem hw_ad2_tail (b : T) (w : Str) (hw : PyData.strOk w = true) (S0 S : Sta) (Q : T → Sta → Prop) (g0 : Gr S0 S) (hb : Kn S b) (h : ∀ S', Gr S0 S' → Q (.bl (isAd (.tup [.str w, b]))) S') (q : Addr) (hq : S q = some (.lst [.str "client", .str "mux", .str "agent"])) (Dn : Sl → Sta → Prop) :
    (wRet (wAndV (wOp (rIn false) (wOp Wp.rIx (wVar 0) (wC (.int 0))) (wVar 1)) (wCall 3 spIsI (wCons (wOp Wp.rIx (wVar 0) (wC (.int 1))) (wCons (wC (.int 0)) (wCons (wOp Wp.rIx (wLst (wCons (wC (.int 5)) (wCons (wC (.int 2)) (wCons (wC (.int 5)) wNil)))) (wMt rIndexT (wVar 1) (wCons (wOp Wp.rIx (wVar 0) (wC (.int 0))) wNil))) wNil)))))) { nx := Dn, rt := Q } [some (.tup [.str w, b]), some (.ref q)] S := by
  walk_at "r2"
  refine ⟨_, itemsT_ref hq, rfl, rfl, ?_⟩
  walk_at "r2"
  have e : inF (.str w) [.str "client", .str "mux", .str "agent"] = (decide (w = "client") || (decide (w = "mux") || decide (w = "agent"))) := by
    simp only [inF, List.any_cons, List.any_nil, eqF, Bool.or_false]
    have k : ∀ x : Str, (x == w) = decide (w = x) := fun x => by
      by_cases z : w = x
      · rw [z]; simp
      · rw [decide_eq_false z]; exact beq_eq_false_iff_ne.mpr fun y => z y.symm
    rw [k, k, k]
  rw [e]
  by_cases c1 : w = "client"
  · subst c1
    simp only [decide_true, Bool.true_or, wif_true]
    walk_at "r2"
    intro p hp
    obtain ⟨S1, e1, g, e2⟩ := al_ hp
    rw [e1]
    have hq2 := g _ _ hq
    unfold wMt
    walk_at "r2"
    refine ⟨_, hq2, rfl, rfl, 0, _, rfl, by simp [eqF], (fun m z' hm => absurd hm (Nat.not_lt_zero m)), ?_⟩
    show ∃ ts, _ = some ts ∧ ∃ t, _ = some t ∧ _
    refine ⟨_, itemsT_ref e2, _, atI_lit (j := 0), ?_⟩
    exact ⟨hb.mono g.lists, h _ (g0.trans g)⟩
  · by_cases c2 : w = "mux"
    · subst c2
      simp only [decide_true, Bool.true_or, Bool.or_true, wif_true]
      walk_at "r2"
      intro p hp
      obtain ⟨S1, e1, g, e2⟩ := al_ hp
      rw [e1]
      have hq2 := g _ _ hq
      unfold wMt
      walk_at "r2"
      refine ⟨_, hq2, rfl, rfl, 1, _, rfl, by simp [eqF], (fun m z' hm e => by rcases (show m = 0 by omega) with z; subst z; cases e; rfl), ?_⟩
      show ∃ ts, _ = some ts ∧ ∃ t, _ = some t ∧ _
      refine ⟨_, itemsT_ref e2, _, atI_lit (j := 1), ?_⟩
      exact ⟨hb.mono g.lists, h _ (g0.trans g)⟩
    · by_cases c3 : w = "agent"
      · subst c3
        simp only [decide_true, Bool.or_true, wif_true]
        walk_at "r2"
        intro p hp
        obtain ⟨S1, e1, g, e2⟩ := al_ hp
        rw [e1]
        have hq2 := g _ _ hq
        unfold wMt
        walk_at "r2"
        refine ⟨_, hq2, rfl, rfl, 2, _, rfl, by simp [eqF], (fun m z' hm e => by rcases (show m = 0 ∨ m = 1 by omega) with z | z <;> subst z <;> cases e <;> rfl), ?_⟩
        show ∃ ts, _ = some ts ∧ ∃ t, _ = some t ∧ _
        refine ⟨_, itemsT_ref e2, _, atI_lit (j := 2), ?_⟩
        exact ⟨hb.mono g.lists, h _ (g0.trans g)⟩
      · simp only [c1, c2, c3, decide_false, Bool.or_false, wif_false]
        have z : isAd (.tup [.str w, b]) = false := by simp only [isAd, c1, c2, c3, or_self, if_false]
        rw [z] at h
        exact h S g0
end My

set_option Elab.async false
set_option linter.all false
set_option maxRecDepth 100000
namespace My
open PySem PySem.Spec PyProof.Rows L2 Wp Gn
local macro_rules | `(tactic| walk_at "go") => `(tactic| (with_reducible refine goS_i ?_))
local macro_rules | `(tactic| walk_at "wp") => `(tactic| simp (disch := omega) only [wSeq, wNext, wSet, wVar, wC, wOp, wRet, wIfS, wTest, wCall, wCons, wNil, wTup, wLst, wAsg, gTp, gC, gNm, gN0, gIx, rSet, Wp.rAdd, rMul, rMod, Wp.rSub, rFdiv, rPow, rInt, Wp.rIx, rLt, rLe, rCmp, rGeI, rGtI, wCB, rLen, rLen1, rInt1, rMax2, rMin2,
  wIsi, wNot, wOr, wAnd, wAndV, wOrV, wNotV, wFor, iRg1, iSeqW, wAll, wChain, wSl, wNoPart, wPart, rSl, wNeg, rNeg, wLc, wYes, wDrop, wipeT, List.map, List.set_cons_zero, List.set_cons_succ, List.getElem?_cons_zero, List.getElem?_cons_succ, List.length_cons, List.length_nil, List.cons_append, List.nil_append, List.replicate, Wp.startT,
  true_and, and_true, wif_true, wif_false, ex_some, ex_some1, ex_eq, ex_lst, ex_lst0, rEq_int, Bool.false_bne, Bool.true_bne, Int.reduceLT, Int.reduceLE, Int.reduceAdd, Nat.reduceAdd, upS, upS_upS, eq_self, ite_true, ite_false, beq_self_eq_true, Bool.not_true, Bool.not_false, isB_0, isB_1, isB_2, isB_3, isB_4, isB_5, isB_6, isB_7, isB_8, isB_9, isB_10, isB_11, isB_12, isB_13, isB_14, isB_15, isB_16, isB_17, isB_18, isB_19, isB_20, isB_21, isB_22, isB_23, isB_24, isB_25, isB_26, isB_27, isB_28, isB_29, isB_30, isB_31, isB_32, isB_33, isB_34, isB_35, cmul_l, cmul_r, cpow_lit, size_le, size_lt, atI_0, atI_1, atI_2, atI_3, atI_4, atI_5, atI_6, ixN_0, ixN_1, ixN_2, itemsT, tyT, reduceIte, *])
local macro_rules | `(tactic| walk_at "run") => `(tactic| repeat (first | walk_at "wp" | walk_at "go"))
local macro_rules | `(tactic| walk_at "wq") => `(tactic| simp (disch := omega) only [wSeq, wNext, wSet, wVar, wC, wOp, wRet, wIfS, wTest, wCall, wCons, wNil, wTup, wLst, wAsg, gTp, gC, gNm, gN0, gIx, rSet, Wp.rAdd, rMul, rMod, Wp.rSub, rFdiv, rPow, rInt, Wp.rIx, rLt, rLe, rCmp, rGeI, rGtI, wCB, rLen, rLen1, rInt1, rMax2, rMin2,
  wIsi, wNot, wOr, wAnd, wAndV, wOrV, wNotV, wFor, iRg1, iSeqW, wAll, wChain, wSl, wNoPart, wPart, rSl, wNeg, rNeg, wLc, wYes, wDrop, wipeT, List.map, List.set_cons_zero, List.set_cons_succ, List.getElem?_cons_zero, List.getElem?_cons_succ, List.length_cons, List.length_nil, List.cons_append, List.nil_append, List.replicate, Wp.startT,
  true_and, and_true, wif_true, wif_false, ex_some, ex_some1, ex_eq, ex_lst, ex_lst0, rEq_int, Bool.false_bne, Bool.true_bne, Int.reduceLT, Int.reduceLE, Int.reduceAdd, Nat.reduceAdd, eq_self, ite_true, ite_false, beq_self_eq_true, Bool.not_true, Bool.not_false, isB_0, isB_1, isB_2, isB_3, isB_4, isB_5, isB_6, isB_7, isB_8, isB_9, isB_10, isB_11, isB_12, isB_13, isB_14, isB_15, isB_16, isB_17, isB_18, isB_19, isB_20, isB_21, isB_22, isB_23, isB_24, isB_25, isB_26, isB_27, isB_28, isB_29, isB_30, isB_31, isB_32, isB_33, isB_34, isB_35, cmul_l, cmul_r, cpow_lit, size_le, size_lt, atI_0, atI_1, atI_2, atI_3, atI_4, atI_5, atI_6, ixN_0, ixN_1, ixN_2, itemsT, tyT, reduceIte, *])
local macro_rules | `(tactic| walk_at "r2") => `(tactic| repeat (first | walk_at "wq" | walk_at "go"))
theorem in12_0 : inF (.int ((0 : Nat) : Int)) [.int 1, .int 2] = false := by decide +kernel
theorem in12_n (n : Nat) : inF (.int ((n + 1 + 1 + 1 : Nat) : Int)) [.int 1, .int 2] = false := by
  simp only [inF, List.any_cons, List.any_nil, eqF, Bool.or_false, Bool.or_eq_false_iff, beq_eq_false_iff_ne]
  omega
theorem hw_law_is_address : ∀ ts S Q E, ts.length = 1 → spAd2 ts S Q E → b__law_is_address spIsI { nx := fun _ S' => Q .non S', rt := Q } (Wp.startT N__law_is_address ts) S := by
  intro ts S Q E _ h
  match ts, h with
  | [v], ⟨kn, h⟩ =>
    unfold b__law_is_address N__law_is_address
    cases kn with
    | tup xs hl hk =>
      walk_at "r2"
      intro q hq
      obtain ⟨S1, e0, g, e1⟩ := al_ hq
      rw [e0]
      refine ⟨_, itemsT_ref e1, rfl, rfl, ?_⟩
      match xs, hk, h with
      | [], _, h =>
        rw [show inF (.int (([] : List T).length : Int)) [.int 1, .int 2] = false from in12_0]
        walk_at "r2"
        exact h S1 g
      | [a], hk, h =>
        rw [show (true != inF (.int (([a] : List T).length : Int)) [.int 1, .int 2]) = false from rfl]
        have ka := (hk a List.mem_cons_self).mono g.lists
        walk_at "r2"
        cases ka with
        | str w hw =>
          walk_at "r2"
          refine rEq_str hw (by decide +kernel) ?_
          exact h S1 g
        | _ =>
          walk_at "r2"
          exact h S1 g
      | [a, b], hk, h =>
        rw [show (true != inF (.int (([a, b] : List T).length : Int)) [.int 1, .int 2]) = false from rfl]
        have ka := (hk a List.mem_cons_self).mono g.lists
        have kb := (hk b (by simp)).mono g.lists
        walk_at "r2"
        cases ka with
        | str w hw =>
          walk_at "r2"
          refine if_bool (fun z => absurd z (by decide)) (fun _ => ?_)
          walk_at "r2"
          intro q2 hq2
          obtain ⟨S2, e2, g2, e3⟩ := al_ hq2
          rw [e2]
          refine hw_ad2_tail b w hw S S2 Q (g.trans g2) (kb.mono g2.lists) h q2 e3 _
        | _ =>
          walk_at "r2"
          exact h S1 g
      | a :: b :: c :: r, hk, h =>
        rw [show inF (.int ((a :: b :: c :: r).length : Int)) [.int 1, .int 2] = false from in12_n r.length]
        walk_at "r2"
        rw [show isAd (.tup (a :: b :: c :: r)) = false by cases a <;> rfl] at h
        exact h S1 g
    | _ =>
      simp only [isAd] at h
      walk_at "r2"
      exact h S (Gr.refl S)
/-! ### all tests of one value -/
def spRight : WSp := fun ts S Q _ => match ts with
  | [v] => Kn S v ∧ ∀ S', Gr S S' → Q (.bl true) S'
  | _ => False
theorem hw_right : ∀ ts S Q E, ts.length = 1 → spRight ts S Q E → b__law_right spTells spPm spPr spPr spLf spAd2 spAd spBy2 spBy { nx := fun _ S' => Q .non S', rt := Q } (Wp.startT N__law_right ts) S := by
  intro ts S Q E _ h
  match ts, h with
  | [v], ⟨kn, h⟩ =>
    unfold b__law_right N__law_right
    walk_at "r2"
    refine ⟨kn, ?_⟩
    walk_at "r2"
    refine ⟨kn, by omega, fun S1 g1 => ?_⟩
    walk_at "r2"
    show wif (!(isPr v == isPm v 0)) _ _
    rw [pm0, beq_self_eq_true]
    walk_at "r2"
    have k1 := kn.mono g1.lists
    refine ⟨k1, ?_⟩
    walk_at "r2"
    refine ⟨k1, by omega, fun S2 g2 => ?_⟩
    walk_at "r2"
    show wif (!(isPr v == isPm v 0)) _ _
    rw [pm0, beq_self_eq_true]
    walk_at "r2"
    have k2 := k1.mono g2.lists
    refine ⟨k2, ?_⟩
    walk_at "r2"
    refine ⟨k2, by omega, fun S3 g3 => ?_⟩
    walk_at "r2"
    show wif (!(isLf v == isPm v 1)) _ _
    rw [pm1, beq_self_eq_true]
    walk_at "r2"
    have k3 := k2.mono g3.lists
    refine ⟨k3, ?_⟩
    walk_at "r2"
    refine ⟨k3, fun S4 g4 => ?_⟩
    walk_at "r2"
    show wif (!(isAd v == isAd v)) _ _
    rw [beq_self_eq_true]
    walk_at "r2"
    have k4 := k3.mono g4.lists
    refine ⟨k4, ?_⟩
    walk_at "r2"
    refine ⟨k4, fun S5 g5 => ?_⟩
    walk_at "r2"
    show Q (.bl (isBy v == isBy v)) S5
    rw [beq_self_eq_true]
    exact h S5 (g1.trans (g2.trans (g3.trans (g4.trans g5))))
/-! ### odd values -/
def spOdd : WSp := fun ts S Q _ => match ts with
  | [.ref p] => IsBag S p ∧ ∀ (v : T) (S' : Sta), Grb p S S' → Kn S' v → Q v S'
  | _ => False
def odds (q : Addr) : List T := [.int 0, .int 1, .int 2, .int 3, .int 5, .int 6, .int (-1), .int 255, .int 256, .int 1000000, .int 1000001, .bl true, .bl false, .non, .str "", .str "client", .str "mux", .str "agent", .str "controller", .str "agents"] ++
  [.tup [], .tup [.int 0], .tup [.int 0, .int 1], .tup [.int 0, .int 1, .int 1], .ref q, .tup [.str "client", .int 0], .tup [.str "controller"], .tup [.str "mux", .int 2], .int (10 ^ 30), .str "0"]
theorem kn_odds {S : Sta} {q : Addr} {xs : List T} (e : S q = some (.lst xs)) : ∀ t ∈ odds q, Kn S t := by
  unfold odds
  simp only [List.cons_append, List.nil_append, List.forall_mem_cons, List.not_mem_nil, false_implies, implies_true, and_true]
  have t0 : ∀ ts : List T, ts.length ≤ 1000 → (∀ t ∈ ts, Kn S t) → Kn S (.tup ts) := fun ts h1 h2 => .tup ts h1 h2
  refine ⟨.int _, .int _, .int _, .int _, .int _, .int _, .int _, .int _, .int _, .int _, .int _, .bl _, .bl _, .non, .str _ (by decide +kernel), .str _ (by decide +kernel), .str _ (by decide +kernel), .str _ (by decide +kernel), .str _ (by decide +kernel), .str _ (by decide +kernel), ?_, ?_, ?_, ?_, .ref q xs e, ?_, ?_, ?_, .int _, .str _ (by decide +kernel)⟩
  · exact t0 _ (by simp) (by simp)
  · exact t0 _ (by simp) (by simp only [List.forall_mem_cons, List.not_mem_nil, false_implies, implies_true, and_true]; exact .int _)
  · exact t0 _ (by simp) (by simp only [List.forall_mem_cons, List.not_mem_nil, false_implies, implies_true, and_true]; exact ⟨.int _, .int _⟩)
  · exact t0 _ (by simp) (by simp only [List.forall_mem_cons, List.not_mem_nil, false_implies, implies_true, and_true]; exact ⟨.int _, .int _, .int _⟩)
  · exact t0 _ (by simp) (by simp only [List.forall_mem_cons, List.not_mem_nil, false_implies, implies_true, and_true]; exact ⟨.str _ (by decide +kernel), .int _⟩)
  · exact t0 _ (by simp) (by simp only [List.forall_mem_cons, List.not_mem_nil, false_implies, implies_true, and_true]; exact .str _ (by decide +kernel))
  · exact t0 _ (by simp) (by simp only [List.forall_mem_cons, List.not_mem_nil, false_implies, implies_true, and_true]; exact ⟨.str _ (by decide +kernel), .int _⟩)
theorem hw_odd : ∀ ts S Q E, ts.length = 1 → spOdd ts S Q E → b__law_odd spDraw { nx := fun _ S' => Q .non S', rt := Q } (Wp.startT N__law_odd ts) S := by
  intro ts S Q E _ h
  match ts, h with
  | [.ref p], ⟨hb, h⟩ =>
    unfold b__law_odd N__law_odd
    walk_at "r2"
    intro q1 hq1
    obtain ⟨S1, w1, g1, e1⟩ := al_ hq1
    rw [w1]
    walk_at "r2"
    intro q2 hq2
    obtain ⟨S2, w2, g2, e2⟩ := al_ hq2
    rw [w2]
    walk_at "r2"
    intro q3 hq3
    obtain ⟨S3, w3, g3, e3⟩ := al_ hq3
    rw [w3]
    refine ⟨_, g3 _ _ (g2 _ _ e1), _, e3, by rw [sizeLine_eq]; simp, fun q4 hq4 => ?_⟩
    have g123 := g1.trans (g2.trans g3)
    have hq4p : q4 ≠ p := new_ne (hb.gr g123) hq4
    obtain ⟨S4, w4, g4, e4⟩ := al_ hq4
    rw [w4]
    walk_at "r2"
    have g14 := g123.trans g4
    refine ⟨hb.gr g14, by omega, by omega, fun r S5 h0 h1 g5 => ?_⟩
    have e5 := g5.keep _ _ e4 hq4p
    show ∃ ts, itemsT S5 (.ref q4) = some ts ∧ ∃ t, atI ts r = some t ∧ Q t S5
    refine ⟨_, itemsT_ref e5, ?_⟩
    obtain ⟨v, ev, mv⟩ := atI_in (xs := odds q2) (i := r) h0 (by unfold odds; simpa using h1)
    have hq2p : q2 ≠ p := new_ne (hb.gr g1) hq2
    exact ⟨v, ev, h v S5 ((Gr.grb hb g14).trans g5) (kn_odds (g5.keep _ _ (g4 _ _ (g3 _ _ e2)) hq2p) v mv)⟩
end My

set_option Elab.async false
set_option linter.all false
set_option maxRecDepth 100000
namespace My
open PySem PySem.Spec PyProof.Rows L2 Wp Gn
local macro_rules | `(tactic| walk_at "go") => `(tactic| (with_reducible refine goS_i ?_))
local macro_rules | `(tactic| walk_at "wp") => `(tactic| simp (disch := omega) only [wSeq, wNext, wSet, wVar, wC, wOp, wRet, wIfS, wTest, wCall, wCons, wNil, wTup, wLst, wAsg, gTp, gC, gNm, gN0, gIx, rSet, Wp.rAdd, rMul, rMod, Wp.rSub, rFdiv, rPow, rInt, Wp.rIx, rLt, rLe, rCmp, rGeI, rGtI, wCB, rLen, rLen1, rInt1, rMax2, rMin2,
  wIsi, wNot, wOr, wAnd, wAndV, wOrV, wNotV, wFor, iRg1, iSeqW, wAll, wChain, wSl, wNoPart, wPart, rSl, wNeg, rNeg, wLc, wYes, wDrop, wipeT, List.map, List.set_cons_zero, List.set_cons_succ, List.getElem?_cons_zero, List.getElem?_cons_succ, List.length_cons, List.length_nil, List.cons_append, List.nil_append, List.replicate, Wp.startT,
  true_and, and_true, wif_true, wif_false, ex_some, ex_some1, ex_eq, ex_lst, ex_lst0, rEq_int, Bool.false_bne, Bool.true_bne, Int.reduceLT, Int.reduceLE, Int.reduceAdd, Nat.reduceAdd, upS, upS_upS, eq_self, ite_true, ite_false, beq_self_eq_true, Bool.not_true, Bool.not_false, isB_0, isB_1, isB_2, isB_3, isB_4, isB_5, isB_6, isB_7, isB_8, isB_9, isB_10, isB_11, isB_12, isB_13, isB_14, isB_15, isB_16, isB_17, isB_18, isB_19, isB_20, isB_21, isB_22, isB_23, isB_24, isB_25, isB_26, isB_27, isB_28, isB_29, isB_30, isB_31, isB_32, isB_33, isB_34, isB_35, cmul_l, cmul_r, cpow_lit, size_le, size_lt, atI_0, atI_1, atI_2, atI_3, atI_4, atI_5, atI_6, ixN_0, ixN_1, ixN_2, itemsT, tyT, reduceIte, *])
local macro_rules | `(tactic| walk_at "run") => `(tactic| repeat (first | walk_at "wp" | walk_at "go"))
local macro_rules | `(tactic| walk_at "wq") => `(tactic| simp (disch := omega) only [wSeq, wNext, wSet, wVar, wC, wOp, wRet, wIfS, wTest, wCall, wCons, wNil, wTup, wLst, wAsg, gTp, gC, gNm, gN0, gIx, rSet, Wp.rAdd, rMul, rMod, Wp.rSub, rFdiv, rPow, rInt, Wp.rIx, rLt, rLe, rCmp, rGeI, rGtI, wCB, rLen, rLen1, rInt1, rMax2, rMin2,
  wIsi, wNot, wOr, wAnd, wAndV, wOrV, wNotV, wFor, iRg1, iSeqW, wAll, wChain, wSl, wNoPart, wPart, rSl, wNeg, rNeg, wLc, wYes, wDrop, wipeT, List.map, List.set_cons_zero, List.set_cons_succ, List.getElem?_cons_zero, List.getElem?_cons_succ, List.length_cons, List.length_nil, List.cons_append, List.nil_append, List.replicate, Wp.startT,
  true_and, and_true, wif_true, wif_false, ex_some, ex_some1, ex_eq, ex_lst, ex_lst0, rEq_int, Bool.false_bne, Bool.true_bne, Int.reduceLT, Int.reduceLE, Int.reduceAdd, Nat.reduceAdd, eq_self, ite_true, ite_false, beq_self_eq_true, Bool.not_true, Bool.not_false, isB_0, isB_1, isB_2, isB_3, isB_4, isB_5, isB_6, isB_7, isB_8, isB_9, isB_10, isB_11, isB_12, isB_13, isB_14, isB_15, isB_16, isB_17, isB_18, isB_19, isB_20, isB_21, isB_22, isB_23, isB_24, isB_25, isB_26, isB_27, isB_28, isB_29, isB_30, isB_31, isB_32, isB_33, isB_34, isB_35, cmul_l, cmul_r, cpow_lit, size_le, size_lt, atI_0, atI_1, atI_2, atI_3, atI_4, atI_5, atI_6, ixN_0, ixN_1, ixN_2, itemsT, tyT, reduceIte, *])
local macro_rules | `(tactic| walk_at "r2") => `(tactic| repeat (first | walk_at "wq" | walk_at "go"))
/-! ### spoilt values -/
theorem cutT_len (ts : List T) (lo hi : Option Int) : (cutT ts lo hi).length ≤ ts.length := by
  unfold cutT
  rw [List.length_take, List.length_drop]
  omega
theorem cutT_mem {ts : List T} {lo hi : Option Int} {t : T} (h : t ∈ cutT ts lo hi) : t ∈ ts := List.mem_of_mem_drop (List.mem_of_mem_take h)
theorem le_sz {n : Nat} (h : n ≤ 1000) : n ≤ sizeLine := Nat.le_trans h (by rw [sizeLine_eq]; decide)
def isT : T → Bool
  | .tup _ => true
  | _ => false
def spNo : WSp := fun _ _ _ _ => False
def spSp0 : WSp := fun ts S Q _ => match ts with
  | [.ref p, v, o] => Kn S v ∧ isT v = false ∧ Q o S
  | _ => False
theorem hw_spoilt0 : ∀ ts S Q E, ts.length = 3 → spSp0 ts S Q E → b__law_spoilt spDraw spNo { nx := fun _ S' => Q .non S', rt := Q } (Wp.startT N__law_spoilt ts) S := by
  intro ts S Q E _ h
  match ts, h with
  | [.ref p, v, o], ⟨kn, ht, h⟩ =>
    unfold b__law_spoilt N__law_spoilt
    cases kn with
    | tup xs _ _ => cases ht
    | _ => walk_at "r2"
def spSp1 : WSp := fun ts S Q _ => match ts with
  | [.ref p, v, o] => IsBag S p ∧ Kn S v ∧ Kn S o ∧ (∀ ts, v = .tup ts → ts.length ≤ 100 ∧ ∀ t ∈ ts, isT t = false) ∧ ∀ (r : T) (S' : Sta), Grb p S S' → Kn S' r → Q r S'
  | _ => False
theorem hw_spoilt1 : ∀ ts S Q E, ts.length = 3 → spSp1 ts S Q E → b__law_spoilt spDraw spSp0 { nx := fun _ S' => Q .non S', rt := Q } (Wp.startT N__law_spoilt ts) S := by
  intro ts S Q E _ h
  match ts, h with
  | [.ref p, v, o], ⟨hb, kn, ko, hs, h⟩ =>
    unfold b__law_spoilt N__law_spoilt
    cases kn with
    | tup xs _ hk =>
      obtain ⟨hl, hn⟩ := hs xs rfl
      have cl : ∀ lo hi, (cutT xs lo hi).length ≤ 100 := fun lo hi => Nat.le_trans (cutT_len xs lo hi) hl
      walk_at "r2"
      refine if_bool (fun _ => ?_) (fun hz => ?_)
      · walk_at "r2"
        exact h o S (Grb.refl hb) ko
      have hpos : 0 < (xs.length : Int) := by
        have : ¬ ((xs.length : Int) = 0) := by simpa using hz
        omega
      walk_at "r2"
      refine ⟨hb, by omega, by omega, fun d S1 _ _ g1 => ?_⟩
      walk_at "r2"
      refine if_bool (fun _ => ?_) (fun _ => ?_)
      · walk_at "r2"
        exact h o S1 g1 (ko.mono g1.lists)
      walk_at "r2"
      refine ⟨g1.bag, by omega, by omega, fun at_ S2 h0 h1 g2 => ?_⟩
      walk_at "r2"
      refine ⟨g2.bag, by omega, by omega, fun c S3 _ _ g3 => ?_⟩
      have g := g1.trans (g2.trans g3)
      have ks : ∀ t ∈ xs, Kn S3 t := fun t ht => (hk t ht).mono g.lists
      have ko3 := ko.mono g.lists
      have kc : ∀ lo hi, ∀ t ∈ cutT xs lo hi, Kn S3 t := fun lo hi t ht => ks t (cutT_mem ht)
      walk_at "r2"
      refine if_bool (fun _ => ?_) (fun _ => ?_)
      · walk_at "r2"
        refine ⟨le_sz (by have := cl none (some at_); have := cl (some (at_ + 1)) none; omega), h _ S3 g (.tup _ ?_ ?_)⟩
        · rw [List.length_append]
          have := cl none (some at_); have := cl (some (at_ + 1)) none; omega
        · intro t ht
          rcases List.mem_append.mp ht with ht | ht
          · exact kc _ _ t ht
          · exact kc _ _ t ht
      walk_at "r2"
      refine if_bool (fun _ => ?_) (fun _ => ?_)
      · walk_at "r2"
        have l1 := cl none (some at_)
        have l2 := cl (some at_) none
        refine ⟨le_sz (by omega), le_sz (by simp only [List.length_append, List.length_cons, List.length_nil]; omega), h _ S3 g (.tup _ ?_ ?_)⟩
        · simp only [List.length_append, List.length_cons, List.length_nil]; omega
        · intro t ht
          simp only [List.mem_append, List.mem_cons, List.not_mem_nil, or_false] at ht
          rcases ht with (ht | ht) | ht
          · exact kc _ _ t ht
          · rw [ht]; exact ko3
          · exact kc _ _ t ht
      walk_at "r2"
      refine if_bool (fun _ => ?_) (fun _ => ?_)
      · walk_at "r2"
        have l1 := cl none (some at_)
        have l2 := cl (some at_) none
        have l3 := cl (some at_) (some (at_ + 1))
        refine ⟨le_sz (by omega), le_sz (by simp only [List.length_append]; omega), h _ S3 g (.tup _ ?_ ?_)⟩
        · simp only [List.length_append]; omega
        · intro t ht
          simp only [List.mem_append] at ht
          rcases ht with (ht | ht) | ht <;> exact kc _ _ t ht
      walk_at "r2"
      refine if_bool (fun _ => ?_) (fun _ => ?_)
      · walk_at "r2"
        have l1 := cl none (some at_)
        have l2 := cl (some (at_ + 2)) none
        have l3 := cl (some at_) (some (at_ + 1))
        have l4 := cl (some (at_ + 1)) (some (at_ + 2))
        refine ⟨le_sz (by omega), le_sz (by simp only [List.length_append]; omega), le_sz (by simp only [List.length_append]; omega), h _ S3 g (.tup _ ?_ ?_)⟩
        · simp only [List.length_append]; omega
        · intro t ht
          simp only [List.mem_append] at ht
          rcases ht with ((ht | ht) | ht) | ht <;> exact kc _ _ t ht
      obtain ⟨x, ex, mx⟩ := atI_in (xs := xs) h0 h1
      walk_at "r2"
      refine ⟨ks x mx, hn x mx, ?_⟩
      walk_at "r2"
      have l1 := cl none (some at_)
      have l2 := cl (some (at_ + 1)) none
      refine ⟨le_sz (by omega), le_sz (by simp only [List.length_append, List.length_cons, List.length_nil]; omega), h _ S3 g (.tup _ ?_ ?_)⟩
      · simp only [List.length_append, List.length_cons, List.length_nil]; omega
      · intro t ht
        simp only [List.mem_append, List.mem_cons, List.not_mem_nil, or_false] at ht
        rcases ht with (ht | ht) | ht
        · exact kc _ _ t ht
        · rw [ht]; exact ko3
        · exact kc _ _ t ht
    | _ =>
      walk_at "r2"
      exact h o S (Grb.refl hb) ko
end My

set_option Elab.async false
set_option linter.all false
set_option maxRecDepth 100000
namespace My
open PySem PySem.Spec PyProof.Rows L2 Wp Gn
local macro_rules | `(tactic| walk_at "go") => `(tactic| (with_reducible refine goS_i ?_))
local macro_rules | `(tactic| walk_at "wp") => `(tactic| simp (disch := omega) only [wSeq, wNext, wSet, wVar, wC, wOp, wRet, wIfS, wTest, wCall, wCons, wNil, wTup, wLst, wAsg, gTp, gC, gNm, gN0, gIx, rSet, Wp.rAdd, rMul, rMod, Wp.rSub, rFdiv, rPow, rInt, Wp.rIx, rLt, rLe, rCmp, rGeI, rGtI, wCB, rLen, rLen1, rInt1, rMax2, rMin2,
  wIsi, wNot, wOr, wAnd, wAndV, wOrV, wNotV, wFor, iRg1, iSeqW, wAll, wChain, wSl, wNoPart, wPart, rSl, wNeg, rNeg, wLc, wYes, wDrop, wipeT, List.map, List.set_cons_zero, List.set_cons_succ, List.getElem?_cons_zero, List.getElem?_cons_succ, List.length_cons, List.length_nil, List.cons_append, List.nil_append, List.replicate, Wp.startT,
  true_and, and_true, wif_true, wif_false, ex_some, ex_some1, ex_eq, ex_lst, ex_lst0, rEq_int, Bool.false_bne, Bool.true_bne, Int.reduceLT, Int.reduceLE, Int.reduceAdd, Nat.reduceAdd, upS, upS_upS, eq_self, ite_true, ite_false, beq_self_eq_true, Bool.not_true, Bool.not_false, isB_0, isB_1, isB_2, isB_3, isB_4, isB_5, isB_6, isB_7, isB_8, isB_9, isB_10, isB_11, isB_12, isB_13, isB_14, isB_15, isB_16, isB_17, isB_18, isB_19, isB_20, isB_21, isB_22, isB_23, isB_24, isB_25, isB_26, isB_27, isB_28, isB_29, isB_30, isB_31, isB_32, isB_33, isB_34, isB_35, cmul_l, cmul_r, cpow_lit, size_le, size_lt, atI_0, atI_1, atI_2, atI_3, atI_4, atI_5, atI_6, ixN_0, ixN_1, ixN_2, itemsT, tyT, reduceIte, *])
local macro_rules | `(tactic| walk_at "run") => `(tactic| repeat (first | walk_at "wp" | walk_at "go"))
local macro_rules | `(tactic| walk_at "wq") => `(tactic| simp (disch := omega) only [wSeq, wNext, wSet, wVar, wC, wOp, wRet, wIfS, wTest, wCall, wCons, wNil, wTup, wLst, wAsg, gTp, gC, gNm, gN0, gIx, rSet, Wp.rAdd, rMul, rMod, Wp.rSub, rFdiv, rPow, rInt, Wp.rIx, rLt, rLe, rCmp, rGeI, rGtI, wCB, rLen, rLen1, rInt1, rMax2, rMin2,
  wIsi, wNot, wOr, wAnd, wAndV, wOrV, wNotV, wFor, iRg1, iSeqW, wAll, wChain, wSl, wNoPart, wPart, rSl, wNeg, rNeg, wLc, wYes, wDrop, wipeT, List.map, List.set_cons_zero, List.set_cons_succ, List.getElem?_cons_zero, List.getElem?_cons_succ, List.length_cons, List.length_nil, List.cons_append, List.nil_append, List.replicate, Wp.startT,
  true_and, and_true, wif_true, wif_false, ex_some, ex_some1, ex_eq, ex_lst, ex_lst0, rEq_int, Bool.false_bne, Bool.true_bne, Int.reduceLT, Int.reduceLE, Int.reduceAdd, Nat.reduceAdd, eq_self, ite_true, ite_false, beq_self_eq_true, Bool.not_true, Bool.not_false, isB_0, isB_1, isB_2, isB_3, isB_4, isB_5, isB_6, isB_7, isB_8, isB_9, isB_10, isB_11, isB_12, isB_13, isB_14, isB_15, isB_16, isB_17, isB_18, isB_19, isB_20, isB_21, isB_22, isB_23, isB_24, isB_25, isB_26, isB_27, isB_28, isB_29, isB_30, isB_31, isB_32, isB_33, isB_34, isB_35, cmul_l, cmul_r, cpow_lit, size_le, size_lt, atI_0, atI_1, atI_2, atI_3, atI_4, atI_5, atI_6, ixN_0, ixN_1, ixN_2, itemsT, tyT, reduceIte, *])
local macro_rules | `(tactic| walk_at "r2") => `(tactic| repeat (first | walk_at "wq" | walk_at "go"))
/-! ### the law's loops -/
theorem IsBag.up {S : Sta} {p D : Addr} {o : O} (h : IsBag S p) (n : D ≠ p) : IsBag (upS S D o) p := by
  obtain ⟨a, b, c, e⟩ := h
  exact ⟨a, b, c, by rw [upS_ne n.symm]; exact e⟩
theorem comp_row (p q D : Addr) (oq : O) (a0 a1 a3 a4 a6 a7 a8 a9 : Option T) (Q : T → Sta → Prop) (hDp : D ≠ p) (hqp : q ≠ p) (hqD : q ≠ D) (hQ : ∀ acc' S', IsBag S' p → S' D = some (.lst acc') → S' q = some oq → (∀ t ∈ acc', ∃ n, t = T.int n) → acc'.length ≤ 100 → Q (.ref D) S') :
    ∀ (xs acc : List T) (S : Sta), IsBag S p → S D = some (.lst acc) → S q = some oq → (∀ t ∈ acc, ∃ n, t = T.int n) → acc.length + xs.length ≤ 100 →
      compW (gNm 5) wYes (l1_law spBag spDraw spLife spFlow spRight spSp1 spOdd spTells spIsI spIsI) (fun _ => True) [a0, a1, some (.ref p), a3, a4, none, a6, a7, a8, a9] D Q xs S
  | [], acc, S, hb, hD, hq, hi, hl => ⟨trivial, hQ acc S hb hD hq hi (by simp only [List.length_nil] at hl; omega)⟩
  | x :: xs, acc, S, hb, hD, hq, hi, hl => by
    refine ⟨trivial, ?_⟩
    have ih := comp_row p q D oq a0 a1 a3 a4 a6 a7 a8 a9 Q hDp hqp hqD hQ xs
    generalize compW (gNm 5) wYes (l1_law spBag spDraw spLife spFlow spRight spSp1 spOdd spTells spIsI spIsI) (fun _ => True) [a0, a1, some (.ref p), a3, a4, none, a6, a7, a8, a9] D Q xs = LP at ih ⊢
    show (l1_law spBag spDraw spLife spFlow spRight spSp1 spOdd spTells spIsI spIsI) [a0, a1, some (.ref p), a3, a4, some x, a6, a7, a8, a9] S _
    unfold l1_law
    rw [List.length_cons] at hl
    refine ⟨.ref p, rfl, rfl, hb, by omega, by omega, fun r S1 _ _ g => ?_⟩
    refine ⟨acc, g.keep _ _ hD hDp, Nat.lt_of_le_of_lt (show acc.length ≤ 100 by omega) (by rw [sizeLine_eq]; decide), ?_⟩
    refine ih (acc ++ [.int r]) _ (g.bag.up hDp) upS_same (by rw [upS_ne hqD]; exact g.keep _ _ hq hqp) (fun t ht => ?_) (by simp only [List.length_append, List.length_cons, List.length_nil]; omega)
    rcases List.mem_append.mp ht with ht | ht
    · exact hi t ht
    · exact ⟨r, by simpa using ht⟩
/-- a value that is one in every state, of no tuples -/
def Pl (t : T) : Prop := (∀ S, Kn S t) ∧ ∀ ts, t = .tup ts → ts.length ≤ 100 ∧ ∀ u ∈ ts, isT u = false
theorem loop2 (a0 a1 a3 a4 a5 a7 a8 a9 : Option T) (p q : Addr) (vals : List T) (hqp : q ≠ p) (Dn : WEnds) (hn : ∀ x S, IsBag S p → Dn.nx [a0, a1, some (.ref p), a3, a4, a5, x, a7, a8, a9] S) :
    ∀ (xs : List T), (∀ t ∈ xs, Pl t) → ∀ x S, IsBag S p → S q = some (.lst vals) → loopW (gNm 6) (l2_law spBag spDraw spLife spFlow spRight spSp1 spOdd spTells spIsI spIsI) (fun S' => S' q = some (.lst vals)) Dn xs [a0, a1, some (.ref p), a3, a4, a5, x, a7, a8, a9] S
  | [], _, x, S, hb, hq => ⟨hq, hn x S hb⟩
  | t :: xs, h, x, S, hb, hq => by
    have ht := h t List.mem_cons_self
    refine ⟨hq, ?_⟩
    have ih := loop2 a0 a1 a3 a4 a5 a7 a8 a9 p q vals hqp Dn hn xs fun t ht => h t (List.mem_cons_of_mem _ ht)
    generalize loopW (gNm 6) (l2_law spBag spDraw spLife spFlow spRight spSp1 spOdd spTells spIsI spIsI) (fun S' => S' q = some (.lst vals)) Dn xs = LP at ih ⊢
    unfold l2_law
    walk_at "r2"
    refine ⟨ht.1 S, fun S1 g1 => ?_⟩
    walk_at "r2"
    refine ⟨hb.gr g1, fun o S2 g2 ko => ?_⟩
    walk_at "r2"
    refine ⟨g2.bag, ht.1 S2, ko, ht.2, fun r S3 g3 kr => ?_⟩
    walk_at "r2"
    refine ⟨kr, fun S4 g4 => ?_⟩
    walk_at "r2"
    exact ih _ _ (g3.bag.gr g4) (g4 _ _ (g3.keep _ _ (g2.keep _ _ (g1 _ _ hq) hqp) hqp))
theorem pl_ints {ts : List T} (h : ∀ t ∈ ts, ∃ n, t = T.int n) (hl : ts.length ≤ 100) : Pl (.tup ts) :=
  ⟨fun S => .tup ts (by omega) fun t ht => by obtain ⟨n, rfl⟩ := h t ht; exact .int n, fun us e => by cases e; exact ⟨hl, fun t ht => by obtain ⟨n, rfl⟩ := h t ht; rfl⟩⟩
theorem pl_place (w : Str) (hw : PyData.strOk w = true) (n : Int) : Pl (.tup [.str w, .int n]) :=
  ⟨fun S => .tup _ (by simp) (by simp only [List.forall_mem_cons, List.not_mem_nil, false_implies, implies_true, and_true]; exact ⟨.str w hw, .int n⟩), fun us e => by cases e; exact ⟨by simp, by simp only [List.forall_mem_cons, List.not_mem_nil, false_implies, implies_true, and_true]; exact ⟨rfl, rfl⟩⟩⟩
theorem pl_ctl (w : Str) (hw : PyData.strOk w = true) : Pl (.tup [.str w]) :=
  ⟨fun S => .tup _ (by simp) (by simp only [List.forall_mem_cons, List.not_mem_nil, false_implies, implies_true, and_true]; exact .str w hw), fun us e => by cases e; exact ⟨by simp, by simp only [List.forall_mem_cons, List.not_mem_nil, false_implies, implies_true, and_true]; exact rfl⟩⟩
theorem tail (a0 a1 a3 a4 a5 a6 a7 a8 a9 : Option T) (p : Addr) (Dn : WEnds) (hn : ∀ x6 x7 x8 x9 S, Dn.nx [a0, a1, some (.ref p), a3, a4, a5, x6, x7, x8, x9] S) (S : Sta) (hb : IsBag S p) :
    goS ((wSeq (wSet 6 (wCall 1 spOdd (wCons (wVar 2) wNil)))
    (wSeq (wSet 7 (wOp Wp.rIx (wLst (wCons (wC (.int 0)) (wCons (wC (.int 1)) (wCons (wNeg (wC (.int 3))) (wCons (wC (.int 255)) (wCons (wC (.int 1000000)) wNil)))))) (wCall 2 spDraw (wCons (wVar 2) (wCons (wC (.int 5)) wNil)))))
    (wSeq (wSet 8 (wOp Wp.rAdd (wVar 7) (wOp Wp.rIx (wLst (wCons (wC (.int 0)) (wCons (wC (.int 1)) (wCons (wC (.int 2)) (wCons (wOp rPow (wC (.int 10)) (wC (.int 6))) wNil))))) (wCall 2 spDraw (wCons (wVar 2) (wCons (wC (.int 4)) wNil))))))
    (wSeq (wIfS (wNot (wTest (wCall 2 spTells (wCons (wCall 3 spIsI (wCons (wVar 6) (wCons (wVar 7) (wCons (wVar 8) wNil)))) (wCons (wCall 3 spIsI (wCons (wVar 6) (wCons (wVar 7) (wCons (wVar 8) wNil)))) wNil))))) (wRet (wC (.bl false))) wNext)
    (wSeq (wSet 9 (wOp Wp.rSub (wOp Wp.rAdd (wVar 7) (wCall 2 spDraw (wCons (wVar 2) (wCons (wC (.int 5)) wNil)))) (wC (.int 2))))
    (wIfS (wNot (wTest (wCall 2 spTells (wCons (wCall 3 spIsI (wCons (wVar 9) (wCons (wVar 7) (wCons (wVar 8) wNil)))) (wCons (wAndV (wOp rLe (wVar 7) (wVar 9)) (wOp rLe (wVar 9) (wVar 8))) wNil))))) (wRet (wC (.bl false))) wNext)))))) Dn) [a0, a1, some (.ref p), a3, a4, a5, a6, a7, a8, a9] S := by
  walk_at "r2"
  refine ⟨hb, fun v S1 g1 kv => ?_⟩
  walk_at "r2"
  intro q1 hq1
  have n1 : q1 ≠ p := new_ne g1.bag hq1
  obtain ⟨S2, w2, g2, e2⟩ := al_ hq1
  rw [w2]
  refine ⟨g1.bag.gr g2, by omega, by omega, fun r1 S3 h0 h1 g3 => ?_⟩
  have e3 := g3.keep _ _ e2 n1
  obtain ⟨least, el⟩ := ints_at (xs := [.int 0, .int 1, .int (-3), .int 255, .int 1000000]) (fun t ht => by simp only [List.mem_cons, List.not_mem_nil, or_false] at ht; rcases ht with e | e | e | e | e <;> exact ⟨_, e⟩) h0 (by simp; omega)
  refine ⟨_, itemsT_ref e3, _, el, ?_⟩
  walk_at "r2"
  intro q2 hq2
  have n2 : q2 ≠ p := new_ne g3.bag hq2
  obtain ⟨S4, w4, g4, e4⟩ := al_ hq2
  rw [w4]
  refine ⟨g3.bag.gr g4, by omega, by omega, fun r2 S5 h2 h3 g5 => ?_⟩
  have e5 := g5.keep _ _ e4 n2
  obtain ⟨more, em⟩ := ints_at (xs := [.int 0, .int 1, .int 2, .int (10 ^ (Int.toNat 6))]) (fun t ht => by simp only [List.mem_cons, List.not_mem_nil, or_false] at ht; rcases ht with e | e | e | e <;> exact ⟨_, e⟩) h2 (by simp; omega)
  refine ⟨_, itemsT_ref e5, _, em, ?_⟩
  walk_at "r2"
  have k5 : Kn S5 v := (((kv.mono g2.lists).mono g3.lists).mono g4.lists).mono g5.lists
  refine ⟨k5, ?_⟩
  walk_at "r2"
  refine ⟨k5, ?_⟩
  walk_at "r2"
  show wif (!(isI v least (least + more) == isI v least (least + more))) _ _
  rw [beq_self_eq_true]
  walk_at "r2"
  refine ⟨g5.bag, by omega, by omega, fun d S6 _ _ g6 => ?_⟩
  walk_at "r2"
  refine ⟨.int _, ?_⟩
  walk_at "r2"
  refine if_dec (fun hA => ?_) (fun hA => ?_)
  · walk_at "r2"
    show wif (!(isI (.int (least + d - 2)) least (least + more) == decide (least + d - 2 ≤ least + more))) _ _
    simp only [isI, hA, decide_true, Bool.true_and, beq_self_eq_true]
    exact hn _ _ _ _ _
  · walk_at "r2"
    show wif (!(isI (.int (least + d - 2)) least (least + more) == false)) _ _
    simp only [isI, hA, decide_false, Bool.false_and, beq_self_eq_true]
    exact hn _ _ _ _ _
end My

set_option Elab.async false
set_option linter.all false
set_option maxRecDepth 100000
namespace My
open PySem PySem.Spec PyProof.Rows L2 Wp Gn
local macro_rules | `(tactic| walk_at "go") => `(tactic| (with_reducible refine goS_i ?_))
local macro_rules | `(tactic| walk_at "wp") => `(tactic| simp (disch := omega) only [wSeq, wNext, wSet, wVar, wC, wOp, wRet, wIfS, wTest, wCall, wCons, wNil, wTup, wLst, wAsg, gTp, gC, gNm, gN0, gIx, rSet, Wp.rAdd, rMul, rMod, Wp.rSub, rFdiv, rPow, rInt, Wp.rIx, rLt, rLe, rCmp, rGeI, rGtI, wCB, rLen, rLen1, rInt1, rMax2, rMin2,
  wIsi, wNot, wOr, wAnd, wAndV, wOrV, wNotV, wFor, iRg1, iSeqW, wAll, wChain, wSl, wNoPart, wPart, rSl, wNeg, rNeg, wLc, wYes, wDrop, wipeT, List.map, List.set_cons_zero, List.set_cons_succ, List.getElem?_cons_zero, List.getElem?_cons_succ, List.length_cons, List.length_nil, List.cons_append, List.nil_append, List.replicate, Wp.startT,
  true_and, and_true, wif_true, wif_false, ex_some, ex_some1, ex_eq, ex_lst, ex_lst0, rEq_int, Bool.false_bne, Bool.true_bne, Int.reduceLT, Int.reduceLE, Int.reduceAdd, Nat.reduceAdd, upS, upS_upS, eq_self, ite_true, ite_false, beq_self_eq_true, Bool.not_true, Bool.not_false, isB_0, isB_1, isB_2, isB_3, isB_4, isB_5, isB_6, isB_7, isB_8, isB_9, isB_10, isB_11, isB_12, isB_13, isB_14, isB_15, isB_16, isB_17, isB_18, isB_19, isB_20, isB_21, isB_22, isB_23, isB_24, isB_25, isB_26, isB_27, isB_28, isB_29, isB_30, isB_31, isB_32, isB_33, isB_34, isB_35, cmul_l, cmul_r, cpow_lit, size_le, size_lt, atI_0, atI_1, atI_2, atI_3, atI_4, atI_5, atI_6, ixN_0, ixN_1, ixN_2, itemsT, tyT, reduceIte, *])
local macro_rules | `(tactic| walk_at "run") => `(tactic| repeat (first | walk_at "wp" | walk_at "go"))
local macro_rules | `(tactic| walk_at "wq") => `(tactic| simp (disch := omega) only [wSeq, wNext, wSet, wVar, wC, wOp, wRet, wIfS, wTest, wCall, wCons, wNil, wTup, wLst, wAsg, gTp, gC, gNm, gN0, gIx, rSet, Wp.rAdd, rMul, rMod, Wp.rSub, rFdiv, rPow, rInt, Wp.rIx, rLt, rLe, rCmp, rGeI, rGtI, wCB, rLen, rLen1, rInt1, rMax2, rMin2,
  wIsi, wNot, wOr, wAnd, wAndV, wOrV, wNotV, wFor, iRg1, iSeqW, wAll, wChain, wSl, wNoPart, wPart, rSl, wNeg, rNeg, wLc, wYes, wDrop, wipeT, List.map, List.set_cons_zero, List.set_cons_succ, List.getElem?_cons_zero, List.getElem?_cons_succ, List.length_cons, List.length_nil, List.cons_append, List.nil_append, List.replicate, Wp.startT,
  true_and, and_true, wif_true, wif_false, ex_some, ex_some1, ex_eq, ex_lst, ex_lst0, rEq_int, Bool.false_bne, Bool.true_bne, Int.reduceLT, Int.reduceLE, Int.reduceAdd, Nat.reduceAdd, eq_self, ite_true, ite_false, beq_self_eq_true, Bool.not_true, Bool.not_false, isB_0, isB_1, isB_2, isB_3, isB_4, isB_5, isB_6, isB_7, isB_8, isB_9, isB_10, isB_11, isB_12, isB_13, isB_14, isB_15, isB_16, isB_17, isB_18, isB_19, isB_20, isB_21, isB_22, isB_23, isB_24, isB_25, isB_26, isB_27, isB_28, isB_29, isB_30, isB_31, isB_32, isB_33, isB_34, isB_35, cmul_l, cmul_r, cpow_lit, size_le, size_lt, atI_0, atI_1, atI_2, atI_3, atI_4, atI_5, atI_6, ixN_0, ixN_1, ixN_2, itemsT, tyT, reduceIte, *])
local macro_rules | `(tactic| walk_at "r2") => `(tactic| repeat (first | walk_at "wq" | walk_at "go"))
theorem loop1 (ns : List Int) (hl : ns.length ≤ 63) (Dn : WEnds) (hn : ∀ σ S, Dn.nx σ S) :
    ∀ (xs : List T), (∀ x ∈ xs, ∃ j : Nat, j < 63 ∧ x = .int j) → ∀ a1 a2 a3 a4 a5 a6 a7 a8 a9 S, loopW (gNm 1) (l3_law spBag spDraw spLife spFlow spRight spSp1 spOdd spTells spIsI spIsI) (fun _ => True) Dn xs [some (.fl (ns.map T.int)), a1, a2, a3, a4, a5, a6, a7, a8, a9] S
  | [], _, a1, a2, a3, a4, a5, a6, a7, a8, a9, S => ⟨trivial, hn _ _⟩
  | t :: xs, h, a1, a2, a3, a4, a5, a6, a7, a8, a9, S => by
    obtain ⟨j, hj, rfl⟩ := h t List.mem_cons_self
    refine ⟨trivial, ?_⟩
    have ih := loop1 ns hl Dn hn xs fun t ht => h t (List.mem_cons_of_mem _ ht)
    generalize loopW (gNm 1) (l3_law spBag spDraw spLife spFlow spRight spSp1 spOdd spTells spIsI spIsI) (fun _ => True) Dn xs = LP at ih ⊢
    unfold l3_law
    walk_at "r2"
    refine ⟨ns, rfl, by omega, by omega, fun p a b c hp => ?_⟩
    obtain ⟨S1, w1, g1, e1⟩ := al_ (o := .lst [.int a, .int b, .int c]) hp
    rw [w1]
    have hb1 : IsBag S1 p := ⟨a, b, c, e1⟩
    walk_at "r2"
    refine ⟨hb1, by omega, by omega, fun d1 S2 _ _ g2 => ?_⟩
    walk_at "r2"
    refine ⟨g2.bag, by omega, by omega, fun d2 S3 _ _ g3 => ?_⟩
    walk_at "r2"
    refine ⟨g3.bag, by omega, by omega, fun d3 S4 _ _ g4 => ?_⟩
    walk_at "r2"
    intro q hq
    have hqp : q ≠ p := new_ne g4.bag hq
    obtain ⟨S5, w5, g5, e5⟩ := al_ hq
    rw [w5]
    walk_at "r2"
    refine ⟨g4.bag.gr g5, by omega, by omega, fun r S6 h0 h1 g6 => ?_⟩
    have e6 := g6.keep _ _ e5 hqp
    walk_at "r2"
    refine ⟨by omega, by omega, fun D hD => ?_⟩
    have hDp : D ≠ p := new_ne g6.bag hD
    have hqD : q ≠ D := fun e => by rw [← e, e6] at hD; cases hD
    refine comp_row p q D _ _ _ _ _ _ _ _ _ _ hDp hqp hqD (fun row S7 hb7 hD7 hq7 hi7 hl7 => ?_) (rangeT 0 r.toNat) [] _ (g6.bag.up hDp) upS_same (by rw [upS_ne hqD]; exact e6) (by simp) (by rw [rangeT_len]; simp only [List.length_nil]; omega)
    refine ⟨row, itemsT_ref hD7, ?_⟩
    walk_at "r2"
    refine ⟨hb7, fun f1 f2 S8 g8 => ?_⟩
    walk_at "r2"
    refine ⟨g8.bag, fun l1 l2 l3 S9 g9 => ?_⟩
    walk_at "r2"
    refine ⟨g9.bag, by omega, by omega, fun r4 S10 h2 h3 g10 => ?_⟩
    have e10 := g10.keep _ _ (g9.keep _ _ (g8.keep _ _ hq7 hqp) hqp) hqp
    obtain ⟨pl, epl, mpl⟩ := atI_in (xs := [T.tup [.str "client", .int d1], .tup [.str "mux", .int d2], .tup [.str "agent", .int d3], .tup [.str "controller"]]) h2 (by simp; omega)
    have hpl : Pl pl := by
      simp only [List.mem_cons, List.not_mem_nil, or_false] at mpl
      rcases mpl with e | e | e | e <;> subst e
      · exact pl_place _ (by decide +kernel) _
      · exact pl_place _ (by decide +kernel) _
      · exact pl_place _ (by decide +kernel) _
      · exact pl_ctl _ (by decide +kernel)
    refine ⟨_, itemsT_ref e10, pl, epl, ?_⟩
    walk_at "r2"
    intro q2 hq2
    have hq2p : q2 ≠ p := new_ne g10.bag hq2
    obtain ⟨S11, w11, g11, e11⟩ := al_ hq2
    rw [w11]
    refine ⟨_, e11, loop2 _ _ _ _ _ _ _ _ p q2 _ hq2p _ (fun x S hb => ?_) _ (fun t ht => ?_) _ S11 (g10.bag.gr g11) e11⟩
    · exact tail _ _ _ _ _ _ _ _ _ p _ (fun _ _ _ _ _ => ih _ _ _ _ _ _ _ _ _ _) S hb
    · simp only [List.mem_cons, List.not_mem_nil, or_false] at ht
      rcases ht with e | e | e | e <;> subst e
      · exact pl_ints (by simp) (by simp)
      · exact pl_ints (by simp) (by simp)
      · exact hpl
      · exact pl_ints hi7 hl7
theorem hw_law : ∀ ts S Q E, ts.length = 1 → spLaw ts S Q E → b_law spBag spDraw spLife spFlow spRight spSp1 spOdd spTells spIsI spIsI { nx := fun _ S' => Q .non S', rt := Q } (Wp.startT N_law ts) S := by
  intro ts S Q E _ h
  obtain ⟨ns, rfl, hl, hf, q⟩ := h
  unfold b_law N_law
  walk_at "r2"
  have hm : ∀ m : Int, (if (if ((ns.map T.int).length : Int) < 20 then ((ns.map T.int).length : Int) else 20) > 1 then if ((ns.map T.int).length : Int) < 20 then ((ns.map T.int).length : Int) else 20 else 1) = m → m ≤ 20 ∧ 1 ≤ m := by
    intro m e
    subst e
    omega
  generalize (if (if ((ns.map T.int).length : Int) < 20 then ((ns.map T.int).length : Int) else 20) > 1 then if ((ns.map T.int).length : Int) < 20 then ((ns.map T.int).length : Int) else 20 else 1) = m at hm ⊢
  obtain ⟨h1, h2⟩ := hm m rfl
  refine ⟨by omega, by omega, loop1 ns hl _ (fun σ S => q S) _ (fun x hx => ?_) _ _ _ _ _ _ _ _ _ _⟩
  obtain ⟨i, hi, e⟩ := rangeT_mem hx
  exact ⟨i, by omega, e⟩
section
variable {P : Program} {K : PySem.W.Frag} {mg : Str → Option Value}
theorem cal_no {w : World} {base : Heap} {tl : List Addr} {x : Str} {st : Stmt} {ps : List Str} {k : Nat} (D : DefT K mg x st ps) : Cal P w K mg base tl k x ps spNo := D.cal fun f fd F => ⟨fun vs H Q E h => lsp_len h, fun A outer s H args us vs Q E hr e0 hb hv h => by
  obtain ⟨_, ts, S, Q0, E0, _, _, _, z, _⟩ := h
  exact z.elim⟩
theorem law_ok {l : PySem.W.OpenLaw} {w : World} {h : Heap} {fa : Addr} (T : Facts K mg) (X : K.In h) (G : h.Ns mainGlobals mg) (hfa : mg "law" = some (.ref fa)) (TE : TabsE K mg h ["is_bytes"]) :
    ∃ (fd : FuncData) (cs : List (Addr × Addr)), (∀ (s : Shared) (u : Value), BindsTo s fd ⟨[u], []⟩ [("script", u)]) ∧ (∀ p ∈ cs, h.get? p.2 = some { cls := .none, data := .fields #[] }) ∧ (∀ p ∈ cs, K.lookup p.2 = none) ∧ (∀ p ∈ cs, PySem.W.CodeHd h p.1 p.2) ∧
      ∀ base : Heap, K.In base → base.Ns mainGlobals mg → (∀ p ∈ cs, GxR.TabB base mg p.1 p.2) → FnOk l.prog w K mg base CX0 6 fa fd ["script"] (Lsp (cs.map (·.2)) K 1 spLaw) := by
  obtain ⟨f, fd, F, m, b⟩ := T.d_law
  have e := m.symm.trans hfa
  cases e
  obtain ⟨fB, fdB, c, Pt, FB, mB, bB, tK⟩ := T.d_is_bytes
  have te := TE "is_bytes" (by simp) fB fdB c Pt mB (by obtain ⟨oc, od, kV, doc, pm, an, cdv, ct, osl, _, lk, _⟩ := FB.ex; exact ⟨_, _, _, lk⟩) tK
  refine ⟨fd, [(c, Pt)], fun s u => ?_, fun p hp => ?_, fun p hp => ?_, fun p hp => ?_, fun base hb hg hTB => ?_⟩
  · obtain ⟨oc, od, kV, doc, pm, an, cdv, ct, osl, rfl, lk, hcd⟩ := F.ex
    exact .of_eq rfl
  · rw [List.mem_singleton.mp hp]; exact te.1
  · rw [List.mem_singleton.mp hp]; exact tK.no
  · rw [List.mem_singleton.mp hp]; exact te.2
  · have t1 : Tab1 base mg [Pt] fdB c Pt := ⟨tK.code, hTB _ (List.mem_singleton.mpr rfl), List.mem_singleton.mpr rfl⟩
    have c_int : Cal l.prog w K mg base [Pt] 1 "is_integer" ["value", "least", "greatest"] spIsI := T.d_is_integer.cal fun f fd F => fn_is_integer (k := 0) T F hw_is_integer
    have c_by : Cal l.prog w K mg base [Pt] 3 "is_bytes" ["value"] spBy := ⟨fB, fdB, fn_is_bytes (k := 1) T FB t1 c_int hw_is_bytes, mB, FB.kp, bB⟩
    have c_tu : Cal l.prog w K mg base [Pt] 1 "_is_tuple" ["value", "many"] spTu := T.d__is_tuple.cal fun f fd F => fn__is_tuple (k := 0) T F hw_is_tuple
    have c_be : Cal l.prog w K mg base [Pt] 2 "_is_below" ["value", "many"] spBe := T.d__is_below.cal fun f fd F => fn__is_below (k := 1) T F c_int hw_is_below
    have c_or : Cal l.prog w K mg base [Pt] 2 "_is_ordinal" ["value"] spOr := T.d__is_ordinal.cal fun f fd F => fn__is_ordinal (k := 1) T F c_int hw_is_ordinal
    have c_fl : Cal l.prog w K mg base [Pt] 3 "is_flow" ["value"] spPr := T.d_is_flow.cal fun f fd F => fn_is_flow (k := 2) T F (c_tu.mono (by decide)) c_be c_or hw_is_flow
    have c_bi : Cal l.prog w K mg base [Pt] 3 "is_birth" ["value"] spPr := T.d_is_birth.cal fun f fd F => fn_is_birth (k := 2) T F (c_tu.mono (by decide)) c_be c_or hw_is_birth
    have c_li : Cal l.prog w K mg base [Pt] 4 "is_life" ["value"] spLf := T.d_is_life.cal fun f fd F => fn_is_life (k := 3) T F (c_tu.mono (by decide)) c_bi (c_or.mono (by decide)) hw_is_life
    have c_fw : Cal l.prog w K mg base [Pt] 1 "first_word" ["value"] spFw := T.d_first_word.cal fun f fd F => fn_first_word (k := 0) T F hw_first_word
    have c_ad : Cal l.prog w K mg base [Pt] 3 "is_address" ["value"] spAd := T.d_is_address.cal fun f fd F => fn_is_address (k := 2) T F (c_fw.mono (by decide)) c_be hw_is_address
    have c_bag : Cal l.prog w K mg base [Pt] 1 "_law_bag" ["script", "k"] spBag := T.d__law_bag.cal fun f fd F => fn__law_bag (k := 0) T F hw_bag
    have c_dr : Cal l.prog w K mg base [Pt] 1 "_law_draw" ["bag", "many"] spDraw := T.d__law_draw.cal fun f fd F => fn__law_draw (k := 0) T F hw_draw1
    have c_co : Cal l.prog w K mg base [Pt] 2 "_law_count" ["bag", "least"] spCount := T.d__law_count.cal fun f fd F => fn__law_count (k := 1) T F c_dr hw_count
    have c_lf : Cal l.prog w K mg base [Pt] 3 "_law_flow" ["bag"] spFlow := T.d__law_flow.cal fun f fd F => fn__law_flow (k := 2) T F c_co (c_dr.mono (by decide)) hw_flow
    have c_lb : Cal l.prog w K mg base [Pt] 3 "_law_birth" ["bag"] spFlow := T.d__law_birth.cal fun f fd F => fn__law_birth (k := 2) T F c_co (c_dr.mono (by decide)) hw_birth
    have c_ll : Cal l.prog w K mg base [Pt] 4 "_law_life" ["bag"] spLife := T.d__law_life.cal fun f fd F => fn__law_life (k := 3) T F c_lb (c_co.mono (by decide)) hw_life
    have c_ii : Cal l.prog w K mg base [Pt] 1 "_law_is_int" ["value", "least", "most"] spIsI := T.d__law_is_int.cal fun f fd F => fn__law_is_int (k := 0) T F hw_is_int
    have c_ip : Cal l.prog w K mg base [Pt] 2 "_law_is_pair" ["value", "more"] spPm := T.d__law_is_pair.cal fun f fd F => fn__law_is_pair (k := 1) T F c_ii hw_is_pair
    have c_ab : Cal l.prog w K mg base [Pt] 2 "_law_are_bytes" ["value"] spBy2 := T.d__law_are_bytes.cal fun f fd F => fn__law_are_bytes (k := 1) T F c_ii hw_are_bytes
    have c_la : Cal l.prog w K mg base [Pt] 2 "_law_is_address" ["value"] spAd2 := T.d__law_is_address.cal fun f fd F => fn__law_is_address (k := 1) T F c_ii hw_law_is_address
    have c_te : Cal l.prog w K mg base [Pt] 1 "_law_tells" ["actual", "due"] spTells := T.d__law_tells.cal fun f fd F => fn__law_tells (k := 0) T F hw_tells
    have c_od : Cal l.prog w K mg base [Pt] 2 "_law_odd" ["bag"] spOdd := T.d__law_odd.cal fun f fd F => fn__law_odd (k := 1) T F c_dr hw_odd
    have c_s0 : Cal l.prog w K mg base [Pt] 2 "_law_spoilt" ["bag", "value", "odd"] spSp0 := T.d__law_spoilt.cal fun f fd F => fn__law_spoilt (k := 1) T F c_dr (cal_no T.d__law_spoilt) hw_spoilt0
    have c_s1 : Cal l.prog w K mg base [Pt] 3 "_law_spoilt" ["bag", "value", "odd"] spSp1 := T.d__law_spoilt.cal fun f fd F => fn__law_spoilt (k := 2) T F (c_dr.mono (by decide)) c_s0 hw_spoilt1
    have c_ri : Cal l.prog w K mg base [Pt] 5 "_law_right" ["value"] spRight := T.d__law_right.cal fun f fd F => fn__law_right (k := 4) T F (c_te.mono (by decide)) (c_ip.mono (by decide)) (c_fl.mono (by decide)) (c_bi.mono (by decide)) c_li (c_la.mono (by decide)) (c_ad.mono (by decide)) (c_ab.mono (by decide)) (c_by.mono (by decide)) hw_right
    exact fn_law (k := 5) T F (c_bag.mono (by decide)) (c_dr.mono (by decide)) (c_ll.mono (by decide)) (c_lf.mono (by decide)) c_ri (c_s1.mono (by decide)) (c_od.mono (by decide)) (c_te.mono (by decide)) (c_ii.mono (by decide)) (c_int.mono (by decide)) hw_law
end
end My

set_option Elab.async false
set_option linter.all false
set_option maxRecDepth 100000
open PySem PySem.W PyProof.Rows
set_option maxHeartbeats 0 in
theorem PySem.Challenge.cw_heldflows_k01_forms_of_names_holds : PySem.Challenge.rw_heldflows_k01_forms_of_names.Holds := by
  w_on; o_law; k_head; (case hw => w_witness2)
  k_fill
  refine Wp.law_walkT (l := PySem.Challenge.rw_heldflows_k01_forms_of_names) (k := 6) (x := "script") ["is_bytes"] rfl rfl ⟨rfl, by decide, by decide⟩ (by decide +kernel) (fun w h Y => PySem.W.kIn_of Y) ?F
  case F =>
    intro w mg fa h KX G hmg TE
    refine' My.law_ok (Gn.facts_mk KX G ?a0 ?l0 ?c0 ?k0 ?a1 ?l1 ?c1 ?k1 ?x1 ?y1 ?u1 ?v1 ?a2 ?l2 ?c2 ?k2 ?a3 ?l3 ?c3 ?k3 ?a4 ?l4 ?c4 ?k4 ?a5 ?l5 ?c5 ?k5 ?a6 ?l6 ?c6 ?k6 ?a7 ?l7 ?c7 ?k7 ?a8 ?l8 ?c8 ?k8 ?a9 ?l9 ?c9 ?k9 ?a10 ?l10 ?c10 ?k10 ?a11 ?l11 ?c11 ?k11 ?a12 ?l12 ?c12 ?k12 ?a13 ?l13 ?c13 ?k13 ?a14 ?l14 ?c14 ?k14 ?a15 ?l15 ?c15 ?k15 ?a16 ?l16 ?c16 ?k16 ?a17 ?l17 ?c17 ?k17 ?a18 ?l18 ?c18 ?k18 ?a19 ?l19 ?c19 ?k19 ?a20 ?l20 ?c20 ?k20 ?a21 ?l21 ?c21 ?k21 ?a22 ?l22 ?c22 ?k22 ?a23 ?l23 ?c23 ?k23 ?a24 ?l24 ?c24 ?k24 ?n_MOST_AGENTS ?n_MOST_CLIENTS ?n_MOST_COUNT ?n_MOST_MUXES ?z_all ?z_bool ?z_int ?z_isinstance ?z_len ?z_max ?z_min ?z_range ?z_str ?z_tuple) KX G hmg TE
    (case a0 => k_is); (case l0 => k_is); (case c0 => k_is); (case k0 => k_is); (case a1 => k_is); (case l1 => k_is); (case c1 => k_is); (case k1 => k_is); (case x1 => first | rfl | k_is | decide); (case y1 => k_is); (case u1 => first | rfl | k_is | decide); (case v1 => first | rfl | k_is | decide); (case a2 => k_is); (case l2 => k_is); (case c2 => k_is); (case k2 => k_is); (case a3 => k_is); (case l3 => k_is); (case c3 => k_is); (case k3 => k_is); (case a4 => k_is); (case l4 => k_is); (case c4 => k_is); (case k4 => k_is); (case a5 => k_is); (case l5 => k_is); (case c5 => k_is); (case k5 => k_is); (case a6 => k_is); (case l6 => k_is); (case c6 => k_is); (case k6 => k_is); (case a7 => k_is); (case l7 => k_is); (case c7 => k_is); (case k7 => k_is); (case a8 => k_is); (case l8 => k_is); (case c8 => k_is); (case k8 => k_is); (case a9 => k_is); (case l9 => k_is); (case c9 => k_is); (case k9 => k_is); (case a10 => k_is); (case l10 => k_is); (case c10 => k_is); (case k10 => k_is); (case a11 => k_is); (case l11 => k_is); (case c11 => k_is); (case k11 => k_is); (case a12 => k_is); (case l12 => k_is); (case c12 => k_is); (case k12 => k_is); (case a13 => k_is); (case l13 => k_is); (case c13 => k_is); (case k13 => k_is); (case a14 => k_is); (case l14 => k_is); (case c14 => k_is); (case k14 => k_is); (case a15 => k_is); (case l15 => k_is); (case c15 => k_is); (case k15 => k_is); (case a16 => k_is); (case l16 => k_is); (case c16 => k_is); (case k16 => k_is); (case a17 => k_is); (case l17 => k_is); (case c17 => k_is); (case k17 => k_is); (case a18 => k_is); (case l18 => k_is); (case c18 => k_is); (case k18 => k_is); (case a19 => k_is); (case l19 => k_is); (case c19 => k_is); (case k19 => k_is); (case a20 => k_is); (case l20 => k_is); (case c20 => k_is); (case k20 => k_is); (case a21 => k_is); (case l21 => k_is); (case c21 => k_is); (case k21 => k_is); (case a22 => k_is); (case l22 => k_is); (case c22 => k_is); (case k22 => k_is); (case a23 => k_is); (case l23 => k_is); (case c23 => k_is); (case k23 => k_is); (case a24 => k_is); (case l24 => k_is); (case c24 => k_is); (case k24 => k_is); (case n_MOST_AGENTS => k_is); (case n_MOST_CLIENTS => k_is); (case n_MOST_COUNT => k_is); (case n_MOST_MUXES => k_is); (case z_all => k_is); (case z_bool => k_is); (case z_int => k_is); (case z_isinstance => k_is); (case z_len => k_is); (case z_max => k_is); (case z_min => k_is); (case z_range => k_is); (case z_str => k_is); (case z_tuple => k_is)

