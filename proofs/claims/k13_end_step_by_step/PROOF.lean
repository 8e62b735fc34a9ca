import PyProof.Rows.All
import Wide.All
import OpenK.AllK
import Wide.FinOn
import HandS.ForMost
import HandS.TupAny
import HandS.IsInst
import HandS.Wide
import HandS.Deep
import HandS.AnyAll
import HandS.Codes
import HandS.Style
import HandS.Conv
import KE.KSortedM
import HandS.GenOver
import HandS.GenList
import HandS.EndOwn
import HandS.Iter
import HandS.Text
import KE.GoesEnumKw
import HandS.SortKw
import HandS.ForExc
import HandS.ExcIs
import HandS.Dict
import HandS.More
import HandS.Zip
import HandS.NoneIn
import HandS.WrittenGet
import HandS.TupMul
import HandS.SortRule
import HandS.DictTup
import KE.KDictPairs
import KE.KDictCopyH
import HandS.SortInts
import PySem.Challenge.RW_heldflows_k13_end_step_by_step
set_option Elab.async false
set_option linter.all false
set_option maxRecDepth 100000
/-! trees, states, and what a reading over them is worth -/
namespace Wp
open PySem PySem.Spec PyProof.Rows L2

/-- a value as a tree: tuples by their items, frozen lists by theirs, all that changes by its address -/
inductive T where
  | non | bl (b : Bool) | int (i : Int) | str (s : Str) | tup (ts : List T) | fl (ts : List T) | ref (a : Addr) | pt (ts : List T)

/-- a list that never changes: known, or of the written part -/
def FzL (K : PySem.W.Frag) (H : Hp) (a : Addr) (xs : List V) : Prop :=
  (∃ o, H a = some (.frz o (.lst xs))) ∨
    ∃ (o : Obj) (its : Array Value) (n : Nat), K.lookup a = some o ∧ o.cls = .type "list" ∧ o.dict = none ∧ o.data = .seq its n ∧ its.size ≤ sizeLine ∧ Vals xs its.toList
theorem FzL.sq {K : PySem.W.Frag} {H : Hp} {a : Addr} {xs : List V} (h : FzL K H a xs) : SqL K H a xs := by
  rcases h with ⟨o, h⟩ | h
  · exact .inl (.inr ⟨o, h⟩)
  · exact .inr h

mutual
inductive Rep (K : PySem.W.Frag) (H : Hp) : T → V → Prop
  | non : Rep K H .non .non
  | bl (b : Bool) : Rep K H (.bl b) (.bl b)
  | int (i : Int) : Rep K H (.int i) (.int i)
  | str (x : Str) : Rep K H (.str x) (.str x)
  | ref (a : Addr) : Rep K H (.ref a) (.ref a)
  | tup {a : Addr} {xs : List V} {ts : List T} : H a = some (.tup xs) → Reps K H ts xs → Rep K H (.tup ts) (.ref a)
  | fl {a : Addr} {xs : List V} {ts : List T} : FzL K H a xs → Reps K H ts xs → Rep K H (.fl ts) (.ref a)
  | pt {a : Addr} {o : Obj} {xs : List V} {ts : List T} : o.dict = none → H a = some (.frz o (.tup xs)) → Reps K H ts xs → Rep K H (.pt ts) (.ref a)
inductive Reps (K : PySem.W.Frag) (H : Hp) : List T → List V → Prop
  | nil : Reps K H [] []
  | cons {t : T} {ts : List T} {v : V} {vs : List V} : Rep K H t v → Reps K H ts vs → Reps K H (t :: ts) (v :: vs)
end

/-- what stays -/
structure Ext (H H' : Hp) : Prop where
  tups : ∀ b xs, H b = some (.tup xs) → H' b = some (.tup xs)
  frzs : ∀ b o u, H b = some (.frz o u) → H' b = some (.frz o u)
  tabs : ∀ b, GxR.TabG H b → GxR.TabG H' b
theorem Ext.refl (H : Hp) : Ext H H := ⟨fun _ _ h => h, fun _ _ _ h => h, fun _ h => h⟩
theorem Ext.trans {H H1 H2 : Hp} (a : Ext H H1) (b : Ext H1 H2) : Ext H H2 := ⟨fun x xs h => b.tups x xs (a.tups x xs h), fun x o u h => b.frzs x o u (a.frzs x o u h), fun x h => b.tabs x (a.tabs x h)⟩
theorem Ext.new {H : Hp} {p : Addr} {o : HO} (h : H p = none) : Ext H (upd H p o) :=
  ⟨fun b xs e => by rw [upd_ne (ne_of_none e h)]; exact e, fun b o u e => by rw [upd_ne (ne_of_none e h)]; exact e, fun b ⟨ps, e, t⟩ => ⟨ps, by rw [upd_ne (ne_of_none e h)]; exact e, t⟩⟩
/-- what may be written over -/
def Soft : HO → Prop
  | .tup _ => False
  | .frz _ _ => False
  | .tbl _ => False
  | _ => True
theorem Ext.put {H : Hp} {p : Addr} {o u : HO} (h : H p = some u) (hs : Soft u) : Ext H (upd H p o) :=
  ⟨fun b xs e => by
    rw [upd_ne]
    · exact e
    · intro z; subst z; rw [h] at e; cases e; exact hs,
   fun b o u e => by
    rw [upd_ne]
    · exact e
    · intro z; subst z; rw [h] at e; cases e; exact hs,
   fun b ⟨ps, e, t⟩ => ⟨ps, by
    rw [upd_ne]
    · exact e
    · intro z; subst z; rw [h] at e; cases e; exact hs, t⟩⟩
theorem sqT_of {K : PySem.W.Frag} {H : Hp} {a : Addr} {xs : List V} (h : H a = some (.tup xs)) : SqT K H a xs := .inl (.inl h)
theorem Ext.sqT {K : PySem.W.Frag} {H H' : Hp} {a : Addr} {xs : List V} (e : Ext H H') (h : SqT K H a xs) : SqT K H' a xs := by
  rcases h with (h | ⟨o, h⟩) | h
  · exact .inl (.inl (e.tups _ _ h))
  · exact .inl (.inr ⟨o, e.frzs _ _ _ h⟩)
  · exact .inr h
theorem Ext.fzL {K : PySem.W.Frag} {H H' : Hp} {a : Addr} {xs : List V} (e : Ext H H') (h : FzL K H a xs) : FzL K H' a xs := by
  rcases h with ⟨o, h⟩ | h
  · exact .inl ⟨o, e.frzs _ _ _ h⟩
  · exact .inr h
mutual
theorem Rep.mono {K : PySem.W.Frag} {H H' : Hp} (e : Ext H H') : ∀ (t : T) (v : V), Rep K H t v → Rep K H' t v
  | .non, _, h => by cases h; exact .non
  | .bl b, _, h => by cases h; exact .bl b
  | .int i, _, h => by cases h; exact .int i
  | .str x, _, h => by cases h; exact .str x
  | .ref a, _, h => by cases h; exact .ref a
  | .tup ts, _, h => by
    cases h with
    | tup h1 h2 => exact .tup (e.tups _ _ h1) (Reps.mono e ts _ h2)
  | .fl ts, _, h => by
    cases h with
    | fl h1 h2 => exact .fl (e.fzL h1) (Reps.mono e ts _ h2)
  | .pt ts, _, r => by
    cases r with
    | pt h0 h1 h2 => exact .pt h0 (e.frzs _ _ _ h1) (Reps.mono e ts _ h2)
theorem Reps.mono {K : PySem.W.Frag} {H H' : Hp} (e : Ext H H') : ∀ (ts : List T) (vs : List V), Reps K H ts vs → Reps K H' ts vs
  | [], _, h => by cases h; exact .nil
  | t :: ts, _, h => by
    cases h with
    | cons h1 h2 => exact .cons (Rep.mono e t _ h1) (Reps.mono e ts _ h2)
end
section
variable {K : PySem.W.Frag} {H : Hp}
theorem Reps.length : ∀ {ts : List T} {vs : List V}, Reps K H ts vs → ts.length = vs.length
  | [], _, h => by cases h; rfl
  | t :: ts, _, h => by
    cases h with
    | cons h1 h2 => rw [List.length_cons, List.length_cons, Reps.length h2]
theorem Reps.get : ∀ {ts : List T} {vs : List V} {i : Nat} {t : T}, Reps K H ts vs → ts[i]? = some t → ∃ v, vs[i]? = some v ∧ Rep K H t v
  | [], _, _, _, _, e => by simp at e
  | t :: ts, _, 0, x, h, e => by
    cases h with
    | cons h1 h2 =>
      simp at e
      subst e
      exact ⟨_, rfl, h1⟩
  | t :: ts, _, i + 1, x, h, e => by
    cases h with
    | cons h1 h2 =>
      obtain ⟨v, e1, e2⟩ := Reps.get (i := i) h2 (by simpa using e)
      exact ⟨v, by simpa using e1, e2⟩
theorem Reps.getV : ∀ {ts : List T} {vs : List V} {i : Nat} {v : V}, Reps K H ts vs → vs[i]? = some v → ∃ t, ts[i]? = some t ∧ Rep K H t v
  | [], _, _, _, h, e => by cases h; simp at e
  | t :: ts, _, 0, x, h, e => by
    cases h with
    | cons h1 h2 =>
      simp at e
      subst e
      exact ⟨_, rfl, h1⟩
  | t :: ts, _, i + 1, x, h, e => by
    cases h with
    | cons h1 h2 =>
      obtain ⟨v, e1, e2⟩ := Reps.getV (i := i) h2 (by simpa using e)
      exact ⟨v, by simpa using e1, e2⟩
theorem Reps.append : ∀ {ts us : List T} {vs ws : List V}, Reps K H ts vs → Reps K H us ws → Reps K H (ts ++ us) (vs ++ ws)
  | [], _, _, _, h, g => by cases h; exact g
  | t :: ts, _, _, _, h, g => by
    cases h with
    | cons h1 h2 => exact .cons h1 (Reps.append h2 g)
theorem Reps.take : ∀ {ts : List T} {vs : List V} (n : Nat), Reps K H ts vs → Reps K H (ts.take n) (vs.take n)
  | _, _, 0, _ => .nil
  | [], _, n + 1, h => by cases h; exact .nil
  | t :: ts, _, n + 1, h => by
    cases h with
    | cons h1 h2 => exact .cons h1 (Reps.take n h2)
theorem Reps.drop : ∀ {ts : List T} {vs : List V} (n : Nat), Reps K H ts vs → Reps K H (ts.drop n) (vs.drop n)
  | _, _, 0, h => h
  | [], _, n + 1, h => by cases h; exact .nil
  | t :: ts, _, n + 1, h => by
    cases h with
    | cons h1 h2 => exact Reps.drop n h2
theorem Reps.set {t : T} {v : V} (r : Rep K H t v) : ∀ {ts : List T} {vs : List V} (i : Nat), Reps K H ts vs → Reps K H (ts.set i t) (vs.set i v)
  | [], _, _, h => by cases h; exact .nil
  | t :: ts, _, 0, h => by
    cases h with
    | cons h1 h2 => exact .cons r h2
  | t :: ts, _, i + 1, h => by
    cases h with
    | cons h1 h2 => exact .cons h1 (Reps.set r i h2)
theorem Reps.reverse : ∀ {ts : List T} {vs : List V}, Reps K H ts vs → Reps K H ts.reverse vs.reverse
  | [], _, h => by cases h; exact .nil
  | t :: ts, _, h => by
    cases h with
    | cons h1 h2 =>
      rw [List.reverse_cons, List.reverse_cons]
      exact Reps.append (Reps.reverse h2) (.cons h1 .nil)
theorem Reps.ints : ∀ (ns : List Int), Reps K H (ns.map T.int) (ns.map V.int)
  | [] => .nil
  | n :: ns => .cons (.int n) (Reps.ints ns)
theorem Reps.intsV : ∀ {ns : List Int} {vs : List V}, Reps K H (ns.map T.int) vs → vs = ns.map V.int
  | [], _, h => by cases h; rfl
  | n :: ns, _, h => by
    cases h with
    | cons h1 h2 =>
      cases h1
      rw [Reps.intsV h2]
      rfl
theorem Reps.blsV : ∀ {ns : List Bool} {vs : List V}, Reps K H (ns.map T.bl) vs → vs = ns.map V.bl
  | [], _, h => by cases h; rfl
  | n :: ns, _, h => by
    cases h with
    | cons h1 h2 =>
      cases h1
      rw [Reps.blsV h2]
      rfl
theorem Reps.strsV : ∀ {ns : List Str} {vs : List V}, Reps K H (ns.map T.str) vs → vs = ns.map V.str
  | [], _, h => by cases h; rfl
  | n :: ns, _, h => by
    cases h with
    | cons h1 h2 =>
      cases h1
      rw [Reps.strsV h2]
      rfl
end

/-! ### the state: what may change -/
inductive O where
  | lst (ts : List T)
  | ins (C : Addr) (fs : List (Str × T))
  | dct (kvs : List (Key × T))
  | dtt (kvs : List (List Key × T))
abbrev Sta := Addr → Option O
def upS (S : Sta) (a : Addr) (o : O) : Sta := fun b => if b = a then some o else S b
theorem upS_same {S : Sta} {a : Addr} {o : O} : upS S a o a = some o := by unfold upS; rw [if_pos rfl]
theorem upS_ne {S : Sta} {a b : Addr} {o : O} (h : b ≠ a) : upS S a o b = S b := by unfold upS; rw [if_neg h]
theorem upS_upS {S : Sta} {a : Addr} {o u : O} : upS (upS S a o) a u = upS S a u := by
  funext b; unfold upS; split <;> rfl
theorem upS_self {S : Sta} {a : Addr} {o : O} (h : S a = some o) : upS S a o = S := by
  funext b; unfold upS; split
  · rename_i e; subst e; exact h.symm
  · rfl
/-- pairs of a name or a key and a value -/
inductive KRep {κ : Type} (K : PySem.W.Frag) (H : Hp) : List (κ × T) → List (κ × V) → Prop
  | nil : KRep K H [] []
  | cons {f : κ} {t : T} {v : V} {fs : List (κ × T)} {gs : List (κ × V)} : Rep K H t v → KRep K H fs gs → KRep K H ((f, t) :: fs) ((f, v) :: gs)
abbrev FRep (K : PySem.W.Frag) (H : Hp) : List (Str × T) → List (Str × V) → Prop := KRep K H
theorem KRep.mono {κ : Type} {K : PySem.W.Frag} {H H' : Hp} (e : Ext H H') : ∀ {fs : List (κ × T)} {gs : List (κ × V)}, KRep K H fs gs → KRep K H' fs gs
  | _, _, .nil => .nil
  | _, _, .cons h1 h2 => .cons (Rep.mono e _ _ h1) (KRep.mono e h2)
theorem KRep.length {κ : Type} {K : PySem.W.Frag} {H : Hp} : ∀ {fs : List (κ × T)} {gs : List (κ × V)}, KRep K H fs gs → fs.length = gs.length
  | _, _, .nil => rfl
  | _, _, .cons h1 h2 => by rw [List.length_cons, List.length_cons, KRep.length h2]
def ORep (K : PySem.W.Frag) (H : Hp) (a : Addr) : O → Prop
  | .lst ts => ∃ xs, H a = some (.lst xs) ∧ Reps K H ts xs
  | .ins C fs => ∃ dx gs, H a = some (.ins C dx gs) ∧ FRep K H fs gs
  | .dct kvs => ∃ xs, H a = some (.dK xs) ∧ KRep K H kvs xs
  | .dtt kvs => ∃ xs, H a = some (.dT xs) ∧ KRep K H kvs xs
theorem ORep.keep {K : PySem.W.Frag} {H H' : Hp} {a : Addr} {o : O} (e : Ext H H') (z : H' a = H a) (r : ORep K H a o) : ORep K H' a o := by
  cases o with
  | lst ts => obtain ⟨xs, e1, e2⟩ := r; exact ⟨xs, z.trans e1, Reps.mono e _ _ e2⟩
  | ins C fs => obtain ⟨dx, gs, e1, e2⟩ := r; exact ⟨dx, gs, z.trans e1, KRep.mono e e2⟩
  | dct kvs => obtain ⟨xs, e1, e2⟩ := r; exact ⟨xs, z.trans e1, KRep.mono e e2⟩
  | dtt kvs => obtain ⟨xs, e1, e2⟩ := r; exact ⟨xs, z.trans e1, KRep.mono e e2⟩
def St (K : PySem.W.Frag) (S : Sta) (H : Hp) : Prop := ∀ a o, S a = some o → ORep K H a o
section
variable {K : PySem.W.Frag} {S : Sta} {H H' : Hp} {a p : Addr}
theorem St.has (h : St K S H) {o : O} (e : S a = some o) : ∃ u, H a = some u ∧ Soft u := by
  have q := h a o e
  cases o with
  | lst ts => obtain ⟨xs, e, _⟩ := q; exact ⟨_, e, trivial⟩
  | ins C fs => obtain ⟨dx, gs, e, _⟩ := q; exact ⟨_, e, trivial⟩
  | dct kvs => obtain ⟨xs, e, _⟩ := q; exact ⟨_, e, trivial⟩
  | dtt kvs => obtain ⟨xs, e, _⟩ := q; exact ⟨_, e, trivial⟩
theorem St.free (h : St K S H) (e : H p = none) : S p = none := by
  cases q : S p with
  | none => rfl
  | some o =>
    obtain ⟨u, hu, _⟩ := h.has q
    rw [e] at hu
    cases hu
/-- all that S speaks of stays as it is -/
theorem St.keep (h : St K S H) (e : Ext H H') (k : ∀ a o, S a = some o → H' a = H a) : St K S H' := fun a o q => (h a o q).keep e (k a o q)
theorem St.new (h : St K S H) (e : H p = none) (u : HO) : St K S (upd H p u) :=
  h.keep (Ext.new e) fun a o q => by
    obtain ⟨u', hu, _⟩ := h.has q
    exact upd_ne (ne_of_none hu e)
theorem St.put (h : St K S H') {o : O} (g : ORep K H' a o) : St K (upS S a o) H' := fun b u q => by
  by_cases hb : b = a
  · subst hb
    rw [upS_same] at q
    cases q
    exact g
  · rw [upS_ne hb] at q
    exact h b u q
/-- a thing is written anew -/
theorem St.setO (h : St K S H) {u u' : HO} {o' : O} (e : H a = Option.some u) (hs : Soft u) (r : Ext H (upd H a u') → ORep K (upd H a u') a o') : Ext H (upd H a u') ∧ St K (upS S a o') (upd H a u') := by
  have ex : Ext H (upd H a u') := Ext.put e hs
  refine ⟨ex, fun b u q => ?_⟩
  by_cases hb : b = a
  · subst hb
    rw [upS_same] at q
    cases q
    exact r ex
  · rw [upS_ne hb] at q
    exact (h b u q).keep ex (upd_ne hb)
/-- a list is written anew -/
theorem St.setL (h : St K S H) {xs : List V} {ts' : List T} {xs' : List V} (e : H a = Option.some (.lst xs)) (r : Reps K H ts' xs') : Ext H (upd H a (.lst xs')) ∧ St K (upS S a (.lst ts')) (upd H a (.lst xs')) :=
  h.setO e trivial fun ex => ⟨xs', upd_same, Reps.mono ex _ _ r⟩
/-- a new thing -/
theorem St.newO (h : St K S H) {u' : HO} {o' : O} (e : H p = Option.none) (r : Ext H (upd H p u') → ORep K (upd H p u') p o') : Ext H (upd H p u') ∧ St K (upS S p o') (upd H p u') := by
  have ex : Ext H (upd H p u') := Ext.new e
  exact ⟨ex, (h.new e _).put (r ex)⟩
/-- a new list -/
theorem St.newL (h : St K S H) {ts : List T} {xs : List V} (e : H p = Option.none) (r : Reps K H ts xs) : Ext H (upd H p (.lst xs)) ∧ St K (upS S p (.lst ts)) (upd H p (.lst xs)) := by
  have ex : Ext H (upd H p (.lst xs)) := Ext.new e
  exact ⟨ex, (h.new e _).put ⟨xs, upd_same, Reps.mono ex _ _ r⟩⟩
/-- less is known -/
theorem St.less {S' : Sta} (h : St K S H) (k : ∀ a o, S' a = Option.some o → S a = Option.some o) : St K S' H := fun a o q => h a o (k a o q)
end

/-! ### readings over trees -/
abbrev Sl := List (Option T)
abbrev WE := Sl → Sta → (T → Sta → Prop) → Prop
abbrev WT := Sl → Sta → (Bool → Sta → Prop) → Prop
abbrev WA := Sl → Sta → (List T → Sta → Prop) → Prop
structure WEnds where
  nx : Sl → Sta → Prop
  rt : T → Sta → Prop
  bk : Sl → Sta → Prop := fun _ _ => False
  ct : Sl → Sta → Prop := fun _ _ => False
abbrev WS := WEnds → Sl → Sta → Prop
def SlR (K : PySem.W.Frag) (H : Hp) (st : Sl) (σ : L2.St) : Prop := st.length = σ.length ∧ ∀ (i : Nat) (t : T), st[i]? = some (some t) → ∃ v, σ[i]? = some (some v) ∧ Rep K H t v
theorem SlR.mono {K : PySem.W.Frag} {H H' : Hp} {st : Sl} {σ : L2.St} (e : Ext H H') (h : SlR K H st σ) : SlR K H' st σ := ⟨h.1, fun i t q => by
  obtain ⟨v, e1, e2⟩ := h.2 i t q
  exact ⟨v, e1, Rep.mono e _ _ e2⟩⟩
theorem SlR.set {K : PySem.W.Frag} {H : Hp} {st : Sl} {σ : L2.St} {t : T} {v : V} (h : SlR K H st σ) (r : Rep K H t v) (i : Nat) : SlR K H (st.set i (some t)) (σ.set i (some v)) := by
  refine ⟨by rw [List.length_set, List.length_set]; exact h.1, fun j u q => ?_⟩
  by_cases hj : i = j
  · subst hj
    by_cases hl : i < st.length
    · rw [List.getElem?_set_self hl] at q
      cases q
      exact ⟨v, by rw [List.getElem?_set_self (h.1 ▸ hl)], r⟩
    · rw [List.getElem?_eq_none (by rw [List.length_set]; omega)] at q
      cases q
  · rw [List.getElem?_set_ne hj] at q
    obtain ⟨w, e1, e2⟩ := h.2 j u q
    exact ⟨w, by rw [List.getElem?_set_ne hj]; exact e1, e2⟩

def fin (K : PySem.W.Frag) (H : Hp) (Q : VK) : T → Sta → Prop := fun t S => ∀ H' v, Ext H H' → St K S H' → Rep K H' t v → Q v H'
def finB (K : PySem.W.Frag) (H : Hp) (Q : Bool → Hp → Prop) : Bool → Sta → Prop := fun b S => ∀ H', Ext H H' → St K S H' → Q b H'
def finA (K : PySem.W.Frag) (H : Hp) (Q : List V → Hp → Prop) : List T → Sta → Prop := fun ts S => ∀ H' vs, Ext H H' → St K S H' → Reps K H' ts vs → Q vs H'
def finS (K : PySem.W.Frag) (H : Hp) (Q : L2.St → Hp → Prop) : Sl → Sta → Prop := fun st S => ∀ H' σ, Ext H H' → St K S H' → SlR K H' st σ → Q σ H'
def finD (K : PySem.W.Frag) (H : Hp) (D : Ends) : WEnds := { nx := finS K H D.nx, rt := fin K H D.rt, bk := finS K H D.bk, ct := finS K H D.ct }
/-- on to what follows -/
def goS (f : Sl → Sta → Prop) (σ : Sl) (S : Sta) : Prop := f σ S
/-- either way of a test -/
@[irreducible] def wif (b : Bool) (A C : Prop) : Prop := match b with
  | true => A
  | false => C
theorem wif_true {A C : Prop} : wif true A C = A := by unfold wif; rfl
theorem wif_false {A C : Prop} : wif false A C = C := by unfold wif; rfl
theorem wt {A C : Prop} (h : wif true A C) : A := by rw [wif_true] at h; exact h
theorem wff {A C : Prop} (h : wif false A C) : C := by rw [wif_false] at h; exact h
theorem wif_t {A C : Prop} (h : A) : wif true A C := by rw [wif_true]; exact h
theorem wif_f {A C : Prop} (h : C) : wif false A C := by rw [wif_false]; exact h
theorem if_dec {p : Prop} [Decidable p] {A C : Prop} (h1 : p → A) (h2 : ¬ p → C) : wif (decide p) A C := by
  by_cases h : p
  · rw [decide_eq_true h, wif_true]; exact h1 h
  · rw [decide_eq_false h, wif_false]; exact h2 h
theorem if_bool {p : Bool} {A C : Prop} (h1 : p = true → A) (h2 : p = false → C) : wif p A C := by
  cases p
  · rw [wif_false]; exact h2 rfl
  · rw [wif_true]; exact h1 rfl
abbrev Im2 {α : Type} (P Q : α → Sta → Prop) : Prop := ∀ v S, P v S → Q v S
structure ImD (D0 D : WEnds) : Prop where
  nx : Im2 D0.nx D.nx
  rt : Im2 D0.rt D.rt
  bk : Im2 D0.bk D.bk
  ct : Im2 D0.ct D.ct
def LE (B : Hp) (X : Cx) (t : WE) : TE := fun σ H Q => ∃ st S Q0, Ext B H ∧ SlR X.K H st σ ∧ St X.K S H ∧ t st S Q0 ∧ Im2 Q0 (fin X.K H Q)
def LT (B : Hp) (X : Cx) (t : WT) : TT := fun σ H Q => ∃ st S Q0, Ext B H ∧ SlR X.K H st σ ∧ St X.K S H ∧ t st S Q0 ∧ Im2 Q0 (finB X.K H Q)
def LA (B : Hp) (X : Cx) (t : WA) : TA := fun σ H Q => ∃ st S Q0, Ext B H ∧ SlR X.K H st σ ∧ St X.K S H ∧ t st S Q0 ∧ Im2 Q0 (finA X.K H Q)
def LS (B : Hp) (X : Cx) (t : WS) : TS := fun D σ H => ∃ st S D0, Ext B H ∧ SlR X.K H st σ ∧ St X.K S H ∧ t D0 st S ∧ ImD D0 (finD X.K H D)
def JE (B : Hp) (X : Cx) (e : Expr) (t : WE) : Prop := PE X e (LE B X t)
def JT (B : Hp) (X : Cx) (e : Expr) (t : WT) : Prop := PT X e (LT B X t)
def JW (B : Hp) (X : Cx) (e : Expr) (t : WT) : Prop := PW X e (LT B X t)
def JA (B : Hp) (X : Cx) (es : List Expr) (t : WA) : Prop := PA X es (LA B X t)
def JS (B : Hp) (X : Cx) (s : Stmt) (t : WS) : Prop := PS X s (LS B X t)
def JSs (B : Hp) (X : Cx) (ss : List Stmt) (t : WS) : Prop := PSs X ss (LS B X t)
theorem JW.jt {B : Hp} {X : Cx} {e : Expr} {t : WT} (h : JW B X e t) : JT B X e t := PW.pt h

theorem pe_imp {X : Cx} {e : Expr} {t t' : TE} (h : PE X e t) (k : ∀ σ H Q, t' σ H Q → t σ H Q) : PE X e t' := ⟨fun pins s σ H Q I q => h.run pins s σ H Q I (k σ H Q q)⟩
theorem pt_imp {X : Cx} {e : Expr} {t t' : TT} (h : PT X e t) (k : ∀ σ H Q, t' σ H Q → t σ H Q) : PT X e t' := ⟨fun pins s σ H Q I q => h.run pins s σ H Q I (k σ H Q q)⟩
theorem pw_imp {X : Cx} {e : Expr} {t t' : TT} (h : PW X e t) (k : ∀ σ H Q, t' σ H Q → t σ H Q) : PW X e t' := ⟨fun wh pins s σ H Q I q => h.run wh pins s σ H Q I (k σ H Q q)⟩
theorem pa_imp {X : Cx} {e : List Expr} {t t' : TA} (h : PA X e t) (k : ∀ σ H Q, t' σ H Q → t σ H Q) : PA X e t' := ⟨fun pos pins s σ H Q I q => h.run pos pins s σ H Q I (k σ H Q q)⟩
theorem ps_imp {X : Cx} {s : Stmt} {t t' : TS} (h : PS X s t) (k : ∀ D σ H, t' D σ H → t D σ H) : PS X s t' := ⟨fun pins s σ H D I q => h.run pins s σ H D I (k D σ H q)⟩
theorem pss_imp {X : Cx} {s : List Stmt} {t t' : TS} (h : PSs X s t) (k : ∀ D σ H, t' D σ H → t D σ H) : PSs X s t' := ⟨fun pins s σ H D I q => h.run pins s σ H D I (k D σ H q)⟩
theorem fin_ext {K : PySem.W.Frag} {H H1 : Hp} {Q : VK} {t : T} {S : Sta} (e : Ext H H1) (h : fin K H Q t S) : fin K H1 Q t S := fun H' v e' s r => h H' v (e.trans e') s r
theorem finB_ext {K : PySem.W.Frag} {H H1 : Hp} {Q : Bool → Hp → Prop} {t : Bool} {S : Sta} (e : Ext H H1) (h : finB K H Q t S) : finB K H1 Q t S := fun H' e' s => h H' (e.trans e') s
theorem finA_ext {K : PySem.W.Frag} {H H1 : Hp} {Q : List V → Hp → Prop} {t : List T} {S : Sta} (e : Ext H H1) (h : finA K H Q t S) : finA K H1 Q t S := fun H' v e' s r => h H' v (e.trans e') s r
end Wp

set_option Elab.async false
set_option linter.all false
set_option maxRecDepth 100000
/-! expressions -/
namespace Wp
open PySem PySem.Spec PyProof.Rows L2
section
variable {B : Hp} {X : Cx} {a b c : Expr} {ta tb tc : WE} {pos : Pos}
/-! ### names, constants -/
def wVar (i : Nat) (σ : Sl) (S : Sta) (Q : T → Sta → Prop) : Prop := ∃ v, σ[i]? = some (some v) ∧ Q v S
def wC (t : T) (u0 : Sl) (S : Sta) (Q : T → Sta → Prop) : Prop := Q t S
theorem j_var (i : Nat) {x : Str} (hN : X.N[i]? = some x := by rfl) (hv : Vis X.env.scope x := by first | exact Or.inl rfl | exact Or.inr (Or.inl rfl) | exact Or.inr (Or.inr rfl)) (hd : (x == ("__debug__" : Str)) = false := by decide)
    (hcd : (x == ("__classdict__" : Str)) = false := by decide) : JE B X (.Name x pos) (wVar i) :=
  pe_imp (pe_var hN hv hd hcd) fun σ H Q ⟨st, S, Q0, _, r, s, ⟨v, e, q⟩, im⟩ => by
    obtain ⟨u, e1, e2⟩ := r.2 i v e
    exact ⟨u, e1, im v S q H u (Ext.refl H) s e2⟩
theorem j_const {e : Expr} {t : T} {v : V} (h : PE X e (tC v)) (r : ∀ H, Rep X.K H t v) : JE B X e (wC t) :=
  pe_imp h fun σ H Q ⟨st, S, Q0, _, _, s, q, im⟩ => im t S q H v (Ext.refl H) s (r H)
theorem j_int {i j} : JE B X (.Constant (.int i) j pos) (wC (.int i)) := j_const pe_int fun _ => .int i
theorem j_bl {i j} : JE B X (.Constant (.bool i) j pos) (wC (.bl i)) := j_const pe_bl fun _ => .bl i
theorem j_non {j} : JE B X (.Constant .none j pos) (wC .non) := j_const pe_non fun _ => .non
theorem j_str {i j} : JE B X (.Constant (.str i) j pos) (wC (.str i)) := j_const pe_str fun _ => .str i
theorem j_globI {x : Str} {i : Int} {t : Tok} (hg : Gl X x) (hm : X.mg x = some (.int i t)) (hd : (x == ("__debug__" : Str)) = false := by decide) : JE B X (.Name x pos) (wC (.int i)) :=
  j_const (pe_glob (v := V.int i) hg hm (show ∃ t', Value.int i t = Value.int i t' from ⟨t, rfl⟩) hd) fun _ => .int i
theorem j_globS {x : Str} {i : Str} {t : Tok} (hg : Gl X x) (hm : X.mg x = some (.str i t)) (hd : (x == ("__debug__" : Str)) = false := by decide) : JE B X (.Name x pos) (wC (.str i)) :=
  j_const (pe_glob (v := V.str i) hg hm (show ∃ t', Value.str i t = Value.str i t' from ⟨t, rfl⟩) hd) fun _ => .str i

/-! ### operations -/
abbrev R3 := T → T → Sta → (T → Sta → Prop) → Prop
def L3 (K : PySem.W.Frag) (r : R3) : R2 := fun x y H Q => ∃ a b S Q0, Rep K H a x ∧ Rep K H b y ∧ St K S H ∧ r a b S Q0 ∧ Im2 Q0 (fin K H Q)
def OpT (X : Cx) (f : Value → Value → Sem Value) (r : R3) : Prop := OpR X f (L3 X.K r)
def wOp (r : R3) (ta tb : WE) (σ : Sl) (S : Sta) (Q : T → Sta → Prop) : Prop := ta σ S fun x S1 => tb σ S1 fun y S2 => r x y S2 Q
theorem le_op {r : R3} {σ : L2.St} {H : Hp} {Q : VK} (h : LE B X (wOp r ta tb) σ H Q) : tOp (L3 X.K r) (LE B X ta) (LE B X tb) σ H Q := by
  obtain ⟨st, S, Q0, he, hr, hs, h, im⟩ := h
  refine ⟨st, S, _, he, hr, hs, h, fun x S1 h1 H1 v e1 s1 r1 => ?_⟩
  refine ⟨st, S1, _, he.trans e1, hr.mono e1, s1, h1, fun y S2 h2 H2 u e2 s2 r2 => ?_⟩
  exact ⟨x, y, S2, Q0, Rep.mono e2 _ _ r1, r2, s2, h2, fun z S3 q => fin_ext (e1.trans e2) (im z S3 q)⟩
theorem j_op {op : Operator} {r : R3} (ho : OpT X (binaryOp op) r) (ha : JE B X a ta) (hb : JE B X b tb) : JE B X (.BinOp a op b pos) (wOp r ta tb) := pe_imp (pe_op ho ha hb) fun _ _ _ h => le_op h
theorem j_cmp {op : CmpOp} {r : R3} (ho : OpT X (compareOp op) r) (ha : JE B X a ta) (hb : JE B X b tb) (hm : behindInMarks op b = false) : JE B X (.Compare a [op] [b] pos) (wOp r ta tb) := pe_imp (pe_cmpR ho ha hb hm) fun _ _ _ h => le_op h
/-- a value that is a bool, as a test -/
def wTest (t : WE) (σ : Sl) (S : Sta) (Q : Bool → Sta → Prop) : Prop := t σ S fun x S1 => match x with
  | .bl c => Q c S1
  | _ => False
theorem le_test {t : WE} {σ : L2.St} {H : Hp} {Q : Bool → Hp → Prop} (h : LT B X (wTest t) σ H Q) : LE B X t σ H fun x H' => ∃ k, x = V.bl k ∧ Q k H' := by
  obtain ⟨st, S, Q0, he, hr, hs, h, im⟩ := h
  refine ⟨st, S, _, he, hr, hs, h, fun x S1 h1 H1 v e1 s1 r1 => ?_⟩
  cases x with
  | bl c =>
    cases r1
    exact ⟨c, rfl, im c S1 h1 H1 e1 s1⟩
  | _ => exact h1.elim
theorem jt_val {e : Expr} {t : WE} (h : JE B X e t) (he : ∀ whole, isTrue e X.env whole = (do let v ← whole; standAt e.pos; holding [v] (truthy v)) := by intro _; rfl) : JT B X e (wTest t) :=
  pt_imp (pt_val h he) fun _ _ _ h => le_test h
theorem jt_cmp {op : CmpOp} {r : R3} (ho : OpT X (compareOp op) r) (ha : JE B X a ta) (hb : JE B X b tb) (hm : behindInMarks op b = false) : JT B X (.Compare a [op] [b] pos) (wTest (wOp r ta tb)) :=
  pt_imp (pt_cmpR ho ha hb hm) fun σ H Q h => le_op (le_test h)
/-! ### chains a < b < c -/
def wChain (r r' : R3) (ta tb tc : WE) (σ : Sl) (S : Sta) (Q : T → Sta → Prop) : Prop := ta σ S fun x S1 => tb σ S1 fun y S2 => r x y S2 fun z S3 => match z with
  | .bl k => wif k (tc σ S3 fun u S4 => r' y u S4 Q) (Q (.bl false) S3)
  | _ => False
theorem le_chain {r r' : R3} {σ : L2.St} {H : Hp} {Q : VK} (h : LE B X (wChain r r' ta tb tc) σ H Q) : tChain (L3 X.K r) (L3 X.K r') (LE B X ta) (LE B X tb) (LE B X tc) σ H Q := by
  obtain ⟨st, S, Q0, he, hr, hs, h, im⟩ := h
  refine ⟨st, S, _, he, hr, hs, h, fun x S1 h1 H1 v e1 s1 r1 => ?_⟩
  refine ⟨st, S1, _, he.trans e1, hr.mono e1, s1, h1, fun y S2 h2 H2 u e2 s2 r2 => ?_⟩
  refine ⟨x, y, S2, _, Rep.mono e2 _ _ r1, r2, s2, h2, fun z S3 q H3 w e3 s3 r3 => ?_⟩
  cases z with
  | bl k =>
    cases r3
    refine ⟨k, rfl, ?_⟩
    cases k with
    | true =>
      rw [if_pos rfl]
      have q : tc st S3 fun u S4 => r' y u S4 Q0 := (wt q)
      refine ⟨st, S3, _, (he.trans e1).trans (e2.trans e3), hr.mono (e1.trans (e2.trans e3)), s3, q, fun u' S4 h4 H4 v4 e4 s4 r4 => ?_⟩
      exact ⟨y, u', S4, Q0, Rep.mono (e3.trans e4) _ _ r2, r4, s4, h4, fun z S5 q5 => fin_ext (e1.trans (e2.trans (e3.trans e4))) (im z S5 q5)⟩
    | false =>
      rw [if_neg Bool.false_ne_true]
      have q : Q0 (.bl false) S3 := (wff q)
      exact im _ _ q H3 _ (e1.trans (e2.trans e3)) s3 (.bl false)
  | _ => exact q.elim
theorem j_chain {op op' : CmpOp} {r r' : R3} (ho : OpT X (compareOp op) r) (ho' : OpT X (compareOp op') r') (ha : JE B X a ta) (hb : JE B X b tb) (hc : JE B X c tc)
    (hm : lastMarks [op, op'] [b, c] = false := by with_unfolding_all rfl) : JE B X (.Compare a [op, op'] [b, c] pos) (wChain r r' ta tb tc) := pe_imp (pe_chain ho ho' ha hb hc hm) fun _ _ _ h => le_chain h
theorem jt_chain {op op' : CmpOp} {r r' : R3} (ho : OpT X (compareOp op) r) (ho' : OpT X (compareOp op') r') (ha : JE B X a ta) (hb : JE B X b tb) (hc : JE B X c tc)
    (hm : lastMarks [op, op'] [b, c] = false := by with_unfolding_all rfl) : JT B X (.Compare a [op, op'] [b, c] pos) (wTest (wChain r r' ta tb tc)) := pt_imp (pt_chain ho ho' ha hb hc hm) fun _ _ _ h => le_chain (le_test h)

/-! ### and, or, not, if -/
variable {rest : List Expr} {t u : WT}
def wAnd (t u : WT) (σ : Sl) (S : Sta) (Q : Bool → Sta → Prop) : Prop := t σ S fun c S1 => wif c (u σ S1 Q) (Q false S1)
def wOr (t u : WT) (σ : Sl) (S : Sta) (Q : Bool → Sta → Prop) : Prop := t σ S fun c S1 => wif c (Q true S1) (u σ S1 Q)
def wNot (t : WT) (σ : Sl) (S : Sta) (Q : Bool → Sta → Prop) : Prop := t σ S fun c S1 => Q (!c) S1
theorem jw_and1 (ha : JT B X a t) : JW B X (.BoolOp .And [a] pos) t := pw_and1 ha
theorem jw_or1 (ha : JT B X a t) : JW B X (.BoolOp .Or [a] pos) t := pw_or1 ha
theorem jw_and (ha : JT B X a t) (hb : JW B X (.BoolOp .And (b :: rest) pos) u) : JW B X (.BoolOp .And (a :: b :: rest) pos) (wAnd t u) :=
  pw_imp (pw_and ha hb) fun σ H Q ⟨st, S, Q0, he, hr, hs, h, im⟩ => by
    refine ⟨st, S, _, he, hr, hs, h, fun k S1 h1 H1 e1 s1 => ?_⟩
    cases k with
    | true =>
      rw [if_pos rfl]
      exact ⟨st, S1, Q0, he.trans e1, hr.mono e1, s1, (wt h1), fun z S3 q => finB_ext e1 (im z S3 q)⟩
    | false =>
      rw [if_neg Bool.false_ne_true]
      exact im _ _ (wff h1) H1 e1 s1
theorem jw_or (ha : JT B X a t) (hb : JW B X (.BoolOp .Or (b :: rest) pos) u) : JW B X (.BoolOp .Or (a :: b :: rest) pos) (wOr t u) :=
  pw_imp (pw_or ha hb) fun σ H Q ⟨st, S, Q0, he, hr, hs, h, im⟩ => by
    refine ⟨st, S, _, he, hr, hs, h, fun k S1 h1 H1 e1 s1 => ?_⟩
    cases k with
    | true =>
      rw [if_pos rfl]
      exact im _ _ (wt h1) H1 e1 s1
    | false =>
      rw [if_neg Bool.false_ne_true]
      exact ⟨st, S1, Q0, he.trans e1, hr.mono e1, s1, (wff h1), fun z S3 q => finB_ext e1 (im z S3 q)⟩
theorem jt_not (ha : JT B X a t) : JT B X (.UnaryOp .Not a pos) (wNot t) :=
  pt_imp (pt_not ha) fun σ H Q ⟨st, S, Q0, he, hr, hs, h, im⟩ => ⟨st, S, _, he, hr, hs, h, fun k S1 h1 H1 e1 s1 => im _ _ h1 H1 e1 s1⟩
/-- .. as values -/
def wAndV (ta tb : WE) (σ : Sl) (S : Sta) (Q : T → Sta → Prop) : Prop := ta σ S fun x S1 => match x with
  | .bl k => wif k (tb σ S1 Q) (Q (.bl false) S1)
  | _ => False
def wOrV (ta tb : WE) (σ : Sl) (S : Sta) (Q : T → Sta → Prop) : Prop := ta σ S fun x S1 => match x with
  | .bl k => wif k (Q (.bl true) S1) (tb σ S1 Q)
  | _ => False
def wNotV (t : WE) (σ : Sl) (S : Sta) (Q : T → Sta → Prop) : Prop := t σ S fun x S1 => match x with
  | .bl c => Q (.bl (!c)) S1
  | _ => False
theorem j_one {op} {t : WE} (h : JE B X a t) : JE B X (.BoolOp op [a] pos) t := pe_one h
theorem j_and (ha : JE B X a ta) (hb : JE B X (.BoolOp .And (b :: rest) pos) tb) : JE B X (.BoolOp .And (a :: b :: rest) pos) (wAndV ta tb) :=
  pe_imp (pe_and ha hb) fun σ H Q ⟨st, S, Q0, he, hr, hs, h, im⟩ => by
    refine ⟨st, S, _, he, hr, hs, h, fun x S1 h1 H1 v e1 s1 r1 => ?_⟩
    cases x with
    | bl k =>
      cases r1
      refine ⟨k, rfl, ?_⟩
      cases k with
      | true =>
        rw [if_pos rfl]
        exact ⟨st, S1, Q0, he.trans e1, hr.mono e1, s1, (wt h1), fun z S3 q => fin_ext e1 (im z S3 q)⟩
      | false =>
        rw [if_neg Bool.false_ne_true]
        exact im _ _ (wff h1) H1 _ e1 s1 (.bl false)
    | _ => exact h1.elim
theorem j_or (ha : JE B X a ta) (hb : JE B X (.BoolOp .Or (b :: rest) pos) tb) : JE B X (.BoolOp .Or (a :: b :: rest) pos) (wOrV ta tb) :=
  pe_imp (pe_or ha hb) fun σ H Q ⟨st, S, Q0, he, hr, hs, h, im⟩ => by
    refine ⟨st, S, _, he, hr, hs, h, fun x S1 h1 H1 v e1 s1 r1 => ?_⟩
    cases x with
    | bl k =>
      cases r1
      refine ⟨k, rfl, ?_⟩
      cases k with
      | true =>
        rw [if_pos rfl]
        exact im _ _ (wt h1) H1 _ e1 s1 (.bl true)
      | false =>
        rw [if_neg Bool.false_ne_true]
        exact ⟨st, S1, Q0, he.trans e1, hr.mono e1, s1, (wff h1), fun z S3 q => fin_ext e1 (im z S3 q)⟩
    | _ => exact h1.elim
theorem j_not (ha : JE B X a ta) : JE B X (.UnaryOp .Not a pos) (wNotV ta) :=
  pe_imp (pe_not ha) fun σ H Q ⟨st, S, Q0, he, hr, hs, h, im⟩ => by
    refine ⟨st, S, _, he, hr, hs, h, fun x S1 h1 H1 v e1 s1 r1 => ?_⟩
    cases x with
    | bl k =>
      cases r1
      exact ⟨k, rfl, im _ _ h1 H1 _ e1 s1 (.bl _)⟩
    | _ => exact h1.elim
def wIf (t : WT) (ta tb : WE) (σ : Sl) (S : Sta) (Q : T → Sta → Prop) : Prop := t σ S fun c S1 => wif c (ta σ S1 Q) (tb σ S1 Q)
theorem j_ifExp (hc : JT B X c t) (ha : JE B X a ta) (hb : JE B X b tb) : JE B X (.IfExp c a b pos) (wIf t ta tb) :=
  pe_imp (pe_ifExp hc ha hb) fun σ H Q ⟨st, S, Q0, he, hr, hs, h, im⟩ => by
    refine ⟨st, S, _, he, hr, hs, h, fun k S1 h1 H1 e1 s1 => ?_⟩
    cases k with
    | true =>
      rw [if_pos rfl]
      exact ⟨st, S1, Q0, he.trans e1, hr.mono e1, s1, (wt h1), fun z S3 q => fin_ext e1 (im z S3 q)⟩
    | false =>
      rw [if_neg Bool.false_ne_true]
      exact ⟨st, S1, Q0, he.trans e1, hr.mono e1, s1, (wff h1), fun z S3 q => fin_ext e1 (im z S3 q)⟩

/-! ### argument lists, displays -/
def wNil (u0 : Sl) (S : Sta) (Q : List T → Sta → Prop) : Prop := Q [] S
def wCons (ta : WE) (tr : WA) (σ : Sl) (S : Sta) (Q : List T → Sta → Prop) : Prop := ta σ S fun x S1 => tr σ S1 fun xs S2 => Q (x :: xs) S2
variable {es : List Expr} {tr : WA}
theorem ja_nil : JA B X [] wNil := pa_imp pa_nil fun σ H Q ⟨st, S, Q0, he, hr, hs, h, im⟩ => im _ _ h H [] (Ext.refl H) hs .nil
theorem ja_cons (ha : JE B X a ta) (hr : JA B X es tr) (hs : starEach (a :: es) X.env = (false, eval a X.env) :: starEach es X.env := by rfl) : JA B X (a :: es) (wCons ta tr) :=
  pa_imp (pa_cons ha hr hs) fun σ H Q ⟨st, S, Q0, he, hr, hs, h, im⟩ => by
    refine ⟨st, S, _, he, hr, hs, h, fun x S1 h1 H1 v e1 s1 r1 => ?_⟩
    refine ⟨st, S1, _, he.trans e1, hr.mono e1, s1, h1, fun xs S2 h2 H2 vs e2 s2 r2 => ?_⟩
    exact im _ _ h2 H2 _ (e1.trans e2) s2 (.cons (Rep.mono e2 _ _ r1) r2)
def wTup (t : WA) (σ : Sl) (S : Sta) (Q : T → Sta → Prop) : Prop := t σ S fun xs S1 => xs.length ≤ sizeLine ∧ Q (.tup xs) S1
def wLst (t : WA) (σ : Sl) (S : Sta) (Q : T → Sta → Prop) : Prop := t σ S fun xs S1 => xs.length ≤ sizeLine ∧ ∀ p, S1 p = none → Q (.ref p) (upS S1 p (.lst xs))
theorem j_tup {x1} (h : JA B X es tr) : JE B X (.Tuple es x1 pos) (wTup tr) :=
  pe_imp (pe_tup h) fun σ H Q ⟨st, S, Q0, he, hr, hs, h, im⟩ => by
    refine ⟨st, S, _, he, hr, hs, h, fun xs S1 h1 H1 vs e1 s1 r1 => ?_⟩
    refine ⟨by rw [← r1.length]; exact h1.1, fun p hp => ?_⟩
    exact im _ _ h1.2 _ _ (e1.trans (Ext.new hp)) (s1.new hp _) (.tup upd_same (Reps.mono (Ext.new hp) _ _ r1))
theorem j_lst (h : JA B X es tr) : JE B X (.List es pos) (wLst tr) :=
  pe_imp (pe_lst h) fun σ H Q ⟨st, S, Q0, he, hr, hs, h, im⟩ => by
    refine ⟨st, S, _, he, hr, hs, h, fun xs S1 h1 H1 vs e1 s1 r1 => ?_⟩
    refine ⟨by rw [← r1.length]; exact h1.1, fun p hp => ?_⟩
    obtain ⟨e2, s2⟩ := s1.newL hp r1
    exact im _ _ (h1.2 p (s1.free hp)) _ _ (e1.trans e2) s2 (.ref p)
end
end Wp

set_option Elab.async false
set_option linter.all false
set_option maxRecDepth 100000
/-! operations on values -/
namespace Wp
open PySem PySem.Spec PyProof.Rows L2
section
variable {B : Hp} {X : Cx}
/-! ### arithmetic -/
def rInt (C : Int → Int → Prop) (g : Int → Int → T) (x : T) (y : T) (S : Sta) (Q : T → Sta → Prop) : Prop := match x, y with
  | .int i, .int j => C i j ∧ Q (g i j) S
  | _, _ => False
theorem opT_I {f : Value → Value → Sem Value} {C : Int → Int → Prop} {gV : Int → Int → V} {gT : Int → Int → T} (h : OpR X f (rI C gV)) (hr : ∀ H i j, Rep X.K H (gT i j) (gV i j)) : OpT X f (rInt C gT) := by
  intro pins s σ H x y v u Q I rx ry ⟨a, b, S, Q0, ra, rb, hs, q, im⟩
  cases a with
  | int i =>
    cases b with
    | int j =>
      cases ra
      cases rb
      exact h pins s σ H _ _ v u Q I rx ry ⟨i, j, rfl, rfl, q.1, im _ _ q.2 H _ (Ext.refl H) hs (hr H i j)⟩
    | _ => exact q.elim
  | _ => exact q.elim
theorem opT_I0 {f : Value → Value → Sem Value} {gV : Int → Int → V} {gT : Int → Int → T} (h : OpR X f (rI0 gV)) (hr : ∀ H i j, Rep X.K H (gT i j) (gV i j)) : OpT X f (rInt (fun _ _ => True) gT) := by
  intro pins s σ H x y v u Q I rx ry ⟨a, b, S, Q0, ra, rb, hs, q, im⟩
  cases a with
  | int i =>
    cases b with
    | int j =>
      cases ra
      cases rb
      exact h pins s σ H _ _ v u Q I rx ry ⟨i, j, rfl, rfl, im _ _ q.2 H _ (Ext.refl H) hs (hr H i j)⟩
    | _ => exact q.elim
  | _ => exact q.elim
def rSub : R3 := rInt (fun _ _ => True) fun i j => .int (i - j)
def rMul : R3 := rInt CMul fun i j => .int (i * j)
def rMod : R3 := rInt (fun _ j => 0 < j) fun i j => .int (i % j)
def rFdiv : R3 := rInt (fun _ j => 0 < j ∧ j < 2 ^ 62) fun i j => .int (i / j)
def rPow : R3 := rInt CPow fun i j => .int (i ^ j.toNat)
theorem o_sub : OpT X (binaryOp .Sub) rSub := opT_I0 op_sub fun _ _ _ => .int _
theorem o_mul : OpT X (binaryOp .Mult) rMul := opT_I op_mul fun _ _ _ => .int _
theorem o_mod : OpT X (binaryOp .Mod) rMod := opT_I op_mod fun _ _ _ => .int _
theorem o_pow : OpT X (binaryOp .Pow) rPow := opT_I op_pow fun _ _ _ => .int _
theorem o_fdiv : OpT X (binaryOp .FloorDiv) rFdiv := by
  intro pins s σ H x y v u Q I rx ry ⟨a, b, S, Q0, ra, rb, hs, q, im⟩
  refine opT_I (gT := fun i j => .int (i / j)) op_fdivW (fun _ _ _ => .int _) pins s σ H x y v u Q I rx ry ⟨a, b, S, Q0, ra, rb, hs, ?_, im⟩
  cases a with
  | int i =>
    cases b with
    | int j => exact ⟨wide_div (b := 62) q.1.1 (by have h1 := q.1.1; have h2 := q.1.2; omega) (by decide) (by decide), q.2⟩
    | _ => exact q.elim
  | _ => exact q.elim
/-- + : numbers, tuples, texts, lists -/
def rAdd (x : T) (y : T) (S : Sta) (Q : T → Sta → Prop) : Prop := match x, y with
  | .int i, .int j => Q (.int (i + j)) S
  | .tup a, .tup b => a.length + b.length ≤ sizeLine ∧ Q (.tup (a ++ b)) S
  | .str a, .str b => a.length + b.length ≤ sizeLine ∧ Q (.str (a ++ b)) S
  | .ref p, .ref q => ∃ xs, S p = some (.lst xs) ∧ ∃ ys, S q = some (.lst ys) ∧ xs.length + ys.length ≤ sizeLine ∧ ∀ r, S r = none → Q (.ref r) (upS S r (.lst (xs ++ ys)))
  | _, _ => False
theorem o_add : OpT X (binaryOp .Add) rAdd := by
  intro pins s σ H x y v u Q I rx ry ⟨a, b, S, Q0, ra, rb, hs, q, im⟩
  cases a with
  | int i =>
    cases b with
    | int j =>
      cases ra
      cases rb
      exact op_add pins s σ H _ _ v u Q I rx ry ⟨i, j, rfl, rfl, im _ _ q H _ (Ext.refl H) hs (.int _)⟩
    | _ => exact q.elim
  | str i =>
    cases b with
    | str j =>
      cases ra
      cases rb
      exact op_add_str pins s σ H _ _ v u Q I rx ry ⟨i, j, rfl, rfl, q.1, im _ _ q.2 H _ (Ext.refl H) hs (.str _)⟩
    | _ => exact q.elim
  | tup ts =>
    cases b with
    | tup us =>
      cases ra with
      | @tup p xs _ h1 h2 =>
        cases rb with
        | @tup p' ys _ g1 g2 =>
          have rr := Reps.append h2 g2
          refine op_catA pins s σ H _ _ v u Q I rx ry ⟨p, p', xs, ys, rfl, rfl, sqT_of h1, sqT_of g1, by rw [← h2.length, ← g2.length]; exact q.1, fun e => ?_, fun e e' => ?_, fun e e' r hr => ?_⟩
          · subst e
            cases h2
            exact im _ _ q.2 H _ (Ext.refl H) hs (.tup g1 g2)
          · subst e'
            cases g2
            have q2 := q.2
            rw [List.append_nil] at q2
            exact im _ _ q2 H _ (Ext.refl H) hs (.tup h1 h2)
          · exact im _ _ q.2 _ _ (Ext.new hr) (hs.new hr _) (.tup upd_same (Reps.mono (Ext.new hr) _ _ rr))
    | _ => exact q.elim
  | ref p =>
    cases b with
    | ref p' =>
      cases ra
      cases rb
      obtain ⟨ts, e1, us, e2, hz, q⟩ := q
      obtain ⟨xs, h1, r1⟩ := hs p _ e1
      obtain ⟨ys, h2, r2⟩ := hs p' _ e2
      refine op_cat pins s σ H _ _ v u Q I rx ry ⟨p, p', xs, ys, rfl, rfl, h1, h2, by rw [← r1.length, ← r2.length]; exact hz, fun r hr => ?_⟩
      obtain ⟨e3, s3⟩ := hs.newL hr (Reps.append r1 r2)
      exact im _ _ (q r (hs.free hr)) _ _ e3 s3 (.ref r)
    | _ => exact q.elim
  | _ => exact q.elim
/-! ### order -/
def rCmp (p : Int → Int → Bool) (ps : List Nat → List Nat → Bool) (x : T) (y : T) (S : Sta) (Q : T → Sta → Prop) : Prop := match x, y with
  | .int i, .int j => Q (.bl (p i j)) S
  | .str a, .str b => Q (.bl (ps a.cps.toList b.cps.toList)) S
  | _, _ => False
def rLt : R3 := rCmp (fun i j => decide (i < j)) fun a b => decide (a < b)
def rLe : R3 := rCmp (fun i j => decide (i ≤ j)) fun a b => !decide (b < a)
def rGtI : R3 := rInt (fun _ _ => True) fun i j => .bl (decide (j < i))
def rGeI : R3 := rInt (fun _ _ => True) fun i j => .bl (decide (j ≤ i))
theorem o_lt : OpT X (compareOp .Lt) rLt := by
  intro pins s σ H x y v u Q I rx ry ⟨a, b, S, Q0, ra, rb, hs, q, im⟩
  cases a with
  | int i =>
    cases b with
    | int j =>
      cases ra
      cases rb
      exact op_lt pins s σ H _ _ v u Q I rx ry ⟨i, j, rfl, rfl, im _ _ q H _ (Ext.refl H) hs (.bl _)⟩
    | _ => exact q.elim
  | str i =>
    cases b with
    | str j =>
      cases ra
      cases rb
      exact op_lt_str pins s σ H _ _ v u Q I rx ry ⟨i, j, rfl, rfl, im _ _ q H _ (Ext.refl H) hs (.bl _)⟩
    | _ => exact q.elim
  | _ => exact q.elim
theorem o_le : OpT X (compareOp .LtE) rLe := by
  intro pins s σ H x y v u Q I rx ry ⟨a, b, S, Q0, ra, rb, hs, q, im⟩
  cases a with
  | int i =>
    cases b with
    | int j =>
      cases ra
      cases rb
      exact op_le pins s σ H _ _ v u Q I rx ry ⟨i, j, rfl, rfl, im _ _ q H _ (Ext.refl H) hs (.bl _)⟩
    | _ => exact q.elim
  | str i =>
    cases b with
    | str j =>
      cases ra
      cases rb
      exact op_le_str pins s σ H _ _ v u Q I rx ry ⟨i, j, rfl, rfl, im _ _ q H _ (Ext.refl H) hs (.bl _)⟩
    | _ => exact q.elim
  | _ => exact q.elim
theorem o_gt : OpT X (compareOp .Gt) rGtI := opT_I0 op_gt fun _ _ _ => .bl _
theorem o_ge : OpT X (compareOp .GtE) rGeI := opT_I0 op_ge fun _ _ _ => .bl _
/-! ### is None -/
def isNon : T → Bool
  | .non => true
  | _ => false
def rIsN (neg : Bool) (x : T) (y : T) (S : Sta) (Q : T → Sta → Prop) : Prop := match y with
  | .non => Q (.bl (neg != isNon x)) S
  | _ => False
theorem isNon_rep {K : PySem.W.Frag} {H : Hp} {t : T} {v : V} (r : Rep K H t v) : decide (v = .non) = isNon t := by
  cases r <;> rfl
theorem o_isN : OpT X (compareOp .Is) (rIsN false) := by
  intro pins s σ H x y v u Q I rx ry ⟨a, b, S, Q0, ra, rb, hs, q, im⟩
  cases b with
  | non =>
    cases rb
    refine op_isN pins s σ H _ _ v u Q I rx ry ⟨rfl, ?_⟩
    rw [isNon_rep ra]
    have q : Q0 (.bl (false != isNon a)) S := q
    rw [Bool.false_bne] at q
    exact im _ _ q H _ (Ext.refl H) hs (.bl _)
  | _ => exact q.elim
theorem o_notN : OpT X (compareOp .IsNot) (rIsN true) := by
  intro pins s σ H x y v u Q I rx ry ⟨a, b, S, Q0, ra, rb, hs, q, im⟩
  cases b with
  | non =>
    cases rb
    refine op_notN pins s σ H _ _ v u Q I rx ry ⟨rfl, ?_⟩
    rw [isNon_rep ra]
    have q : Q0 (.bl (true != isNon a)) S := q
    rw [Bool.true_bne] at q
    exact im _ _ q H _ (Ext.refl H) hs (.bl _)
  | _ => exact q.elim
/-! ### == -/
mutual
def toD : T → Option PyData
  | .non => some .none
  | .bl b => some (.bool b)
  | .int i => some (.int i)
  | .str s => some (.str s)
  | .tup ts => (toDs ts).map .tuple
  | .fl ts => (toDs ts).map .list
  | .pt ts => (toDs ts).map .tuple
  | .ref _ => none
def toDs : List T → Option (List PyData)
  | [] => some []
  | t :: ts => match toD t, toDs ts with
    | some d, some ds => some (d :: ds)
    | _, _ => none
end
def dd (S : Sta) : T → Option PyData
  | .ref p => match S p with
    | some (.lst ts) => (toDs ts).map .list
    | _ => none
  | t => toD t
mutual
theorem Rep.dp {K : PySem.W.Frag} {H : Hp} : ∀ (t : T) (v : V) (d : PyData), Rep K H t v → toD t = some d → Dp K H v d
  | .non, _, _, r, e => by cases r; simp only [toD, Option.some.injEq] at e; subst e; exact .non
  | .bl b, _, _, r, e => by cases r; simp only [toD, Option.some.injEq] at e; subst e; exact .bl b
  | .int b, _, _, r, e => by cases r; simp only [toD, Option.some.injEq] at e; subst e; exact .int b
  | .str b, _, _, r, e => by cases r; simp only [toD, Option.some.injEq] at e; subst e; exact .str b
  | .ref a, _, _, r, e => by simp only [toD] at e; cases e
  | .tup ts, _, d, r, e => by
    cases r with
    | tup h1 h2 =>
      simp only [toD, Option.map_eq_some_iff] at e
      obtain ⟨ds, e1, e2⟩ := e
      subst e2
      exact .tup (sqT_of h1) (Reps.dp ts _ ds h2 e1)
  | .fl ts, _, d, r, e => by
    cases r with
    | fl h1 h2 =>
      simp only [toD, Option.map_eq_some_iff] at e
      obtain ⟨ds, e1, e2⟩ := e
      subst e2
      exact .lst h1.sq (Reps.dp ts _ ds h2 e1)
  | .pt ts, _, d, r, e => by
    cases r with
    | pt h0 h1 h2 =>
      simp only [toD, Option.map_eq_some_iff] at e
      obtain ⟨ds, e1, e2⟩ := e
      subst e2
      exact .tup (.inl (.inr ⟨_, h1⟩)) (Reps.dp ts _ ds h2 e1)
theorem Reps.dp {K : PySem.W.Frag} {H : Hp} : ∀ (ts : List T) (vs : List V) (ds : List PyData), Reps K H ts vs → toDs ts = some ds → DpAll K H vs ds
  | [], _, _, r, e => by cases r; simp only [toDs, Option.some.injEq] at e; subst e; exact .nil
  | t :: ts, _, ds, r, e => by
    cases r with
    | cons h1 h2 =>
      simp only [toDs] at e
      cases e1 : toD t with
      | none => rw [e1] at e; cases e
      | some d =>
        cases e2 : toDs ts with
        | none => rw [e1, e2] at e; cases e
        | some es =>
          rw [e1, e2] at e
          cases e
          exact .cons (Rep.dp t _ d h1 e1) (Reps.dp ts _ es h2 e2)
end
theorem dd_dp {K : PySem.W.Frag} {H : Hp} {S : Sta} {t : T} {v : V} {d : PyData} (hs : St K S H) (r : Rep K H t v) (e : dd S t = some d) : Dp K H v d := by
  cases t with
  | ref p =>
    cases r
    simp only [dd] at e
    cases q : S p with
    | none => rw [q] at e; cases e
    | some o =>
      rw [q] at e
      cases o with
      | ins C fs => cases e
      | dct kvs => cases e
      | dtt kvs => cases e
      | lst ts =>
        simp only [Option.map_eq_some_iff] at e
        obtain ⟨ds, e1, e2⟩ := e
        subst e2
        obtain ⟨xs, h1, h2⟩ := hs p _ q
        exact .lst (.inl (.inl h1)) (Reps.dp ts _ ds h2 e1)
  | non => exact Rep.dp _ _ _ r e
  | bl b => exact Rep.dp _ _ _ r e
  | int b => exact Rep.dp _ _ _ r e
  | str b => exact Rep.dp _ _ _ r e
  | tup b => exact Rep.dp _ _ _ r e
  | fl b => exact Rep.dp _ _ _ r e
  | pt b => exact Rep.dp _ _ _ r e
def rEq (neg : Bool) (x : T) (y : T) (S : Sta) (Q : T → Sta → Prop) : Prop := ∃ d, dd S x = some d ∧ ∃ e, dd S y = some e ∧ SeqAt.shaped d = true ∧ SeqAt.shaped e = true ∧ Q (.bl (neg != PyData.eqv d e)) S
theorem o_eq (hu : X.A.units + 64 < cLine) : OpT X (compareOp .Eq) (rEq false) := by
  intro pins s σ H x y v u Q I rx ry ⟨a, b, S, Q0, ra, rb, hs, ⟨d, h1, e, h2, h3, h4, q⟩, im⟩
  refine op_eqD hu pins s σ H _ _ v u Q I rx ry ⟨d, e, dd_dp hs ra h1, dd_dp hs rb h2, h3, h4, ?_⟩
  rw [Bool.false_bne] at q
  exact im _ _ q H _ (Ext.refl H) hs (.bl _)
theorem o_ne (hu : X.A.units + 64 < cLine) : OpT X (compareOp .NotEq) (rEq true) := by
  intro pins s σ H x y v u Q I rx ry ⟨a, b, S, Q0, ra, rb, hs, ⟨d, h1, e, h2, h3, h4, q⟩, im⟩
  refine op_neD hu pins s σ H _ _ v u Q I rx ry ⟨d, e, dd_dp hs ra h1, dd_dp hs rb h2, h3, h4, ?_⟩
  rw [Bool.true_bne] at q
  exact im _ _ q H _ (Ext.refl H) hs (.bl _)
/-! ### x in a list, a tuple: flat values -/
def flatT : T → Bool
  | .non => true
  | .bl _ => true
  | .int _ => true
  | .str _ => true
  | _ => false
def eqF : T → T → Bool
  | .non, .non => true
  | .bl a, .bl b => a == b
  | .bl a, .int b => (if a then 1 else 0) == b
  | .int a, .bl b => a == (if b then 1 else 0)
  | .int a, .int b => a == b
  | .str a, .str b => a == b
  | _, _ => false
def inF (x : T) (ts : List T) : Bool := ts.any fun y => eqF y x
theorem flat_rep {K : PySem.W.Frag} {H : Hp} {t : T} {v : V} (r : Rep K H t v) (f : flatT t = true) : flatV v = true := by
  cases r <;> first | rfl | cases f
theorem eqF_rep {K : PySem.W.Frag} {H : Hp} {t u : T} {v w : V} (r : Rep K H t v) (q : Rep K H u w) (f : flatT t = true) (g : flatT u = true) : eqV v w = eqF t u := by
  cases r <;> first | (cases f; done) | (cases q <;> first | (cases g; done) | rfl)
theorem flats_rep {K : PySem.W.Frag} {H : Hp} : ∀ {ts : List T} {vs : List V}, Reps K H ts vs → ts.all flatT = true → vs.all flatV = true
  | [], _, h, _ => by cases h; rfl
  | t :: ts, _, h, f => by
    cases h with
    | cons h1 h2 =>
      rw [List.all_cons, Bool.and_eq_true] at f ⊢
      exact ⟨flat_rep h1 f.1, flats_rep h2 f.2⟩
theorem inF_rep {K : PySem.W.Frag} {H : Hp} {x : T} {w : V} (r : Rep K H x w) (g : flatT x = true) : ∀ {ts : List T} {vs : List V}, Reps K H ts vs → ts.all flatT = true → inV w vs = inF x ts
  | [], _, h, _ => by cases h; rfl
  | t :: ts, _, h, f => by
    cases h with
    | cons h1 h2 =>
      rw [List.all_cons, Bool.and_eq_true] at f
      have ih := inF_rep r g h2 f.2
      unfold inV inF at ih ⊢
      rw [List.any_cons, List.any_cons, ih, eqF_rep h1 r f.1 g]
/-- the items of a list or a tuple, as they stand -/
def itemsT (S : Sta) : T → Option (List T)
  | .tup ts => some ts
  | .fl ts => some ts
  | .ref p => match S p with
    | some (.lst ts) => some ts
    | _ => none
  | _ => none
theorem items_sq {K : PySem.W.Frag} {H : Hp} {S : Sta} {t : T} {v : V} {ts : List T} (hs : St K S H) (r : Rep K H t v) (e : itemsT S t = some ts) : ∃ p xs, v = .ref p ∧ (SqL K H p xs ∨ H p = some (.tup xs)) ∧ Reps K H ts xs := by
  cases r with
  | tup h1 h2 => cases e; exact ⟨_, _, rfl, .inr h1, h2⟩
  | fl h1 h2 => cases e; exact ⟨_, _, rfl, .inl h1.sq, h2⟩
  | ref a =>
    simp only [itemsT] at e
    cases q : S a with
    | none => rw [q] at e; cases e
    | some o =>
      rw [q] at e
      cases o with
      | ins C fs => cases e
      | dct kvs => cases e
      | dtt kvs => cases e
      | lst us =>
        cases e
        obtain ⟨xs, h1, h2⟩ := hs a _ q
        exact ⟨a, xs, rfl, .inl (.inl (.inl h1)), h2⟩
  | _ => cases e
def rIn (neg : Bool) (x : T) (y : T) (S : Sta) (Q : T → Sta → Prop) : Prop := ∃ ts, itemsT S y = some ts ∧ flatT x = true ∧ ts.all flatT = true ∧ Q (.bl (neg != inF x ts)) S
theorem o_in : OpT X (compareOp .In) (rIn false) := by
  intro pins s σ H x y v u Q I rx ry ⟨a, b, S, Q0, ra, rb, hs, ⟨ts, e, f, g, q⟩, im⟩
  obtain ⟨p, xs, rfl, h, r⟩ := items_sq hs rb e
  refine op_in_seq pins s σ H _ _ v u Q I rx ry ⟨p, xs, rfl, h.imp id sqT_of, flat_rep ra f, flats_rep r g, ?_⟩
  rw [if_neg Bool.false_ne_true, inF_rep ra f r g]
  rw [Bool.false_bne] at q
  exact im _ _ q H _ (Ext.refl H) hs (.bl _)
theorem o_notIn : OpT X (compareOp .NotIn) (rIn true) := by
  intro pins s σ H x y v u Q I rx ry ⟨a, b, S, Q0, ra, rb, hs, ⟨ts, e, f, g, q⟩, im⟩
  obtain ⟨p, xs, rfl, h, r⟩ := items_sq hs rb e
  refine op_notIn_seq pins s σ H _ _ v u Q I rx ry ⟨p, xs, rfl, h.imp id sqT_of, flat_rep ra f, flats_rep r g, ?_⟩
  rw [if_pos rfl, inF_rep ra f r g]
  rw [Bool.true_bne] at q
  exact im _ _ q H _ (Ext.refl H) hs (.bl _)
end
end Wp

set_option Elab.async false
set_option linter.all false
set_option maxRecDepth 100000
/-! subscripts, slices, calls -/
namespace Wp
open PySem PySem.Spec PyProof.Rows L2
section
variable {B : Hp} {X : Cx} {a b : Expr} {ta tb : WE} {pos : Pos}
/-! ### o[i] -/
def rIx (x : T) (y : T) (S : Sta) (Q : T → Sta → Prop) : Prop := match y with
  | .int i => match x with
    | .str s => s.length ≤ sizeLine ∧ ∃ c, atI s.cps.toList i = some c ∧ Q (.str ⟨#[c]⟩) S
    | x => ∃ ts, itemsT S x = some ts ∧ ∃ t, atI ts i = some t ∧ Q t S
  | _ => False
theorem ixN_lt {n : Nat} {i : Int} {j : Nat} (h : ixN n i = some j) : j < n := (ixN_seq h).2.1
theorem atI_rep {K : PySem.W.Frag} {H : Hp} {ts : List T} {vs : List V} {i : Int} {t : T} (r : Reps K H ts vs) (h : atI ts i = some t) : ∃ v, atI vs i = some v ∧ Rep K H t v := by
  unfold atI at h ⊢
  rw [← r.length]
  cases e : ixN ts.length i with
  | none => rw [e] at h; cases h
  | some j =>
    rw [e] at h
    exact r.get h
theorem ix_T : IxR X (L3 X.K rIx) := by
  intro value slice pins s σ H x y v u Q I rx ry ⟨a, b, S, Q0, ra, rb, hs, q, im⟩ hsub
  cases b with
  | int i =>
    have go : ∀ ts t, itemsT S a = some ts → atI ts i = some t → Q0 t S → wpAny (model X.prog X.w) X.A (subscriptTail value slice v u) (EP X pins σ Q) X.xe s := fun ts t e1 e2 q => by
      obtain ⟨p, xs, rfl, h, r⟩ := items_sq hs ra e1
      obtain ⟨w, e3, rw'⟩ := atI_rep r e2
      cases rb
      have qq := im _ _ q H _ (Ext.refl H) hs rw'
      rcases h with h | h
      · exact ix_list value slice pins s σ H _ _ v u Q I rx ry ⟨p, xs, i, w, rfl, rfl, h, e3, qq⟩ hsub
      · exact ix_tup value slice pins s σ H _ _ v u Q I rx ry ⟨p, xs, i, w, rfl, rfl, sqT_of h, e3, qq⟩ hsub
    cases a with
    | str z =>
      obtain ⟨hz, c, e, q⟩ := q
      cases ra
      cases rb
      exact ix_str value slice pins s σ H _ _ v u Q I rx ry ⟨z, i, c, rfl, rfl, hz, e, im _ _ q H _ (Ext.refl H) hs (.str _)⟩ hsub
    | non => obtain ⟨ts, e1, t, e2, q⟩ := q; exact go ts t e1 e2 q
    | bl _ => obtain ⟨ts, e1, t, e2, q⟩ := q; exact go ts t e1 e2 q
    | pt _ => obtain ⟨ts, e1, t, e2, q⟩ := q; exact go ts t e1 e2 q
    | int _ => obtain ⟨ts, e1, t, e2, q⟩ := q; exact go ts t e1 e2 q
    | tup _ => obtain ⟨ts, e1, t, e2, q⟩ := q; exact go ts t e1 e2 q
    | fl _ => obtain ⟨ts, e1, t, e2, q⟩ := q; exact go ts t e1 e2 q
    | ref _ => obtain ⟨ts, e1, t, e2, q⟩ := q; exact go ts t e1 e2 q
  | _ => exact q.elim
theorem j_ix (ha : JE B X a ta) (hb : JE B X b tb) (hs : PlainIx b) : JE B X (.Subscript a b pos) (wOp rIx ta tb) := pe_imp (pe_ix ix_T ha hb hs) fun _ _ _ h => le_op h
/-! ### o[i:j] -/
abbrev WO := Sl → Sta → (Option Int → Sta → Prop) → Prop
def finO (K : PySem.W.Frag) (H : Hp) (Q : Option Int → Hp → Prop) : Option Int → Sta → Prop := fun b S => ∀ H', Ext H H' → St K S H' → Q b H'
def LO (B : Hp) (X : Cx) (t : WO) : TO := fun σ H Q => ∃ st S Q0, Ext B H ∧ SlR X.K H st σ ∧ St X.K S H ∧ t st S Q0 ∧ Im2 Q0 (finO X.K H Q)
def JO (B : Hp) (X : Cx) (e : Option Expr) (t : WO) : Prop := PO X e (LO B X t)
theorem po_imp {e : Option Expr} {t t' : TO} (h : PO X e t) (k : ∀ σ H Q, t' σ H Q → t σ H Q) : PO X e t' := ⟨fun pins s σ H Q I q => h.run pins s σ H Q I (k σ H Q q)⟩
def wNoPart (u0 : Sl) (S : Sta) (Q : Option Int → Sta → Prop) : Prop := Q none S
def wPart (t : WE) (σ : Sl) (S : Sta) (Q : Option Int → Sta → Prop) : Prop := t σ S fun x S1 => match x with
  | .int i => Q (some i) S1
  | _ => False
theorem jo_none : JO B X none wNoPart := po_imp po_none fun σ H Q ⟨st, S, Q0, he, hr, hs, h, im⟩ => im _ _ h H (Ext.refl H) hs
theorem jo_some (h : JE B X a ta) : JO B X (some a) (wPart ta) := po_imp (po_some h) fun σ H Q ⟨st, S, Q0, he, hr, hs, h, im⟩ => by
  refine ⟨st, S, _, he, hr, hs, h, fun x S1 h1 H1 v e1 s1 r1 => ?_⟩
  cases x with
  | int i =>
    cases r1
    exact ⟨i, rfl, im _ _ h1 H1 e1 s1⟩
  | _ => exact h1.elim
def cutT (xs : List T) (lo hi : Option Int) : List T := (xs.drop (HT.sIx xs.length 0 lo)).take (HT.sIx xs.length xs.length hi - HT.sIx xs.length 0 lo)
theorem cut_rep {K : PySem.W.Frag} {H : Hp} {ts : List T} {vs : List V} (r : Reps K H ts vs) (lo hi : Option Int) : Reps K H (cutT ts lo hi) (cutV vs lo hi) := by
  unfold cutT cutV
  rw [r.length]
  exact (r.drop _).take _
theorem cutT_all (xs : List T) (lo hi : Option Int) (h : HT.sIx xs.length 0 lo = 0 ∧ HT.sIx xs.length xs.length hi = xs.length) : cutT xs lo hi = xs := by
  unfold cutT
  rw [h.1, h.2]
  simp
def rSl : T → Option Int → Option Int → Sta → (T → Sta → Prop) → Prop := fun x lo hi S Q => match x with
  | .str z => z.length ≤ sizeLine ∧ Q (.str (Txt.slice z lo hi)) S
  | .tup ts => Q (.tup (cutT ts lo hi)) S
  | x => ∃ ts, itemsT S x = some ts ∧ ∀ p, S p = none → Q (.ref p) (upS S p (.lst (cutT ts lo hi)))
def L3s (K : PySem.W.Frag) (r : T → Option Int → Option Int → Sta → (T → Sta → Prop) → Prop) : V → Option Int → Option Int → Hp → VK → Prop := fun x lo hi H Q => ∃ a S Q0, Rep K H a x ∧ St K S H ∧ r a lo hi S Q0 ∧ Im2 Q0 (fin K H Q)
theorem sl_T : L2.SlR X (L3s X.K rSl) := by
  intro pins s σ H x v vl vu lo hi sl Q I rx hso pl pu ⟨a, S, Q0, ra, hs, q, im⟩
  cases a with
  | str z =>
    cases ra
    exact C8.sl_txt pins s σ H _ v vl vu lo hi sl Q I rx hso pl pu ⟨z, rfl, q.1, im _ _ q.2 H _ (Ext.refl H) hs (.str _)⟩
  | tup ts =>
    cases ra with
    | @tup p xs _ h1 h2 =>
      refine sl_tupA pins s σ H _ v vl vu lo hi sl Q I rx hso pl pu ⟨p, xs, rfl, sqT_of h1, fun hw => ?_, fun hw p' hp' => ?_⟩
      · rw [← h2.length] at hw
        have q : Q0 (.tup (cutT ts lo hi)) S := q
        rw [cutT_all ts lo hi hw] at q
        exact im _ _ q H _ (Ext.refl H) hs (.tup h1 h2)
      · exact im _ _ q _ _ (Ext.new hp') (hs.new hp' _) (.tup upd_same (Reps.mono (Ext.new hp') _ _ (cut_rep h2 lo hi)))
  | fl ts =>
    cases ra with
    | @fl p xs _ h1 h2 =>
      obtain ⟨us, e, q⟩ := q
      cases e
      refine sl_list pins s σ H _ v vl vu lo hi sl Q I rx hso pl pu ⟨p, xs, rfl, h1.sq, fun p' hp' => ?_⟩
      obtain ⟨e3, s3⟩ := hs.newL hp' (cut_rep h2 lo hi)
      exact im _ _ (q p' (hs.free hp')) _ _ e3 s3 (.ref p')
  | ref p =>
    obtain ⟨us, e, q⟩ := q
    simp only [itemsT] at e
    cases ra
    cases eS : S p with
    | none => rw [eS] at e; cases e
    | some o =>
      rw [eS] at e
      cases o with
      | ins C fs => cases e
      | dct kvs => cases e
      | dtt kvs => cases e
      | lst ws =>
        cases e
        obtain ⟨xs, h1, h2⟩ := hs p _ eS
        refine sl_list pins s σ H _ v vl vu lo hi sl Q I rx hso pl pu ⟨p, xs, rfl, .inl (.inl h1), fun p' hp' => ?_⟩
        obtain ⟨e3, s3⟩ := hs.newL hp' (cut_rep h2 lo hi)
        exact im _ _ (q p' (hs.free hp')) _ _ e3 s3 (.ref p')
  | non => obtain ⟨us, e, q⟩ := q; cases e
  | bl _ => obtain ⟨us, e, q⟩ := q; cases e
  | pt _ => obtain ⟨us, e, q⟩ := q; cases e
  | int _ => obtain ⟨us, e, q⟩ := q; cases e
def wSl (te : WE) (tl th : WO) (σ : Sl) (S : Sta) (Q : T → Sta → Prop) : Prop := te σ S fun x S1 => tl σ S1 fun l S2 => th σ S2 fun u S3 => rSl x l u S3 Q
theorem j_slice {lo hi : Option Expr} {tl th : WO} {p2 : Pos} (he : JE B X a ta) (hl : JO B X lo tl) (hu : JO B X hi th) : JE B X (.Subscript a (.Slice lo hi none p2) pos) (wSl ta tl th) :=
  pe_imp (pe_slice sl_T he hl hu) fun σ H Q ⟨st, S, Q0, he, hr, hs, h, im⟩ => by
    refine ⟨st, S, _, he, hr, hs, h, fun x S1 h1 H1 v e1 s1 r1 => ?_⟩
    refine ⟨st, S1, _, he.trans e1, hr.mono e1, s1, h1, fun l S2 h2 H2 e2 s2 => ?_⟩
    refine ⟨st, S2, _, he.trans (e1.trans e2), hr.mono (e1.trans e2), s2, h2, fun u S3 h3 H3 e3 s3 => ?_⟩
    exact ⟨x, S3, Q0, Rep.mono (e2.trans e3) _ _ r1, s3, h3, fun z S4 q => fin_ext (e1.trans (e2.trans e3)) (im z S4 q)⟩
/-! ### -x -/
def rNeg : T → Sta → (T → Sta → Prop) → Prop := fun x S Q => match x with
  | .int i => Q (.int (-i)) S
  | _ => False
def wNeg (t : WE) (σ : Sl) (S : Sta) (Q : T → Sta → Prop) : Prop := t σ S fun x S1 => rNeg x S1 Q
theorem j_neg (ha : JE B X a ta) : JE B X (.UnaryOp .USub a pos) (wNeg ta) := pe_imp (pe_un un_neg ha) fun σ H Q ⟨st, S, Q0, he, hr, hs, h, im⟩ => by
  refine ⟨st, S, _, he, hr, hs, h, fun x S1 h1 H1 v e1 s1 r1 => ?_⟩
  cases x with
  | int i =>
    cases r1
    exact ⟨i, rfl, im _ _ h1 H1 _ e1 s1 (.int _)⟩
  | _ => exact h1.elim

/-! ### calls of built-ins by values -/
abbrev RC3 := List T → Sta → (T → Sta → Prop) → Prop
def LC (K : PySem.W.Frag) (r : RC3) : List V → Hp → VK → Prop := fun xs H Q => ∃ ts S Q0, Reps K H ts xs ∧ St K S H ∧ r ts S Q0 ∧ Im2 Q0 (fin K H Q)
def wCB (r : RC3) (t : WA) (σ : Sl) (S : Sta) (Q : T → Sta → Prop) : Prop := t σ S fun xs S1 => r xs S1 Q
variable {es : List Expr} {tr : WA}
theorem le_cb {r : RC3} {σ : L2.St} {H : Hp} {Q : VK} (h : LE B X (wCB r tr) σ H Q) : tCB (LC X.K r) (LA B X tr) σ H Q := by
  obtain ⟨st, S, Q0, he, hr, hs, h, im⟩ := h
  refine ⟨st, S, _, he, hr, hs, h, fun xs S1 h1 H1 v e1 s1 r1 => ?_⟩
  exact ⟨xs, S1, Q0, r1, s1, h1, fun z S4 q => fin_ext e1 (im z S4 q)⟩
theorem j_callB {id : String} {r : RC3} {x : Str} {p : Pos} (hc : CallR X (.builtin id) (LC X.K r)) (hg : Gl X x) (hm : X.mg x = none) (hv : bootBuiltins x = some (.builtin id)) (ha : JA B X (a :: es) tr) (hn : x ≠ "__name__" := by decide) (hdb : (x == ("__debug__" : Str)) = false := by decide)
    (he : starEach (a :: es) X.env = (false, eval a X.env) :: starEach es X.env := by rfl) (hpl : (backTo pos (starEach es X.env)).any (·.1) = false := by rfl) : JE B X (.Call (.Name x p) (a :: es) [] pos) (wCB r tr) :=
  pe_imp (pe_callB hc hg hm hv ha hn hdb he hpl) fun _ _ _ h => le_cb h
theorem j_callTy {T : String} {r : RC3} {x : Str} {p : Pos} (hc : CallR X (.type T) (LC X.K r)) (hg : Gl X x) (hm : X.mg x = none) (hv : bootBuiltins x = some (.type T)) (ha : JA B X (a :: es) tr) (hn : x ≠ "__name__" := by decide) (hdb : (x == ("__debug__" : Str)) = false := by decide)
    (he : starEach (a :: es) X.env = (false, eval a X.env) :: starEach es X.env := by rfl) (hpl : (backTo pos (starEach es X.env)).any (·.1) = false := by rfl) : JE B X (.Call (.Name x p) (a :: es) [] pos) (wCB r tr) :=
  pe_imp (pe_callTy hc hg hm hv ha hn hdb he hpl) fun _ _ _ h => le_cb h
def rLen1 (x : T) (S : Sta) (Q : T → Sta → Prop) : Prop := match x with
  | .str z => z.length ≤ sizeLine ∧ Q (.int z.length) S
  | x => ∃ ts, itemsT S x = some ts ∧ Q (.int ts.length) S
def rLen (xs : List T) (S : Sta) (Q : T → Sta → Prop) : Prop := match xs with
  | [x] => rLen1 x S Q
  | _ => False
theorem Reps.one {K : PySem.W.Frag} {H : Hp} {t : T} {vs : List V} (r : Reps K H [t] vs) : ∃ v, vs = [v] ∧ Rep K H t v := by
  cases r with
  | cons h1 h2 => cases h2; exact ⟨_, rfl, h1⟩
theorem Reps.two {K : PySem.W.Frag} {H : Hp} {t u : T} {vs : List V} (r : Reps K H [t, u] vs) : ∃ v w, vs = [v, w] ∧ Rep K H t v ∧ Rep K H u w := by
  cases r with
  | cons h1 h2 =>
    obtain ⟨w, e, h3⟩ := h2.one
    subst e
    exact ⟨_, _, rfl, h1, h3⟩
theorem c_len : CallR X (.builtin "len") (LC X.K rLen) := by
  intro pins s σ H xs us Q I rx ⟨ts, S, Q0, r, hs, q, im⟩
  match ts, q with
  | [t], q =>
    obtain ⟨v, rfl, r1⟩ := r.one
    have go : ∀ us', itemsT S t = some us' → Q0 (.int us'.length) S → wpAny (model X.prog X.w) X.A (call (.builtin "len") us) (EP X pins σ Q) X.xe s := fun us' e q => by
      obtain ⟨p, ys, rfl, h, r2⟩ := items_sq hs r1 e
      refine call_len_seq pins s σ H _ us Q I rx ⟨p, ys, rfl, h.imp id sqT_of, ?_⟩
      rw [← r2.length]
      exact im _ _ q H _ (Ext.refl H) hs (.int _)
    cases t with
    | str z =>
      cases r1
      exact call_len_str pins s σ H _ us Q I rx ⟨z, rfl, q.1, im _ _ q.2 H _ (Ext.refl H) hs (.int _)⟩
    | non => obtain ⟨ts, e, q⟩ := q; exact go ts e q
    | bl _ => obtain ⟨ts, e, q⟩ := q; exact go ts e q
    | pt _ => obtain ⟨ts, e, q⟩ := q; exact go ts e q
    | int _ => obtain ⟨ts, e, q⟩ := q; exact go ts e q
    | tup _ => obtain ⟨ts, e, q⟩ := q; exact go ts e q
    | fl _ => obtain ⟨ts, e, q⟩ := q; exact go ts e q
    | ref _ => obtain ⟨ts, e, q⟩ := q; exact go ts e q
def rInt1 (xs : List T) (S : Sta) (Q : T → Sta → Prop) : Prop := match xs with
  | [.int i] => Q (.int i) S
  | [.bl b] => Q (.int (if b then 1 else 0)) S
  | _ => False
theorem c_int : CallR X (.type "int") (LC X.K rInt1) := by
  intro pins s σ H xs us Q I rx ⟨ts, S, Q0, r, hs, q, im⟩
  match ts, q with
  | [.int i], q =>
    obtain ⟨v, rfl, r1⟩ := r.one
    cases r1
    exact call_int1 pins s σ H _ us Q I rx (.inl ⟨i, rfl, im _ _ q H _ (Ext.refl H) hs (.int _)⟩)
  | [.bl i], q =>
    obtain ⟨v, rfl, r1⟩ := r.one
    cases r1
    exact call_int1 pins s σ H _ us Q I rx (.inr ⟨i, rfl, im _ _ q H _ (Ext.refl H) hs (.int _)⟩)
def rAbs (xs : List T) (S : Sta) (Q : T → Sta → Prop) : Prop := match xs with
  | [.int i] => Q (.int (if i < 0 then -i else i)) S
  | _ => False
theorem c_abs : CallR X (.builtin "abs") (LC X.K rAbs) := by
  intro pins s σ H xs us Q I rx ⟨ts, S, Q0, r, hs, q, im⟩
  match ts, q with
  | [.int i], q =>
    obtain ⟨v, rfl, r1⟩ := r.one
    cases r1
    exact call_abs pins s σ H _ us Q I rx ⟨i, rfl, im _ _ q H _ (Ext.refl H) hs (.int _)⟩
def rMax2 (xs : List T) (S : Sta) (Q : T → Sta → Prop) : Prop := match xs with
  | [.int i, .int j] => Q (.int (if j > i then j else i)) S
  | _ => False
def rMin2 (xs : List T) (S : Sta) (Q : T → Sta → Prop) : Prop := match xs with
  | [.int i, .int j] => Q (.int (if j < i then j else i)) S
  | _ => False
theorem c_max2 (hc : X.calm = true) : CallR X (.builtin "max") (LC X.K rMax2) := by
  intro pins s σ H xs us Q I rx ⟨ts, S, Q0, r, hs, q, im⟩
  match ts, q with
  | [.int i, .int j], q =>
    obtain ⟨v, w, rfl, r1, r2⟩ := r.two
    cases r1
    cases r2
    exact call_max2 hc pins s σ H _ us Q I rx ⟨i, j, rfl, im _ _ q H _ (Ext.refl H) hs (.int _)⟩
theorem c_min2 (hc : X.calm = true) : CallR X (.builtin "min") (LC X.K rMin2) := by
  intro pins s σ H xs us Q I rx ⟨ts, S, Q0, r, hs, q, im⟩
  match ts, q with
  | [.int i, .int j], q =>
    obtain ⟨v, w, rfl, r1, r2⟩ := r.two
    cases r1
    cases r2
    exact call_min2 hc pins s σ H _ us Q I rx ⟨i, j, rfl, im _ _ q H _ (Ext.refl H) hs (.int _)⟩
/-- list(xs), tuple(xs) -/
def rListOf (xs : List T) (S : Sta) (Q : T → Sta → Prop) : Prop := match xs with
  | [x] => ∃ ts, itemsT S x = some ts ∧ ∀ p, S p = none → Q (.ref p) (upS S p (.lst ts))
  | _ => False
theorem c_list : CallR X (.type "list") (LC X.K rListOf) := by
  intro pins s σ H xs us Q I rx ⟨ts, S, Q0, r, hs, q, im⟩
  match ts, q with
  | [t], ⟨us', e, q⟩ =>
    obtain ⟨v, rfl, r1⟩ := r.one
    obtain ⟨p, ys, rfl, h, r2⟩ := items_sq hs r1 e
    refine call_list_of pins s σ H _ us Q I rx ⟨p, ys, rfl, h.imp id sqT_of, fun l hl => ?_⟩
    obtain ⟨e3, s3⟩ := hs.newL hl r2
    exact im _ _ (q l (hs.free hl)) _ _ e3 s3 (.ref l)
def rTupOf (xs : List T) (S : Sta) (Q : T → Sta → Prop) : Prop := match xs with
  | [x] => ∃ ts, itemsT S x = some ts ∧ Q (.tup ts) S
  | _ => False
theorem c_tup : CallR X (.type "tuple") (LC X.K rTupOf) := by
  intro pins s σ H xs us Q I rx ⟨ts, S, Q0, r, hs, q, im⟩
  match ts, q with
  | [t], ⟨us', e, q⟩ =>
    obtain ⟨v, rfl, r1⟩ := r.one
    obtain ⟨p, ys, rfl, h, r2⟩ := items_sq hs r1 e
    rcases h with h | h
    · exact call_tuple_of pins s σ H _ us Q I rx ⟨p, ys, rfl, .inl ⟨h, fun l hl => im _ _ q _ _ (Ext.new hl) (hs.new hl _) (.tup upd_same (Reps.mono (Ext.new hl) _ _ r2))⟩⟩
    · exact call_tuple_of pins s σ H _ us Q I rx ⟨p, ys, rfl, .inr ⟨sqT_of h, im _ _ q H _ (Ext.refl H) hs (.tup h r2)⟩⟩
/-- sorted, ints -/
def rSortI (xs : List T) (S : Sta) (Q : T → Sta → Prop) : Prop := match xs with
  | [x] => ∃ ns : List Int, itemsT S x = some (ns.map T.int) ∧ ns.length < 64 ∧ (match x with | .tup _ => False | _ => True) ∧ ∀ (ms : List Int) (p : Addr), ms.Perm ns → ms.Pairwise (· ≤ ·) → S p = none → Q (.ref p) (upS S p (.lst (ms.map T.int)))
  | _ => False
theorem c_sortI : CallR X (.builtin "sorted") (LC X.K rSortI) := by
  intro pins s σ H xs us Q I rx ⟨ts, S, Q0, r, hs, q, im⟩
  match ts, q with
  | [t], ⟨ns, e, hl, hx, q⟩ =>
    obtain ⟨v, rfl, r1⟩ := r.one
    obtain ⟨p, ys, rfl, h, r2⟩ := items_sq hs r1 e
    have ey := r2.intsV
    subst ey
    have h' : SqL X.K H p (ns.map V.int) := by
      rcases h with h | h
      · exact h
      · cases t with
        | tup _ => exact hx.elim
        | fl us =>
          cases r1 with
          | @fl _ xs _ h1 h2 =>
            cases e
            rw [← h2.intsV]
            exact h1.sq
        | ref a =>
          cases r1
          simp only [itemsT] at e
          cases eS : S p with
          | none => rw [eS] at e; cases e
          | some o =>
            rw [eS] at e
            cases o with
            | ins C fs => cases e
            | dct kvs => cases e
            | dtt kvs => cases e
            | lst ws =>
              cases e
              obtain ⟨zs, g1, g2⟩ := hs p _ eS
              rw [← g2.intsV]
              exact .inl (.inl g1)
        | non => cases e
        | bl _ => cases e
        | pt _ => cases e
        | int _ => cases e
        | str _ => cases e
    refine cr_sorted pins s σ H _ us Q I rx ⟨p, ns, rfl, h', hl, fun ms l g1 g2 g3 => ?_⟩
    obtain ⟨e3, s3⟩ := hs.newL g3 (Reps.ints (K := X.K) ms)
    exact im _ _ (q ms l g1 g2 (hs.free g3)) _ _ e3 s3 (.ref l)
/-! ### isinstance of a built-in class -/
def tyT (S : Sta) : T → Option String
  | .non => some "NoneType"
  | .bl _ => some "bool"
  | .int _ => some "int"
  | .str _ => some "str"
  | .tup _ => some "tuple"
  | .fl _ => some "list"
  | .ref p => match S p with
    | some (.lst _) => some "list"
    | _ => none
  | .pt _ => none
theorem ty_rep {K : PySem.W.Frag} {H : Hp} {S : Sta} {t : T} {v : V} {n : String} (hs : St K S H) (r : Rep K H t v) (e : tyT S t = some n) : TyX K H v (.type n) := by
  cases r with
  | non => cases e; exact .base .non
  | bl b => cases e; exact .base (.bl b)
  | int i => cases e; exact .base (.int i)
  | str x => cases e; exact .base (.str x)
  | pt h0 h1 h2 => cases e
  | tup h1 h2 =>
    cases e
    exact .base (.tup h1)
  | fl h1 h2 =>
    cases e
    rcases h1 with ⟨o, h⟩ | ⟨o, its, n, h, hc, _⟩
    · exact .base (.frz h)
    · exact .kList h hc
  | ref a =>
    simp only [tyT] at e
    cases eS : S a with
    | none => rw [eS] at e; cases e
    | some o =>
      rw [eS] at e
      cases o with
      | ins C fs => cases e
      | dct kvs => cases e
      | dtt kvs => cases e
      | lst ws =>
        cases e
        obtain ⟨xs, h1, _⟩ := hs a _ eS
        exact .base (.lst h1)
/-- the answer for a class of the five -/
def isB (n c : String) : Bool := n == c || (n == "bool" && c == "int")
def kinds : List String := ["NoneType", "bool", "int", "str", "tuple", "list"]
theorem kit_all : (kinds.all fun n => ["bool", "int", "str", "tuple", "list", "dict"].all fun c => decide (kitB n c = some (isB n c))) = true := by decide +kernel
theorem kit_one {K : PySem.W.Frag} {n c : String} (hn : n ∈ kinds) (hc : c ∈ ["bool", "int", "str", "tuple", "list", "dict"]) : PySem.W.kitOne K (.type n) (.type c) = some (isB n c) := by
  have h := List.all_eq_true.mp kit_all n hn
  have h2 := List.all_eq_true.mp h c hc
  exact kit_ty (of_decide_eq_true h2)
theorem ty_kinds {S : Sta} {t : T} {n : String} (e : tyT S t = some n) : n ∈ kinds := by
  cases t with
  | ref p =>
    simp only [tyT] at e
    split at e
    · cases e; decide
    · cases e
  | pt _ => cases e
  | _ => cases e; decide
def rIsi (c : String) (xs : List T) (S : Sta) (Q : T → Sta → Prop) : Prop := match xs with
  | [x, _] => ∃ n, tyT S x = some n ∧ Q (.bl (isB n c)) S
  | _ => False
def wIsi (c : String) (t : WE) (σ : Sl) (S : Sta) (Q : T → Sta → Prop) : Prop := t σ S fun x S1 => ∃ n, tyT S1 x = some n ∧ Q (.bl (isB n c)) S1
theorem j_isi {c : Str} {cs : String} {p p2 pos : Pos} (hg : Gl X "isinstance") (hm : X.mg "isinstance" = none) (hv : bootBuiltins "isinstance" = some (.builtin "isinstance")) (ha : JE B X a ta)
    (hgc : Gl X c) (hmc : X.mg c = none) (hvc : bootBuiltins c = some (.type cs)) (hc : cs ∈ ["bool", "int", "str", "tuple", "list", "dict"]) (hnc : c ≠ "__name__" := by decide) (hdc : (c == ("__debug__" : Str)) = false := by decide)
    (hs2 : starEach [.Name c p2] X.env = (false, eval (.Name c p2) X.env) :: starEach [] X.env := by rfl)
    (he : starEach [a, .Name c p2] X.env = (false, eval a X.env) :: starEach [.Name c p2] X.env := by rfl) (hpl : (backTo pos (starEach [.Name c p2] X.env)).any (·.1) = false := by rfl) :
    JE B X (.Call (.Name "isinstance" p) [a, .Name c p2] [] pos) (wIsi cs ta) := by
  have hb : PE X (.Name c p2) (tC (.ty cs)) := pe_bltn hgc hmc hvc (show Value.type cs = Value.type cs from rfl) hnc hdc
  refine pe_imp (pe_callB call_isi hg hm hv (pa_cons ha (pa_cons hb pa_nil hs2) he) (by decide) (by decide) he hpl) fun σ H Q ⟨st, S, Q0, he, hr, hs, h, im⟩ => ?_
  refine ⟨st, S, _, he, hr, hs, h, fun x S1 h1 H1 v e1 s1 r1 => ?_⟩
  obtain ⟨n, e, q⟩ := h1
  exact ⟨v, .ty cs, .type n, .type cs, isB n cs, rfl, .ty cs, ty_rep s1 r1 e, kit_one (ty_kinds e) hc, im _ _ q H1 _ e1 s1 (.bl _)⟩
end
end Wp

set_option Elab.async false
set_option linter.all false
set_option maxRecDepth 100000
/-! statements, loops, defs -/
namespace Wp
open PySem PySem.Spec PyProof.Rows L2
theorem finS_ext {K : PySem.W.Frag} {H H1 : Hp} {Q : L2.St → Hp → Prop} {t : Sl} {S : Sta} (e : Ext H H1) (h : finS K H Q t S) : finS K H1 Q t S := fun H' v e' s r => h H' v (e.trans e') s r
theorem ImD.ext {K : PySem.W.Frag} {H H1 : Hp} {D0 : WEnds} {D : Ends} (e : Ext H H1) (h : ImD D0 (finD K H D)) : ImD D0 (finD K H1 D) :=
  ⟨fun v S q => finS_ext e (h.nx v S q), fun v S q => fin_ext e (h.rt v S q), fun v S q => finS_ext e (h.bk v S q), fun v S q => finS_ext e (h.ct v S q)⟩
section
variable {B : Hp} {X : Cx} {st : Stmt} {rest : List Stmt} {t u : WS} {e : Expr} {te : WE} {pos : Pos}
/-! ### blocks and small statements -/
def wNext (D : WEnds) (σ : Sl) (S : Sta) : Prop := goS D.nx σ S
def wSeq (t u : WS) (D : WEnds) (σ : Sl) (S : Sta) : Prop := t { D with nx := u D } σ S
theorem jss_nil : JSs B X [] wNext := pss_imp pss_nil fun D σ H ⟨st, S, D0, he, hr, hs, h, im⟩ => im.nx _ _ h H σ (Ext.refl H) hs hr
theorem jss_cons (h1 : JS B X st t) (h2 : JSs B X rest u) : JSs B X (st :: rest) (wSeq t u) := pss_imp (pss_cons h1 h2) fun D σ H ⟨st, S, D0, he, hr, hs, h, im⟩ => by
  refine ⟨st, S, _, he, hr, hs, h, fun st1 S1 h1 H1 σ1 e1 s1 r1 => ?_, im.rt, im.bk, im.ct⟩
  exact ⟨st1, S1, D0, he.trans e1, r1, s1, h1, im.ext e1⟩
theorem jss_one (h1 : JS B X st t) : JSs B X [st] t := pss_one h1
def wBreak (D : WEnds) (σ : Sl) (S : Sta) : Prop := goS D.bk σ S
def wCont (D : WEnds) (σ : Sl) (S : Sta) : Prop := goS D.ct σ S
theorem js_pass : JS B X (.Pass pos) wNext := ps_imp ps_pass fun D σ H ⟨st, S, D0, he, hr, hs, h, im⟩ => im.nx _ _ h H σ (Ext.refl H) hs hr
theorem js_break : JS B X (.Break pos) wBreak := ps_imp ps_break fun D σ H ⟨st, S, D0, he, hr, hs, h, im⟩ => im.bk _ _ h H σ (Ext.refl H) hs hr
theorem js_continue : JS B X (.Continue pos) wCont := ps_imp ps_continue fun D σ H ⟨st, S, D0, he, hr, hs, h, im⟩ => im.ct _ _ h H σ (Ext.refl H) hs hr
theorem js_doc {x j pos'} : JS B X (.Expr (.Constant (.str x) j pos) pos') wNext := ps_imp ps_doc fun D σ H ⟨st, S, D0, he, hr, hs, h, im⟩ => im.nx _ _ h H σ (Ext.refl H) hs hr
def wDrop (te : WE) (D : WEnds) (σ : Sl) (S : Sta) : Prop := te σ S fun _ S1 => goS D.nx σ S1
theorem js_expr (he : JE B X e te) (hs : swapsWith e none pos.line X.env = pure false := by rfl) : JS B X (.Expr e pos) (wDrop te) := ps_imp (ps_expr he hs) fun D σ H ⟨st, S, D0, he, hr, hs, h, im⟩ =>
  ⟨st, S, _, he, hr, hs, h, fun x S1 h1 H1 v e1 s1 r1 => im.nx _ _ h1 H1 σ e1 s1 (hr.mono e1)⟩
def wRet (te : WE) (D : WEnds) (σ : Sl) (S : Sta) : Prop := te σ S D.rt
theorem js_ret (he : JE B X e te) : JS B X (.Return (some e) pos) (wRet te) := ps_imp (ps_ret he) fun D σ H ⟨st, S, D0, he, hr, hs, h, im⟩ => ⟨st, S, _, he, hr, hs, h, im.rt⟩
def wRetN (D : WEnds) (u1 : Sl) (S : Sta) : Prop := D.rt .non S
theorem js_retN : JS B X (.Return none pos) wRetN := ps_imp ps_retN fun D σ H ⟨st, S, D0, he, hr, hs, h, im⟩ => im.rt _ _ h H _ (Ext.refl H) hs .non
def wIfS (c : WT) (t u : WS) (D : WEnds) (σ : Sl) (S : Sta) : Prop := c σ S fun b S1 => wif b (t D σ S1) (u D σ S1)
theorem js_if {c : Expr} {a b : List Stmt} {tc : WT} (hc : JT B X c tc) (ha : JSs B X a t) (hb : JSs B X b u) : JS B X (.If c a b pos) (wIfS tc t u) := ps_imp (ps_if hc ha hb) fun D σ H ⟨st, S, D0, he, hr, hs, h, im⟩ => by
  refine ⟨st, S, _, he, hr, hs, h, fun k S1 h1 H1 e1 s1 => ?_⟩
  cases k with
  | true =>
    rw [if_pos rfl]
    exact ⟨st, S1, D0, he.trans e1, hr.mono e1, s1, (wt h1), im.ext e1⟩
  | false =>
    rw [if_neg Bool.false_ne_true]
    exact ⟨st, S1, D0, he.trans e1, hr.mono e1, s1, (wff h1), im.ext e1⟩
def wNever (u0 : WEnds) (u1 : Sl) (u2 : Sta) : Prop := False
theorem js_never : JS B X st wNever := ps_imp ps_never fun D σ H ⟨st, S, D0, he, hr, hs, h, im⟩ => h
theorem jss_never {sts : List Stmt} : JSs B X sts wNever := pss_imp pss_never fun D σ H ⟨st, S, D0, he, hr, hs, h, im⟩ => h

/-! ### targets; vs: the slots that a target writes -/
abbrev WG := T → Sl → Sta → (Sl → Sta → Prop) → Prop
abbrev WGs := List T → Sl → Sta → (Sl → Sta → Prop) → Prop
def finG (K : PySem.W.Frag) (vs : List Nat) (H : Hp) (σ : L2.St) (Q : L2.St → Hp → Prop) : Sl → Sta → Prop := fun st S => ∀ H' σ', Ext H H' → St K S H' → SlR K H' st σ' → wipe σ' vs = wipe σ vs → Q σ' H'
def LG (X : Cx) (vs : List Nat) (g : WG) : TG := fun v σ H Q => ∃ t st S Q0, Rep X.K H t v ∧ SlR X.K H st σ ∧ St X.K S H ∧ g t st S Q0 ∧ Im2 Q0 (finG X.K vs H σ Q)
def LGs (X : Cx) (vs : List Nat) (g : WGs) : TGs := fun v σ H Q => ∃ t st S Q0, Reps X.K H t v ∧ SlR X.K H st σ ∧ St X.K S H ∧ g t st S Q0 ∧ Im2 Q0 (finG X.K vs H σ Q)
def JG (X : Cx) (tg : Expr) (vs : List Nat) (g : WG) : Prop := PG X tg (LG X vs g)
def JGs (X : Cx) (tg : List Expr) (vs : List Nat) (g : WGs) : Prop := PGs X tg (LGs X vs g)
theorem pg_imp {e : Expr} {t t' : TG} (h : PG X e t) (k : ∀ v σ H Q, t' v σ H Q → t v σ H Q) : PG X e t' := ⟨fun pins s σ H v u Q I r q => h.run pins s σ H v u Q I r (k v σ H Q q)⟩
theorem pgs_imp {e : List Expr} {t t' : TGs} (h : PGs X e t) (k : ∀ v σ H Q, t' v σ H Q → t v σ H Q) : PGs X e t' := ⟨fun pins s σ H v u Q I r q => h.run pins s σ H v u Q I r (k v σ H Q q)⟩
theorem wipe_set_mem {v : Option V} {i : Nat} : ∀ {vs : List Nat} {σ : L2.St}, i ∈ vs → wipe (σ.set i v) vs = wipe σ vs
  | [], _, h => by cases h
  | w :: vs, σ, h => by
    unfold wipe
    by_cases hw : i = w
    · subst hw
      by_cases hm : i ∈ vs
      · rw [wipe_set_mem hm]
      · have z : ∀ {us : List Nat} {τ : L2.St}, i ∉ us → wipe (τ.set i v) us = (wipe τ us).set i v := fun {us τ} hu => by
          induction us generalizing τ with
          | nil => rfl
          | cons u us ih =>
            unfold wipe
            rw [ih (fun q => hu (List.mem_cons_of_mem _ q)), List.set_comm _ _ (fun q => hu (by rw [q]; exact List.mem_cons_self))]
        rw [z hm, List.set_set]
    · rw [wipe_set_mem ((List.mem_cons.mp h).resolve_left hw)]
def gNm (i : Nat) (v : T) (σ : Sl) (S : Sta) (Q : Sl → Sta → Prop) : Prop := Q (σ.set i (some v)) S
theorem jg_name {x : Str} {i : Nat} {vs : List Nat} (hN : X.N.Nodup) (hi : X.N[i]? = some x) (hx : Loc X.env.scope x) (hv : i ∈ vs) (hf : X.fn x = true ∨ X.env.scope.names.lookup x = some .local := by first | exact .inl rfl | exact .inr rfl | assumption) : JG X (.Name x pos) vs (gNm i) :=
  pg_imp (pg_name hN hi hx hf) fun v σ H Q ⟨t, st, S, Q0, rv, hr, hs, h, im⟩ => im _ _ h H _ (Ext.refl H) hs (hr.set rv i) (wipe_set_mem hv)
def gN0 (vs : List T) (σ : Sl) (S : Sta) (Q : Sl → Sta → Prop) : Prop := vs = [] ∧ Q σ S
def gC (t : WG) (u : WGs) (vs : List T) (σ : Sl) (S : Sta) (Q : Sl → Sta → Prop) : Prop := match vs with
  | v :: r => t v σ S fun σ' S' => u r σ' S' Q
  | [] => False
theorem jgs_nil {vs : List Nat} : JGs X [] vs gN0 := pgs_imp pgs_nil fun v σ H Q ⟨t, st, S, Q0, rv, hr, hs, h, im⟩ => by
  obtain ⟨e, h⟩ := h
  subst e
  cases rv
  exact ⟨rfl, im _ _ h H _ (Ext.refl H) hs hr rfl⟩
theorem jgs_cons {es : List Expr} {vs : List Nat} {t : WG} {u : WGs} (h1 : JG X e vs t) (h2 : JGs X es vs u)
    (hs : (assignEach (e :: es) X.env).map (·.2) = assign e X.env :: (assignEach es X.env).map (·.2) := by rfl) : JGs X (e :: es) vs (gC t u) := pgs_imp (pgs_cons h1 h2 hs) fun v σ H Q ⟨ts, st, S, Q0, rv, hr, hs, h, im⟩ => by
  cases ts with
  | nil => exact h.elim
  | cons x ts =>
    cases rv with
    | cons r1 r2 =>
      refine ⟨_, _, rfl, x, st, S, _, r1, hr, hs, h, fun st1 S1 h1 H1 σ1 e1 s1 q1 w1 => ?_⟩
      refine ⟨ts, st1, S1, Q0, Reps.mono e1 _ _ r2, q1, s1, h1, fun st2 S2 h2 H2 σ2 e2 s2 q2 w2 => ?_⟩
      exact im _ _ h2 H2 σ2 (e1.trans e2) s2 q2 (w2.trans w1)
def gTp (n : Nat) (u : WGs) (v : T) (σ : Sl) (S : Sta) (Q : Sl → Sta → Prop) : Prop := match v with
  | .tup ts => ts.length = n ∧ u ts σ S Q
  | _ => False
theorem jg_tup {es : List Expr} {k : Nat} {n : Nat} {vs : List Nat} {u : WGs} (hc : X.calm = true) (h : JGs X es vs u)
    (hn : (assignEach es X.env).length = n := by rfl) (hst : (assignEach es X.env).findIdx? (·.1) = none := by rfl) : JG X (.Tuple es k pos) vs (gTp n u) := pg_imp (pg_tup hc h hn hst) fun v σ H Q ⟨t, st, S, Q0, rv, hr, hs, h, im⟩ => by
  cases t with
  | tup ts =>
    cases rv with
    | @tup a xs _ g10 g2 => exact (fun g1 => by exact ⟨a, xs, rfl, g1, by rw [← g2.length]; exact h.1, ts, st, S, Q0, g2, hr, hs, h.2, im⟩) (sqT_of g10)
  | _ => exact h.elim
/-- o[i] = v -/
def rSet : T → T → T → Sta → (Sta → Prop) → Prop := fun o i v S Q => match o, i with
  | .ref p, .int k => ∃ xs, S p = some (.lst xs) ∧ ∃ j, ixN xs.length k = some j ∧ Q (upS S p (.lst (xs.set j v)))
  | _, _ => False
def L3t (K : PySem.W.Frag) (r : T → T → T → Sta → (Sta → Prop) → Prop) : TSet := fun o i v H Q => ∃ a b c S Q0, Rep K H a o ∧ Rep K H b i ∧ Rep K H c v ∧ St K S H ∧ r a b c S Q0 ∧ ∀ S', Q0 S' → ∀ H', Ext H H' → St K S' H' → Q H'
theorem set_T : PSet X (L3t X.K rSet) := by
  intro pins s σ H o i v ov iv u Q I ro ri rv ⟨a, b, c, S, Q0, ra, rb, rc, hs, q, im⟩
  cases a with
  | ref p =>
    cases b with
    | int k =>
      obtain ⟨xs, e1, j, e2, q⟩ := q
      cases ra
      cases rb
      obtain ⟨ys, h1, h2⟩ := hs p _ e1
      obtain ⟨e3, s3⟩ := hs.setL h1 (h2.set rc j)
      exact set_list pins s σ H _ _ v ov iv u Q I ro ri rv ⟨p, ys, k, j, rfl, rfl, h1, by rw [← h2.length]; exact e2, im _ q _ e3 s3⟩
    | _ => exact q.elim
  | _ => exact q.elim
def gIx (to ti : WE) (v : T) (σ : Sl) (S : Sta) (Q : Sl → Sta → Prop) : Prop := to σ S fun o S1 => ti σ S1 fun i S2 => rSet o i v S2 fun S3 => Q σ S3
/-- only where the entry's Ext is at hand: a statement's target -/
def LG2 (B : Hp) (X : Cx) (g : WG) : TG := fun v σ H Q => ∃ t st S Q0, Ext B H ∧ Rep X.K H t v ∧ SlR X.K H st σ ∧ St X.K S H ∧ g t st S Q0 ∧ Im2 Q0 (finS X.K H Q)
def JG2 (B : Hp) (X : Cx) (tg : Expr) (g : WG) : Prop := PG X tg (LG2 B X g)
theorem JG.two {tg : Expr} {vs : List Nat} {g : WG} (h : JG X tg vs g) : JG2 B X tg g := pg_imp h fun v σ H Q ⟨t, st, S, Q0, he, rv, hr, hs, h, im⟩ => ⟨t, st, S, Q0, rv, hr, hs, h, fun st1 S1 h1 H1 σ1 e1 s1 r1 _ => im _ _ h1 H1 σ1 e1 s1 r1⟩
theorem jg_ix {o i : Expr} {to ti : WE} (ho : JE B X o to) (hi : JE B X i ti)
    (ha : ∀ v, assign (.Subscript o i pos) X.env v = (do
      let ov ← holding [v] (eval o X.env)
      let iv ← holding [v, ov] (eval i X.env)
      standAt pos
      holding [v, ov, iv] (setItem ov iv v)
      release [v, ov, iv] []) := by intro _; rfl) : JG2 B X (.Subscript o i pos) (gIx to ti) := pg_imp (pg_sub ho hi set_T ha) fun v σ H Q ⟨t, st, S, Q0, he, rv, hr, hs, h, im⟩ => by
  refine ⟨st, S, _, he, hr, hs, h, fun x S1 h1 H1 v1 e1 s1 r1 => ?_⟩
  refine ⟨st, S1, _, he.trans e1, hr.mono e1, s1, h1, fun y S2 h2 H2 v2 e2 s2 r2 => ?_⟩
  exact ⟨x, y, t, S2, _, Rep.mono e2 _ _ r1, r2, Rep.mono (e1.trans e2) _ _ rv, s2, h2, fun S3 q H3 e3 s3 => im _ _ q H3 σ (e1.trans (e2.trans e3)) s3 (hr.mono (e1.trans (e2.trans e3)))⟩
def wAsg (te : WE) (g : WG) (D : WEnds) (σ : Sl) (S : Sta) : Prop := te σ S fun x S1 => g x σ S1 (goS D.nx)
theorem js_asg {tg : Expr} {g : WG} (he : JE B X e te) (hg : JG2 B X tg g) (hs : swapsWithSole [tg] e pos.line X.env = pure false := by rfl) (hw : swappedStores [tg] e X.env = pure none := by rfl)
    (h1 : (assignEach [tg] X.env).map (·.2) = [assign tg X.env] := by rfl) : JS B X (.Assign [tg] e pos) (wAsg te g) := ps_imp (ps_asg he hg hs hw h1) fun D σ H ⟨st, S, D0, he, hr, hs, h, im⟩ => by
  refine ⟨st, S, _, he, hr, hs, h, fun x S1 h1 H1 v1 e1 s1 r1 => ?_⟩
  exact ⟨x, st, S1, D0.nx, he.trans e1, r1, hr.mono e1, s1, h1, fun a S2 q => finS_ext e1 (im.nx a S2 q)⟩
def wSet (i : Nat) (te : WE) (D : WEnds) (σ : Sl) (S : Sta) : Prop := te σ S fun x S1 => goS D.nx (σ.set i (some x)) S1
theorem js_set {i : Nat} {x : Str} {pos' : Pos} (hN : X.N.Nodup) (hi : X.N[i]? = some x) (hx : Loc X.env.scope x) (he : JE B X e te) (hs : swapsWith e (some (.Name x pos')) pos.line X.env = pure false := by rfl) (hf : X.fn x = true ∨ X.env.scope.names.lookup x = some .local := by first | exact .inl rfl | exact .inr rfl | assumption) :
    JS B X (.Assign [.Name x pos'] e pos) (wSet i te) := ps_imp (ps_set hN hi hx he hs hf) fun D σ H ⟨st, S, D0, he, hr, hs, h, im⟩ => by
  refine ⟨st, S, _, he, hr, hs, h, fun x S1 h1 H1 v1 e1 s1 r1 => ?_⟩
  exact im.nx _ _ h1 H1 _ e1 s1 ((hr.mono e1).set r1 i)
/-- x op= e, a name -/
def wAug (i : Nat) (r : R3) (te : WE) (D : WEnds) (σ : Sl) (S : Sta) : Prop := ∃ x, σ[i]? = some (some x) ∧ te σ S fun y S1 => r x y S1 fun z S2 => goS D.nx (σ.set i (some z)) S2
theorem js_aug {i : Nat} {x : Str} {op : Operator} {r : R3} {pos' : Pos} (hN : X.N.Nodup) (hi : X.N[i]? = some x) (hx : Loc X.env.scope x) (he : JE B X e te) (ho : OpT X (inplaceOp op) r) (hf : X.fn x = true ∨ X.env.scope.names.lookup x = some .local := by first | exact .inl rfl | exact .inr rfl | assumption) :
    JS B X (.AugAssign (.Name x pos') op e pos) (wAug i r te) := ps_imp (ps_aug (ti := L3 X.K r) hN hi hx he (fun pins s σ H x y v u Q I rx ry q => ho pins s σ H x y v u Q I rx ry q) hf) fun D σ H ⟨st, S, D0, he, hr, hs, h, im⟩ => by
  obtain ⟨y, e1, h⟩ := h
  obtain ⟨v, g1, g2⟩ := hr.2 i y e1
  refine ⟨v, g1, st, S, _, he, hr, hs, h, fun x S1 h1 H1 v1 e1 s1 r1 => ?_⟩
  exact ⟨y, x, S1, _, Rep.mono e1 _ _ g2, r1, s1, h1, fun z S2 q H2 w e2 s2 r2 => im.nx _ _ q H2 _ (e1.trans e2) s2 ((hr.mono (e1.trans e2)).set r2 i)⟩

/-! ### while -/
def wWhile (c : WT) (tb : WS) (D : WEnds) (σ : Sl) (S : Sta) : Prop := ∃ W : Nat → Sl → Sta → Prop, (∃ m, W m σ S) ∧ ∀ m σ S, W m σ S →
  c σ S fun b S1 => wif b (tb { D with nx := fun σ' S' => ∃ m', m' < m ∧ W m' σ' S', ct := fun σ' S' => ∃ m', m' < m ∧ W m' σ' S', bk := D.nx } σ S1) (D.nx σ S1)
theorem js_while {c : Expr} {body : List Stmt} {tc : WT} {tb : WS} (hp : PassesOwn (model X.prog X.w) X.A X.env X.xe) (hc : JT B X c tc) (hb : JSs B X body tb) : JS B X (.While c body [] pos) (wWhile tc tb) :=
  ps_imp (ps_while hp hc hb) fun D σ H ⟨st, S, D0, he, hr, hs, h, im⟩ => by
    obtain ⟨W, ⟨m, w0⟩, turn⟩ := h
    refine ⟨fun m σ' H' => ∃ st' S', Ext H H' ∧ SlR X.K H' st' σ' ∧ St X.K S' H' ∧ W m st' S', ⟨m, st, S, Ext.refl H, hr, hs, w0⟩, fun m σ1 H1 ⟨st1, S1, e1, r1, s1, w1⟩ => ?_⟩
    refine ⟨st1, S1, _, he.trans e1, r1, s1, turn m st1 S1 w1, fun k S2 h2 H2 e2 s2 => ?_⟩
    cases k with
    | true =>
      rw [if_pos rfl]
      have nx : ∀ st3 S3, (∃ m', m' < m ∧ W m' st3 S3) → finS X.K H2 (fun σ' H' => ∃ m', m' < m ∧ ∃ st' S', Ext H H' ∧ SlR X.K H' st' σ' ∧ St X.K S' H' ∧ W m' st' S') st3 S3 := fun st3 S3 ⟨m', hm, w3⟩ H3 σ3 e3 s3 r3 =>
        ⟨m', hm, st3, S3, e1.trans (e2.trans e3), r3, s3, w3⟩
      refine ⟨_, fun σ' H' q => q, st1, S2, _, he.trans (e1.trans e2), r1.mono e2, s2, (wt h2), ⟨nx, fun v S3 q => fin_ext (e1.trans e2) (im.rt v S3 q), fun a S3 q => finS_ext (e1.trans e2) (im.nx a S3 q), nx⟩⟩
    | false =>
      rw [if_neg Bool.false_ne_true]
      exact im.nx _ _ (wff h2) H2 _ (e1.trans e2) s2 (r1.mono e2)

/-! ### what a loop walks: its items, and what must stay true of the state -/
abbrev WI := Sl → Sta → (List T → (Sta → Prop) → Sta → Prop) → Prop
/-- the iterator yields just these -/
def Yields (K : PySem.W.Frag) (xs : List T) (stb : Sta → Prop) (H1 : Hp) (J : It) : Prop :=
  ∀ i S H, Ext H1 H → St K S H → stb S → (i < xs.length → J.go i H) ∧ (xs.length ≤ i → J.stop i H) ∧ ∀ x H', J.yld i H x H' → i < xs.length → Ext H H' ∧ St K S H' ∧ (∀ st σ, SlR K H st σ → SlR K H' st σ) ∧ ∃ t, xs[i]? = some t ∧ Rep K H' t x
def LI (B : Hp) (X : Cx) (w : WI) : TI := fun σ H R => ∃ st S Q0, Ext B H ∧ SlR X.K H st σ ∧ St X.K S H ∧ w st S Q0 ∧ ∀ xs stb S1, Q0 xs stb S1 → ∀ H1, Ext H H1 → St X.K S1 H1 → ∀ J, Yields X.K xs stb H1 J → R J H1
def JI (B : Hp) (X : Cx) (tg iter : Expr) (w : WI) : Prop := PI X tg iter (LI B X w)
theorem pi_imp {tg e : Expr} {t t' : TI} (h : PI X tg e t) (k : ∀ σ H Q, t' σ H Q → t σ H Q) : PI X tg e t' := ⟨fun pins s σ H R I q => h.run pins s σ H R I (k σ H R q)⟩
def iTupW (te : WE) (σ : Sl) (S : Sta) (R : List T → (Sta → Prop) → Sta → Prop) : Prop := te σ S fun x S1 => match x with
  | .tup ts => R ts (fun _ => True) S1
  | _ => False
theorem ji_tup {tg : Expr} (he : JE B X e te) : JI B X tg e (iTupW te) := pi_imp (pi_tup he) fun σ H R ⟨st, S, Q0, he, hr, hs, h, im⟩ => by
  refine ⟨st, S, _, he, hr, hs, h, fun x S1 h1 H1 v1 e1 s1 r1 => ?_⟩
  cases x with
  | tup ts =>
    cases r1 with
    | @tup a xs _ g10 g2 =>
      have g1 := sqT_of (K := X.K) g10
      refine ⟨a, rfl, ⟨xs, g1⟩, im _ _ _ h1 H1 e1 s1 _ fun i S2 H2 e2 s2 _ => ⟨fun hi => ?_, fun hi => ⟨xs, e2.sqT g1, by rw [← g2.length]; exact hi⟩, fun x H' y hi => ?_⟩⟩
      · obtain ⟨v, g3, _⟩ := g2.get (List.getElem?_eq_getElem hi)
        exact ⟨xs, v, e2.sqT g1, g3⟩
      · obtain ⟨eH, y⟩ := y
        subst eH
        obtain ⟨v, g3, g4⟩ := g2.get (List.getElem?_eq_getElem hi)
        have ev : x = v := Option.some.inj ((y xs (e2.sqT g1)).symm.trans g3)
        subst ev
        exact ⟨Ext.refl _, s2, fun _ _ q => q, _, List.getElem?_eq_getElem hi, Rep.mono e2 _ _ g4⟩
  | _ => exact h1.elim
/-- a list: it must stand as it is through the loop -/
def iLstW (te : WE) (σ : Sl) (S : Sta) (R : List T → (Sta → Prop) → Sta → Prop) : Prop := te σ S fun x S1 => match x with
  | .fl ts => R ts (fun _ => True) S1
  | .ref p => ∃ ts, S1 p = some (.lst ts) ∧ R ts (fun S' => S' p = some (.lst ts)) S1
  | _ => False
theorem ji_lst {tg : Expr} (he : JE B X e te) : JI B X tg e (iLstW te) := pi_imp (pi_list he) fun σ H R ⟨st, S, Q0, he, hr, hs, h, im⟩ => by
  refine ⟨st, S, _, he, hr, hs, h, fun x S1 h1 H1 v1 e1 s1 r1 => ?_⟩
  cases x with
  | fl ts =>
    cases r1 with
    | @fl a xs _ g1 g2 =>
      refine ⟨a, rfl, ⟨xs, g1.sq⟩, im _ _ _ h1 H1 e1 s1 _ fun i S2 H2 e2 s2 _ => ⟨fun hi => ?_, fun hi => ⟨xs, (e2.fzL g1).sq, by rw [← g2.length]; exact hi⟩, fun x H' y hi => ?_⟩⟩
      · obtain ⟨v, g3, _⟩ := g2.get (List.getElem?_eq_getElem hi)
        exact ⟨xs, v, (e2.fzL g1).sq, g3⟩
      · obtain ⟨eH, y⟩ := y
        subst eH
        obtain ⟨v, g3, g4⟩ := g2.get (List.getElem?_eq_getElem hi)
        have ev : x = v := Option.some.inj ((y xs ((e2.fzL g1).sq)).symm.trans g3)
        subst ev
        exact ⟨Ext.refl _, s2, fun _ _ q => q, _, List.getElem?_eq_getElem hi, Rep.mono e2 _ _ g4⟩
  | ref p =>
    obtain ⟨ts, eS, h1⟩ := h1
    cases r1
    obtain ⟨xs0, g10, g20⟩ := s1 p _ eS
    refine ⟨p, rfl, ⟨xs0, .inl (.inl g10)⟩, im _ _ _ h1 H1 e1 s1 _ fun i S2 H2 e2 s2 stb => ?_⟩
    obtain ⟨xs, g1, g2⟩ := s2 p _ stb
    refine ⟨fun hi => ?_, fun hi => ⟨xs, .inl (.inl g1), by rw [← g2.length]; exact hi⟩, fun x H' y hi => ?_⟩
    · obtain ⟨v, g3, _⟩ := g2.get (List.getElem?_eq_getElem hi)
      exact ⟨xs, v, .inl (.inl g1), g3⟩
    · obtain ⟨eH, y⟩ := y
      subst eH
      obtain ⟨v, g3, g4⟩ := g2.get (List.getElem?_eq_getElem hi)
      have ev : x = v := Option.some.inj ((y xs (.inl (.inl g1))).symm.trans g3)
      subst ev
      exact ⟨Ext.refl _, s2, fun _ _ q => q, _, List.getElem?_eq_getElem hi, g4⟩
  | _ => exact h1.elim
/-- range -/
def rangeT (lo : Int) (n : Nat) : List T := (List.range n).map fun (i : Nat) => T.int (lo + (i : Int))
theorem range_yields {K : PySem.W.Frag} {H : Hp} (lo : Int) (n : Nat) : Yields K (rangeT lo n) (fun _ => True) H (Itr lo n) := fun i S H1 e1 s1 _ => by
  have hl : (rangeT lo n).length = n := by unfold rangeT; rw [List.length_map, List.length_range]
  refine ⟨fun hi => by rw [hl] at hi; exact hi, fun hi => by rw [hl] at hi; exact hi, fun x H' y hi => ?_⟩
  obtain ⟨eH, ex⟩ := y
  subst eH ex
  rw [hl] at hi
  refine ⟨Ext.refl _, s1, fun _ _ q => q, .int (lo + (i : Int)), ?_, .int _⟩
  unfold rangeT
  rw [List.getElem?_map, List.getElem?_range hi]
  rfl
def iRg1 (ta : WA) (σ : Sl) (S : Sta) (R : List T → (Sta → Prop) → Sta → Prop) : Prop := ta σ S fun xs S1 => match xs with
  | [.int j] => -(2 ^ 62) ≤ j ∧ j < 2 ^ 62 ∧ R (rangeT 0 j.toNat) (fun _ => True) S1
  | _ => False
def iRg2 (ta : WA) (σ : Sl) (S : Sta) (R : List T → (Sta → Prop) → Sta → Prop) : Prop := ta σ S fun xs S1 => match xs with
  | [.int i, .int j] => (-(2 ^ 62) ≤ i ∧ i < 2 ^ 62 ∧ -(2 ^ 62) ≤ j ∧ j < 2 ^ 62) ∧ R (rangeT i (j - i).toNat) (fun _ => True) S1
  | _ => False
theorem ji_rg1 {tg a : Expr} {ta : WA} {p : Pos} (hg : Gl X "range") (hm : X.mg "range" = none) (ha : JA B X [a] ta) (hs : starEach [a] X.env = [(false, eval a X.env)] := by rfl) : JI B X tg (.Call (.Name "range" p) [a] [] pos) (iRg1 ta) :=
  pi_imp (pi_range1 hg hm ha hs) fun σ H R ⟨st, S, Q0, he, hr, hs, h, im⟩ => by
    refine ⟨st, S, _, he, hr, hs, h, fun xs S1 h1 H1 v1 e1 s1 r1 => ?_⟩
    match xs, h1 with
    | [.int j], h1 =>
      obtain ⟨v, rfl, r2⟩ := r1.one
      cases r2
      exact ⟨j, rfl, h1.1, h1.2.1, im _ _ _ h1.2.2 H1 e1 s1 _ (range_yields 0 j.toNat)⟩
theorem ji_rg2 {tg a b : Expr} {ta : WA} {p : Pos} (hg : Gl X "range") (hm : X.mg "range" = none) (ha : JA B X [a, b] ta) (hs : starEach [a, b] X.env = [(false, eval a X.env), (false, eval b X.env)] := by rfl) (hs2 : starEach [b] X.env = [(false, eval b X.env)] := by rfl) : JI B X tg (.Call (.Name "range" p) [a, b] [] pos) (iRg2 ta) :=
  pi_imp (pi_range2 hg hm ha hs hs2) fun σ H R ⟨st, S, Q0, he, hr, hs, h, im⟩ => by
    refine ⟨st, S, _, he, hr, hs, h, fun xs S1 h1 H1 v1 e1 s1 r1 => ?_⟩
    match xs, h1 with
    | [.int i, .int j], h1 =>
      obtain ⟨v, w, rfl, r2, r3⟩ := r1.two
      cases r2
      cases r3
      exact ⟨i, j, rfl, h1.1, im _ _ _ h1.2 H1 e1 s1 _ (range_yields i (j - i).toNat)⟩
/-- .. -/
def loopW (g : WG) (tb : WS) (stb : Sta → Prop) (D : WEnds) : List T → Sl → Sta → Prop
  | [], σ, S => stb S ∧ D.nx σ S
  | x :: xs, σ, S => stb S ∧ g x σ S fun σ2 S2 => tb { D with nx := loopW g tb stb D xs, ct := loopW g tb stb D xs, bk := D.nx } σ2 S2
def wFor (wi : WI) (g : WG) (tb : WS) (D : WEnds) (σ : Sl) (S : Sta) : Prop := wi σ S fun xs stb S1 => loopW g tb stb D xs σ S1
theorem loopW_stb {g : WG} {tb : WS} {stb : Sta → Prop} {D : WEnds} {xs : List T} {σ : Sl} {S : Sta} (h : loopW g tb stb D xs σ S) : stb S := by
  cases xs <;> exact h.1
theorem js_for {tg iter : Expr} {body : List Stmt} {wi : WI} {g : WG} {vs : List Nat} {tb : WS} (hp : PassesOwn (model X.prog X.w) X.A X.env X.xe) (hc : X.calm = true) (hi : JI B X tg iter wi) (hg : JG X tg vs g) (hb : JSs B X body tb)
    (hs : ∀ x, foldedSetIterable iter X.env x = pure x := by intro _; rfl) : JS B X (.For tg iter body [] pos) (wFor wi g tb) := ps_imp (ps_for hp hc hi hg hb hs) fun D σ H ⟨st, S, D0, he, hr, hs, h, im⟩ => by
  refine ⟨st, S, _, he, hr, hs, h, fun xs stb S1 h1 H1 e1 s1 J yl => ?_⟩
  refine ⟨fun i m σ' H' => m = xs.length - i ∧ i ≤ xs.length ∧ ∃ st' S', Ext H1 H' ∧ SlR X.K H' st' σ' ∧ St X.K S' H' ∧ loopW g tb stb D0 (xs.drop i) st' S', ⟨xs.length, by omega, Nat.zero_le _, st, S1, Ext.refl _, hr.mono e1, s1, h1⟩, fun i m σ2 H2 hW => ?_⟩
  obtain ⟨hm, hi, st2, S2, e2, r2, s2, h2⟩ := hW
  obtain ⟨y1, y2, y3⟩ := yl i S2 H2 e2 s2 (loopW_stb h2)
  by_cases hlt : i < xs.length
  · refine .inr ⟨y1 hlt, fun σ' H' => ∃ st' S', Ext H1 H' ∧ SlR X.K H' st' σ' ∧ St X.K S' H' ∧ loopW g tb stb D0 (xs.drop (i + 1)) st' S', fun σ' H' q => ⟨m - 1, by omega, by omega, by omega, q⟩, fun x H3 hy => ?_⟩
    obtain ⟨e3, s3, sl3, t, et, rt⟩ := y3 x H3 hy hlt
    have r3 := sl3 _ _ r2
    rw [List.drop_eq_getElem_cons hlt] at h2
    have et' : xs[i] = t := by rw [List.getElem?_eq_getElem hlt] at et; exact Option.some.inj et
    rw [et'] at h2
    refine ⟨t, st2, S2, _, rt, r3, s3, h2.2, fun st4 S4 h4 H4 σ4 e4 s4 r4 _ => ?_⟩
    have eb : Ext H1 H4 := e2.trans (e3.trans e4)
    have nx : ∀ st5 S5, loopW g tb stb D0 (xs.drop (i + 1)) st5 S5 → finS X.K H4 (fun σ' H' => ∃ st' S', Ext H1 H' ∧ SlR X.K H' st' σ' ∧ St X.K S' H' ∧ loopW g tb stb D0 (xs.drop (i + 1)) st' S') st5 S5 := fun st5 S5 h5 H5 σ5 e5 s5 r5 => ⟨st5, S5, eb.trans e5, r5, s5, h5⟩
    exact ⟨st4, S4, _, he.trans (e1.trans eb), r4, s4, h4, ⟨nx, fun v S5 q => fin_ext (e1.trans eb) (im.rt v S5 q), fun a S5 q => finS_ext (e1.trans eb) (im.nx a S5 q), nx⟩⟩
  · have ei : i = xs.length := by omega
    subst ei
    rw [List.drop_length] at h2
    exact .inl ⟨y2 (Nat.le_refl _), im.nx _ _ h2.2 H2 σ2 (e1.trans e2) s2 r2⟩
end
end Wp

set_option Elab.async false
set_option linter.all false
set_option maxRecDepth 100000
/-! comprehensions, calls, defs, a law's end -/
namespace Wp
open PySem PySem.Spec PyProof.Rows L2
def wipeT (σ : Sl) : List Nat → Sl
  | [] => σ
  | v :: vs => (wipeT σ vs).set v none
theorem SlR.wipe {K : PySem.W.Frag} {H : Hp} {st : Sl} {σ : L2.St} (h : SlR K H st σ) : ∀ vs : List Nat, SlR K H (wipeT st vs) (L2.wipe σ vs)
  | [] => h
  | v :: vs => by
    have ih := SlR.wipe h vs
    unfold wipeT L2.wipe
    refine ⟨by rw [List.length_set, List.length_set]; exact ih.1, fun j u q => ?_⟩
    by_cases hj : v = j
    · subst hj
      by_cases hl : v < (wipeT st vs).length
      · rw [List.getElem?_set_self hl] at q
        cases q
      · rw [List.getElem?_eq_none (by rw [List.length_set]; omega)] at q
        cases q
    · rw [List.getElem?_set_ne hj] at q
      obtain ⟨w, e1, e2⟩ := ih.2 j u q
      exact ⟨w, by rw [List.getElem?_set_ne hj]; exact e1, e2⟩
section
variable {B : Hp} {X : Cx} {pos : Pos}
def wYes (u0 : Sl) (S : Sta) (Q : Bool → Sta → Prop) : Prop := Q true S
def JTs (B : Hp) (X : Cx) (ifs : List Expr) (t : WT) : Prop := PTs X ifs (LT B X t)
theorem pts_imp {ifs : List Expr} {t t' : TT} (h : PTs X ifs t) (k : ∀ σ H Q, t' σ H Q → t σ H Q) : PTs X ifs t' := ⟨fun pins s σ H Q I q => h.run pins s σ H Q I (k σ H Q q)⟩
theorem jts_nil : JTs B X [] wYes := pts_imp pts_nil fun σ H Q ⟨st, S, Q0, he, hr, hs, h, im⟩ => im _ _ h H (Ext.refl H) hs
theorem jts_one {c : Expr} {t : WT} (h : JT B X c t) : JTs B X [c] t := pts_one h
def compW (g : WG) (tt : WT) (te : WE) (stb : Sta → Prop) (σ : Sl) (D : Addr) (Q : T → Sta → Prop) : List T → Sta → Prop
  | [], S => stb S ∧ Q (.ref D) S
  | x :: xs, S => stb S ∧ g x σ S fun σ2 S2 => tt σ2 S2 fun b S3 => wif b (te σ2 S3 fun y S4 => ∃ acc, S4 D = some (.lst acc) ∧ acc.length < sizeLine ∧ compW g tt te stb σ D Q xs (upS S4 D (.lst (acc ++ [y])))) (compW g tt te stb σ D Q xs S3)
def wLc (wi : WI) (g : WG) (tt : WT) (te : WE) (vs : List Nat) (σ : Sl) (S : Sta) (Q : T → Sta → Prop) : Prop := wi σ S fun xs stb S1 => ∀ D, S1 D = none → compW g tt te stb (wipeT σ vs) D Q xs (upS S1 D (.lst []))
theorem compW_stb {g : WG} {tt : WT} {te : WE} {stb : Sta → Prop} {σ : Sl} {D : Addr} {Q : T → Sta → Prop} {xs : List T} {S : Sta} (h : compW g tt te stb σ D Q xs S) : stb S := by
  cases xs <;> exact h.1
theorem le_lc {wi : WI} {g : WG} {tt : WT} {te : WE} {vs : List Nat} {σ : L2.St} {H : Hp} {Q : VK} (h : LE B X (wLc wi g tt te vs) σ H Q) : tLc (LI B X wi) (LG X vs g) (LT B X tt) (LE B X te) vs σ H Q := by
  obtain ⟨st, S, Q0, he, hr, hs, h, im⟩ := h
  refine ⟨st, S, _, he, hr, hs, h, fun xs stb S1 h1 H1 e1 s1 J yl => ?_⟩
  intro D hD
  obtain ⟨eD, sD⟩ := s1.newL (ts := []) hD .nil
  refine ⟨fun i m H' => m = xs.length - i ∧ i ≤ xs.length ∧ ∃ S', Ext H1 H' ∧ St X.K S' H' ∧ compW g tt te stb (wipeT st vs) D Q0 (xs.drop i) S', ⟨xs.length, by omega, Nat.zero_le _, _, eD, sD, h1 D (s1.free hD)⟩, fun i m H2 hW => ?_⟩
  obtain ⟨hm, hi, S2, e2, s2, h2⟩ := hW
  obtain ⟨y1, y2, y3⟩ := yl i S2 H2 e2 s2 (compW_stb h2)
  by_cases hlt : i < xs.length
  · refine .inr ⟨y1 hlt, fun H' => ∃ S', Ext H1 H' ∧ St X.K S' H' ∧ compW g tt te stb (wipeT st vs) D Q0 (xs.drop (i + 1)) S', fun H' q => ⟨m - 1, by omega, by omega, by omega, q⟩, fun x H3 hy => ?_⟩
    obtain ⟨e3, s3, sl3, t, et, rt⟩ := y3 x H3 hy hlt
    have r2 : SlR X.K H2 (wipeT st vs) (L2.wipe σ vs) := ((hr.mono e1).mono e2).wipe vs
    have r3 := sl3 _ _ r2
    rw [List.drop_eq_getElem_cons hlt] at h2
    have et' : xs[i] = t := by rw [List.getElem?_eq_getElem hlt] at et; exact Option.some.inj et
    rw [et'] at h2
    refine ⟨t, wipeT st vs, S2, _, rt, r3, s3, h2.2, fun st4 S4 h4 H4 σ4 e4 s4 r4 w4 => ?_⟩
    have ww : L2.wipe (L2.wipe σ vs) vs = L2.wipe σ vs := by
      have key : ∀ (us ws : List Nat) (τ : L2.St), (∀ i ∈ us, i ∈ ws) → L2.wipe (L2.wipe τ ws) us = L2.wipe τ ws := fun us => by
        induction us with
        | nil => intro ws τ _; rfl
        | cons u us ih =>
          intro ws τ hu
          show (L2.wipe (L2.wipe τ ws) us).set u none = L2.wipe τ ws
          rw [ih ws τ fun i hi => hu i (List.mem_cons_of_mem _ hi)]
          have hmem := hu u List.mem_cons_self
          have set_none : ∀ (ws : List Nat), u ∈ ws → (L2.wipe τ ws).set u none = L2.wipe τ ws := fun ws => by
            induction ws with
            | nil => intro h; cases h
            | cons w ws ih2 =>
              intro h
              show ((L2.wipe τ ws).set w none).set u none = (L2.wipe τ ws).set w none
              by_cases hw : u = w
              · subst hw; rw [List.set_set]
              · rw [List.set_comm _ _ (fun z => hw z.symm), ih2 ((List.mem_cons.mp h).resolve_left hw)]
          exact set_none ws hmem
      exact key vs vs σ fun i hi => hi
    refine ⟨w4.trans ww, ?_⟩
    have eb : Ext H1 H4 := e2.trans (e3.trans e4)
    refine ⟨st4, S4, _, he.trans (e1.trans eb), r4, s4, h4, fun b S5 h5 H5 e5 s5 => ?_⟩
    cases b with
    | true =>
      rw [if_pos rfl]
      refine ⟨st4, S5, _, he.trans (e1.trans (eb.trans e5)), r4.mono e5, s5, (wt h5), fun y S6 h6 H6 v6 e6 s6 r6 => ?_⟩
      obtain ⟨acc, ea, hl, h6⟩ := h6
      obtain ⟨ys, g1, g2⟩ := s6 D _ ea
      obtain ⟨e7, s7⟩ := s6.setL g1 (Reps.append g2 (.cons r6 .nil))
      exact ⟨ys, g1, by rw [← g2.length]; exact hl, _, (eb.trans e5).trans (e6.trans e7), s7, h6⟩
    | false =>
      rw [if_neg Bool.false_ne_true]
      exact ⟨S5, eb.trans e5, s5, (wff h5)⟩
  · have ei : i = xs.length := by omega
    subst ei
    rw [List.drop_length] at h2
    exact .inl ⟨y2 (Nat.le_refl _), im _ _ h2.2 H2 _ (e1.trans e2) s2 (.ref D)⟩
theorem j_lc {elt tg iter : Expr} {ifs : List Expr} {scope : Scope} {own : List (Str × Nat)} {wi : WI} {g : WG} {tt : WT} {te : WE} (hc : X.calm = true) (hN : X.N.Nodup) (hi : JI B X tg iter wi) (ok : BlkOk X.N X.env.scope scope own)
    (hg : ∀ (s : Shared) (H : Hp) (C : Addr) (cl : List (Str × Addr)) (fp : List Addr), JG (X.blk s H scope (compEnvC scope cl C X.env) fp) tg (own.map (·.2)) g) (ht : ∀ (s : Shared) (H : Hp) (C : Addr) (cl : List (Str × Addr)) (fp : List Addr), JTs B (X.blk s H scope (compEnvC scope cl C X.env) fp) ifs tt)
    (he : ∀ (s : Shared) (H : Hp) (C : Addr) (cl : List (Str × Addr)) (fp : List Addr), JE B (X.blk s H scope (compEnvC scope cl C X.env) fp) elt te) (hs : ∀ x, foldedSetIterable iter X.env x = pure x := by intro _; rfl) :
    JE B X (.ListComp elt [⟨tg, iter, ifs, 0⟩] scope pos) (wLc wi g tt te (own.map (·.2))) := pe_imp (pe_lc (g := LG X (own.map fun (p : Str × Nat) => p.2) g) (tt := LT B X tt) (te := LE B X te) hc hN hi ok (fun s H C cl fp => hg s H C cl fp) (fun s H C cl fp => ht s H C cl fp) (fun s H C cl fp => he s H C cl fp) hs) fun σ H Q h => le_lc h
/-- name = [..] on one line -/
theorem js_setLc {i : Nat} {y : Str} {py : Pos} {elt tg iter : Expr} {ifs : List Expr} {scope : Scope} {own : List (Str × Nat)} {spos : Pos} {wi : WI} {g : WG} {tt : WT} {te : WE} (hc : X.calm = true) (hN : X.N.Nodup) (hy : X.N[i]? = some y) (hyl : X.env.scope.names.lookup y = some .local)
    (hsw : swapsWith (.ListComp elt [⟨tg, iter, ifs, 0⟩] scope pos) (some (.Name y py)) spos.line X.env = pure true) (hi : JI B X tg iter wi) (ok : BlkOk X.N X.env.scope scope own)
    (hg : ∀ (s : Shared) (H : Hp) (C : Addr) (cl : List (Str × Addr)) (fp : List Addr), JG (X.blk s H scope (compEnvC scope cl C X.env) fp) tg (own.map (·.2)) g) (ht : ∀ (s : Shared) (H : Hp) (C : Addr) (cl : List (Str × Addr)) (fp : List Addr), JTs B (X.blk s H scope (compEnvC scope cl C X.env) fp) ifs tt)
    (he : ∀ (s : Shared) (H : Hp) (C : Addr) (cl : List (Str × Addr)) (fp : List Addr), JE B (X.blk s H scope (compEnvC scope cl C X.env) fp) elt te) (hs : ∀ x, foldedSetIterable iter X.env x = pure x := by intro _; rfl) :
    JS B X (.Assign [.Name y py] (.ListComp elt [⟨tg, iter, ifs, 0⟩] scope pos) spos) (wSet i (wLc wi g tt te (own.map (·.2)))) := ps_imp (ps_setLc (g := LG X (own.map fun (p : Str × Nat) => p.2) g) (tt := LT B X tt) (te := LE B X te) hc hN hy hyl hsw hi ok (fun s H C cl fp => hg s H C cl fp) (fun s H C cl fp => ht s H C cl fp) (fun s H C cl fp => he s H C cl fp) hs) fun D σ H ⟨st, S, D0, he, hr, hs, h, im⟩ => by
  refine le_lc (Q := fun x H1 => gName i x σ H1 D.nx) ⟨st, S, _, he, hr, hs, h, fun x S1 h1 H1 v e1 s1 r1 => ?_⟩
  exact im.nx _ _ h1 H1 _ e1 s1 ((hr.mono e1).set r1 i)

/-! ### calls of the program's own defs -/
/-- arguments, state, the end, the end by an error (its class) -/
abbrev WSp := List T → Sta → (T → Sta → Prop) → (Addr → Sta → Prop) → Prop
def Lsp (tl : List Addr) (K : PySem.W.Frag) (n : Nat) (w : WSp) : Sp := fun vs H Q E => (∀ P ∈ tl, GxR.TabG H P) ∧ ∃ ts S Q0 E0, ts.length = n ∧ Reps K H ts vs ∧ St K S H ∧ w ts S Q0 E0 ∧ Im2 Q0 (fin K H Q) ∧ ∀ C S' H', E0 C S' → Ext H H' → St K S' H' → E (.ref C) none H'
theorem lsp_len {tl : List Addr} {K : PySem.W.Frag} {n : Nat} {w : WSp} {vs : List V} {H : Hp} {Q : VK} {E : XK} (h : Lsp tl K n w vs H Q E) : vs.length = n := by
  obtain ⟨_, ts, S, Q0, E0, h1, h2, _⟩ := h
  rw [← h2.length, h1]
def wCall (n : Nat) (w : WSp) (t : WA) (σ : Sl) (S : Sta) (Q : T → Sta → Prop) : Prop := t σ S fun ts S1 => ts.length = n ∧ w ts S1 Q fun _ _ => False
variable {k : Nat} {f C : Addr} {fd : FuncData} {ps : List Str} {x m : Str} {p apos : Pos} {e o : Expr} {es : List Expr} {ta : WE} {t : WA} {n : Nat} {w : WSp} {tl : List Addr}
theorem j_call (F : FnOk X.prog X.w X.K X.mg X.base CX0 k f fd ps (Lsp tl X.K n w)) (ht : ∀ P ∈ tl, GxR.TabG B P) (hr : Room k X.A) (hg : Gl X x) (hm : X.mg x = some (.ref f)) (hk : PySem.W.keepIn X.K (.ref f) = true) (hb : Binds X.K fd ps [])
    (ha : JA B X (e :: es) t) (hdb : (x == ("__debug__" : Str)) = false := by decide) (he : starEach (e :: es) X.env = (false, eval e X.env) :: starEach es X.env := by rfl) (hpl : (backTo pos (starEach es X.env)).any (·.1) = false := by rfl) :
    JE B X (.Call (.Name x p) (e :: es) [] pos) (wCall n w t) := pe_imp (pe_call F hr hg hm hk hb .nil pass0 ha hdb he hpl) fun σ H Q ⟨st, S, Q0, he, hr, hs, h, im⟩ => by
  refine ⟨st, S, _, he, hr, hs, h, fun xs S1 h1 H1 vs e1 s1 r1 => ?_⟩
  refine ⟨fun P hP => (he.trans e1).tabs P (ht P hP), xs, S1, Q0, fun _ _ => False, h1.1, by rw [List.append_nil]; exact r1, s1, h1.2, fun z S2 q => fin_ext e1 (im z S2 q), fun C S' H' q => q.elim⟩
theorem j_call0 (F : FnOk X.prog X.w X.K X.mg X.base CX0 k f fd ps (Lsp tl X.K n w)) (ht : ∀ P ∈ tl, GxR.TabG B P) (hr : Room k X.A) (hg : Gl X x) (hm : X.mg x = some (.ref f)) (hk : PySem.W.keepIn X.K (.ref f) = true) (hb : Binds X.K fd ps [])
    (hdb : (x == ("__debug__" : Str)) = false := by decide) :
    JE B X (.Call (.Name x p) [] [] pos) (wCall n w wNil) := pe_imp (pe_call0 F hr hg hm hk hb .nil pass0 hdb) fun σ H Q ⟨st, S, Q0, he, hr, hs, h, im⟩ =>
  ⟨fun P hP => he.tabs P (ht P hP), [], S, Q0, fun _ _ => False, h.1, .nil, hs, h.2, im, fun C S' H' q => q.elim⟩
end
/-! ### a def keeps its promise -/
def startT (N : List Str) (ts : List T) : Sl := ts.map some ++ List.replicate (N.length - ts.length) none
theorem start_rep {K : PySem.W.Frag} {H : Hp} {N : List Str} {ts : List T} {vs : List V} (r : Reps K H ts vs) : SlR K H (startT N ts) (L2.start N vs) := by
  have hl := r.length
  refine ⟨by unfold startT L2.start; simp [hl], fun i t q => ?_⟩
  unfold startT at q
  by_cases hi : i < ts.length
  · rw [List.getElem?_append_left (by simpa using hi), List.getElem?_map] at q
    cases e : ts[i]? with
    | none => rw [e] at q; cases q
    | some t' =>
      rw [e] at q
      cases q
      obtain ⟨v, e1, e2⟩ := r.get e
      refine ⟨v, ?_, e2⟩
      unfold L2.start
      rw [List.getElem?_append_left (by simp; omega), List.getElem?_map, e1]
      rfl
  · rw [List.getElem?_append_right (by simpa using hi), List.getElem?_replicate] at q
    split at q <;> cases q
section
variable {P : Program} {w : World} {K : PySem.W.Frag} {mg : Str → Option Value} {base : Heap}
theorem fnT {x qual : Str} {st : Stmt} {f : Addr} {fd : FuncData} {N ps : List Str} {k : Nat} {sp : WSp} {tl : List Addr} {t : WS} (F : Fun K x qual st f fd) (S : FnScope N ps (defScope st))
    (hb : ∀ (cdv : Value) (A : Around) (outer : List Env) (s : Shared) (H : Hp) (E : XK), Room k (A.deeper (envOfC qual (defScope st) s.heap.objs.size f cdv)) → cdv = fd.code → (∀ P ∈ tl, GxR.TabG H P) → JSs H (cxOf CX0 P w K mg base N qual (defScope st) f cdv A outer s H E).nox (defBody st) t)
    (hw : ∀ ts S Q E, ts.length = ps.length → sp ts S Q E → t { nx := fun _ S' => Q .non S', rt := Q } (startT N ts) S) : FnOk P w K mg base CX0 (k + 1) f fd ps (Lsp tl K ps.length sp) := by
  obtain ⟨oc, od, kV, doc, pm, an, cdv, ct, osl, rfl, lk, hcd⟩ := F.ex
  refine fn_of lk hcd S (fun vs H Q E h => lsp_len h) fun A outer s H vs Q E hr h => ?_
  obtain ⟨hT, ts, S0, Q0, E0, h1, h2, h3, h4, im, _⟩ := h
  refine ⟨_, PSs.nox (hb cdv A outer s H E hr rfl hT), ?_⟩
  exact ⟨startT N ts, S0, _, Ext.refl H, start_rep h2, h3, hw ts S0 Q0 E0 h1 h4, ⟨fun a S1 q H1 σ1 e1 s1 r1 => im _ _ q H1 _ e1 s1 .non, im, fun _ _ q => q.elim, fun _ _ q => q.elim⟩⟩
/-- another promise, less asked -/
theorem fn_imp {k : Nat} {f : Addr} {fd : FuncData} {ps : List Str} {n : Nat} {sp sp' : WSp} {tl : List Addr} (F : FnOk P w K mg base CX0 k f fd ps (Lsp tl K n sp)) (h : ∀ ts S Q E, sp' ts S Q E → sp ts S Q E) : FnOk P w K mg base CX0 k f fd ps (Lsp tl K n sp') :=
  F.imp fun vs H Q E ⟨hT, ts, S, Q0, E0, h1, h2, h3, h4, h5⟩ => ⟨hT, ts, S, Q0, E0, h1, h2, h3, h _ _ _ _ h4, h5⟩
end
/-- a law's promise: over a list of ints of at most 63, True -/
def spLaw : WSp := fun ts S Q _ => ∃ ns : List Int, ts = [.fl (ns.map .int)] ∧ ns.length ≤ 63 ∧ (∀ a, S a = none) ∧ ∀ S', Q (.bl true) S'
theorem law_sp (K : PySem.W.Frag) (H : Hp) (a : Addr) (ns : List Int) (hl : ns.length ≤ 63) (ho : Only H) (hs : SqL K H a (ns.map V.int)) : Lsp [] K 1 spLaw [.ref a] H (fun v _ => v = .bl true) fun _ _ _ => False := by
  have hf : FzL K H a (ns.map V.int) := by
    rcases hs with (h | ⟨o, h⟩) | h
    · rcases ho a with z | ⟨ob, xs, z⟩
      · rw [h] at z; cases z
      · rw [h] at z; cases z
    · exact .inl ⟨o, h⟩
    · exact .inr h
  refine ⟨fun _ z => (by cases z), [.fl (ns.map .int)], fun _ => none, fun v _ => v = .bl true, fun _ _ => False, rfl, .cons (.fl hf (Reps.ints ns)) .nil, (fun b o q => by cases q), ⟨ns, rfl, hl, fun _ => rfl, fun _ => rfl⟩, fun v S e H' u _ _ r => ?_, fun _ _ _ q => q.elim⟩
  subst e
  cases r
  rfl
end Wp

set_option Elab.async false
set_option linter.all false
set_option maxRecDepth 100000
/-! a def of the text, called; sequences walked -/
namespace Wp
open PySem PySem.Spec PyProof.Rows L2
def DefT (K : PySem.W.Frag) (mg : Str → Option Value) (x : Str) (st : Stmt) (ps : List Str) : Prop := ∃ f fd, Fun K x x st f fd ∧ mg x = some (.ref f) ∧ Binds K fd ps []
def Cal (P : Program) (w : World) (K : PySem.W.Frag) (mg : Str → Option Value) (base : Heap) (tl : List Addr) (k : Nat) (x : Str) (ps : List Str) (s : WSp) : Prop :=
  ∃ f fd, FnOk P w K mg base CX0 k f fd ps (Lsp tl K ps.length s) ∧ mg x = some (.ref f) ∧ PySem.W.keepIn K (.ref f) = true ∧ Binds K fd ps []
section
variable {P : Program} {w : World} {K : PySem.W.Frag} {mg : Str → Option Value} {base : Heap} {k j : Nat} {x : Str} {st : Stmt} {ps : List Str} {s s' : WSp} {tl : List Addr}
theorem DefT.cal (D : DefT K mg x st ps) (h : ∀ f fd, Fun K x x st f fd → FnOk P w K mg base CX0 k f fd ps (Lsp tl K ps.length s)) : Cal P w K mg base tl k x ps s := by
  obtain ⟨f, fd, F, m, b⟩ := D
  exact ⟨f, fd, h f fd F, m, F.kp, b⟩
theorem Cal.mono (c : Cal P w K mg base tl j x ps s) (h : j ≤ k) : Cal P w K mg base tl k x ps s := by
  obtain ⟨f, fd, F, m, kp, b⟩ := c
  exact ⟨f, fd, F.mono h, m, kp, b⟩
theorem Cal.imp (c : Cal P w K mg base tl k x ps s) (h : ∀ ts S Q E, s' ts S Q E → s ts S Q E) : Cal P w K mg base tl k x ps s' := by
  obtain ⟨f, fd, F, m, kp, b⟩ := c
  exact ⟨f, fd, fn_imp F h, m, kp, b⟩
theorem defT_mk {f : Addr} {oc : Value} {od an : Option Addr} {osl : Array (Option Value)} {kV doc pm cdv ct : Value} (hm : mg x = some (.ref f)) (l : K.lookup f = some ⟨oc, od, .func (PySem.W.fnOf x x (defArgs st) (defBody st) (defScope st) .none kV doc pm an cdv ct), osl⟩)
    (c : PySem.W.codeIn K cdv x = true) (k : PySem.W.keepIn K (.ref f) = true)
    (h : ∀ (kV doc pm : Value) (an : Option Addr) (cdv ct : Value) (us : List Value), us.length = ps.length → bindArgs (PySem.W.fnOf x x (defArgs st) (defBody st) (defScope st) .none kV doc pm an cdv ct) ⟨us, []⟩ = pure (ps.zip us)) : DefT K mg x st ps :=
  ⟨f, _, fun_mk l c k, hm, (fun_mk l c k).binds h⟩
end
section
variable {B : Hp} {X : Cx} {x : Str} {p pos : Pos} {e : Expr} {es : List Expr} {t : WA} {te : WE} {k : Nat} {ps : List Str} {s : WSp} {tl : List Addr}
theorem j_c (c : Cal X.prog X.w X.K X.mg X.base tl k x ps s) (ht : ∀ P ∈ tl, GxR.TabG B P) (hr : Room k X.A) (hg : Gl X x) (ha : JA B X (e :: es) t) (hdb : (x == ("__debug__" : Str)) = false := by decide)
    (he : starEach (e :: es) X.env = (false, eval e X.env) :: starEach es X.env := by rfl) (hpl : (backTo pos (starEach es X.env)).any (·.1) = false := by rfl) : JE B X (.Call (.Name x p) (e :: es) [] pos) (wCall ps.length s t) := by
  obtain ⟨f, fd, F, m, kp, b⟩ := c
  exact j_call F ht hr hg m kp b ha hdb he hpl
theorem j_c0 (c : Cal X.prog X.w X.K X.mg X.base tl k x ps s) (ht : ∀ P ∈ tl, GxR.TabG B P) (hr : Room k X.A) (hg : Gl X x) (hdb : (x == ("__debug__" : Str)) = false := by decide) : JE B X (.Call (.Name x p) [] [] pos) (wCall ps.length s wNil) := by
  obtain ⟨f, fd, F, m, kp, b⟩ := c
  exact j_call0 F ht hr hg m kp b hdb
theorem j_cI {i : Int} (hg : Gl X x) (h : ∃ t, X.mg x = some (.int i t)) (hd : (x == ("__debug__" : Str)) = false := by decide) : JE B X (.Name x pos) (wC (.int i)) := by
  obtain ⟨t, h⟩ := h
  exact j_globI hg h hd
theorem j_cS {i : Str} (hg : Gl X x) (h : ∃ t, X.mg x = some (.str i t)) (hd : (x == ("__debug__" : Str)) = false := by decide) : JE B X (.Name x pos) (wC (.str i)) := by
  obtain ⟨t, h⟩ := h
  exact j_globS hg h hd
/-- a list or a tuple, walked -/
def iSeqW (te : WE) (σ : Sl) (S : Sta) (R : List T → (Sta → Prop) → Sta → Prop) : Prop := te σ S fun x S1 => match x with
  | .tup ts => R ts (fun _ => True) S1
  | .fl ts => R ts (fun _ => True) S1
  | .ref p => ∃ ts, S1 p = some (.lst ts) ∧ R ts (fun S' => S' p = some (.lst ts)) S1
  | _ => False
/-- the two sources told apart where the value has come -/
theorem pi_both {tg l : Expr} {tl : TE} (hl : PE X l tl) : PI X tg l fun σ H R => tl σ H fun x H1 => ∃ a, x = .ref a ∧ ((∃ xs, SqL X.K H1 a xs) ∧ R (Itl X.K a) H1 ∨ (∃ xs, SqT X.K H1 a xs) ∧ R (Itt X.K a) H1) := by
  refine ⟨fun pins s σ H R I h => ?_⟩
  refine thn (hl.run pins s σ H _ I h) fun v s1 ⟨x, H1, I1, r1, q1⟩ => ?_
  obtain ⟨a, e, q1⟩ := q1
  subst e
  cases r1
  rcases q1 with ⟨⟨xs, hq⟩, q⟩ | ⟨⟨xs, hq⟩, q⟩
  · obtain ⟨its, rv, p, hz⟩ := I1.list hq
    refine wpAny_pyIter_list p.isList ?_
    refine ⟨s1.heap.objs.size, [s1.heap.objs.size], _, _, H1, rfl, I1.kept (t' := s1.toks) fun b o e => Heap.get?_push_of_some _ e, turn_list a _, ⟨_, Heap.get?_push_size _ rfl, rfl, rfl⟩, fun b hb => ?_, q⟩
    have e : b = s1.heap.objs.size := by simpa using hb
    subst e
    exact I1.fpOk (Nat.le_refl _) (I1.hok.fresh (Nat.le_refl _))
  · obtain ⟨its, rv, p, hz⟩ := I1.tuple hq
    refine wpAny_pyIter_tuple (show s1.heap.IsTuple a its.toArray from p) ?_
    refine ⟨s1.heap.objs.size, [s1.heap.objs.size], _, _, H1, rfl, I1.kept (t' := s1.toks) fun b o e => Heap.get?_push_of_some _ e, turn_tuple a _, ⟨_, Heap.get?_push_size _ rfl, rfl, rfl⟩, fun b hb => ?_, q⟩
    have e : b = s1.heap.objs.size := by simpa using hb
    subst e
    exact I1.fpOk (Nat.le_refl _) (I1.hok.fresh (Nat.le_refl _))
theorem ji_seq {tg : Expr} (he : JE B X e te) : JI B X tg e (iSeqW te) := pi_imp (pi_both he) fun σ H R ⟨st, S, Q0, he, hr, hs, h, im⟩ => by
  refine ⟨st, S, _, he, hr, hs, h, fun x S1 h1 H1 v1 e1 s1 r1 => ?_⟩
  cases x with
  | tup ts =>
    cases r1 with
    | @tup a xs _ g10 g2 =>
      have g1 := sqT_of (K := X.K) g10
      refine ⟨a, rfl, .inr ⟨⟨xs, g1⟩, im _ _ _ h1 H1 e1 s1 _ fun i S2 H2 e2 s2 _ => ⟨fun hi => ?_, fun hi => ⟨xs, e2.sqT g1, by rw [← g2.length]; exact hi⟩, fun x H' y hi => ?_⟩⟩⟩
      · obtain ⟨v, g3, _⟩ := g2.get (List.getElem?_eq_getElem hi)
        exact ⟨xs, v, e2.sqT g1, g3⟩
      · obtain ⟨eH, y⟩ := y
        subst eH
        obtain ⟨v, g3, g4⟩ := g2.get (List.getElem?_eq_getElem hi)
        have ev : x = v := Option.some.inj ((y xs (e2.sqT g1)).symm.trans g3)
        subst ev
        exact ⟨Ext.refl _, s2, fun _ _ q => q, _, List.getElem?_eq_getElem hi, Rep.mono e2 _ _ g4⟩
  | fl ts =>
    cases r1 with
    | @fl a xs _ g1 g2 =>
      refine ⟨a, rfl, .inl ⟨⟨xs, g1.sq⟩, im _ _ _ h1 H1 e1 s1 _ fun i S2 H2 e2 s2 _ => ⟨fun hi => ?_, fun hi => ⟨xs, (e2.fzL g1).sq, by rw [← g2.length]; exact hi⟩, fun x H' y hi => ?_⟩⟩⟩
      · obtain ⟨v, g3, _⟩ := g2.get (List.getElem?_eq_getElem hi)
        exact ⟨xs, v, (e2.fzL g1).sq, g3⟩
      · obtain ⟨eH, y⟩ := y
        subst eH
        obtain ⟨v, g3, g4⟩ := g2.get (List.getElem?_eq_getElem hi)
        have ev : x = v := Option.some.inj ((y xs ((e2.fzL g1).sq)).symm.trans g3)
        subst ev
        exact ⟨Ext.refl _, s2, fun _ _ q => q, _, List.getElem?_eq_getElem hi, Rep.mono e2 _ _ g4⟩
  | ref p =>
    obtain ⟨ts, eS, h1⟩ := h1
    cases r1
    obtain ⟨xs0, g10, g20⟩ := s1 p _ eS
    refine ⟨p, rfl, .inl ⟨⟨xs0, .inl (.inl g10)⟩, im _ _ _ h1 H1 e1 s1 _ fun i S2 H2 e2 s2 stb => ?_⟩⟩
    obtain ⟨xs, g1, g2⟩ := s2 p _ stb
    refine ⟨fun hi => ?_, fun hi => ⟨xs, .inl (.inl g1), by rw [← g2.length]; exact hi⟩, fun x H' y hi => ?_⟩
    · obtain ⟨v, g3, _⟩ := g2.get (List.getElem?_eq_getElem hi)
      exact ⟨xs, v, .inl (.inl g1), g3⟩
    · obtain ⟨eH, y⟩ := y
      subst eH
      obtain ⟨v, g3, g4⟩ := g2.get (List.getElem?_eq_getElem hi)
      have ev : x = v := Option.some.inj ((y xs (.inl (.inl g1))).symm.trans g3)
      subst ev
      exact ⟨Ext.refl _, s2, fun _ _ q => q, _, List.getElem?_eq_getElem hi, g4⟩
  | _ => exact h1.elim
end
/-! ### a law's last lines -/
theorem law_walk {l : PySem.W.OpenLaw} {k : Nat} {q : Program} {loose : List Str} {XP : (Str → Option Value) → Heap → Prop} {YP : World → Heap → Prop} {d : DefRec} {K : Params → PySem.W.Frag} {x : Str}
    (hn : l.most = some 63) (hdf : d.params.defaults = []) (hr : Room k callerA)
    (hY : ∀ (w : World) (h : Heap), YP w h → (K w.params).In h)
    (F : ∀ (w : World) (mg : Str → Option Value) (fa : Addr) (h : Heap), (K w.params).In h → h.Ns mainGlobals mg → mg d.name = some (.ref fa) →
      ∃ fd : FuncData, (∀ (s : Shared) (u : Value), BindsTo s fd ⟨[u], []⟩ [(x, u)]) ∧
        ∀ base : Heap, (K w.params).In base → base.Ns mainGlobals mg → FnOk l.prog w (K w.params) mg base CX0 k fa fd [x] (Lsp [] (K w.params) 1 spLaw)) :
    PySem.W.WalkO q loose XP YP l.row.toRowW d [] (fun f vs => PySem.call f vs) :=
  L2.walk_ofK (CX := CX0) (sp := fun K => Lsp [] K 1 spLaw) hn (by decide) hdf hr hY F (fun K H a ns hl ho hs => law_sp K H a ns hl ho hs) fun H s e s' h => h
end Wp

set_option Elab.async false
set_option linter.all false
set_option maxRecDepth 100000
/-! more built-ins, methods of lists -/
namespace Wp
open PySem PySem.Spec PyProof.Rows L2
section
variable {B : Hp} {X : Cx} {a b : Expr} {ta tb : WE} {pos : Pos}
/-- list(range(n)) -/
def wLstRg (ta : WE) (σ : Sl) (S : Sta) (Q : T → Sta → Prop) : Prop := ta σ S fun x S1 => match x with
  | .int n => (n ≤ 2 ^ 24 ∧ -(2 ^ 62) ≤ n) ∧ ∀ p, S1 p = none → Q (.ref p) (upS S1 p (.lst (rangeT 0 n.toNat)))
  | _ => False
theorem rangeT_rep {K : PySem.W.Frag} {H : Hp} (lo : Int) : ∀ (l : List Nat), Reps K H (l.map fun (i : Nat) => T.int (lo + (i : Int))) (l.map fun (i : Nat) => V.int (lo + (i : Nat)))
  | [] => .nil
  | i :: l => .cons (.int _) (rangeT_rep lo l)
theorem j_listRg1 {p p2 pos2 : Pos} (hg : Gl X "list") (hm : X.mg "list" = none) (hg2 : Gl X "range") (hm2 : X.mg "range" = none) (hc : X.calm = true) (ha : JE B X a ta) (na : starEach [a] X.env = (false, eval a X.env) :: starEach [] X.env := by rfl)
    (na2 : starEach [.Call (.Name "range" p2) [a] [] pos2] X.env = (false, eval (.Call (.Name "range" p2) [a] [] pos2) X.env) :: starEach [] X.env := by rfl) : JE B X (.Call (.Name "list" p) [.Call (.Name "range" p2) [a] [] pos2] [] pos) (wLstRg ta) :=
  pe_imp (pe_listRg hc hg hm (prg_1 hg2 hm2 ha na) na2) fun σ H Q ⟨st, S, Q0, he, hr, hs, h, im⟩ => by
    refine ⟨st, S, _, he, hr, hs, h, fun x S1 h1 H1 v e1 s1 r1 => ?_⟩
    cases x with
    | int n =>
      cases r1
      refine ⟨n, rfl, ⟨by omega, by omega, by have := h1.1.2; omega, by have := h1.1.1; omega, by have := h1.1.1; omega⟩, fun q hq => ?_⟩
      have rr : Reps X.K H1 (rangeT 0 n.toNat) (rgV 0 n) := by
        unfold rangeT rgV
        rw [show (n - 0).toNat = n.toNat by rw [Int.sub_zero]]
        exact rangeT_rep 0 _
      obtain ⟨e2, s2⟩ := s1.newL hq rr
      exact im _ _ (h1.2 q (s1.free hq)) _ _ (e1.trans e2) s2 (.ref q)
    | _ => exact h1.elim
/-- is of bools -/
def rBIs (neg : Bool) (x : T) (y : T) (S : Sta) (Q : T → Sta → Prop) : Prop := match x, y with
  | .bl a, .bl b => Q (.bl (neg != (a == b))) S
  | _, _ => False
theorem o_isB : OpT X (compareOp .Is) (rBIs false) := by
  intro pins s σ H x y v u Q I rx ry ⟨a, b, S, Q0, ra, rb, hs, q, im⟩
  match a, b, q with
  | .bl a, .bl b, q =>
    cases ra
    cases rb
    refine op_isBl pins s σ H _ _ v u Q I rx ry ⟨a, b, rfl, rfl, ?_⟩
    have e : decide (a = b) = (false != (a == b)) := by cases a <;> cases b <;> rfl
    rw [e]
    exact im _ _ q H _ (Ext.refl H) hs (.bl _)
theorem o_notB : OpT X (compareOp .IsNot) (rBIs true) := by
  intro pins s σ H x y v u Q I rx ry ⟨a, b, S, Q0, ra, rb, hs, q, im⟩
  match a, b, q with
  | .bl a, .bl b, q =>
    cases ra
    cases rb
    refine op_notBl pins s σ H _ _ v u Q I rx ry ⟨a, b, rfl, rfl, ?_⟩
    have e : (!decide (a = b)) = (true != (a == b)) := by cases a <;> cases b <;> rfl
    rw [e]
    exact im _ _ q H _ (Ext.refl H) hs (.bl _)
/-! ### methods of a list that may change -/
abbrev RM3 := T → List T → Sta → (T → Sta → Prop) → Prop
def LM (K : PySem.W.Frag) (r : RM3) : V → List V → Hp → VK → Prop := fun x xs H Q => ∃ t ts S Q0, Rep K H t x ∧ Reps K H ts xs ∧ St K S H ∧ r t ts S Q0 ∧ Im2 Q0 (fin K H Q)
def wMt (r : RM3) (to : WE) (t : WA) (σ : Sl) (S : Sta) (Q : T → Sta → Prop) : Prop := to σ S fun x S1 => match x with
  | .ref p => (∃ xs, S1 p = some (.lst xs)) ∧ t σ S1 fun ts S2 => r (.ref p) ts S2 Q
  | _ => False
variable {o e : Expr} {es : List Expr} {to : WE} {t : WA} {name : Str} {apos cpos : Pos} {id : String} {r : RM3}
theorem j_mtL (slot : Slot "list" name id) (hty : typeOf (.builtin id) = pure (.type "method_descriptor")) (hm : MtR X id (LM X.K r)) (ho : JE B X o to) (ha : JA B X (e :: es) t)
    (hbase : attributeBase o name X.env (eval o X.env) = eval o X.env := by rfl)
    (hfew : ((backTo cpos (starEach (e :: es) X.env)).all (fun x => !x.1) && (backToKw cpos (keywordEach [] X.env)).all (fun x => x.1.isSome)
      && decide ((e :: es).length + ([] : List Keyword).length + (if ([] : List Keyword).isEmpty then 0 else 1) < 30)) = true := by rfl)
    (hline : (apos.endLine == cpos.line) = true := by rfl) (hs : starEach (e :: es) X.env = (false, eval e X.env) :: starEach es X.env := by rfl) (hplain : (backTo cpos (starEach es X.env)).any (·.1) = false := by rfl) :
    JE B X (.Call (.Attribute o name apos) (e :: es) [] cpos) (wMt r to t) := pe_imp (pe_bm PySem.F.plainAttrs_list slot hty hm ho ha hbase hfew hline hs hplain) fun σ H Q ⟨st, S, Q0, he, hr, hs, h, im⟩ => by
  refine ⟨st, S, _, he, hr, hs, h, fun x S1 h1 H1 v e1 s1 r1 => ?_⟩
  cases x with
  | ref p =>
   obtain ⟨⟨xs, e2⟩, h1⟩ := h1
   cases r1
   obtain ⟨ys, g1, g2⟩ := s1 p _ e2
   refine ⟨.inl ⟨rfl, ys, .inl (.inl g1)⟩, st, S1, _, he.trans e1, hr.mono e1, s1, h1, fun ts S2 h2 H2 vs e3 s3 r3 => ?_⟩
   exact ⟨_, ts, S2, Q0, .ref p, r3, s3, h2, fun z S4 q => fin_ext (e1.trans e3) (im z S4 q)⟩
  | _ => exact h1.elim
theorem j_mtL0 (slot : Slot "list" name id) (hty : typeOf (.builtin id) = pure (.type "method_descriptor")) (hm : MtR X id (LM X.K r)) (ho : JE B X o to)
    (hbase : attributeBase o name X.env (eval o X.env) = eval o X.env := by rfl) (hline : (apos.endLine == cpos.line) = true := by rfl) :
    JE B X (.Call (.Attribute o name apos) [] [] cpos) (wMt r to wNil) := pe_imp (pe_bm0 PySem.F.plainAttrs_list slot hty hm ho hbase hline) fun σ H Q ⟨st, S, Q0, he, hr, hs, h, im⟩ => by
  refine ⟨st, S, _, he, hr, hs, h, fun x S1 h1 H1 v e1 s1 r1 => ?_⟩
  cases x with
  | ref p =>
   obtain ⟨⟨xs, e2⟩, h1⟩ := h1
   cases r1
   obtain ⟨ys, g1, g2⟩ := s1 p _ e2
   refine ⟨.inl ⟨rfl, ys, .inl (.inl g1)⟩, ?_⟩
   exact ⟨_, [], S1, Q0, .ref p, .nil, s1, h1, fun z S4 q => fin_ext e1 (im z S4 q)⟩
  | _ => exact h1.elim
def rAppendT (x : Wp.T) (ts : List Wp.T) (S : Sta) (Q : Wp.T → Sta → Prop) : Prop := match x, ts with
  | .ref p, [t] => ∃ xs, S p = some (.lst xs) ∧ xs.length < sizeLine ∧ Q .non (upS S p (.lst (xs ++ [t])))
  | _, _ => False
theorem m_append : MtR X "list.append" (LM X.K rAppendT) := by
  intro pins s σ H x xs v us Q I rx rxs ⟨t, ts, S, Q0, rt, rts, hs, q, im⟩
  match t, ts, q with
  | .ref p, [y], ⟨zs, e, hl, q⟩ =>
    cases rt
    obtain ⟨w, rfl, rw'⟩ := rts.one
    obtain ⟨ys, g1, g2⟩ := hs p _ e
    obtain ⟨e2, s2⟩ := hs.setL g1 (Reps.append g2 (.cons rw' .nil))
    exact mt_append pins s σ H _ _ v us Q I rx rxs ⟨p, ys, w, rfl, rfl, g1, by rw [← g2.length]; exact hl, im _ _ q _ _ e2 s2 .non⟩
def rExtendT (x : Wp.T) (ts : List Wp.T) (S : Sta) (Q : Wp.T → Sta → Prop) : Prop := match x, ts with
  | .ref p, [.ref p2] => ∃ xs, S p = some (.lst xs) ∧ ∃ ys, S p2 = some (.lst ys) ∧ xs.length + ys.length ≤ sizeLine ∧ Q .non (upS S p (.lst (xs ++ ys)))
  | _, _ => False
theorem m_extend : MtR X "list.extend" (LM X.K rExtendT) := by
  intro pins s σ H x xs v us Q I rx rxs ⟨t, ts, S, Q0, rt, rts, hs, q, im⟩
  match t, ts, q with
  | .ref p, [.ref p2], ⟨zs, e, ws, e', hl, q⟩ =>
    cases rt
    obtain ⟨w, rfl, rw'⟩ := rts.one
    cases rw'
    obtain ⟨ys, g1, g2⟩ := hs p _ e
    obtain ⟨vs, g3, g4⟩ := hs p2 _ e'
    obtain ⟨e2, s2⟩ := hs.setL g1 (Reps.append g2 g4)
    exact mt_extend pins s σ H _ _ v us Q I rx rxs ⟨p, p2, ys, vs, rfl, rfl, g1, g3, by rw [← g2.length, ← g4.length]; exact hl, im _ _ q _ _ e2 s2 .non⟩
def rReverseT (x : Wp.T) (ts : List Wp.T) (S : Sta) (Q : Wp.T → Sta → Prop) : Prop := match x, ts with
  | .ref p, [] => ∃ xs, S p = some (.lst xs) ∧ Q .non (upS S p (.lst xs.reverse))
  | _, _ => False
theorem m_reverse : MtR X "list.reverse" (LM X.K rReverseT) := by
  intro pins s σ H x xs v us Q I rx rxs ⟨t, ts, S, Q0, rt, rts, hs, q, im⟩
  match t, ts, q with
  | .ref p, [], ⟨zs, e, q⟩ =>
    cases rt
    cases rts
    obtain ⟨ys, g1, g2⟩ := hs p _ e
    obtain ⟨e2, s2⟩ := hs.setL g1 g2.reverse
    exact mt_reverse pins s σ H _ _ v us Q I rx rxs ⟨p, ys, rfl, rfl, g1, im _ _ q _ _ e2 s2 .non⟩
/-- xs.index(x), x in it, flat -/
def rIndexT (x : Wp.T) (ts : List Wp.T) (S : Sta) (Q : Wp.T → Sta → Prop) : Prop := match x, ts with
  | .ref p, [y] => ∃ xs, S p = some (.lst xs) ∧ flatT y = true ∧ xs.all flatT = true ∧ ∃ (j : Nat) (z : Wp.T), xs[j]? = some z ∧ eqF z y = true ∧ (∀ (m : Nat) (z' : Wp.T), m < j → xs[m]? = some z' → eqF z' y = false) ∧ Q (.int (j : Nat)) S
  | _, _ => False
theorem m_index : MtR X "list.index" (LM X.K rIndexT) := by
  intro pins s σ H x xs v us Q I rx rxs ⟨t, ts, S, Q0, rt, rts, hs, q, im⟩
  match t, ts, q with
  | .ref p, [y], ⟨zs, e, f1, f2, j, z, ej, ez, hno, q⟩ =>
    cases rt
    obtain ⟨w, rfl, rw'⟩ := rts.one
    obtain ⟨ys, g1, g2⟩ := hs p _ e
    obtain ⟨zv, g3, g4⟩ := g2.get ej
    have fz : flatT z = true := List.all_eq_true.mp f2 z (List.mem_of_getElem? ej)
    refine mt_index pins s σ H _ _ v us Q I rx rxs ⟨p, ys, w, j, zv, rfl, rfl, .inl (.inl g1), flat_rep rw' f1, flats_rep g2 f2, g3, by rw [eqF_rep g4 rw' fz f1]; exact ez, fun m z' hm hz' => ?_, im _ _ q _ _ (Ext.refl H) hs (.int _)⟩
    obtain ⟨zt, g5, g6⟩ := g2.getV hz'
    rw [eqF_rep g6 rw' (List.all_eq_true.mp f2 zt (List.mem_of_getElem? g5)) f1]
    exact hno m zt hm g5
/-! ### sum of ints, ord, divmod -/
def rSumI (xs : List T) (S : Sta) (Q : T → Sta → Prop) : Prop := match xs with
  | [.ref p] => ∃ ns : List Int, S p = some (.lst (ns.map .int)) ∧ Q (.int ns.sum) S
  | _ => False
theorem c_sumI (hc : X.calm = true) : CallR X (.builtin "sum") (LC X.K rSumI) := by
  intro pins s σ H xs us Q I rx ⟨ts, S, Q0, r, hs, q, im⟩
  match ts, q with
  | [.ref p], ⟨ns, e, q⟩ =>
    obtain ⟨v, rfl, r1⟩ := r.one
    cases r1
    obtain ⟨ys, g1, g2⟩ := hs p _ e
    have ey := g2.intsV
    subst ey
    exact cr_sum hc pins s σ H _ us Q I rx ⟨p, ns, rfl, .inl (.inl g1), im _ _ q _ _ (Ext.refl H) hs (.int _)⟩
def rOrd (xs : List T) (S : Sta) (Q : T → Sta → Prop) : Prop := match xs with
  | [.str z] => z.length = 1 ∧ Q (.int (z.cps.getD 0 0 : Nat)) S
  | _ => False
theorem c_ord : CallR X (.builtin "ord") (LC X.K rOrd) := by
  intro pins s σ H xs us Q I rx ⟨ts, S, Q0, r, hs, q, im⟩
  match ts, q with
  | [.str z], q =>
    obtain ⟨v, rfl, r1⟩ := r.one
    cases r1
    exact call_ord pins s σ H _ us Q I rx ⟨z, rfl, q.1, im _ _ q.2 _ _ (Ext.refl H) hs (.int _)⟩
def rDivmod (xs : List T) (S : Sta) (Q : T → Sta → Prop) : Prop := match xs with
  | [.int i, .int j] => (0 < j ∧ j < 1073741824) ∧ Q (.tup [.int (i / j), .int (i % j)]) S
  | _ => False
theorem c_divmod : CallR X (.builtin "divmod") (LC X.K rDivmod) := by
  intro pins s σ H xs us Q I rx ⟨ts, S, Q0, r, hs, q, im⟩
  match ts, q with
  | [.int i, .int j], q =>
    obtain ⟨v, w, rfl, r1, r2⟩ := r.two
    cases r1
    cases r2
    exact call_divmod pins s σ H _ us Q I rx ⟨i, j, rfl, q.1, fun p hp => im _ _ q.2 _ _ (Ext.new hp) (hs.new hp _) (.tup upd_same (.cons (.int _) (.cons (.int _) .nil)))⟩
end
end Wp

set_option Elab.async false
set_option linter.all false
set_option maxRecDepth 100000
/-! lemmas for the reading's simplification -/
namespace Wp
open PySem PySem.Spec PyProof.Rows L2
theorem cmul_l {i j : Int} (h1 : -(2 ^ 64) < i) (h2 : i < 2 ^ 64) : CMul i j = True := eq_true (.inl ⟨h1, h2⟩)
theorem cmul_r {i j : Int} (h1 : -(2 ^ 64) < j) (h2 : j < 2 ^ 64) : CMul i j = True := eq_true (.inr ⟨h1, h2⟩)
theorem ex_some {α : Type} {a : α} {P : α → Prop} : (∃ v, some (some a) = some (some v) ∧ P v) = P a := by
  apply propext
  constructor
  · rintro ⟨v, e, h⟩; cases e; exact h
  · intro h; exact ⟨a, rfl, h⟩
theorem ex_some1 {α : Type} {a : α} {P : α → Prop} : (∃ v, some a = some v ∧ P v) = P a := by
  apply propext
  constructor
  · rintro ⟨v, e, h⟩; cases e; exact h
  · intro h; exact ⟨a, rfl, h⟩
theorem ex_eq {α : Type} {a : α} {P : α → Prop} : (∃ v, a = v ∧ P v) = P a := by
  apply propext
  constructor
  · rintro ⟨v, e, h⟩; cases e; exact h
  · intro h; exact ⟨a, rfl, h⟩
theorem cpow_lit {i j : Int} (h1 : 0 ≤ j) (h2 : j ≤ 1000000) (h3 : i.natAbs < 2 ^ 64) : CPow i j = True := eq_true ⟨h1, h2, h3⟩
theorem size_le {n : Nat} (h : n ≤ 10000000) : (n ≤ sizeLine) = True := eq_true (Nat.le_trans h (by rw [sizeLine_eq]; decide))
theorem size_lt {n : Nat} (h : n < 10000000) : (n < sizeLine) = True := eq_true (Nat.lt_of_lt_of_le h (by rw [sizeLine_eq]; decide))
theorem itemsT_ref {S : Sta} {p : Addr} {ts : List T} (h : S p = some (.lst ts)) : itemsT S (.ref p) = some ts := by simp only [itemsT, h]
theorem tyT_ref {S : Sta} {p : Addr} {ts : List T} (h : S p = some (.lst ts)) : tyT S (.ref p) = some "list" := by simp only [tyT, h]
theorem atI_zero {α : Type} {x : α} {xs : List α} : atI (x :: xs) 0 = some x := atI_nat (j := 0) rfl
theorem atI_lit {α : Type} {xs : List α} {j : Nat} : atI xs ((j : Nat) : Int) = xs[j]? := by
  unfold atI ixN
  by_cases h : j < xs.length
  · rw [if_pos (by omega), if_pos (by omega)]
    simp
  · rw [if_pos (by omega), if_neg (by omega)]
    simp
    omega
theorem atI_0 {α : Type} {xs : List α} : atI xs 0 = xs[0]? := atI_lit (j := 0)
theorem atI_1 {α : Type} {xs : List α} : atI xs 1 = xs[1]? := atI_lit (j := 1)
theorem atI_2 {α : Type} {xs : List α} : atI xs 2 = xs[2]? := atI_lit (j := 2)
theorem atI_3 {α : Type} {xs : List α} : atI xs 3 = xs[3]? := atI_lit (j := 3)
theorem atI_4 {α : Type} {xs : List α} : atI xs 4 = xs[4]? := atI_lit (j := 4)
theorem atI_5 {α : Type} {xs : List α} : atI xs 5 = xs[5]? := atI_lit (j := 5)
theorem atI_6 {α : Type} {xs : List α} : atI xs 6 = xs[6]? := atI_lit (j := 6)
/-- an item at an open place in bounds -/
theorem atI_in {α : Type} {xs : List α} {i : Int} (h0 : 0 ≤ i) (h1 : i < xs.length) : ∃ x, atI xs i = some x ∧ x ∈ xs := by
  obtain ⟨n, rfl⟩ : ∃ n : Nat, i = n := ⟨i.toNat, by omega⟩
  rw [atI_lit]
  have h : n < xs.length := by omega
  exact ⟨xs[n], List.getElem?_eq_getElem h, List.getElem_mem h⟩
theorem ixN_lit {n j : Nat} (h : j < n) : ixN n ((j : Nat) : Int) = some j := by
  unfold ixN
  rw [if_pos (by omega), if_pos (by omega)]
  simp
theorem ixN_0 {n : Nat} : ixN (n + 1) 0 = some 0 := ixN_lit (j := 0) (by omega)
theorem ixN_1 {n : Nat} : ixN (n + 2) 1 = some 1 := ixN_lit (j := 1) (by omega)
theorem ixN_2 {n : Nat} : ixN (n + 3) 2 = some 2 := ixN_lit (j := 2) (by omega)
theorem rangeT_mem {n : Nat} {t : T} (h : t ∈ rangeT 0 n) : ∃ i : Nat, i < n ∧ t = .int i := by
  unfold rangeT at h
  obtain ⟨i, hi, e⟩ := List.mem_map.mp h
  exact ⟨i, List.mem_range.mp hi, by rw [← e, Int.zero_add]⟩
theorem eqvAll_ints : ∀ (ns ms : List Int), PyData.eqvAll (ns.map PyData.int) (ms.map PyData.int) = (ns == ms)
  | [], [] => by simp only [List.map_nil, PyData.eqvAll]; rfl
  | [], m :: ms => by simp only [List.map_nil, List.map_cons, PyData.eqvAll]; rfl
  | n :: ns, [] => by simp only [List.map_nil, List.map_cons, PyData.eqvAll]; rfl
  | n :: ns, m :: ms => by
    simp only [List.map_cons, PyData.eqvAll, PyData.eqv, eqvAll_ints ns ms]
    rfl
theorem toDs_ints : ∀ ns : List Int, toDs (ns.map T.int) = some (ns.map PyData.int)
  | [] => by simp only [List.map_nil, toDs]
  | n :: ns => by simp only [List.map_cons, toDs, toD, toDs_ints ns]
theorem layAll_ints : ∀ ns : List Int, PyData.canLayAll0 (ns.map PyData.int) = true
  | [] => by simp only [List.map_nil, PyData.canLayAll0]
  | n :: ns => by simp only [List.map_cons, PyData.canLayAll0, PyData.canLay0, layAll_ints ns, Bool.and_self]
theorem depAll_ints : ∀ ns : List Int, PyData.depthAll (ns.map PyData.int) ≤ 1
  | [] => by simp only [List.map_nil, PyData.depthAll]; omega
  | n :: ns => by
    have := depAll_ints ns
    simp only [List.map_cons, PyData.depthAll, PyData.depth]
    omega
theorem shaped_ints (ns : List Int) : SeqAt.shaped (.list (ns.map PyData.int)) = true := by
  have h := depAll_ints ns
  unfold SeqAt.shaped
  rw [Bool.and_eq_true]
  refine ⟨by simp only [PyData.canLay0]; exact layAll_ints ns, decide_eq_true ?_⟩
  simp only [PyData.depth]
  omega
theorem shaped_int (i : Int) : SeqAt.shaped (.int i) = true := by
  unfold SeqAt.shaped
  rw [Bool.and_eq_true]
  refine ⟨by simp only [PyData.canLay0], decide_eq_true ?_⟩
  simp only [PyData.depth]
  omega
theorem shaped_bool (i : Bool) : SeqAt.shaped (.bool i) = true := by
  unfold SeqAt.shaped
  rw [Bool.and_eq_true]
  refine ⟨by simp only [PyData.canLay0], decide_eq_true ?_⟩
  simp only [PyData.depth]
  omega
theorem shaped_none : SeqAt.shaped .none = true := by
  unfold SeqAt.shaped
  rw [Bool.and_eq_true]
  refine ⟨by simp only [PyData.canLay0], decide_eq_true ?_⟩
  simp only [PyData.depth]
  omega
theorem shaped_str {x : Str} (h : PyData.strOk x = true) : SeqAt.shaped (.str x) = true := by
  unfold SeqAt.shaped
  rw [Bool.and_eq_true]
  refine ⟨by simp only [PyData.canLay0]; exact h, decide_eq_true ?_⟩
  simp only [PyData.depth]
  omega
/-- == of scalars -/
def scalT : T → Bool
  | .non => true
  | .bl _ => true
  | .int _ => true
  | .str x => PyData.strOk x
  | _ => false
theorem rEq_scal {neg : Bool} {x y : T} {S : Sta} {Q : T → Sta → Prop} (hx : scalT x = true) (hy : scalT y = true) (q : Q (.bl (neg != eqF x y)) S) : rEq neg x y S Q := by
  cases x with
  | non => cases y with
    | non => exact ⟨_, rfl, _, rfl, shaped_none, shaped_none, by simpa only [PyData.eqv, eqF] using q⟩
    | bl b => exact ⟨_, rfl, _, rfl, shaped_none, shaped_bool b, by simpa only [PyData.eqv, eqF] using q⟩
    | int b => exact ⟨_, rfl, _, rfl, shaped_none, shaped_int b, by simpa only [PyData.eqv, eqF] using q⟩
    | str b => exact ⟨_, rfl, _, rfl, shaped_none, shaped_str hy, by simpa only [PyData.eqv, eqF] using q⟩
    | _ => cases hy
  | bl a => cases y with
    | non => exact ⟨_, rfl, _, rfl, shaped_bool a, shaped_none, by simpa only [PyData.eqv, eqF] using q⟩
    | bl b => exact ⟨_, rfl, _, rfl, shaped_bool a, shaped_bool b, by simpa only [PyData.eqv, eqF] using q⟩
    | int b => exact ⟨_, rfl, _, rfl, shaped_bool a, shaped_int b, by simpa only [PyData.eqv, eqF] using q⟩
    | str b => exact ⟨_, rfl, _, rfl, shaped_bool a, shaped_str hy, by simpa only [PyData.eqv, eqF] using q⟩
    | _ => cases hy
  | int a => cases y with
    | non => exact ⟨_, rfl, _, rfl, shaped_int a, shaped_none, by simpa only [PyData.eqv, eqF] using q⟩
    | bl b => exact ⟨_, rfl, _, rfl, shaped_int a, shaped_bool b, by simpa only [PyData.eqv, eqF] using q⟩
    | int b => exact ⟨_, rfl, _, rfl, shaped_int a, shaped_int b, by simpa only [PyData.eqv, eqF] using q⟩
    | str b => exact ⟨_, rfl, _, rfl, shaped_int a, shaped_str hy, by simpa only [PyData.eqv, eqF] using q⟩
    | _ => cases hy
  | str a => cases y with
    | non => exact ⟨_, rfl, _, rfl, shaped_str hx, shaped_none, by simpa only [PyData.eqv, eqF] using q⟩
    | bl b => exact ⟨_, rfl, _, rfl, shaped_str hx, shaped_bool b, by simpa only [PyData.eqv, eqF] using q⟩
    | int b => exact ⟨_, rfl, _, rfl, shaped_str hx, shaped_int b, by simpa only [PyData.eqv, eqF] using q⟩
    | str b => exact ⟨_, rfl, _, rfl, shaped_str hx, shaped_str hy, by simpa only [PyData.eqv, eqF] using q⟩
    | _ => cases hy
  | _ => cases hx
theorem rEq_ints {neg : Bool} {a b : T} {S : Sta} {ns ms : List Int} {Q : T → Sta → Prop} (ha : dd S a = some (.list (ns.map .int))) (hb : dd S b = some (.list (ms.map .int))) (q : Q (.bl (neg != (ns == ms))) S) : rEq neg a b S Q :=
  ⟨_, ha, _, hb, shaped_ints ns, shaped_ints ms, by simpa only [PyData.eqv, eqvAll_ints] using q⟩
theorem dd_ints {S : Sta} {p : Addr} {ns : List Int} (h : S p = some (.lst (ns.map T.int))) : dd S (.ref p) = some (.list (ns.map .int)) := by
  simp only [dd, h, toDs_ints, Option.map_some]
theorem eqF_int {i j : Int} : eqF (.int i) (.int j) = (i == j) := rfl
theorem rEq_int {neg : Bool} {i j : Int} {S : Sta} {Q : T → Sta → Prop} : rEq neg (.int i) (.int j) S Q = Q (.bl (neg != (i == j))) S := by
  apply propext
  constructor
  · rintro ⟨d, e1, e, e2, _, _, q⟩
    cases e1
    cases e2
    simpa only [PyData.eqv] using q
  · intro q
    exact rEq_scal rfl rfl q
theorem ex_lst {a : List T} {P : List T → Prop} : (∃ v, some (O.lst a) = some (O.lst v) ∧ P v) = P a := by
  apply propext
  constructor
  · rintro ⟨v, e, h⟩; cases e; exact h
  · intro h; exact ⟨a, rfl, h⟩
theorem ex_lst0 {a : List T} : (∃ v, some (O.lst a) = some (O.lst v)) = True := eq_true ⟨a, rfl⟩
end Wp
namespace Wp
open PySem PySem.Spec PyProof.Rows L2
/-- a comprehension whose elements change nothing -/
theorem compW_pure {te : WE} {i : Nat} {σ : Sl} {D : Addr} {Q : T → Sta → Prop} {stb : Sta → Prop} (f : T → T) (hst : ∀ S, stb S) : ∀ (xs acc : List T) (S : Sta),
    (∀ x ∈ xs, ∀ (acc' : List T) (R : T → Sta → Prop), R (f x) (upS S D (.lst acc')) → te (σ.set i (some x)) (upS S D (.lst acc')) R) → acc.length + xs.length ≤ 1000000 → Q (.ref D) (upS S D (.lst (acc ++ xs.map f))) → compW (gNm i) wYes te stb σ D Q xs (upS S D (.lst acc))
  | [], acc, S, _, _, q => by
    rw [List.map_nil, List.append_nil] at q
    exact ⟨hst _, q⟩
  | x :: xs, acc, S, h, hl, q => by
    refine ⟨hst _, wif_t (h x List.mem_cons_self acc _ ?_)⟩
    refine ⟨acc, upS_same, ?_, ?_⟩
    · rw [List.length_cons] at hl
      exact Nat.lt_of_lt_of_le (show acc.length < 10000000 by omega) (by rw [sizeLine_eq]; decide)
    · rw [upS_upS]
      refine compW_pure f hst xs (acc ++ [f x]) S (fun y hy acc' R r => h y (List.mem_cons_of_mem _ hy) acc' R r) ?_ ?_
      · rw [List.length_append, List.length_cons, List.length_nil]
        rw [List.length_cons] at hl
        omega
      · rw [List.append_assoc]
        exact q
theorem rangeT_len {n : Nat} : (rangeT 0 n).length = n := by unfold rangeT; rw [List.length_map, List.length_range]
theorem rangeT_map {n : Nat} (f : T → T) : (rangeT 0 n).map f = (List.range n).map fun (j : Nat) => f (.int j) := by
  unfold rangeT
  rw [List.map_map]
  refine List.map_congr_left fun j _ => ?_
  show f (.int (0 + (j : Int))) = _
  rw [Int.zero_add]
end Wp
namespace Wp
theorem isB_0 : isB "NoneType" "bool" = false := by decide
theorem isB_1 : isB "NoneType" "int" = false := by decide
theorem isB_2 : isB "NoneType" "str" = false := by decide
theorem isB_3 : isB "NoneType" "tuple" = false := by decide
theorem isB_4 : isB "NoneType" "list" = false := by decide
theorem isB_5 : isB "NoneType" "dict" = false := by decide
theorem isB_6 : isB "bool" "bool" = true := by decide
theorem isB_7 : isB "bool" "int" = true := by decide
theorem isB_8 : isB "bool" "str" = false := by decide
theorem isB_9 : isB "bool" "tuple" = false := by decide
theorem isB_10 : isB "bool" "list" = false := by decide
theorem isB_11 : isB "bool" "dict" = false := by decide
theorem isB_12 : isB "int" "bool" = false := by decide
theorem isB_13 : isB "int" "int" = true := by decide
theorem isB_14 : isB "int" "str" = false := by decide
theorem isB_15 : isB "int" "tuple" = false := by decide
theorem isB_16 : isB "int" "list" = false := by decide
theorem isB_17 : isB "int" "dict" = false := by decide
theorem isB_18 : isB "str" "bool" = false := by decide
theorem isB_19 : isB "str" "int" = false := by decide
theorem isB_20 : isB "str" "str" = true := by decide
theorem isB_21 : isB "str" "tuple" = false := by decide
theorem isB_22 : isB "str" "list" = false := by decide
theorem isB_23 : isB "str" "dict" = false := by decide
theorem isB_24 : isB "tuple" "bool" = false := by decide
theorem isB_25 : isB "tuple" "int" = false := by decide
theorem isB_26 : isB "tuple" "str" = false := by decide
theorem isB_27 : isB "tuple" "tuple" = true := by decide
theorem isB_28 : isB "tuple" "list" = false := by decide
theorem isB_29 : isB "tuple" "dict" = false := by decide
theorem isB_30 : isB "list" "bool" = false := by decide
theorem isB_31 : isB "list" "int" = false := by decide
theorem isB_32 : isB "list" "str" = false := by decide
theorem isB_33 : isB "list" "tuple" = false := by decide
theorem isB_34 : isB "list" "list" = true := by decide
theorem isB_35 : isB "list" "dict" = false := by decide
end Wp
namespace Wp
theorem goS_i {f : Sl → Sta → Prop} {σ : Sl} {S : Sta} (h : f σ S) : goS f σ S := h
end Wp
namespace Wp
theorem rangeT_ints {n : Nat} : rangeT 0 n = ((List.range n).map fun (j : Nat) => (j : Int)).map T.int := by
  unfold rangeT
  rw [List.map_map]
  refine List.map_congr_left fun j _ => ?_
  show T.int (0 + (j : Int)) = _
  rw [Int.zero_add]
  rfl
end Wp

set_option Elab.async false
set_option linter.all false
set_option maxRecDepth 100000
set_option maxHeartbeats 1000000
/-! all, any of a generator expression whose element is any expression -/
namespace Wp
open PySem PySem.Spec PyProof.Rows L2 GxR
/-- the context of a generator expression's frame -/
abbrev gblk (X : Cx) (A : Around) (s : Shared) (H : Hp) (cenv : Env) (fp : List Addr) (pn : List (Addr × Obj)) : Cx :=
  { X with A := A, s_0 := s, H_0 := H, env := cenv, outer := X.stack, stack := cenv :: X.stack, ex := fp, fn := fun _ => false, pn := pn, xe := fun _ _ => False }
theorem ne_of_none_left {H : Hp} {a b : Addr} {u : HO} (h : H a = none) (h' : H b = some u) : a ≠ b := by
  intro e; subst e; rw [h] at h'; cases h'
section
variable {X : Cx} {pins : List (Addr × Obj)} {σ : L2.St} {H : Hp} {s : Shared}
theorem inv_same {s' : Shared} (I : Inv X pins σ H s) (h1 : s'.heap = s.heap) (h2 : s'.os = s.os) (h3 : AllBare s'.gens) : Inv X pins σ H s' := by
  obtain ⟨hh, g, d, t, o⟩ := s'
  have e1 : hh = s.heap := h1
  have e2 : o = s.os := h2
  subst e1 e2
  exact ⟨I.ok, I.os, h3, I.base, I.loc, I.cell, I.free, I.freeC, I.pin, I.hok, I.len⟩
theorem gen_start {scope : Scope} {own : List (Str × Nat)} {fp : List Addr} {code : Value} {A : Around} {a : Addr} {go : Obj} {h5 : Heap} {gens5 : Array GenState} {tk : Nat} {m : Str → Option Value} (I : Inv X pins σ H s) (ok : BlkOk X.N X.env.scope scope own) (hN : X.N.Nodup)
    (hfp : ∀ b ∈ fp, FpOk X pins H b ∧ b < s.heap.objs.size) (nc : ∀ y ∈ scope.names, y.2 ≠ .cell) (hA : A.handled = X.A.handled)
    (hF : A.frames = some (genEnv scope (cloFrom X.env.cells scope.names []) s.heap.objs.size code builtinsNs X.env :: X.stack))
    (hn : h5.Ns s.heap.objs.size m) (hk : ∀ b o, s.heap.get? b = some o → h5.get? b = some o) (ha : h5.get? a = some go) (haC : s.heap.objs.size < a) (hgo : ∀ v, go.data ≠ .cell v) (hb : AllBare gens5) :
    Inv (gblk X A s H (genEnv scope (cloFrom X.env.cells scope.names []) s.heap.objs.size code builtinsNs X.env) fp [(a, go)]) [] (L2.wipe σ (own.map (·.2))) H { s with heap := h5, gens := gens5, toks := tk } := by
  have hfree : ∀ y ∈ scope.names, y.2 = .free → ∃ c, X.env.cells.lookup y.1 = some c := fun y hy e => by
    rcases ok.free y hy e with k | k
    · exact I.ok.has _ (.inl k)
    · exact I.ok.has _ (.inr k)
  have cm : ∀ {y c}, (y, c) ∈ cloFrom X.env.cells scope.names [] → X.env.cells.lookup y = some c ∧ c < s.heap.objs.size := fun {y c} hm => by
    rcases cloFrom_mem hm with hm | ⟨h1, rfl⟩
    · cases hm
    · obtain ⟨c, hc⟩ := hfree _ h1 rfl
      rw [hc]
      obtain ⟨w, z⟩ := I.cell _ _ hc
      exact ⟨rfl, z.lt⟩
  have mem : ∀ {y c}, (cloFrom X.env.cells scope.names []).lookup y = some c → X.env.cells.lookup y = some c ∧ c < s.heap.objs.size := fun {y c} e => cm (PySem.mem_of_lookup e)
  have look : ∀ {y}, scope.names.lookup y = some .free → ∃ c, (cloFrom X.env.cells scope.names []).lookup y = some c ∧ X.env.cells.lookup y = some c := fun {y} hl => by
    have hy : (y, NameKind.free) ∈ scope.names := PySem.mem_of_lookup hl
    obtain ⟨c', e'⟩ := mem_lookup (cloFrom_has (cells := X.env.cells) (acc := []) hy)
    exact ⟨c', e', (mem e').1⟩
  have nofr : ∀ b, s.heap.objs.size ≤ b → b ∉ frs X.stack := fun b hb hm => by
    rcases List.mem_cons.mp (I.stkSub b hm) with z | z
    · have := I.lt
      rw [z] at hb
      exact absurd (Nat.lt_of_lt_of_le this hb) (Nat.lt_irrefl _)
    · exact I.nofs hb z
  refine ⟨⟨I.ok.mod, ok.kind, I.ok.glob, rfl, Nat.le_refl _, fun y z c e1 e2 => I.ok.inj y z c (mem e1).1 (mem e2).1, fun y hy => ?_, fun y c z e => (by cases z), fun h => hA.trans (I.ok.hd h), hF, .inr ⟨rfl, rfl⟩, fun b hb => ⟨Nat.ne_of_lt (hfp b hb).2, fun y c e z => ?_⟩,
      I.bs, Nat.le_trans I.ok.bsz I.sz, fun b o e hb => ?_, fun b hb z => ?_, I.stack, I.stkFree⟩,
    rfl, hb, Un.kept hk, ⟨m, hn, fun i y av e1 e2 e3 => ?_⟩, fun y c e => ?_, I.hok.fresh (Nat.le_refl _), fun y c e => I.freeC y c (mem e).1, fun p hp => ?_, I.hok.kept hk, by rw [wipe_length]; exact I.len⟩
  · rcases hy with hy | hy
    · exact absurd rfl (nc _ (PySem.mem_of_lookup (show scope.names.lookup y = some .cell from hy)))
    · obtain ⟨c, h1, _⟩ := look hy
      exact ⟨c, h1⟩
  · exact (hfp b hb).1.2.2.2.2.1 y c (mem e).1 z
  · rcases (hfp b hb).1.2.2.2.1 with z | z
    · exact I.ok.noex b o e z
    · exact absurd (Nat.lt_of_lt_of_le (Heap.lt_size e) (Nat.le_trans I.ok.bsz z)) (Nat.lt_irrefl _)
  · rcases List.mem_cons.mp (I.stkSub b z) with z | z
    · exact (hfp b hb).1.2.1 z
    · exact (hfp b hb).1.2.2.1 z
  · obtain ⟨e2, hne⟩ := wipe_some e2
    have hfr : scope.names.lookup y = some .free := by
      have no : ∀ k, scope.names.lookup y = some k → ¬ (k = .local ∨ k = .cell) := fun k hk hh => by
        rcases ok.own _ (PySem.mem_of_lookup hk) hh with e' | e'
        · obtain ⟨p, hp, hpy⟩ := List.mem_map.mp e'
          have e3 := ok.ix p hp
          have : p.1 = y := hpy
          rw [this] at e3
          exact hne (List.mem_map.mpr ⟨p, hp, nodup_ix hN e3 e1⟩)
        · exact e' (List.mem_of_getElem? e1)
      rcases (show Vis scope y from e3) with e3 | e3 | e3
      · exact absurd (.inl rfl) (no _ e3)
      · exact absurd (.inr rfl) (no _ e3)
      · exact e3
    obtain ⟨m0, _, hl⟩ := I.loc
    have hvis : Vis X.env.scope y := (ok.free _ (PySem.mem_of_lookup hfr) rfl).elim (fun k => .inr (.inl k)) (fun k => .inr (.inr k))
    obtain ⟨w, r, q⟩ := hl i y av e1 e2 hvis
    refine ⟨w, r, .inr ⟨.inr hfr, ?_⟩⟩
    obtain ⟨c, h1, h2⟩ := look hfr
    rcases q with ⟨k, _⟩ | ⟨_, c', e', z⟩
    · have k : X.env.scope.names.lookup y = some .local := k
      rcases ok.free _ (PySem.mem_of_lookup hfr) rfl with k' | k' <;> rw [show X.env.scope.names.lookup y = _ from k'] at k <;> cases k
    · rw [h2] at e'; cases e'
      exact ⟨c, h1, z.keeps hk⟩
  · obtain ⟨w, z⟩ := I.cell y c (mem e).1
    exact ⟨w, z.keeps hk⟩
  · have e : p = (a, go) := by simpa using hp
    subst e
    exact ⟨ha, I.hok.fresh (Nat.le_of_lt haC), Nat.ne_of_gt haC, nofr _ (Nat.le_of_lt haC), hgo⟩
end
/-! ### the generator's own loop -/
def gR (X : Cx) (σ : L2.St) (g : Nat) (Q : VK) (sa : Bool) : GenEnd := fun n s₀ r s₁ => r = .ok .next ∧ (g < s₁.gens.size ∧ ∃ H', Inv X [] σ H' s₁ ∧ Q (.bl (!sa)) H')
def gY (X : Cx) (g : Nat) (Q : VK) (sa : Bool) : Protocol := fun n s₀ v s kap => ∃ b : Bool, v = .bool b ∧ g < s.gens.size ∧ ∃ H' σ', Inv X [] σ' H' s ∧ (b = sa → Q (.bl sa) H') ∧
  (b ≠ sa → ∀ s'' : Shared, s''.heap = s.heap → s''.os = s.os → AllBare s''.gens → g < s''.gens.size → kap (.send .none) s'')
/-- a turn of the reading -/
def TurnG (J : It) (gT : TG) (te : TE) (vs : List Nat) (σ : L2.St) (Q : VK) (sa : Bool) (W : Nat → Nat → Hp → Prop) : Prop := ∀ i m H, W i m H →
  (J.stop i H ∧ Q (.bl (!sa)) H) ∨ (J.go i H ∧ ∃ Nx : Hp → Prop, (∀ H', Nx H' → ∃ m', m' < m ∧ W (i + 1) m' H') ∧ ∀ x H', J.yld i H x H' → gT x (L2.wipe σ vs) H' fun σ2 H2 => L2.wipe σ2 vs = L2.wipe σ vs ∧
    te σ2 H2 fun y H4 => ∃ b : Bool, y = .bl b ∧ (b = sa → Q (.bl sa) H4) ∧ (b ≠ sa → Nx H4))
theorem seg_gl {X : Cx} {A₁ : Around} {tg iter elt : Expr} {scope : Scope} {gpos : Pos} {it : Addr} {g : Nat} {fp : List Addr} {tn : Nat → Heap → Prop} {J : It} {W : Nat → Nat → Hp → Prop} {vs : List Nat} {σ : L2.St} {Q : VK} {sa : Bool} {gT : TG} {te : TE}
    (hA : X.A = A₁.over (.compLoop (.GeneratorExp elt [⟨tg, iter, [], 0⟩] scope gpos) 0 (.ref it) .none X.env) []) (hex : X.ex = fp) (hxe : X.xe = fun _ _ => False) (hc : X.calm = true) (T : Turn X.prog X.w X.K tg J fp it tn) (hco : X.env.scope.isCoroutine = false) (pg : PG X tg gT) (pe : PE X elt te)
    (nop : ∀ b ∈ fp, ∀ p ∈ X.pn, p.1 ≠ b)
    (turn : TurnG J gT te vs σ Q sa W) :
    ∀ (n m i : Nat) (s₀ s : Shared) (H' : Hp), m < n → Inv X [] (L2.wipe σ vs) H' s → tn i s.heap → (∀ b ∈ fp, H' b = none) → W i m H' → g < s.gens.size →
      Seg (model X.prog X.w) A₁ (gR X (L2.wipe σ vs) g Q sa) (gY X g Q sa) n s₀ (.compLoop (.GeneratorExp elt [⟨tg, iter, [], 0⟩] scope gpos) 0 (.ref it) .none X.env)
        ((model X.prog X.w).den (.compLoop (.GeneratorExp elt [⟨tg, iter, [], 0⟩] scope gpos) 0 (.ref it) .none X.env)) [] s := by
  have stat : ∀ {σ' : L2.St} {H' : Hp} {s' : Shared}, Inv X [] σ' H' s' → (∀ b ∈ fp, H' b = none) → ∀ b ∈ fp, FpOk X [] H' b := fun {σ' H' s'} I' hn b hb =>
    ⟨hn b hb, (I'.ok.exf b (by rw [hex]; exact hb)).1, I'.ok.exfs b (by rw [hex]; exact hb), .inl (by rw [hex]; exact hb), fun x c e => (I'.ok.exf b (by rw [hex]; exact hb)).2 x c e, fun p hp => nop b hb p (by simpa using hp)⟩
  intro n
  induction n with
  | zero => intro m i s₀ s H' hm; exact absurd hm (Nat.not_lt_zero _)
  | succ n ih =>
    intro m i s₀ s H5 hm I5 st5 n5 w5 hg
    show Seg _ A₁ _ _ (n + 1) s₀ _ ((compTurn (.GeneratorExp elt [⟨tg, iter, [], 0⟩] scope gpos) 0 (.ref it) .none X.env).onRaise (leaving X.env)) [] s
    rw [compTurn_gen, Sem.onRaise_eq_wrap]
    refine seg_bind_wrap (wpAny_standAt ?_)
    refine seg_bind_wrap ?_
    rw [← hA]
    rcases turn i m H5 w5 with ⟨stop, qq⟩ | ⟨go, Nx, hNx, step⟩
    · refine GenW.wpAny_gsz hg (thnF (T.done X rfl rfl rfl hc i [] s _ H5 (fun _ _ => False) I5 (stat I5 n5) st5 stop) fun r s6 ⟨hr, I6⟩ g6 => ?_)
      subst hr
      exact seg_end (.ok .next) ⟨rfl, g6, H5, I6, qq⟩
    · refine GenW.wpAny_gsz hg (thnF (T.item X rfl rfl rfl hc i [] s _ H5 (fun _ _ => False) I5 (stat I5 n5) st5 go) fun r s6 ⟨u, hr, h6⟩ g6 => ?_)
      subst hr
      refine seg_bind_wrap ?_
      rw [← hA]
      refine GenW.wpAny_gsz g6 (thnF h6 fun _ s7 ⟨x, H7, I7, r7, y7, st7, n7⟩ g7 => ?_)
      have I7' := I7.pinned (stat I7 n7) (T.obj _ _ st7)
      refine seg_bind_wrap ?_
      rw [← hA]
      have pg7 := pg.run _ s7 _ H7 x u _ I7' r7 (step x H7 y7)
      have pe7 := pe.run
      rw [hxe] at pg7 pe7
      refine GenW.wpAny_gsz g7 (thnF pg7 fun _ s8 ⟨σ8, H8, I8, hw8, q8⟩ g8 => ?_)
      refine seg_bind_wrap ?_
      simp only [List.forIn_nil]
      refine wpAny_pure ?_
      simp only [if_true]
      have hy : ∀ v, yieldOut X.env v = yieldValue v := fun v => by simp only [yieldOut, hco, Bool.false_eq_true, if_false]
      simp only [hy]
      rw [Sem.bind_eq_wrap', Sem.bind_eq_wrap', Sem.wrap_wrap, Sem.wrap_wrap]
      refine seg_wrap ?_
      rw [← hA]
      refine GenW.wpAny_gsz g8 (thnF (pe7 _ s8 σ8 H8 _ I8 q8) fun y s9 ⟨yv, H9, I9, r9, b, eb, q1, q2⟩ g9 => ?_)
      subst eb
      have ey : y = Value.bool b := r9
      subst ey
      refine seg_at (seg_yield rfl rfl rfl ⟨b, rfl, g9, H9, σ8, I9.unpinned, q1, fun hb s'' e1 e2 e3 e4 => ?_⟩)
      obtain ⟨m', hm', w'⟩ := hNx H9 (q2 hb)
      have pin' : ∀ b ∈ fp, ∀ o, s7.heap.get? b = some o → s9.heap.get? b = some o ∧ H9 b = none := fun b hb o e =>
        let z := I9.pin (b, o) (List.mem_append_right _ (List.mem_append_right _ (mem_pinsAt hb e)))
        ⟨z.1, z.2.1⟩
      have hl : (L2.wipe σ vs).length = σ8.length := by rw [← hw8, wipe_length]
      have I10 : Inv X [] (L2.wipe σ vs) H9 s'' := inv_same ((I9.unpinned (pins := [])).weak hl (fun j v e => by rw [← hw8] at e; exact (wipe_some e).1)) e1 e2 e3
      refine seg_again rfl (ih m' (i + 1) s'' s'' H9 (by omega) I10 (T.keep _ _ _ st7 fun b hb o e => by rw [e1]; exact (pin' b hb o e).1) (fun b hb => ?_) w' e4)
      obtain ⟨o, e, _⟩ := T.obj _ _ st7 b hb
      exact (pin' b hb o e).2
/-! ### woken by pyNext; the consumers -/
def GReady (P : Program) (w : World) (A₁ : Around) (R : GenEnd) (Y : Protocol) (a : Addr) (g n : Nat) (s : Shared) : Prop := s.heap.IsGen a g ∧ s.heap.NoLimit ∧ AllBare s.gens ∧ ∃ gs, s.gens[g]? = some gs ∧
  ∀ s'' : Shared, s''.heap = s.heap → s''.os = s.os → AllBare s''.gens → g < s''.gens.size → gs.Goes (model P w) A₁ R Y n (.send .none) s''
section
variable {X : Cx} {A : Around} {σb : L2.St} {g : Nat} {a : Addr} {go : Obj} {Q : VK} {sa : Bool}
theorem next_g {n : Nat} {s : Shared} {E : Value → Shared → Prop} {Qn : Option Value → Shared → Prop} (hh : A.handled = none) (hroom : A.depth < recursionLimit) (hpn : X.pn = [(a, go)]) (hgo : ∃ nm qn, go.cls = .type "generator" ∧ go.data = .fields #[.int g 0, nm, qn] ∧ go.slots = #[])
    (hr : GReady X.prog X.w A.in1 (gR X σb g Q sa) (gY X g Q sa) a g n s)
    (h1 : ∀ b s' n', b ≠ sa → n = n' + 1 → GReady X.prog X.w A.in1 (gR X σb g Q sa) (gY X g Q sa) a g n' s' → Qn (some (.bool b)) s')
    (h2 : ∀ s' H' σ', Inv X [] σ' H' s' → Q (.bl sa) H' → Qn (some (.bool sa)) s') (h3 : ∀ s' H' σ', Inv X [] σ' H' s' → Q (.bl (!sa)) H' → Qn none s') : wpAny (model X.prog X.w) A (pyNext (.ref a)) Qn E s := by
  obtain ⟨hg, hl, hb, gs, hgs, hgo2⟩ := hr
  have hgl : g < s.gens.size := (Array.getElem?_eq_some_iff.mp hgs).1
  refine wpAny_pyNext_genexpQ (P := fun n s₀ s₁ => g < s₁.gens.size ∧ ∃ H', Inv X [] σb H' s₁ ∧ Q (.bl (!sa)) H') hh hl hroom hg hgs (hgo2 _ rfl rfl (allBare_setGen hb rfl) (by rw [GenW.setGen_size]; exact hgl)) (fun v s₁ gs' hbare hv => ?_) (fun s₁ hp h' hk => ?_)
  · obtain ⟨b, rfl, hg1, H', σ', I, q1, q2⟩ := hv
    by_cases e : b = sa
    · subst e
      exact h2 _ H' σ' (inv_same I rfl rfl (allBare_setGen I.bare hbare)) (q1 rfl)
    · cases n with
      | zero => exact (q2 e s₁ rfl rfl I.bare hg1 : False).elim
      | succ m =>
        obtain ⟨nm, qn, z1, z2, z3⟩ := hgo
        refine h1 b _ m e rfl ⟨⟨go, nm, qn, (I.pin (a, go) (by rw [hpn]; simp)).1, z1, z2, z3⟩, I.nolimit, allBare_setGen I.bare hbare, gs', setGen_at hg1, fun s'' e1 e2 e3 e4 => q2 e s'' e1 e2 e3 e4⟩
  · obtain ⟨hg1, H', I, q⟩ := hp
    exact h3 _ H' σb (inv_same (I.kept (t' := s₁.toks) hk) rfl rfl (allBare_setGen I.bare rfl)) q
variable {R : Result → Shared → Prop}
theorem all_g (hh : A.handled = none) (hroom : A.depth < recursionLimit) (hpn : X.pn = [(a, go)]) (hgo : ∃ nm qn, go.cls = .type "generator" ∧ go.data = .fields #[.int g 0, nm, qn] ∧ go.slots = #[])
    (hR : ∀ b s' H' σ', Inv X [] σ' H' s' → Q (.bl b) H' → R (.ok (.ret (.bool b))) s') :
    ∀ (n : Nat) (s : Shared), GReady X.prog X.w A.in1.in1 (gR X σb g Q false) (gY X g Q false) a g n s → codeAny (model X.prog X.w) A (.builtin "all.loop" ⟨[.ref a], []⟩) R s := by
  intro n
  induction n with
  | zero =>
    intro s hr
    refine codeAny_builtin F.entry_all_loop ?_
    rw [Around.under_plainId F.plain_all_loop _]
    show wpAny _ A.in1 (pyNext (.ref a) >>= _) _ _ s
    refine wpAny_bind (next_g (A := A.in1) hh hroom hpn hgo hr (fun b s' n' _ z _ => (by cases z)) (fun s' H' σ' I q => ?_) fun s' H' σ' I q => ?_)
    · refine wpAny_bind (wpAny_holding (wpAny_truthy_bool ?_))
      refine wpAny_bind (wpAny_letGo ?_)
      simp only [Bool.false_eq_true, if_false]
      exact wpAny_bind (wpAny_rule (wpAny_pure (hR false _ H' σ' I q)))
    · exact wpAny_bind (wpAny_rule (wpAny_pure (hR true _ H' σ' I q)))
  | succ n ih =>
    intro s hr
    refine codeAny_builtin F.entry_all_loop ?_
    rw [Around.under_plainId F.plain_all_loop _]
    show wpAny _ A.in1 (pyNext (.ref a) >>= _) _ _ s
    refine wpAny_bind (next_g (A := A.in1) hh hroom hpn hgo hr (fun b s' n' hb z hr' => ?_) (fun s' H' σ' I q => ?_) fun s' H' σ' I q => ?_)
    · cases z
      have eb : b = true := by cases b; exact absurd rfl hb; rfl
      subst eb
      refine wpAny_bind (wpAny_holding (wpAny_truthy_bool ?_))
      refine wpAny_bind (wpAny_letGo ?_)
      simp only [if_true]
      exact wpAny_pure ⟨plainId_quiet F.plain_all_loop _, ih _ hr'⟩
    · refine wpAny_bind (wpAny_holding (wpAny_truthy_bool ?_))
      refine wpAny_bind (wpAny_letGo ?_)
      simp only [Bool.false_eq_true, if_false]
      exact wpAny_bind (wpAny_rule (wpAny_pure (hR false _ H' σ' I q)))
    · exact wpAny_bind (wpAny_rule (wpAny_pure (hR true _ H' σ' I q)))
theorem any_g (hh : A.handled = none) (hroom : A.depth < recursionLimit) (hpn : X.pn = [(a, go)]) (hgo : ∃ nm qn, go.cls = .type "generator" ∧ go.data = .fields #[.int g 0, nm, qn] ∧ go.slots = #[])
    (hR : ∀ b s' H' σ', Inv X [] σ' H' s' → Q (.bl b) H' → R (.ok (.ret (.bool b))) s') :
    ∀ (n : Nat) (s : Shared), GReady X.prog X.w A.in1.in1 (gR X σb g Q true) (gY X g Q true) a g n s → codeAny (model X.prog X.w) A (.builtin "any.loop" ⟨[.ref a], []⟩) R s := by
  intro n
  induction n with
  | zero =>
    intro s hr
    refine codeAny_builtin F.entry_any_loop ?_
    rw [Around.under_plainId F.plain_any_loop _]
    show wpAny _ A.in1 (pyNext (.ref a) >>= _) _ _ s
    refine wpAny_bind (next_g (A := A.in1) hh hroom hpn hgo hr (fun b s' n' _ z _ => (by cases z)) (fun s' H' σ' I q => ?_) fun s' H' σ' I q => ?_)
    · refine wpAny_bind (wpAny_holding (wpAny_truthy_bool ?_))
      refine wpAny_bind (wpAny_letGo ?_)
      simp only [if_true]
      exact wpAny_bind (wpAny_rule (wpAny_pure (hR true _ H' σ' I q)))
    · exact wpAny_bind (wpAny_rule (wpAny_pure (hR false _ H' σ' I q)))
  | succ n ih =>
    intro s hr
    refine codeAny_builtin F.entry_any_loop ?_
    rw [Around.under_plainId F.plain_any_loop _]
    show wpAny _ A.in1 (pyNext (.ref a) >>= _) _ _ s
    refine wpAny_bind (next_g (A := A.in1) hh hroom hpn hgo hr (fun b s' n' hb z hr' => ?_) (fun s' H' σ' I q => ?_) fun s' H' σ' I q => ?_)
    · cases z
      have eb : b = false := by cases b; rfl; exact absurd rfl hb
      subst eb
      refine wpAny_bind (wpAny_holding (wpAny_truthy_bool ?_))
      refine wpAny_bind (wpAny_letGo ?_)
      simp only [Bool.false_eq_true, if_false]
      exact wpAny_pure ⟨plainId_quiet F.plain_any_loop _, ih _ hr'⟩
    · refine wpAny_bind (wpAny_holding (wpAny_truthy_bool ?_))
      refine wpAny_bind (wpAny_letGo ?_)
      simp only [if_true]
      exact wpAny_bind (wpAny_rule (wpAny_pure (hR true _ H' σ' I q)))
    · exact wpAny_bind (wpAny_rule (wpAny_pure (hR false _ H' σ' I q)))
end
/-! ### made -/
theorem over_gen {A : Around} {elt : Expr} {gs : List Comprehension} {sc : Scope} {p : Pos} {v u : Value} {env : Env} : A.over (.compLoop (.GeneratorExp elt gs sc p) 0 v u env) [] = A.deeper env := by
  first
    | rfl
    | (obtain ⟨hd, d, fr, gs, u⟩ := A; simp [Around.over, Around.deeper, marksOver, frameCount, unitsOf, envsOf, guardsOf, pushEnvs, pushGuards, Code.envs, Code.env?, Code.isFrame, Code.guards, Code.isGuard, Code.weight, Code.frames, Code.isCreation, Code.isCaller, Code.cUnits])
theorem seg_gs {X : Cx} {A₁ : Around} {tg iter elt : Expr} {scope : Scope} {gpos : Pos} {it : Addr} {g : Nat} {fp : List Addr} {tn : Nat → Heap → Prop} {J : It} {W : Nat → Nat → Hp → Prop} {vs : List Nat} {σ : L2.St} {Q : VK} {sa : Bool} {gT : TG} {te : TE}
    (hA : X.A = A₁.over (.compLoop (.GeneratorExp elt [⟨tg, iter, [], 0⟩] scope gpos) 0 (.ref it) .none X.env) []) (hex : X.ex = fp) (hxe : X.xe = fun _ _ => False) (hc : X.calm = true) (T : Turn X.prog X.w X.K tg J fp it tn) (hco : X.env.scope.isCoroutine = false) (pg : PG X tg gT) (pe : PE X elt te)
    (nop : ∀ b ∈ fp, ∀ p ∈ X.pn, p.1 ≠ b)
    (turn : TurnG J gT te vs σ Q sa W) (n m : Nat) (s : Shared) (H' : Hp) (hm : m < n) (I : Inv X [] (L2.wipe σ vs) H' s) (st : tn 0 s.heap) (hn : ∀ b ∈ fp, H' b = none) (w : W 0 m H') (hg : g < s.gens.size) :
      Seg (model X.prog X.w) A₁ (gR X (L2.wipe σ vs) g Q sa) (gY X g Q sa) n s (.compStart (.GeneratorExp elt [⟨tg, iter, [], 0⟩] scope gpos) 0 (.ref it) .none X.env)
        ((model X.prog X.w).den (.compStart (.GeneratorExp elt [⟨tg, iter, [], 0⟩] scope gpos) 0 (.ref it) .none X.env)) [] s := by
  have loop := seg_gl hA hex hxe hc T hco pg pe nop turn n m 0 s s H' hm I st hn w hg
  show Seg _ A₁ _ _ _ s _ ((compStart (.GeneratorExp elt [⟨tg, iter, [], 0⟩] scope gpos) 0 (.ref it) .none X.env).onRaise (leaving X.env)) [] s
  unfold compStart
  rw [Sem.onRaise_eq_wrap]
  show Seg _ A₁ _ _ _ s _ ((ask >>= _).wrap _ _ _ _) [] s
  refine seg_bind_wrap (wpAny_askSetting ?_)
  split
  · exact seg_again rfl loop
  · first
      | exact seg_bind_wrap (wpAny_rule (seg_bind_wrap (wpAny_standAt (seg_bind_wrap (T.self _ 0 s _ _ st (seg_again rfl loop))))))
      | (refine seg_bind_wrap (wpAny_rule ?_); show Seg _ A₁ _ _ _ s _ ((standAt iter.pos >>= _).wrap _ _ _ _) [] s; exact seg_bind_wrap (wpAny_standAt (seg_bind_wrap (T.self _ 0 s _ _ st (seg_again rfl loop)))))

def tAG (P : Addr) (sa : Bool) (wi : TI) (gT : TG) (te : TE) (vs : List Nat) : TE := fun σ H Q => wi σ H fun J H1 => TabG H1 P ∧ ∀ H2, Tabbed P H1 H2 → ∃ W : Nat → Nat → Hp → Prop, (∃ m, W 0 m H2) ∧ TurnG J gT te vs σ Q sa W
section
variable {X : Cx} {pins : List (Addr × Obj)} {σ : L2.St} {H : Hp} {s : Shared}
theorem gen_core {c P : Addr} {elt tg iter : Expr} {gpos : Pos} {scope : Scope} {own : List (Str × Nat)} {sa : Bool} {wi : TI} {gT : TG} {te : TE} {k : Nat} {Q : VK} {Q' : Value → Shared → Prop}
    (hr : Room (k + 1) X.A) (hc : X.calm = true) (hN : X.N.Nodup) (TB : TabB X.base X.mg c P) (hcode : X.env.code = .ref c) (ok : BlkOk X.N X.env.scope scope own) (nc : ∀ y ∈ scope.names, y.2 ≠ .cell) (hco : scope.isCoroutine = false) (dot : scope.names.lookup (".0" : Str) = some NameKind.local)
    (hi : PI X tg iter wi) (hs : ∀ v, genFold iter X.env v = pure v)
    (hg : ∀ (A : Around) (s : Shared) (H : Hp) (C : Addr) (code : Value) (fp : List Addr) (pn : List (Addr × Obj)), Room k A → PG (gblk X A s H (genEnv scope (cloFrom X.env.cells scope.names []) C code builtinsNs X.env) fp pn) tg gT)
    (he : ∀ (A : Around) (s : Shared) (H : Hp) (C : Addr) (code : Value) (fp : List Addr) (pn : List (Addr × Obj)), Room k A → PE (gblk X A s H (genEnv scope (cloFrom X.env.cells scope.names []) C code builtinsNs X.env) fp pn) elt te)
    (I : Inv X pins σ H s) (h : tAG P sa wi gT te (own.map (·.2)) σ H Q)
    (hQ : ∀ (Xb : Cx) (σb : L2.St) (a : Addr) (g : Nat) (go : Obj) (n : Nat) (s5 : Shared), Xb.prog = X.prog → Xb.w = X.w → Xb.pn = [(a, go)] → (∃ nm qn, go.cls = .type "generator" ∧ go.data = .fields #[.int g 0, nm, qn] ∧ go.slots = #[]) →
      GReady X.prog X.w X.A.in1.in1 (gR Xb σb g Q sa) (gY Xb g Q sa) a g n s5 → (∀ s' H' σ', Inv Xb [] σ' H' s' → Inv X pins σ H' s') → Q' (.ref a) s5) :
    wpAny (model X.prog X.w) X.A (eval (.GeneratorExp elt [⟨tg, iter, [], 0⟩] scope gpos) X.env) Q' X.xe s := by
  have hfree : ∀ y ∈ scope.names, y.2 = .free → ∃ c, X.env.cells.lookup y.1 = some c := fun y hy e => by
    rcases ok.free y hy e with k | k
    · exact I.ok.has _ (.inl k)
    · exact I.ok.has _ (.inr k)
  refine wpAny_GeneratorExp_make hco (closure_ok hfree) nc dot ok.kind (by have := hr.dp; omega) (thn (hi.run pins s σ H _ I h) fun xv s1 hx => thn hx fun itv s2 h2 => ?_) hs
  obtain ⟨it, fp, tn, J, H2, e, I2, T, st2, f2, hTab, q⟩ := h2
  subst e
  obtain ⟨ps, hP, ht⟩ := hTab
  have hPs : s2.heap.get? P = some { cls := .none, data := .fields ps } := I2.hok P _ hP
  have cd : PySem.W.CodeHd s2.heap c P := TB.code.keeps fun b u e => I2.bk b u e
  refine ⟨I2.nolimit, ?_⟩
  have cont : ∀ (code : Value) (h3 : Heap) (tk : Nat) (ps' : Array Value), Heap.ExtBut P s2.heap h3 → s2.heap.objs.size ≤ h3.objs.size → h3.get? P = some { cls := .none, data := .fields ps' } → (∃ more, ps' = ps ++ more) → TriplesOk ps'.toList →
      wpAny (model X.prog X.w) X.A (builtinsFor X.env.globals X.env.builtins) (fun bi s₄ =>
        ∀ h', h'.Ns s₄.heap.objs.size (fun y => if y = ".0" then some (.ref it) else none) → Heap.SameBut s₄.heap.objs.size (s₄.heap.push { cls := .type "frame", data := .dict #[] }) h' →
          Q' (.ref h'.objs.size) { s₄ with
            gens := s₄.gens.push (.fresh (.compStart (.GeneratorExp elt [⟨tg, iter, [], 0⟩] scope gpos) 0 (.ref it) .none (genEnv scope (cloFrom X.env.cells scope.names []) s₄.heap.objs.size code bi X.env))),
            toks := s₄.toks + 1 + 1 + 1,
            heap := h'.push { cls := .type "generator", data := .fields #[.int s₄.gens.size 0, .str "<genexpr>" (s₄.toks + 1), .str (X.env.qual ++ "<genexpr>") (s₄.toks + 1 + 1)] } }) X.xe { s2 with heap := h3, toks := tk } := by
    intro code h3 tk ps' hx hsz hP3 hmore ht3
    obtain ⟨bm, ob, e1, e2, e3, e4, e5, e6, e7, e8⟩ := TB.bm
    have keep3 : ∀ b u, b ≠ P → s2.heap.get? b = some u → h3.get? b = some u := fun b u hb e => hx b u hb e
    refine wpAny_builtinsFor (m := X.mg) (by rw [I2.ok.glob]; exact (I2.mod.glob.keeps I2.bk).extBut hx TB.gP) e1 e2 (keep3 _ _ e4 (I2.bk _ _ e5)) e6 e7 e8 ?_
    intro h' hn' hs'
    obtain ⟨more, em⟩ := hmore
    have I3 := inv_tab (more := more) (h' := h3) (g' := s2.gens) (d' := s2.drawn) (t' := tk) I2 hP keep3 (by rw [← em]; exact hP3) I2.bare
    have hT3 : Tabbed P H2 (upd H2 P (.tbl (ps ++ more))) := ⟨⟨ps ++ more, upd_same, by rw [← em]; exact ht3⟩, fun b hb => upd_ne hb⟩
    obtain ⟨W, ⟨m0, w0⟩, turn⟩ := q _ hT3
    generalize hH3 : upd H2 P (.tbl (ps ++ more)) = H3 at I3 w0 hT3
    have szf : ∀ b ∈ fp, b < s2.heap.objs.size := fun b hb => by
      obtain ⟨o, e, _⟩ := T.obj _ _ st2 b hb
      exact Heap.lt_size e
    have fneP : ∀ b ∈ fp, b ≠ P := fun b hb => ne_of_none_left (f2 b hb).1 hP
    have f3 : ∀ b ∈ fp, FpOk X pins H3 b ∧ b < h3.objs.size := fun b hb => by
      refine ⟨⟨?_, (f2 b hb).2⟩, Nat.lt_of_lt_of_le (szf b hb) hsz⟩
      rw [← hH3, upd_ne (fneP b hb)]
      exact (f2 b hb).1
    have hsz' : h'.objs.size = h3.objs.size + 1 := by rw [hs'.1, Heap.size_push]
    have keep5 : ∀ (o5 : Obj) b o, h3.get? b = some o → (h'.push o5).get? b = some o := fun o5 b o e => Heap.get?_push_of_some _ (hs'.extBut b o (Nat.ne_of_lt (Heap.lt_size e)) (Heap.get?_push_of_some _ e))
    have st5 : ∀ (o5 : Obj), tn 0 (h'.push o5) := fun o5 => T.keep _ _ _ st2 fun b hb o e => keep5 o5 b o (keep3 b o (fneP b hb) e)
    have hroom : Room k (X.A.in1.in1.deeper (genEnv scope (cloFrom X.env.cells scope.names []) h3.objs.size code builtinsNs X.env)) := ⟨hr.hd, by have := hr.dp; show X.A.depth + 1 + 3 * k + 5 < _; omega, by have := hr.un; show X.A.units + 1 + 1 + 3 + 16 * k + 200 < _; omega⟩
    generalize hgo : ({ cls := .type "generator", data := .fields #[.int s2.gens.size 0, .str "<genexpr>" (tk + 1), .str (X.env.qual ++ "<genexpr>") (tk + 1 + 1)] } : Obj) = go
    have hfr : go.isFreed = false := by rw [← hgo]; rfl
    have hgd : ∃ nm qn, go.cls = .type "generator" ∧ go.data = .fields #[.int s2.gens.size 0, nm, qn] ∧ go.slots = #[] := by rw [← hgo]; exact ⟨_, _, rfl, rfl, rfl⟩
    have I5 := gen_start (A := X.A.in1.in1.deeper (genEnv scope (cloFrom X.env.cells scope.names []) h3.objs.size code builtinsNs X.env)) (code := code) (a := h'.objs.size) (go := go) (h5 := h'.push go) (tk := tk + 1 + 1 + 1)
      (gens5 := s2.gens.push (.fresh (.compStart (.GeneratorExp elt [⟨tg, iter, [], 0⟩] scope gpos) 0 (.ref it) .none (genEnv scope (cloFrom X.env.cells scope.names []) h3.objs.size code builtinsNs X.env))))
      I3 ok hN f3 nc rfl (Around.frames_deeper (A := X.A.in1.in1) I.ok.frames) (hn'.push _) (keep5 go) (Heap.get?_push_size _ hfr) (show h3.objs.size < h'.objs.size by rw [hsz']; exact Nat.lt_succ_self _) (fun v e => by obtain ⟨_, _, _, z, _⟩ := hgd; rw [z] at e; cases e) (I2.bare.push rfl)
    refine hQ (gblk X (X.A.in1.in1.deeper (genEnv scope (cloFrom X.env.cells scope.names []) h3.objs.size code builtinsNs X.env)) { s2 with heap := h3, toks := tk } H3 (genEnv scope (cloFrom X.env.cells scope.names []) h3.objs.size code builtinsNs X.env) fp [(h'.objs.size, go)])
      (L2.wipe σ (own.map (·.2))) h'.objs.size s2.gens.size go (m0 + 1) _ rfl rfl rfl hgd ⟨?_, I5.nolimit, I5.bare, _, Array.getElem?_push_size .., fun s'' z1 z2 z3 z4 => ⟨rfl, ?_⟩⟩ fun s' H' σ' I6 => ?_
    · obtain ⟨nm, qn, z1, z2, z3⟩ := hgd
      exact ⟨go, nm, qn, Heap.get?_push_size _ hfr, z1, z2, z3⟩
    · refine seg_gs (X := gblk X (X.A.in1.in1.deeper (genEnv scope (cloFrom X.env.cells scope.names []) h3.objs.size code builtinsNs X.env)) { s2 with heap := h3, toks := tk } H3 (genEnv scope (cloFrom X.env.cells scope.names []) h3.objs.size code builtinsNs X.env) fp [(h'.objs.size, go)]) (tn := tn) (J := J) (W := W) (gT := gT) (te := te) over_gen.symm rfl rfl hc T hco (hg _ _ _ _ _ _ _ hroom) (he _ _ _ _ _ _ _ hroom) (fun b hb p hp => ?_) turn (m0 + 1) m0 s'' H3 (Nat.lt_succ_self _) (inv_same I5 z1 z2 z3) (by rw [z1]; exact st5 go) (fun b hb => (f3 b hb).1.1) w0 z4
      have e : p = (h'.objs.size, go) := by simpa using hp
      subst e
      have h1 : b < h'.objs.size := by rw [hsz']; exact Nat.lt_succ_of_lt (f3 b hb).2
      exact Nat.ne_of_gt h1
    · exact I3.call' (ch := fp) I6.os I6.base I6.hok I6.bare fun b hb => ⟨(f3 b hb).1.2.2.2.1, (f3 b hb).1.2.1, (f3 b hb).1.2.2.2.2.1, (f3 b hb).1.2.2.2.2.2⟩
  cases hf : codeAmong gpos ps.toList with
  | none =>
    refine wpAny_genexprCodeX hcode (cd.code hPs ht) (cd.tab hPs) hf fun c' h' tk hx hge hlt hco' _ htab' _ => ?_
    obtain ⟨o1, vs, f1, tf, fl, tg, inF, tx, tt, op, _, _, _, _, _, _, _, _, _, htr, _⟩ := hco'
    exact cont _ h' tk _ hx (Nat.le_trans hge (Nat.le_of_lt hlt)) htab'.2 ⟨_, rfl⟩ htr
  | some cv =>
    refine wpAny_genexprCode_hit hcode (cd.code hPs ht) hf ?_
    exact cont cv s2.heap s2.toks ps (Heap.ExtBut.refl _ _) (Nat.le_refl _) hPs ⟨#[], by simp⟩ ht
theorem pe_ag {nm : Str} {c P : Addr} {elt tg iter : Expr} {p pos gpos : Pos} {scope : Scope} {own : List (Str × Nat)} {sa : Bool} {wi : TI} {gT : TG} {te : TE} {k : Nat}
    (hr : Room (k + 1) X.A) (hc : X.calm = true) (hN : X.N.Nodup) (TB : TabB X.base X.mg c P) (hcode : X.env.code = .ref c) (ok : BlkOk X.N X.env.scope scope own) (nc : ∀ y ∈ scope.names, y.2 ≠ .cell) (hco : scope.isCoroutine = false) (dot : scope.names.lookup (".0" : Str) = some NameKind.local)
    (hi : PI X tg iter wi) (hs : ∀ v, genFold iter X.env v = pure v)
    (hg : ∀ (A : Around) (s : Shared) (H : Hp) (C : Addr) (code : Value) (fp : List Addr) (pn : List (Addr × Obj)), Room k A → PG (gblk X A s H (genEnv scope (cloFrom X.env.cells scope.names []) C code builtinsNs X.env) fp pn) tg gT)
    (he : ∀ (A : Around) (s : Shared) (H : Hp) (C : Addr) (code : Value) (fp : List Addr) (pn : List (Addr × Obj)), Room k A → PE (gblk X A s H (genEnv scope (cloFrom X.env.cells scope.names []) C code builtinsNs X.env) fp pn) elt te)
    (hx : Gl X nm) (hm : X.mg nm = none) (hw : (nm = "all" ∧ sa = false) ∨ (nm = "any" ∧ sa = true))
    (hst : starEach [.GeneratorExp elt [⟨tg, iter, [], 0⟩] scope gpos] X.env = (false, eval (.GeneratorExp elt [⟨tg, iter, [], 0⟩] scope gpos) X.env) :: starEach [] X.env := by rfl) :
    PE X (.Call (.Name nm p) [.GeneratorExp elt [⟨tg, iter, [], 0⟩] scope gpos] [] pos) (tAG P sa wi gT te (own.map (·.2))) := by
  refine ⟨fun pins s σ H Q I h => ?_⟩
  rcases hw with ⟨rfl, rfl⟩ | ⟨rfl, rfl⟩
  · refine wpAny_Call_Name_kw (ld_blt I hx hm boot_all ?_)
    refine PyProof.Rows.callWith_builtin1 ?_ hst (by rfl)
    rw [hst]
    show wpAny _ _ (spliced ((false, eval (.GeneratorExp elt [⟨tg, iter, [], 0⟩] scope gpos) X.env) :: backTo pos (starEach [] X.env))) _ _ s
    refine Calls.spliced_cons (gen_core hr hc hN TB hcode ok nc hco dot hi hs hg he I h fun Xb σb a g go n s5 q1 q2 hpn hgo hG hI => ?_)
    refine Calls.spliced_nil ?_
    refine call_function_tree F.kind_all F.plain_all F.entry_all (F.args_all1 _) ?_
    unfold Builtin.«all»
    refine wpAny_bind (m := oneArg "all" _) (wpAny_pure ?_)
    refine wpAny_bind (wpAny_pyIter_gen hG.1 ?_)
    rw [← q1, ← q2] at hG ⊢
    exact wpAny_pure ⟨plainId_quiet F.plain_all_loop _, all_g (X := Xb) hr.hd (by have := hr.dp; omega) hpn hgo (fun b s' H' σ' I' q => ⟨.bl b, H', hI s' H' σ' I', rfl, q⟩) n s5 hG⟩
  · refine wpAny_Call_Name_kw (ld_blt I hx hm boot_any ?_)
    refine PyProof.Rows.callWith_builtin1 ?_ hst (by rfl)
    rw [hst]
    show wpAny _ _ (spliced ((false, eval (.GeneratorExp elt [⟨tg, iter, [], 0⟩] scope gpos) X.env) :: backTo pos (starEach [] X.env))) _ _ s
    refine Calls.spliced_cons (gen_core hr hc hN TB hcode ok nc hco dot hi hs hg he I h fun Xb σb a g go n s5 q1 q2 hpn hgo hG hI => ?_)
    refine Calls.spliced_nil ?_
    refine call_function_tree F.kind_any F.plain_any F.entry_any (F.args_any1 _) ?_
    unfold Builtin.«any»
    refine wpAny_bind (m := oneArg "any" _) (wpAny_pure ?_)
    refine wpAny_bind (wpAny_pyIter_gen hG.1 ?_)
    rw [← q1, ← q2] at hG ⊢
    exact wpAny_pure ⟨plainId_quiet F.plain_any_loop _, any_g (X := Xb) hr.hd (by have := hr.dp; omega) hpn hgo (fun b s' H' σ' I' q => ⟨.bl b, H', hI s' H' σ' I', rfl, q⟩) n s5 hG⟩
end
end Wp

set_option Elab.async false
set_option linter.all false
set_option maxRecDepth 100000
set_option maxHeartbeats 1000000
/-! all, any over trees; the end of a law whose defs hold generator expressions -/
namespace Wp
open PySem PySem.Spec PyProof.Rows L2 GxR
theorem tabbed_ext {P : Addr} {H1 H2 : Hp} (h : TabG H1 P) (t : Tabbed P H1 H2) : Ext H1 H2 := by
  obtain ⟨ps, e, ht⟩ := h
  refine ⟨fun b xs q => ?_, fun b o u q => ?_, fun b ⟨qs, q, z⟩ => ?_⟩
  · rw [t.2 b (fun z => by rw [z, e] at q; cases q)]; exact q
  · rw [t.2 b (fun z => by rw [z, e] at q; cases q)]; exact q
  · by_cases hb : b = P
    · rw [hb]; exact t.1
    · exact ⟨qs, by rw [t.2 b hb]; exact q, z⟩
theorem tabbed_st {K : PySem.W.Frag} {S : Sta} {P : Addr} {H1 H2 : Hp} (h : TabG H1 P) (t : Tabbed P H1 H2) (s : St K S H1) : St K S H2 :=
  s.keep (tabbed_ext h t) fun a o q => t.2 a fun z => by
    obtain ⟨ps, e, _⟩ := h
    obtain ⟨u, hu, hs⟩ := s.has q
    rw [z, e] at hu
    cases hu
    exact hs
section
variable {B : Hp} {X : Cx}
def allW (g : WG) (te : WE) (stb : Sta → Prop) (σ : Sl) (Q : T → Sta → Prop) : List T → Sta → Prop
  | [], S => stb S ∧ Q (.bl true) S
  | x :: xs, S => stb S ∧ g x σ S fun σ2 S2 => te σ2 S2 fun y S3 => match y with
    | .bl b => wif b (allW g te stb σ Q xs S3) (Q (.bl false) S3)
    | _ => False
def anyW (g : WG) (te : WE) (stb : Sta → Prop) (σ : Sl) (Q : T → Sta → Prop) : List T → Sta → Prop
  | [], S => stb S ∧ Q (.bl false) S
  | x :: xs, S => stb S ∧ g x σ S fun σ2 S2 => te σ2 S2 fun y S3 => match y with
    | .bl b => wif b (Q (.bl true) S3) (anyW g te stb σ Q xs S3)
    | _ => False
def agW (sa : Bool) : WG → WE → (Sta → Prop) → Sl → (T → Sta → Prop) → List T → Sta → Prop := match sa with
  | false => allW
  | true => anyW
def wAll (wi : WI) (g : WG) (te : WE) (vs : List Nat) (σ : Sl) (S : Sta) (Q : T → Sta → Prop) : Prop := wi σ S fun xs stb S1 => allW g te stb (wipeT σ vs) Q xs S1
def wAny (wi : WI) (g : WG) (te : WE) (vs : List Nat) (σ : Sl) (S : Sta) (Q : T → Sta → Prop) : Prop := wi σ S fun xs stb S1 => anyW g te stb (wipeT σ vs) Q xs S1
def wAg (sa : Bool) (wi : WI) (g : WG) (te : WE) (vs : List Nat) (σ : Sl) (S : Sta) (Q : T → Sta → Prop) : Prop := wi σ S fun xs stb S1 => agW sa g te stb (wipeT σ vs) Q xs S1
theorem agW_stb {sa : Bool} {g : WG} {te : WE} {stb : Sta → Prop} {σ : Sl} {Q : T → Sta → Prop} {xs : List T} {S : Sta} (h : agW sa g te stb σ Q xs S) : stb S := by
  cases sa <;> cases xs <;> exact h.1
theorem agW_nil {sa : Bool} {g : WG} {te : WE} {stb : Sta → Prop} {σ : Sl} {Q : T → Sta → Prop} {S : Sta} (h : agW sa g te stb σ Q [] S) : Q (.bl (!sa)) S := by
  cases sa <;> exact h.2
theorem agW_cons {sa : Bool} {g : WG} {te : WE} {stb : Sta → Prop} {σ : Sl} {Q : T → Sta → Prop} {x : T} {xs : List T} {S : Sta} (h : agW sa g te stb σ Q (x :: xs) S) :
    ∃ F : Bool → Sta → Prop, (∀ b S3, F b S3 → (b = sa → Q (.bl sa) S3) ∧ (b ≠ sa → agW sa g te stb σ Q xs S3)) ∧ g x σ S fun σ2 S2 => te σ2 S2 fun y S3 => match y with
      | .bl b => F b S3
      | _ => False := by
  cases sa with
  | false => exact ⟨fun b S3 => wif b (allW g te stb σ Q xs S3) (Q (.bl false) S3), fun b S3 z => by cases b <;> exact ⟨fun e => (by first | exact wt z | exact wff z | cases e), fun e => (by first | exact wt z | exact wff z | exact absurd rfl e)⟩, h.2⟩
  | true => exact ⟨fun b S3 => wif b (Q (.bl true) S3) (anyW g te stb σ Q xs S3), fun b S3 z => by cases b <;> exact ⟨fun e => (by first | exact wt z | exact wff z | cases e), fun e => (by first | exact wt z | exact wff z | exact absurd rfl e)⟩, h.2⟩
theorem wipe_wipe (σ : L2.St) (vs : List Nat) : L2.wipe (L2.wipe σ vs) vs = L2.wipe σ vs := by
  have key : ∀ (us ws : List Nat) (τ : L2.St), (∀ i ∈ us, i ∈ ws) → L2.wipe (L2.wipe τ ws) us = L2.wipe τ ws := fun us => by
    induction us with
    | nil => intro ws τ _; rfl
    | cons u us ih =>
      intro ws τ hu
      show (L2.wipe (L2.wipe τ ws) us).set u none = L2.wipe τ ws
      rw [ih ws τ fun i hi => hu i (List.mem_cons_of_mem _ hi)]
      have hmem := hu u List.mem_cons_self
      have set_none : ∀ (ws : List Nat), u ∈ ws → (L2.wipe τ ws).set u none = L2.wipe τ ws := fun ws => by
        induction ws with
        | nil => intro h; cases h
        | cons w ws ih2 =>
          intro h
          show ((L2.wipe τ ws).set w none).set u none = (L2.wipe τ ws).set w none
          by_cases hw : u = w
          · subst hw; rw [List.set_set]
          · rw [List.set_comm _ _ (fun z => hw z.symm), ih2 ((List.mem_cons.mp h).resolve_left hw)]
      exact set_none ws hmem
  exact key vs vs σ fun i hi => hi
theorem le_ag {P : Addr} {sa : Bool} {wi : WI} {g : WG} {te : WE} {vs : List Nat} {σ : L2.St} {H : Hp} {Q : VK} (hB : TabG B P) (h : LE B X (wAg sa wi g te vs) σ H Q) : tAG P sa (LI B X wi) (LG X vs g) (LE B X te) vs σ H Q := by
  obtain ⟨st, S, Q0, he, hr, hs, h, im⟩ := h
  refine ⟨st, S, _, he, hr, hs, h, fun xs stb S1 h1 H1 e1 s1 J yl => ?_⟩
  have hP1 : TabG H1 P := (he.trans e1).tabs P hB
  refine ⟨hP1, fun HT hT => ?_⟩
  have eT := tabbed_ext hP1 hT
  refine ⟨fun i m H' => m = xs.length - i ∧ i ≤ xs.length ∧ ∃ S', Ext H1 H' ∧ St X.K S' H' ∧ agW sa g te stb (wipeT st vs) Q0 (xs.drop i) S', ⟨xs.length, by omega, Nat.zero_le _, _, eT, tabbed_st hP1 hT s1, h1⟩, fun i m H2 hW => ?_⟩
  obtain ⟨hm, hi, S2, e2, s2, h2⟩ := hW
  obtain ⟨y1, y2, y3⟩ := yl i S2 H2 e2 s2 (agW_stb h2)
  by_cases hlt : i < xs.length
  · refine .inr ⟨y1 hlt, fun H' => ∃ S', Ext H1 H' ∧ St X.K S' H' ∧ agW sa g te stb (wipeT st vs) Q0 (xs.drop (i + 1)) S', fun H' q => ⟨m - 1, by omega, by omega, by omega, q⟩, fun x H3 hy => ?_⟩
    obtain ⟨e3, s3, sl3, t, et, rt⟩ := y3 x H3 hy hlt
    have r3 := sl3 _ _ (((hr.mono e1).mono e2).wipe vs)
    rw [List.drop_eq_getElem_cons hlt] at h2
    have et' : xs[i] = t := by rw [List.getElem?_eq_getElem hlt] at et; exact Option.some.inj et
    rw [et'] at h2
    obtain ⟨F, hF, h2⟩ := agW_cons h2
    refine ⟨t, wipeT st vs, S2, _, rt, r3, s3, h2, fun st4 S4 h4 H4 σ4 e4 s4 r4 w4 => ⟨w4.trans (wipe_wipe σ vs), ?_⟩⟩
    have eb : Ext H1 H4 := e2.trans (e3.trans e4)
    refine ⟨st4, S4, _, he.trans (e1.trans eb), r4, s4, h4, fun y S6 h6 H6 v6 e6 s6 r6 => ?_⟩
    cases y with
    | bl b =>
      cases r6
      have z := hF b S6 h6
      exact ⟨b, rfl, fun hb => im _ _ (z.1 hb) H6 _ (e1.trans (eb.trans e6)) s6 (.bl _), fun hb => ⟨S6, eb.trans e6, s6, z.2 hb⟩⟩
    | _ => exact h6.elim
  · have ei : i = xs.length := by omega
    subst ei
    rw [List.drop_length] at h2
    exact .inl ⟨y2 (Nat.le_refl _), im _ _ (agW_nil h2) H2 _ (e1.trans e2) s2 (.bl _)⟩
/-- the table of a def with a generator expression -/
structure Tab1 (base : Heap) (mg : Str → Option Value) (tl : List Addr) (fd : FuncData) (c P : Addr) : Prop where
  code : fd.code = .ref c
  tab : TabB base mg c P
  mem : P ∈ tl
theorem j_ag {nm : Str} {c P : Addr} {elt tg iter : Expr} {p pos gpos : Pos} {scope : Scope} {own : List (Str × Nat)} {sa : Bool} {wi : WI} {g : WG} {te : WE} {k : Nat}
    (hr : Room (k + 1) X.A) (hc : X.calm = true) (hN : X.N.Nodup) (TB : TabB X.base X.mg c P) (hcode : X.env.code = .ref c) (hB : TabG B P) (ok : BlkOk X.N X.env.scope scope own) (nc : ∀ y ∈ scope.names, y.2 ≠ .cell) (hco : scope.isCoroutine = false) (dot : scope.names.lookup (".0" : Str) = some NameKind.local)
    (hi : JI B X tg iter wi) (hs : ∀ v, genFold iter X.env v = pure v)
    (hg : ∀ (A : Around) (s : Shared) (H : Hp) (C : Addr) (code : Value) (fp : List Addr) (pn : List (Addr × Obj)), Room k A → JG (gblk X A s H (genEnv scope (cloFrom X.env.cells scope.names []) C code builtinsNs X.env) fp pn) tg (own.map (·.2)) g)
    (he : ∀ (A : Around) (s : Shared) (H : Hp) (C : Addr) (code : Value) (fp : List Addr) (pn : List (Addr × Obj)), Room k A → JE B (gblk X A s H (genEnv scope (cloFrom X.env.cells scope.names []) C code builtinsNs X.env) fp pn) elt te)
    (hx : Gl X nm) (hm : X.mg nm = none) (hw : (nm = "all" ∧ sa = false) ∨ (nm = "any" ∧ sa = true))
    (hst : starEach [.GeneratorExp elt [⟨tg, iter, [], 0⟩] scope gpos] X.env = (false, eval (.GeneratorExp elt [⟨tg, iter, [], 0⟩] scope gpos) X.env) :: starEach [] X.env := by rfl) :
    JE B X (.Call (.Name nm p) [.GeneratorExp elt [⟨tg, iter, [], 0⟩] scope gpos] [] pos) (wAg sa wi g te (own.map (·.2))) :=
  pe_imp (pe_ag (gT := LG X (own.map fun (p : Str × Nat) => p.2) g) (te := LE B X te) hr hc hN TB hcode ok nc hco dot hi hs (fun A s H C code fp pn h => hg A s H C code fp pn h) (fun A s H C code fp pn h => he A s H C code fp pn h) hx hm hw hst) fun σ H Q h => le_ag hB h
theorem j_all {c P : Addr} {fd : FuncData} {tl : List Addr} {elt tg iter : Expr} {p pos gpos : Pos} {scope : Scope} {own : List (Str × Nat)} {wi : WI} {g : WG} {te : WE} {k : Nat}
    (hr : Room (k + 1) X.A) (t1 : Tab1 X.base X.mg tl fd c P) (hcd : X.env.code = fd.code) (ht : ∀ P ∈ tl, TabG B P) (hc : X.calm = true) (hN : X.N.Nodup) (ok : BlkOk X.N X.env.scope scope own) (nc : ∀ y ∈ scope.names, y.2 ≠ .cell)
    (hi : JI B X tg iter wi) (hs : ∀ v, genFold iter X.env v = pure v)
    (hg : ∀ (A : Around) (s : Shared) (H : Hp) (C : Addr) (code : Value) (fp : List Addr) (pn : List (Addr × Obj)), Room k A → JG (gblk X A s H (genEnv scope (cloFrom X.env.cells scope.names []) C code builtinsNs X.env) fp pn) tg (own.map (·.2)) g)
    (he : ∀ (A : Around) (s : Shared) (H : Hp) (C : Addr) (code : Value) (fp : List Addr) (pn : List (Addr × Obj)), Room k A → JE B (gblk X A s H (genEnv scope (cloFrom X.env.cells scope.names []) C code builtinsNs X.env) fp pn) elt te)
    (hx : Gl X "all") (hm : X.mg "all" = none) (hco : scope.isCoroutine = false := by rfl) (dot : scope.names.lookup (".0" : Str) = some NameKind.local := by rfl) :
    JE B X (.Call (.Name "all" p) [.GeneratorExp elt [⟨tg, iter, [], 0⟩] scope gpos] [] pos) (wAll wi g te (own.map (·.2))) :=
  j_ag (sa := false) hr hc hN t1.tab (hcd.trans t1.code) (ht P t1.mem) ok nc hco dot hi hs hg he hx hm (.inl ⟨rfl, rfl⟩)
theorem j_any {c P : Addr} {fd : FuncData} {tl : List Addr} {elt tg iter : Expr} {p pos gpos : Pos} {scope : Scope} {own : List (Str × Nat)} {wi : WI} {g : WG} {te : WE} {k : Nat}
    (hr : Room (k + 1) X.A) (t1 : Tab1 X.base X.mg tl fd c P) (hcd : X.env.code = fd.code) (ht : ∀ P ∈ tl, TabG B P) (hc : X.calm = true) (hN : X.N.Nodup) (ok : BlkOk X.N X.env.scope scope own) (nc : ∀ y ∈ scope.names, y.2 ≠ .cell)
    (hi : JI B X tg iter wi) (hs : ∀ v, genFold iter X.env v = pure v)
    (hg : ∀ (A : Around) (s : Shared) (H : Hp) (C : Addr) (code : Value) (fp : List Addr) (pn : List (Addr × Obj)), Room k A → JG (gblk X A s H (genEnv scope (cloFrom X.env.cells scope.names []) C code builtinsNs X.env) fp pn) tg (own.map (·.2)) g)
    (he : ∀ (A : Around) (s : Shared) (H : Hp) (C : Addr) (code : Value) (fp : List Addr) (pn : List (Addr × Obj)), Room k A → JE B (gblk X A s H (genEnv scope (cloFrom X.env.cells scope.names []) C code builtinsNs X.env) fp pn) elt te)
    (hx : Gl X "any") (hm : X.mg "any" = none) (hco : scope.isCoroutine = false := by rfl) (dot : scope.names.lookup (".0" : Str) = some NameKind.local := by rfl) :
    JE B X (.Call (.Name "any" p) [.GeneratorExp elt [⟨tg, iter, [], 0⟩] scope gpos] [] pos) (wAny wi g te (own.map (·.2))) :=
  j_ag (sa := true) hr hc hN t1.tab (hcd.trans t1.code) (ht P t1.mem) ok nc hco dot hi hs hg he hx hm (.inr ⟨rfl, rfl⟩)
end
end Wp
namespace Wp
open PySem PySem.Spec PyProof.Rows L2 GxR
/-! ### the end -/
/-- a def's code and its table, in what is known -/
structure TabK (K : PySem.W.Frag) (fd : FuncData) (c P : Addr) : Prop where
  code : fd.code = .ref c
  at_ : ∃ (e : Value) (dd : Option Addr) (vs : Array Value) (sl : Array (Option Value)), K.lookup c = some ⟨e, dd, .fields vs, sl⟩ ∧ vs[11]? = some (.ref P)
  no : K.lookup P = none
def DefG (K : PySem.W.Frag) (mg : Str → Option Value) (x : Str) (st : Stmt) (ps : List Str) : Prop := ∃ f fd c P, Fun K x x st f fd ∧ mg x = some (.ref f) ∧ Binds K fd ps [] ∧ TabK K fd c P
theorem defG_mk {K : PySem.W.Frag} {mg : Str → Option Value} {x : Str} {st : Stmt} {ps : List Str} {f cc PP : Addr} {oc : Value} {od an : Option Addr} {osl : Array (Option Value)} {kV doc pm cdv ct : Value} {e : Value} {dd : Option Addr} {vs : Array Value} {sl : Array (Option Value)}
    (hm : mg x = some (.ref f)) (l : K.lookup f = some ⟨oc, od, .func (PySem.W.fnOf x x (defArgs st) (defBody st) (defScope st) .none kV doc pm an cdv ct), osl⟩)
    (c : PySem.W.codeIn K cdv x = true) (k : PySem.W.keepIn K (.ref f) = true) (x1 : cdv = .ref cc) (x2 : K.lookup cc = some ⟨e, dd, .fields vs, sl⟩) (x3 : vs[11]? = some (.ref PP)) (x4 : (K.lookup PP).isNone = true)
    (h : ∀ (kV doc pm : Value) (an : Option Addr) (cdv ct : Value) (us : List Value), us.length = ps.length → bindArgs (PySem.W.fnOf x x (defArgs st) (defBody st) (defScope st) .none kV doc pm an cdv ct) ⟨us, []⟩ = pure (ps.zip us)) : DefG K mg x st ps :=
  ⟨f, _, cc, PP, fun_mk l c k, hm, (fun_mk l c k).binds h, x1, ⟨e, dd, vs, sl, x2, x3⟩, by simpa using x4⟩
/-- the empty tables at the head -/
def TabsE (K : PySem.W.Frag) (mg : Str → Option Value) (h : Heap) (names : List Str) : Prop := ∀ x ∈ names, ∀ f fd c P, mg x = some (.ref f) → (∃ oc od osl, K.lookup f = some ⟨oc, od, .func fd, osl⟩) → TabK K fd c P → h.get? P = some { cls := .none, data := .fields #[] } ∧ PySem.W.CodeHd h c P
theorem fn_frz {P : Program} {w : World} {K : PySem.W.Frag} {mg : Str → Option Value} {base : Heap} {k : Nat} {f : Addr} {fd : FuncData} {ps : List Str} {sp : Sp} (F : FnOk P w K mg base CX0 k f fd ps sp) :
    FnOk P w K mg base CX0 k f fd ps (fun vs H Q E => sp vs H Q E ∨ ∃ a xs, H a = some (.lst xs) ∧ ∀ o, sp vs (upd H a (.frz o (.lst xs))) Q E) := by
  refine ⟨fun vs H Q E h => ?_, fun A outer s H args us vs Q E hr e0 hb hv h => ?_⟩
  · rcases h with h | ⟨a, xs, _, h⟩
    · exact F.len _ _ _ _ h
    · exact F.len _ _ _ _ (h { cls := .none, data := .fields #[] })
  · rcases h with h | ⟨a, xs, ha, h⟩
    · exact F.run A outer s H args us vs Q E hr e0 hb hv h
    · obtain ⟨hz, its, n, rv, ho⟩ := e0.hok a _ ha
      generalize hob : ({ cls := .type "list", data := .seq its.toArray n } : Obj) = ob at ho
      have ne : ∀ {b : Addr} {u : HO}, H b = some u → u ≠ .lst xs → b ≠ a := fun {b u} e d z => by
        rw [z, ha] at e
        exact d (Option.some.inj e).symm
      have nn : ∀ {b : Addr}, H b = none → b ≠ a := fun {b} e z => by rw [z, ha] at e; cases e
      have at_ : ∀ {b : Addr}, b ≠ a → upd H a (.frz ob (.lst xs)) b = H b := fun {b} hb => upd_ne hb
      have hok' : HOk P w (upd H a (.frz ob (.lst xs))) s.heap := fun b u e => by
        by_cases hb : b = a
        · subst hb
          rw [upd_same] at e
          cases e
          exact ⟨ho, hz, its, n, rv, by rw [hob]; exact ho⟩
        · rw [at_ hb] at e
          exact (e0.hok b u e).stay (fun c v _ q => q) (fun c q => by rw [at_ (ne q (fun z => by cases z))]; exact q) fun c ys q => by rw [at_ (ne q (fun z => by cases z))]; exact q
      have e0' : Env0 P w K mg base A outer s (upd H a (.frz ob (.lst xs))) := ⟨e0.frames, e0.mod, fun b o e => ⟨(e0.bs b o e).1, by rw [at_ (nn (e0.bs b o e).2)]; exact (e0.bs b o e).2⟩, e0.bsz, e0.funs, fun b hb => by rw [at_ (nn (e0.frf b hb))]; exact e0.frf b hb, hok', e0.bare⟩
      refine codeAny_mono (F.run A outer s _ args us vs Q E hr e0' hb hv (h ob)) fun r s' hR => ?_
      cases r with
      | error e => exact hR
      | ok fl =>
        cases fl with
        | next => exact hR
        | brk => exact hR
        | cont => exact hR
        | ret u =>
          obtain ⟨v, H2, os, bare, un, hok2, rl, q⟩ := hR
          refine ⟨v, H2, os, bare, ⟨fun b o e n hb hx => un.keep b o e (by rw [at_ (nn n)]; exact n) hb hx, fun b o e n hb hx => un.slot b o e (by rw [at_ (nn n)]; exact n) hb hx, fun b o e n hx => un.free b o e (by rw [at_ (nn n)]; exact n) hx, un.there,
            fun b ys e => un.tups b ys (by rw [at_ (ne e (fun z => by cases z))]; exact e), fun b o ys e => un.frzs b o ys (by rw [at_ (ne e (fun z => by cases z))]; exact e), fun b qs e => un.tbls b qs (by rw [at_ (ne e (fun z => by cases z))]; exact e)⟩, hok2, rl, q⟩
theorem law_spT {tl : List Addr} (K : PySem.W.Frag) (H : Hp) (a : Addr) (ns : List Int) (hl : ns.length ≤ 63) (hT : ∀ P ∈ tl, TabG H P) (hf : FzL K H a (ns.map V.int)) : Lsp tl K 1 spLaw [.ref a] H (fun v _ => v = .bl true) fun _ _ _ => False := by
  refine ⟨hT, [.fl (ns.map .int)], fun _ => none, fun v _ => v = .bl true, fun _ _ => False, rfl, .cons (.fl hf (Reps.ints ns)) .nil, (fun b o q => by cases q), ⟨ns, rfl, hl, fun _ => rfl, fun _ => rfl⟩, fun v S e H' u _ _ r => ?_, fun _ _ _ q => q.elim⟩
  subst e
  cases r
  rfl
theorem law_spF {cs : List (Addr × Addr)} (K : PySem.W.Frag) (H : Hp) (a : Addr) (ns : List Int) (hl : ns.length ≤ 63) (hT : ∀ p ∈ cs, H p.2 = some (.tbl #[])) (hs : SqL K H a (ns.map V.int)) :
    (fun vs H Q E => Lsp (cs.map (·.2)) K 1 spLaw vs H Q E ∨ ∃ a xs, H a = some (.lst xs) ∧ ∀ o, Lsp (cs.map (·.2)) K 1 spLaw vs (upd H a (.frz o (.lst xs))) Q E) [.ref a] H (fun v _ => v = .bl true) fun _ _ _ => False := by
  have tg : ∀ P ∈ cs.map (·.2), TabG H P := fun P hP => by
    obtain ⟨p, hp, e⟩ := List.mem_map.mp hP
    subst e
    exact ⟨#[], hT p hp, by first | trivial | simp [TriplesOk]⟩
  rcases hs with (h | ⟨o, h⟩) | h
  · refine .inr ⟨a, _, h, fun o => law_spT K _ a ns hl (fun P hP => ?_) (.inl ⟨o, upd_same⟩)⟩
    obtain ⟨ps, e, t⟩ := tg P hP
    exact ⟨ps, by rw [upd_ne (fun z => by rw [z, h] at e; cases e)]; exact e, t⟩
  · exact .inl (law_spT K H a ns hl tg (.inl ⟨o, h⟩))
  · exact .inl (law_spT K H a ns hl tg (.inr h))
/-- the end: cs, the codes and tables of the defs that hold generator expressions -/
theorem law_walkT {l : PySem.W.OpenLaw} {k : Nat} {q : Program} {loose : List Str} {XP : (Str → Option Value) → Heap → Prop} {YP : World → Heap → Prop} {d : DefRec} {K : Params → PySem.W.Frag} {x : Str} (names : List Str)
    (hn : l.most = some 63) (hdf : d.params.defaults = []) (hr : Room k callerA) (hrec : (names.all fun x => (recsOf q).any fun e => e.name == x) = true)
    (hY : ∀ (w : World) (h : Heap), YP w h → (K w.params).In h)
    (F : ∀ (w : World) (mg : Str → Option Value) (fa : Addr) (h : Heap), (K w.params).In h → h.Ns mainGlobals mg → mg d.name = some (.ref fa) → TabsE (K w.params) mg h names →
      ∃ (fd : FuncData) (cs : List (Addr × Addr)), (∀ (s : Shared) (u : Value), BindsTo s fd ⟨[u], []⟩ [(x, u)]) ∧ (∀ p ∈ cs, h.get? p.2 = some { cls := .none, data := .fields #[] }) ∧ (∀ p ∈ cs, (K w.params).lookup p.2 = none) ∧ (∀ p ∈ cs, PySem.W.CodeHd h p.1 p.2) ∧
        ∀ base : Heap, (K w.params).In base → base.Ns mainGlobals mg → (∀ p ∈ cs, TabB base mg p.1 p.2) → FnOk l.prog w (K w.params) mg base CX0 k fa fd [x] (Lsp (cs.map (·.2)) (K w.params) 1 spLaw)) :
    PySem.W.WalkO q loose XP YP l.row.toRowW d [] (fun f vs => PySem.call f vs) := by
  refine Att.attach_callB hn hdf fun w s₀ s₁ mg mb fa o pm cd doc a vs ns G Y ho hd hcd hmg hobj hints hlen hbits hg => ?_
  have KX := hY w _ Y
  have tabs : TabsE (K w.params) mg s₁.heap names := fun x hx f fd c P k1 ⟨oc, od, osl, k2⟩ t => by
    obtain ⟨dL, hm, hn1⟩ := List.any_eq_true.mp (List.all_eq_true.mp hrec x hx)
    have hn2 : dL.name = x := beq_iff_eq.mp hn1
    obtain ⟨a', o', fd', c', P', h1, h2, h3, h4, h5, h6⟩ := G.T.tab dL hm
    rw [hn2, k1] at h1
    cases h1
    have g1 := KX _ _ k2
    rw [g1] at h2
    cases h2
    cases h3
    rw [t.code] at h4
    cases h4
    obtain ⟨e, dd, vs, sl, q1, q2⟩ := t.at_
    have hP := h6.2
    have hcd := PySem.W.CodeHd.of h5 h6
    obtain ⟨⟨oc2, vc, e1, _, e3, e4⟩, _⟩ := h6
    have g2 := KX _ _ q1
    rw [g2] at e1
    cases e1
    cases e3
    rw [q2] at e4
    cases e4
    exact ⟨hP, hcd⟩
  obtain ⟨fd, cs, hb, hT, nT, C, hF⟩ := F w mg fa _ KX G.T.g hmg tabs
  exact LamX.law_callTs KX G.T.g G.T.b G.T.builtins G.T.nolimit hg hT nT C G.T.bmain hobj hints (Nat.le_trans hlen (by decide)) hr (fun base hb hg2 hTB => fn_frz (hF base hb hg2 fun p hp => let z := hTB p hp; ⟨z.1, z.2, z.3⟩)) hb (fun H hH hS => law_spF (K w.params) H a ns hlen hH hS) fun H e s' h => h
end Wp

set_option Elab.async false
set_option linter.all false
set_option maxRecDepth 100000
set_option maxHeartbeats 1000000
/-! texts walked; sep.join of a list of texts -/
namespace Wp
open PySem PySem.Spec PyProof.Rows L2
section
variable {B : Hp} {X : Cx} {te : WE} {e : Expr}
/-- a text, sign by sign -/
def signsT (x : Str) : List T := x.cps.toList.map fun c => T.str ⟨#[c]⟩
def iStrW (te : WE) (σ : Sl) (S : Sta) (R : List T → (Sta → Prop) → Sta → Prop) : Prop := te σ S fun x S1 => match x with
  | .str x => R (signsT x) (fun _ => True) S1
  | _ => False
theorem ji_str {tg : Expr} (he : JE B X e te) : JI B X tg e (iStrW te) := pi_imp (pi_str he) fun σ H R ⟨st, S, Q0, he, hr, hs, h, im⟩ => by
  refine ⟨st, S, _, he, hr, hs, h, fun x S1 h1 H1 v1 e1 s1 r1 => ?_⟩
  cases x with
  | str x =>
    cases r1
    have hl : (signsT x).length = x.cps.size := by unfold signsT; rw [List.length_map, Array.length_toList]
    refine ⟨x, rfl, im _ _ _ h1 H1 e1 s1 _ fun i S2 H2 e2 s2 _ => ⟨fun hi => by rw [hl] at hi; exact hi, fun hi => by rw [hl] at hi; exact hi, fun y H' hy hi => ?_⟩⟩
    obtain ⟨eH, c, ec, ev⟩ := hy
    subst eH ev
    refine ⟨Ext.refl _, s2, fun _ _ q => q, .str ⟨#[c]⟩, ?_, .str _⟩
    unfold signsT
    rw [List.getElem?_map, Array.getElem?_toList, ec]
    rfl
  | _ => exact h1.elim
/-- the three sources told apart where the value has come -/
theorem pi_three {tg l : Expr} {tl : TE} (hl : PE X l tl) : PI X tg l fun σ H R => tl σ H fun x H1 => (∃ a, x = .ref a ∧ ((∃ xs, SqL X.K H1 a xs) ∧ R (Itl X.K a) H1 ∨ (∃ xs, SqT X.K H1 a xs) ∧ R (Itt X.K a) H1)) ∨ ∃ z, x = .str z ∧ R (Its z) H1 := by
  refine ⟨fun pins s σ H R I h => ?_⟩
  refine thn (hl.run pins s σ H _ I h) fun v s1 ⟨x, H1, I1, r1, q1⟩ => ?_
  rcases q1 with ⟨a, e, q1⟩ | ⟨z, e, q⟩
  · subst e
    cases r1
    rcases q1 with ⟨⟨xs, hq⟩, q⟩ | ⟨⟨xs, hq⟩, q⟩
    · obtain ⟨its, rv, p, hz⟩ := I1.list hq
      refine wpAny_pyIter_list p.isList ?_
      refine ⟨s1.heap.objs.size, [s1.heap.objs.size], _, _, H1, rfl, I1.kept (t' := s1.toks) fun b o e => Heap.get?_push_of_some _ e, turn_list a _, ⟨_, Heap.get?_push_size _ rfl, rfl, rfl⟩, fun b hb => ?_, q⟩
      have e : b = s1.heap.objs.size := by simpa using hb
      subst e
      exact I1.fpOk (Nat.le_refl _) (I1.hok.fresh (Nat.le_refl _))
    · obtain ⟨its, rv, p, hz⟩ := I1.tuple hq
      refine wpAny_pyIter_tuple (show s1.heap.IsTuple a its.toArray from p) ?_
      refine ⟨s1.heap.objs.size, [s1.heap.objs.size], _, _, H1, rfl, I1.kept (t' := s1.toks) fun b o e => Heap.get?_push_of_some _ e, turn_tuple a _, ⟨_, Heap.get?_push_size _ rfl, rfl, rfl⟩, fun b hb => ?_, q⟩
      have e : b = s1.heap.objs.size := by simpa using hb
      subst e
      exact I1.fpOk (Nat.le_refl _) (I1.hok.fresh (Nat.le_refl _))
  · subst e
    obtain ⟨t, rfl⟩ := r1
    cases ha : z.cps.all (· < 128)
    · exact wpAny_pyIter_wide ha (pi_one (tk := s1.toks) I1 _ (turn_str _ z t "str_iterator" (.inr rfl)) ⟨_, Heap.get?_push_size _ rfl, rfl, rfl⟩ q)
    · exact wpAny_pyIter_ascii ha (pi_one (tk := s1.toks) I1 _ (turn_str _ z t "str_ascii_iterator" (.inl rfl)) ⟨_, Heap.get?_push_size _ rfl, rfl, rfl⟩ q)
def iAnyW (te : WE) (σ : Sl) (S : Sta) (R : List T → (Sta → Prop) → Sta → Prop) : Prop := te σ S fun x S1 => match x with
  | .tup ts => R ts (fun _ => True) S1
  | .fl ts => R ts (fun _ => True) S1
  | .ref p => ∃ ts, S1 p = some (.lst ts) ∧ R ts (fun S' => S' p = some (.lst ts)) S1
  | .str z => R (signsT z) (fun _ => True) S1
  | _ => False
theorem ji_any {tg : Expr} (he : JE B X e te) : JI B X tg e (iAnyW te) := pi_imp (pi_three he) fun σ H R ⟨st, S, Q0, he, hr, hs, h, im⟩ => by
  refine ⟨st, S, _, he, hr, hs, h, fun x S1 h1 H1 v1 e1 s1 r1 => ?_⟩
  cases x with
  | tup ts =>
    cases r1 with
    | @tup a xs _ g10 g2 =>
      have g1 := sqT_of (K := X.K) g10
      refine .inl ⟨a, rfl, .inr ⟨⟨xs, g1⟩, im _ _ _ h1 H1 e1 s1 _ fun i S2 H2 e2 s2 _ => ⟨fun hi => ?_, fun hi => ⟨xs, e2.sqT g1, by rw [← g2.length]; exact hi⟩, fun x H' y hi => ?_⟩⟩⟩
      · obtain ⟨v, g3, _⟩ := g2.get (List.getElem?_eq_getElem hi)
        exact ⟨xs, v, e2.sqT g1, g3⟩
      · obtain ⟨eH, y⟩ := y
        subst eH
        obtain ⟨v, g3, g4⟩ := g2.get (List.getElem?_eq_getElem hi)
        have ev : x = v := Option.some.inj ((y xs (e2.sqT g1)).symm.trans g3)
        subst ev
        exact ⟨Ext.refl _, s2, fun _ _ q => q, _, List.getElem?_eq_getElem hi, Rep.mono e2 _ _ g4⟩
  | fl ts =>
    cases r1 with
    | @fl a xs _ g1 g2 =>
      refine .inl ⟨a, rfl, .inl ⟨⟨xs, g1.sq⟩, im _ _ _ h1 H1 e1 s1 _ fun i S2 H2 e2 s2 _ => ⟨fun hi => ?_, fun hi => ⟨xs, (e2.fzL g1).sq, by rw [← g2.length]; exact hi⟩, fun x H' y hi => ?_⟩⟩⟩
      · obtain ⟨v, g3, _⟩ := g2.get (List.getElem?_eq_getElem hi)
        exact ⟨xs, v, (e2.fzL g1).sq, g3⟩
      · obtain ⟨eH, y⟩ := y
        subst eH
        obtain ⟨v, g3, g4⟩ := g2.get (List.getElem?_eq_getElem hi)
        have ev : x = v := Option.some.inj ((y xs ((e2.fzL g1).sq)).symm.trans g3)
        subst ev
        exact ⟨Ext.refl _, s2, fun _ _ q => q, _, List.getElem?_eq_getElem hi, Rep.mono e2 _ _ g4⟩
  | ref p =>
    obtain ⟨ts, eS, h1⟩ := h1
    cases r1
    obtain ⟨xs0, g10, g20⟩ := s1 p _ eS
    refine .inl ⟨p, rfl, .inl ⟨⟨xs0, .inl (.inl g10)⟩, im _ _ _ h1 H1 e1 s1 _ fun i S2 H2 e2 s2 stb => ?_⟩⟩
    obtain ⟨xs, g1, g2⟩ := s2 p _ stb
    refine ⟨fun hi => ?_, fun hi => ⟨xs, .inl (.inl g1), by rw [← g2.length]; exact hi⟩, fun x H' y hi => ?_⟩
    · obtain ⟨v, g3, _⟩ := g2.get (List.getElem?_eq_getElem hi)
      exact ⟨xs, v, .inl (.inl g1), g3⟩
    · obtain ⟨eH, y⟩ := y
      subst eH
      obtain ⟨v, g3, g4⟩ := g2.get (List.getElem?_eq_getElem hi)
      have ev : x = v := Option.some.inj ((y xs (.inl (.inl g1))).symm.trans g3)
      subst ev
      exact ⟨Ext.refl _, s2, fun _ _ q => q, _, List.getElem?_eq_getElem hi, g4⟩
  | str x =>
    cases r1
    have hl : (signsT x).length = x.cps.size := by unfold signsT; rw [List.length_map, Array.length_toList]
    refine .inr ⟨x, rfl, im _ _ _ h1 H1 e1 s1 _ fun i S2 H2 e2 s2 _ => ⟨fun hi => by rw [hl] at hi; exact hi, fun hi => by rw [hl] at hi; exact hi, fun y H' hy hi => ?_⟩⟩
    obtain ⟨eH, c, ec, ev⟩ := hy
    subst eH ev
    refine ⟨Ext.refl _, s2, fun _ _ q => q, .str ⟨#[c]⟩, ?_, .str _⟩
    unfold signsT
    rw [List.getElem?_map, Array.getElem?_toList, ec]
    rfl
  | _ => exact h1.elim
/-- sep.join(..) of a list or a tuple of texts -/
def wJoin (to te : WE) (σ : Sl) (S : Sta) (Q : T → Sta → Prop) : Prop := to σ S fun x S1 => match x with
  | .str a => te σ S1 fun y S2 => ∃ ys : List Str, itemsT S2 y = some (ys.map T.str) ∧ (ys.map (·.length)).sum + ys.length * a.length ≤ 16777216 ∧ Q (.str (Txt.join a ys)) S2
  | _ => False
theorem j_join {o : Expr} {to : WE} {apos pos : Pos} (ho : JE B X o to) (he : JE B X e te) (hs : starEach [e] X.env = [(false, eval e X.env)] := by rfl) (hbase : attributeBase o "join" X.env (eval o X.env) = eval o X.env := by rfl) (hline : (apos.endLine == pos.line) = true := by rfl) :
    JE B X (.Call (.Attribute o "join" apos) [e] [] pos) (wJoin to te) := pe_imp (pe_join ho he hs hbase hline) fun σ H Q ⟨st, S, Q0, he, hr, hs, h, im⟩ => by
  refine ⟨st, S, _, he, hr, hs, h, fun x S1 h1 H1 v1 e1 s1 r1 => ?_⟩
  cases x with
  | str a =>
    cases r1
    refine ⟨⟨a, rfl⟩, st, S1, _, he.trans e1, hr.mono e1, s1, h1, fun y S2 h2 H2 v2 e2 s2 r2 => ?_⟩
    obtain ⟨ys, hy, hz, q⟩ := h2
    obtain ⟨p, xs, rfl, hp, r3⟩ := items_sq s2 r2 hy
    have ex := r3.strsV
    subst ex
    exact ⟨a, p, ys, rfl, rfl, hp.imp id sqT_of, hz, im _ _ q H2 _ (e1.trans e2) s2 (.str _)⟩
  | _ => exact h1.elim
end
end Wp

set_option Elab.async false
set_option linter.all false
set_option maxRecDepth 100000
set_option maxHeartbeats 1000000
/-! enumerate(list or tuple, start=k) -/
namespace Wp
open PySem PySem.Spec PyProof.Rows L2
section
variable {M : Model} {A : Around} {E : Value → Shared → Prop} {s : Shared} {env : Env}
theorem callWith_typeKw {pos : Pos} {T : String} {e : Expr} {rest : List Expr} {kws : List Keyword} {Q : Value → Shared → Prop}
    (h : wpAny M A (spliced (backTo pos (starEach (e :: rest) env))) (fun vs s₁ => wpAny M A (evalAll ((backToKw pos (keywordEach kws env)).map (·.2)))
      (fun kvs s₂ => wpAny M A (call (.type T) vs (((backToKw pos (keywordEach kws env)).filterMap (·.1)).zip kvs)) Q E s₂) E s₁) E s)
    (he : backTo pos (starEach (e :: rest) env) = (false, eval e env) :: backTo pos (starEach rest env) := by rfl)
    (hplain : (backTo pos (starEach (e :: rest) env)).any (·.1) = false := by rfl)
    (hall : (backToKw pos (keywordEach kws env)).all (·.1.isSome) = true := by rfl)
    (hkw : (backToKw pos (keywordEach kws env)).any (·.1.isNone) = false := by rfl) :
    wpAny M A (callWith pos (.type T) [] (backTo pos (starEach (e :: rest) env)) (backToKw pos (keywordEach kws env))) Q E s := by
  have hev : wpAny M A (evalArgs (.type T) true (backTo pos (starEach (e :: rest) env)) (backToKw pos (keywordEach kws env))) (fun a s₁ => wpAny M A (call (.type T) ([] ++ a.pos) a.kw) Q E s₁) E s := by
    rw [he] at h ⊢
    exact evalArgs_kwB hall h
  unfold callWith
  refine wpAny_bind (wpAny_holding (wpAny_mono hev (fun a s₁ h₁ => wpAny_bind (wpAny_standAt ?_)) fun _ _ x => x))
  simp only [hplain, hkw, Bool.or_false]
  refine wpAny_bind (wpAny_pure ?_)
  exact wpAny_bind (wpAny_mono h₁ (fun r s₂ hr => wpAny_bind (wpAny_holding (wpAny_point (wpAny_pure hr)))) fun _ _ x => x)
end
/-- the n items in new pairs, counted from k -/
def IteS (Sq : Hp → List V → Prop) (k : Int) (n : Nat) : It :=
  ⟨fun i H => ∃ (xs : List V) (x : V), Sq H xs ∧ xs.length = n ∧ xs[i]? = some x, fun i H v H' => ∃ T x, v = .ref T ∧ H T = none ∧ H' = upd H T (.tup [.int (k + (i : Nat)), x]) ∧ ∀ xs, Sq H xs → xs[i]? = some x, fun i H => ∃ xs : List V, Sq H xs ∧ xs.length = n ∧ n ≤ i⟩
/-- what the counting asks of the walked thing -/
structure Src (P : Program) (w : World) (K : PySem.W.Frag) (Sq : Hp → List V → Prop) (it : Addr) (St : Nat → Heap → Prop) : Prop where
  obj : ∀ i h, St i h → ∃ o : Obj, h.get? it = some o ∧ ∀ v, o.data ≠ .cell v
  keep : ∀ i (h h' : Heap), St i h → (∀ o, h.get? it = some o → h'.get? it = some o) → St i h'
  inj : ∀ (X : Cx) pins σ H s xs ys, X.prog = P → X.w = w → X.K = K → Inv X pins σ H s → Sq H xs → Sq H ys → xs = ys
  draws : ∀ (X : Cx) pins σ H s xs, X.prog = P → X.w = w → X.K = K → Inv X pins σ H s → Sq H xs → X.A.handled = none → (∃ i, St i s.heap) →
    ∃ (its : List Value) (a : Addr) (St2 : Nat → Heap → Prop), Vals xs its ∧ Draws P w X.A.in1 it [it, a] its.length (fun i v => its[i]? = some v) St2 ∧ (∃ o : Obj, s.heap.get? a = some o ∧ o.cls ≠ .type "enumerate") ∧
      (∀ i, St i s.heap → St2 i s.heap) ∧ ∀ i h, St2 i h → St i h
theorem turn_enumS {P : Program} {w : World} {K : PySem.W.Frag} {Sq : Hp → List V → Prop} {St : Nat → Heap → Prop} {elts : List Expr} {kk : Nat} {tpos : Pos} (e it : Addr) (k : Int) (n : Nat) (D : Src P w K Sq it St) :
    Turn P w K (.Tuple elts kk tpos) (IteS Sq k n) [e, it] e (fun i h => (∃ old, IsEnum h e it (k + ((i : Nat) : Int)) old) ∧ St i h ∧ e ≠ it ∧ i ≤ n) where
  mem := by simp
  obj := fun i h st b hb => by
    obtain ⟨⟨old, he⟩, hit, _⟩ := st
    have e' : b = e ∨ b = it := by simpa using hb
    rcases e' with z | z
    · rw [z]; exact ⟨_, he, fun v q => nomatch q⟩
    · rw [z]; exact D.obj i h hit
  keep := fun i h h' st k => let ⟨⟨old, he⟩, hi, hne⟩ := st; ⟨⟨old, k e (by simp) _ he⟩, D.keep i h h' hi fun o q => k it (by simp) o q, hne⟩
  item := by
    intro X hP hw hK hc i pins s σ H E I hf st hg
    obtain ⟨⟨old, he⟩, hit, hne, hin⟩ := st
    obtain ⟨xs, x, hq, hn, hx⟩ := hg
    obtain ⟨its, a, St2, rv, DD, ⟨oa, hoa, hna⟩, s1, s2⟩ := D.draws X pins σ H s xs hP hw hK I hq (I.ok.hd hc) ⟨i, hit⟩
    subst hP hw hK
    obtain ⟨u, hu, ru⟩ := rv.get hx
    have hel : e < s.heap.objs.size := Heap.lt_size he
    have hil : it < s.heap.objs.size := by obtain ⟨_, q, _⟩ := D.obj i _ hit; exact Heap.lt_size q
    have hea : e ≠ a := fun z => by
      have he' : s.heap.get? e = some _ := he
      rw [z, hoa] at he'
      exact hna (congrArg Obj.cls (Option.some.inj he'))
    have hil2 : i < its.length := (List.getElem?_eq_some_iff.mp hu).1
    have hlen := rv.length
    refine wpAny_pyNext_enum_itemC DD he (s1 i hit) hil2 hne (by simp [hne, hea]) fun x' h' tk px ho hit' hT hsz hk => ?_
    have ex : x' = u := Option.some.inj (px.symm.trans hu)
    subst ex
    refine ⟨_, rfl, wpAny_letOwnedTupleGo_enum (s := { s with heap := h', toks := tk + 1 }) ho fun h'' he' sb => ?_⟩
    have hT2 : h''.get? s.heap.objs.size = some { cls := .type "tuple", data := .seq #[.int (k + (i : Nat)) tk, x'] } := (sb.2 _ (Nat.ne_of_gt hel)).trans hT
    have new : ObjOk X.prog X.w (upd H s.heap.objs.size (.tup [.int (k + (i : Nat)), x])) h'' s.heap.objs.size (.tup [.int (k + (i : Nat)), x]) :=
      ⟨by show 2 ≤ sizeLine; decide, [.int (k + (i : Nat)) tk, x'], .cons ⟨_, rfl⟩ (.cons ru .nil), ⟨_, hT2, rfl, _, rfl⟩⟩
    have I1 : Inv X pins σ (upd H s.heap.objs.size (.tup [.int (k + (i : Nat)), x])) { s with heap := h'', toks := tk + 1 } :=
      I.turnedNew (ch := [e, it]) (fun b ob hb q => (sb.2 b (fun z => hb (by simp [z]))).trans (hk b ob (fun z => hb (by simp [z])) (fun z => hb (by simp [z])) q)) hf (Nat.le_refl _) new
    refine ⟨.ref s.heap.objs.size, _, I1, rfl, ⟨_, x, rfl, I.hok.fresh (Nat.le_refl _), rfl, fun ys hy => by rw [D.inj X pins σ H s _ _ rfl rfl rfl I hy hq]; exact hx⟩, ⟨⟨x', ?_⟩, D.keep _ _ _ (s2 _ _ hit') (fun o q => (sb.2 it (Ne.symm hne)).trans q), hne, by omega⟩, fun b hb => ?_⟩
    · have e1 : k + ((i + 1 : Nat) : Int) = k + (i : Int) + 1 := by omega
      rw [e1]; exact he'
    · have hb' : b < s.heap.objs.size := by
        have e' : b = e ∨ b = it := by simpa using hb
        rcases e' with z | z
        · rw [z]; exact hel
        · rw [z]; exact hil
      rw [upd_ne (Nat.ne_of_lt hb')]
      exact (hf b hb).1
  done := by
    intro X hP hw hK hc i pins s σ H E I hf st hg
    obtain ⟨⟨old, he⟩, hit, hne, hin⟩ := st
    obtain ⟨xs, hq, hn, hx⟩ := hg
    obtain ⟨its, a, St2, rv, DD, ⟨oa, hoa, hna⟩, s1, s2⟩ := D.draws X pins σ H s xs hP hw hK I hq (I.ok.hd hc) ⟨i, hit⟩
    subst hP hw hK
    obtain ⟨f0, f1, f2, f3, f4, f5⟩ := hf it (by simp)
    have hlen := rv.length
    have ei : i = its.length := by omega
    exact wpAny_pyNext_enum_endD DD he (by rw [← ei]; exact s1 i hit) fun h' eb => ⟨rfl, I.turned (t' := s.toks) (fun b o hb q => eb b o hb q) f0 f1 f3 f4 f5⟩
  self := fun A i s Q E st h => let ⟨⟨_, he⟩, _⟩ := st; wpAny_pyIter_enum he h
theorem src_list {P : Program} {w : World} {K : PySem.W.Frag} (a it : Addr) (hne : a ≠ it) : Src P w K (fun H xs => SqL K H a xs) it (fun i h => h.IsListIter it a i) where
  obj := fun i h st => by
    obtain ⟨o, ho, hc, hd⟩ := st
    exact ⟨o, ho, fun v q => by rw [hd] at q; cases q⟩
  keep := fun i h h' st k => st.at k
  inj := fun X pins σ H s xs ys hP hw hK I h1 h2 => by
    subst hK
    exact I.list_inj h1 h2
  draws := fun X pins σ H s xs hP hw hK I hq hh _ => by
    subst hP hw hK
    obtain ⟨its, rv, p, hz⟩ := I.list hq
    have D := Draws.list (prog := X.prog) (w := X.w) (A := X.A.in1) hh it a hne its.toArray
    refine ⟨its, a, fun i h => h.IsListIter it a i ∧ h.IsList a its.toArray, rv, by simpa using D, ?_, fun i st => ⟨st, p.isList⟩, fun i h st => st.1⟩
    obtain ⟨o, n, e, c, _⟩ := p
    exact ⟨o, e, by rw [c]; decide⟩
theorem src_tup {P : Program} {w : World} {K : PySem.W.Frag} (a it : Addr) (hne : a ≠ it) : Src P w K (fun H xs => SqT K H a xs) it (fun i h => h.IsTupleIter it a i) where
  obj := fun i h st => by
    obtain ⟨o, ho, hc, hd⟩ := st
    exact ⟨o, ho, fun v q => by rw [hd] at q; cases q⟩
  keep := fun i h h' st k => st.at k
  inj := fun X pins σ H s xs ys hP hw hK I h1 h2 => by
    subst hK
    exact I.tuple_inj h1 h2
  draws := fun X pins σ H s xs hP hw hK I hq hh _ => by
    subst hP hw hK
    obtain ⟨its, rv, p, hz⟩ := I.tuple hq
    have D := Draws.tuple (prog := X.prog) (w := X.w) (A := X.A.in1) hh it a hne its.toArray
    refine ⟨its, a, fun i h => h.IsTupleIter it a i ∧ h.IsTuple a its.toArray, rv, by simpa using D, ?_, fun i st => ⟨st, p⟩, fun i h st => st.1⟩
    obtain ⟨o, e, c, _⟩ := p
    exact ⟨o, e, by rw [c]; decide⟩
section
variable {B : Hp} {X : Cx} {te tk : WE} {e ke : Expr}
theorem pi_enumS {te : TE} {tk : TE} {p pos tpos kp : Pos} {elts : List Expr} {kk : Nat} (hg : Gl X "enumerate") (hm : X.mg "enumerate" = none) (ha : PE X e te) (hk : PE X ke tk)
    (hs : starEach [e] X.env = (false, eval e X.env) :: starEach [] X.env := by rfl) (he : backTo pos (starEach [e] X.env) = (false, eval e X.env) :: backTo pos (starEach [] X.env) := by rfl) :
    PI X (.Tuple elts kk tpos) (.Call (.Name "enumerate" p) [e] [⟨some "start", ke, kp⟩] pos) fun σ H R => te σ H fun x H1 => tk σ H1 fun z H2 => ∃ a k, x = .ref a ∧ z = .int k ∧ (-(2 ^ 63) ≤ k ∧ k < 2 ^ 63) ∧
      ((∃ xs : List V, SqL X.K H2 a xs ∧ R (IteS (fun H xs => SqL X.K H a xs) k xs.length) H2) ∨ ∃ xs : List V, SqT X.K H2 a xs ∧ R (IteS (fun H xs => SqT X.K H a xs) k xs.length) H2) := by
  refine ⟨fun pins s σ H R I h => ?_⟩
  refine wpAny_Call_Name_kw (ld_blt I hg hm boot_enumerate ?_)
  have pa := pa_cons ha pa_nil hs
  have pk := pk_cons (nm := some "start") (kpos := kp) hk (pk_nil (X := X))
  let G : V → V → Hp → Prop := fun x z H2 => ∃ a k, x = .ref a ∧ z = .int k ∧ (-(2 ^ 63) ≤ k ∧ k < 2 ^ 63) ∧
      ((∃ xs : List V, SqL X.K H2 a xs ∧ R (IteS (fun H xs => SqL X.K H a xs) k xs.length) H2) ∨ ∃ xs : List V, SqT X.K H2 a xs ∧ R (IteS (fun H xs => SqT X.K H a xs) k xs.length) H2)
  have h1 : tCons te tNil σ H (fun vs H1 => match vs with
      | [x] => tk σ H1 fun z H2 => G x z H2
      | _ => False) := h
  refine callWith_typeKw (T := "enumerate") (thn (pa.run pos pins s σ H _ I h1) fun us s1 ⟨vs, H1, I1, r1, q1⟩ => ?_) he (by rw [he]; rfl)
  match vs, r1, q1 with
  | [x], r1, q1 =>
  have h2 : tCons tk tNil σ H1 (fun zs H2 => match zs with
      | [z] => G x z H2
      | _ => False) := q1
  refine thn (pk.run pos pins s1 σ H1 _ I1 h2) fun ws s2 ⟨zs, H2, I2, r2, q2⟩ => ?_
  match zs, r2, q2 with
  | [z], r2, q2 =>
    obtain ⟨a, k, rfl, rfl, ⟨hk0, hk1⟩, q⟩ := q2
    cases r1 with
    | cons r rr =>
    cases rr
    cases r
    cases r2 with
    | cons r rr =>
    cases rr
    obtain ⟨t, rfl⟩ := r
    rcases q with ⟨xs, hq, q⟩ | ⟨xs, hq, q⟩
    · obtain ⟨its, rv, p', hz⟩ := I2.list hq
      have lt_a : a < s2.heap.objs.size := by obtain ⟨o, n, e, _⟩ := p'; exact Heap.lt_size e
      refine enum_begins_start (begins_list a its.toArray) p'.isList hk0 hk1 fun h' he hit hsz hkp => wpAny_pyIter_enum he ?_
      have I3 : Inv X pins σ H2 { s2 with heap := h' } := I2.kept (t' := s2.toks) hkp
      refine ⟨s2.heap.objs.size + 1, [s2.heap.objs.size + 1, s2.heap.objs.size], _, _, H2, rfl, I3, turn_enumS (s2.heap.objs.size + 1) s2.heap.objs.size k xs.length (src_list a _ (Nat.ne_of_lt lt_a)), ⟨⟨.none, by simpa using he⟩, ⟨_, hit, rfl, rfl⟩, Nat.succ_ne_self _, Nat.zero_le _⟩, fun b hb => ?_, q⟩
      have e' : b = s2.heap.objs.size + 1 ∨ b = s2.heap.objs.size := by simpa using hb
      have hle : s2.heap.objs.size ≤ b := by
        rcases e' with z | z
        · rw [z]; exact Nat.le_add_right _ _
        · rw [z]; exact Nat.le_refl _
      exact I2.fpOk hle (I2.hok.fresh hle)
    · obtain ⟨its, rv, p', hz⟩ := I2.tuple hq
      have lt_a : a < s2.heap.objs.size := by obtain ⟨o, e, _⟩ := p'; exact Heap.lt_size e
      refine enum_begins_start (begins_tuple a its.toArray) p' hk0 hk1 fun h' he hit hsz hkp => wpAny_pyIter_enum he ?_
      have I3 : Inv X pins σ H2 { s2 with heap := h' } := I2.kept (t' := s2.toks) hkp
      refine ⟨s2.heap.objs.size + 1, [s2.heap.objs.size + 1, s2.heap.objs.size], _, _, H2, rfl, I3, turn_enumS (s2.heap.objs.size + 1) s2.heap.objs.size k xs.length (src_tup a _ (Nat.ne_of_lt lt_a)), ⟨⟨.none, by simpa using he⟩, ⟨_, hit, rfl, rfl⟩, Nat.succ_ne_self _, Nat.zero_le _⟩, fun b hb => ?_, q⟩
      have e' : b = s2.heap.objs.size + 1 ∨ b = s2.heap.objs.size := by simpa using hb
      have hle : s2.heap.objs.size ≤ b := by
        rcases e' with z | z
        · rw [z]; exact Nat.le_add_right _ _
        · rw [z]; exact Nat.le_refl _
      exact I2.fpOk hle (I2.hok.fresh hle)
/-- enumerate(.., start=k) of a list that stands, or a tuple -/
def pairsT (k : Int) (ts : List T) : List T := ts.mapIdx fun i t => T.tup [.int (k + (i : Int)), t]
def iEnuW (te tk : WE) (σ : Sl) (S : Sta) (R : List T → (Sta → Prop) → Sta → Prop) : Prop := te σ S fun x S1 => tk σ S1 fun z S2 => match z with
  | .int k => (-(2 ^ 63) ≤ k ∧ k < 2 ^ 63) ∧ match x with
    | .tup ts => R (pairsT k ts) (fun _ => True) S2
    | .fl ts => R (pairsT k ts) (fun _ => True) S2
    | .ref p => ∃ ts, S2 p = some (.lst ts) ∧ R (pairsT k ts) (fun S' => S' p = some (.lst ts)) S2
    | _ => False
  | _ => False
theorem pairs_at {k : Int} {ts : List T} {i : Nat} {t : T} (h : ts[i]? = some t) : (pairsT k ts)[i]? = some (T.tup [.int (k + (i : Int)), t]) := by
  unfold pairsT
  rw [List.getElem?_mapIdx, h]
  rfl
theorem pairs_len {k : Int} {ts : List T} : (pairsT k ts).length = ts.length := by unfold pairsT; rw [List.length_mapIdx]
theorem yields_enu {K : PySem.W.Frag} {H1 : Hp} {Sq : Hp → List V → Prop} {k : Int} {ts : List T} {n : Nat} {stb : Sta → Prop} (hn : n = ts.length)
    (hq : ∀ S H, Ext H1 H → St K S H → stb S → ∃ xs, Sq H xs ∧ Reps K H ts xs) : Yields K (pairsT k ts) stb H1 (IteS Sq k n) := fun i S H2 e2 s2 sb => by
  obtain ⟨xs, hs, r⟩ := hq S H2 e2 s2 sb
  rw [pairs_len]
  refine ⟨fun hi => ?_, fun hi => ⟨xs, hs, by rw [hn]; exact r.length.symm, by rw [hn]; exact hi⟩, fun x H' hy hi => ?_⟩
  · obtain ⟨v, g3, _⟩ := r.get (List.getElem?_eq_getElem hi)
    exact ⟨xs, v, hs, by rw [hn]; exact r.length.symm, g3⟩
  · obtain ⟨p, v, rfl, hp, rfl, hv⟩ := hy
    have ev := hv xs hs
    obtain ⟨t, et, rt⟩ := r.getV ev
    have ex : Ext H2 (upd H2 p (.tup [.int (k + (i : Nat)), v])) := Ext.new hp
    exact ⟨ex, s2.new hp _, fun st σ q => q.mono ex, _, pairs_at et, .tup upd_same (.cons (.int _) (.cons (Rep.mono ex _ _ rt) .nil))⟩
theorem ji_enu {p pos tpos kp : Pos} {elts : List Expr} {kk : Nat} (hg : Gl X "enumerate") (hm : X.mg "enumerate" = none) (ha : JE B X e te) (hk : JE B X ke tk)
    (hs : starEach [e] X.env = (false, eval e X.env) :: starEach [] X.env := by rfl) (he : backTo pos (starEach [e] X.env) = (false, eval e X.env) :: backTo pos (starEach [] X.env) := by rfl) :
    JI B X (.Tuple elts kk tpos) (.Call (.Name "enumerate" p) [e] [⟨some "start", ke, kp⟩] pos) (iEnuW te tk) := pi_imp (pi_enumS hg hm ha hk hs he) fun σ H R ⟨st, S, Q0, he, hr, hs, h, im⟩ => by
  refine ⟨st, S, _, he, hr, hs, h, fun x S1 h1 H1 v1 e1 s1 r1 => ?_⟩
  refine ⟨st, S1, _, he.trans e1, hr.mono e1, s1, h1, fun z S2 h2 H2 v2 e2 s2 r2 => ?_⟩
  cases z with
  | int k =>
    cases r2
    obtain ⟨hk, h2⟩ := h2
    cases x with
    | tup ts =>
      cases r1 with
      | @tup a xs _ g10 g2 =>
        have g1 := sqT_of (K := X.K) g10
        exact ⟨a, k, rfl, rfl, hk, .inr ⟨xs, e2.sqT g1, im _ _ _ h2 H2 (e1.trans e2) s2 _ (yields_enu g2.length.symm fun S H e s _ => ⟨xs, (e2.trans e).sqT g1, Reps.mono (e2.trans e) _ _ g2⟩)⟩⟩
    | fl ts =>
      cases r1 with
      | @fl a xs _ g1 g2 =>
        exact ⟨a, k, rfl, rfl, hk, .inl ⟨xs, (e2.fzL g1).sq, im _ _ _ h2 H2 (e1.trans e2) s2 _ (yields_enu g2.length.symm fun S H e s _ => ⟨xs, ((e2.trans e).fzL g1).sq, Reps.mono (e2.trans e) _ _ g2⟩)⟩⟩
    | ref p =>
      cases r1
      obtain ⟨ts, eS, h2⟩ := h2
      obtain ⟨xs, g1, g2⟩ := s2 p _ eS
      refine ⟨p, k, rfl, rfl, hk, .inl ⟨xs, .inl (.inl g1), im _ _ _ h2 H2 (e1.trans e2) s2 _ (yields_enu g2.length.symm fun S H e s sb => ?_)⟩⟩
      obtain ⟨ys, g3, g4⟩ := s p _ sb
      exact ⟨ys, .inl (.inl g3), g4⟩
    | _ => exact h2.elim
  | _ => exact h2.elim
end
end Wp

set_option Elab.async false
set_option linter.all false
set_option maxRecDepth 100000
/-! bags, draws, what stays: for all laws -/
namespace Wp
open PySem PySem.Spec PyProof.Rows L2
local macro_rules | `(tactic| walk_at "go") => `(tactic| (with_reducible refine goS_i ?_))
local macro_rules | `(tactic| walk_at "wp") => `(tactic| simp (disch := omega) only [wSeq, wNext, wSet, wVar, wC, wOp, wRet, wIfS, wTest, wCall, wCons, wNil, wTup, wLst, wAsg, gTp, gC, gNm, gN0, gIx, rSet, Wp.rAdd, rMul, rMod, Wp.rSub, rFdiv, rPow, rInt, Wp.rIx, rLt, rLe, rCmp, rGeI, rGtI, wCB, rLen, rLen1, rInt1, rMax2, rMin2, rTupOf, rListOf,
  wIsi, rBIs, rIsN, isNon, wMt, rAppendT, rExtendT, rReverseT, wNot, wOr, wAnd, wAndV, wOrV, wNotV, wFor, iRg1, iRg2, iAnyW, wAll, wChain, wSl, wNoPart, wPart, rSl, wNeg, rNeg, wLc, wYes, wDrop, wipeT, wAug, List.map, List.set_cons_zero, List.set_cons_succ, List.getElem?_cons_zero, List.getElem?_cons_succ, List.length_cons, List.length_nil, List.cons_append, List.nil_append, List.replicate, Wp.startT,
  true_and, and_true, wif_true, wif_false, ex_some, ex_some1, ex_eq, ex_lst, ex_lst0, rEq_int, Bool.false_bne, Bool.true_bne, Int.reduceLT, Int.reduceLE, Int.reduceAdd, Nat.reduceAdd, eq_self, ite_true, ite_false, beq_self_eq_true, Bool.not_true, Bool.not_false, isB_0, isB_1, isB_2, isB_3, isB_4, isB_5, isB_6, isB_7, isB_8, isB_9, isB_10, isB_11, isB_12, isB_13, isB_14, isB_15, isB_16, isB_17, isB_18, isB_19, isB_20, isB_21, isB_22, isB_23, isB_24, isB_25, isB_26, isB_27, isB_28, isB_29, isB_30, isB_31, isB_32, isB_33, isB_34, isB_35, cmul_l, cmul_r, cpow_lit, size_le, size_lt, atI_0, atI_1, atI_2, atI_3, atI_4, atI_5, atI_6, ixN_0, ixN_1, ixN_2, itemsT, tyT, reduceIte, upS, upS_upS, *])
local macro_rules | `(tactic| walk_at "run") => `(tactic| repeat (first | walk_at "wp" | walk_at "go"))
local macro_rules | `(tactic| walk_at "wq") => `(tactic| simp (disch := omega) only [wSeq, wNext, wSet, wVar, wC, wOp, wRet, wIfS, wTest, wCall, wCons, wNil, wTup, wLst, wAsg, gTp, gC, gNm, gN0, gIx, rSet, Wp.rAdd, rMul, rMod, Wp.rSub, rFdiv, rPow, rInt, Wp.rIx, rLt, rLe, rCmp, rGeI, rGtI, wCB, rLen, rLen1, rInt1, rMax2, rMin2, rTupOf, rListOf,
  wIsi, rBIs, rIsN, isNon, wMt, rAppendT, rExtendT, rReverseT, wNot, wOr, wAnd, wAndV, wOrV, wNotV, wFor, iRg1, iRg2, iAnyW, wAll, wChain, wSl, wNoPart, wPart, rSl, wNeg, rNeg, wLc, wYes, wDrop, wipeT, wAug, List.map, List.set_cons_zero, List.set_cons_succ, List.getElem?_cons_zero, List.getElem?_cons_succ, List.length_cons, List.length_nil, List.cons_append, List.nil_append, List.replicate, Wp.startT,
  true_and, and_true, wif_true, wif_false, ex_some, ex_some1, ex_eq, ex_lst, ex_lst0, rEq_int, Bool.false_bne, Bool.true_bne, Int.reduceLT, Int.reduceLE, Int.reduceAdd, Nat.reduceAdd, eq_self, ite_true, ite_false, beq_self_eq_true, Bool.not_true, Bool.not_false, isB_0, isB_1, isB_2, isB_3, isB_4, isB_5, isB_6, isB_7, isB_8, isB_9, isB_10, isB_11, isB_12, isB_13, isB_14, isB_15, isB_16, isB_17, isB_18, isB_19, isB_20, isB_21, isB_22, isB_23, isB_24, isB_25, isB_26, isB_27, isB_28, isB_29, isB_30, isB_31, isB_32, isB_33, isB_34, isB_35, cmul_l, cmul_r, cpow_lit, size_le, size_lt, atI_0, atI_1, atI_2, atI_3, atI_4, atI_5, atI_6, ixN_0, ixN_1, ixN_2, itemsT, tyT, reduceIte, *])
local macro_rules | `(tactic| walk_at "r2") => `(tactic| repeat (first | walk_at "wq" | walk_at "go"))
local macro_rules | `(tactic| walk_at "w0") => `(tactic| simp (disch := omega) only [wSeq, wNext, wSet, wVar, wC, wOp, wRet, wIfS, wTest, wCall, wCons, wNil, wTup, wLst, wAsg, gTp, gC, gNm, gN0, gIx, rSet, Wp.rAdd, rMul, rMod, Wp.rSub, rFdiv, rPow, rInt, Wp.rIx, rLt, rLe, rCmp, rGeI, rGtI, wCB, rLen, rLen1, rInt1, rMax2, rMin2, rTupOf, rListOf,
  wIsi, rBIs, rIsN, isNon, wMt, rAppendT, rExtendT, rReverseT, wNot, wOr, wAnd, wAndV, wOrV, wNotV, wFor, iRg1, iRg2, iAnyW, wAll, wChain, wSl, wNoPart, wPart, rSl, wNeg, rNeg, wLc, wYes, wDrop, wipeT, wAug, List.map, List.set_cons_zero, List.set_cons_succ, List.getElem?_cons_zero, List.getElem?_cons_succ, List.length_cons, List.length_nil, List.cons_append, List.nil_append, List.replicate, Wp.startT,
  true_and, and_true, wif_true, wif_false, ex_some, ex_some1, ex_eq, ex_lst, ex_lst0, rEq_int, Bool.false_bne, Bool.true_bne, Int.reduceLT, Int.reduceLE, Int.reduceAdd, Nat.reduceAdd, eq_self, ite_true, ite_false, beq_self_eq_true, Bool.not_true, Bool.not_false, isB_0, isB_1, isB_2, isB_3, isB_4, isB_5, isB_6, isB_7, isB_8, isB_9, isB_10, isB_11, isB_12, isB_13, isB_14, isB_15, isB_16, isB_17, isB_18, isB_19, isB_20, isB_21, isB_22, isB_23, isB_24, isB_25, isB_26, isB_27, isB_28, isB_29, isB_30, isB_31, isB_32, isB_33, isB_34, isB_35, cmul_l, cmul_r, cpow_lit, size_le, size_lt, atI_0, atI_1, atI_2, atI_3, atI_4, atI_5, atI_6, ixN_0, ixN_1, ixN_2, itemsT, tyT, reduceIte])
local macro_rules | `(tactic| walk_at "r0") => `(tactic| repeat (first | walk_at "w0" | walk_at "go"))
def Gr (S S' : Sta) : Prop := ∀ a o, S a = some o → S' a = some o
theorem Gr.refl (S : Sta) : Gr S S := fun _ _ h => h
theorem Gr.trans {S S1 S2 : Sta} (a : Gr S S1) (b : Gr S1 S2) : Gr S S2 := fun x o h => b x o (a x o h)
theorem gr_new {S : Sta} {q : Addr} {o : O} (h : S q = none) : Gr S (upS S q o) := fun a u e => by
  rw [upS_ne (fun z => by rw [z, h] at e; cases e)]; exact e
theorem al_ {S : Sta} {q : Addr} {o : O} (h : S q = none) : ∃ S1 : Sta, upS S q o = S1 ∧ Gr S S1 ∧ S1 q = some o := ⟨_, rfl, gr_new h, upS_same⟩
/-- the two kinds of a law's bag -/
def IsBag : Option Addr → Sta → Addr → Prop
  | none, S, p => ∃ a b c : Int, S p = some (.lst [.int a, .int b, .int c])
  | some q, S, p => ∃ (a b c d : Int) (ns : List Int), S p = some (.lst [.int a, .int b, .int c, .int d, .ref q]) ∧ q ≠ p ∧ S q = some (.lst (ns.map T.int)) ∧ 0 ≤ c
theorem IsBag.has {k : Option Addr} {S : Sta} {p : Addr} (h : IsBag k S p) : ∃ xs, S p = some (.lst xs) := by
  cases k with
  | none => obtain ⟨a, b, c, e⟩ := h; exact ⟨_, e⟩
  | some q => obtain ⟨a, b, c, d, ns, e, _⟩ := h; exact ⟨_, e⟩
/-- all stays but the bag at p -/
structure Grb (k : Option Addr) (p : Addr) (S S' : Sta) : Prop where
  keep : ∀ a o, S a = some o → a ≠ p → S' a = some o
  bag : IsBag k S' p
theorem IsBag.gr {k : Option Addr} {p : Addr} {S S' : Sta} (h : IsBag k S p) (g : Gr S S') : IsBag k S' p := by
  cases k with
  | none => obtain ⟨a, b, c, e⟩ := h; exact ⟨a, b, c, g _ _ e⟩
  | some q => obtain ⟨a, b, c, d, ns, e, n, e2, z⟩ := h; exact ⟨a, b, c, d, ns, g _ _ e, n, g _ _ e2, z⟩
theorem Grb.trans {k : Option Addr} {p : Addr} {S S1 S2 : Sta} (a : Grb k p S S1) (b : Grb k p S1 S2) : Grb k p S S2 := ⟨fun x o h n => b.keep x o (a.keep x o h n) n, b.bag⟩
theorem Grb.refl {k : Option Addr} {p : Addr} {S : Sta} (h : IsBag k S p) : Grb k p S S := ⟨fun _ _ h _ => h, h⟩
theorem Grb.gr {k : Option Addr} {p : Addr} {S S1 S2 : Sta} (a : Grb k p S S1) (g : Gr S1 S2) : Grb k p S S2 := ⟨fun x o h n => g _ _ (a.keep x o h n), a.bag.gr g⟩
theorem Gr.grb {k : Option Addr} {p : Addr} {S S1 : Sta} (h : IsBag k S p) (g : Gr S S1) : Grb k p S S1 := ⟨fun x o e _ => g _ _ e, h.gr g⟩
theorem new_ne {k : Option Addr} {S : Sta} {p q : Addr} (h : IsBag k S p) (hq : S q = none) : q ≠ p := fun e => by
  obtain ⟨xs, z⟩ := h.has
  rw [e, z] at hq; cases hq
theorem Grb.new {k : Option Addr} {p q : Addr} {S S1 S2 : Sta} {o : O} (h : IsBag k S p) (hq : S q = none) (e : S1 q = some o) (g : Grb k p S1 S2) : S2 q = some o := g.keep q o e (new_ne h hq)
/-- not of the bag -/
def Off (k : Option Addr) (p D : Addr) : Prop := D ≠ p ∧ ∀ q, k = some q → D ≠ q
theorem IsBag.free {k : Option Addr} {S : Sta} {p D : Addr} (h : IsBag k S p) (e : S D = none) : Off k p D := by
  refine ⟨new_ne h e, fun q hq => ?_⟩
  subst hq
  obtain ⟨a, b, c, d, ns, h1, h2, h3, h4⟩ := h
  intro z
  rw [z, h3] at e
  cases e
theorem IsBag.up {k : Option Addr} {S : Sta} {p D : Addr} {o : O} (h : IsBag k S p) (n : Off k p D) : IsBag k (upS S D o) p := by
  cases k with
  | none =>
    obtain ⟨a, b, c, e⟩ := h
    exact ⟨a, b, c, by rw [upS_ne n.1.symm]; exact e⟩
  | some q =>
    obtain ⟨a, b, c, d, ns, h1, h2, h3, h4⟩ := h
    exact ⟨a, b, c, d, ns, by rw [upS_ne n.1.symm]; exact h1, h2, by rw [upS_ne (n.2 q rfl).symm]; exact h3, h4⟩
/-- what was made since may be written -/
theorem Grb.up {k : Option Addr} {p D : Addr} {S S' : Sta} {o : O} (g : Grb k p S S') (hb : IsBag k S p) (hD : S D = none) : Grb k p S (upS S' D o) :=
  ⟨fun a u e n => by rw [upS_ne (fun z => by rw [z, hD] at e; cases e)]; exact g.keep a u e n, g.bag.up (hb.free hD)⟩
theorem le_sz {n : Nat} (h : n ≤ 1000000) : n ≤ sizeLine := Nat.le_trans h (by rw [sizeLine_eq]; decide)
theorem lt_sz {n : Nat} (h : n ≤ 1000000) : n < sizeLine := Nat.lt_of_le_of_lt h (by rw [sizeLine_eq]; decide)
def b_bag3 : WS :=
  (wSeq (wSet 2 (wC (.int 0)))
    (wSeq (wIfS (wTest (wOp rLt (wVar 1) (wCB rLen (wCons (wVar 0) wNil)))) (wSet 2 (wCB rInt1 (wCons (wOp rIx (wVar 0) (wVar 1)) wNil))) wNext)
    (wSeq (wIfS (wTest (wOp rGeI (wVar 2) (wOp rPow (wC (.int 10)) (wC (.int 18))))) (wRet (wLst (wCons (wVar 2) (wCons (wVar 2) (wCons (wVar 1) wNil))))) wNext)
    (wRet (wLst (wCons (wC (.int 0)) (wCons (wVar 2) (wCons (wVar 1) wNil))))))))
def b_draw3 : WS :=
  (wSeq (wIfS (wTest (wOp (rEq false) (wOp rIx (wVar 0) (wC (.int 0))) (wC (.int 0)))) (wSeq (wSet 2 (wOp rMod (wCB rInt1 (wCons (wOp rAdd (wOp rAdd (wOp rMul (wOp rIx (wVar 0) (wC (.int 1))) (wC (.int 48271))) (wOp rMul (wOp rIx (wVar 0) (wC (.int 2))) (wC (.int 69621)))) (wC (.int 11))) wNil)) (wC (.int 2147483647))))
    (wSeq (wAsg (wOp rAdd (wOp rMul (wVar 2) (wC (.int 2147483629))) (wOp rMod (wCB rInt1 (wCons (wOp rAdd (wOp rMul (wVar 2) (wVar 2)) (wOp rMul (wOp rIx (wVar 0) (wC (.int 2))) (wC (.int 16807)))) wNil)) (wC (.int 2147483629)))) (gIx (wVar 0) (wC (.int 0))))
    (wAsg (wVar 2) (gIx (wVar 0) (wC (.int 1)))))) wNext)
    (wSeq (wSet 3 (wOp rIx (wVar 0) (wC (.int 0))))
    (wSeq (wAsg (wOp rFdiv (wVar 3) (wVar 1)) (gIx (wVar 0) (wC (.int 0))))
    (wRet (wOp rMod (wCB rInt1 (wCons (wVar 3) wNil)) (wVar 1))))))
def b_bag5 : WS :=
  (wRet (wLst (wCons (wC (.int 0)) (wCons (wC (.int 7)) (wCons (wC (.int 0)) (wCons (wC (.int 0)) (wCons (wCB rListOf (wCons (wVar 0) wNil)) wNil)))))))
def b_draw5 : WS :=
  (wSeq (wIfS (wTest (wOp (rEq false) (wOp rIx (wVar 0) (wC (.int 0))) (wC (.int 0)))) (wSeq (wSet 2 (wCB rInt1 (wCons (wOp rIx (wVar 0) (wC (.int 3))) wNil)))
    (wSeq (wSet 3 (wOp rIx (wVar 0) (wC (.int 4))))
    (wSeq (wIfS (wTest (wOp rLt (wOp rIx (wVar 0) (wC (.int 2))) (wCB rLen (wCons (wVar 3) wNil)))) (wSet 2 (wCB rInt1 (wCons (wOp rIx (wVar 3) (wOp rIx (wVar 0) (wC (.int 2)))) wNil))) wNext)
    (wSeq (wAsg (wOp rAdd (wOp rIx (wVar 0) (wC (.int 2))) (wC (.int 1))) (gIx (wVar 0) (wC (.int 2))))
    (wSeq (wSet 4 (wOp rMod (wCB rInt1 (wCons (wOp rAdd (wOp rAdd (wOp rAdd (wOp rMul (wOp rIx (wVar 0) (wC (.int 1))) (wC (.int 48271))) (wOp rMul (wVar 2) (wC (.int 69621)))) (wOp rMul (wOp rIx (wVar 0) (wC (.int 2))) (wC (.int 16807)))) (wC (.int 11))) wNil)) (wC (.int 2147483647))))
    (wSeq (wAsg (wOp rAdd (wOp rMul (wVar 4) (wC (.int 2147483629))) (wOp rMod (wCB rInt1 (wCons (wOp rAdd (wOp rMul (wVar 4) (wVar 4)) (wVar 2)) wNil)) (wC (.int 2147483629)))) (gIx (wVar 0) (wC (.int 0))))
    (wSeq (wIfS (wTest (wOp rGeI (wVar 2) (wOp rPow (wC (.int 10)) (wC (.int 18))))) (wAsg (wVar 2) (gIx (wVar 0) (wC (.int 0)))) wNext)
    (wAsg (wVar 4) (gIx (wVar 0) (wC (.int 1))))))))))) wNext)
    (wSeq (wSet 5 (wOp rIx (wVar 0) (wC (.int 0))))
    (wSeq (wAsg (wOp rFdiv (wVar 5) (wVar 1)) (gIx (wVar 0) (wC (.int 0))))
    (wRet (wOp rMod (wCB rInt1 (wCons (wVar 5) wNil)) (wVar 1))))))
def spBag3 : WSp := fun ts S Q _ => match ts with
  | [.fl us, .int k] => ∃ ns : List Int, us = ns.map T.int ∧ 0 ≤ k ∧ ns.length ≤ 1000 ∧ ∀ (p : Addr) S', S p = none → Gr S S' → IsBag none S' p → Q (.ref p) S'
  | _ => False
theorem hw_bag3 : ∀ ts S Q E, ts.length = 2 → spBag3 ts S Q E → b_bag3 { nx := fun _ S' => Q .non S', rt := Q } (Wp.startT ["script", "k", "cell"] ts) S := by
  intro ts S Q E _ h
  match ts, h with
  | [.fl us, .int k], ⟨ns, e, h0, hl, h⟩ =>
    subst e
    have fin : ∀ (a b c : Int) (p : Addr), S p = none → Q (.ref p) (upS S p (.lst [.int a, .int b, .int c])) := fun a b c p hp => h p _ hp (gr_new hp) ⟨a, b, c, upS_same⟩
    clear h
    unfold b_bag3
    walk_at "r0"
    refine if_dec (fun hk => ?_) (fun hk => ?_)
    · obtain ⟨x, hx, hm⟩ := atI_in (xs := ns.map T.int) h0 hk
      obtain ⟨n, _, rfl⟩ := List.mem_map.mp hm
      walk_at "r0"
      simp only [hx]
      walk_at "r0"
      refine if_dec (fun _ => ?_) (fun _ => ?_)
      · walk_at "r0"
        exact fun p hp => fin _ _ _ p hp
      · walk_at "r0"
        exact fun p hp => fin _ _ _ p hp
    · walk_at "r0"
      refine if_dec (fun _ => ?_) (fun _ => ?_)
      · walk_at "r0"
        exact fun p hp => fin _ _ _ p hp
      · walk_at "r0"
        exact fun p hp => fin _ _ _ p hp
def spDraw (f : Bool) : WSp := fun ts S Q _ => match ts with
  | [.ref p, .int m] => ∃ k, k.isSome = f ∧ IsBag k S p ∧ 0 < m ∧ m < 2 ^ 62 ∧ ∀ (r : Int) (S' : Sta), 0 ≤ r → r < m → Grb k p S S' → Q (.int r) S'
  | _ => False
theorem hw_draw3 : ∀ ts S Q E, ts.length = 2 → spDraw false ts S Q E → b_draw3 { nx := fun _ S' => Q .non S', rt := Q } (Wp.startT ["bag", "many", "seed", "rest"] ts) S := by
  intro ts S Q E _ h
  match ts, h with
  | [.ref p, .int m], ⟨none, _, ⟨a, b, c, hS⟩, h0, h1, h⟩ =>
    have fin : ∀ (r a b c : Int), 0 ≤ r → r < m → Q (.int r) (upS S p (.lst [.int a, .int b, .int c])) := fun r a b c g1 g2 => h r _ g1 g2 ⟨fun x o e n => by rw [upS_ne n]; exact e, _, _, _, upS_same⟩
    clear h
    unfold b_draw3
    walk_at "run"
    refine if_bool (fun _ => ?_) (fun _ => ?_)
    · walk_at "run"
      exact fin _ _ _ _ (Int.emod_nonneg _ (by omega)) (Int.emod_lt_of_pos _ h0)
    · walk_at "run"
      exact fin _ _ _ _ (Int.emod_nonneg _ (by omega)) (Int.emod_lt_of_pos _ h0)
def spBag5 : WSp := fun ts S Q _ => match ts with
  | [.fl us] => ∃ ns : List Int, us = ns.map T.int ∧ ∀ (p : Addr) S', S p = none → Gr S S' → (∃ q, IsBag (some q) S' p) → Q (.ref p) S'
  | _ => False
theorem hw_bag5 : ∀ ts S Q E, ts.length = 1 → spBag5 ts S Q E → b_bag5 { nx := fun _ S' => Q .non S', rt := Q } (Wp.startT ["script"] ts) S := by
  intro ts S Q E _ h
  match ts, h with
  | [.fl us], ⟨ns, e, h⟩ =>
    subst e
    unfold b_bag5
    walk_at "r0"
    intro q hq p hp
    have hqp : q ≠ p := fun e => by rw [e, upS_same] at hp; cases hp
    rw [upS_ne hqp.symm] at hp
    refine h p _ hp ((gr_new hq).trans (gr_new (by rw [upS_ne hqp.symm]; exact hp))) ⟨q, 0, 7, 0, 0, ns, upS_same, hqp, by rw [upS_ne hqp, upS_same], by omega⟩
theorem hw_draw5 : ∀ ts S Q E, ts.length = 2 → spDraw true ts S Q E → b_draw5 { nx := fun _ S' => Q .non S', rt := Q } (Wp.startT ["bag", "many", "cell", "cells", "seed", "rest"] ts) S := by
  intro ts S Q E _ h
  match ts, h with
  | [.ref p, .int m], ⟨some q, _, ⟨a, b, c, d, ns, hS, hqp, hq, hc⟩, h0, h1, h⟩ =>
    have fin : ∀ (r a b c d : Int), 0 ≤ r → r < m → 0 ≤ c → Q (.int r) (upS S p (.lst [.int a, .int b, .int c, .int d, .ref q])) := fun r a b c d g1 g2 g3 => h r _ g1 g2 ⟨fun x o e n => by rw [upS_ne n]; exact e, _, _, _, _, ns, upS_same, hqp, by rw [upS_ne hqp]; exact hq, g3⟩
    clear h
    have at3 : atI [T.int a, T.int b, T.int c, T.int d, T.ref q] 3 = some (.int d) := by rw [atI_3]; rfl
    unfold b_draw5
    have it : ∀ o, itemsT (upS S p o) (.ref q) = some (ns.map T.int) := fun o => itemsT_ref (by rw [upS_ne hqp]; exact hq)
    have it0 : itemsT S (.ref q) = some (ns.map T.int) := itemsT_ref hq
    walk_at "run"
    refine if_bool (fun _ => ?_) (fun _ => ?_)
    · walk_at "run"
      refine if_dec (fun hk => ?_) (fun hk => ?_)
      · obtain ⟨x, hx, hm⟩ := atI_in (xs := ns.map T.int) hc hk
        obtain ⟨n, _, rfl⟩ := List.mem_map.mp hm
        walk_at "run"
        refine if_dec (fun _ => ?_) (fun _ => ?_)
        · walk_at "run"
          exact fin _ _ _ _ _ (Int.emod_nonneg _ (by omega)) (Int.emod_lt_of_pos _ h0) (by omega)
        · walk_at "run"
          exact fin _ _ _ _ _ (Int.emod_nonneg _ (by omega)) (Int.emod_lt_of_pos _ h0) (by omega)
      · walk_at "run"
        refine if_dec (fun _ => ?_) (fun _ => ?_)
        · walk_at "run"
          exact fin _ _ _ _ _ (Int.emod_nonneg _ (by omega)) (Int.emod_lt_of_pos _ h0) (by omega)
        · walk_at "run"
          exact fin _ _ _ _ _ (Int.emod_nonneg _ (by omega)) (Int.emod_lt_of_pos _ h0) (by omega)
    · walk_at "run"
      exact fin _ _ _ _ _ (Int.emod_nonneg _ (by omega)) (Int.emod_lt_of_pos _ h0) (by omega)
end Wp

set_option Elab.async false
set_option linter.all false
set_option maxRecDepth 100000
/-! loops and comprehensions by an invariant over the turn -/
namespace Wp
open PySem PySem.Spec PyProof.Rows L2
theorem loop_inv_at {g : WG} {tb : WS} {stb : Sta → Prop} {D : WEnds} (xs : List T) (Inv : Nat → Sl → Sta → Prop) (hstb : ∀ i σ S, Inv i σ S → stb S)
    (step : ∀ i x σ S (LP : Sl → Sta → Prop), xs[i]? = some x → Inv i σ S → (∀ σ' S', Inv (i + 1) σ' S' → LP σ' S') → g x σ S fun σ2 S2 => tb { D with nx := LP, ct := LP, bk := D.nx } σ2 S2)
    (done : ∀ σ S, Inv xs.length σ S → D.nx σ S) : ∀ (n i : Nat), n + i = xs.length → ∀ σ S, Inv i σ S → loopW g tb stb D (xs.drop i) σ S
  | 0, i, hn, σ, S, h => by
    rw [show xs.drop i = [] by rw [List.drop_eq_nil_iff]; omega]
    exact ⟨hstb _ _ _ h, done σ S (by rw [← hn, Nat.zero_add]; exact h)⟩
  | n + 1, i, hn, σ, S, h => by
    have hi : i < xs.length := by omega
    rw [List.drop_eq_getElem_cons hi]
    exact ⟨hstb _ _ _ h, step i xs[i] σ S _ (List.getElem?_eq_getElem hi) h fun σ' S' h' => loop_inv_at xs Inv hstb step done n (i + 1) (by omega) σ' S' h'⟩
theorem loop_inv {g : WG} {tb : WS} {stb : Sta → Prop} {D : WEnds} {xs : List T} {σ : Sl} {S : Sta} (Inv : Nat → Sl → Sta → Prop) (h0 : Inv 0 σ S) (hstb : ∀ i σ S, Inv i σ S → stb S)
    (step : ∀ i x σ S (LP : Sl → Sta → Prop), xs[i]? = some x → Inv i σ S → (∀ σ' S', Inv (i + 1) σ' S' → LP σ' S') → g x σ S fun σ2 S2 => tb { D with nx := LP, ct := LP, bk := D.nx } σ2 S2)
    (done : ∀ σ S, Inv xs.length σ S → D.nx σ S) : loopW g tb stb D xs σ S := by
  have := loop_inv_at xs Inv hstb step done xs.length 0 (by omega) σ S h0
  rwa [List.drop_zero] at this
theorem comp_inv_at {g : WG} {tt : WT} {te : WE} {stb : Sta → Prop} {σ : Sl} {D : Addr} {Q : T → Sta → Prop} (xs : List T) (Inv : Nat → Sta → Prop) (hstb : ∀ i S, Inv i S → stb S)
    (step : ∀ i x S (LP : Sta → Prop), xs[i]? = some x → Inv i S → (∀ S', Inv (i + 1) S' → LP S') → g x σ S fun σ2 S2 => tt σ2 S2 fun b S3 => wif b (te σ2 S3 fun y S4 => ∃ acc, S4 D = some (.lst acc) ∧ acc.length < sizeLine ∧ LP (upS S4 D (.lst (acc ++ [y])))) (LP S3))
    (done : ∀ S, Inv xs.length S → Q (.ref D) S) : ∀ (n i : Nat), n + i = xs.length → ∀ S, Inv i S → compW g tt te stb σ D Q (xs.drop i) S
  | 0, i, hn, S, h => by
    rw [show xs.drop i = [] by rw [List.drop_eq_nil_iff]; omega]
    exact ⟨hstb _ _ h, done S (by rw [← hn, Nat.zero_add]; exact h)⟩
  | n + 1, i, hn, S, h => by
    have hi : i < xs.length := by omega
    rw [List.drop_eq_getElem_cons hi]
    exact ⟨hstb _ _ h, step i xs[i] S _ (List.getElem?_eq_getElem hi) h fun S' h' => comp_inv_at xs Inv hstb step done n (i + 1) (by omega) S' h'⟩
theorem comp_inv {g : WG} {tt : WT} {te : WE} {stb : Sta → Prop} {σ : Sl} {D : Addr} {Q : T → Sta → Prop} {xs : List T} {S : Sta} (Inv : Nat → Sta → Prop) (h0 : Inv 0 S) (hstb : ∀ i S, Inv i S → stb S)
    (step : ∀ i x S (LP : Sta → Prop), xs[i]? = some x → Inv i S → (∀ S', Inv (i + 1) S' → LP S') → g x σ S fun σ2 S2 => tt σ2 S2 fun b S3 => wif b (te σ2 S3 fun y S4 => ∃ acc, S4 D = some (.lst acc) ∧ acc.length < sizeLine ∧ LP (upS S4 D (.lst (acc ++ [y])))) (LP S3))
    (done : ∀ S, Inv xs.length S → Q (.ref D) S) : compW g tt te stb σ D Q xs S := by
  have := comp_inv_at xs Inv hstb step done xs.length 0 (by omega) S h0
  rwa [List.drop_zero] at this
/-- a comprehension without a test whose element is f of the item; what stands stays, a bag may change -/
theorem comp_map {g : WG} {te : WE} {stb : Sta → Prop} {σ : Sl} {D : Addr} {Q : T → Sta → Prop} {xs : List T} {S0 : Sta} (Rel : Sta → Sta → Prop) (f : Nat → T) (hS0 : S0 D = some (.lst [])) (hl : xs.length ≤ 1000000)
    (r0 : Rel S0 S0) (hstb : ∀ S, Rel S0 S → stb S)
    (up : ∀ S acc o, Rel S0 S → S D = some (.lst acc) → Rel S0 (upS S D o))
    (step : ∀ i x S acc (R : T → Sta → Prop), xs[i]? = some x → Rel S0 S → S D = some (.lst acc) → (∀ S', Rel S0 S' → S' D = some (.lst acc) → R (f i) S') → g x σ S fun σ2 S2 => te σ2 S2 R)
    (done : ∀ S, Rel S0 S → S D = some (.lst ((List.range xs.length).map f)) → Q (.ref D) S) : compW g wYes te stb σ D Q xs S0 :=
  comp_inv (fun i S => Rel S0 S ∧ S D = some (.lst ((List.range i).map f))) ⟨r0, hS0⟩ (fun i S h => hstb S h.1) (fun i x S LP hx h nx => by
    have hi : i < xs.length := (List.getElem?_eq_some_iff.mp hx).1
    have hh := step i x S _ (fun y S4 => ∃ acc, S4 D = some (.lst acc) ∧ acc.length < sizeLine ∧ LP (upS S4 D (.lst (acc ++ [y])))) hx h.1 h.2 fun S' r e => by
      refine ⟨_, e, ?_, nx _ ⟨up S' _ _ r e, ?_⟩⟩
      · rw [List.length_map, List.length_range]; exact lt_sz (by omega)
      · rw [upS_same, List.range_succ, List.map_append]; rfl
    exact (by
      show g x σ S fun σ2 S2 => wif true (te σ2 S2 _) _
      simp only [wif_true]
      exact hh)) fun S h => done S h.1 h.2
theorem all_inv_at {g : WG} {te : WE} {stb : Sta → Prop} {σ : Sl} {Q : T → Sta → Prop} (xs : List T) (f : T → Bool) (S : Sta) (hstb : stb S) (q : Q (.bl (xs.all f)) S)
    (step : ∀ x (R : T → Sta → Prop), x ∈ xs → R (.bl (f x)) S → g x σ S fun σ2 S2 => te σ2 S2 R) : allW g te stb σ Q xs S := by
  induction xs with
  | nil => exact ⟨hstb, q⟩
  | cons x xs ih =>
    refine ⟨hstb, step x _ List.mem_cons_self ?_⟩
    rw [List.all_cons] at q
    show wif (f x) _ _
    refine if_bool (fun h => ?_) (fun h => ?_)
    · rw [h, Bool.true_and] at q
      exact ih q fun y R hy => step y R (List.mem_cons_of_mem _ hy)
    · rw [h, Bool.false_and] at q
      exact q
theorem range_at {lo : Int} {n i : Nat} {x : T} (h : (rangeT lo n)[i]? = some x) : i < n ∧ x = .int (lo + (i : Int)) := by
  unfold rangeT at h
  rw [List.getElem?_map] at h
  cases e : (List.range n)[i]? with
  | none => rw [e] at h; cases h
  | some j =>
    obtain ⟨hi, ej⟩ := List.getElem?_eq_some_iff.mp e
    rw [List.length_range] at hi
    rw [List.getElem_range] at ej
    subst ej
    rw [e] at h
    cases h
    exact ⟨hi, rfl⟩
theorem rangeT_length {lo : Int} {n : Nat} : (rangeT lo n).length = n := by unfold rangeT; rw [List.length_map, List.length_range]
theorem map_at {α β : Type} {f : α → β} {xs : List α} {i : Nat} {y : β} (h : (xs.map f)[i]? = some y) : ∃ x, xs[i]? = some x ∧ y = f x := by
  rw [List.getElem?_map] at h
  cases e : xs[i]? with
  | none => rw [e] at h; cases h
  | some x => rw [e] at h; cases h; exact ⟨x, rfl, rfl⟩
end Wp

set_option Elab.async false
set_option linter.all false
set_option maxRecDepth 100000
/-! == over data without bools -/
namespace Wp
open PySem PySem.Spec PyProof.Rows L2
mutual
/-- data: no bools, no things that change -/
def nbT : T → Bool
  | .non => true
  | .bl _ => false
  | .int _ => true
  | .str x => PyData.strOk x
  | .tup ts => nbTs ts
  | .fl ts => nbTs ts
  | .ref _ => false
  | .pt _ => false
def nbTs : List T → Bool
  | [] => true
  | t :: ts => nbT t && nbTs ts
end
mutual
def dpT : T → Nat
  | .tup ts => dpTs ts + 1
  | .fl ts => dpTs ts + 1
  | _ => 0
def dpTs : List T → Nat
  | [] => 0
  | t :: ts => max (dpT t) (dpTs ts)
end
mutual
theorem nb_toD : ∀ t : T, nbT t = true → ∃ d, toD t = some d ∧ d.canLay0 = true ∧ d.depth ≤ dpT t + 1
  | .non, _ => ⟨.none, by simp only [toD], by simp only [PyData.canLay0], by simp only [PyData.depth]; omega⟩
  | .bl _, h => by simp [nbT] at h
  | .int i, _ => ⟨.int i, by simp only [toD], by simp only [PyData.canLay0], by simp only [PyData.depth]; omega⟩
  | .str x, h => ⟨.str x, by simp only [toD], by simp only [PyData.canLay0]; simpa only [nbT] using h, by simp only [PyData.depth]; omega⟩
  | .tup ts, h => by
    obtain ⟨ds, e1, e2, e3⟩ := nb_toDs ts (by simpa only [nbT] using h)
    exact ⟨.tuple ds, by simp only [toD, e1, Option.map_some], by simpa only [PyData.canLay0] using e2, by simp only [PyData.depth, dpT]; omega⟩
  | .fl ts, h => by
    obtain ⟨ds, e1, e2, e3⟩ := nb_toDs ts (by simpa only [nbT] using h)
    exact ⟨.list ds, by simp only [toD, e1, Option.map_some], by simpa only [PyData.canLay0] using e2, by simp only [PyData.depth, dpT]; omega⟩
  | .ref _, h => by simp [nbT] at h
  | .pt _, h => by simp [nbT] at h
theorem nb_toDs : ∀ ts : List T, nbTs ts = true → ∃ ds, toDs ts = some ds ∧ PyData.canLayAll0 ds = true ∧ PyData.depthAll ds ≤ dpTs ts + 1
  | [], _ => ⟨[], by simp only [toDs], by simp only [PyData.canLayAll0], by simp only [PyData.depthAll]; omega⟩
  | t :: ts, h => by
    simp only [nbTs, Bool.and_eq_true] at h
    obtain ⟨d, e1, e2, e3⟩ := nb_toD t h.1
    obtain ⟨ds, g1, g2, g3⟩ := nb_toDs ts h.2
    exact ⟨d :: ds, by simp only [toDs, e1, g1], by simp only [PyData.canLayAll0, e2, g2, Bool.and_self], by simp only [PyData.depthAll, dpTs]; omega⟩
end
mutual
theorem nb_eqv : ∀ (x y : T) (d e : PyData), nbT x = true → nbT y = true → toD x = some d → toD y = some e → (PyData.eqv d e = true ↔ x = y)
  | .non, y, d, e, hx, hy, ex, ey => by
    simp only [toD, Option.some.injEq] at ex; subst ex
    cases y <;> simp only [nbT] at hy <;> simp only [toD, Option.some.injEq, Option.map_eq_some_iff, reduceCtorEq] at ey <;> first
      | (subst ey; simp [PyData.eqv]; done)
      | (obtain ⟨es, _, rfl⟩ := ey; simp [PyData.eqv]; done)
      | (simp at hy; done)
  | .bl _, y, d, e, hx, hy, ex, ey => by simp [nbT] at hx
  | .int i, y, d, e, hx, hy, ex, ey => by
    simp only [toD, Option.some.injEq] at ex; subst ex
    cases y <;> simp only [nbT] at hy <;> simp only [toD, Option.some.injEq, Option.map_eq_some_iff, reduceCtorEq] at ey <;> first
      | (subst ey; simp [PyData.eqv]; done)
      | (obtain ⟨es, _, rfl⟩ := ey; simp [PyData.eqv]; done)
      | (simp at hy; done)
  | .str z, y, d, e, hx, hy, ex, ey => by
    simp only [toD, Option.some.injEq] at ex; subst ex
    cases y <;> simp only [nbT] at hy <;> simp only [toD, Option.some.injEq, Option.map_eq_some_iff, reduceCtorEq] at ey <;> first
      | (subst ey; simp [PyData.eqv]; done)
      | (obtain ⟨es, _, rfl⟩ := ey; simp [PyData.eqv]; done)
      | (simp at hy; done)
  | .tup ts, y, d, e, hx, hy, ex, ey => by
    simp only [toD, Option.map_eq_some_iff] at ex
    obtain ⟨ds, e1, rfl⟩ := ex
    cases y <;> simp only [nbT] at hy <;> simp only [toD, Option.some.injEq, Option.map_eq_some_iff, reduceCtorEq] at ey <;> first
      | (subst ey; simp [PyData.eqv]; done)
      | (obtain ⟨es, e2, rfl⟩ := ey; simp only [PyData.eqv, nb_eqvs ts _ ds es (by simpa only [nbT] using hx) (by simpa only [nbT] using hy) e1 e2, T.tup.injEq]; done)
      | (obtain ⟨es, _, rfl⟩ := ey; simp [PyData.eqv]; done)
      | (simp at hy; done)
  | .fl ts, y, d, e, hx, hy, ex, ey => by
    simp only [toD, Option.map_eq_some_iff] at ex
    obtain ⟨ds, e1, rfl⟩ := ex
    cases y <;> simp only [nbT] at hy <;> simp only [toD, Option.some.injEq, Option.map_eq_some_iff, reduceCtorEq] at ey <;> first
      | (subst ey; simp [PyData.eqv]; done)
      | (obtain ⟨es, e2, rfl⟩ := ey; simp only [PyData.eqv, nb_eqvs ts _ ds es (by simpa only [nbT] using hx) (by simpa only [nbT] using hy) e1 e2, T.fl.injEq]; done)
      | (obtain ⟨es, _, rfl⟩ := ey; simp [PyData.eqv]; done)
      | (simp at hy; done)
  | .ref _, y, d, e, hx, hy, ex, ey => by simp [nbT] at hx
  | .pt _, y, d, e, hx, hy, ex, ey => by simp [nbT] at hx
theorem nb_eqvs : ∀ (xs ys : List T) (ds es : List PyData), nbTs xs = true → nbTs ys = true → toDs xs = some ds → toDs ys = some es → (PyData.eqvAll ds es = true ↔ xs = ys)
  | [], [], ds, es, _, _, e1, e2 => by simp only [toDs, Option.some.injEq] at e1 e2; subst e1 e2; simp [PyData.eqvAll]
  | [], y :: ys, ds, es, _, hy, e1, e2 => by
    obtain ⟨es', g1, _, _⟩ := nb_toDs (y :: ys) hy
    simp only [toDs, Option.some.injEq] at e1
    subst e1
    cases es with
    | nil => simp only [toDs] at e2; split at e2 <;> cases e2
    | cons _ _ => simp [PyData.eqvAll]
  | x :: xs, [], ds, es, hx, _, e1, e2 => by
    simp only [toDs, Option.some.injEq] at e2
    subst e2
    cases ds with
    | nil => simp only [toDs] at e1; split at e1 <;> cases e1
    | cons _ _ => simp [PyData.eqvAll]
  | x :: xs, y :: ys, ds, es, hx, hy, e1, e2 => by
    simp only [nbTs, Bool.and_eq_true] at hx hy
    obtain ⟨d, a1, _, _⟩ := nb_toD x hx.1
    obtain ⟨ds', a2, _, _⟩ := nb_toDs xs hx.2
    obtain ⟨e, b1, _, _⟩ := nb_toD y hy.1
    obtain ⟨es', b2, _, _⟩ := nb_toDs ys hy.2
    simp only [toDs, a1, a2, Option.some.injEq] at e1
    simp only [toDs, b1, b2, Option.some.injEq] at e2
    subst e1 e2
    rw [PyData.eqvAll, Bool.and_eq_true, nb_eqv x y d e hx.1 hy.1 a1 b1, nb_eqvs xs ys ds' es' hx.2 hy.2 a2 b2, List.cons.injEq]
end
/-- a value as it stands: a list by its items -/
def see (S : Sta) : T → T
  | .ref p => match S p with
    | some (.lst ts) => .fl ts
    | _ => .ref p
  | t => t
theorem see_ref {S : Sta} {p : Addr} {ts : List T} (h : S p = some (.lst ts)) : see S (.ref p) = .fl ts := by simp only [see, h]
theorem dd_see {S : Sta} {t : T} : dd S t = toD (see S t) := by
  cases t with
  | ref p =>
    simp only [dd, see]
    cases e : S p with
    | none => simp only [toD]
    | some o => cases o <;> simp only [toD]
  | _ => rfl
/-- == -/
theorem rEq_nb {neg : Bool} {x y : T} {S : Sta} {Q : T → Sta → Prop} {x' y' : T} (ex : see S x = x') (ey : see S y = y') (hx : nbT x' = true) (hy : nbT y' = true) (dx : dpT x' ≤ 60) (dy : dpT y' ≤ 60) (h1 : x' = y' → Q (.bl (!neg)) S) (h2 : x' ≠ y' → Q (.bl neg) S) : Wp.rEq neg x y S Q := by
  subst ex ey
  obtain ⟨d, a1, a2, a3⟩ := nb_toD _ hx
  obtain ⟨e, b1, b2, b3⟩ := nb_toD _ hy
  refine ⟨d, by rw [dd_see]; exact a1, e, by rw [dd_see]; exact b1, ?_, ?_, ?_⟩
  · unfold SeqAt.shaped; rw [a2, Bool.true_and]; exact decide_eq_true (by omega)
  · unfold SeqAt.shaped; rw [b2, Bool.true_and]; exact decide_eq_true (by omega)
  · have k := nb_eqv _ _ d e hx hy a1 b1
    by_cases h : see S x = see S y
    · rw [k.mpr h]
      have := h1 h
      cases neg <;> exact this
    · have z : PyData.eqv d e = false := by
        cases q : PyData.eqv d e with
        | false => rfl
        | true => exact absurd (k.mp q) h
      rw [z]
      have := h2 h
      cases neg <;> exact this
theorem nb_ints (ns : List Int) : nbTs (ns.map T.int) = true := by
  induction ns with
  | nil => rfl
  | cons n ns ih => simp only [List.map_cons, nbTs, nbT, ih, Bool.and_self]
theorem dp_ints (ns : List Int) : dpTs (ns.map T.int) = 0 := by
  induction ns with
  | nil => rfl
  | cons n ns ih => simp only [List.map_cons, dpTs, dpT, ih, Nat.max_self]
theorem ints_inj {ns ms : List Int} : ns.map T.int = ms.map T.int ↔ ns = ms := by
  constructor
  · intro h
    induction ns generalizing ms with
    | nil => cases ms with
      | nil => rfl
      | cons m ms => simp at h
    | cons n ns ih => cases ms with
      | nil => simp at h
      | cons m ms =>
        simp only [List.map_cons, List.cons.injEq, T.int.injEq] at h
        rw [h.1, ih h.2]
  · intro h; rw [h]
end Wp
namespace Wp
open PySem PySem.Spec PyProof.Rows L2
theorem sIx_nat {n d : Nat} (i : Nat) : HT.sIx n d (some (i : Int)) = min i n := by
  unfold HT.sIx
  simp
  omega
theorem sIx_none {n d : Nat} : HT.sIx n d none = d := rfl
theorem cutT_to (xs : List T) (i : Nat) : cutT xs none (some (i : Int)) = xs.take i := by
  unfold cutT
  rw [sIx_nat, sIx_none, List.drop_zero, Nat.sub_zero]
  by_cases h : i ≤ xs.length
  · rw [Nat.min_eq_left h]
  · rw [Nat.min_eq_right (by omega), List.take_of_length_le (Nat.le_refl _), List.take_of_length_le (by omega)]
theorem cutT_from (xs : List T) (i : Nat) : cutT xs (some (i : Int)) none = xs.drop i := by
  unfold cutT
  rw [sIx_nat, sIx_none]
  by_cases h : i ≤ xs.length
  · rw [Nat.min_eq_left h, List.take_of_length_le (by rw [List.length_drop]; omega)]
  · rw [Nat.min_eq_right (by omega), Nat.sub_self, List.take_zero, List.drop_eq_nil_of_le (by omega)]
theorem cutT_both (xs : List T) (i j : Nat) : cutT xs (some (i : Int)) (some (j : Int)) = (xs.drop i).take (j - i) := by
  unfold cutT
  rw [sIx_nat, sIx_nat]
  by_cases h : i ≤ xs.length
  · rw [Nat.min_eq_left h]
    by_cases h2 : j ≤ xs.length
    · rw [Nat.min_eq_left h2]
    · rw [Nat.min_eq_right (by omega), List.take_of_length_le (by rw [List.length_drop]; omega), List.take_of_length_le (by rw [List.length_drop]; omega)]
  · rw [Nat.min_eq_right (show xs.length ≤ i by omega), List.drop_eq_nil_of_le (show xs.length ≤ i by omega), List.drop_length]
    simp
theorem ex_map_ints {ns : List Int} {P : List Int → Prop} : (∃ ds, ns.map T.int = ds.map T.int ∧ P ds) = P ns := by
  apply propext
  constructor
  · rintro ⟨ds, e, h⟩; rw [ints_inj.mp e]; exact h
  · intro h; exact ⟨ns, rfl, h⟩
end Wp

set_option Elab.async false
set_option linter.all false
set_option maxRecDepth 100000
set_option maxHeartbeats 1000000
/-! objects: attributes, methods, new instances; errors -/
namespace Wp
open PySem PySem.Spec PyProof.Rows L2
def putFT (f : Str) (v : T) : List (Str × T) → List (Str × T)
  | [] => [(f, v)]
  | (g, x) :: r => if g = f then (g, v) :: r else (g, x) :: putFT f v r
theorem KRep.put {K : PySem.W.Frag} {H : Hp} {f : Str} {t : T} {v : V} (r : Rep K H t v) : ∀ {fs : List (Str × T)} {gs : List (Str × V)}, FRep K H fs gs → FRep K H (putFT f t fs) (putF f v gs)
  | _, _, .nil => .cons r .nil
  | _, _, .cons (f := g) h1 h2 => by
    unfold putFT putF
    split
    · exact .cons r h2
    · exact .cons h1 (KRep.put r h2)
theorem KRep.look {K : PySem.W.Frag} {H : Hp} {f : Str} {t : T} : ∀ {fs : List (Str × T)} {gs : List (Str × V)}, FRep K H fs gs → fs.lookup f = some t → ∃ v, gs.lookup f = some v ∧ Rep K H t v
  | _, _, .nil, e => by cases e
  | _, _, .cons (f := g) h1 h2, e => by
    rw [List.lookup_cons] at e ⊢
    split at e
    · cases e; exact ⟨_, rfl, h1⟩
    · exact KRep.look h2 e
theorem KRep.lookN {K : PySem.W.Frag} {H : Hp} {f : Str} : ∀ {fs : List (Str × T)} {gs : List (Str × V)}, FRep K H fs gs → fs.lookup f = none → gs.lookup f = none
  | _, _, .nil, e => rfl
  | _, _, .cons (f := g) h1 h2, e => by
    rw [List.lookup_cons] at e ⊢
    split at e
    · cases e
    · exact KRep.lookN h2 e
section
variable {B : Hp} {X : Cx} {C : Addr} {f : Str} {o e value : Expr} {to te : WE} {pos pos' tpos : Pos}
/-- o.f -/
def wFld (C : Addr) (f : Str) (to : WE) (σ : Sl) (S : Sta) (Q : T → Sta → Prop) : Prop := to σ S fun x S1 => match x with
  | .ref p => ∃ fs, S1 p = some (.ins C fs) ∧ ∃ v, fs.lookup f = some v ∧ Q v S1
  | _ => False
theorem j_fld (c : Cls X.K C) (n : NoAttr X.K C f) (ho : JE B X o to) (hb : attributeBase o f X.env (eval o X.env) = eval o X.env := by rfl) : JE B X (.Attribute o f pos) (wFld C f to) :=
  pe_imp (pe_fld ho hb) fun σ H Q ⟨st, S, Q0, he, hr, hs, h, im⟩ => by
    refine ⟨st, S, _, he, hr, hs, h, fun x S1 h1 H1 v e1 s1 r1 => ?_⟩
    cases x with
    | ref p =>
      obtain ⟨fs, e2, y, e3, q⟩ := h1
      cases r1
      obtain ⟨dx, gs, e4, r4⟩ := s1 p _ e2
      obtain ⟨w, e5, r5⟩ := r4.look e3
      exact ⟨p, C, dx, gs, w, rfl, e4, c, n, e5, im _ _ q H1 w e1 s1 r5⟩
    | _ => exact h1.elim
/-- o.f = e -/
def wFSet (C : Addr) (f : Str) (to te : WE) (D : WEnds) (σ : Sl) (S : Sta) : Prop := te σ S fun y S1 => to σ S1 fun x S2 => match x with
  | .ref p => ∃ fs, S2 p = some (.ins C fs) ∧ fs.length < 1000 ∧ goS D.nx σ (upS S2 p (.ins C (putFT f y fs)))
  | _ => False
theorem insW {K : PySem.W.Frag} {S : Sta} {H : Hp} {p C dx : Addr} {fs : List (Str × T)} {gs : List (Str × V)} {f : Str} {y : T} {v : V} (hs : St K S H) (e : H p = some (.ins C dx gs)) (r : FRep K H fs gs) (ry : Rep K H y v) :
    Ext H (upd H p (.ins C dx (putF f v gs))) ∧ St K (upS S p (.ins C (putFT f y fs))) (upd H p (.ins C dx (putF f v gs))) :=
  hs.setO e trivial fun ex => ⟨dx, _, upd_same, (r.put ry).mono ex⟩
theorem js_fset (c : Cls X.K C) (n : NoAttr X.K C f) (ho : JE B X o to) (hv : JE B X value te) (hs : swapsWith value (some (.Attribute o f pos')) pos.line X.env = pure false := by rfl) : JS B X (.Assign [.Attribute o f pos'] value pos) (wFSet C f to te) :=
  ps_imp (ps_fld ho hv hs) fun D σ H ⟨st, S, D0, he, hr, hs, h, im⟩ => by
    refine ⟨st, S, _, he, hr, hs, h, fun y S1 h1 H1 v e1 s1 r1 => ?_⟩
    refine ⟨st, S1, _, he.trans e1, hr.mono e1, s1, h1, fun x S2 h2 H2 u e2 s2 r2 => ?_⟩
    cases x with
    | ref p =>
      obtain ⟨fs, e3, hl, q⟩ := h2
      cases r2
      obtain ⟨dx, gs, e4, r4⟩ := s2 p _ e3
      have ry := Rep.mono e2 _ _ r1
      obtain ⟨e5, s5⟩ := insW (f := f) s2 e4 r4 ry
      refine ⟨p, C, dx, gs, rfl, e4, c, n, by rw [← r4.length]; exact hl, ?_⟩
      exact im.nx _ _ q _ σ ((e1.trans e2).trans e5) s5 (hr.mono ((e1.trans e2).trans e5))
    | _ => exact h2.elim
/-- o.f op= e -/
def wFAug (C : Addr) (f : Str) (r : R3) (to te : WE) (D : WEnds) (σ : Sl) (S : Sta) : Prop := to σ S fun x S1 => match x with
  | .ref p => ∃ fs, S1 p = some (.ins C fs) ∧ ∃ v, fs.lookup f = some v ∧ te σ S1 fun y S2 => r v y S2 fun z S3 => ∃ fs', S3 p = some (.ins C fs') ∧ fs'.length < 1000 ∧ goS D.nx σ (upS S3 p (.ins C (putFT f z fs')))
  | _ => False
theorem js_faug {op : Operator} {r : R3} (c : Cls X.K C) (n : NoAttr X.K C f) (ho : JE B X o to) (hv : JE B X value te) (hop : OpT X (inplaceOp op) r) : JS B X (.AugAssign (.Attribute o f tpos) op value pos) (wFAug C f r to te) :=
  ps_imp (ps_fldaug (rd := L3 X.K r) ho hv (fun pins s σ H x y u v Q I ru rv h => hop pins s σ H x y u v Q I ru rv h)) fun D σ H ⟨st, S, D0, he, hr, hs, h, im⟩ => by
    refine ⟨st, S, _, he, hr, hs, h, fun x S1 h1 H1 v e1 s1 r1 => ?_⟩
    cases x with
    | ref p =>
      obtain ⟨fs, e2, y, e3, q⟩ := h1
      cases r1
      obtain ⟨dx, gs, e4, r4⟩ := s1 p _ e2
      obtain ⟨w, e5, r5⟩ := r4.look e3
      refine ⟨p, C, dx, gs, w, rfl, e4, c, n, e5, st, S1, _, he.trans e1, hr.mono e1, s1, q, fun z S2 q2 H2 u e6 s6 r6 => ?_⟩
      refine ⟨y, z, S2, _, Rep.mono e6 _ _ r5, r6, s6, q2, fun z2 S3 q3 H3 u3 e7 s7 r7 => ?_⟩
      obtain ⟨fs', e8, hl, q4⟩ := q3
      obtain ⟨dx', gs', e9, r9⟩ := s7 p _ e8
      obtain ⟨e10, s10⟩ := insW (f := f) s7 e9 r9 r7
      refine ⟨dx', gs', e9, by rw [← r9.length]; exact hl, ?_⟩
      have ee := e1.trans (e6.trans (e7.trans e10))
      exact im.nx _ _ q4 _ σ ee s10 (hr.mono ee)
    | _ => exact h1.elim
end
/-! ### methods, new instances -/
section
variable {B : Hp} {X : Cx} {C : Addr} {m x : Str} {o e : Expr} {es : List Expr} {to : WE} {t : WA} {p pos apos : Pos} {k : Nat} {ps : List Str} {s : WSp} {tl : List Addr}
/-- a class's method -/
def CalM (P : Program) (w : World) (K : PySem.W.Frag) (mg : Str → Option Value) (base : Heap) (tl : List Addr) (k : Nat) (C : Addr) (m : Str) (ps : List Str) (s : WSp) : Prop :=
  ∃ f fd, FnOk P w K mg base CX0 k f fd ps (Lsp tl K ps.length s) ∧ Meth K C m f ∧ Binds K fd ps []
theorem CalM.mono {P : Program} {w : World} {K : PySem.W.Frag} {mg : Str → Option Value} {base : Heap} {j : Nat} (c : CalM P w K mg base tl j C m ps s) (h : j ≤ k) : CalM P w K mg base tl k C m ps s := by
  obtain ⟨f, fd, F, m, b⟩ := c
  exact ⟨f, fd, F.mono h, m, b⟩
theorem CalM.imp {P : Program} {w : World} {K : PySem.W.Frag} {mg : Str → Option Value} {base : Heap} {s' : WSp} (c : CalM P w K mg base tl k C m ps s) (h : ∀ ts S Q E, s' ts S Q E → s ts S Q E) : CalM P w K mg base tl k C m ps s' := by
  obtain ⟨f, fd, F, m, b⟩ := c
  exact ⟨f, fd, fn_imp F h, m, b⟩
def wMeth (C : Addr) (m : Str) (n : Nat) (w : WSp) (to : WE) (t : WA) (σ : Sl) (S : Sta) (Q : T → Sta → Prop) : Prop := to σ S fun x S1 => match x with
  | .ref p => ∃ fs, S1 p = some (.ins C fs) ∧ fs.lookup m = none ∧ t σ S1 fun ts S2 => ts.length + 1 = n ∧ w (.ref p :: ts) S2 Q fun _ _ => False
  | _ => False
theorem j_meth (c : CalM X.prog X.w X.K X.mg X.base tl k C m ps s) (cl : Cls X.K C) (ht : ∀ P ∈ tl, GxR.TabG B P) (hr : Room k X.A) (ho : JE B X o to) (ha : JA B X (e :: es) t)
    (hst : starEach (e :: es) X.env = (false, eval e X.env) :: starEach es X.env := by rfl) (hpl : (backTo pos (starEach es X.env)).any (·.1) = false := by rfl) {pl : Sem Bool}
    (hte : eval (.Call (.Attribute o m apos) (e :: es) [] pos) X.env = (do
      let ov ← eval o X.env
      standAt apos.atName
      let (f, first) ← holding [ov] (getMethod ov m pl)
      callWith pos f first (backTo pos (starEach (e :: es) X.env)) (backToKw pos (keywordEach [] X.env))) := by rfl) :
    JE B X (.Call (.Attribute o m apos) (e :: es) [] pos) (wMeth C m ps.length s to t) := by
  obtain ⟨f, fd, F, hm, b⟩ := c
  refine pe_imp (pe_meth (pl := pl) ho cl hm F hr b .nil pass0 ha hst hpl hte) fun σ H Q ⟨st, S, Q0, he, hr, hs, h, im⟩ => ?_
  refine ⟨st, S, _, he, hr, hs, h, fun x S1 h1 H1 v e1 s1 r1 => ?_⟩
  cases x with
  | ref p =>
    obtain ⟨fs, e2, hl, q⟩ := h1
    cases r1
    obtain ⟨dx, gs, e4, r4⟩ := s1 p _ e2
    refine ⟨p, dx, gs, rfl, e4, r4.lookN hl, st, S1, _, he.trans e1, hr.mono e1, s1, q, fun ts S2 h2 H2 vs e6 s6 r6 => ?_⟩
    refine ⟨fun P hP => (he.trans (e1.trans e6)).tabs P (ht P hP), .ref p :: ts, S2, Q0, fun _ _ => False, by rw [List.length_cons]; exact h2.1, by rw [List.append_nil]; exact .cons (.ref p) r6, s6, h2.2, fun z S3 q => fin_ext (e1.trans e6) (im z S3 q), fun C S' H' q => q.elim⟩
  | _ => exact h1.elim
theorem j_meth0 (c : CalM X.prog X.w X.K X.mg X.base tl k C m ps s) (cl : Cls X.K C) (ht : ∀ P ∈ tl, GxR.TabG B P) (hr : Room k X.A) (ho : JE B X o to) {pl : Sem Bool}
    (hte : eval (.Call (.Attribute o m apos) [] [] pos) X.env = (do
      let ov ← eval o X.env
      standAt apos.atName
      let (f, first) ← holding [ov] (getMethod ov m pl)
      callWith pos f first (backTo pos (starEach [] X.env)) (backToKw pos (keywordEach [] X.env))) := by rfl) :
    JE B X (.Call (.Attribute o m apos) [] [] pos) (wMeth C m ps.length s to wNil) := by
  obtain ⟨f, fd, F, hm, b⟩ := c
  refine pe_imp (pe_meth0 (pl := pl) ho cl hm F hr b .nil pass0 hte) fun σ H Q ⟨st, S, Q0, he, hr, hs, h, im⟩ => ?_
  refine ⟨st, S, _, he, hr, hs, h, fun x S1 h1 H1 v e1 s1 r1 => ?_⟩
  cases x with
  | ref p =>
    obtain ⟨fs, e2, hl, h2⟩ := h1
    cases r1
    obtain ⟨dx, gs, e4, r4⟩ := s1 p _ e2
    refine ⟨p, dx, gs, rfl, e4, r4.lookN hl, fun P hP => (he.trans e1).tabs P (ht P hP), [.ref p], S1, Q0, fun _ _ => False, h2.1, .cons (.ref p) .nil, s1, h2.2, fun z S3 q => fin_ext e1 (im z S3 q), fun C S' H' q => q.elim⟩
  | _ => exact h1.elim
/-- a class and its __init__ -/
def CalI (P : Program) (w : World) (K : PySem.W.Frag) (mg : Str → Option Value) (base : Heap) (tl : List Addr) (k : Nat) (C : Addr) (x : Str) (ps : List Str) (s : WSp) : Prop :=
  ∃ f fd, FnOk P w K mg base CX0 k f fd ps (Lsp tl K ps.length s) ∧ Mk K C f ∧ mg x = some (.ref C) ∧ Binds K fd ps []
theorem CalI.mono {P : Program} {w : World} {K : PySem.W.Frag} {mg : Str → Option Value} {base : Heap} {j : Nat} (c : CalI P w K mg base tl j C x ps s) (h : j ≤ k) : CalI P w K mg base tl k C x ps s := by
  obtain ⟨f, fd, F, m, b⟩ := c
  exact ⟨f, fd, F.mono h, m, b⟩
def wMake (C : Addr) (n : Nat) (w : WSp) (t : WA) (σ : Sl) (S : Sta) (Q : T → Sta → Prop) : Prop := t σ S fun ts S1 => ts.length + 1 = n ∧ ∀ p, S1 p = none → w (.ref p :: ts) (upS S1 p (.ins C [])) (fun v S2 => v = .non ∧ Q (.ref p) S2) fun _ _ => False
theorem make_le {B H1 : Hp} {n : Nat} {S1 : Sta} {ts : List T} {vs : List V} {Q0 : T → Sta → Prop} {Q : VK} (he : Ext B H1) (hs : St X.K S1 H1) (r : Reps X.K H1 ts vs) (ht : ∀ P ∈ tl, GxR.TabG B P) (im : Im2 Q0 (fin X.K H1 Q))
    (h : ts.length + 1 = n ∧ ∀ p, S1 p = none → s (.ref p :: ts) (upS S1 p (.ins C [])) (fun v S2 => v = .non ∧ Q0 (.ref p) S2) fun _ _ => False) : ∀ x dx, H1 x = none → H1 dx = none → dx ≠ x →
      Lsp tl X.K n s (.ref x :: (vs ++ [])) (upd (upd H1 dx (.own x)) x (.ins C dx [])) (fun v H2 => v = .non ∧ Q (.ref x) H2) E0 := fun x dx hx hd hne => by
  have e1 := Ext.new (o := HO.own x) hd
  have s1 := hs.new hd (.own x)
  have hx1 : upd H1 dx (.own x) x = none := by rw [upd_ne hne.symm]; exact hx
  obtain ⟨e2, s2⟩ := s1.newO (u' := .ins C dx []) (o' := .ins C []) hx1 fun ex => ⟨dx, [], upd_same, .nil⟩
  have ee := e1.trans e2
  refine ⟨fun P hP => (he.trans ee).tabs P (ht P hP), .ref x :: ts, _, _, fun _ _ => False, by rw [List.length_cons]; exact h.1, by rw [List.append_nil]; exact .cons (.ref x) (Reps.mono ee _ _ r), s2, h.2 x (s1.free hx1), fun z S3 q H3 v e3 s3 r3 => ?_, fun C S' H' q => q.elim⟩
  obtain ⟨ez, q⟩ := q
  subst ez
  cases r3
  exact ⟨rfl, im _ _ q H3 _ (ee.trans e3) s3 (.ref x)⟩
theorem j_make (c : CalI X.prog X.w X.K X.mg X.base tl k C x ps s) (ht : ∀ P ∈ tl, GxR.TabG B P) (hr : Room (k + 1) X.A) (hg : Gl X x) (ha : JA B X (e :: es) t) (hdb : (x == ("__debug__" : Str)) = false := by decide)
    (he : starEach (e :: es) X.env = (false, eval e X.env) :: starEach es X.env := by rfl) (hpl : (backTo pos (starEach es X.env)).any (·.1) = false := by rfl) : JE B X (.Call (.Name x p) (e :: es) [] pos) (wMake C ps.length s t) := by
  obtain ⟨f, fd, F, M, hm, b⟩ := c
  refine pe_imp (pe_make M F hr hg hm b .nil pass0 ha hdb he hpl) fun σ H Q ⟨st, S, Q0, he, hr, hs, h, im⟩ => ?_
  refine ⟨st, S, _, he, hr, hs, h, fun ts S1 h1 H1 vs e1 s1 r1 => ?_⟩
  exact make_le (he.trans e1) s1 r1 ht (fun z S3 q => fin_ext e1 (im z S3 q)) h1
theorem j_make0 (c : CalI X.prog X.w X.K X.mg X.base tl k C x ps s) (ht : ∀ P ∈ tl, GxR.TabG B P) (hr : Room (k + 1) X.A) (hg : Gl X x) (hdb : (x == ("__debug__" : Str)) = false := by decide) : JE B X (.Call (.Name x p) [] [] pos) (wMake C ps.length s wNil) := by
  obtain ⟨f, fd, F, M, hm, b⟩ := c
  refine pe_imp (pe_make0 M F hr hg hm b .nil pass0 hdb) fun σ H Q ⟨st, S, Q0, he, hr, hs, h, im⟩ => ?_
  exact make_le (vs := []) he hs .nil ht im h
end
/-- a method of the text -/
def DefM (K : PySem.W.Frag) (C : Addr) (m qual : Str) (st : Stmt) (ps : List Str) : Prop := ∃ f fd, Fun K m qual st f fd ∧ Meth K C m f ∧ Binds K fd ps []
def DefI (K : PySem.W.Frag) (mg : Str → Option Value) (C : Addr) (x qual : Str) (st : Stmt) (ps : List Str) : Prop := ∃ f fd, Fun K "__init__" qual st f fd ∧ Mk K C f ∧ mg x = some (.ref C) ∧ Binds K fd ps []
section
variable {P : Program} {w : World} {K : PySem.W.Frag} {mg : Str → Option Value} {base : Heap} {k : Nat} {C : Addr} {m x qual : Str} {st : Stmt} {ps : List Str} {s : WSp} {tl : List Addr}
theorem DefM.cal (D : DefM K C m qual st ps) (h : ∀ f fd, Fun K m qual st f fd → FnOk P w K mg base CX0 k f fd ps (Lsp tl K ps.length s)) : CalM P w K mg base tl k C m ps s := by
  obtain ⟨f, fd, F, m, b⟩ := D
  exact ⟨f, fd, h f fd F, m, b⟩
theorem DefI.cal (D : DefI K mg C x qual st ps) (h : ∀ f fd, Fun K "__init__" qual st f fd → FnOk P w K mg base CX0 k f fd ps (Lsp tl K ps.length s)) : CalI P w K mg base tl k C x ps s := by
  obtain ⟨f, fd, F, M, m, b⟩ := D
  exact ⟨f, fd, h f fd F, M, m, b⟩
theorem defM_mk {f : Addr} {oc : Value} {od an : Option Addr} {osl : Array (Option Value)} {kV doc pm cdv ct : Value} (a : PySem.W.findIn K (.ref C) m = some (some (.ref f))) (i : PySem.W.isFn K (.ref f) = true)
    (l : K.lookup f = some ⟨oc, od, .func (PySem.W.fnOf m qual (defArgs st) (defBody st) (defScope st) .none kV doc pm an cdv ct), osl⟩) (c : PySem.W.codeIn K cdv qual = true) (k : PySem.W.keepIn K (.ref f) = true)
    (h : ∀ (kV doc pm : Value) (an : Option Addr) (cdv ct : Value) (us : List Value), us.length = ps.length → bindArgs (PySem.W.fnOf m qual (defArgs st) (defBody st) (defScope st) .none kV doc pm an cdv ct) ⟨us, []⟩ = pure (ps.zip us)) : DefM K C m qual st ps :=
  ⟨f, _, fun_mk l c k, ⟨a, i, k⟩, (fun_mk l c k).binds h⟩
theorem defI_mk {f : Addr} {oc : Value} {od an : Option Addr} {osl : Array (Option Value)} {kV doc pm cdv ct : Value} (a : PySem.W.findIn K (.ref C) "__init__" = some (some (.ref f))) (i : PySem.W.isFn K (.ref f) = true) (mk : PySem.W.makesIn K C = true) (kc : PySem.W.keepIn K (.ref C) = true) (hm : mg x = some (.ref C))
    (l : K.lookup f = some ⟨oc, od, .func (PySem.W.fnOf "__init__" qual (defArgs st) (defBody st) (defScope st) .none kV doc pm an cdv ct), osl⟩) (c : PySem.W.codeIn K cdv qual = true) (k : PySem.W.keepIn K (.ref f) = true)
    (h : ∀ (kV doc pm : Value) (an : Option Addr) (cdv ct : Value) (us : List Value), us.length = ps.length → bindArgs (PySem.W.fnOf "__init__" qual (defArgs st) (defBody st) (defScope st) .none kV doc pm an cdv ct) ⟨us, []⟩ = pure (ps.zip us)) : DefI K mg C x qual st ps :=
  ⟨f, _, fun_mk l c k, ⟨mk, a, i, kc⟩, hm, (fun_mk l c k).binds h⟩
end
end Wp

set_option Elab.async false
set_option linter.all false
set_option maxRecDepth 100000
set_option maxHeartbeats 1000000
/-! dicts -/
namespace Wp
open PySem PySem.Spec PyProof.Rows L2
section
variable {κ : Type} [DecidableEq κ]
def valT (kvs : List (κ × T)) (k : κ) : Option T := (kvs.find? fun kv => decide (kv.1 = k)).map (·.2)
def putT (kvs : List (κ × T)) (k : κ) (v : T) : List (κ × T) :=
  if (kvs.any fun kv => decide (kv.1 = k)) = true then kvs.map (fun kv => if kv.1 = k then (kv.1, v) else kv) else kvs ++ [(k, v)]
def dropT (kvs : List (κ × T)) (k : κ) : List (κ × T) := kvs.filter fun kv => decide (kv.1 ≠ k)
/-- two options that stand for each other -/
def RepO (K : PySem.W.Frag) (H : Hp) : Option T → Option V → Prop
  | some t, some v => Rep K H t v
  | none, none => True
  | _, _ => False
theorem KRep.val {K : PySem.W.Frag} {H : Hp} (k : κ) : ∀ {kvs : List (κ × T)} {vs : List (κ × V)}, KRep K H kvs vs → RepO K H (valT kvs k) (valV vs k)
  | _, _, .nil => trivial
  | _, _, .cons (f := g) (t := t) (v := v) (fs := fs) (gs := gs) h1 h2 => by
    unfold valT valV
    rw [List.find?_cons, List.find?_cons]
    by_cases e : g = k
    · have e1 : decide (((g, t) : κ × T).1 = k) = true := decide_eq_true e
      have e2 : decide (((g, v) : κ × V).1 = k) = true := decide_eq_true e
      rw [e1]
      exact h1
    · have e1 : decide (((g, t) : κ × T).1 = k) = false := decide_eq_false e
      have e2 : decide (((g, v) : κ × V).1 = k) = false := decide_eq_false e
      rw [e1]
      exact KRep.val k h2
theorem KRep.any {K : PySem.W.Frag} {H : Hp} (k : κ) : ∀ {kvs : List (κ × T)} {vs : List (κ × V)}, KRep K H kvs vs → (kvs.any fun kv => decide (kv.1 = k)) = vs.any fun kv => decide (kv.1 = k)
  | _, _, .nil => rfl
  | _, _, .cons h1 h2 => by rw [List.any_cons, List.any_cons, KRep.any k h2]
theorem KRep.repl {K : PySem.W.Frag} {H : Hp} (k : κ) {t : T} {v : V} (r : Rep K H t v) : ∀ {kvs : List (κ × T)} {vs : List (κ × V)}, KRep K H kvs vs → KRep K H (kvs.map fun kv => if kv.1 = k then (kv.1, t) else kv) (vs.map fun kv => if kv.1 = k then (kv.1, v) else kv)
  | _, _, .nil => .nil
  | _, _, .cons (f := g) h1 h2 => by
    rw [List.map_cons, List.map_cons]
    by_cases e : g = k
    · simp only [e, if_true]; exact .cons r (KRep.repl k r h2)
    · simp only [e, if_false]; exact .cons h1 (KRep.repl k r h2)
theorem KRep.app {K : PySem.W.Frag} {H : Hp} : ∀ {a b : List (κ × T)} {c d : List (κ × V)}, KRep K H a c → KRep K H b d → KRep K H (a ++ b) (c ++ d)
  | _, _, _, _, .nil, h => h
  | _, _, _, _, .cons h1 h2, h => .cons h1 (KRep.app h2 h)
theorem KRep.putd {K : PySem.W.Frag} {H : Hp} (k : κ) {t : T} {v : V} (r : Rep K H t v) {kvs : List (κ × T)} {vs : List (κ × V)} (h : KRep K H kvs vs) : KRep K H (putT kvs k t) (putK vs k v) := by
  unfold putT putK
  rw [h.any k]
  split
  · exact h.repl k r
  · exact h.app (.cons r .nil)
theorem KRep.drop {K : PySem.W.Frag} {H : Hp} (k : κ) : ∀ {kvs : List (κ × T)} {vs : List (κ × V)}, KRep K H kvs vs → KRep K H (dropT kvs k) (dropK vs k)
  | _, _, .nil => .nil
  | _, _, .cons (f := g) (t := t) (v := v) (fs := fs) (gs := gs) h1 h2 => by
    have ih := KRep.drop k h2
    unfold dropT dropK at ih ⊢
    rw [List.filter_cons, List.filter_cons]
    by_cases e : g ≠ k
    · have e1 : decide (((g, t) : κ × T).1 ≠ k) = true := decide_eq_true e
      have e2 : decide (((g, v) : κ × V).1 ≠ k) = true := decide_eq_true e
      rw [if_pos e1, if_pos e2]
      exact .cons h1 ih
    · have e1 : ¬ decide (((g, t) : κ × T).1 ≠ k) = true := by simpa using e
      have e2 : ¬ decide (((g, v) : κ × V).1 ≠ k) = true := by simpa using e
      rw [if_neg e1, if_neg e2]
      exact ih
theorem KRep.keys {K : PySem.W.Frag} {H : Hp} : ∀ {kvs : List (κ × T)} {vs : List (κ × V)}, KRep K H kvs vs → kvs.map (·.1) = vs.map (·.1)
  | _, _, .nil => rfl
  | _, _, .cons h1 h2 => by rw [List.map_cons, List.map_cons, KRep.keys h2]
/-! what a dict holds -/
theorem valT_nil {k : κ} : valT ([] : List (κ × T)) k = none := rfl
theorem valT_cons {k j : κ} {v : T} {r : List (κ × T)} : valT ((j, v) :: r) k = if j = k then some v else valT r k := by
  unfold valT
  rw [List.find?_cons]
  by_cases e : j = k
  · rw [if_pos e, show decide (((j, v) : κ × T).1 = k) = true from decide_eq_true e]; rfl
  · rw [if_neg e, show decide (((j, v) : κ × T).1 = k) = false from decide_eq_false e]
theorem valT_any (k : κ) : ∀ kvs : List (κ × T), (kvs.any fun kv => decide (kv.1 = k)) = (valT kvs k).isSome
  | [] => rfl
  | (j, v) :: r => by
    rw [List.any_cons, valT_cons, valT_any k r]
    by_cases e : j = k
    · rw [if_pos e, show decide (((j, v) : κ × T).1 = k) = true from decide_eq_true e]; rfl
    · rw [if_neg e, show decide (((j, v) : κ × T).1 = k) = false from decide_eq_false e, Bool.false_or]
theorem valT_map (k j : κ) (y : T) : ∀ kvs : List (κ × T), valT (kvs.map fun kv => if kv.1 = k then (kv.1, y) else kv) j = (valT kvs j).map fun x => if j = k then y else x
  | [] => rfl
  | (i, v) :: r => by
    rw [List.map_cons]
    by_cases e : i = k
    · simp only [e, if_true]
      rw [valT_cons, valT_cons, valT_map k j y r]
      by_cases e2 : k = j
      · simp [e2]
      · rw [if_neg e2, if_neg e2]
    · simp only [e, if_false]
      rw [valT_cons, valT_cons, valT_map k j y r]
      by_cases e2 : i = j
      · rw [if_pos e2, if_pos e2, Option.map_some, if_neg (fun z => e (e2.trans z))]
      · rw [if_neg e2, if_neg e2]
theorem valT_snoc (k j : κ) (y : T) : ∀ kvs : List (κ × T), valT kvs k = none → valT (kvs ++ [(k, y)]) j = if j = k then some y else valT kvs j
  | [], _ => by
    rw [List.nil_append, valT_cons, valT_nil]
    by_cases e : k = j
    · rw [if_pos e, if_pos e.symm]
    · rw [if_neg e, if_neg (fun z => e z.symm)]
  | (i, v) :: r, h => by
    rw [valT_cons] at h
    by_cases e : i = k
    · rw [if_pos e] at h; cases h
    · rw [if_neg e] at h
      rw [List.cons_append, valT_cons, valT_cons, valT_snoc k j y r h]
      by_cases e2 : i = j
      · rw [if_pos e2, if_pos e2, if_neg (fun z => e (e2.trans z))]
      · rw [if_neg e2, if_neg e2]
theorem valT_put (kvs : List (κ × T)) (k j : κ) (y : T) : valT (putT kvs k y) j = if j = k then some y else valT kvs j := by
  unfold putT
  rw [valT_any]
  split
  · rename_i h
    rw [valT_map]
    by_cases e : j = k
    · subst e
      obtain ⟨x, hx⟩ := Option.isSome_iff_exists.mp h
      rw [hx, if_pos rfl, Option.map_some, if_pos rfl]
    · rw [if_neg e]
      cases valT kvs j <;> simp [e]
  · rename_i h
    exact valT_snoc k j y kvs (by simpa using h)
theorem valT_drop (k j : κ) : ∀ kvs : List (κ × T), valT (dropT kvs k) j = if j = k then none else valT kvs j
  | [] => by simp [dropT, valT_nil]
  | (i, v) :: r => by
    have ih := valT_drop k j r
    unfold dropT at ih ⊢
    rw [List.filter_cons]
    by_cases e : i = k
    · rw [if_neg (by simp [e]), ih, valT_cons]
      by_cases e2 : j = k
      · rw [if_pos e2, if_pos e2]
      · rw [if_neg e2, if_neg e2, if_neg (fun z => e2 (z.symm.trans e))]
    · rw [if_pos (by simp [e]), valT_cons, valT_cons, ih]
      by_cases e2 : i = j
      · rw [if_pos e2, if_pos e2, if_neg (fun z => e (e2.trans z))]
      · rw [if_neg e2, if_neg e2]
theorem length_putT (kvs : List (κ × T)) (k : κ) (v : T) : (putT kvs k v).length ≤ kvs.length + 1 := by
  unfold putT
  split
  · rw [List.length_map]; omega
  · rw [List.length_append]; exact Nat.le_refl _
theorem length_dropT (kvs : List (κ × T)) (k : κ) : (dropT kvs k).length ≤ kvs.length := List.length_filter_le _ _
theorem keys_putT (kvs : List (κ × T)) (k : κ) (v : T) : (putT kvs k v).map (·.1) = if (valT kvs k).isSome = true then kvs.map (·.1) else kvs.map (·.1) ++ [k] := by
  unfold putT
  rw [valT_any]
  split
  · rw [List.map_map]
    refine List.map_congr_left fun p _ => ?_
    simp only [Function.comp]
    split <;> rfl
  · rw [List.map_append]; rfl
theorem valT_mem {kvs : List (κ × T)} {k : κ} : (valT kvs k).isSome = true ↔ k ∈ kvs.map (·.1) := by
  rw [← valT_any]
  simp only [List.any_eq_true, decide_eq_true_eq, List.mem_map]
theorem nodup_putT {kvs : List (κ × T)} {k : κ} {v : T} (h : (kvs.map (·.1)).Nodup) : ((putT kvs k v).map (·.1)).Nodup := by
  rw [keys_putT]
  split
  · exact h
  · rename_i hn
    rw [valT_mem] at hn
    rw [List.nodup_append]
    exact ⟨h, List.nodup_cons.mpr ⟨(by simp), List.nodup_nil⟩, fun a ha b hb => by rw [List.mem_singleton.mp hb]; intro e; subst e; exact hn ha⟩
theorem nodup_dropT {kvs : List (κ × T)} {k : κ} (h : (kvs.map (·.1)).Nodup) : ((dropT kvs k).map (·.1)).Nodup := by
  unfold dropT
  exact (List.filter_sublist.map _).nodup h
end
/-! ### keys -/
def keyT : T → Option Key
  | .int i => some (.inl i)
  | .str x => some (.inr x)
  | _ => none
def keysL : List T → Option (List Key)
  | [] => some []
  | t :: ts => match keyT t, keysL ts with
    | some k, some ks => some (k :: ks)
    | _, _ => none
def keysT : T → Option (List Key)
  | .tup ts => keysL ts
  | _ => none
theorem keyT_rep {K : PySem.W.Frag} {H : Hp} {t : T} {v : V} {k : Key} (r : Rep K H t v) (e : keyT t = some k) : v = kV k := by
  cases t <;> simp only [keyT, Option.some.injEq, reduceCtorEq] at e <;> subst e <;> cases r <;> rfl
theorem keysL_rep {K : PySem.W.Frag} {H : Hp} : ∀ {ts : List T} {vs : List V} {ks : List Key}, Reps K H ts vs → keysL ts = some ks → vs = ks.map kV
  | [], _, _, r, e => by cases r; simp only [keysL, Option.some.injEq] at e; subst e; rfl
  | t :: ts, _, ks, r, e => by
    cases r with
    | cons h1 h2 =>
      simp only [keysL] at e
      cases e1 : keyT t with
      | none => rw [e1] at e; cases e
      | some k =>
        cases e2 : keysL ts with
        | none => rw [e1, e2] at e; cases e
        | some ks' =>
          rw [e1, e2] at e
          cases e
          rw [keyT_rep h1 e1, keysL_rep h2 e2]
          rfl
theorem keysT_rep {K : PySem.W.Frag} {H : Hp} {t : T} {v : V} {ks : List Key} (r : Rep K H t v) (e : keysT t = some ks) : ∃ b, v = .ref b ∧ H b = some (.tup (ks.map kV)) := by
  cases t with
  | tup ts =>
    cases r with
    | @tup a xs _ g1 g2 => exact ⟨a, rfl, by rw [← keysL_rep g2 e]; exact g1⟩
  | _ => cases e
/-- what the dict at p holds at y -/
def getD (S : Sta) (p : Addr) (y : T) : Option (Option T) := match S p with
  | some (.dct kvs) => (keyT y).map (valT kvs)
  | some (.dtt kvs) => (keysT y).map (valT kvs)
  | _ => none
/-- the state behind d[y] = v -/
def putD (S : Sta) (p : Addr) (y v : T) : Option O := match S p with
  | some (.dct kvs) => if kvs.length < sizeLine then (keyT y).map fun k => .dct (putT kvs k v) else none
  | some (.dtt kvs) => if kvs.length < sizeLine then (keysT y).map fun k => .dtt (putT kvs k v) else none
  | _ => none
theorem getD_rep {K : PySem.W.Frag} {S : Sta} {H : Hp} {p : Addr} {y : T} {w : V} {o : Option T} (hs : St K S H) (r : Rep K H y w) (e : getD S p y = some o) : ∃ o', DGet H p w o' ∧ RepO K H o o' := by
  unfold getD at e
  cases eS : S p with
  | none => rw [eS] at e; cases e
  | some u =>
    rw [eS] at e
    cases u with
    | lst _ => cases e
    | ins _ _ => cases e
    | dct kvs =>
      obtain ⟨vs, h1, h2⟩ := hs p _ eS
      simp only [Option.map_eq_some_iff] at e
      obtain ⟨k, ek, rfl⟩ := e
      rw [keyT_rep r ek]
      exact ⟨_, .k h1, h2.val k⟩
    | dtt kvs =>
      obtain ⟨vs, h1, h2⟩ := hs p _ eS
      simp only [Option.map_eq_some_iff] at e
      obtain ⟨k, ek, rfl⟩ := e
      obtain ⟨b, rfl, hb⟩ := keysT_rep r ek
      exact ⟨_, .t h1 hb, h2.val k⟩
theorem putD_rep {K : PySem.W.Frag} {S : Sta} {H : Hp} {p : Addr} {y v : T} {w z : V} {o : O} (hs : St K S H) (r : Rep K H y w) (rv : Rep K H v z) (e : putD S p y v = some o) : ∃ H', DPut H p w z H' ∧ Ext H H' ∧ St K (upS S p o) H' := by
  unfold putD at e
  cases eS : S p with
  | none => rw [eS] at e; cases e
  | some u =>
    rw [eS] at e
    cases u with
    | lst _ => cases e
    | ins _ _ => cases e
    | dct kvs =>
      obtain ⟨vs, h1, h2⟩ := hs p _ eS
      simp only at e
      split at e
      · rename_i hl
        simp only [Option.map_eq_some_iff] at e
        obtain ⟨k, ek, rfl⟩ := e
        rw [keyT_rep r ek]
        obtain ⟨e3, s3⟩ := hs.setO (u' := .dK (putK vs k z)) (o' := .dct (putT kvs k v)) h1 trivial fun ex => ⟨_, upd_same, (h2.putd k rv).mono ex⟩
        exact ⟨_, .k h1 (by rw [← h2.length]; exact hl), e3, s3⟩
      · cases e
    | dtt kvs =>
      obtain ⟨vs, h1, h2⟩ := hs p _ eS
      simp only at e
      split at e
      · rename_i hl
        simp only [Option.map_eq_some_iff] at e
        obtain ⟨k, ek, rfl⟩ := e
        obtain ⟨b, rfl, hb⟩ := keysT_rep r ek
        obtain ⟨e3, s3⟩ := hs.setO (u' := .dT (putK vs k z)) (o' := .dtt (putT kvs k v)) h1 trivial fun ex => ⟨_, upd_same, (h2.putd k rv).mono ex⟩
        exact ⟨_, .t h1 hb (by rw [← h2.length]; exact hl), e3, s3⟩
      · cases e
theorem itemsT_ref' {S : Sta} {p : Addr} {ts : List T} (h : S p = some (.lst ts)) : itemsT S (.ref p) = some ts := by simp only [itemsT, h]
def isDT (S : Sta) (p : Addr) : Prop := match S p with
  | some (.dct _) => True
  | some (.dtt _) => True
  | _ => False
theorem isDT_rep {K : PySem.W.Frag} {S : Sta} {H : Hp} {p : Addr} (hs : St K S H) (e : isDT S p) : IsD H p := by
  unfold isDT at e
  cases eS : S p with
  | none => rw [eS] at e; cases e
  | some u =>
    rw [eS] at e
    cases u with
    | lst _ => cases e
    | ins _ _ => cases e
    | dct kvs => obtain ⟨vs, h1, h2⟩ := hs p _ eS; exact .inl ⟨vs, .inl h1⟩
    | dtt kvs => obtain ⟨vs, h1, h2⟩ := hs p _ eS; exact .inr ⟨vs, .inl h1⟩
/-! ### o[i], in, o[i] = v, len: of dicts, too -/
section
variable {B : Hp} {X : Cx} {a b o i e value : Expr} {ta tb to te : WE} {pos pos' tpos cpos apos : Pos}
theorem ix_D (hu : X.A.units + 1 < cLine) : IxR X (fun x y H Q => ∃ a v, x = .ref a ∧ DGet H a y (some v) ∧ Q v H) := by
  intro value slice pins s σ H x y v u Q I rx ry ⟨a, z, ex, g, q⟩ hs
  subst ex
  obtain rfl : v = Value.ref a := rx
  have hT := dict_typeIs I g
  unfold subscriptTail
  refine wpAny_bind ?_
  rw [getitemInPython_of_ne hT.not_modules]
  refine wpAny_bind (wpAny_specialOf hT PySem.F.slot_dict_getitem.lookup ?_)
  have h₂ : wpAny (model X.prog X.w) X.A (getItem (.ref a) u) (EP X pins σ Q) X.xe s := d_getItem hu I g ry fun w' s3 I3 rw' => ⟨z, H, I3, rw', q⟩
  have fin : wpAny (model X.prog X.w) X.A (subscripted slice false (.ref a) u) (fun r s₃ => wpAny (model X.prog X.w) X.A (letTemporaryGo value (.ref a) r >>= fun _ => pure r) (EP X pins σ Q) X.xe s₃) X.xe s := by
    rw [hs]
    exact wpAny_operating (wpAny_mono h₂ (fun r s₃ h₃ => wpAny_bind (wpAny_letTemporaryGo (wpAny_pure h₃))) fun _ _ x => x)
  first
    | exact wpAny_pure (wpAny_bind fin)
    | exact wpAny_bind (wpAny_pure (wpAny_bind fin))
    | exact wpAny_bind fin
def isD (S : Sta) (p : Addr) : Bool := match S p with
  | some (.dct _) => true
  | some (.dtt _) => true
  | _ => false
def rIxM (x : T) (y : T) (S : Sta) (Q : T → Sta → Prop) : Prop := match x with
  | .ref p => match S p with
    | some (.dct kvs) => ∃ k, keyT y = some k ∧ ∃ v, valT kvs k = some v ∧ Q v S
    | some (.dtt kvs) => ∃ k, keysT y = some k ∧ ∃ v, valT kvs k = some v ∧ Q v S
    | _ => Wp.rIx (.ref p) y S Q
  | x => Wp.rIx x y S Q
theorem ix_M (hu : X.A.units + 1 < cLine) : IxR X (L3 X.K rIxM) := by
  intro value slice pins s σ H x y v u Q I rx ry ⟨a, b, S, Q0, ra, rb, hs, q, im⟩ hsub
  have go : rIx a b S Q0 → _ := fun q => ix_T value slice pins s σ H x y v u Q I rx ry ⟨a, b, S, Q0, ra, rb, hs, q, im⟩ hsub
  have gd : ∀ p z, a = .ref p → getD S p b = some (some z) → Q0 z S → wpAny (model X.prog X.w) X.A (subscriptTail value slice v u) (EP X pins σ Q) X.xe s := fun p z ea eg q0 => by
    subst ea
    cases ra
    obtain ⟨o', g, r⟩ := getD_rep hs rb eg
    cases o' with
    | none => exact r.elim
    | some w => exact ix_D hu value slice pins s σ H _ y v u Q I rx ry ⟨p, w, rfl, g, im _ _ q0 H w (Ext.refl H) hs r⟩ hsub
  cases a with
  | ref p =>
    unfold rIxM at q
    cases eS : S p with
    | none => simp only [eS] at q; exact go q
    | some u =>
      cases u with
      | lst ts => simp only [eS] at q; exact go q
      | ins C fs => simp only [eS] at q; exact go q
      | dct kvs =>
        simp only [eS] at q
        obtain ⟨k, ek, z, ez, q⟩ := q
        exact gd p z rfl (by unfold getD; rw [eS, ek]; simp only [Option.map_some, ez]) q
      | dtt kvs =>
        simp only [eS] at q
        obtain ⟨k, ek, z, ez, q⟩ := q
        exact gd p z rfl (by unfold getD; rw [eS, ek]; simp only [Option.map_some, ez]) q
  | non => exact go q
  | bl _ => exact go q
  | int _ => exact go q
  | str _ => exact go q
  | tup _ => exact go q
  | fl _ => exact go q
  | pt _ => exact go q
/-- what o[i] is -/
def ixA (S : Sta) (x y : T) : Option T := match x with
  | .ref p => match S p with
    | some (.lst ts) => match y with
      | .int i => atI ts i
      | _ => none
    | some (.dct kvs) => (keyT y).bind (valT kvs)
    | some (.dtt kvs) => (keysT y).bind (valT kvs)
    | _ => none
  | .tup ts => match y with
    | .int i => atI ts i
    | _ => none
  | .fl ts => match y with
    | .int i => atI ts i
    | _ => none
  | .str s => match y with
    | .int i => if s.length ≤ sizeLine then (atI s.cps.toList i).map fun c => .str ⟨#[c]⟩ else none
    | _ => none
  | _ => none
def rIxA (x : T) (y : T) (S : Sta) (Q : T → Sta → Prop) : Prop := ∃ v, ixA S x y = some v ∧ Q v S
theorem rIxA_M {x y : T} {S : Sta} {Q : T → Sta → Prop} (h : rIxA x y S Q) : rIxM x y S Q := by
  obtain ⟨v, e, q⟩ := h
  unfold ixA at e
  cases x with
  | ref p =>
    unfold rIxM
    simp only at e ⊢
    cases eS : S p with
    | none => rw [eS] at e; cases e
    | some u =>
      rw [eS] at e
      cases u with
      | lst ts =>
        cases y with
        | int i => exact ⟨ts, itemsT_ref' eS, v, e, q⟩
        | _ => cases e
      | ins C fs => cases e
      | dct kvs =>
        obtain ⟨k, ek, ev⟩ := Option.bind_eq_some_iff.mp e
        exact ⟨k, ek, v, ev, q⟩
      | dtt kvs =>
        obtain ⟨k, ek, ev⟩ := Option.bind_eq_some_iff.mp e
        exact ⟨k, ek, v, ev, q⟩
  | tup ts => cases y with
    | int i => exact ⟨ts, rfl, v, e, q⟩
    | _ => cases e
  | fl ts => cases y with
    | int i => exact ⟨ts, rfl, v, e, q⟩
    | _ => cases e
  | str s => cases y with
    | int i =>
      simp only at e
      split at e
      · rename_i hl
        simp only [Option.map_eq_some_iff] at e
        obtain ⟨c, ec, rfl⟩ := e
        exact ⟨hl, c, ec, q⟩
      · cases e
    | _ => cases e
  | _ => cases e
theorem L3_mono {K : PySem.W.Frag} {r r' : R3} (h : ∀ x y S Q, r x y S Q → r' x y S Q) {x y : V} {H : Hp} {Q : VK} : L3 K r x y H Q → L3 K r' x y H Q := fun ⟨a, b, S, Q0, ra, rb, hs, q, im⟩ => ⟨a, b, S, Q0, ra, rb, hs, h _ _ _ _ q, im⟩
theorem ix_A (hu : X.A.units + 1 < cLine) : IxR X (L3 X.K rIxA) := fun value slice pins s σ H x y v u Q I rx ry q hs => ix_M hu value slice pins s σ H x y v u Q I rx ry (L3_mono (fun _ _ _ _ => rIxA_M) q) hs
theorem j_ixA (hu : X.A.units + 1 < cLine) (ha : JE B X a ta) (hb : JE B X b tb) (hs : PlainIx b) : JE B X (.Subscript a b pos) (wOp rIxA ta tb) := pe_imp (pe_ix (ix_A hu) ha hb hs) fun _ _ _ h => le_op h
/-- in, not in -/
def rInM (neg : Bool) (x : T) (y : T) (S : Sta) (Q : T → Sta → Prop) : Prop := match y with
  | .ref p => match S p with
    | some (.dct kvs) => ∃ k, keyT x = some k ∧ Q (.bl (neg != (valT kvs k).isSome)) S
    | some (.dtt kvs) => ∃ k, keysT x = some k ∧ Q (.bl (neg != (valT kvs k).isSome)) S
    | _ => Wp.rIn neg x (.ref p) S Q
  | y => Wp.rIn neg x y S Q
theorem RepO.some {K : PySem.W.Frag} {H : Hp} {o : Option T} {o' : Option V} (r : RepO K H o o') : o'.isSome = o.isSome := by
  cases o <;> cases o' <;> first | rfl | exact r.elim
theorem o_inM (hu : X.A.units + 1 < cLine) : OpT X (compareOp .In) (rInM false) := by
  intro pins s σ H x y v u Q I rx ry ⟨a, b, S, Q0, ra, rb, hs, q, im⟩
  have go : rIn false a b S Q0 → _ := fun q => o_in pins s σ H x y v u Q I rx ry ⟨a, b, S, Q0, ra, rb, hs, q, im⟩
  have gd : ∀ p z, b = .ref p → getD S p a = some z → Q0 (.bl (false != z.isSome)) S → wpAny (model X.prog X.w) X.A (compareOp .In v u) (EP X pins σ Q) X.xe s := fun p z eb eg q0 => by
    subst eb
    cases rb
    obtain ⟨o', g, r⟩ := getD_rep hs ra eg
    obtain rfl : u = Value.ref p := ry
    refine d_in hu I g rx fun s3 I3 => ⟨.bl o'.isSome, H, I3, rfl, ?_⟩
    rw [r.some]
    rw [Bool.false_bne] at q0
    exact im _ _ q0 H _ (Ext.refl H) hs (.bl _)
  cases b with
  | ref p =>
    unfold rInM at q
    cases eS : S p with
    | none => simp only [eS] at q; exact go q
    | some u =>
      cases u with
      | lst ts => simp only [eS] at q; exact go q
      | ins C fs => simp only [eS] at q; exact go q
      | dct kvs =>
        simp only [eS] at q
        obtain ⟨k, ek, q⟩ := q
        exact gd p _ rfl (by unfold getD; rw [eS, ek]; rfl) q
      | dtt kvs =>
        simp only [eS] at q
        obtain ⟨k, ek, q⟩ := q
        exact gd p _ rfl (by unfold getD; rw [eS, ek]; rfl) q
  | non => exact go q
  | bl _ => exact go q
  | int _ => exact go q
  | str _ => exact go q
  | tup _ => exact go q
  | fl _ => exact go q
  | pt _ => exact go q
theorem o_notInM (hu : X.A.units + 1 < cLine) : OpT X (compareOp .NotIn) (rInM true) := by
  intro pins s σ H x y v u Q I rx ry ⟨a, b, S, Q0, ra, rb, hs, q, im⟩
  have go : rIn true a b S Q0 → _ := fun q => o_notIn pins s σ H x y v u Q I rx ry ⟨a, b, S, Q0, ra, rb, hs, q, im⟩
  have gd : ∀ p z, b = .ref p → getD S p a = some z → Q0 (.bl (true != z.isSome)) S → wpAny (model X.prog X.w) X.A (compareOp .NotIn v u) (EP X pins σ Q) X.xe s := fun p z eb eg q0 => by
    subst eb
    cases rb
    obtain ⟨o', g, r⟩ := getD_rep hs ra eg
    obtain rfl : u = Value.ref p := ry
    refine d_notIn hu I g rx fun s3 I3 => ⟨.bl (!o'.isSome), H, I3, rfl, ?_⟩
    rw [r.some]
    rw [Bool.true_bne] at q0
    exact im _ _ q0 H _ (Ext.refl H) hs (.bl _)
  cases b with
  | ref p =>
    unfold rInM at q
    cases eS : S p with
    | none => simp only [eS] at q; exact go q
    | some u =>
      cases u with
      | lst ts => simp only [eS] at q; exact go q
      | ins C fs => simp only [eS] at q; exact go q
      | dct kvs =>
        simp only [eS] at q
        obtain ⟨k, ek, q⟩ := q
        exact gd p _ rfl (by unfold getD; rw [eS, ek]; rfl) q
      | dtt kvs =>
        simp only [eS] at q
        obtain ⟨k, ek, q⟩ := q
        exact gd p _ rfl (by unfold getD; rw [eS, ek]; rfl) q
  | non => exact go q
  | bl _ => exact go q
  | int _ => exact go q
  | str _ => exact go q
  | tup _ => exact go q
  | fl _ => exact go q
  | pt _ => exact go q
/-- is x in y -/
def inA (S : Sta) (x y : T) : Option Bool := match y with
  | .ref p => match S p with
    | some (.lst ts) => if flatT x && ts.all flatT then some (inF x ts) else none
    | some (.dct kvs) => (keyT x).map fun k => (valT kvs k).isSome
    | some (.dtt kvs) => (keysT x).map fun k => (valT kvs k).isSome
    | _ => none
  | .tup ts => if flatT x && ts.all flatT then some (inF x ts) else none
  | .fl ts => if flatT x && ts.all flatT then some (inF x ts) else none
  | _ => none
def rInA (neg : Bool) (x : T) (y : T) (S : Sta) (Q : T → Sta → Prop) : Prop := ∃ b, inA S x y = some b ∧ Q (.bl (neg != b)) S
theorem rInA_M {neg : Bool} {x y : T} {S : Sta} {Q : T → Sta → Prop} (h : rInA neg x y S Q) : rInM neg x y S Q := by
  obtain ⟨b, e, q⟩ := h
  have seq : ∀ ts : List T, itemsT S y = some ts → (if flatT x && ts.all flatT then some (inF x ts) else none) = some b → Wp.rIn neg x y S Q := fun ts ei e => by
    split at e
    · rename_i h
      rw [Bool.and_eq_true] at h
      cases e
      exact ⟨ts, ei, h.1, h.2, q⟩
    · cases e
  unfold inA at e
  cases y with
  | ref p =>
    unfold rInM
    simp only at e ⊢
    cases eS : S p with
    | none => rw [eS] at e; cases e
    | some u =>
      rw [eS] at e
      cases u with
      | lst ts => exact seq ts (itemsT_ref' eS) e
      | ins C fs => cases e
      | dct kvs =>
        simp only [Option.map_eq_some_iff] at e
        obtain ⟨k, ek, rfl⟩ := e
        exact ⟨k, ek, q⟩
      | dtt kvs =>
        simp only [Option.map_eq_some_iff] at e
        obtain ⟨k, ek, rfl⟩ := e
        exact ⟨k, ek, q⟩
  | tup ts => exact seq ts rfl e
  | fl ts => exact seq ts rfl e
  | _ => cases e
theorem o_inA (hu : X.A.units + 1 < cLine) : OpT X (compareOp .In) (rInA false) := fun pins s σ H x y v u Q I rx ry q => o_inM hu pins s σ H x y v u Q I rx ry (L3_mono (fun _ _ _ _ => rInA_M) q)
theorem o_notInA (hu : X.A.units + 1 < cLine) : OpT X (compareOp .NotIn) (rInA true) := fun pins s σ H x y v u Q I rx ry q => o_notInM hu pins s σ H x y v u Q I rx ry (L3_mono (fun _ _ _ _ => rInA_M) q)
/-- o[i] = v -/
def rSetM : T → T → T → Sta → (Sta → Prop) → Prop := fun o i v S Q => match o with
  | .ref p => match S p with
    | some (.dct kvs) => ∃ k, keyT i = some k ∧ kvs.length < sizeLine ∧ Q (upS S p (.dct (putT kvs k v)))
    | some (.dtt kvs) => ∃ k, keysT i = some k ∧ kvs.length < sizeLine ∧ Q (upS S p (.dtt (putT kvs k v)))
    | _ => rSet (.ref p) i v S Q
  | _ => False
theorem set_M (hu : X.A.units + 1 < cLine) : PSet X (L3t X.K rSetM) := by
  intro pins s σ H o i v ov iv u Q I ro ri rv ⟨a, b, c, S, Q0, ra, rb, rc, hs, q, im⟩
  cases a with
  | ref p =>
    have go : rSet (.ref p) b c S Q0 → _ := fun q => set_T pins s σ H o i v ov iv u Q I ro ri rv ⟨.ref p, b, c, S, Q0, ra, rb, rc, hs, q, im⟩
    have gd : ∀ z, putD S p b c = some z → Q0 (upS S p z) → wpAny (model X.prog X.w) X.A (setItem ov iv u) (fun _ s' => ∃ H', Inv X pins σ H' s' ∧ Q H') X.xe s := fun z eg q0 => by
      cases ra
      obtain ⟨H', g, e, s3⟩ := putD_rep hs rb rc eg
      obtain rfl : ov = Value.ref p := ro
      exact d_setItem hu I g ri rv fun s4 I4 => ⟨H', I4, im _ q0 H' e s3⟩
    unfold rSetM at q
    cases eS : S p with
    | none => simp only [eS] at q; exact go q
    | some u =>
      cases u with
      | lst ts => simp only [eS] at q; exact go q
      | ins C fs => simp only [eS] at q; exact go q
      | dct kvs =>
        simp only [eS] at q
        obtain ⟨k, ek, hl, q⟩ := q
        exact gd _ (by unfold putD; simp only [eS, ek, if_pos hl]; rfl) q
      | dtt kvs =>
        simp only [eS] at q
        obtain ⟨k, ek, hl, q⟩ := q
        exact gd _ (by unfold putD; simp only [eS, ek, if_pos hl]; rfl) q
  | _ => exact q.elim
/-- the thing at o behind o[i] = v -/
def setA (S : Sta) (p : Addr) (i v : T) : Option O := match S p with
  | some (.lst ts) => match i with
    | .int k => (ixN ts.length k).map fun j => .lst (ts.set j v)
    | _ => none
  | some (.dct kvs) => if kvs.length < sizeLine then (keyT i).map fun k => .dct (putT kvs k v) else none
  | some (.dtt kvs) => if kvs.length < sizeLine then (keysT i).map fun k => .dtt (putT kvs k v) else none
  | _ => none
def rSetA : T → T → T → Sta → (Sta → Prop) → Prop := fun o i v S Q => match o with
  | .ref p => ∃ u, setA S p i v = some u ∧ Q (upS S p u)
  | _ => False
theorem rSetA_M {o i v : T} {S : Sta} {Q : Sta → Prop} (h : rSetA o i v S Q) : rSetM o i v S Q := by
  unfold rSetA at h
  cases o with
  | ref p =>
    obtain ⟨u, e, q⟩ := h
    unfold setA at e
    unfold rSetM
    simp only
    cases eS : S p with
    | none => rw [eS] at e; cases e
    | some w =>
      rw [eS] at e
      cases w with
      | lst ts =>
        cases i with
        | int k =>
          simp only [Option.map_eq_some_iff] at e
          obtain ⟨j, ej, rfl⟩ := e
          exact ⟨ts, eS, j, ej, q⟩
        | _ => cases e
      | ins C fs => cases e
      | dct kvs =>
        simp only at e
        split at e
        · rename_i hl
          simp only [Option.map_eq_some_iff] at e
          obtain ⟨k, ek, rfl⟩ := e
          exact ⟨k, ek, hl, q⟩
        · cases e
      | dtt kvs =>
        simp only at e
        split at e
        · rename_i hl
          simp only [Option.map_eq_some_iff] at e
          obtain ⟨k, ek, rfl⟩ := e
          exact ⟨k, ek, hl, q⟩
        · cases e
  | _ => exact h.elim
theorem set_A (hu : X.A.units + 1 < cLine) : PSet X (L3t X.K rSetA) := fun pins s σ H o i v ov iv u Q I ro ri rv ⟨a, b, c, S, Q0, ra, rb, rc, hs, q, im⟩ => set_M hu pins s σ H o i v ov iv u Q I ro ri rv ⟨a, b, c, S, Q0, ra, rb, rc, hs, rSetA_M q, im⟩
def gIxA (to ti : WE) (v : T) (σ : Sl) (S : Sta) (Q : Sl → Sta → Prop) : Prop := to σ S fun o S1 => ti σ S1 fun i S2 => rSetA o i v S2 fun S3 => Q σ S3
theorem jg_ixA {ti : WE} (hu : X.A.units + 1 < cLine) (ho : JE B X o to) (hi : JE B X i ti)
    (ha : ∀ v, assign (.Subscript o i pos) X.env v = (do
      let ov ← holding [v] (eval o X.env)
      let iv ← holding [v, ov] (eval i X.env)
      standAt pos
      holding [v, ov, iv] (setItem ov iv v)
      release [v, ov, iv] []) := by intro _; rfl) : JG2 B X (.Subscript o i pos) (gIxA to ti) := pg_imp (pg_sub ho hi (set_A hu) ha) fun v σ H Q ⟨t, st, S, Q0, he, rv, hr, hs, h, im⟩ => by
  refine ⟨st, S, _, he, hr, hs, h, fun x S1 h1 H1 v1 e1 s1 r1 => ?_⟩
  refine ⟨st, S1, _, he.trans e1, hr.mono e1, s1, h1, fun y S2 h2 H2 v2 e2 s2 r2 => ?_⟩
  exact ⟨x, y, t, S2, _, Rep.mono e2 _ _ r1, r2, Rep.mono (e1.trans e2) _ _ rv, s2, h2, fun S3 q H3 e3 s3 => im _ _ q H3 σ (e1.trans (e2.trans e3)) s3 (hr.mono (e1.trans (e2.trans e3)))⟩
/-- {} -/
def wDNew (u0 : Sl) (S : Sta) (Q : T → Sta → Prop) : Prop := ∀ p, S p = none → Q (.ref p) (upS S p (.dct []))
def wDNewT (u0 : Sl) (S : Sta) (Q : T → Sta → Prop) : Prop := ∀ p, S p = none → Q (.ref p) (upS S p (.dtt []))
theorem j_dnew : JE B X (.Dict [] [] pos) wDNew := pe_imp pe_dnewK fun σ H Q ⟨st, S, Q0, he, hr, hs, h, im⟩ => fun p hp => by
  obtain ⟨e1, s1⟩ := hs.newO (u' := .dK []) (o' := .dct []) hp fun ex => ⟨[], upd_same, .nil⟩
  exact im _ _ (h p (hs.free hp)) _ _ e1 s1 (.ref p)
theorem j_dnewT : JE B X (.Dict [] [] pos) wDNewT := pe_imp pe_dnewT fun σ H Q ⟨st, S, Q0, he, hr, hs, h, im⟩ => fun p hp => by
  obtain ⟨e1, s1⟩ := hs.newO (u' := .dT []) (o' := .dtt []) hp fun ex => ⟨[], upd_same, .nil⟩
  exact im _ _ (h p (hs.free hp)) _ _ e1 s1 (.ref p)
/-- d.get(y), d.get(y, x) -/
def rGet1 (p : Addr) (y : T) (S : Sta) (Q : T → Sta → Prop) : Prop := ∃ o, Wp.getD S p y = some o ∧ Q (o.getD .non) S
def rGet2 (p : Addr) (y z : T) (S : Sta) (Q : T → Sta → Prop) : Prop := ∃ o, Wp.getD S p y = some o ∧ Q (o.getD z) S
theorem RepO.getD {K : PySem.W.Frag} {H : Hp} {o : Option T} {o' : Option V} {t : T} {v : V} (r : RepO K H o o') (rt : Rep K H t v) : Rep K H (o.getD t) (o'.getD v) := by
  cases o <;> cases o' <;> first | exact rt | exact r | exact r.elim
def wGet1 (to te : WE) (σ : Sl) (S : Sta) (Q : T → Sta → Prop) : Prop := to σ S fun x S1 => match x with
  | .ref p => isDT S1 p ∧ te σ S1 fun y S2 => rGet1 p y S2 Q
  | _ => False
def wGet2 (to te tz : WE) (σ : Sl) (S : Sta) (Q : T → Sta → Prop) : Prop := to σ S fun x S1 => match x with
  | .ref p => isDT S1 p ∧ te σ S1 fun y S2 => tz σ S2 fun z S3 => rGet2 p y z S3 Q
  | _ => False
theorem j_get1 (hu : X.A.units + 1 < cLine) (ho : JE B X o to) (he : JE B X e te) (m : M1 X o "get" apos e cpos := by exact ⟨rfl, rfl, rfl, rfl⟩) : JE B X (.Call (.Attribute o "get" apos) [e] [] cpos) (wGet1 to te) :=
  pe_imp (pe_dget1 hu ho he m) fun σ H Q ⟨st, S, Q0, he, hr, hs, h, im⟩ => by
    refine ⟨st, S, _, he, hr, hs, h, fun x S1 h1 H1 v e1 s1 r1 => ?_⟩
    cases x with
    | ref p =>
      obtain ⟨hd, h1⟩ := h1
      cases r1
      refine ⟨p, rfl, isDT_rep s1 hd, st, S1, _, he.trans e1, hr.mono e1, s1, h1, fun y S2 h2 H2 w e2 s2 r2 => ?_⟩
      obtain ⟨o, eo, q⟩ := h2
      obtain ⟨o', g, r⟩ := getD_rep s2 r2 eo
      exact ⟨o', g, im _ _ q H2 _ (e1.trans e2) s2 (r.getD .non)⟩
    | _ => exact h1.elim
theorem j_get2 {f : Expr} {tf : WE} (hu : X.A.units + 1 < cLine) (ho : JE B X o to) (he : JE B X e te) (hf : JE B X f tf) (m : M2 X o "get" apos e f cpos := by exact ⟨rfl, rfl, rfl, rfl⟩) : JE B X (.Call (.Attribute o "get" apos) [e, f] [] cpos) (wGet2 to te tf) :=
  pe_imp (pe_dget2 hu ho he hf m) fun σ H Q ⟨st, S, Q0, he, hr, hs, h, im⟩ => by
    refine ⟨st, S, _, he, hr, hs, h, fun x S1 h1 H1 v e1 s1 r1 => ?_⟩
    cases x with
    | ref p =>
      obtain ⟨hd, h1⟩ := h1
      cases r1
      refine ⟨p, rfl, isDT_rep s1 hd, st, S1, _, he.trans e1, hr.mono e1, s1, h1, fun y S2 h2 H2 w e2 s2 r2 => ?_⟩
      refine ⟨st, S2, _, he.trans (e1.trans e2), hr.mono (e1.trans e2), s2, h2, fun z S3 h3 H3 w3 e3 s3 r3 => ?_⟩
      obtain ⟨o, eo, q⟩ := h3
      obtain ⟨o', g, r⟩ := getD_rep s3 (Rep.mono e3 _ _ r2) eo
      exact ⟨o', g, im _ _ q H3 _ (e1.trans (e2.trans e3)) s3 (r.getD r3)⟩
    | _ => exact h1.elim
/-- d.pop(k), there; d.pop(k, x): keys that are ints and texts -/
def wPop1 (to te : WE) (σ : Sl) (S : Sta) (Q : T → Sta → Prop) : Prop := to σ S fun x S1 => match x with
  | .ref p => isDT S1 p ∧ te σ S1 fun y S2 => match S2 p with
    | some (.dct kvs) => ∃ k, keyT y = some k ∧ ∃ v, valT kvs k = some v ∧ Q v (upS S2 p (.dct (dropT kvs k)))
    | _ => False
  | _ => False
def wPop2 (to te tz : WE) (σ : Sl) (S : Sta) (Q : T → Sta → Prop) : Prop := to σ S fun x S1 => match x with
  | .ref p => isDT S1 p ∧ te σ S1 fun y S2 => tz σ S2 fun z S3 => match S3 p with
    | some (.dct kvs) => ∃ k, keyT y = some k ∧ match valT kvs k with
      | some v => Q v (upS S3 p (.dct (dropT kvs k)))
      | none => Q z S3
    | _ => False
  | _ => False
theorem dropW {K : PySem.W.Frag} {S : Sta} {H : Hp} {p : Addr} {kvs : List (Key × T)} {vs : List (Key × V)} (hs : St K S H) (h1 : H p = some (.dK vs)) (h2 : KRep K H kvs vs) (k : Key) :
    Ext H (upd H p (.dK (dropK vs k))) ∧ St K (upS S p (.dct (dropT kvs k))) (upd H p (.dK (dropK vs k))) := hs.setO h1 trivial fun ex => ⟨_, upd_same, (h2.drop k).mono ex⟩
theorem j_pop1 (ho : JE B X o to) (he : JE B X e te) (m : M1 X o "pop" apos e cpos := by exact ⟨rfl, rfl, rfl, rfl⟩) : JE B X (.Call (.Attribute o "pop" apos) [e] [] cpos) (wPop1 to te) :=
  pe_imp (pe_dpop1 ho he m) fun σ H Q ⟨st, S, Q0, he, hr, hs, h, im⟩ => by
    refine ⟨st, S, _, he, hr, hs, h, fun x S1 h1 H1 v e1 s1 r1 => ?_⟩
    cases x with
    | ref p =>
      obtain ⟨hd, h1⟩ := h1
      cases r1
      refine ⟨p, rfl, isDT_rep s1 hd, st, S1, _, he.trans e1, hr.mono e1, s1, h1, fun y S2 h2 H2 w e2 s2 r2 => ?_⟩
      cases eS : S2 p with
      | none => simp only [eS] at h2
      | some u =>
        cases u with
        | lst ts => simp only [eS] at h2
        | ins C fs => simp only [eS] at h2
        | dtt kvs => simp only [eS] at h2
        | dct kvs =>
          simp only [eS] at h2
          obtain ⟨k, ek, z, ez, q⟩ := h2
          obtain ⟨vs, g1, g2⟩ := s2 p _ eS
          have rv := g2.val k
          rw [ez] at rv
          cases ev : valV vs k with
          | none => rw [ev] at rv; exact rv.elim
          | some w3 =>
            rw [ev] at rv
            obtain ⟨e3, s3⟩ := dropW s2 g1 g2 k
            exact ⟨vs, k, w3, g1, keyT_rep r2 ek, ev, im _ _ q _ w3 (e1.trans (e2.trans e3)) s3 (Rep.mono e3 _ _ rv)⟩
    | _ => exact h1.elim
theorem j_pop2 {f : Expr} {tf : WE} (ho : JE B X o to) (he : JE B X e te) (hf : JE B X f tf) (m : M2 X o "pop" apos e f cpos := by exact ⟨rfl, rfl, rfl, rfl⟩) : JE B X (.Call (.Attribute o "pop" apos) [e, f] [] cpos) (wPop2 to te tf) :=
  pe_imp (pe_dpop2 ho he hf m) fun σ H Q ⟨st, S, Q0, he, hr, hs, h, im⟩ => by
    refine ⟨st, S, _, he, hr, hs, h, fun x S1 h1 H1 v e1 s1 r1 => ?_⟩
    cases x with
    | ref p =>
      obtain ⟨hd, h1⟩ := h1
      cases r1
      refine ⟨p, rfl, isDT_rep s1 hd, st, S1, _, he.trans e1, hr.mono e1, s1, h1, fun y S2 h2 H2 w e2 s2 r2 => ?_⟩
      refine ⟨st, S2, _, he.trans (e1.trans e2), hr.mono (e1.trans e2), s2, h2, fun z S3 h3 H3 w3 e3 s3 r3 => ?_⟩
      cases eS : S3 p with
      | none => simp only [eS] at h3
      | some u =>
        cases u with
        | lst ts => simp only [eS] at h3
        | ins C fs => simp only [eS] at h3
        | dtt kvs => simp only [eS] at h3
        | dct kvs =>
          simp only [eS] at h3
          obtain ⟨k, ek, q⟩ := h3
          obtain ⟨vs, g1, g2⟩ := s3 p _ eS
          have rv := g2.val k
          refine ⟨vs, k, g1, keyT_rep (Rep.mono e3 _ _ r2) ek, fun v3 ev => ?_, fun ev => ?_⟩
          · rw [ev] at rv
            cases ez : valT kvs k with
            | none => rw [ez] at rv; exact rv.elim
            | some t3 =>
              rw [ez] at rv
              simp only [ez] at q
              obtain ⟨e4, s4⟩ := dropW s3 g1 g2 k
              exact im _ _ q _ v3 (e1.trans (e2.trans (e3.trans e4))) s4 (Rep.mono e4 _ _ rv)
          · rw [ev] at rv
            cases ez : valT kvs k with
            | some t3 => rw [ez] at rv; exact rv.elim
            | none =>
              simp only [ez] at q
              exact im _ _ q _ w3 (e1.trans (e2.trans e3)) s3 r3
    | _ => exact h1.elim
/-- del d[k] -/
def wDel (to ti : WE) (D : WEnds) (σ : Sl) (S : Sta) : Prop := to σ S fun x S1 => ti σ S1 fun y S2 => match x with
  | .ref p => match S2 p with
    | some (.dct kvs) => ∃ k, keyT y = some k ∧ (valT kvs k).isSome = true ∧ goS D.nx σ (upS S2 p (.dct (dropT kvs k)))
    | _ => False
  | _ => False
theorem js_del {ti : WE} (ho : JE B X o to) (hi : JE B X i ti) : JS B X (.Delete [.Subscript o i tpos] pos) (wDel to ti) := ps_imp (ps_ddel ho hi) fun D σ H ⟨st, S, D0, he, hr, hs, h, im⟩ => by
  refine ⟨st, S, _, he, hr, hs, h, fun x S1 h1 H1 v1 e1 s1 r1 => ?_⟩
  refine ⟨st, S1, _, he.trans e1, hr.mono e1, s1, h1, fun y S2 h2 H2 v2 e2 s2 r2 => ?_⟩
  cases x with
  | ref p =>
    cases r1
    simp only at h2
    cases eS : S2 p with
    | none => simp only [eS] at h2
    | some u =>
      cases u with
      | lst ts => simp only [eS] at h2
      | ins C fs => simp only [eS] at h2
      | dtt kvs => simp only [eS] at h2
      | dct kvs =>
        simp only [eS] at h2
        obtain ⟨k, ek, hk, q⟩ := h2
        obtain ⟨vs, g1, g2⟩ := s2 p _ eS
        obtain ⟨e3, s3⟩ := dropW s2 g1 g2 k
        have rv := g2.val k
        refine ⟨p, vs, k, rfl, g1, keyT_rep r2 ek, by rw [rv.some]; exact hk, ?_⟩
        exact im.nx _ _ q _ σ (e1.trans (e2.trans e3)) s3 (hr.mono (e1.trans (e2.trans e3)))
  | _ => exact h2.elim
/-- sorted(d), keys that are ints, below 64 -/
def rSortD (xs : List T) (S : Sta) (Q : T → Sta → Prop) : Prop := match xs with
  | [.ref p] => ∃ (kvs : List (Key × T)) (ks : List Int), S p = some (.dct kvs) ∧ kvs.map (·.1) = ks.map Sum.inl ∧ ks.length < 64 ∧ ∀ (ys : List Int) (q : Addr), ys.Perm ks → ys.Pairwise (· ≤ ·) → S q = none → Q (.ref q) (upS S q (.lst (ys.map T.int)))
  | _ => False
theorem c_sortD (hc : X.calm = true) : CallR X (.builtin "sorted") (LC X.K rSortD) := by
  intro pins s σ H xs us Q I rx ⟨ts, S, Q0, r, hs, q, im⟩
  match ts, q with
  | [.ref p], ⟨kvs, ks, e, ek, hl, q⟩ =>
    obtain ⟨v, rfl, r1⟩ := r.one
    cases r1
    obtain ⟨vs, g1, g2⟩ := hs p _ e
    refine call_sortedDI hc pins s σ H _ us Q I rx ⟨p, vs, ks, rfl, .inl g1, by rw [← g2.keys]; exact ek, hl, fun ys l h1 h2 h3 => ?_⟩
    obtain ⟨e3, s3⟩ := hs.newL h3 (Reps.ints (K := X.K) ys)
    exact im _ _ (q ys l h1 h2 (hs.free h3)) _ _ e3 s3 (.ref l)
/-- max(xs), a list of ints -/
def rMaxL (xs : List T) (S : Sta) (Q : T → Sta → Prop) : Prop := match xs with
  | [.ref p] => ∃ ns : List Int, S p = some (.lst (ns.map T.int)) ∧ 0 < ns.length ∧ ∀ m, m ∈ ns → (∀ y, y ∈ ns → y ≤ m) → Q (.int m) S
  | _ => False
theorem c_maxL (hc : X.calm = true) : CallR X (.builtin "max") (LC X.K rMaxL) := by
  intro pins s σ H xs us Q I rx ⟨ts, S, Q0, r, hs, q, im⟩
  match ts, q with
  | [.ref p], ⟨ns, e, hl, q⟩ =>
    obtain ⟨v, rfl, r1⟩ := r.one
    cases r1
    obtain ⟨ys, g1, g2⟩ := hs p _ e
    have ey := g2.intsV
    subst ey
    exact cr_max hc pins s σ H _ us Q I rx ⟨p, ns, rfl, .inl (.inl g1), hl, fun m h1 h2 => im _ _ (q m h1 h2) _ _ (Ext.refl H) hs (.int _)⟩
/-- xs.pop(i) -/
def rPopL (x : T) (ts : List T) (S : Sta) (Q : T → Sta → Prop) : Prop := match x, ts with
  | .ref p, [.int i] => ∃ xs, S p = some (.lst xs) ∧ 0 ≤ i ∧ i < 2 ^ 62 ∧ ∃ y, xs[i.toNat]? = some y ∧ Q y (upS S p (.lst (xs.eraseIdx i.toNat)))
  | _, _ => False
theorem Reps.eraseIdx {K : PySem.W.Frag} {H : Hp} : ∀ {ts : List T} {vs : List V} (i : Nat), Reps K H ts vs → Reps K H (ts.eraseIdx i) (vs.eraseIdx i)
  | [], _, _, h => by cases h; exact .nil
  | t :: ts, _, 0, h => by
    cases h with
    | cons h1 h2 => exact h2
  | t :: ts, _, i + 1, h => by
    cases h with
    | cons h1 h2 => exact .cons h1 (Reps.eraseIdx i h2)
theorem m_popL : MtR X "list.pop" (LM X.K rPopL) := by
  intro pins s σ H x xs v us Q I rx rxs ⟨t, ts, S, Q0, rt, rts, hs, q, im⟩
  match t, ts, q with
  | .ref p, [.int i], ⟨zs, e, h0, h1, y, ey, q⟩ =>
    cases rt
    obtain ⟨w, rfl, rw'⟩ := rts.one
    cases rw'
    obtain ⟨ys, g1, g2⟩ := hs p _ e
    obtain ⟨z, g3, g4⟩ := g2.get ey
    obtain ⟨e2, s2⟩ := hs.setL g1 (g2.eraseIdx i.toNat)
    have hl : i.toNat < ys.length := (List.getElem?_eq_some_iff.mp g3).1
    exact mt_popAt pins s σ H _ _ v us Q I rx rxs ⟨p, ys, i, i.toNat, z, rfl, rfl, g1, by omega, by omega, seqIndex_of h0 (by omega), g3, im _ _ q _ _ e2 s2 (Rep.mono e2 _ _ g4)⟩
/-- len(d) -/
def rLenM (xs : List T) (S : Sta) (Q : T → Sta → Prop) : Prop := match xs with
  | [.ref p] => match S p with
    | some (.dct kvs) => Q (.int kvs.length) S
    | _ => rLen [.ref p] S Q
  | xs => rLen xs S Q
theorem c_lenM : CallR X (.builtin "len") (LC X.K rLenM) := by
  intro pins s σ H xs us Q I rx ⟨ts, S, Q0, r, hs, q, im⟩
  have go : rLen ts S Q0 → _ := fun q => c_len pins s σ H xs us Q I rx ⟨ts, S, Q0, r, hs, q, im⟩
  match ts, q with
  | [.ref p], q =>
    unfold rLenM at q
    cases eS : S p with
    | none => simp only [eS] at q; exact go q
    | some u =>
      cases u with
      | lst ts => simp only [eS] at q; exact go q
      | ins C fs => simp only [eS] at q; exact go q
      | dtt kvs => simp only [eS] at q; exact go q
      | dct kvs =>
        simp only [eS] at q
        obtain ⟨v, rfl, r1⟩ := r.one
        cases r1
        obtain ⟨vs, g1, g2⟩ := hs p _ eS
        refine call_lenD pins s σ H _ us Q I rx ?_
        first
          | exact ⟨p, vs, rfl, g1, by rw [← g2.length]; exact im _ _ q H _ (Ext.refl H) hs (.int _)⟩
          | exact ⟨p, vs, rfl, .inl g1, by rw [← g2.length]; exact im _ _ q H _ (Ext.refl H) hs (.int _)⟩
  | [], q => exact go q
  | [.non], q => exact go q
  | [.bl _], q => exact go q
  | [.int _], q => exact go q
  | [.str _], q => exact go q
  | [.tup _], q => exact go q
  | [.fl _], q => exact go q
  | [.pt _], q => exact go q
  | a :: b :: c, q => exact go (by cases a <;> exact q)
def lenA (S : Sta) (x : T) : Option Int := match x with
  | .ref p => match S p with
    | some (.lst ts) => some ts.length
    | some (.dct kvs) => some kvs.length
    | _ => none
  | .tup ts => some ts.length
  | .fl ts => some ts.length
  | .str z => if z.length ≤ sizeLine then some z.length else none
  | _ => none
def rLenA (xs : List T) (S : Sta) (Q : T → Sta → Prop) : Prop := match xs with
  | [x] => ∃ n, lenA S x = some n ∧ Q (.int n) S
  | _ => False
theorem rLenA_M {xs : List T} {S : Sta} {Q : T → Sta → Prop} (h : rLenA xs S Q) : rLenM xs S Q := by
  match xs, h with
  | [x], ⟨n, e, q⟩ =>
    unfold lenA at e
    cases x with
    | ref p =>
      unfold rLenM
      simp only at e ⊢
      cases eS : S p with
      | none => rw [eS] at e; cases e
      | some w =>
        rw [eS] at e
        cases w with
        | lst ts => cases e; exact ⟨ts, itemsT_ref' eS, q⟩
        | ins C fs => cases e
        | dct kvs => cases e; exact q
        | dtt kvs => cases e
    | tup ts => cases e; exact ⟨ts, rfl, q⟩
    | fl ts => cases e; exact ⟨ts, rfl, q⟩
    | str z =>
      simp only at e
      split at e
      · rename_i hl; cases e; exact ⟨hl, q⟩
      · cases e
    | _ => cases e
theorem c_lenA : CallR X (.builtin "len") (LC X.K rLenA) := fun pins s σ H xs us Q I rx ⟨ts, S, Q0, r, hs, q, im⟩ => c_lenM pins s σ H xs us Q I rx ⟨ts, S, Q0, r, hs, rLenA_M q, im⟩
end
end Wp

set_option Elab.async false
set_option linter.all false
set_option maxRecDepth 100000
/-! the bags again, over the readings that know dicts -/
namespace Wp
open PySem PySem.Spec PyProof.Rows L2
theorem nodup_filter {α : Type} [DecidableEq α] (k : α) : ∀ ks : List α, ks.Nodup → ks.length ≤ (ks.filter fun x => decide (x ≠ k)).length + 1
  | [], _ => Nat.zero_le _
  | x :: ks, h => by
    obtain ⟨h1, h2⟩ := List.nodup_cons.mp h
    rw [List.filter_cons]
    by_cases e : x = k
    · subst e
      have e2 : ks.filter (fun y => decide (y ≠ x)) = ks := List.filter_eq_self.mpr fun y hy => decide_eq_true fun (e : y = x) => h1 (by rw [← e]; exact hy)
      rw [if_neg (by simp), e2]
      exact Nat.le_refl _
    · rw [if_pos (by simpa using e), List.length_cons, List.length_cons]
      have := nodup_filter k ks h2
      omega
/-- distinct keys of a range -/
theorem nodup_keys : ∀ (n : Nat) (ks : List Key), ks.Nodup → (∀ k ∈ ks, ∃ b : Int, k = .inl b ∧ 0 ≤ b ∧ b < (n : Int)) → ks.length ≤ n
  | 0, ks, _, h => by
    cases ks with
    | nil => exact Nat.le_refl _
    | cons k ks => obtain ⟨b, _, h0, h1⟩ := h k List.mem_cons_self; omega
  | n + 1, ks, hn, h => by
    refine Nat.le_trans (nodup_filter (Sum.inl (n : Int) : Key) ks hn) (Nat.succ_le_succ (nodup_keys n _ (hn.filter _) fun k hk => ?_))
    rw [List.mem_filter, decide_eq_true_eq] at hk
    obtain ⟨b, rfl, h0, h1⟩ := h k hk.1
    refine ⟨b, rfl, h0, ?_⟩
    have : b ≠ (n : Int) := fun e => hk.2 (by rw [e])
    omega
theorem ex_ins {C : Addr} {a : List (Str × T)} {P : List (Str × T) → Prop} : (∃ v, some (O.ins C a) = some (O.ins C v) ∧ P v) = P a := by
  apply propext
  constructor
  · rintro ⟨v, e, h⟩; cases e; exact h
  · intro h; exact ⟨a, rfl, h⟩
theorem ex_dct {a : List (Key × T)} {P : List (Key × T) → Prop} : (∃ v, some (O.dct a) = some (O.dct v) ∧ P v) = P a := by
  apply propext
  constructor
  · rintro ⟨v, e, h⟩; cases e; exact h
  · intro h; exact ⟨a, rfl, h⟩
local macro_rules | `(tactic| walk_at "go") => `(tactic| (with_reducible refine goS_i ?_))
local macro_rules | `(tactic| walk_at "wp") => `(tactic| simp (disch := omega) only [Wp.wSeq, Wp.wNext, Wp.wSet, Wp.wVar, Wp.wC, Wp.wOp, Wp.wRet, Wp.wIfS, Wp.wTest, Wp.wCall, Wp.wCons, Wp.wNil, Wp.wTup, Wp.wLst, Wp.wAsg, Wp.gTp, Wp.gC, Wp.gNm, Wp.gN0, Wp.gIx, Wp.rSet, Wp.rAdd, Wp.rMul, Wp.rMod, Wp.rSub, Wp.rFdiv, Wp.rPow, Wp.rInt, Wp.rIx, Wp.rLt, Wp.rLe, Wp.rCmp, Wp.rGeI, Wp.rGtI, Wp.wCB, Wp.rLen, Wp.rLen1, Wp.rInt1, Wp.rMax2, Wp.rMin2, Wp.rTupOf, Wp.rListOf,
  Wp.wIsi, Wp.rBIs, Wp.rIsN, Wp.isNon, Wp.wMt, Wp.rAppendT, Wp.rExtendT, Wp.rReverseT, Wp.wNot, Wp.wOr, Wp.wAnd, Wp.wAndV, Wp.wOrV, Wp.wNotV, Wp.wFor, Wp.iRg1, Wp.iRg2, Wp.iAnyW, Wp.wAll, Wp.wChain, Wp.wSl, Wp.wNoPart, Wp.wPart, Wp.rSl, Wp.wNeg, Wp.rNeg, Wp.wLc, Wp.wYes, Wp.wDrop, Wp.wipeT, Wp.wAug, List.map, List.set_cons_zero, List.set_cons_succ, List.getElem?_cons_zero, List.getElem?_cons_succ, List.length_cons, List.length_nil, List.cons_append, List.nil_append, List.replicate, Wp.startT,
  true_and, and_true, Wp.wif_true, Wp.wif_false, Wp.ex_some, Wp.ex_some1, Wp.ex_eq, Wp.ex_lst, Wp.ex_lst0, Wp.rEq_int, Bool.false_bne, Bool.true_bne, Int.reduceLT, Int.reduceLE, Int.reduceAdd, Nat.reduceAdd, Nat.reduceSub, eq_self, ite_true, ite_false, beq_self_eq_true, Bool.not_true, Bool.not_false, Wp.isB_0, Wp.isB_1, Wp.isB_2, Wp.isB_3, Wp.isB_4, Wp.isB_5, Wp.isB_6, Wp.isB_7, Wp.isB_8, Wp.isB_9, Wp.isB_10, Wp.isB_11, Wp.isB_12, Wp.isB_13, Wp.isB_14, Wp.isB_15, Wp.isB_16, Wp.isB_17, Wp.isB_18, Wp.isB_19, Wp.isB_20, Wp.isB_21, Wp.isB_22, Wp.isB_23, Wp.isB_24, Wp.isB_25, Wp.isB_26, Wp.isB_27, Wp.isB_28, Wp.isB_29, Wp.isB_30, Wp.isB_31, Wp.isB_32, Wp.isB_33, Wp.isB_34, Wp.isB_35, Wp.cmul_l, Wp.cmul_r, Wp.cpow_lit, Wp.size_le, Wp.size_lt, Wp.atI_0, Wp.atI_1, Wp.atI_2, Wp.atI_3, Wp.atI_4, Wp.atI_5, Wp.atI_6, Wp.ixN_0, Wp.ixN_1, Wp.ixN_2, Wp.itemsT, Wp.tyT, reduceIte, Wp.wFld, Wp.wFSet, Wp.wFAug, Wp.wMeth, Wp.wMake, Wp.rIxA, Wp.rInA, Wp.rSetA, Wp.ixA, Wp.inA, Wp.setA, Wp.lenA, Wp.getD, Option.map_some, Option.bind_some, Option.getD_some,  Wp.gIxA, Wp.wDNew, Wp.wDNewT, Wp.rLenA, Wp.rSortD, Wp.rMaxL, Wp.rPopL, Wp.rGet1, Wp.rGet2, Wp.wGet1, Wp.wGet2, Wp.wPop1, Wp.wPop2, Wp.wDel, Wp.isDT, Wp.keyT, Wp.keysT, Wp.keysL, Wp.ex_ins, Wp.ex_dct, Wp.upS, Wp.upS_upS, *])
local macro_rules | `(tactic| walk_at "run") => `(tactic| repeat (first | walk_at "wp" | walk_at "go"))
local macro_rules | `(tactic| walk_at "wq") => `(tactic| simp (disch := omega) only [Wp.wSeq, Wp.wNext, Wp.wSet, Wp.wVar, Wp.wC, Wp.wOp, Wp.wRet, Wp.wIfS, Wp.wTest, Wp.wCall, Wp.wCons, Wp.wNil, Wp.wTup, Wp.wLst, Wp.wAsg, Wp.gTp, Wp.gC, Wp.gNm, Wp.gN0, Wp.gIx, Wp.rSet, Wp.rAdd, Wp.rMul, Wp.rMod, Wp.rSub, Wp.rFdiv, Wp.rPow, Wp.rInt, Wp.rIx, Wp.rLt, Wp.rLe, Wp.rCmp, Wp.rGeI, Wp.rGtI, Wp.wCB, Wp.rLen, Wp.rLen1, Wp.rInt1, Wp.rMax2, Wp.rMin2, Wp.rTupOf, Wp.rListOf,
  Wp.wIsi, Wp.rBIs, Wp.rIsN, Wp.isNon, Wp.wMt, Wp.rAppendT, Wp.rExtendT, Wp.rReverseT, Wp.wNot, Wp.wOr, Wp.wAnd, Wp.wAndV, Wp.wOrV, Wp.wNotV, Wp.wFor, Wp.iRg1, Wp.iRg2, Wp.iAnyW, Wp.wAll, Wp.wChain, Wp.wSl, Wp.wNoPart, Wp.wPart, Wp.rSl, Wp.wNeg, Wp.rNeg, Wp.wLc, Wp.wYes, Wp.wDrop, Wp.wipeT, Wp.wAug, List.map, List.set_cons_zero, List.set_cons_succ, List.getElem?_cons_zero, List.getElem?_cons_succ, List.length_cons, List.length_nil, List.cons_append, List.nil_append, List.replicate, Wp.startT,
  true_and, and_true, Wp.wif_true, Wp.wif_false, Wp.ex_some, Wp.ex_some1, Wp.ex_eq, Wp.ex_lst, Wp.ex_lst0, Wp.rEq_int, Bool.false_bne, Bool.true_bne, Int.reduceLT, Int.reduceLE, Int.reduceAdd, Nat.reduceAdd, Nat.reduceSub, eq_self, ite_true, ite_false, beq_self_eq_true, Bool.not_true, Bool.not_false, Wp.isB_0, Wp.isB_1, Wp.isB_2, Wp.isB_3, Wp.isB_4, Wp.isB_5, Wp.isB_6, Wp.isB_7, Wp.isB_8, Wp.isB_9, Wp.isB_10, Wp.isB_11, Wp.isB_12, Wp.isB_13, Wp.isB_14, Wp.isB_15, Wp.isB_16, Wp.isB_17, Wp.isB_18, Wp.isB_19, Wp.isB_20, Wp.isB_21, Wp.isB_22, Wp.isB_23, Wp.isB_24, Wp.isB_25, Wp.isB_26, Wp.isB_27, Wp.isB_28, Wp.isB_29, Wp.isB_30, Wp.isB_31, Wp.isB_32, Wp.isB_33, Wp.isB_34, Wp.isB_35, Wp.cmul_l, Wp.cmul_r, Wp.cpow_lit, Wp.size_le, Wp.size_lt, Wp.atI_0, Wp.atI_1, Wp.atI_2, Wp.atI_3, Wp.atI_4, Wp.atI_5, Wp.atI_6, Wp.ixN_0, Wp.ixN_1, Wp.ixN_2, Wp.itemsT, Wp.tyT, reduceIte, Wp.wFld, Wp.wFSet, Wp.wFAug, Wp.wMeth, Wp.wMake, Wp.rIxA, Wp.rInA, Wp.rSetA, Wp.ixA, Wp.inA, Wp.setA, Wp.lenA, Wp.getD, Option.map_some, Option.bind_some, Option.getD_some,  Wp.gIxA, Wp.wDNew, Wp.wDNewT, Wp.rLenA, Wp.rSortD, Wp.rMaxL, Wp.rPopL, Wp.rGet1, Wp.rGet2, Wp.wGet1, Wp.wGet2, Wp.wPop1, Wp.wPop2, Wp.wDel, Wp.isDT, Wp.keyT, Wp.keysT, Wp.keysL, Wp.ex_ins, Wp.ex_dct, *])
local macro_rules | `(tactic| walk_at "r2") => `(tactic| repeat (first | walk_at "wq" | walk_at "go"))
local macro_rules | `(tactic| walk_at "w0") => `(tactic| simp (disch := omega) only [Wp.wSeq, Wp.wNext, Wp.wSet, Wp.wVar, Wp.wC, Wp.wOp, Wp.wRet, Wp.wIfS, Wp.wTest, Wp.wCall, Wp.wCons, Wp.wNil, Wp.wTup, Wp.wLst, Wp.wAsg, Wp.gTp, Wp.gC, Wp.gNm, Wp.gN0, Wp.gIx, Wp.rSet, Wp.rAdd, Wp.rMul, Wp.rMod, Wp.rSub, Wp.rFdiv, Wp.rPow, Wp.rInt, Wp.rIx, Wp.rLt, Wp.rLe, Wp.rCmp, Wp.rGeI, Wp.rGtI, Wp.wCB, Wp.rLen, Wp.rLen1, Wp.rInt1, Wp.rMax2, Wp.rMin2, Wp.rTupOf, Wp.rListOf,
  Wp.wIsi, Wp.rBIs, Wp.rIsN, Wp.isNon, Wp.wMt, Wp.rAppendT, Wp.rExtendT, Wp.rReverseT, Wp.wNot, Wp.wOr, Wp.wAnd, Wp.wAndV, Wp.wOrV, Wp.wNotV, Wp.wFor, Wp.iRg1, Wp.iRg2, Wp.iAnyW, Wp.wAll, Wp.wChain, Wp.wSl, Wp.wNoPart, Wp.wPart, Wp.rSl, Wp.wNeg, Wp.rNeg, Wp.wLc, Wp.wYes, Wp.wDrop, Wp.wipeT, Wp.wAug, List.map, List.set_cons_zero, List.set_cons_succ, List.getElem?_cons_zero, List.getElem?_cons_succ, List.length_cons, List.length_nil, List.cons_append, List.nil_append, List.replicate, Wp.startT,
  true_and, and_true, Wp.wif_true, Wp.wif_false, Wp.ex_some, Wp.ex_some1, Wp.ex_eq, Wp.ex_lst, Wp.ex_lst0, Wp.rEq_int, Bool.false_bne, Bool.true_bne, Int.reduceLT, Int.reduceLE, Int.reduceAdd, Nat.reduceAdd, Nat.reduceSub, eq_self, ite_true, ite_false, beq_self_eq_true, Bool.not_true, Bool.not_false, Wp.isB_0, Wp.isB_1, Wp.isB_2, Wp.isB_3, Wp.isB_4, Wp.isB_5, Wp.isB_6, Wp.isB_7, Wp.isB_8, Wp.isB_9, Wp.isB_10, Wp.isB_11, Wp.isB_12, Wp.isB_13, Wp.isB_14, Wp.isB_15, Wp.isB_16, Wp.isB_17, Wp.isB_18, Wp.isB_19, Wp.isB_20, Wp.isB_21, Wp.isB_22, Wp.isB_23, Wp.isB_24, Wp.isB_25, Wp.isB_26, Wp.isB_27, Wp.isB_28, Wp.isB_29, Wp.isB_30, Wp.isB_31, Wp.isB_32, Wp.isB_33, Wp.isB_34, Wp.isB_35, Wp.cmul_l, Wp.cmul_r, Wp.cpow_lit, Wp.size_le, Wp.size_lt, Wp.atI_0, Wp.atI_1, Wp.atI_2, Wp.atI_3, Wp.atI_4, Wp.atI_5, Wp.atI_6, Wp.ixN_0, Wp.ixN_1, Wp.ixN_2, Wp.itemsT, Wp.tyT, reduceIte, Wp.wFld, Wp.wFSet, Wp.wFAug, Wp.wMeth, Wp.wMake, Wp.rIxA, Wp.rInA, Wp.rSetA, Wp.ixA, Wp.inA, Wp.setA, Wp.lenA, Wp.getD, Option.map_some, Option.bind_some, Option.getD_some,  Wp.gIxA, Wp.wDNew, Wp.wDNewT, Wp.rLenA, Wp.rSortD, Wp.rMaxL, Wp.rPopL, Wp.rGet1, Wp.rGet2, Wp.wGet1, Wp.wGet2, Wp.wPop1, Wp.wPop2, Wp.wDel, Wp.isDT, Wp.keyT, Wp.keysT, Wp.keysL, Wp.ex_ins, Wp.ex_dct])
local macro_rules | `(tactic| walk_at "r0") => `(tactic| repeat (first | walk_at "w0" | walk_at "go"))
def b_bag3A : WS :=
  (wSeq (wSet 2 (wC (.int 0)))
    (wSeq (wIfS (wTest (wOp rLt (wVar 1) (wCB rLenA (wCons (wVar 0) wNil)))) (wSet 2 (wCB rInt1 (wCons (wOp rIxA (wVar 0) (wVar 1)) wNil))) wNext)
    (wSeq (wIfS (wTest (wOp rGeI (wVar 2) (wOp rPow (wC (.int 10)) (wC (.int 18))))) (wRet (wLst (wCons (wVar 2) (wCons (wVar 2) (wCons (wVar 1) wNil))))) wNext)
    (wRet (wLst (wCons (wC (.int 0)) (wCons (wVar 2) (wCons (wVar 1) wNil))))))))
def b_draw3A : WS :=
  (wSeq (wIfS (wTest (wOp (rEq false) (wOp rIxA (wVar 0) (wC (.int 0))) (wC (.int 0)))) (wSeq (wSet 2 (wOp rMod (wCB rInt1 (wCons (wOp rAdd (wOp rAdd (wOp rMul (wOp rIxA (wVar 0) (wC (.int 1))) (wC (.int 48271))) (wOp rMul (wOp rIxA (wVar 0) (wC (.int 2))) (wC (.int 69621)))) (wC (.int 11))) wNil)) (wC (.int 2147483647))))
    (wSeq (wAsg (wOp rAdd (wOp rMul (wVar 2) (wC (.int 2147483629))) (wOp rMod (wCB rInt1 (wCons (wOp rAdd (wOp rMul (wVar 2) (wVar 2)) (wOp rMul (wOp rIxA (wVar 0) (wC (.int 2))) (wC (.int 16807)))) wNil)) (wC (.int 2147483629)))) (gIxA (wVar 0) (wC (.int 0))))
    (wAsg (wVar 2) (gIxA (wVar 0) (wC (.int 1)))))) wNext)
    (wSeq (wSet 3 (wOp rIxA (wVar 0) (wC (.int 0))))
    (wSeq (wAsg (wOp rFdiv (wVar 3) (wVar 1)) (gIxA (wVar 0) (wC (.int 0))))
    (wRet (wOp rMod (wCB rInt1 (wCons (wVar 3) wNil)) (wVar 1))))))
def b_bag5A : WS :=
  (wRet (wLst (wCons (wC (.int 0)) (wCons (wC (.int 7)) (wCons (wC (.int 0)) (wCons (wC (.int 0)) (wCons (wCB rListOf (wCons (wVar 0) wNil)) wNil)))))))
def b_draw5A : WS :=
  (wSeq (wIfS (wTest (wOp (rEq false) (wOp rIxA (wVar 0) (wC (.int 0))) (wC (.int 0)))) (wSeq (wSet 2 (wCB rInt1 (wCons (wOp rIxA (wVar 0) (wC (.int 3))) wNil)))
    (wSeq (wSet 3 (wOp rIxA (wVar 0) (wC (.int 4))))
    (wSeq (wIfS (wTest (wOp rLt (wOp rIxA (wVar 0) (wC (.int 2))) (wCB rLenA (wCons (wVar 3) wNil)))) (wSet 2 (wCB rInt1 (wCons (wOp rIxA (wVar 3) (wOp rIxA (wVar 0) (wC (.int 2)))) wNil))) wNext)
    (wSeq (wAsg (wOp rAdd (wOp rIxA (wVar 0) (wC (.int 2))) (wC (.int 1))) (gIxA (wVar 0) (wC (.int 2))))
    (wSeq (wSet 4 (wOp rMod (wCB rInt1 (wCons (wOp rAdd (wOp rAdd (wOp rAdd (wOp rMul (wOp rIxA (wVar 0) (wC (.int 1))) (wC (.int 48271))) (wOp rMul (wVar 2) (wC (.int 69621)))) (wOp rMul (wOp rIxA (wVar 0) (wC (.int 2))) (wC (.int 16807)))) (wC (.int 11))) wNil)) (wC (.int 2147483647))))
    (wSeq (wAsg (wOp rAdd (wOp rMul (wVar 4) (wC (.int 2147483629))) (wOp rMod (wCB rInt1 (wCons (wOp rAdd (wOp rMul (wVar 4) (wVar 4)) (wVar 2)) wNil)) (wC (.int 2147483629)))) (gIxA (wVar 0) (wC (.int 0))))
    (wSeq (wIfS (wTest (wOp rGeI (wVar 2) (wOp rPow (wC (.int 10)) (wC (.int 18))))) (wAsg (wVar 2) (gIxA (wVar 0) (wC (.int 0)))) wNext)
    (wAsg (wVar 4) (gIxA (wVar 0) (wC (.int 1))))))))))) wNext)
    (wSeq (wSet 5 (wOp rIxA (wVar 0) (wC (.int 0))))
    (wSeq (wAsg (wOp rFdiv (wVar 5) (wVar 1)) (gIxA (wVar 0) (wC (.int 0))))
    (wRet (wOp rMod (wCB rInt1 (wCons (wVar 5) wNil)) (wVar 1))))))
theorem hw_bag3A : ∀ ts S Q E, ts.length = 2 → spBag3 ts S Q E → b_bag3A { nx := fun _ S' => Q .non S', rt := Q } (Wp.startT ["script", "k", "cell"] ts) S := by
  intro ts S Q E _ h
  match ts, h with
  | [.fl us, .int k], ⟨ns, e, h0, hl, h⟩ =>
    subst e
    have fin : ∀ (a b c : Int) (p : Addr), S p = none → Q (.ref p) (upS S p (.lst [.int a, .int b, .int c])) := fun a b c p hp => h p _ hp (gr_new hp) ⟨a, b, c, upS_same⟩
    clear h
    unfold b_bag3A
    walk_at "r0"
    refine if_dec (fun hk => ?_) (fun hk => ?_)
    · obtain ⟨x, hx, hm⟩ := atI_in (xs := ns.map T.int) h0 hk
      obtain ⟨n, _, rfl⟩ := List.mem_map.mp hm
      walk_at "r0"
      simp only [hx]
      walk_at "r0"
      refine if_dec (fun _ => ?_) (fun _ => ?_)
      · walk_at "r0"
        exact fun p hp => fin _ _ _ p hp
      · walk_at "r0"
        exact fun p hp => fin _ _ _ p hp
    · walk_at "r0"
      refine if_dec (fun _ => ?_) (fun _ => ?_)
      · walk_at "r0"
        exact fun p hp => fin _ _ _ p hp
      · walk_at "r0"
        exact fun p hp => fin _ _ _ p hp
theorem hw_draw3A : ∀ ts S Q E, ts.length = 2 → spDraw false ts S Q E → b_draw3A { nx := fun _ S' => Q .non S', rt := Q } (Wp.startT ["bag", "many", "seed", "rest"] ts) S := by
  intro ts S Q E _ h
  match ts, h with
  | [.ref p, .int m], ⟨none, _, ⟨a, b, c, hS⟩, h0, h1, h⟩ =>
    have fin : ∀ (r a b c : Int), 0 ≤ r → r < m → Q (.int r) (upS S p (.lst [.int a, .int b, .int c])) := fun r a b c g1 g2 => h r _ g1 g2 ⟨fun x o e n => by rw [upS_ne n]; exact e, _, _, _, upS_same⟩
    clear h
    unfold b_draw3A
    walk_at "run"
    refine if_bool (fun _ => ?_) (fun _ => ?_)
    · walk_at "run"
      exact fin _ _ _ _ (Int.emod_nonneg _ (by omega)) (Int.emod_lt_of_pos _ h0)
    · walk_at "run"
      exact fin _ _ _ _ (Int.emod_nonneg _ (by omega)) (Int.emod_lt_of_pos _ h0)
theorem hw_bag5A : ∀ ts S Q E, ts.length = 1 → spBag5 ts S Q E → b_bag5A { nx := fun _ S' => Q .non S', rt := Q } (Wp.startT ["script"] ts) S := by
  intro ts S Q E _ h
  match ts, h with
  | [.fl us], ⟨ns, e, h⟩ =>
    subst e
    unfold b_bag5A
    walk_at "r0"
    intro q hq p hp
    have hqp : q ≠ p := fun e => by rw [e, upS_same] at hp; cases hp
    rw [upS_ne hqp.symm] at hp
    refine h p _ hp ((gr_new hq).trans (gr_new (by rw [upS_ne hqp.symm]; exact hp))) ⟨q, 0, 7, 0, 0, ns, upS_same, hqp, by rw [upS_ne hqp, upS_same], by omega⟩
theorem hw_draw5A : ∀ ts S Q E, ts.length = 2 → spDraw true ts S Q E → b_draw5A { nx := fun _ S' => Q .non S', rt := Q } (Wp.startT ["bag", "many", "cell", "cells", "seed", "rest"] ts) S := by
  intro ts S Q E _ h
  match ts, h with
  | [.ref p, .int m], ⟨some q, _, ⟨a, b, c, d, ns, hS, hqp, hq, hc⟩, h0, h1, h⟩ =>
    have fin : ∀ (r a b c d : Int), 0 ≤ r → r < m → 0 ≤ c → Q (.int r) (upS S p (.lst [.int a, .int b, .int c, .int d, .ref q])) := fun r a b c d g1 g2 g3 => h r _ g1 g2 ⟨fun x o e n => by rw [upS_ne n]; exact e, _, _, _, _, ns, upS_same, hqp, by rw [upS_ne hqp]; exact hq, g3⟩
    clear h
    have at3 : atI [T.int a, T.int b, T.int c, T.int d, T.ref q] 3 = some (.int d) := by rw [atI_3]; rfl
    unfold b_draw5A
    have it : ∀ o, itemsT (upS S p o) (.ref q) = some (ns.map T.int) := fun o => itemsT_ref (by rw [upS_ne hqp]; exact hq)
    have it0 : itemsT S (.ref q) = some (ns.map T.int) := itemsT_ref hq
    walk_at "run"
    refine if_bool (fun _ => ?_) (fun _ => ?_)
    · walk_at "run"
      refine if_dec (fun hk => ?_) (fun hk => ?_)
      · obtain ⟨x, hx, hm⟩ := atI_in (xs := ns.map T.int) hc hk
        obtain ⟨n, _, rfl⟩ := List.mem_map.mp hm
        walk_at "run"
        refine if_dec (fun _ => ?_) (fun _ => ?_)
        · walk_at "run"
          exact fin _ _ _ _ _ (Int.emod_nonneg _ (by omega)) (Int.emod_lt_of_pos _ h0) (by omega)
        · walk_at "run"
          exact fin _ _ _ _ _ (Int.emod_nonneg _ (by omega)) (Int.emod_lt_of_pos _ h0) (by omega)
      · walk_at "run"
        refine if_dec (fun _ => ?_) (fun _ => ?_)
        · walk_at "run"
          exact fin _ _ _ _ _ (Int.emod_nonneg _ (by omega)) (Int.emod_lt_of_pos _ h0) (by omega)
        · walk_at "run"
          exact fin _ _ _ _ _ (Int.emod_nonneg _ (by omega)) (Int.emod_lt_of_pos _ h0) (by omega)
    · walk_at "run"
      exact fin _ _ _ _ _ (Int.emod_nonneg _ (by omega)) (Int.emod_lt_of_pos _ h0) (by omega)
end Wp

set_option Elab.async false
set_option linter.all false
set_option maxRecDepth 100000
/-! comprehensions with a test; lists without repetition -/
namespace Wp
open PySem PySem.Spec PyProof.Rows L2
theorem comp_filt_at {α : Type} {g : WG} {tt : WT} {te : WE} {stb : Sta → Prop} {σ : Sl} {D : Addr} {Q : T → Sta → Prop} {S0 : Sta} (tr : α → T) (p : α → Bool) (f : α → T) (hstb : ∀ acc, stb (upS S0 D (.lst acc))) : ∀ (xs : List α) (acc : List T), acc.length + xs.length ≤ 1000000 →
    (∀ x ∈ xs, ∀ (acc : List T) (A : Sta → Prop) (R : T → Sta → Prop), (p x = true → R (f x) (upS S0 D (.lst acc))) → (p x = false → A (upS S0 D (.lst acc))) → g (tr x) σ (upS S0 D (.lst acc)) fun σ2 S2 => tt σ2 S2 fun b S3 => wif b (te σ2 S3 R) (A S3)) →
    Q (.ref D) (upS S0 D (.lst (acc ++ (xs.filter p).map f))) → compW g tt te stb σ D Q (xs.map tr) (upS S0 D (.lst acc))
  | [], acc, _, _, q => ⟨hstb acc, by simpa using q⟩
  | x :: xs, acc, hl, step, q => by
    rw [List.length_cons] at hl
    refine ⟨hstb acc, step x List.mem_cons_self acc _ _ (fun hp => ⟨acc, upS_same, lt_sz (by omega), ?_⟩) (fun hp => ?_)⟩
    · rw [upS_upS]
      refine comp_filt_at tr p f hstb xs (acc ++ [f x]) (by rw [List.length_append, List.length_cons, List.length_nil]; omega) (fun y hy => step y (List.mem_cons_of_mem _ hy)) ?_
      rw [List.filter_cons, if_pos hp, List.map_cons] at q
      rw [List.append_assoc]
      exact q
    · refine comp_filt_at tr p f hstb xs acc (by omega) (fun y hy => step y (List.mem_cons_of_mem _ hy)) ?_
      rw [List.filter_cons, if_neg (by rw [hp]; exact Bool.false_ne_true)] at q
      exact q
theorem comp_filt {α : Type} {g : WG} {tt : WT} {te : WE} {stb : Sta → Prop} {σ : Sl} {D : Addr} {Q : T → Sta → Prop} {S0 : Sta} {xs : List α} (tr : α → T) (p : α → Bool) (f : α → T) (hl : xs.length ≤ 1000000) (hstb : ∀ acc, stb (upS S0 D (.lst acc)))
    (step : ∀ x ∈ xs, ∀ (acc : List T) (A : Sta → Prop) (R : T → Sta → Prop), (p x = true → R (f x) (upS S0 D (.lst acc))) → (p x = false → A (upS S0 D (.lst acc))) → g (tr x) σ (upS S0 D (.lst acc)) fun σ2 S2 => tt σ2 S2 fun b S3 => wif b (te σ2 S3 R) (A S3))
    (q : Q (.ref D) (upS S0 D (.lst ((xs.filter p).map f)))) : compW g tt te stb σ D Q (xs.map tr) (upS S0 D (.lst [])) :=
  comp_filt_at tr p f hstb xs [] (by simpa using hl) step (by rw [List.nil_append]; exact q)
/-- without a test -/
theorem comp_each {α : Type} {g : WG} {te : WE} {stb : Sta → Prop} {σ : Sl} {D : Addr} {Q : T → Sta → Prop} {S0 : Sta} {xs : List α} (tr : α → T) (f : α → T) (hl : xs.length ≤ 1000000) (hstb : ∀ acc, stb (upS S0 D (.lst acc)))
    (step : ∀ x ∈ xs, ∀ (acc : List T) (R : T → Sta → Prop), R (f x) (upS S0 D (.lst acc)) → g (tr x) σ (upS S0 D (.lst acc)) fun σ2 S2 => te σ2 S2 R)
    (q : Q (.ref D) (upS S0 D (.lst (xs.map f)))) : compW g wYes te stb σ D Q (xs.map tr) (upS S0 D (.lst [])) :=
  comp_filt tr (fun _ => true) f hl hstb (fun x hx acc A R h1 _ => by
    have := step x hx acc R (h1 rfl)
    show g (tr x) σ _ fun σ2 S2 => wif true (te σ2 S2 R) _
    simp only [wif_true]
    exact this) (by rw [List.filter_eq_self.mpr (fun _ _ => rfl)]; exact q)
@[elab_as_elim] theorem snoc_ind {α : Type} {motive : List α → Prop} (nil : motive []) (app : ∀ xs x, motive xs → motive (xs ++ [x])) (l : List α) : motive l := by
  rw [← List.reverse_reverse l]
  induction l.reverse with
  | nil => exact nil
  | cons x xs ih => rw [List.reverse_cons]; exact app _ _ ih
theorem nodup_of_map {α β : Type} (f : α → β) {xs : List α} (h : (xs.map f).Nodup) : xs.Nodup := List.Pairwise.of_map f (fun a b h e => h (by rw [e])) h
theorem perm_of_nodup {α : Type} [BEq α] [LawfulBEq α] {xs ys : List α} (hx : xs.Nodup) (hy : ys.Nodup) (h : ∀ a, a ∈ xs ↔ a ∈ ys) : xs.Perm ys := by
  rw [List.perm_iff_count]
  intro a
  have h1 := List.nodup_iff_count.mp hx a
  have h2 := List.nodup_iff_count.mp hy a
  by_cases m : a ∈ xs
  · have m2 := (h a).mp m
    have p1 := List.count_pos_iff.mpr m
    have p2 := List.count_pos_iff.mpr m2
    omega
  · have m2 := fun z => m ((h a).mpr z)
    rw [List.count_eq_zero.mpr m, List.count_eq_zero.mpr m2]
/-- a list that is sorted and has just these items -/
theorem sorted_is {xs ys : List Int} (hp : ys.Perm xs) (hs : ys.Pairwise (· ≤ ·)) {zs : List Int} (hn : xs.Nodup) (hz : zs.Pairwise (· < ·)) (h : ∀ a, a ∈ xs ↔ a ∈ zs) : ys = zs := by
  have hzn : zs.Nodup := hz.imp fun h => by omega
  exact PySem.W.ksm_same (hp.trans (perm_of_nodup hn hzn h)) hs (hz.imp fun h => by omega)
end Wp

set_option Elab.async false
set_option linter.all false
set_option maxRecDepth 100000
/-! written dicts of tuples of texts; zip of such a tuple and a tuple; displays of dicts; > of texts -/
namespace Wp
open PySem PySem.Spec PyProof.Rows L2
/-- a written tuple of texts -/
def KTup (K : PySem.W.Frag) (a : Addr) (zs : List Str) : Prop :=
  ∃ (o : Obj) (its : Array Value) (n : Nat), K.lookup a = some o ∧ o.cls = .type "tuple" ∧ o.data = .seq its n ∧ its.size ≤ sizeLine ∧ Vals (zs.map V.str) its.toList
theorem KTup.sqT {K : PySem.W.Frag} {H : Hp} {a : Addr} {zs : List Str} (h : KTup K a zs) : SqT K H a (zs.map V.str) := .inr h
def tblGet : List (Str × List Str) → Str → Option (List Str)
  | [], _ => none
  | (z, zs) :: r, x => if z = x then some zs else tblGet r x
def TblOk (K : PySem.W.Frag) (P : Params) : List DictEntry → List (Str × List Str) → Prop
  | [], [] => True
  | e :: r, (z, zs) :: t => (∃ tk, e.key = .str z tk ∧ e.hash = PyData.keyHash P z) ∧ (∃ a, e.val = .ref a ∧ KTup K a zs) ∧ TblOk K P r t
  | _, _ => False
/-- a written dict at d -/
structure WDict (K : PySem.W.Frag) (P : Params) (d : Addr) (tbl : List (Str × List Str)) : Prop where
  ex : ∃ es n, K.lookup d = some ⟨.type "dict", none, .dict es n, #[]⟩ ∧ TblOk K P es.toList tbl
  low : (d == sysModules) = false
theorem tbl_find {K : PySem.W.Frag} {P : Params} (x : Str) : ∀ {l : List DictEntry} {t : List (Str × List Str)}, TblOk K P l t →
    match tblGet t x with
    | none => (l.find? fun e => nkIs (some (.inr x)) e.key) = none
    | some zs => ∃ e a, (l.find? fun e => nkIs (some (.inr x)) e.key) = some e ∧ e.val = .ref a ∧ KTup K a zs
  | [], [], _ => rfl
  | e :: r, (z, zs) :: t, ⟨⟨tk, ek, _⟩, ⟨a, ev, kt⟩, h⟩ => by
    have ih := tbl_find x h
    have hk : nkIs (some (.inr x)) e.key = decide (z = x) := by
      rw [ek]
      show Value.isStrOf x (.str z tk) = decide (z = x)
      unfold Value.isStrOf
      by_cases c : z = x
      · subst c; simp
      · simp only [c, decide_false]
        first | exact beq_eq_false_iff_ne.mpr c | exact beq_eq_false_iff_ne.mpr (fun y => c y.symm)
    unfold tblGet
    by_cases c : z = x
    · rw [if_pos c]
      exact ⟨e, a, by rw [List.find?_cons, hk, decide_eq_true c], ev, kt⟩
    · rw [if_neg c, List.find?_cons, hk, decide_eq_false c]
      exact ih
theorem tbl_none {K : PySem.W.Frag} {P : Params} : ∀ {l : List DictEntry} {t : List (Str × List Str)}, TblOk K P l t → (l.find? fun e => nkIs none e.key) = none
  | [], [], _ => rfl
  | e :: r, (z, zs) :: t, ⟨⟨tk, ek, _⟩, _, h⟩ => by
    have hk : nkIs none e.key = false := by rw [ek]; rfl
    rw [List.find?_cons, hk]
    exact tbl_none h
theorem tbl_keys {K : PySem.W.Frag} {P : Params} : ∀ {l : List DictEntry} {t : List (Str × List Str)}, TblOk K P l t → ∀ e ∈ l, ∃ z tk, e.key = .str z tk ∧ e.hash = PyData.keyHash P z
  | e :: r, (z, zs) :: t, ⟨⟨tk, ek, eh⟩, _, h⟩, f, hf => by
    rcases List.mem_cons.mp hf with q | q
    · rw [q]; exact ⟨z, tk, ek, eh⟩
    · exact tbl_keys h f q
section
variable {X : Cx} {B : Hp} {pins : List (Addr × Obj)} {σ : L2.St} {H : Hp} {s : Shared} {d : Addr} {tbl : List (Str × List Str)}
theorem wd_map (D : WDict X.K X.w.params d tbl) (I : Inv X pins σ H s) : ∃ (es : Array DictEntry) (n : Nat), s.heap.get? d = some ⟨.type "dict", none, .dict es n, #[]⟩ ∧ TblOk X.K X.w.params es.toList tbl ∧
    s.heap.MapOf (noneKind X.prog X.w) d (fun k => findBy (noneKind X.prog X.w).is es k) := by
  obtain ⟨es, n, hl, ht⟩ := D.ex
  have hg := I.kIn _ _ hl
  refine ⟨es, n, hg, ht, ⟨_, es, n, hg, ⟨rfl, rfl, rfl⟩, rfl, fun e he => ?_, fun _ => rfl⟩⟩
  obtain ⟨z, tk, e1, e2⟩ := tbl_keys ht e (Array.mem_toList_iff.mpr he)
  exact ⟨some (.inr z), by rw [e1]; exact keyIs_str z tk, by rw [e2]; rfl⟩
theorem wd_find (es : Array DictEntry) (k : Option Key) : findBy (noneKind X.prog X.w).is es k = (es.toList.find? fun e => nkIs k e.key).map (·.val) := by
  unfold findBy
  rw [← Array.find?_toList]
  rfl
end
/-- TABLE.get(e), TABLE written -/
def wKGet (K : PySem.W.Frag) (tbl : List (Str × List Str)) (te : WE) (σ : Sl) (S : Sta) (Q : T → Sta → Prop) : Prop := te σ S fun y S1 => match y with
  | .str z => match tblGet tbl z with
    | none => Q .non S1
    | some zs => ∀ a, KTup K a zs → Q (.ref a) S1
  | .non => Q .non S1
  | _ => False
/-- TABLE[e], TABLE written -/
def wKIx (K : PySem.W.Frag) (tbl : List (Str × List Str)) (te : WE) (σ : Sl) (S : Sta) (Q : T → Sta → Prop) : Prop := te σ S fun y S1 => match y with
  | .str z => ∃ zs, tblGet tbl z = some zs ∧ ∀ a, KTup K a zs → Q (.ref a) S1
  | _ => False
section
variable {X : Cx} {B : Hp} {e : Expr} {te : WE} {tbl : List (Str × List Str)} {x : Str} {p apos pos cpos : Pos}
/-- the name of a written dict -/
def GWD (K : PySem.W.Frag) (P : Params) (mg : Str → Option Value) (x : Str) (tbl : List (Str × List Str)) : Prop := ∃ d, mg x = some (.ref d) ∧ WDict K P d tbl
theorem pe_gref {d : Addr} (hg : Gl X x) (hm : X.mg x = some (.ref d)) (hd : (x == ("__debug__" : Str)) = false := by decide) : PE X (.Name x p) (tC (.ref d)) := pe_glob (v := .ref d) hg hm rfl hd
theorem j_kget (g : GWD X.K X.w.params X.mg x tbl) (hg : Gl X x) (he : JE B X e te) (hd : (x == ("__debug__" : Str)) = false := by decide) (m : M1 X (.Name x p) "get" apos e cpos := by exact ⟨rfl, rfl, rfl, rfl⟩) :
    JE B X (.Call (.Attribute (.Name x p) "get" apos) [e] [] cpos) (wKGet X.K tbl te) := by
  obtain ⟨d, hm, D⟩ := g
  refine ⟨fun pins s σ H Q I ⟨st, S, Q0, hb, hr, hs, h, im⟩ => ?_⟩
  refine wpAny_Call_method m.base m.few m.line PySem.F.plainAttrs_dict PySem.F.slot_dict_get PySem.F.type_dict_get (thn ((pe_gref hg hm hd).run pins s σ H (fun v H' => v = .ref d ∧ H' = H) I ⟨rfl, rfl⟩) fun u s1 ⟨x', H1, I1, rx, ex, eH⟩ => ?_)
  subst ex eH
  obtain rfl : u = Value.ref d := rx
  obtain ⟨es, n, hget, ht, hmap⟩ := wd_map D I1
  refine ⟨hmap.typeIs, fun b q => ?_, ?_⟩
  · cases q
    exact ⟨_, hget, rfl⟩
  rw [m.trees]
  refine Calls.callWith_builtin rfl (Calls.evalArgs_plain (Calls.spliced_cons (thn (he.run pins s1 σ H1 (fun v H2 => ∃ t S2, Ext H1 H2 ∧ St X.K S2 H2 ∧ Rep X.K H2 t v ∧ (match t with
    | .str z => match tblGet tbl z with
      | none => Q0 .non S2
      | some zs => ∀ a, KTup X.K a zs → Q0 (.ref a) S2
    | .non => Q0 .non S2
    | _ => False)) I1 ⟨st, S, _, hb, hr, hs, h, fun y S2 h2 H2 v e2 s2 r2 => ⟨y, S2, e2, s2, r2, h2⟩⟩) fun iv s2 ⟨y, H2, I2, ry, t, S2, e2, s2', rt, q2⟩ => Calls.spliced_nil ?_)))
  obtain ⟨es, n, hget, ht, hmap⟩ := wd_map D I2
  have go : ∀ (k : Option Key) (v : V) (t' : T), (noneKind X.prog X.w).is k iv = true → RelV v ((findBy (noneKind X.prog X.w).is es k).getD .none) → Rep X.K H2 t' v → Q0 t' S2 → wpAny (model X.prog X.w) X.A (call (.builtin "dict.get") [.ref d, iv]) (EP X pins σ Q) X.xe s2 := fun k v t' hk rv rt' q => by
    refine call_meetsIn PySem.F.slot_dict_get hmap.typeIs PySem.F.entry_dict_get (PySem.F.args_dict_get_2 _ _) (meets_dict_get (noneKind X.prog X.w) d hk D.low) ⟨_, hmap, ?_⟩
    exact ⟨v, H2, I2.tok _, rv, im _ _ q H2 _ e2 s2' rt'⟩
  cases t with
  | str z =>
    cases rt
    obtain ⟨tk, rfl⟩ := (show ∃ t, iv = Value.str z t from ry)
    have hf := tbl_find z ht
    cases hz : tblGet tbl z with
    | none =>
      simp only [hz] at hf q2
      refine go (some (.inr z)) .non .non (keyIs_str z tk) ?_ .non q2
      rw [wd_find, hf]
      rfl
    | some zs =>
      simp only [hz] at hf q2
      obtain ⟨en, a, e1, e3, kt⟩ := hf
      refine go (some (.inr z)) (.ref a) (.ref a) (keyIs_str z tk) ?_ (.ref a) (q2 a kt)
      rw [wd_find, e1]
      simp only [Option.map_some, Option.getD_some, e3]
      rfl
  | non =>
    cases rt
    obtain rfl : iv = Value.none := ry
    refine go none .non .non rfl ?_ .non q2
    rw [wd_find, tbl_none ht]
    rfl
  | _ => exact q2.elim
end

section
variable {X : Cx} {B : Hp} {e : Expr} {te : WE} {tbl : List (Str × List Str)} {x : Str} {p apos pos cpos : Pos}
theorem j_kix (g : GWD X.K X.w.params X.mg x tbl) (hg : Gl X x) (he : JE B X e te) (hs0 : PlainIx e) (hd : (x == ("__debug__" : Str)) = false := by decide) :
    JE B X (.Subscript (.Name x p) e pos) (wKIx X.K tbl te) := by
  obtain ⟨d, hm, D⟩ := g
  refine ⟨fun pins s σ H Q I ⟨st, S, Q0, hb, hr, hs, h, im⟩ => ?_⟩
  refine Subscript_ (binT (pe_gref hg hm hd) he I (R := fun x y H2 => x = V.ref d ∧ ∃ t S2, Ext H H2 ∧ St X.K S2 H2 ∧ Rep X.K H2 t y ∧ (match t with
    | .str z => ∃ zs, tblGet tbl z = some zs ∧ ∀ a, KTup X.K a zs → Q0 (.ref a) S2
    | _ => False)) (show LE B X te σ H _ from ⟨st, S, _, hb, hr, hs, h, fun y S2 h2 H2 v e2 s2 r2 => ⟨rfl, y, S2, e2, s2, r2, h2⟩⟩) fun v u s2 x y H2 I2 rx ry q => ?_)
  obtain ⟨ex, t, S2, e2, s2', rt, q2⟩ := q
  subst ex
  obtain rfl : v = Value.ref d := rx
  obtain ⟨es, n, hget, ht, hmap⟩ := wd_map D I2
  cases t with
  | str z =>
    cases rt
    obtain ⟨tk, rfl⟩ := (show ∃ t, u = Value.str z t from ry)
    obtain ⟨zs, hz, q2⟩ := q2
    have hf := tbl_find z ht
    simp only [hz] at hf
    obtain ⟨en, a, e1, e3, kt⟩ := hf
    refine tail_any hmap.typeIs slot_dict_getitem.lookup (wpAny_getItem_of (knd := noneKind X.prog X.w) (k := some (.inr z)) (keyIs_str z tk) hmap (v := .ref a) ?_ ⟨.ref a, H2, I2.tok _, rfl, im _ _ (q2 a kt) H2 _ e2 s2' (.ref a)⟩) (hs0 _ _)
    rw [wd_find, e1]
    simp only [Option.map_some, e3]
  | _ => exact q2.elim
/-- len of a written tuple -/
def rLenK (K : PySem.W.Frag) (xs : List T) (S : Sta) (Q : T → Sta → Prop) : Prop := match xs with
  | [.ref a] => ∃ zs, KTup K a zs ∧ Q (.int zs.length) S
  | _ => False
theorem c_lenK : CallR X (.builtin "len") (LC X.K (rLenK X.K)) := by
  intro pins s σ H xs us Q I rx ⟨ts, S, Q0, r, hs, q, im⟩
  match ts, q with
  | [.ref a], ⟨zs, kt, q⟩ =>
    obtain ⟨v, rfl, r1⟩ := r.one
    cases r1
    refine call_len_seq pins s σ H _ us Q I rx ⟨a, zs.map V.str, rfl, .inr kt.sqT, ?_⟩
    rw [List.length_map]
    exact im _ _ q H _ (Ext.refl H) hs (.int _)
/-- zip(TUPLE, tuple), the first written -/
def zipT (zs : List Str) (ps : List T) : List T := List.zipWith (fun z p => T.tup [.str z, p]) zs ps
def iZipK (K : PySem.W.Frag) (ta : WA) (σ : Sl) (S : Sta) (R : List T → (Sta → Prop) → Sta → Prop) : Prop := ta σ S fun xs S1 => match xs with
  | [.ref a, .tup ps] => ∃ zs, KTup K a zs ∧ R (zipT zs ps) (fun _ => True) S1
  | _ => False
theorem zip_at {zs : List Str} {ps : List T} {i : Nat} {z : Str} {p : T} (h1 : zs[i]? = some z) (h2 : ps[i]? = some p) : (zipT zs ps)[i]? = some (T.tup [.str z, p]) := by
  unfold zipT
  rw [List.getElem?_zipWith, h1, h2]
theorem yields_zip {K : PySem.W.Frag} {H1 : Hp} {zs : List Str} {ps : List T} {ys : List V} {a b : Addr} (hn : True) (kt : KTup K a zs) (hq : ∀ H, Ext H1 H → SqT K H b ys ∧ Reps K H ps ys) : Yields K (zipT zs ps) (fun _ => True) H1 (RZ.ItzT K a b) := fun i S H2 e2 s2 _ => by
  obtain ⟨hb, r⟩ := hq H2 e2
  have hl : (zipT zs ps).length = min zs.length ps.length := by unfold zipT; rw [List.length_zipWith]
  have hlr := r.length
  rw [hl]
  refine ⟨fun hi => ?_, fun hi => ⟨zs.map V.str, ys, kt.sqT, hb, by rw [List.length_map]; omega⟩, fun x H' hy hi => ?_⟩
  · obtain ⟨v, g3, _⟩ := r.get (List.getElem?_eq_getElem (show i < ps.length by omega))
    refine ⟨zs.map V.str, ys, V.str (zs[i]'(by omega)), v, kt.sqT, hb, ?_, g3⟩
    rw [List.getElem?_map, List.getElem?_eq_getElem (show i < zs.length by omega)] <;> rfl
  · obtain ⟨T0, x0, y0, rfl, hp, rfl, h1, h2⟩ := hy
    have ev := h2 ys hb
    obtain ⟨t, et, rt⟩ := r.getV ev
    have ex0 := h1 _ kt.sqT
    rw [List.getElem?_map, List.getElem?_eq_getElem (show i < zs.length by omega)] at ex0
    cases ex0
    have ex : Ext H2 (upd H2 T0 (.tup [V.str (zs[i]'(by omega)), y0])) := Ext.new hp
    exact ⟨ex, s2.new hp _, fun st σ q => q.mono ex, _, zip_at (List.getElem?_eq_getElem (by omega)) et, .tup upd_same (.cons (.str _) (.cons (Rep.mono ex _ _ rt) .nil))⟩
theorem ji_zipK {e2 : Expr} {ta : WA} {tpos : Pos} {elts : List Expr} {kk : Nat} (hg : Gl X "zip") (hm : X.mg "zip" = none) (ha : JA B X [e, e2] ta)
    (hs : starEach [e, e2] X.env = (false, eval e X.env) :: starEach [e2] X.env := by rfl) (hpl : (backTo pos (starEach [e2] X.env)).any (·.1) = false := by rfl) :
    JI B X (.Tuple elts kk tpos) (.Call (.Name "zip" p) [e, e2] [] pos) (iZipK X.K ta) := pi_imp (RZ.pi_zipA hg hm ha hs hpl) fun σ H R ⟨st, S, Q0, he, hr, hs, h, im⟩ => by
  refine ⟨st, S, _, he, hr, hs, h, fun xs S1 h1 H1 vs e1 s1 r1 => ?_⟩
  match xs, h1 with
  | [.ref a, .tup ps], ⟨zs, kt, h1⟩ =>
    obtain ⟨v, w, rfl, ra, rb⟩ := r1.two
    cases ra
    cases rb with
    | @tup b ys _ g10 g2 =>
      refine ⟨a, b, zs.map V.str, ys, rfl, .inr ⟨kt.sqT, sqT_of g10, im _ _ _ h1 H1 e1 s1 _ (yields_zip trivial kt fun H3 e3 => ⟨e3.sqT (sqT_of g10), Reps.mono e3 _ _ g2⟩)⟩⟩
end
/-! ### displays of dicts -/
abbrev WP := Sl → Sta → (List (T × T) → Sta → Prop) → Prop
def wPNil (u0 : Sl) (S : Sta) (Q : List (T × T) → Sta → Prop) : Prop := Q [] S
def wPCons (tk tv : WE) (tr : WP) (σ : Sl) (S : Sta) (Q : List (T × T) → Sta → Prop) : Prop := tk σ S fun x S1 => tv σ S1 fun y S2 => tr σ S2 fun ps S3 => Q ((x, y) :: ps) S3
def PRep (K : PySem.W.Frag) (H : Hp) : List (T × T) → List (V × V) → Prop
  | [], [] => True
  | (a, b) :: r, (x, y) :: t => Rep K H a x ∧ Rep K H b y ∧ PRep K H r t
  | _, _ => False
theorem PRep.mono {K : PySem.W.Frag} {H H' : Hp} (e : Ext H H') : ∀ {ps : List (T × T)} {vs : List (V × V)}, PRep K H ps vs → PRep K H' ps vs
  | [], [], _ => trivial
  | (a, b) :: r, (x, y) :: t, ⟨h1, h2, h3⟩ => ⟨Rep.mono e _ _ h1, Rep.mono e _ _ h2, PRep.mono e h3⟩
def finP (K : PySem.W.Frag) (H : Hp) (Q : List (V × V) → Hp → Prop) : List (T × T) → Sta → Prop := fun ps S => ∀ H' vs, Ext H H' → St K S H' → PRep K H' ps vs → Q vs H'
def JP (B : Hp) (X : Cx) (pos : Pos) (keys : List (Option Expr)) (values : List Expr) (t : WP) : Prop :=
  ∃ trs, PPs X pos keys values trs ∧ ∀ σ H Q, (∃ st S Q0, Ext B H ∧ SlR X.K H st σ ∧ St X.K S H ∧ t st S Q0 ∧ ∀ ps S', Q0 ps S' → finP X.K H Q ps S') → tPairs trs σ H Q
section
variable {X : Cx} {B : Hp} {pos : Pos} {k v : Expr} {ks : List (Option Expr)} {vs : List Expr} {tk tv : WE} {tr : WP}
theorem jp_nil : JP B X pos [] [] wPNil := ⟨[], pps_nil, fun σ H Q ⟨st, S, Q0, he, hr, hs, h, im⟩ => im _ _ h H [] (Ext.refl H) hs trivial⟩
theorem jp_cons (hk : JE B X k tk) (hv : JE B X v tv) (hr : JP B X pos ks vs tr) : JP B X pos (some k :: ks) (v :: vs) (wPCons tk tv tr) := by
  obtain ⟨trs, hp, h0⟩ := hr
  refine ⟨_, pps_cons hk hv hp, fun σ H Q ⟨st, S, Q0, he, hr, hs, h, im⟩ => ?_⟩
  refine ⟨st, S, _, he, hr, hs, h, fun x S1 h1 H1 u1 e1 s1 r1 => ?_⟩
  refine ⟨st, S1, _, he.trans e1, hr.mono e1, s1, h1, fun y S2 h2 H2 u2 e2 s2 r2 => ?_⟩
  refine h0 σ H2 _ ⟨st, S2, _, (he.trans e1).trans e2, (hr.mono e1).mono e2, s2, h2, fun ps S3 h3 H3 us e3 s3 r3 => ?_⟩
  exact im _ _ h3 H3 _ ((e1.trans e2).trans e3) s3 ⟨Rep.mono (e2.trans e3) _ _ r1, Rep.mono e3 _ _ r2, r3⟩
def mergeT (kvs more : List (Key × T)) : List (Key × T) := more.foldl (fun acc kv => putT acc kv.1 kv.2) kvs
theorem KRep.merge {K : PySem.W.Frag} {H : Hp} : ∀ {more : List (Key × T)} {ms : List (Key × V)} {kvs : List (Key × T)} {us : List (Key × V)}, KRep K H more ms → KRep K H kvs us → KRep K H (mergeT kvs more) (mergeK us ms)
  | [], _, _, _, h, g => by cases h; exact g
  | (f, t) :: more, _, kvs, us, h, g => by
    cases h with
    | @cons _ _ v _ gs r h1 => exact (KRep.merge (more := more) (ms := gs) (kvs := putT kvs f t) (us := putK us f v) h1 (KRep.putd f r g))
/-- keys of the pairs -/
def keysP : List (T × T) → Option (List (Key × T))
  | [] => some []
  | (a, b) :: r => match keyT a with
    | some k => (keysP r).map fun l => (k, b) :: l
    | none => none
theorem keysP_rep {K : PySem.W.Frag} {H : Hp} : ∀ {ps : List (T × T)} {us : List (V × V)} {l : List (Key × T)}, PRep K H ps us → keysP ps = some l → ∃ ms, KRep K H l ms ∧ us = ms.map (fun kv => (kV kv.1, kv.2)) ∧ ms.length = ps.length
  | [], [], _, _, e => by cases e; exact ⟨[], .nil, rfl, rfl⟩
  | (a, b) :: r, (x, y) :: t, l, ⟨h1, h2, h3⟩, e => by
    unfold keysP at e
    cases ek : keyT a with
    | none => rw [ek] at e; cases e
    | some k =>
      rw [ek] at e
      simp only at e
      cases el : keysP r with
      | none => rw [el] at e; cases e
      | some l' =>
        rw [el] at e
        cases e
        obtain ⟨ms, g1, g2, g3⟩ := keysP_rep h3 el
        exact ⟨(k, y) :: ms, .cons h2 g1, by rw [keyT_rep h1 ek, g2]; rfl, by rw [List.length_cons, List.length_cons, g3]⟩
def wDisp (t : WP) (σ : Sl) (S : Sta) (Q : T → Sta → Prop) : Prop := ∀ p, S p = none → t σ (upS S p (.dct [])) fun ps S2 => S2 p = some (.dct []) ∧ ps.length ≤ 15 ∧ ∃ l, keysP ps = some l ∧ Q (.ref p) (upS S2 p (.dct (mergeT [] l)))
theorem j_disp (h : JP B X pos ks vs tr) (hall : ks.all (·.isSome) = true) (hl : ks.length = vs.length) (h0 : ks ≠ []) (h15 : ks.length ≤ 15 := by decide) : JE B X (.Dict ks vs pos) (wDisp tr) := by
  obtain ⟨trs, hp, h1⟩ := h
  refine pe_imp (pe_disp hp hall hl h0 h15) fun σ H Q ⟨st, S, Q0, he, hr, hs, h, im⟩ => fun p hpn => ?_
  obtain ⟨e1, s1⟩ := hs.newO (o' := .dct []) hpn fun ex => ⟨[], upd_same, .nil⟩
  refine h1 σ _ _ ⟨st, _, _, he.trans e1, hr.mono e1, s1, h p (hs.free hpn), fun ps S2 h2 H2 us e2 s2 r2 => ?_⟩
  obtain ⟨eS, hlen, l, el, q⟩ := h2
  obtain ⟨xs, g1, g2⟩ := s2 p _ eS
  cases g2
  obtain ⟨ms, m1, m2, m3⟩ := keysP_rep r2 el
  refine ⟨g1, ms, m2, by omega, ?_⟩
  obtain ⟨e3, s3⟩ := s2.setO (o' := .dct (mergeT [] l)) g1 trivial fun ex => ⟨mergeK [] ms, upd_same, KRep.mono ex (KRep.merge m1 .nil)⟩
  exact im _ _ q _ _ ((e1.trans e2).trans e3) s3 (.ref p)
end
/-! ### a > b, texts too -/
def rGt : R3 := rCmp (fun i j => decide (j < i)) fun a b => decide (b < a)
theorem o_gtA {X : Cx} : OpT X (compareOp .Gt) rGt := by
  intro pins s σ H x y v u Q I rx ry ⟨a, b, S, Q0, ra, rb, hs, q, im⟩
  cases a with
  | int i =>
    cases b with
    | int j =>
      cases ra
      cases rb
      exact op_gt pins s σ H _ _ v u Q I rx ry ⟨i, j, rfl, rfl, im _ _ q H _ (Ext.refl H) hs (.bl _)⟩
    | _ => exact q.elim
  | str i =>
    cases b with
    | str j =>
      cases ra
      cases rb
      exact op_gt_str pins s σ H _ _ v u Q I rx ry ⟨i, j, rfl, rfl, im _ _ q H _ (Ext.refl H) hs (.bl _)⟩
    | _ => exact q.elim
  | _ => exact q.elim
end Wp

set_option Elab.async false
set_option linter.all false
set_option maxRecDepth 100000
set_option maxHeartbeats 4000000
/-! tuple * 0, tuple * 1 -/
namespace Wp
open PySem PySem.Spec PyProof.Rows L2
theorem tuple_mul1 (l : Addr) (items : Array Value) (n : Nat) (dd : Option Addr) (sl : Array (Option Value)) (x : Int) (u : Tok) (c0 : (decide (x < -(2 ^ 63)) || decide (x ≥ 2 ^ 63)) = false) (c1 : (items.isEmpty || x == 1) = true) :
    Meets (Builtin.«tuple.__mul__» ⟨[.ref l, .int x u], []⟩) (fun _ R s => s.heap.get? l = some { cls := .type "tuple", dict := dd, data := .seq items n, slots := sl } ∧ R (.ok (.ret (Value.ref l))) s) :=
  .of_wp fun prog w A R s h => by
    obtain ⟨hp, g, d, tk, os⟩ := s
    obtain ⟨hl, h⟩ := h
    have f1 := AutoSeq1.idx_int
    wp_walk using wpAny_loadPart' hl
    repeat (first
      | (refine wpAny_ite_false (decide_eq_false (by rw [c0]; exact Bool.false_ne_true)) ?_; wp_walk using wpAny_loadPart' hl)
      | (refine wpAny_ite_true (decide_eq_true c1) ?_; wp_walk using wpAny_loadPart' hl))
    exact ⟨_, rfl, h⟩
theorem tuple_mul0 (l : Addr) (items : Array Value) (n : Nat) (dd : Option Addr) (sl : Array (Option Value)) (x : Int) (u : Tok) (c0 : (decide (x < -(2 ^ 63)) || decide (x ≥ 2 ^ 63)) = false) (c1 : (items.isEmpty || x == 1) = false) (c2 : (decide (x ≤ 0) || items.isEmpty) = true) :
    Meets (Builtin.«tuple.__mul__» ⟨[.ref l, .int x u], []⟩) (fun _ R s => s.heap.get? l = some { cls := .type "tuple", dict := dd, data := .seq items n, slots := sl } ∧
      R (.ok (.ret (Value.ref s.heap.objs.size))) { s with heap := s.heap.push { cls := Value.type "tuple", data := Data.seq #[] }, toks := s.toks }) :=
  .of_wp fun prog w A R s h => by
    obtain ⟨hp, g, d, tk, os⟩ := s
    obtain ⟨hl, h⟩ := h
    have f1 := AutoSeq1.idx_int
    wp_walk using wpAny_loadPart' hl
    repeat (first
      | (refine wpAny_ite_false (decide_eq_false (by rw [c0]; exact Bool.false_ne_true)) ?_; wp_walk using wpAny_loadPart' hl)
      | (refine wpAny_ite_false (decide_eq_false (by rw [c1]; exact Bool.false_ne_true)) ?_; wp_walk using wpAny_loadPart' hl)
      | (refine wpAny_ite_true (decide_eq_true c2) ?_; wp_walk using wpAny_loadPart' hl))
    exact ⟨_, rfl, h⟩
/-- products: of numbers; of a tuple and 0 or 1 -/
def rMulA (x : T) (y : T) (S : Sta) (Q : T → Sta → Prop) : Prop := match x, y with
  | .int i, .int j => CMul i j ∧ Q (.int (i * j)) S
  | .tup ts, .int k => (k = 0 ∨ k = 1) ∧ ts.length ≤ 1000000 ∧ Q (.tup (if k = 1 then ts else [])) S
  | _, _ => False
section
variable {X : Cx}
theorem o_mulA : OpT X (binaryOp .Mult) rMulA := by
  intro pins s σ H x y v u Q I rx ry ⟨a, b, S, Q0, ra, rb, hs, q, im⟩
  cases a with
  | int i =>
    cases b with
    | int j =>
      exact o_mul pins s σ H x y v u Q I rx ry ⟨.int i, .int j, S, Q0, ra, rb, hs, ⟨q.1, q.2⟩, im⟩
    | _ => exact q.elim
  | tup ts =>
    cases b with
    | int k =>
      cases rb
      cases ra with
      | @tup l xs _ h1 h2 =>
        obtain ⟨hk, hz, q⟩ := q
        cases rx
        obtain ⟨t, rfl⟩ := ry
        obtain ⟨its, r, ⟨⟨cls, dd, data, sl⟩, ho, hc, n, hd⟩, hs2⟩ := I.tuple (sqT_of (K := X.K) h1)
        simp only at hc hd
        subst hc hd
        have c0 : (decide (k < -(2 ^ 63)) || decide (k ≥ 2 ^ 63)) = false := by
          rw [decide_eq_false (by omega), decide_eq_false (by omega)] <;> rfl
        by_cases c1 : (its.toArray.isEmpty || k == 1) = true
        · have hts : (if k = 1 then ts else []) = ts := by
            by_cases e : k = 1
            · rw [if_pos e]
            · rw [if_neg e]
              have e2 : its.toArray.isEmpty = true := by
                rcases Bool.or_eq_true _ _ ▸ c1 with z | z
                · exact z
                · exact absurd (by simpa using z) e
              have e3 : its = [] := by
                cases its with
                | nil => rfl
                | cons a b => cases e2
              have e4 := r.length
              rw [e3] at e4
              have e5 := h2.length
              exact (List.eq_nil_of_length_eq_zero (e5.trans e4)).symm
          rw [hts] at q
          refine wpAny_binaryOp_repeat_ref (T := "tuple") (U := "int") (by decide) ⟨_, ho, rfl⟩ (fun s' => typeIs_int s' k t) noFill_tuple_mul F.fills_int_mul F.slot_int_rmul repeat_tuple F.slot_int_index.lookup
            (call_meets F.slot_int_rmul (typeIs_int s k t) F.entry_int_rmul (F.args_int_rmul_2 _ _) (int_rmul_tuple k t l its.toArray n dd sl)
              ⟨ho, rfl, ⟨_, ho, rfl⟩, call_meets F.slot_tuple_mul ⟨_, ho, rfl⟩ F.entry_tuple_mul (F.args_tuple_mul_2 _ _) (tuple_mul1 l its.toArray n dd sl k t c0 c1) ⟨ho, ?_⟩⟩)
          exact ⟨.ref l, H, I, rfl, im _ _ q H _ (Ext.refl H) hs (.tup h1 h2)⟩
        · have c1 : (its.toArray.isEmpty || k == 1) = false := by simpa using c1
          have hk0 : k = 0 := by
            rcases hk with e | e
            · exact e
            · rw [e] at c1; simp at c1
          subst hk0
          rw [if_neg (by decide)] at q
          refine wpAny_binaryOp_repeat_ref (T := "tuple") (U := "int") (by decide) ⟨_, ho, rfl⟩ (fun s' => typeIs_int s' 0 t) noFill_tuple_mul F.fills_int_mul F.slot_int_rmul repeat_tuple F.slot_int_index.lookup
            (call_meets F.slot_int_rmul (typeIs_int s 0 t) F.entry_int_rmul (F.args_int_rmul_2 _ _) (int_rmul_tuple 0 t l its.toArray n dd sl)
              ⟨ho, rfl, ⟨_, ho, rfl⟩, call_meets F.slot_tuple_mul ⟨_, ho, rfl⟩ F.entry_tuple_mul (F.args_tuple_mul_2 _ _) (tuple_mul0 l its.toArray n dd sl 0 t c0 c1 (by rw [decide_eq_true (by decide), Bool.true_or])) ⟨ho, ?_⟩⟩)
          have hp : H s.heap.objs.size = none := I.hok.fresh (Nat.le_refl _)
          refine ⟨.ref s.heap.objs.size, _, I.laid (t' := s.toks) (o := .tup []) (fun b ob q => Heap.get?_push_of_some _ q) (Nat.le_refl _) ?_, rfl, im _ _ q _ _ (Ext.new hp) (hs.new hp _) (.tup upd_same .nil)⟩
          exact ⟨by rw [sizeLine_eq]; decide, _, .nil, IsTup.new _ _⟩
    | _ => exact q.elim
  | _ => exact q.elim
end
end Wp

set_option Elab.async false
set_option linter.all false
set_option maxRecDepth 100000
set_option maxHeartbeats 4000000
/-! lists of lists: ==, and x[::-1] -/
namespace Wp
open PySem PySem.Spec PyProof.Rows L2
section
variable {B : Hp} {X : Cx} {a b : Expr} {ta tb : WE} {pos : Pos}
def rRev (x : T) (S : Sta) (Q : T → Sta → Prop) : Prop := match x with
  | .ref p => ∃ ts, S p = some (.lst ts) ∧ ∀ q, S q = none → Q (.ref q) (upS S q (.lst ts.reverse))
  | _ => False
def wRev (t : WE) (σ : Sl) (S : Sta) (Q : T → Sta → Prop) : Prop := t σ S fun x S1 => rRev x S1 Q
theorem j_rev {k : Nat} {p1 p2 p3 : Pos} (ha : JE B X a ta) : JE B X (.Subscript a (.Slice none none (some (.UnaryOp .USub (.Constant (.int 1) k p1) p2)) p3) pos) (wRev ta) :=
  pe_imp (pe_revL ha) fun σ H Q ⟨st, S, Q0, he, hr, hs, h, im⟩ => by
    refine ⟨st, S, _, he, hr, hs, h, fun x S1 h1 H1 v e1 s1 r1 => ?_⟩
    cases x with
    | ref p =>
      obtain ⟨ts, e, q⟩ := h1
      cases r1
      obtain ⟨xs, g1, g2⟩ := s1 p _ e
      refine ⟨p, xs, rfl, .inl (.inl g1), fun p' hp' => ?_⟩
      obtain ⟨e3, s3⟩ := s1.newL hp' g2.reverse
      exact im _ _ (q p' (s1.free hp')) _ _ (e1.trans e3) s3 (.ref p')
    | _ => exact h1.elim
def see2 (S : Sta) : T → T
  | .ref p => match S p with
    | some (.lst ts) => .fl (ts.map (see S))
    | _ => .ref p
  | t => t
theorem see2_ref {S : Sta} {p : Addr} {ts : List T} (h : S p = some (.lst ts)) : see2 S (.ref p) = .fl (ts.map (see S)) := by simp only [see2, h]
theorem sees_dp {K : PySem.W.Frag} {H : Hp} {S : Sta} (hs : St K S H) : ∀ (ts : List T) (vs : List V) (ds : List PyData), Reps K H ts vs → toDs (ts.map (see S)) = some ds → DpAll K H vs ds
  | [], _, _, r, e => by cases r; simp only [List.map_nil, toDs, Option.some.injEq] at e; subst e; exact .nil
  | t :: ts, _, ds, r, e => by
    cases r with
    | cons h1 h2 =>
      simp only [List.map_cons, toDs] at e
      cases e1 : toD (see S t) with
      | none => rw [e1] at e; cases e
      | some d =>
        cases e2 : toDs (ts.map (see S)) with
        | none => rw [e1, e2] at e; cases e
        | some es =>
          rw [e1, e2] at e
          cases e
          exact .cons (dd_dp hs h1 (by rw [dd_see]; exact e1)) (sees_dp hs ts _ es h2 e2)
theorem see2_dp {K : PySem.W.Frag} {H : Hp} {S : Sta} {t : T} {v : V} {d : PyData} (hs : St K S H) (r : Rep K H t v) (e : toD (see2 S t) = some d) : Dp K H v d := by
  cases t with
  | ref p =>
    cases r
    simp only [see2] at e
    cases q : S p with
    | none => rw [q] at e; simp only [toD] at e; cases e
    | some o =>
      rw [q] at e
      cases o with
      | ins C fs => simp only [toD] at e; cases e
      | dct kvs => simp only [toD] at e; cases e
      | dtt kvs => simp only [toD] at e; cases e
      | lst ts =>
        simp only [toD, Option.map_eq_some_iff] at e
        obtain ⟨ds, e1, e2⟩ := e
        subst e2
        obtain ⟨xs, h1, h2⟩ := hs p _ q
        exact .lst (.inl (.inl h1)) (sees_dp hs ts _ ds h2 e1)
  | non => exact Rep.dp _ _ _ r e
  | bl b => exact Rep.dp _ _ _ r e
  | int b => exact Rep.dp _ _ _ r e
  | str b => exact Rep.dp _ _ _ r e
  | tup b => exact Rep.dp _ _ _ r e
  | fl b => exact Rep.dp _ _ _ r e
  | pt b => exact Rep.dp _ _ _ r e
def rEq2 (neg : Bool) (x : T) (y : T) (S : Sta) (Q : T → Sta → Prop) : Prop := ∃ d, toD (see2 S x) = some d ∧ ∃ e, toD (see2 S y) = some e ∧ SeqAt.shaped d = true ∧ SeqAt.shaped e = true ∧ Q (.bl (neg != PyData.eqv d e)) S
theorem o_eq2 (hu : X.A.units + 64 < cLine) : OpT X (compareOp .Eq) (rEq2 false) := by
  intro pins s σ H x y v u Q I rx ry ⟨a, b, S, Q0, ra, rb, hs, ⟨d, h1, e, h2, h3, h4, q⟩, im⟩
  refine op_eqD hu pins s σ H _ _ v u Q I rx ry ⟨d, e, see2_dp hs ra h1, see2_dp hs rb h2, h3, h4, ?_⟩
  rw [Bool.false_bne] at q
  exact im _ _ q H _ (Ext.refl H) hs (.bl _)
theorem o_ne2 (hu : X.A.units + 64 < cLine) : OpT X (compareOp .NotEq) (rEq2 true) := by
  intro pins s σ H x y v u Q I rx ry ⟨a, b, S, Q0, ra, rb, hs, ⟨d, h1, e, h2, h3, h4, q⟩, im⟩
  refine op_neD hu pins s σ H _ _ v u Q I rx ry ⟨d, e, see2_dp hs ra h1, see2_dp hs rb h2, h3, h4, ?_⟩
  rw [Bool.true_bne] at q
  exact im _ _ q H _ (Ext.refl H) hs (.bl _)
theorem rEq2_same {neg : Bool} {x y : T} {S : Sta} {Q : T → Sta → Prop} {z : T} (ex : see2 S x = z) (ey : see2 S y = z) (hz : nbT z = true) (dz : dpT z ≤ 60) (h : Q (.bl neg) S) : rEq2 (!neg) x y S Q := by
  obtain ⟨d, a1, a2, a3⟩ := nb_toD _ hz
  have sh : SeqAt.shaped d = true := by unfold SeqAt.shaped; rw [a2, Bool.true_and]; exact decide_eq_true (by omega)
  refine ⟨d, by rw [ex]; exact a1, d, by rw [ey]; exact a1, sh, sh, ?_⟩
  rw [(nb_eqv _ _ d d hz hz a1 a1).mpr rfl]
  cases neg <;> exact h
end
end Wp

set_option Elab.async false
set_option linter.all false
set_option maxRecDepth 100000
set_option maxHeartbeats 4000000
/-! sorted(d.items()) of a dict of whole numbers by whole numbers -/
namespace Wp
open PySem PySem.Spec PyProof.Rows L2
/-- what the pair at an address is, told by the places of the addresses -/
theorem place : ∀ (bs : List Addr) (es : List (Int × Int)), bs.Nodup → ∃ f : Addr → Int × Int, ∀ z ∈ bs.zip es, f z.1 = z.2
  | [], _, _ => ⟨fun _ => (0, 0), fun z hz => by simp at hz⟩
  | _ :: _, [], _ => ⟨fun _ => (0, 0), fun z hz => by simp at hz⟩
  | b :: bs, e :: es, nd => by
    rw [List.nodup_cons] at nd
    obtain ⟨f, hf⟩ := place bs es nd.2
    refine ⟨fun x => if x = b then e else f x, fun z hz => ?_⟩
    rw [List.zip_cons_cons] at hz
    rcases List.mem_cons.mp hz with q | q
    · subst q; exact if_pos rfl
    · have : z.1 ≠ b := fun w => nd.1 (by rw [← w]; exact (List.of_mem_zip q).1)
      show (if z.1 = b then e else f z.1) = z.2
      rw [if_neg this]
      exact hf z q
/-- a pair as the machine holds it, its object known whole -/
def PairObj (h : Heap) (z : Addr × Int × Int) : Prop := ∃ t u : Tok, h.get? z.1 = some { cls := .type "tuple", data := .seq #[Value.int z.2.1 t, Value.int z.2.2 u] }
section
variable {P : Program} {w : World} {A : Around} {E : Value → Shared → Prop} {s : Shared}
/-- the machine's side: what sorted makes of the view -/
theorem sorted_view {r d : Addr} {es : Array DictEntry} {ep : Nat} {ks : List (Int × Int)} {Q : Value → Shared → Prop} (hh : A.handled = none) (view : s.heap.IsItemsView r d) (raw : DT.Raw s.heap d es ep) (many : es.size = ks.length) (fits : ks.length ≤ sizeLine)
    (ent : ∀ (j : Nat) (e : DictEntry), es.toList[j]? = some e → ∃ (k : Int × Int) (t u : Tok), ks[j]? = some k ∧ e.key = .int k.1 t ∧ e.val = .int k.2 u)
    (h : ∀ (hp : Heap) (tk : Nat) (l : Addr) (zs : List (Addr × Int × Int)), (∀ b o, s.heap.get? b = some o → hp.get? b = some o) → s.heap.objs.size ≤ l → (∃ c, hp.get? l = some { cls := .type "list", data := .seq (zs.map fun z => Value.ref z.1).toArray c }) →
      (zs.map (·.2)).Perm ks → (zs.map (·.2)).Pairwise (fun e f => e.1 ≤ f.1) → (zs.map (·.1)).Nodup → (∀ z ∈ zs, s.heap.objs.size ≤ z.1 ∧ z.1 ≠ l ∧ PairObj hp z) → Q (.ref l) { s with heap := hp, toks := tk }) :
    wpAny (model P w) A (call (.builtin "sorted") [.ref r]) Q E s := by
  refine DT.sortedI hh view raw (many ▸ fits) fun h1 tk bs old big len made => ?_
  have len : bs.length = ks.length := len.trans many
  have nd : bs.Nodup := made.rise.imp Nat.ne_of_lt
  obtain ⟨f, hf⟩ := place bs ks nd
  have objs : ∀ z ∈ bs.zip ks, PairObj h1 z := fun z hz => by
    obtain ⟨j, hj⟩ := List.mem_iff_getElem?.mp hz
    obtain ⟨j1, j2⟩ := List.getElem?_zip_eq_some.mp hj
    obtain ⟨e, he, hg⟩ := made.pairs j _ j1
    obtain ⟨k, t, u, a, b, c⟩ := ent j e (by rw [Array.getElem?_toList]; exact he)
    obtain rfl : k = z.2 := Option.some.inj (a.symm.trans j2)
    exact ⟨t, u, by rw [hg, b, c]⟩
  have below : ∀ {b : Addr} {o : Obj}, h1.get? b = some o → b ≠ h1.objs.size := fun q => Nat.ne_of_lt (Heap.lt_size q)
  obtain ⟨h2, e2⟩ : ∃ h2, h1.push { cls := .type "list", data := .seq (bs.map Value.ref).toArray } = h2 := ⟨_, rfl⟩
  have lay : h2.get? h1.objs.size = some (seqObj "list" (bs.map Value.ref).toArray 0) := by rw [← e2]; exact Heap.get?_push_size _ rfl
  have grown : ∀ {b : Addr} {o : Obj}, h1.get? b = some o → h2.get? b = some o := fun q => by rw [← e2]; exact Heap.get?_push_of_some _ q
  rw [e2]
  have inz : ∀ v ∈ bs.map Value.ref, ∃ z ∈ bs.zip ks, v = .ref z.1 := fun v hv => by
    obtain ⟨b, hb, rfl⟩ := List.mem_map.mp hv
    obtain ⟨j, hj⟩ := List.mem_iff_getElem?.mp hb
    have hl : j < ks.length := by rw [← len]; exact (List.getElem?_eq_some_iff.mp hj).1
    exact ⟨(b, ks[j]), List.mem_of_getElem? (List.getElem?_zip_eq_some.mpr ⟨hj, List.getElem?_eq_getElem hl⟩), rfl⟩
  let g : Value → Int × Int := fun v => match v with
    | Value.ref b => f b
    | _ => ((0 : Int), (0 : Int))
  refine wpAny_call_entry PyProof.Rows.slot_list_sort ⟨_, lay, rfl⟩ PyProof.Rows.entry_list_sort
    (SrtO.list_sort_ord (s := { s with heap := h2, toks := tk }) (vs := bs.map Value.ref) (SrtO.swo_lex g) lay (by rw [List.length_map, len]; exact fits) (fun two => SrtO.pairs_sortableO (by omega) (fun v hv => ?_) fun o q => ?_) fun out srt stb => ⟨.none, rfl, ?_⟩) (PyProof.Rows.args_list_sort _)
  · obtain ⟨z, hz, rfl⟩ := inz v hv
    obtain ⟨t, u, q⟩ := objs z hz
    rw [show g (Value.ref z.1) = z.2 from hf z hz]
    exact ⟨z.1, _, t, u, 0, rfl, grown q, rfl, rfl⟩
  · obtain rfl : o = seqObj "list" (bs.map Value.ref).toArray 0 := Option.some.inj (q.symm.trans lay)
    exact fun c => absurd (Value.type.inj c) (by decide)
  · have firsts : (bs.zip ks).map (fun z => Value.ref z.1) = bs.map Value.ref := by
      rw [show (fun z : Addr × Int × Int => Value.ref z.1) = Value.ref ∘ Prod.fst from rfl, ← List.map_map, List.map_fst_zip (Nat.le_of_eq len)]
    obtain ⟨zs, perm, rfl⟩ := perm_lift (fun z : Addr × Int × Int => Value.ref z.1) stb.perm (bs.zip ks) firsts
    have hz : ∀ z ∈ zs, z ∈ bs.zip ks := fun z q => perm.mem_iff.mp q
    have kept : ∀ {b : Addr} {o : Obj}, h1.get? b = some o → (sortedHeap h2 h1.objs.size (bs.map Value.ref) (zs.map fun z => Value.ref z.1).toArray).get? b = some o := fun q => (PyProof.Rows.sortedHeap_old (below q) (Heap.lt_size (grown q))).trans (grown q)
    refine h _ tk h1.objs.size zs (fun b o q => kept (old b o q)) (Nat.le_of_lt big) ?_ ?_ ?_ ?_ fun z q => ?_
    · obtain ⟨c, q⟩ := PyProof.Rows.sortedHeap_at (vs := bs.map Value.ref) (out := (zs.map fun z => Value.ref z.1).toArray) lay
      exact ⟨c, q⟩
    · have q := perm.map (·.2)
      rwa [List.map_snd_zip (Nat.le_of_eq len.symm)] at q
    · have q : (zs.map fun z => Value.ref z.1).Pairwise fun x y => SrtO.lexB (g y) (g x) = false := srt
      rw [List.pairwise_map] at q ⊢
      refine q.imp_of_mem fun {x y} hx hy q => ?_
      have q : SrtO.lexB (f y.1) (f x.1) = false := q
      rw [hf x (hz x hx), hf y (hz y hy)] at q
      have := SrtO.lexB_no.mp q
      omega
    · refine (perm.map (·.1)).nodup_iff.mpr ?_
      rw [List.map_fst_zip (Nat.le_of_eq len)]
      exact nd
    · obtain ⟨t, u, e⟩ := objs z (hz z q)
      exact ⟨Nat.le_of_lt (made.above _ (List.of_mem_zip (hz z q)).1), below e, t, u, kept e⟩
end
/-- the entries of such a dict, one by one -/
theorem ents_at : ∀ {es : List DictEntry} {vs : List (Key × Value)} {ks : List (Int × Int)} {P : Program} {w : World}, KV (ks.map fun e => ((Sum.inl e.1 : Key), V.int e.2)) vs → Pairs (mixKind P w) es vs → es.length = ks.length ∧ ∀ (j : Nat) (e : DictEntry), es[j]? = some e → ∃ (k : Int × Int) (t u : Tok), ks[j]? = some k ∧ e.key = .int k.1 t ∧ e.val = .int k.2 u
  | _, _, [], _, _, r, p => by
    cases r
    cases p
    exact ⟨rfl, fun j e h => by simp at h⟩
  | _, _, k :: ks, P, w, r, p => by
    cases r with
    | cons h t =>
      cases p with
      | cons h1 h2 t2 =>
        obtain ⟨l, g⟩ := ents_at t t2
        refine ⟨by rw [List.length_cons, List.length_cons, l], fun j e he => ?_⟩
        cases j with
        | zero =>
          simp only [List.getElem?_cons_zero, Option.some.injEq] at he
          subst he
          obtain ⟨e1, e2⟩ := h
          have e1 : Sum.inl k.1 = _ := e1
          rw [← e1] at h1
          rcases keyIs_shape (k := Sum.inl k.1) h1 with ⟨i, t', a1, a2⟩ | ⟨x, t', a1, a2⟩
          · have a1 := Sum.inl.inj a1
            subst a1
            obtain ⟨u, e2⟩ := e2
            exact ⟨k, t', u, rfl, a2, by rw [h2]; exact e2⟩
          · exact nomatch a1
        | succ j => exact g j e (by simpa using he)
/-- the view d.items() of a dict with keys of any kind -/
def rItemsI : V → List V → Hp → VK → Prop := fun x xs H Q => ∃ (a : Addr) (kvs : List (Key × V)), x = .ref a ∧ xs = [] ∧ Rd H a (.dK kvs) ∧ ∀ p, H p = none → Q (.ref p) (upd H p (DX.itemsO p a))
def rSortDI : List V → Hp → VK → Prop := fun vs H Q => ∃ (p a : Addr) (ks : List (Int × Int)), vs = [.ref p] ∧ H p = some (DX.itemsO p a) ∧ Rd H a (.dK (ks.map fun e => ((Sum.inl e.1 : Key), V.int e.2))) ∧
  ∀ (H' : Hp) (l : Addr) (zs : List (Addr × Int × Int)), (∀ b o, H b = some o → H' b = some o) → (zs.map (·.2)).Perm ks → (zs.map (·.2)).Pairwise (fun e f => e.1 ≤ f.1) → H' l = some (.lst (zs.map fun z => V.ref z.1)) →
    (∀ z ∈ zs, H' z.1 = some (.tup [.int z.2.1, .int z.2.2])) → Q (.ref l) H'
section
variable {X : Cx}
theorem m_itemsI : MtR X "dict.items" rItemsI := fun pins s σ H x xs v us Q I rx rxs ⟨a, kvs, ex, exs, ha, q⟩ => by
  subst ex exs
  obtain rfl : v = Value.ref a := rx
  cases rxs
  obtain ⟨_, top, _, _, o, es, ep, ho, hx, hdat, _⟩ := dk_rd I.hok ha
  have new : H s.heap.objs.size = none := I.hok.fresh (Nat.le_refl _)
  exact DT.callItems (es := es) (ep := ep) top ⟨o, ho, hx, hdat⟩ ⟨.ref _, _, I.laid (t' := s.toks) (fun _ _ e => Heap.get?_push_of_some _ e) (Nat.le_refl _) (DX.itemsO_ok (Heap.get?_push_size _ rfl)), rfl, q _ new⟩
theorem c_sortDI (hc : X.calm = true) : CallR X (.builtin "sorted") rSortDI := fun pins s σ H xs us Q I r ⟨p, a, ks, ex, hp, ha, q⟩ => by
  subst ex
  obtain rfl := Vals.ref1 r
  obtain ⟨short, _, vs, rel, o, es, ep, ho, hx, hdat, _, hP, _⟩ := dk_rd I.hok ha
  rw [List.length_map] at short
  obtain ⟨many, ent⟩ := ents_at rel hP
  have view : s.heap.IsItemsView p a := (show ObjOk X.prog X.w H s.heap p (DX.itemsO p a) from I.hok p _ hp).1
  refine sorted_view (ks := ks) (I.ok.hd hc) view ⟨o, ho, hx, hdat⟩ (by rw [← many]; exact Array.length_toList.symm) short ent fun hp tk l zs keep hl ⟨c, lst⟩ perm srt nd fresh => ?_
  have free : ∀ b, s.heap.objs.size ≤ b → H b = none := fun b z => I.hok.fresh z
  have J : Inv X pins σ (upd H l (.lst (zs.map fun z => V.ref z.1))) { s with heap := hp, toks := tk } :=
    I.laid (t' := tk) keep hl ⟨by rw [List.length_map]; have := perm.length_eq; rw [List.length_map] at this; omega, zs.map fun z => Value.ref z.1, c, vals_maps (fun z : Addr × Int × Int => V.ref z.1) (fun z => Value.ref z.1) zs fun _ _ => rfl, lst⟩
  obtain ⟨H2, J2, up, tups⟩ := DX.takeT (P := fun b vs => ∃ z ∈ zs, z.1 = b ∧ vs = [V.int z.2.1, V.int z.2.2]) I (zs.map (·.1)) _ J nd fun b hb => by
    obtain ⟨z, hz, rfl⟩ := List.mem_map.mp hb
    obtain ⟨z1, z2, t, u, z3⟩ := fresh z hz
    exact ⟨z1, by rw [upd_ne z2]; exact free _ z1, _, ⟨z, hz, rfl, rfl⟩, fun H3 => ⟨by rw [sizeLine_eq]; show 2 ≤ 16777216; omega, [Value.int z.2.1 t, Value.int z.2.2 u], .cons ⟨t, rfl⟩ (.cons ⟨u, rfl⟩ .nil), _, z3, rfl, 0, rfl⟩⟩
  refine ⟨.ref l, H2, J2, rfl, q H2 l zs (fun b o e => up b o ?_) perm srt (up _ _ upd_same) fun z hz => ?_⟩
  · rw [upd_ne fun z => by rw [z, free l hl] at e; cases e]
    exact e
  · obtain ⟨vs, ⟨y, hy, e1, e2⟩, e3⟩ := tups z.1 (List.mem_map.mpr ⟨z, hz, rfl⟩)
    have : y = z := by
      obtain ⟨i, hi⟩ := List.mem_iff_getElem?.mp hy
      obtain ⟨j, hj⟩ := List.mem_iff_getElem?.mp hz
      have hij : i = j := (List.getElem?_inj (by rw [List.length_map]; exact (List.getElem?_eq_some_iff.mp hi).1) nd).mp (by rw [List.getElem?_map, List.getElem?_map, hi, hj, Option.map_some, Option.map_some, e1])
      rw [hij, hj] at hi
      exact (Option.some.inj hi).symm
    rw [e3, e2, this]
end
end Wp

set_option Elab.async false
set_option linter.all false
set_option maxRecDepth 100000
set_option maxHeartbeats 4000000
/-! a tuple that is known to have no dict of its own, and dict(x) of a tuple of pairs -/
namespace Wp
open PySem PySem.Spec PyProof.Rows L2
/-- a tuple, the whole object known -/
def TupX (H : Hp) (a : Addr) (xs : List V) : Prop := ∃ o, o.dict = none ∧ H a = some (.frz o (.tup xs))
/-- what the pairs at these addresses hold: the key, the key's value, the value -/
theorem held {X : Cx} {pins : List (Addr × Obj)} {σ : L2.St} {H : Hp} {s : Shared} (I : Inv X pins σ H s) : ∀ (ps : List Addr) (kvs : List (Key × V)), Paired (fun p kv => SqT X.K H p [kV kv.1, kv.2]) ps kvs →
    ∃ zs : List (Key × Value × Value), KV kvs (zs.map fun z => (z.1, z.2.2)) ∧ zs.length = ps.length ∧ ∀ (j : Nat) (z : Key × Value × Value), zs[j]? = some z → ∃ b, ps[j]? = some b ∧ IsTup s.heap b #[z.2.1, z.2.2] ∧ keyIs z.1 z.2.1 = true
  | [], _, h => by cases h; exact ⟨[], .nil, rfl, fun j z e => by simp at e⟩
  | b :: ps, _, h => by
    cases h with
    | @cons _ kv _ kvs h1 h2 =>
      obtain ⟨zs, r, l, g⟩ := held I ps kvs h2
      obtain ⟨_, vals, tup, _⟩ := I.tuple h1
      obtain ⟨k, v, e, rk, rv⟩ := vals2 vals
      subst e
      refine ⟨(kv.1, k, v) :: zs, .cons ⟨rfl, rv⟩ r, by rw [List.length_cons, List.length_cons, l], fun j z q => ?_⟩
      match j, q with
      | 0, q =>
        obtain rfl : (kv.1, k, v) = z := Option.some.inj q
        exact ⟨b, rfl, tup, kV_is (P := X.prog) (w := X.w) rk⟩
      | j + 1, q => exact g j z q
section
variable {X : Cx}
theorem c_tupX : CallR X (.type "tuple") (fun xs H Q => ∃ p ys, xs = [.ref p] ∧ SqL X.K H p ys ∧ ∀ l o, o.dict = none → H l = none → Q (.ref l) (upd H l (.frz o (.tup ys)))) := fun pins s σ H xs us Q I r ⟨p, ys, ex, hq, q⟩ => by
  subst ex
  obtain rfl := Vals.ref1 r
  obtain ⟨its, vals, pl, short⟩ := I.list hq
  refine call_tuple_list pl.isList (fun h1 keep => ?_) (by have := vals.length; simp only [List.size_toArray]; omega)
  have J : Inv X pins σ H { s with heap := h1 } := I.kept (t' := s.toks) keep
  refine ⟨.ref _, _, J.laid (t' := s.toks) (o := .frz { cls := .type "tuple", data := .seq its.toArray } (.tup ys)) (fun _ _ e => Heap.get?_push_of_some _ e) (Nat.le_refl _) ⟨Heap.get?_push_size _ rfl, short, its, vals, IsTup.new _ _⟩, rfl, ?_⟩
  exact q _ _ rfl (J.hok.fresh (Nat.le_refl _))
/-- dict(x) of a tuple of pairs -/
theorem c_dictPT (hc : X.calm = true) : CallR X (.type "dict") (fun xs H Q => ∃ (a : Addr) (ps : List Addr) (kvs : List (Key × V)), xs = [.ref a] ∧ TupX H a (ps.map V.ref) ∧ Paired (fun p kv => SqT X.K H p [kV kv.1, kv.2]) ps kvs ∧
    ∀ p, H p = none → Q (.ref p) (upd H p (.dK (mergeK [] kvs)))) := fun pins s σ H xs us Q I r ⟨a, ps, kvs, ex, ⟨o, plain, ha⟩, pairs, q⟩ => by
  subst ex
  obtain rfl := Vals.ref1 r
  obtain ⟨ho, short, its, vals, ⟨o2, ho2, cls, n, dat⟩⟩ := (show ObjOk X.prog X.w H s.heap a (.frz o (.tup (ps.map V.ref))) from I.hok a _ ha)
  obtain rfl : o = o2 := Option.some.inj (ho.symm.trans ho2)
  obtain rfl := refs_at vals
  obtain ⟨zs, rel, many, at_⟩ := held I ps kvs pairs
  rw [List.length_map] at short
  have item : ∀ (j : Nat) (k v : Value), (zs.map (·.2))[j]? = some (k, v) → ∃ z b, zs[j]? = some z ∧ z.2 = (k, v) ∧ ps[j]? = some b ∧ IsTup s.heap b #[k, v] ∧ keyIs z.1 k = true := fun j k v e => by
    rw [List.getElem?_map, Option.map_eq_some_iff] at e
    obtain ⟨z, e1, e2⟩ := e
    obtain ⟨b, g1, g2, g3⟩ := at_ j z e1
    rw [e2] at g2 g3
    exact ⟨z, b, e1, e2, g1, g2, g3⟩
  refine PySem.call_dict_pairs (knd := mixKind X.prog X.w) (kvs := zs.map fun z => (z.1, z.2.2)) (PySem.PairArg.tuple a (ps.map Value.ref).toArray (fun j => ps.getD j 0) (zs.map (·.2))) (I.ok.hd hc)
    ⟨⟨o, n, ho, cls, plain, dat⟩, by simp [many], fun j k v e => ?_⟩ ⟨by simp, fun j k v e => ?_⟩ (by rw [List.length_map, many]; exact short) fun hp tk dict keep => ?_
  · obtain ⟨z, b, _, _, g, tup, _⟩ := item j k v e
    have gb : ps.getD j 0 = b := by simp [g, List.getD_eq_getElem?_getD]
    exact ⟨by simp [g, gb], .inl (by show s.heap.IsTuple (ps.getD j 0) #[k, v]; rw [gb]; exact tup)⟩
  · obtain ⟨z, b, e1, e2, _, _, key⟩ := item j k v e
    exact ⟨z.1, by rw [List.getElem?_map, e1, Option.map_some, e2], key⟩
  · have size : (mergeK [] kvs).length ≤ sizeLine := by
      have g1 := length_mergeK kvs []
      have g2 := rel.length
      rw [List.length_map] at g2
      rw [List.length_nil] at g1
      omega
    refine ⟨.ref _, _, I.laid (t' := tk) (o := .dK (mergeK [] kvs)) (fun b o e => keep b o (fun z => nomatch z) e) (Nat.le_refl _) ⟨size, beq_eq_false_iff_ne.mpr (Nat.ne_of_gt I.big), _, KV.merge rel .nil, dict⟩, rfl, ?_⟩
    exact q _ (I.hok.fresh (Nat.le_refl _))
end
end Wp

set_option Elab.async false
set_option linter.all false
set_option maxRecDepth 100000
set_option maxHeartbeats 4000000
/-! the picture of a dict of whole numbers: tuple(sorted(d.items())), and back: dict(x) -/
namespace Wp
open PySem PySem.Spec PyProof.Rows L2
/-- entries of whole numbers -/
def entI (e : Int × Int) : Key × T := (Sum.inl e.1, .int e.2)
def prI (e : Int × Int) : T := .tup [.int e.1, .int e.2]
theorem entI_rep {K : PySem.W.Frag} {H : Hp} : ∀ {ks : List (Int × Int)} {xs : List (Key × V)}, KRep K H (ks.map entI) xs → xs = ks.map fun e => ((Sum.inl e.1 : Key), V.int e.2)
  | [], _, h => by cases h; rfl
  | k :: ks, _, h => by
    cases h with
    | cons h1 h2 =>
      cases h1
      rw [entI_rep h2]
      rfl
theorem entI_of {K : PySem.W.Frag} {H : Hp} : ∀ (ks : List (Int × Int)), KRep K H (ks.map entI) (ks.map fun e => ((Sum.inl e.1 : Key), V.int e.2))
  | [] => .nil
  | k :: ks => .cons (.int _) (entI_of ks)
theorem prI_reps {K : PySem.W.Frag} {H : Hp} : ∀ (zs : List (Addr × Int × Int)), (∀ z ∈ zs, H z.1 = some (.tup [.int z.2.1, .int z.2.2])) → Reps K H ((zs.map (·.2)).map prI) (zs.map fun z => V.ref z.1)
  | [], _ => .nil
  | z :: zs, h => .cons (.tup (h z (List.mem_cons_self ..)) (.cons (.int _) (.cons (.int _) .nil))) (prI_reps zs fun y hy => h y (List.mem_cons_of_mem _ hy))
theorem prI_of {K : PySem.W.Frag} {H : Hp} : ∀ {ks : List (Int × Int)} {vs : List V}, Reps K H (ks.map prI) vs → ∃ ps : List Addr, vs = ps.map V.ref ∧ Paired (fun p (kv : Key × V) => SqT K H p [kV kv.1, kv.2]) ps (ks.map fun e => ((Sum.inl e.1 : Key), V.int e.2))
  | [], _, h => by cases h; exact ⟨[], rfl, .nil⟩
  | k :: ks, _, h => by
    cases h with
    | cons h1 h2 =>
      obtain ⟨ps, rfl, q⟩ := prI_of h2
      cases h1 with
      | tup a b =>
        cases b with
        | cons b1 b2 =>
          cases b1
          cases b2 with
          | cons c1 c2 =>
            cases c1
            cases c2
            exact ⟨_ :: ps, rfl, .cons (sqT_of a) q⟩
section
variable {B : Hp} {X : Cx} {o : Expr} {to : WE}
def wSrtIt (to : WE) (σ : Sl) (S : Sta) (Q : T → Sta → Prop) : Prop := to σ S fun x S1 => match x with
  | .ref p => ∃ ks : List (Int × Int), S1 p = some (.dct (ks.map entI)) ∧ ∀ zs : List (Int × Int), zs.Perm ks → zs.Pairwise (fun e f => e.1 ≤ f.1) → Q (.pt (zs.map prI)) S1
  | _ => False
theorem j_srtIt {p1 p2 p3 p4 p5 p6 : Pos} (hc : X.calm = true) (g1 : Gl X "tuple") (m1 : X.mg "tuple" = none) (g2 : Gl X "sorted") (m2 : X.mg "sorted" = none) (ho : JE B X o to)
    (hbase : attributeBase o "items" X.env (eval o X.env) = eval o X.env := by rfl) (hline : (p5.endLine == p6.line) = true := by rfl) :
    JE B X (.Call (.Name "tuple" p1) [.Call (.Name "sorted" p2) [.Call (.Attribute o "items" p5) [] [] p6] [] p4] [] p3) (wSrtIt to) :=
  pe_imp (pe_callTy c_tupX g1 m1 rfl (pa_cons (pe_callB (c_sortDI hc) g2 m2 rfl (pa_cons (pe_bm0 PySem.F.plainAttrs_dict PySem.F.slot_dict_items PySem.F.type_dict_items m_itemsI ho hbase hline) pa_nil) (by decide) (by decide)) pa_nil) (by decide) (by decide)) fun σ H Q ⟨st, S, Q0, he, hr, hs, h, im⟩ => by
    refine ⟨st, S, _, he, hr, hs, h, fun x S1 h1 H1 v e1 s1 r1 => ?_⟩
    cases x with
    | ref p =>
      obtain ⟨ks, eS, q⟩ := h1
      cases r1
      obtain ⟨xs, d1, d2⟩ := s1 p _ eS
      obtain rfl := entI_rep d2
      refine ⟨.inr (.inr (.inl ⟨rfl, .inl ⟨_, d1⟩⟩)), p, _, rfl, rfl, .inl d1, fun w hw => ?_⟩
      have wp : p ≠ w := fun e => by rw [e, hw] at d1; cases d1
      refine ⟨w, p, ks, rfl, upd_same, .inl (by rw [upd_ne wp]; exact d1), fun H2 l zs keep perm srt hl ht => ?_⟩
      refine ⟨l, _, rfl, .inl (.inl hl), fun l2 ob plain hn => ?_⟩
      have ex2 : Ext H1 H2 := by
        have e2 : Ext H1 (upd H1 w (DX.itemsO w p)) := Ext.new hw
        exact ⟨fun b ys e => keep _ _ (e2.tups b ys e), fun b ob u e => keep _ _ (e2.frzs b ob u e), fun b hb => by
          obtain ⟨ps, e, t⟩ := e2.tabs b hb
          exact ⟨ps, keep _ _ e, t⟩⟩
      have ex3 : Ext H1 (upd H2 l2 (.frz ob (.tup (zs.map fun z => V.ref z.1)))) := ex2.trans (Ext.new hn)
      have old : ∀ a u, S1 a = some u → (upd H2 l2 (.frz ob (.tup (zs.map fun z => V.ref z.1)))) a = H1 a := fun a u e => by
        obtain ⟨u', hu, _⟩ := s1.has e
        have aw : a ≠ w := fun z => by rw [z, hw] at hu; cases hu
        have h2 : H2 a = some u' := keep a u' (by rw [upd_ne aw]; exact hu)
        rw [upd_ne (ne_of_none h2 hn), h2, hu]
      refine im _ _ (q (zs.map (·.2)) perm srt) _ _ (e1.trans ex3) (s1.keep ex3 old) (.pt plain upd_same ?_)
      exact Reps.mono (Ext.new hn) _ _ (prI_reps zs ht)
    | _ => exact h1.elim
/-- dict(x) of such a tuple, no key twice -/
def rDictP (xs : List T) (S : Sta) (Q : T → Sta → Prop) : Prop := match xs with
  | [.pt ts] => ∃ ks : List (Int × Int), ts = ks.map prI ∧ (ks.map (·.1)).Nodup ∧ ∀ p, S p = none → Q (.ref p) (upS S p (.dct (ks.map entI)))
  | _ => False
theorem mergeK_app : ∀ (kvs acc : List (Key × V)), ((acc ++ kvs).map (·.1)).Nodup → mergeK acc kvs = acc ++ kvs
  | [], acc, _ => by rw [List.append_nil]; rfl
  | kv :: kvs, acc, h => by
    have no : acc.any (fun z => decide (z.1 = kv.1)) = false := by
      rw [List.any_eq_false]
      intro z hz
      rw [List.map_append, List.map_cons, List.nodup_append] at h
      have := h.2.2 z.1 (List.mem_map.mpr ⟨z, hz, rfl⟩) kv.1 (List.mem_cons_self ..)
      simpa using this
    have e : putK acc kv.1 kv.2 = acc ++ [kv] := by
      unfold putK
      simp [no]
    have := mergeK_app kvs (acc ++ [kv]) (by rw [List.append_assoc]; exact h)
    rw [List.append_assoc] at this
    show mergeK (putK acc kv.1 kv.2) kvs = _
    rw [e]
    exact this
theorem c_dictP (hc : X.calm = true) : CallR X (.type "dict") (LC X.K rDictP) := by
  intro pins s σ H xs us Q I rx ⟨ts, S, Q0, r, hs, q, im⟩
  match ts, q with
  | [.pt ts], ⟨ks, e, nd, q⟩ =>
    subst e
    obtain ⟨v, rfl, r1⟩ := r.one
    cases r1 with
    | @pt a ob vs _ plain ha hr =>
      obtain ⟨ps, rfl, pr⟩ := prI_of hr
      refine c_dictPT hc pins s σ H _ us Q I rx ⟨a, ps, _, rfl, ⟨ob, plain, ha⟩, pr, fun p hp => ?_⟩
      have nd2 : (List.map (fun x : Key × V => x.1) ([] ++ ks.map fun e : Int × Int => ((Sum.inl e.1 : Key), V.int e.2))).Nodup := by
        rw [List.nil_append, List.map_map]
        have e : ((fun x : Key × V => x.1) ∘ fun e : Int × Int => ((Sum.inl e.1 : Key), V.int e.2)) = (Sum.inl ∘ fun e : Int × Int => e.1) := rfl
        rw [e, ← List.map_map]
        exact List.Pairwise.map _ (fun a b h e => h (Sum.inl.inj e)) nd
      rw [mergeK_app _ [] nd2, List.nil_append]
      obtain ⟨e3, s3⟩ := hs.newO (u' := .dK (ks.map fun e : Int × Int => ((Sum.inl e.1 : Key), V.int e.2))) (o' := .dct (ks.map entI)) hp fun ex => ⟨_, upd_same, entI_of ks⟩
      exact im _ _ (q p (hs.free hp)) _ _ e3 s3 (.ref p)
end
/-! equal data: of bools and plain tuples, too -/
mutual
def okT : T → Bool
  | .str x => PyData.strOk x
  | .tup ts => okTs ts
  | .fl ts => okTs ts
  | .pt ts => okTs ts
  | .ref _ => false
  | _ => true
def okTs : List T → Bool
  | [] => true
  | t :: ts => okT t && okTs ts
end
mutual
def dqT : T → Nat
  | .tup ts => dqTs ts + 1
  | .fl ts => dqTs ts + 1
  | .pt ts => dqTs ts + 1
  | _ => 0
def dqTs : List T → Nat
  | [] => 0
  | t :: ts => max (dqT t) (dqTs ts)
end
mutual
theorem ok_toD : ∀ t : T, okT t = true → ∃ d, toD t = some d ∧ d.canLay0 = true ∧ d.depth ≤ dqT t + 1 ∧ PyData.eqv d d = true
  | .non, _ => ⟨.none, by simp only [toD], by simp only [PyData.canLay0], by simp only [PyData.depth]; omega, by simp [PyData.eqv]⟩
  | .bl b, h => ⟨.bool b, by simp only [toD], by simp only [PyData.canLay0], by simp only [PyData.depth]; omega, by simp [PyData.eqv]⟩
  | .int i, _ => ⟨.int i, by simp only [toD], by simp only [PyData.canLay0], by simp only [PyData.depth]; omega, by simp [PyData.eqv]⟩
  | .str x, h => ⟨.str x, by simp only [toD], by simp only [PyData.canLay0]; simpa only [okT] using h, by simp only [PyData.depth]; omega, by simp [PyData.eqv]⟩
  | .tup ts, h => by
    obtain ⟨ds, e1, e2, e3, e4⟩ := ok_toDs ts (by simpa only [okT] using h)
    exact ⟨.tuple ds, by simp only [toD, e1, Option.map_some], by simpa only [PyData.canLay0] using e2, by simp only [PyData.depth, dqT]; omega, by simpa only [PyData.eqv] using e4⟩
  | .fl ts, h => by
    obtain ⟨ds, e1, e2, e3, e4⟩ := ok_toDs ts (by simpa only [okT] using h)
    exact ⟨.list ds, by simp only [toD, e1, Option.map_some], by simpa only [PyData.canLay0] using e2, by simp only [PyData.depth, dqT]; omega, by simpa only [PyData.eqv] using e4⟩
  | .pt ts, h => by
    obtain ⟨ds, e1, e2, e3, e4⟩ := ok_toDs ts (by simpa only [okT] using h)
    exact ⟨.tuple ds, by simp only [toD, e1, Option.map_some], by simpa only [PyData.canLay0] using e2, by simp only [PyData.depth, dqT]; omega, by simpa only [PyData.eqv] using e4⟩
  | .ref _, h => by simp [okT] at h
theorem ok_toDs : ∀ ts : List T, okTs ts = true → ∃ ds, toDs ts = some ds ∧ PyData.canLayAll0 ds = true ∧ PyData.depthAll ds ≤ dqTs ts + 1 ∧ PyData.eqvAll ds ds = true
  | [], _ => ⟨[], by simp only [toDs], by simp only [PyData.canLayAll0], by simp only [PyData.depthAll]; omega, by simp [PyData.eqvAll]⟩
  | t :: ts, h => by
    simp only [okTs, Bool.and_eq_true] at h
    obtain ⟨d, e1, e2, e3, e4⟩ := ok_toD t h.1
    obtain ⟨ds, g1, g2, g3, g4⟩ := ok_toDs ts h.2
    exact ⟨d :: ds, by simp only [toDs, e1, g1], by simp only [PyData.canLayAll0, e2, g2, Bool.and_self], by simp only [PyData.depthAll, dqTs]; omega, by simp only [PyData.eqvAll, e4, g4, Bool.and_self]⟩
end
theorem rEq_okS {neg : Bool} {x y : T} {S : Sta} {Q : T → Sta → Prop} {z : T} (ex : see S x = z) (ey : see S y = z) (hz : okT z = true) (dz : dqT z ≤ 60) (h : Q (.bl (!neg)) S) : rEq neg x y S Q := by
  obtain ⟨d, a1, a2, a3, a4⟩ := ok_toD _ hz
  have sh : SeqAt.shaped d = true := by unfold SeqAt.shaped; rw [a2, Bool.true_and]; exact decide_eq_true (by omega)
  refine ⟨d, by rw [dd_see, ex]; exact a1, d, by rw [dd_see, ey]; exact a1, sh, sh, ?_⟩
  rw [a4]
  cases neg <;> exact h
theorem rEq2_okS {neg : Bool} {x y : T} {S : Sta} {Q : T → Sta → Prop} {z : T} (ex : see2 S x = z) (ey : see2 S y = z) (hz : okT z = true) (dz : dqT z ≤ 60) (h : Q (.bl (!neg)) S) : rEq2 neg x y S Q := by
  obtain ⟨d, a1, a2, a3, a4⟩ := ok_toD _ hz
  have sh : SeqAt.shaped d = true := by unfold SeqAt.shaped; rw [a2, Bool.true_and]; exact decide_eq_true (by omega)
  refine ⟨d, by rw [ex]; exact a1, d, by rw [ey]; exact a1, sh, sh, ?_⟩
  rw [a4]
  cases neg <;> exact h
/-! range with a step -/
def rangeC (lo c : Int) (n : Nat) : List T := (List.range n).map fun (i : Nat) => T.int (lo + (i : Int) * c)
theorem rangeC_yields {K : PySem.W.Frag} {H : Hp} (lo c : Int) (n : Nat) : Yields K (rangeC lo c n) (fun _ => True) H (Itc lo c n) := fun i S H1 e1 s1 _ => by
  have hl : (rangeC lo c n).length = n := by unfold rangeC; rw [List.length_map, List.length_range]
  refine ⟨fun hi => by rw [hl] at hi; exact hi, fun hi => by rw [hl] at hi; exact hi, fun x H' y hi => ?_⟩
  obtain ⟨eH, ex⟩ := y
  subst eH ex
  rw [hl] at hi
  refine ⟨Ext.refl _, s1, fun _ _ q => q, .int (lo + (i : Int) * c), ?_, .int _⟩
  unfold rangeC
  rw [List.getElem?_map, List.getElem?_range hi]
  rfl
def iRg3 (ta : WA) (σ : Sl) (S : Sta) (R : List T → (Sta → Prop) → Sta → Prop) : Prop := ta σ S fun xs S1 => match xs with
  | [.int i, .int j, .int c] => (0 ≤ i ∧ i < j ∧ j < 2 ^ 30 ∧ 0 < c ∧ c < 2 ^ 30) ∧ R (rangeC i c ((j - i - 1) / c + 1).toNat) (fun _ => True) S1
  | _ => False
theorem rgC_of {i j c : Int} (h : 0 ≤ i ∧ i < j ∧ j < 2 ^ 30 ∧ 0 < c ∧ c < 2 ^ 30) : RgC i j c ((j - i - 1) / c + 1).toNat := by
  obtain ⟨h0, h1, h2, h3, h4⟩ := h
  have e : Builtin.Range.rangeSize i j c = (j - i - 1) / c + 1 := by
    unfold Builtin.Range.rangeSize
    rw [if_pos h3, if_pos h1]
  have d0 : 0 ≤ (j - i - 1) / c := Int.ediv_nonneg (by omega) (by omega)
  have d1 : (j - i - 1) / c ≤ j - i - 1 := Int.ediv_le_self _ (by omega)
  refine ⟨by omega, by omega, ?_, by rw [e]; omega⟩
  unfold Builtin.Range.small
  rw [e, if_pos h3]
  simp only [Builtin.Range.rangeFitsLong, Bool.and_eq_true, Bool.or_eq_true, decide_eq_true_eq, beq_iff_eq]
  omega
theorem ji_rg3 {B : Hp} {X : Cx} {tg a b c : Expr} {ta : WA} {p pos : Pos} (hg : Gl X "range") (hm : X.mg "range" = none) (ha : JA B X [a, b, c] ta) (hs : starEach [a, b, c] X.env = (false, eval a X.env) :: starEach [b, c] X.env := by rfl) (hs2 : ((backTo pos (starEach [b, c] X.env)).any fun x => x.fst) = false := by rfl) : JI B X tg (.Call (.Name "range" p) [a, b, c] [] pos) (iRg3 ta) :=
  pi_imp (pi_range3 hg hm ha hs hs2) fun σ H R ⟨st, S, Q0, he, hr, hs, h, im⟩ => by
    refine ⟨st, S, _, he, hr, hs, h, fun xs S1 h1 H1 v1 e1 s1 r1 => ?_⟩
    match xs, h1 with
    | [.int i, .int j, .int c], h1 =>
      cases r1 with
      | cons a1 r1 =>
      cases r1 with
      | cons a2 r1 =>
      cases r1 with
      | cons a3 r1 =>
      cases r1
      cases a1
      cases a2
      cases a3
      exact ⟨i, j, c, _, rfl, rgC_of h1.1, im _ _ _ h1.2 H1 e1 s1 _ (rangeC_yields i c _)⟩
/-! x += y over whole numbers -/
def rAddI (x y : T) (S : Sta) (Q : T → Sta → Prop) : Prop := match x, y with
  | .int i, .int j => Q (.int (i + j)) S
  | _, _ => False
theorem io_add {X : Cx} : OpT X (inplaceOp .Add) rAddI := by
  intro pins s σ H x y v u Q I rx ry ⟨a, b, S, Q0, ra, rb, hs, q, im⟩
  match a, b, q with
  | .int i, .int j, q =>
    cases ra
    cases rb
    exact iop_add pins s σ H _ _ v u Q I rx ry ⟨i, j, rfl, rfl, im _ _ q H _ (Ext.refl H) hs (.int _)⟩
/-! xs.extend(t) of a tuple -/
theorem mt_extT {X : Cx} : MtR X "list.extend" (fun x vs H Q => ∃ (l b : Addr) (xs zs : List V), x = .ref l ∧ vs = [.ref b] ∧ H l = some (.lst xs) ∧ SqT X.K H b zs ∧ xs.length + zs.length ≤ sizeLine ∧ Q .non (upd H l (.lst (xs ++ zs)))) := fun pins s σ H x vs v us Q I rx rxs ⟨l, b, xs, zs, ex, evs, hl, hb, hz, q⟩ => by
  subst ex evs
  obtain rfl : v = Value.ref l := rx
  obtain rfl := Vals.ref1 rxs
  obtain ⟨_, its, n, vals, len, lay⟩ := I.lstM hl
  obtain ⟨its2, vals2, ⟨o2, ho2, cls2, n2, dat2⟩, _⟩ := I.tuple hb
  have l1 := vals.length
  have l2 := vals2.length
  refine wpAny_call_entry PySem.F.slot_list_extend ⟨_, lay, rfl⟩ PySem.F.entry_list_extend ?_ (PySem.F.args_list_extend_2 _ _)
  unfold Builtin.«list.extend» selfAndOne
  refine wpAny_bind ?_
  refine wpAny_pure ?_
  show wpAny _ _ (Builtin.List.listExtendWith (.ref l) (.ref b) .none) _ _ _
  unfold Builtin.List.listExtendWith
  refine wpAny_bind ?_
  refine wpAny_typeOf (T := "tuple") ⟨o2, ho2, cls2⟩ ?_
  rw [if_pos (by simp)]
  refine wpAny_bind ?_
  refine listItems_at ho2 dat2 ?_
  refine wpAny_bind ?_
  refine listItems_at lay rfl ?_
  rw [if_neg (extend_door (by simp; omega))]
  refine wpAny_bind ?_
  refine listUpdate_at lay rfl ?_ (by simp; omega) (by simp; omega)
  refine wpAny_pure ?_
  refine ⟨.none, rfl, .non, upd H l (.lst (xs ++ zs)), ?_, rfl, q⟩
  refine I.lstUpd (its' := its ++ its2) (n' := if its2 = [] then n else n + 1) hl lay ?_ (Vals.append vals vals2) (by rw [List.length_append]; exact hz) _
  by_cases e0 : its2 = []
  · simp [Obj.mapSeq, e0]
  · simp [Obj.mapSeq, e0]
def rExtT (x : Wp.T) (ts : List Wp.T) (S : Sta) (Q : Wp.T → Sta → Prop) : Prop := match x, ts with
  | .ref p, [.tup ys] => ∃ xs, S p = some (.lst xs) ∧ xs.length + ys.length ≤ sizeLine ∧ Q .non (upS S p (.lst (xs ++ ys)))
  | _, _ => False
theorem m_extT {X : Cx} : MtR X "list.extend" (LM X.K rExtT) := by
  intro pins s σ H x xs v us Q I rx rxs ⟨t, ts, S, Q0, rt, rts, hs, q, im⟩
  match t, ts, q with
  | .ref p, [.tup ws], ⟨zs, e, hl, q⟩ =>
    cases rt
    obtain ⟨w, rfl, rw'⟩ := rts.one
    cases rw' with
    | tup h1 h2 =>
      obtain ⟨ys, g1, g2⟩ := hs p _ e
      obtain ⟨e2, s2⟩ := hs.setL g1 (Reps.append g2 h2)
      exact mt_extT pins s σ H _ _ v us Q I rx rxs ⟨p, _, ys, _, rfl, rfl, g1, sqT_of h1, by rw [← g2.length, ← h2.length]; exact hl, im _ _ q _ _ e2 s2 .non⟩
/-! the truth of a whole number -/
def wTestI (t : WE) (σ : Sl) (S : Sta) (Q : Bool → Sta → Prop) : Prop := t σ S fun x S1 => match x with
  | .bl c => Q c S1
  | .int i => Q (i != 0) S1
  | _ => False
theorem jt_valI {B : Hp} {X : Cx} {e : Expr} {t : WE} (h : JE B X e t) (he : ∀ whole, isTrue e X.env whole = (do let v ← whole; standAt e.pos; holding [v] (truthy v)) := by intro _; rfl) : JT B X e (wTestI t) :=
  pt_imp (pt_truth h he) fun σ H Q ⟨st, S, Q0, he, hr, hs, h, im⟩ => by
    refine ⟨st, S, _, he, hr, hs, h, fun x S1 h1 H1 v e1 s1 r1 => ?_⟩
    cases x with
    | bl c =>
      cases r1
      exact ⟨c, rfl, im _ _ h1 H1 e1 s1⟩
    | int i =>
      cases r1
      exact ⟨i != 0, rfl, im _ _ h1 H1 e1 s1⟩
    | _ => exact h1.elim
end Wp

set_option Elab.async false
set_option linter.all false
set_option maxRecDepth 100000
set_option maxHeartbeats 4000000
/-! x in a list of data of any depth -/
namespace Wp
open PySem PySem.Spec PyProof.Rows L2
theorem hu65 {k : Nat} {A : Around} (h : Room k A) : A.units + 65 < cLine := by have := h.un; omega
section
variable {X : Cx}
def rInDt (neg : Bool) (x : T) (y : T) (S : Sta) (Q : T → Sta → Prop) : Prop := ∃ d ds, toD (see S x) = some d ∧ toD (see S y) = some (.list ds) ∧ SeqAt.shaped d = true ∧ SeqAt.shaped (.list ds) = true ∧ Q (.bl (neg != ds.any fun z => PyData.eqv z d)) S
theorem o_inDt (hu : X.A.units + 65 < cLine) : OpT X (compareOp .In) (rInDt false) := by
  intro pins s σ H x y v u Q I rx ry ⟨a, b, S, Q0, ra, rb, hs, ⟨d, ds, h1, h2, h3, h4, q⟩, im⟩
  refine op_inD hu pins s σ H _ _ v u Q I rx ry ⟨d, ds, dd_dp hs ra (by rw [dd_see]; exact h1), dd_dp hs rb (by rw [dd_see]; exact h2), h3, h4, ?_⟩
  rw [Bool.false_bne] at q
  exact im _ _ q H _ (Ext.refl H) hs (.bl _)
theorem o_notInDt (hu : X.A.units + 65 < cLine) : OpT X (compareOp .NotIn) (rInDt true) := by
  intro pins s σ H x y v u Q I rx ry ⟨a, b, S, Q0, ra, rb, hs, ⟨d, ds, h1, h2, h3, h4, q⟩, im⟩
  refine op_notInD hu pins s σ H _ _ v u Q I rx ry ⟨d, ds, dd_dp hs ra (by rw [dd_see]; exact h1), dd_dp hs rb (by rw [dd_see]; exact h2), h3, h4, ?_⟩
  rw [Bool.true_bne] at q
  exact im _ _ q H _ (Ext.refl H) hs (.bl _)
end
/-- whether it is there or not -/
theorem rInDt_any {neg : Bool} {x y : T} {ts : List T} {S : Sta} {Q : T → Sta → Prop} (ey : see S y = .fl ts) (hx : okT (see S x) = true) (hy : okTs ts = true) (dx : dqT (see S x) ≤ 50) (dy : dqTs ts ≤ 50) (h : ∀ b, Q (.bl b) S) : rInDt neg x y S Q := by
  obtain ⟨d, a1, a2, a3, a4⟩ := ok_toD _ hx
  obtain ⟨ds, b1, b2, b3, b4⟩ := ok_toDs _ hy
  refine ⟨d, ds, a1, by rw [ey]; simp only [toD, b1, Option.map_some], ?_, ?_, h _⟩
  · unfold SeqAt.shaped; rw [a2, Bool.true_and]; exact decide_eq_true (by omega)
  · unfold SeqAt.shaped
    rw [show (PyData.list ds).canLay0 = true by simp only [PyData.canLay0]; exact b2, Bool.true_and]
    refine decide_eq_true ?_
    simp only [PyData.depth]
    omega
end Wp

set_option Elab.async false
set_option linter.all false
set_option maxRecDepth 100000
set_option maxHeartbeats 4000000
/-! sorted(d) of a dict of whole numbers, of any size -/
namespace Wp
open PySem PySem.Calls PySem.Spec PyProof.Rows L2
theorem ints_of : ∀ (us : List Value) (ks : List Int), us.length = ks.length → (∀ (j : Nat) v, us[j]? = some v → ∃ i t, ks[j]? = some i ∧ v = Value.int i t) → IntsAre us ks
  | [], [], _, _ => .nil
  | [], _ :: _, h, _ => by simp at h
  | _ :: _, [], h, _ => by simp at h
  | u :: us, k :: ks, h, g => by
    obtain ⟨i, t, a, rfl⟩ := g 0 u rfl
    obtain rfl : k = i := Option.some.inj a
    exact .cons k t (ints_of us ks (Nat.succ.inj h) fun j v e => g (j + 1) v e)
/-- what was collected: the keys -/
theorem keys_ints {P : Program} {w : World} {acc : Array Value} {vs : List (Key × Value)} {ks : List Int} (h : vs.map (·.1) = ks.map Sum.inl) (it : ItemsOf (fun i v => ∃ k x, vs[i]? = some (k, x) ∧ (mixKind P w).is k v = true) acc vs.length) : IntsAre acc.toList ks := by
  have lk : vs.length = ks.length := by have := congrArg List.length h; rwa [List.length_map, List.length_map] at this
  refine ints_of _ _ (by rw [Array.length_toList, it.1, lk]) fun j v e => ?_
  obtain ⟨k, x, e1, e2⟩ := it.2 j v (by rw [← Array.getElem?_toList]; exact e)
  have e3 : (vs.map (·.1))[j]? = some k := by rw [List.getElem?_map, e1]; rfl
  rw [h, List.getElem?_map] at e3
  cases hk : ks[j]? with
  | none => rw [hk] at e3; cases e3
  | some i =>
    rw [hk] at e3
    obtain rfl : Sum.inl i = k := Option.some.inj e3
    rcases keyIs_shape (k := Sum.inl i) e2 with ⟨i', t, a1, a2⟩ | ⟨x, t, a1, a2⟩
    · exact ⟨i, t, rfl, by rw [a2, Sum.inl.inj a1]⟩
    · exact nomatch a1
/-- the items of a source, gathered into a heap that has grown -/
theorem gather {prog : Program} {w : World} {A : Around} {E : Value → Shared → Prop} {s : Shared} {T : String} {r d : Addr} {n : Nat} {P : Nat → Value → Prop} {OK : Heap → Prop} {R : List Value → Shared → Prop}
    (K : W.KdlSrc prog w T r d n P OK) (hh : A.handled = none) (hok : OK s.heap) (few : n ≤ sizeLine)
    (h : ∀ (g : Heap) (tk : Nat) (acc : Array Value), (∀ b o, s.heap.get? b = some o → g.get? b = some o) → s.heap.objs.size < g.objs.size → ItemsOf P acc n → R acc.toList { s with heap := g, toks := tk }) :
    wpAny (model prog w) A (collect (.ref r)) R E s := by
  let D := fun (q : Result) (s' : Shared) => ∃ (g : Heap) (tk : Nat) (acc : Array Value) (c : Nat), q = .ok (.ret (.ref s.heap.objs.size)) ∧ s' = { s with heap := g, toks := tk } ∧
    (∀ b o, s.heap.get? b = some o → g.get? b = some o) ∧ g.get? s.heap.objs.size = some { cls := .type "list", dict := none, data := .seq acc c, slots := #[] } ∧ ItemsOf P acc n
  have mid := W.kdl_extend (A := A) (s := { s with heap := s.heap.push { cls := .type "list", data := .seq ([] : List Value).toArray } }) (R := D)
    K hh (K.keep _ _ hok fun b _ o e => Heap.get?_push_of_some _ e) s.heap.objs.size (Nat.ne_of_gt (K.there _ hok).1) (Nat.ne_of_gt (K.there _ hok).2) (.ref s.heap.objs.size) 0 (Heap.get?_push_size _ rfl)
    (fun g tk acc c old at' it => ⟨g, tk, acc, c, rfl, rfl, fun b o e => old b o (Nat.ne_of_lt (Heap.lt_size e)) (Heap.get?_push_of_some _ e), at', it⟩) few
  have out : ∀ (g : Heap) (tk : Nat) (acc : Array Value) (c : Nat), (∀ b o, s.heap.get? b = some o → g.get? b = some o) → g.get? s.heap.objs.size = some { cls := .type "list", dict := none, data := .seq acc c, slots := #[] } → ItemsOf P acc n → R acc.toList { s with heap := g, toks := tk } :=
    fun g tk acc c old at' it => h g tk acc old (Heap.lt_size at') it
  unfold collect
  refine wpAny_bind (wpAny_runValue (codeAny_builtin entry_proto_collect' ?_))
  rw [Around.under_plainId PySem.F.plain_proto_collect _]
  refine wpAny_bind (wpAny_newObj_type (wpAny_pure ⟨plainId_quiet PySem.F.plain_list_iadd _, codeAny_builtin entry_list_iadd' ?_⟩))
  rw [Around.under_plainId PySem.F.plain_list_iadd _]
  refine wpAny_mono mid (fun f s' x => ?_) fun e s' x => ?_
  · cases f with
    | done f =>
      obtain ⟨g, tk, acc, c, e, rfl, old, at', it⟩ := x
      cases e
      exact wpAny_bind (wpAny_load at' (wpAny_pure (out g tk acc c old at' it)))
    | again c =>
      refine ⟨x.1, codeAny_mono x.2 fun q s₂ y => ?_⟩
      obtain ⟨g, tk, acc, c, rfl, rfl, old, at', it⟩ := y
      exact wpAny_bind (wpAny_load at' (wpAny_pure (out g tk acc c old at' it)))
  · obtain ⟨_, _, _, _, e', _⟩ := x
    cases e'
theorem c_sortDK {X : Cx} (hc : X.calm = true) : CallR X (.builtin "sorted") (fun us H Q => ∃ (a : Addr) (ks : List Int) (xs : List (Key × V)), us = [.ref a] ∧ Rd H a (.dK xs) ∧ xs.map (·.1) = ks.map Sum.inl ∧ ∀ (ys : List Int) (p : Addr), ys.Perm ks → ys.Pairwise (· ≤ ·) → H p = none → Q (.ref p) (upd H p (.lst (ys.map V.int)))) := fun pins s σ H us vs' Q I r ⟨a, ks, xs, ex, ha, ek, q⟩ => by
  subst ex
  obtain rfl := Vals.ref1 r
  obtain ⟨short, top, vs, rel, o, es, ep, ho, hx, hdat, hk, hP, nd⟩ := dk_rd I.hok ha
  have ev : vs.map (·.1) = ks.map Sum.inl := by rw [← ek]; exact (KV.keys rel).symm
  have lv : vs.length = xs.length := by have := congrArg List.length (KV.keys rel); rw [List.length_map, List.length_map] at this; exact this.symm
  have lk : ks.length = xs.length := by have := congrArg List.length ek; rw [List.length_map, List.length_map] at this; exact this.symm
  refine Calls.call_function_entry (id := "sorted") rfl rfl PyProof.Rows.entry_sorted (by rfl) ?_
  unfold Builtin.sorted
  refine wpAny_bind ?_
  show wpAny _ _ (pure ()) _ _ _
  refine wpAny_pure ?_
  refine wpAny_bind ?_
  refine gather (W.kdl_dict (kvs := vs) (ep := ep) top) (I.ok.hd hc) ⟨o, es, ho, hx, hdat, hk, hP, nd⟩ (by omega) fun h1 tk acc keep big items => ?_
  have ia := keys_ints ev items
  have la : acc.toList.length ≤ sizeLine := by rw [Array.length_toList, items.1]; omega
  have grow1 : s.heap.objs.size ≤ h1.objs.size := Nat.le_of_lt big
  refine wpAny_bind ?_
  refine wpAny_newList ?_ la
  have below : ∀ {b : Addr} {o : Obj}, h1.get? b = some o → b ≠ h1.objs.size := fun q => Nat.ne_of_lt (Heap.lt_size q)
  obtain ⟨h2, e2⟩ : ∃ h2, h1.push { cls := .type "list", data := .seq acc.toList.toArray } = h2 := ⟨_, rfl⟩
  have lay : h2.get? h1.objs.size = some (seqObj "list" acc.toList.toArray 0) := by rw [← e2]; exact Heap.get?_push_size _ rfl
  have grown : ∀ {b : Addr} {o : Obj}, h1.get? b = some o → h2.get? b = some o := fun q => by rw [← e2]; exact Heap.get?_push_of_some _ q
  show wpAny _ _ _ _ _ { s with heap := h1.push { cls := .type "list", data := .seq acc.toList.toArray }, toks := tk }
  rw [e2]
  refine wpAny_bind (wpAny_holding ?_)
  refine wpAny_call_entry PyProof.Rows.slot_list_sort ⟨_, lay, rfl⟩ PyProof.Rows.entry_list_sort
    (SrtO.list_sort_ord (s := { s with heap := h2, toks := tk }) SrtO.swo_int lay la (fun two => SrtO.ints_sortable ia two) fun out srt stb => ⟨.none, rfl, ?_⟩) (PyProof.Rows.args_list_sort _)
  obtain ⟨k1, k2, k3⟩ := SrtO.ints_out ia srt stb
  obtain ⟨c, he'⟩ := PyProof.Rows.sortedHeap_at (vs := acc.toList) (out := out.toArray) lay
  have kept : ∀ {b : Addr} {o : Obj}, h1.get? b = some o → (sortedHeap h2 h1.objs.size acc.toList out.toArray).get? b = some o := fun q => (PyProof.Rows.sortedHeap_old (below q) (Heap.lt_size (grown q))).trans (grown q)
  have hlen : ((out.map SrtO.iv).map V.int).length ≤ sizeLine := by
    rw [List.length_map, k2.length_eq]
    omega
  refine wpAny_pure ?_
  exact ⟨.ref _, rfl, .ref _, upd H h1.objs.size (.lst ((out.map SrtO.iv).map V.int)), I.laid (t' := tk) (fun b o q => kept (keep b o q)) grow1 ⟨hlen, out, c, vals_of_ints k1, he'⟩, rfl, q _ _ k2 k3 (I.hok.fresh grow1)⟩
/-- sorted(d), keys that are ints, any number of them -/
def rSortDA (xs : List T) (S : Sta) (Q : T → Sta → Prop) : Prop := match xs with
  | [.ref p] => ∃ (kvs : List (Key × T)) (ks : List Int), S p = some (.dct kvs) ∧ kvs.map (·.1) = ks.map Sum.inl ∧ ∀ (ys : List Int) (q : Addr), ys.Perm ks → ys.Pairwise (· ≤ ·) → S q = none → Q (.ref q) (upS S q (.lst (ys.map T.int)))
  | _ => False
theorem c_sortDA {X : Cx} (hc : X.calm = true) : CallR X (.builtin "sorted") (LC X.K rSortDA) := by
  intro pins s σ H xs us Q I rx ⟨ts, S, Q0, r, hs, q, im⟩
  match ts, q with
  | [.ref p], ⟨kvs, ks, e, ek, q⟩ =>
    obtain ⟨v, rfl, r1⟩ := r.one
    cases r1
    obtain ⟨vs, g1, g2⟩ := hs p _ e
    refine c_sortDK hc pins s σ H _ us Q I rx ⟨p, ks, vs, rfl, .inl g1, by rw [← g2.keys]; exact ek, fun ys l h1 h2 h3 => ?_⟩
    obtain ⟨e3, s3⟩ := hs.newL h3 (Reps.ints (K := X.K) ys)
    exact im _ _ (q ys l h1 h2 (hs.free h3)) _ _ e3 s3 (.ref l)
end Wp

set_option Elab.async false
set_option linter.all false
set_option maxRecDepth 100000
set_option maxHeartbeats 4000000
/-! what an End keeps, as a value, and what its methods do to it -/
namespace My
open PySem PySem.Spec PyProof.Rows L2 Wp
abbrev Bs := List (Int × Int)
def srtd (l : Bs) : Prop := l.Pairwise fun e f => e.1 < f.1
/-- a new key, in its place -/
def insA (k v : Int) : Bs → Bs
  | [] => [(k, v)]
  | e :: r => if k < e.1 then (k, v) :: e :: r else if e.1 = k then e :: r else e :: insA k v r
def keep1 (g : Int) (l : Bs) (k v : Int) : Bs := if g ≤ k then insA k v l else l
def keepA (g : Int) : Bs → Int → List Int → Bs
  | l, _, [] => l
  | l, o, b :: d => keepA g (keep1 g l o b) (o + 1) d
def drain : Int → Bs → List Int × Bs
  | _, [] => ([], [])
  | g, e :: r => if e.1 = g then (e.2 :: (drain (g + 1) r).1, (drain (g + 1) r).2) else ([], e :: r)
structure EM where
  base : Int
  pend : List Int
  closed : Int
  given : Int
  got : Int
  ended : Int
  ahead : Bs
  fin : Option Int
def EM.new : EM := ⟨0, [], 0, 0, 0, 0, [], none⟩
def EM.known (m : EM) (t : Int) : Int := max m.base (min t (m.base + m.pend.length))
def EM.learn (m : EM) (t : Int) : EM := { m with base := m.known t, pend := m.pend.drop (m.known t - m.base).toNat, given := if m.closed ≠ 0 ∧ m.base + m.pend.length < t then 1 else m.given }
def EM.keep (m : EM) (o : Int) (d : List Int) : EM := { m with ahead := keepA m.got m.ahead o d }
def EM.finI (m : EM) (o : Int) (d : List Int) (l : Int) : EM := { m with fin := if l = 1 then some (o + d.length) else m.fin }
def EM.order (m : EM) : EM := { m with ahead := (drain m.got m.ahead).2, got := m.got + (drain m.got m.ahead).1.length }
def EM.fresh (m : EM) : List Int := (drain m.got m.ahead).1
def EM.endI (m : EM) : EM := { m with ended := if m.fin = some m.got then 1 else m.ended }
def EM.mid (m : EM) (o : Int) (d : List Int) (l t : Int) : EM := ((m.learn t).keep o d).finI o d l
def EM.take (m : EM) (o : Int) (d : List Int) (l t : Int) : EM := (m.mid o d l t).order.endI
def EM.out (m : EM) (o : Int) (d : List Int) (l t : Int) : List Int := (m.mid o d l t).fresh
def EM.write (m : EM) (d : List Int) : EM := if m.closed = 0 then { m with pend := m.pend ++ d } else m
def EM.close (m : EM) : EM := { m with closed := 1 }
def EM.taken (m : EM) : Int := m.got + m.ended
structure Seg where
  o : Int
  d : List Int
  l : Int
  t : Int
def Seg.tr (s : Seg) : T := .tup [.int s.o, .tup (s.d.map T.int), .int s.l, .int s.t]
def EM.segAt (m : EM) (i : Nat) : Seg := ⟨m.base + 8 * (i : Int), ((m.pend.take 32).drop (8 * i)).take 8, if 8 * i + (((m.pend.take 32).drop (8 * i)).take 8).length = m.pend.length then m.closed else 0, m.taken⟩
def EM.due (m : EM) : List Seg := if m.pend = [] then [⟨m.base, [], m.closed, m.taken⟩] else (List.range (((m.pend.take 32).length + 7) / 8)).map m.segAt
def finT : Option Int → T
  | none => .non
  | some k => .int k
def EM.pic (m : EM) : T := .tup [.int m.base, .tup (m.pend.map T.int), .int m.closed, .int m.given, .int m.got, .int m.ended, .pt (m.ahead.map prI), finT m.fin]
/-- what always is -/
structure WF (m : EM) : Prop where
  s : srtd m.ahead
  g : ∀ e ∈ m.ahead, m.got ≤ e.1
  n : m.ahead.length ≤ 100000
  p : m.pend.length ≤ 100000
/-! ### sorted rows -/
theorem srtd.keys {l : Bs} (h : srtd l) : (l.map (·.1)).Nodup := by
  unfold srtd at h
  rw [List.Nodup, List.pairwise_map]
  exact h.imp fun q e => by omega
theorem insA_mem {k v : Int} {e : Int × Int} : ∀ {l : Bs}, e ∈ insA k v l → e = (k, v) ∨ e ∈ l
  | [], h => by simp only [insA, List.mem_singleton] at h; exact .inl h
  | f :: r, h => by
    unfold insA at h
    split at h
    · rcases List.mem_cons.mp h with q | q
      · exact .inl q
      · exact .inr q
    · split at h
      · exact .inr h
      · rcases List.mem_cons.mp h with q | q
        · exact .inr (q ▸ List.mem_cons_self ..)
        · rcases insA_mem q with q | q
          · exact .inl q
          · exact .inr (List.mem_cons_of_mem _ q)
theorem insA_srtd {k v : Int} : ∀ {l : Bs}, srtd l → srtd (insA k v l)
  | [], _ => List.pairwise_singleton ..
  | f :: r, h => by
    have hc := List.pairwise_cons.mp h
    unfold insA
    split
    · rename_i q
      refine List.pairwise_cons.mpr ⟨fun e he => ?_, h⟩
      rcases List.mem_cons.mp he with z | z
      · rw [z]; exact q
      · exact Int.lt_trans q (hc.1 e z)
    · split
      · exact h
      · rename_i q1 q2
        refine List.pairwise_cons.mpr ⟨fun e he => ?_, insA_srtd hc.2⟩
        rcases insA_mem he with z | z
        · rw [z]; show f.1 < k; omega
        · exact hc.1 e z
theorem insA_there {k v : Int} : ∀ {l : Bs}, srtd l → (∃ e ∈ l, e.1 = k) → insA k v l = l
  | [], _, ⟨e, he, _⟩ => by cases he
  | f :: r, h, ⟨e, he, ek⟩ => by
    have hc := List.pairwise_cons.mp h
    unfold insA
    rcases List.mem_cons.mp he with z | z
    · rw [if_neg (by rw [← z]; omega), if_pos (by rw [← z]; exact ek)]
    · have := hc.1 e z
      rw [if_neg (by omega), if_neg (by omega), insA_there hc.2 ⟨e, z, ek⟩]
theorem insA_perm {k v : Int} : ∀ {l : Bs}, (∀ e ∈ l, e.1 ≠ k) → (insA k v l).Perm ((k, v) :: l)
  | [], _ => .refl _
  | f :: r, h => by
    unfold insA
    split
    · exact .refl _
    · rw [if_neg (h f (List.mem_cons_self ..))]
      exact ((insA_perm fun e he => h e (List.mem_cons_of_mem _ he)).cons f).trans (List.Perm.swap ..)
theorem insA_len {k v : Int} (l : Bs) : (insA k v l).length ≤ l.length + 1 := by
  induction l with
  | nil => exact Nat.le_refl _
  | cons f r ih =>
    unfold insA
    split
    · exact Nat.le_refl _
    · split
      · exact Nat.le_succ _
      · rw [List.length_cons, List.length_cons]; omega
theorem keep1_srtd {g : Int} {l : Bs} {k v : Int} (h : srtd l) : srtd (keep1 g l k v) := by
  unfold keep1; split
  · exact insA_srtd h
  · exact h
theorem keep1_ge {g : Int} {l : Bs} {k v : Int} (h : ∀ e ∈ l, g ≤ e.1) : ∀ e ∈ keep1 g l k v, g ≤ e.1 := by
  unfold keep1; split
  · rename_i q
    intro e he
    rcases insA_mem he with z | z
    · rw [z]; exact q
    · exact h e z
  · exact h
theorem keep1_len {g : Int} {l : Bs} {k v : Int} : (keep1 g l k v).length ≤ l.length + 1 := by
  unfold keep1; split
  · exact insA_len l
  · exact Nat.le_succ _
theorem keepA_srtd {g : Int} : ∀ (d : List Int) (l : Bs) (o : Int), srtd l → srtd (keepA g l o d)
  | [], _, _, h => h
  | b :: d, l, o, h => keepA_srtd d (keep1 g l o b) (o + 1) (keep1_srtd h)
theorem keepA_ge {g : Int} : ∀ (d : List Int) (l : Bs) (o : Int), (∀ e ∈ l, g ≤ e.1) → ∀ e ∈ keepA g l o d, g ≤ e.1
  | [], _, _, h => h
  | b :: d, l, o, h => keepA_ge d (keep1 g l o b) (o + 1) (keep1_ge h)
theorem keepA_len {g : Int} : ∀ (d : List Int) (l : Bs) (o : Int), (keepA g l o d).length ≤ l.length + d.length
  | [], _, _ => Nat.le_refl _
  | b :: d, l, o => by
    have h1 := keepA_len (g := g) d (keep1 g l o b) (o + 1)
    have h2 := keep1_len (g := g) (l := l) (k := o) (v := b)
    show (keepA g (keep1 g l o b) (o + 1) d).length ≤ _
    rw [List.length_cons]
    omega
theorem drain_parts : ∀ (l : Bs) (g : Int), srtd l → (∀ e ∈ l, g ≤ e.1) → srtd (drain g l).2 ∧ (∀ e ∈ (drain g l).2, g + (drain g l).1.length < e.1) ∧ (drain g l).2.length + (drain g l).1.length = l.length
  | [], g, _, _ => ⟨List.Pairwise.nil, fun e h => by simp [drain] at h, rfl⟩
  | f :: r, g, h, hg => by
    have hc := List.pairwise_cons.mp h
    unfold drain
    split
    · rename_i q
      obtain ⟨a, b, c⟩ := drain_parts r (g + 1) hc.2 fun e he => by have := hc.1 e he; omega
      refine ⟨a, fun e he => ?_, by simp only [List.length_cons]; omega⟩
      have := b e he
      simp only [List.length_cons]
      omega
    · rename_i q
      have := hg f (List.mem_cons_self ..)
      refine ⟨h, fun e he => ?_, rfl⟩
      simp only [List.length_nil]
      rcases List.mem_cons.mp he with z | z
      · rw [z]; omega
      · have := hc.1 e z; omega
/-! ### the dict that holds such rows, in any order -/
theorem ent_mem {ks : Bs} {k : Int} : (valT (ks.map entI) (.inl k)).isSome = true ↔ ∃ e ∈ ks, e.1 = k := by
  rw [valT_mem, List.map_map, List.mem_map]
  constructor
  · rintro ⟨e, he, q⟩; exact ⟨e, he, Sum.inl.inj q⟩
  · rintro ⟨e, he, q⟩; exact ⟨e, he, congrArg Sum.inl q⟩
theorem ent_not {ks : Bs} {k : Int} (h : ∀ e ∈ ks, e.1 ≠ k) : valT (ks.map entI) (.inl k) = none := by
  cases q : valT (ks.map entI) (.inl k) with
  | none => rfl
  | some v =>
    obtain ⟨e, he, ek⟩ := ent_mem.mp (by rw [q]; rfl)
    exact absurd ek (h e he)
theorem ent_val {k v : Int} : ∀ {ks : Bs}, (ks.map (·.1)).Nodup → (k, v) ∈ ks → valT (ks.map entI) (.inl k) = some (.int v)
  | [], _, h => by cases h
  | f :: r, nd, h => by
    rw [List.map_cons, List.nodup_cons] at nd
    show valT ((Sum.inl f.1, T.int f.2) :: r.map entI) _ = _
    rw [valT_cons]
    rcases List.mem_cons.mp h with z | z
    · rw [← z, if_pos rfl]
    · rw [if_neg (fun e => nd.1 (List.mem_map.mpr ⟨(k, v), z, (Sum.inl.inj e).symm⟩)), ent_val nd.2 z]
theorem ent_put {ks : Bs} {k v : Int} (h : ∀ e ∈ ks, e.1 ≠ k) : putT (ks.map entI) (.inl k) (.int v) = (ks ++ [(k, v)]).map entI := by
  unfold putT
  rw [if_neg, List.map_append]
  · rfl
  · rw [valT_any, ent_not h]
    decide
theorem ent_drop (ks : Bs) (k : Int) : dropT (ks.map entI) (.inl k) = (ks.filter fun e => decide (e.1 ≠ k)).map entI := by
  unfold dropT
  rw [List.filter_map]
  congr 1
  refine List.filter_congr fun e _ => ?_
  show decide ((Sum.inl e.1 : Key) ≠ Sum.inl k) = decide (e.1 ≠ k)
  exact decide_eq_decide.mpr ⟨fun h e => h (congrArg _ e), fun h e => h (Sum.inl.inj e)⟩
theorem perm_srt {ks l zs : Bs} (hl : srtd l) (h : ks.Perm l) (hz : zs.Perm ks) (hs : zs.Pairwise fun e f => e.1 ≤ f.1) : zs = l := by
  have p : zs.Perm l := hz.trans h
  have nd : (zs.map (·.1)).Nodup := (p.map (·.1)).nodup_iff.mpr hl.keys
  have s2 : zs.Pairwise fun e f => e.1 < f.1 := by
    rw [List.Nodup, List.pairwise_map] at nd
    exact (hs.and nd).imp fun ⟨a, b⟩ => by omega
  exact p.eq_of_pairwise (fun a b _ _ h1 h2 => absurd (Int.lt_trans h1 h2) (Int.lt_irrefl _)) s2 hl
end My

set_option Elab.async false
set_option linter.all false
set_option maxRecDepth 100000
set_option maxHeartbeats 4000000
/-! things that stand apart from each other -/
namespace My
open PySem PySem.Spec PyProof.Rows L2 Wp
/-- nothing but F may have changed; F' is of F and of new things -/
structure Frm (S S' : Sta) (F F' : List Addr) : Prop where
  k : ∀ x o, S x = some o → x ∉ F → S' x = some o
  n : ∀ x ∈ F', x ∈ F ∨ S x = none
theorem Frm.refl {S : Sta} {F : List Addr} : Frm S S F F := ⟨fun _ _ e _ => e, fun _ h => .inl h⟩
theorem Frm.trans {S S1 S2 : Sta} {F F1 F2 : List Addr} (f : Frm S S1 F F1) (g : Frm S1 S2 F1 F2) : Frm S S2 F F2 := by
  refine ⟨fun x o e nx => g.k x o (f.k x o e nx) fun h1 => ?_, fun x hx => ?_⟩
  · rcases f.n x h1 with h | h
    · exact nx h
    · rw [h] at e; cases e
  · cases e : S x with
    | none => exact .inr rfl
    | some o =>
      rcases g.n x hx with h | h
      · rcases f.n x h with h | h
        · exact .inl h
        · rw [h] at e; cases e
      · refine .inl (Classical.byContradiction fun nx => ?_)
        rw [f.k x o e nx] at h
        cases h
theorem Frm.of_gr {S S' : Sta} {F : List Addr} (g : Gr S S') : Frm S S' F F := ⟨fun x o e _ => g x o e, fun _ h => .inl h⟩
theorem Frm.of_new {S S' : Sta} {F F' : List Addr} (g : Gr S S') (n : ∀ x ∈ F', S x = none) : Frm S S' F F' := ⟨fun x o e _ => g x o e, fun x h => .inr (n x h)⟩
theorem Frm.up {S : Sta} {F : List Addr} {x : Addr} {o : O} (h : x ∈ F) : Frm S (upS S x o) F F := ⟨fun y u e ny => by rw [upS_ne fun z => ny (by rw [z]; exact h)]; exact e, fun _ h => .inl h⟩
structure It where
  F : List Addr
  P : Sta → Prop
structure It.ok (i : It) (S : Sta) : Prop where
  p : i.P S
  h : ∀ x ∈ i.F, ∃ o, S x = some o
  k : ∀ S', (∀ x o, S x = some o → x ∈ i.F → S' x = some o) → i.P S'
theorem It.ok.keep {i : It} {S S' : Sta} (h : i.ok S) (a : ∀ x o, S x = some o → x ∈ i.F → S' x = some o) : i.ok S' :=
  ⟨h.k S' a, fun x hx => by
    obtain ⟨o, e⟩ := h.h x hx
    exact ⟨o, a x o e hx⟩, fun S2 b => h.k S2 fun x o e hx => b x o (a x o e hx) hx⟩
structure Sep (S : Sta) (l : List It) : Prop where
  ok : ∀ (k : Nat) (i : It), l[k]? = some i → i.ok S
  ap : ∀ (j k : Nat) (i i' : It), j ≠ k → l[j]? = some i → l[k]? = some i' → ∀ x ∈ i.F, x ∉ i'.F
theorem Sep.gr {S S' : Sta} {l : List It} (h : Sep S l) (g : Gr S S') : Sep S' l := ⟨fun k i e => (h.ok k i e).keep fun x o e _ => g x o e, h.ap⟩
theorem Sep.set {S S' : Sta} {l : List It} (h : Sep S l) (k : Nat) {i i' : It} (e : l[k]? = some i) (f : Frm S S' i.F i'.F) (ok : i'.ok S') : Sep S' (l.set k i') := by
  have hk : k < l.length := (List.getElem?_eq_some_iff.mp e).1
  have old : ∀ (j : Nat) (u : It), (l.set k i')[j]? = some u → (j = k ∧ u = i') ∨ (j ≠ k ∧ l[j]? = some u) := fun j u hj => by
    by_cases q : j = k
    · subst q
      rw [List.getElem?_set_self hk] at hj
      exact .inl ⟨rfl, (Option.some.inj hj).symm⟩
    · rw [List.getElem?_set_ne (fun z => q z.symm)] at hj
      exact .inr ⟨q, hj⟩
  have far : ∀ (j : Nat) (u : It), j ≠ k → l[j]? = some u → ∀ x ∈ u.F, x ∉ i'.F := fun j u q hj x hx hi => by
    rcases f.n x hi with z | z
    · exact h.ap j k u i q hj e x hx z
    · obtain ⟨o, eo⟩ := (h.ok j u hj).h x hx
      rw [z] at eo; cases eo
  refine ⟨fun j u hj => ?_, fun j j2 u u2 hn hj hj2 x hx hx2 => ?_⟩
  · rcases old j u hj with ⟨rfl, rfl⟩ | ⟨q, hj⟩
    · exact ok
    · exact (h.ok j u hj).keep fun x o eo hx => f.k x o eo (h.ap j k u i q hj e x hx)
  · rcases old j u hj with ⟨q1, r1⟩ | ⟨q1, r1⟩
    · rcases old j2 u2 hj2 with ⟨q2, r2⟩ | ⟨q2, r2⟩
      · exact hn (q1.trans q2.symm)
      · exact far j2 u2 q2 r2 x hx2 (r1 ▸ hx)
    · rcases old j2 u2 hj2 with ⟨q2, r2⟩ | ⟨q2, r2⟩
      · exact far j u q1 r1 x hx (r2 ▸ hx2)
      · exact h.ap j j2 u u2 hn r1 r2 x hx hx2
theorem Sep.add {S S' : Sta} {l : List It} (h : Sep S l) (g : Gr S S') {i : It} (ok : i.ok S') (new : ∀ x ∈ i.F, S x = none) : Sep S' (l ++ [i]) := by
  have old : ∀ (j : Nat) (u : It), (l ++ [i])[j]? = some u → (j = l.length ∧ u = i) ∨ (j < l.length ∧ l[j]? = some u) := fun j u hj => by
    by_cases q : j < l.length
    · rw [List.getElem?_append_left q] at hj
      exact .inr ⟨q, hj⟩
    · rw [List.getElem?_append_right (by omega)] at hj
      have : j - l.length = 0 := by
        have := (List.getElem?_eq_some_iff.mp hj).1
        simp at this; omega
      rw [this] at hj
      exact .inl ⟨by omega, (Option.some.inj hj).symm⟩
  have far : ∀ (j : Nat) (u : It), l[j]? = some u → ∀ x ∈ u.F, x ∉ i.F := fun j u hj x hx hi => by
    obtain ⟨o, eo⟩ := (h.ok j u hj).h x hx
    rw [new x hi] at eo; cases eo
  refine ⟨fun j u hj => ?_, fun j j2 u u2 hn hj hj2 x hx hx2 => ?_⟩
  · rcases old j u hj with ⟨rfl, rfl⟩ | ⟨q, hj⟩
    · exact ok
    · exact (h.ok j u hj).keep fun x o eo _ => g x o eo
  · rcases old j u hj with ⟨q1, r1⟩ | ⟨q1, r1⟩
    · rcases old j2 u2 hj2 with ⟨q2, r2⟩ | ⟨q2, r2⟩
      · exact hn (q1.trans q2.symm)
      · exact far j2 u2 r2 x hx2 (r1 ▸ hx)
    · rcases old j2 u2 hj2 with ⟨q2, r2⟩ | ⟨q2, r2⟩
      · exact far j u r1 x hx (r2 ▸ hx2)
      · exact h.ap j j2 u u2 hn r1 r2 x hx hx2
theorem Sep.nil {S : Sta} : Sep S [] := ⟨fun k i e => by simp at e, fun j k i i' _ e => by simp at e⟩
theorem Sep.take {S : Sta} {l : List It} (h : Sep S l) (n : Nat) : Sep S (l.take n) := by
  have old : ∀ (j : Nat) (u : It), (l.take n)[j]? = some u → l[j]? = some u := fun j u hj => by
    rw [List.getElem?_take] at hj
    split at hj
    · exact hj
    · cases hj
  exact ⟨fun j u hj => h.ok j u (old j u hj), fun j j2 u u2 hn hj hj2 => h.ap j j2 u u2 hn (old j u hj) (old j2 u2 hj2)⟩
theorem set_self {α : Type} {l : List α} {k : Nat} {i : α} (e : l[k]? = some i) : l.set k i = l := by
  apply List.ext_getElem?
  intro j
  by_cases q : j = k
  · subst q; rw [List.getElem?_set_self (List.getElem?_eq_some_iff.mp e).1, e]
  · rw [List.getElem?_set_ne (fun z => q z.symm)]
/-- the law's bag -/
def bagI (p q : Addr) : It := ⟨[p, q], fun S => IsBag (some q) S p⟩
theorem bagI_ok {S : Sta} {p q : Addr} (h : IsBag (some q) S p) : (bagI p q).ok S := by
  obtain ⟨a, b, c, d, ns, h1, h2, h3, h4⟩ := h
  refine ⟨⟨a, b, c, d, ns, h1, h2, h3, h4⟩, fun x hx => ?_, fun S' k => ⟨a, b, c, d, ns, k _ _ h1 (by simp [bagI]), h2, k _ _ h3 (by simp [bagI]), h4⟩⟩
  simp only [bagI, List.mem_cons, List.not_mem_nil, or_false] at hx
  rcases hx with rfl | rfl
  · exact ⟨_, h1⟩
  · exact ⟨_, h3⟩
theorem Sep.draw {S S' : Sta} {l : List It} {k : Nat} {p q : Addr} (h : Sep S l) (e : l[k]? = some (bagI p q)) (g : Grb (some q) p S S') : Sep S' l := by
  have := h.set k e (i' := bagI p q) ⟨fun x o eo nx => g.keep x o eo fun z => nx (by rw [z]; simp [bagI]), fun x hx => .inl hx⟩ (bagI_ok g.bag)
  rwa [set_self e] at this
/-- a list -/
def lstI (r : Addr) (ts : List T) : It := ⟨[r], fun S => S r = some (.lst ts)⟩
theorem lstI_ok {S : Sta} {r : Addr} {ts : List T} (h : S r = some (.lst ts)) : (lstI r ts).ok S := by
  refine ⟨h, fun x hx => ?_, fun S' k => k _ _ h (by simp [lstI])⟩
  simp only [lstI, List.mem_singleton] at hx
  subst hx
  exact ⟨_, h⟩
end My

set_option Elab.async false
set_option linter.all false
set_option maxRecDepth 100000
set_option maxHeartbeats 4000000
/-! what an End that gets segments of one stream knows of it -/
namespace My
open PySem PySem.Spec PyProof.Rows L2 Wp
theorem srtd_len : ∀ {l : Bs} {lo hi : Int}, srtd l → (∀ e ∈ l, lo ≤ e.1 ∧ e.1 < hi) → l.length ≤ (hi - lo).toNat
  | [], _, _, _, _ => Nat.zero_le _
  | e :: r, lo, hi, h, b => by
    have hc := List.pairwise_cons.mp h
    have b0 := b e (List.mem_cons_self ..)
    have := srtd_len (lo := e.1 + 1) (hi := hi) hc.2 fun x hx => ⟨by have := hc.1 x hx; omega, (b x (List.mem_cons_of_mem _ hx)).2⟩
    rw [List.length_cons]
    omega
theorem srtd_eq {a b : Bs} (ha : srtd a) (hb : srtd b) (h : ∀ e, e ∈ a ↔ e ∈ b) : a = b := by
  have na : a.Nodup := ha.imp fun q e => by subst e; exact absurd q (Int.lt_irrefl _)
  have nb : b.Nodup := hb.imp fun q e => by subst e; exact absurd q (Int.lt_irrefl _)
  have p : a.Perm b := perm_of_nodup na nb h
  exact p.eq_of_pairwise (fun x y _ _ h1 h2 => absurd (Int.lt_trans h1 h2) (Int.lt_irrefl _)) ha hb
/-- the values are those of V -/
def Fits (V : Int → Int) (l : Bs) : Prop := ∀ e ∈ l, e.2 = V e.1
theorem insA_iff {V : Int → Int} {k : Int} {e : Int × Int} {l : Bs} (hs : srtd l) (hf : Fits V l) : e ∈ insA k (V k) l ↔ e ∈ l ∨ e = (k, V k) := by
  by_cases h : ∃ x ∈ l, x.1 = k
  · rw [insA_there hs h]
    obtain ⟨x, hx, xk⟩ := h
    constructor
    · exact .inl
    · rintro (q | q)
      · exact q
      · have := hf x hx
        rw [q, ← xk, ← this]
        exact hx
  · have p := insA_perm (v := V k) fun x hx q => h ⟨x, hx, q⟩
    rw [p.mem_iff, List.mem_cons]
    exact Or.comm
theorem keepA_iff {V : Int → Int} {g : Int} {e : Int × Int} : ∀ (d : List Int) (l : Bs) (o : Int), srtd l → Fits V l → (∀ (i : Nat) (b : Int), d[i]? = some b → b = V (o + i)) →
    (Fits V (keepA g l o d) ∧ (e ∈ keepA g l o d ↔ e ∈ l ∨ ∃ i : Nat, i < d.length ∧ g ≤ o + i ∧ e = (o + i, V (o + i))))
  | [], l, o, hs, hf, _ => ⟨hf, ⟨.inl, fun h => by
    rcases h with h | ⟨i, h, _⟩
    · exact h
    · simp at h⟩⟩
  | b :: d, l, o, hs, hf, hd => by
    have hb : b = V o := by have := hd 0 b rfl; simpa using this
    subst hb
    have hd2 : ∀ (i : Nat) (b : Int), d[i]? = some b → b = V (o + 1 + i) := fun i b h => by
      have := hd (i + 1) b (by simpa using h)
      rw [this]; congr 1; omega
    have hf1 : Fits V (keep1 g l o (V o)) := by
      unfold keep1; split
      · intro x hx
        rcases (insA_iff hs hf).mp hx with q | q
        · exact hf x q
        · rw [q]
      · exact hf
    obtain ⟨a1, a2⟩ := keepA_iff (e := e) d (keep1 g l o (V o)) (o + 1) (keep1_srtd hs) hf1 hd2
    refine ⟨a1, ?_⟩
    show e ∈ keepA g (keep1 g l o (V o)) (o + 1) d ↔ _
    rw [a2]
    have m1 : e ∈ keep1 g l o (V o) ↔ e ∈ l ∨ (g ≤ o ∧ e = (o, V o)) := by
      unfold keep1
      by_cases q : g ≤ o
      · rw [if_pos q, insA_iff hs hf]; simp [q]
      · rw [if_neg q]; simp [q]
    rw [m1]
    constructor
    · rintro ((h | ⟨h1, h2⟩) | ⟨i, h1, h2, h3⟩)
      · exact .inl h
      · exact .inr ⟨0, by simp, by simpa using h1, by simpa using h2⟩
      · exact .inr ⟨i + 1, by simp only [List.length_cons]; omega, by omega, by rw [h3, show o + 1 + (i : Int) = o + ((i + 1 : Nat) : Int) by omega]⟩
    · rintro (h | ⟨i, h1, h2, h3⟩)
      · exact .inl (.inl h)
      · cases i with
        | zero => exact .inl (.inr ⟨by simpa using h2, by simpa using h3⟩)
        | succ i => exact .inr ⟨i, by simp only [List.length_cons] at h1; omega, by omega, by rw [h3, show o + ((i + 1 : Nat) : Int) = o + 1 + (i : Int) by omega]⟩
theorem drain_iff : ∀ (l : Bs) (g : Int) (e : Int × Int), srtd l → (∀ x ∈ l, g ≤ x.1) → (e ∈ (drain g l).2 ↔ e ∈ l ∧ g + (drain g l).1.length ≤ e.1)
  | [], g, e, _, _ => by simp [drain]
  | f :: r, g, e, h, hg => by
    have hc := List.pairwise_cons.mp h
    unfold drain
    split
    · rename_i q
      have := drain_iff r (g + 1) e hc.2 fun x hx => by have := hc.1 x hx; omega
      simp only [List.length_cons, List.mem_cons]
      rw [this]
      constructor
      · rintro ⟨a, b⟩; exact ⟨.inr a, by omega⟩
      · rintro ⟨a | a, b⟩
        · rw [a] at b; omega
        · exact ⟨a, by omega⟩
    · simp only [List.length_nil, Int.natCast_zero, Int.add_zero]
      exact ⟨fun a => ⟨a, hg e a⟩, fun a => a.1⟩
theorem drain_at : ∀ (l : Bs) (g : Int) (i : Nat) (b : Int), (drain g l).1[i]? = some b → (g + i, b) ∈ l
  | [], g, i, b, h => by simp [drain] at h
  | f :: r, g, i, b, h => by
    unfold drain at h
    split at h
    · rename_i q
      cases i with
      | zero =>
        simp only [List.getElem?_cons_zero, Option.some.injEq] at h
        rw [← h, ← q]
        simp
      | succ i =>
        have := drain_at r (g + 1) i b (by simpa using h)
        rw [show g + ((i + 1 : Nat) : Int) = g + 1 + (i : Int) by omega]
        exact List.mem_cons_of_mem _ this
    · simp at h
/-- a row of the stream W -/
structure SegOf (W : List Int) (s : Seg) : Prop where
  o : 0 ≤ s.o
  n : s.o.toNat + s.d.length ≤ W.length
  d : ∀ (i : Nat) (b : Int), s.d[i]? = some b → W[s.o.toNat + i]? = some b
  l : s.l = 1 → s.o.toNat + s.d.length = W.length
def valW (W : List Int) (k : Int) : Int := W.getD k.toNat 0
/-- what is known: the offsets in D, and the end if e -/
structure Rdr (W : List Int) (D : Nat → Prop) (e : Prop) (m : EM) (g : Nat) : Prop where
  got : m.got = g
  gle : g ≤ W.length
  all : ∀ k, k < g → D k
  no : g < W.length → ¬ D g
  s : srtd m.ahead
  mem : ∀ x, x ∈ m.ahead ↔ ∃ k : Nat, k < W.length ∧ g ≤ k ∧ D k ∧ x = ((k : Int), valW W k)
  f1 : e → m.fin = some (W.length : Int)
  f0 : ¬ e → m.fin = none
  e1 : e ∧ g = W.length → m.ended = 1
  e0 : ¬ (e ∧ g = W.length) → m.ended = 0
theorem Rdr.same {W : List Int} {D : Nat → Prop} {e : Prop} {m m' : EM} {g g' : Nat} (h : Rdr W D e m g) (h' : Rdr W D e m' g') : g = g' ∧ m.got = m'.got ∧ m.ahead = m'.ahead ∧ m.fin = m'.fin ∧ m.ended = m'.ended := by
  have eg : g = g' := by
    rcases Nat.lt_trichotomy g g' with q | q | q
    · exact absurd (h'.all g q) (h.no (Nat.lt_of_lt_of_le q h'.gle))
    · exact q
    · exact absurd (h.all g' q) (h'.no (Nat.lt_of_lt_of_le q h.gle))
  subst eg
  refine ⟨rfl, by rw [h.got, h'.got], srtd_eq h.s h'.s fun x => by rw [h.mem, h'.mem], ?_, ?_⟩
  · by_cases q : e
    · rw [h.f1 q, h'.f1 q]
    · rw [h.f0 q, h'.f0 q]
  · by_cases q : e ∧ g = W.length
    · rw [h.e1 q, h'.e1 q]
    · rw [h.e0 q, h'.e0 q]
theorem Rdr.iff {W : List Int} {D D' : Nat → Prop} {e e' : Prop} {m : EM} {g : Nat} (h : Rdr W D e m g) (hD : ∀ k, D k ↔ D' k) (he : e ↔ e') : Rdr W D' e' m g := by
  have : D = D' := funext fun k => propext (hD k)
  have : e = e' := propext he
  subst D' e'
  exact h
theorem Rdr.len {W : List Int} {D : Nat → Prop} {e : Prop} {m : EM} {g : Nat} (h : Rdr W D e m g) : m.ahead.length ≤ W.length := by
  have := srtd_len (lo := 0) (hi := W.length) h.s fun x hx => by
    obtain ⟨k, h1, _, _, h4⟩ := (h.mem x).mp hx
    rw [h4]; exact ⟨Int.natCast_nonneg _, by show (k : Int) < _; omega⟩
  omega
theorem Rdr.wf {W : List Int} {D : Nat → Prop} {e : Prop} {m : EM} {g : Nat} (h : Rdr W D e m g) (hw : W.length ≤ 100000) (hp : m.pend.length ≤ 100000) : WF m :=
  ⟨h.s, fun x hx => by
    obtain ⟨k, h1, h2, _, h4⟩ := (h.mem x).mp hx
    rw [h4, h.got]; show (g : Int) ≤ k; omega, Nat.le_trans h.len hw, hp⟩
theorem Rdr.new (W : List Int) (D : Nat → Prop) (hD : ∀ k, ¬ D k) : Rdr W D False EM.new 0 :=
  ⟨rfl, Nat.zero_le _, fun k h => absurd h (Nat.not_lt_zero _), fun _ => hD 0, List.Pairwise.nil, fun x => ⟨fun h => (by cases h), fun ⟨k, _, _, h, _⟩ => absurd h (hD k)⟩, fun h => h.elim, fun _ => rfl, fun h => h.1.elim, fun _ => rfl⟩
/-- a row comes -/
theorem Rdr.take {W : List Int} {D : Nat → Prop} {e : Prop} {m : EM} {g : Nat} (h : Rdr W D e m g) {s : Seg} (hs : SegOf W s) :
    ∃ g', Rdr W (fun k => D k ∨ (s.o.toNat ≤ k ∧ k < s.o.toNat + s.d.length)) (e ∨ s.l = 1) (m.take s.o s.d s.l s.t) g' ∧ g ≤ g' ∧ m.out s.o s.d s.l s.t = (W.drop g).take (g' - g) := by
  obtain ⟨o, eo⟩ : ∃ o : Nat, s.o = o := ⟨s.o.toNat, (Int.toNat_of_nonneg hs.o).symm⟩
  have eo2 : s.o.toNat = o := by omega
  have n := hs.n
  have dd := hs.d
  have hl := hs.l
  rw [eo2] at n dd hl ⊢
  -- the row of what is kept
  have V0 : Fits (valW W) m.ahead := fun x hx => by
    obtain ⟨k, _, _, _, h4⟩ := (h.mem x).mp hx
    rw [h4]
  have Vd : ∀ (i : Nat) (b : Int), s.d[i]? = some b → b = valW W ((o : Int) + i) := fun i b hb => by
    have := dd i b hb
    unfold valW
    rw [show ((o : Int) + i).toNat = o + i by omega, List.getD_eq_getElem?_getD, this]
    rfl
  obtain ⟨l, el⟩ : ∃ l, keepA m.got m.ahead s.o s.d = l := ⟨_, rfl⟩
  have ls : srtd l := by rw [← el]; exact keepA_srtd _ _ _ h.s
  have lm : ∀ x, x ∈ l ↔ ∃ k : Nat, k < W.length ∧ g ≤ k ∧ (D k ∨ (o ≤ k ∧ k < o + s.d.length)) ∧ x = ((k : Int), valW W k) := fun x => by
    rw [← el, eo, (keepA_iff (V := valW W) (g := m.got) (e := x) s.d m.ahead o h.s V0 Vd).2, h.mem, h.got]
    constructor
    · rintro (⟨k, a, b, c, d⟩ | ⟨i, a, b, c⟩)
      · exact ⟨k, a, b, .inl c, d⟩
      · exact ⟨o + i, by omega, by omega, .inr ⟨by omega, by omega⟩, by rw [c]; simp⟩
    · rintro ⟨k, a, b, c | ⟨c1, c2⟩, d⟩
      · exact .inl ⟨k, a, b, c, d⟩
      · exact .inr ⟨k - o, by omega, by omega, by rw [d, show (o : Int) + ((k - o : Nat) : Int) = k by omega]⟩
  have lg : ∀ x ∈ l, (g : Int) ≤ x.1 := fun x hx => by
    obtain ⟨k, _, b, _, d⟩ := (lm x).mp hx
    rw [d]; show (g : Int) ≤ k; omega
  obtain ⟨fr, ef⟩ : ∃ f, (drain (g : Int) l).1 = f := ⟨_, rfl⟩
  have parts := drain_parts l g ls lg
  rw [ef] at parts
  have frat : ∀ (i : Nat) (b : Int), fr[i]? = some b → (D (g + i) ∨ (o ≤ g + i ∧ g + i < o + s.d.length)) ∧ g + i < W.length ∧ b = valW W ((g + i : Nat) : Int) := fun i b hb => by
    have := drain_at l g i b (by rw [ef]; exact hb)
    obtain ⟨k, a, _, c, d⟩ := (lm _).mp this
    have ek : k = g + i := by have := congrArg Prod.fst d; simp at this; omega
    subst ek
    exact ⟨c, a, by have := congrArg Prod.snd d; simpa using this⟩
  have gle : g + fr.length ≤ W.length := by
    cases z : fr.length with
    | zero => simpa using h.gle
    | succ j =>
      obtain ⟨b, hb⟩ : ∃ b, fr[j]? = some b := ⟨fr[j]'(by omega), List.getElem?_eq_getElem (by omega)⟩
      have := (frat j b hb).2.1
      omega
  -- the End behind it
  have em : (m.take s.o s.d s.l s.t).ahead = (drain (g : Int) l).2 := by
    show (drain m.got (keepA m.got m.ahead s.o s.d)).2 = _
    rw [el, h.got]
  have eg : (m.take s.o s.d s.l s.t).got = ((g + fr.length : Nat) : Int) := by
    show m.got + ((drain m.got (keepA m.got m.ahead s.o s.d)).1.length : Int) = _
    rw [el, h.got, ef]; simp
  have efin : (m.take s.o s.d s.l s.t).fin = if s.l = 1 then some (s.o + s.d.length) else m.fin := rfl
  have eend : (m.take s.o s.d s.l s.t).ended = if (m.take s.o s.d s.l s.t).fin = some (m.take s.o s.d s.l s.t).got then 1 else m.ended := rfl
  have eout : m.out s.o s.d s.l s.t = fr := by
    show (drain m.got (keepA m.got m.ahead s.o s.d)).1 = _
    rw [el, h.got, ef]
  have F1 : e ∨ s.l = 1 → (m.take s.o s.d s.l s.t).fin = some (W.length : Int) := fun q => by
    rw [efin]
    split
    · rename_i q1
      have := hl q1
      rw [eo]; congr 1; omega
    · rename_i q1
      exact h.f1 (q.resolve_right q1)
  have F0 : ¬ (e ∨ s.l = 1) → (m.take s.o s.d s.l s.t).fin = none := fun q => by
    rw [efin, if_neg fun z => q (.inr z)]
    exact h.f0 fun z => q (.inl z)
  refine ⟨g + fr.length, ⟨eg, gle, fun k hk => ?_, fun hk hc => ?_, by rw [em]; exact parts.1, fun x => ?_, F1, F0, fun ⟨q, q2⟩ => ?_, fun q => ?_⟩, Nat.le_add_right _ _, ?_⟩
  · by_cases q : k < g
    · exact .inl (h.all k q)
    · obtain ⟨b, hb⟩ : ∃ b, fr[k - g]? = some b := ⟨fr[k - g]'(by omega), List.getElem?_eq_getElem (by omega)⟩
      have := (frat (k - g) b hb).1
      rwa [show g + (k - g) = k by omega] at this
  · have m1 : (((g + fr.length : Nat) : Int), valW W ((g + fr.length : Nat) : Int)) ∈ l := (lm _).mpr ⟨_, hk, Nat.le_add_right _ _, hc, rfl⟩
    have m2 := (drain_iff l g _ ls lg).mpr ⟨m1, by rw [ef]; simp⟩
    have := parts.2.1 _ m2
    simp at this
  · rw [em, drain_iff l g x ls lg, lm, ef]
    constructor
    · rintro ⟨⟨k, a, b, c, d⟩, q⟩
      rw [d] at q
      exact ⟨k, a, by simp at q; omega, c, d⟩
    · rintro ⟨k, a, b, c, d⟩
      exact ⟨⟨k, a, by omega, c, d⟩, by rw [d]; show (g : Int) + fr.length ≤ k; omega⟩
  · rw [eend, F1 q, eg, if_pos (by rw [q2])]
  · rw [eend]
    by_cases q1 : e ∨ s.l = 1
    · rw [F1 q1, eg, if_neg fun z => q ⟨q1, by have := Option.some.inj z; omega⟩]
      refine h.e0 fun ⟨z1, z2⟩ => q ⟨q1, ?_⟩
      omega
    · rw [F0 q1, if_neg (by simp)]
      exact h.e0 fun ⟨z1, _⟩ => q1 (.inl z1)
  · rw [eout]
    apply List.ext_getElem?
    intro i
    by_cases q : i < fr.length
    · obtain ⟨b, hb⟩ : ∃ b, fr[i]? = some b := ⟨fr[i], List.getElem?_eq_getElem q⟩
      have z := (frat i b hb).2
      rw [hb, List.getElem?_take_of_lt (by omega), List.getElem?_drop, z.2]
      unfold valW
      rw [Int.toNat_natCast, List.getD_eq_getElem?_getD, List.getElem?_eq_getElem z.1]
      rfl
    · rw [List.getElem?_eq_none (by omega), List.getElem?_eq_none (by rw [List.length_take, List.length_drop]; omega)]
end My

set_option Elab.async false
set_option linter.all false
set_option maxRecDepth 100000
set_option maxHeartbeats 4000000
/-! many rows, and the rows that are due -/
namespace My
open PySem PySem.Spec PyProof.Rows L2 Wp
def EM.takeS (m : EM) (s : Seg) : EM := m.take s.o s.d s.l s.t
def EM.outS (m : EM) (s : Seg) : List Int := m.out s.o s.d s.l s.t
def takes : EM → List Seg → EM
  | m, [] => m
  | m, s :: r => takes (m.takeS s) r
def outs : EM → List Seg → List Int
  | _, [] => []
  | m, s :: r => m.outS s ++ outs (m.takeS s) r
theorem takes_rdr {W : List Int} : ∀ (l : List Seg) {D : Nat → Prop} {e : Prop} {m : EM} {g : Nat}, Rdr W D e m g → (∀ s ∈ l, SegOf W s) →
    ∃ g', Rdr W (fun k => D k ∨ ∃ s ∈ l, s.o.toNat ≤ k ∧ k < s.o.toNat + s.d.length) (e ∨ ∃ s ∈ l, s.l = 1) (takes m l) g' ∧ g ≤ g' ∧ outs m l = (W.drop g).take (g' - g)
  | [], D, e, m, g, h, _ => ⟨g, h.iff (fun k => by simp) (by simp), Nat.le_refl _, by simp [outs]⟩
  | s :: r, D, e, m, g, h, hs => by
    obtain ⟨g1, h1, l1, o1⟩ := h.take (hs s (List.mem_cons_self ..))
    obtain ⟨g2, h2, l2, o2⟩ := takes_rdr r h1 fun x hx => hs x (List.mem_cons_of_mem _ hx)
    refine ⟨g2, h2.iff (fun k => ?_) ?_, by omega, ?_⟩
    · simp only [List.mem_cons, exists_eq_or_imp, or_assoc]
    · simp only [List.mem_cons, exists_eq_or_imp, or_assoc]
    · show m.outS s ++ outs (m.takeS s) r = _
      have o1 : m.outS s = (W.drop g).take (g1 - g) := o1
      have o2 : outs (m.takeS s) r = (W.drop g1).take (g2 - g1) := o2
      rw [o1, o2, show W.drop g1 = (W.drop g).drop (g1 - g) by rw [List.drop_drop]; congr 1; omega, show g2 - g = (g1 - g) + (g2 - g1) by omega, ← List.take_add]
/-- what was written: the whole, of which a part is taken -/
structure Wtr (U : List Int) (m : EM) : Prop where
  b0 : 0 ≤ m.base
  b1 : m.base.toNat ≤ U.length
  p : m.pend = U.drop m.base.toNat
theorem Wtr.len {U : List Int} {m : EM} (h : Wtr U m) : m.base + m.pend.length = (U.length : Int) := by
  rw [h.p, List.length_drop]; have := h.b0; have := h.b1; omega
theorem Wtr.new {m : EM} (hp : m.base = 0) (U : List Int) (h : m.pend = U) : Wtr U m := ⟨by omega, by rw [hp]; simp, by rw [hp, h]; simp⟩
theorem Wtr.take {U : List Int} {m : EM} (h : Wtr U m) (s : Seg) : Wtr U (m.takeS s) ∧ (m.takeS s).base = max m.base (min s.t U.length) := by
  have kn : m.known s.t = max m.base (min s.t U.length) := by unfold EM.known; rw [h.len]
  have b0 := h.b0
  have b1 := h.b1
  have eb : (m.takeS s).base = m.known s.t := rfl
  have ep : (m.takeS s).pend = m.pend.drop (m.known s.t - m.base).toNat := rfl
  refine ⟨⟨by rw [eb, kn]; omega, by rw [eb, kn]; omega, ?_⟩, by rw [eb, kn]⟩
  rw [ep, eb, h.p, List.drop_drop]
  congr 1
  rw [kn]
  omega
theorem takeS_closed (m : EM) (s : Seg) : (m.takeS s).closed = m.closed := rfl
theorem takeS_given {m : EM} (h : m.closed = 0) (s : Seg) : (m.takeS s).given = m.given := by
  show (if m.closed ≠ 0 ∧ _ then 1 else m.given) = _
  rw [if_neg fun z => z.1 h]
theorem takes_closed : ∀ (l : List Seg) (m : EM), (takes m l).closed = m.closed
  | [], _ => rfl
  | s :: r, m => (takes_closed r (m.takeS s)).trans rfl
theorem takes_given : ∀ (l : List Seg) (m : EM), m.closed = 0 → (takes m l).given = m.given
  | [], _, _ => rfl
  | s :: r, m, h => (takes_given r (m.takeS s) h).trans (takeS_given h s)
theorem takes_wtr {U : List Int} {t : Int} : ∀ (l : List Seg) {m : EM}, Wtr U m → (∀ s ∈ l, s.t = t) → Wtr U (takes m l) ∧ (takes m l).base = if l = [] then m.base else max m.base (min t U.length)
  | [], m, h, _ => ⟨h, by simp [takes]⟩
  | s :: r, m, h, ht => by
    have e := ht s (List.mem_cons_self ..)
    obtain ⟨a, b⟩ := h.take s
    obtain ⟨c, d⟩ := takes_wtr r a fun x hx => ht x (List.mem_cons_of_mem _ hx)
    refine ⟨c, ?_⟩
    show (takes (m.takeS s) r).base = _
    rw [d, if_neg (List.cons_ne_nil s r), b, e]
    split
    · rfl
    · omega
theorem Wtr.pend {U : List Int} {m : EM} (h : Wtr U m) : m.pend.length ≤ U.length := by rw [h.p, List.length_drop]; omega
theorem Wtr.pend_eq {U : List Int} {m m' : EM} (h : Wtr U m) (h' : Wtr U m') (e : m.base = m'.base) : m.pend = m'.pend := by rw [h.p, h'.p, e]
/-- what is due is of what was written -/
theorem due_seg {U : List Int} {m : EM} (h : Wtr U m) : ∀ s ∈ m.due, SegOf U s ∧ s.t = m.taken ∧ (s.l = 1 → m.closed = 1) ∧ s.d.length ≤ 8 ∧ s.o ≤ U.length := by
  have b0 := h.b0
  have b1 := h.b1
  have hl := h.len
  intro s hs
  unfold EM.due at hs
  split at hs
  · rename_i h0
    rw [List.mem_singleton] at hs
    subst hs
    have : (m.pend.length : Int) = 0 := by rw [h0]; rfl
    exact ⟨⟨b0, b1, fun i b hb => by simp at hb, fun _ => by show m.base.toNat + 0 = _; omega⟩, rfl, fun q => q, by simp, by show m.base ≤ _; omega⟩
  · rename_i h0
    obtain ⟨i, hi, rfl⟩ := List.mem_map.mp hs
    rw [List.mem_range] at hi
    have eo : (m.segAt i).o = m.base + 8 * (i : Int) := rfl
    have ed : (m.segAt i).d = ((m.pend.take 32).drop (8 * i)).take 8 := rfl
    have dl : (m.segAt i).d.length = min 8 (min 32 m.pend.length - 8 * i) := by rw [ed, List.length_take, List.length_drop, List.length_take]
    have el : (m.segAt i).l = if 8 * i + (m.segAt i).d.length = m.pend.length then m.closed else 0 := rfl
    rw [List.length_take] at hi
    refine ⟨⟨by rw [eo]; omega, by rw [dl, eo]; omega, fun j b hb => ?_, fun q => ?_⟩, rfl, fun q => ?_, by rw [dl]; omega, by rw [eo]; omega⟩
    · have hj : j < (m.segAt i).d.length := (List.getElem?_eq_some_iff.mp hb).1
      rw [dl] at hj
      rw [ed, List.getElem?_take_of_lt (by omega), List.getElem?_drop, List.getElem?_take_of_lt (by omega), h.p, List.getElem?_drop] at hb
      rw [← hb, eo]
      congr 1
      omega
    · rw [el] at q
      split at q
      · rename_i q1
        rw [eo]; omega
      · cases q
    · rw [el] at q
      split at q
      · exact q
      · cases q
theorem due_some (m : EM) : m.due ≠ [] := by
  unfold EM.due
  split
  · simp
  · rename_i h0
    have : m.pend.length ≠ 0 := fun z => h0 (List.eq_nil_of_length_eq_zero z)
    intro z
    have := congrArg List.length z
    rw [List.length_map, List.length_range, List.length_take] at this
    simp only [List.length_nil] at this
    omega
/-- equality of all that an End keeps -/
theorem EM.eq_of {m m' : EM} (h1 : m.base = m'.base) (h2 : m.pend = m'.pend) (h3 : m.closed = m'.closed) (h4 : m.given = m'.given) (h5 : m.got = m'.got) (h6 : m.ended = m'.ended) (h7 : m.ahead = m'.ahead) (h8 : m.fin = m'.fin) : m = m' := by
  cases m; cases m'
  simp only at h1 h2 h3 h4 h5 h6 h7 h8
  subst h1 h2 h3 h4 h5 h6 h7 h8
  rfl
theorem Seg.tr_inj {s u : Seg} (h : s.tr = u.tr) : s = u := by
  cases s; cases u
  simp only [Seg.tr, T.tup.injEq, List.cons.injEq, T.int.injEq, and_true] at h
  obtain ⟨h1, h2, h3, h4⟩ := h
  have h2 := ints_inj.mp h2
  subst h1 h2 h3 h4
  rfl
/-- rows told by their trees -/
theorem segs_of {segs : List Seg} : ∀ (ts : List T), (∀ x ∈ ts, x ∈ segs.map Seg.tr) → ∃ l : List Seg, ts = l.map Seg.tr ∧ ∀ s ∈ l, s ∈ segs
  | [], _ => ⟨[], rfl, fun s h => by cases h⟩
  | t :: ts, h => by
    obtain ⟨l, rfl, hl⟩ := segs_of ts fun x hx => h x (List.mem_cons_of_mem _ hx)
    obtain ⟨s, hs, rfl⟩ := List.mem_map.mp (h t (List.mem_cons_self ..))
    refine ⟨s :: l, rfl, fun u hu => ?_⟩
    rcases List.mem_cons.mp hu with z | z
    · rw [z]; exact hs
    · exact hl u z
theorem segs_all {segs l : List Seg} (h : ∀ x, x ∈ l.map Seg.tr ↔ x ∈ segs.map Seg.tr) : ∀ s, s ∈ l ↔ s ∈ segs := by
  have one : ∀ {a b : List Seg}, (∀ x, x ∈ a.map Seg.tr → x ∈ b.map Seg.tr) → ∀ s ∈ a, s ∈ b := fun h s hs => by
    obtain ⟨u, hu, e⟩ := List.mem_map.mp (h _ (List.mem_map.mpr ⟨s, hs, rfl⟩))
    rw [← Seg.tr_inj e]
    exact hu
  exact fun s => ⟨one (fun x => (h x).mp) s, one (fun x => (h x).mpr) s⟩
/-- the same rows, in any order and as often as one likes -/
theorem takes_same {W U : List Int} {D : Nat → Prop} {e : Prop} {m : EM} {g : Nat} {t : Int} {l segs : List Seg} (h : Rdr W D e m g) (u : Wtr U m) (c : m.closed = 0) (hs : ∀ s ∈ segs, SegOf W s ∧ s.t = t) (hl : ∀ s, s ∈ l ↔ s ∈ segs) :
    takes m l = takes m segs ∧ outs m l = outs m segs := by
  have hs1 : ∀ s ∈ segs, SegOf W s := fun s q => (hs s q).1
  have ht1 : ∀ s ∈ segs, s.t = t := fun s q => (hs s q).2
  obtain ⟨g1, a1, b1, c1⟩ := takes_rdr l h fun s q => hs1 s ((hl s).mp q)
  obtain ⟨g2, a2, b2, c2⟩ := takes_rdr segs h hs1
  have a1 := a1.iff (D' := fun k => D k ∨ ∃ s ∈ segs, s.o.toNat ≤ k ∧ k < s.o.toNat + s.d.length) (e' := e ∨ ∃ s ∈ segs, s.l = 1) (fun k => by simp only [hl]) (by simp only [hl])
  obtain ⟨eg, e1, e2, e3, e4⟩ := a1.same a2
  subst eg
  obtain ⟨w1, x1⟩ := takes_wtr l u fun s q => ht1 s ((hl s).mp q)
  obtain ⟨w2, x2⟩ := takes_wtr segs u ht1
  have en : l = [] ↔ segs = [] := by
    constructor
    · intro z
      cases q : segs with
      | nil => rfl
      | cons a r => have := (hl a).mpr (by rw [q]; exact List.mem_cons_self ..); rw [z] at this; cases this
    · intro z
      cases q : l with
      | nil => rfl
      | cons a r => have := (hl a).mp (by rw [q]; exact List.mem_cons_self ..); rw [z] at this; cases this
  have eb : (takes m l).base = (takes m segs).base := by
    rw [x1, x2]
    by_cases z : segs = []
    · rw [if_pos z, if_pos (en.mpr z)]
    · rw [if_neg z, if_neg fun y => z (en.mp y)]
  exact ⟨EM.eq_of eb (w1.pend_eq w2 eb) (by rw [takes_closed, takes_closed]) (by rw [takes_given _ _ c, takes_given _ _ c]) e1 e4 e2 e3, by rw [c1, c2]⟩
end My

set_option Elab.async false
set_option linter.all false
set_option maxRecDepth 100000
set_option maxHeartbeats 4000000
/-! two Ends that send each other rows, some of them lost, some again -/
namespace My
open PySem PySem.Spec PyProof.Rows L2 Wp
structure Side where
  out : List Int
  inn : List Int
  closed : Bool
  known : Int
def Side.take (s : Side) (m : EM) (x : Seg) : Side := { s with inn := s.inn ++ m.outS x, known := max s.known (min x.t s.out.length) }
/-- an End m with its side s; the other one; the rows that are under way to m -/
structure Dir (m mo : EM) (s so : Side) (n : List Seg) : Prop where
  u : Wtr s.out m
  c : m.closed = if s.closed then 1 else 0
  gv : m.given = 0 ∨ (m.given = 1 ∧ s.closed = true ∧ mo.ended = 1)
  r : ∃ D e g, Rdr so.out D e m g ∧ (∀ k, D k → k < so.out.length) ∧ (e → so.closed = true) ∧ s.inn = so.out.take g
  rows : ∀ x ∈ n, SegOf so.out x ∧ (x.l = 1 → so.closed = true) ∧ x.t ≤ mo.taken ∧ x.d.length ≤ 8 ∧ x.o ≤ so.out.length
  lo : s.out.length ≤ 4000
  kb : s.known = m.base
  bg : m.base ≤ mo.got
theorem Rdr.grow {W V : List Int} {D : Nat → Prop} {e : Prop} {m : EM} {g : Nat} (h : Rdr W D e m g) (b : ∀ k, D k → k < W.length) (ne : ¬ e) : Rdr (W ++ V) D e m g := by
  have val : ∀ k : Nat, k < W.length → valW (W ++ V) k = valW W k := fun k hk => by
    unfold valW
    rw [Int.toNat_natCast, List.getD_eq_getElem?_getD, List.getD_eq_getElem?_getD, List.getElem?_append_left hk]
  refine ⟨h.got, by rw [List.length_append]; have := h.gle; omega, h.all, fun _ hd => h.no (b g hd) hd, h.s, fun x => ?_, fun z => absurd z ne, h.f0, fun z => absurd z.1 ne, fun _ => h.e0 fun z => ne z.1⟩
  rw [h.mem]
  constructor
  · rintro ⟨k, a1, a2, a3, a4⟩
    exact ⟨k, by rw [List.length_append]; omega, a2, a3, by rw [a4, val k a1]⟩
  · rintro ⟨k, a1, a2, a3, a4⟩
    exact ⟨k, b k a3, a2, a3, by rw [a4, val k (b k a3)]⟩
theorem Rdr.ended {W : List Int} {D : Nat → Prop} {e : Prop} {m : EM} {g : Nat} (h : Rdr W D e m g) : m.ended = 0 ∨ (m.ended = 1 ∧ e ∧ g = W.length) := by
  by_cases q : e ∧ g = W.length
  · exact .inr ⟨h.e1 q, q⟩
  · exact .inl (h.e0 q)
theorem Rdr.like {W : List Int} {D : Nat → Prop} {e : Prop} {m m' : EM} {g : Nat} (h : Rdr W D e m g) (h1 : m'.got = m.got) (h2 : m'.ahead = m.ahead) (h3 : m'.fin = m.fin) (h4 : m'.ended = m.ended) : Rdr W D e m' g :=
  ⟨by rw [h1]; exact h.got, h.gle, h.all, h.no, by rw [h2]; exact h.s, fun x => by rw [h2]; exact h.mem x, by rw [h3]; exact h.f1, by rw [h3]; exact h.f0, by rw [h4]; exact h.e1, by rw [h4]; exact h.e0⟩
theorem SegOf.grow {W V : List Int} {x : Seg} (h : SegOf W x) (nl : ¬ x.l = 1) : SegOf (W ++ V) x :=
  ⟨h.o, by rw [List.length_append]; have := h.n; omega, fun i b hb => by
    have := h.d i b hb
    rw [List.getElem?_append_left (List.getElem?_eq_some_iff.mp this).1]
    exact this, fun z => absurd z nl⟩
theorem Dir.wf {m mo : EM} {s so : Side} {n : List Seg} (h : Dir m mo s so n) (lo : so.out.length ≤ 4000) : WF m := by
  obtain ⟨D, e, g, r, _⟩ := h.r
  exact r.wf (by omega) (by have := h.u.pend; have := h.lo; omega)
theorem write_eq {m : EM} {d : List Int} (h : m.closed = 0) : m.write d = { m with pend := m.pend ++ d } := if_pos h
/-- bytes are written -/
theorem Dir.write1 {m mo : EM} {s so : Side} {n : List Seg} {d : List Int} (h : Dir m mo s so n) (nc : s.closed = false) (l : (s.out ++ d).length ≤ 4000) : Dir (m.write d) mo { s with out := s.out ++ d } so n := by
  have c0 : m.closed = 0 := by rw [h.c, nc]; rfl
  rw [write_eq c0]
  obtain ⟨D, e, g, r, rb, re, ri⟩ := h.r
  refine ⟨⟨h.u.b0, by have := h.u.b1; show m.base.toNat ≤ (s.out ++ d).length; rw [List.length_append]; omega, ?_⟩, h.c, h.gv, ⟨D, e, g, r.like rfl rfl rfl rfl, rb, re, ri⟩, h.rows, l, h.kb, h.bg⟩
  show m.pend ++ d = (s.out ++ d).drop m.base.toNat
  rw [List.drop_append_of_le_length h.u.b1, h.u.p]
theorem Dir.write2 {m mo : EM} {s so : Side} {n : List Seg} {d : List Int} (h : Dir mo m so s n) (nc : s.closed = false) (c0 : m.closed = 0) : Dir mo (m.write d) so { s with out := s.out ++ d } n := by
  rw [write_eq c0]
  obtain ⟨D, e, g, r, rb, re, ri⟩ := h.r
  have ne : ¬ e := fun z => by have := re z; rw [nc] at this; cases this
  refine ⟨h.u, h.c, h.gv, ⟨D, e, g, r.grow rb ne, fun k hk => by have := rb k hk; show k < (s.out ++ d).length; rw [List.length_append]; omega, re, ?_⟩, fun x hx => ?_, h.lo, h.kb, h.bg⟩
  · show so.inn = (s.out ++ d).take g
    rw [List.take_append_of_le_length r.gle, ri]
  · obtain ⟨a1, a2, a3, a4, a5⟩ := h.rows x hx
    exact ⟨a1.grow fun z => (by have := a2 z; rw [nc] at this; cases this), a2, a3, a4, by show x.o ≤ ((s.out ++ d).length : Int); rw [List.length_append]; omega⟩
/-- closing -/
theorem Dir.close1 {m mo : EM} {s so : Side} {n : List Seg} (h : Dir m mo s so n) : Dir m.close mo { s with closed := true } so n := by
  obtain ⟨D, e, g, r, rb, re, ri⟩ := h.r
  exact ⟨⟨h.u.b0, h.u.b1, h.u.p⟩, rfl, h.gv.imp_right fun ⟨a, _, b⟩ => ⟨a, rfl, b⟩, ⟨D, e, g, r.like rfl rfl rfl rfl, rb, re, ri⟩, h.rows, h.lo, h.kb, h.bg⟩
theorem Dir.close2 {m mo : EM} {s so : Side} {n : List Seg} (h : Dir mo m so s n) : Dir mo m.close so { s with closed := true } n := by
  obtain ⟨D, e, g, r, rb, re, ri⟩ := h.r
  exact ⟨h.u, h.c, h.gv, ⟨D, e, g, r, rb, fun _ => rfl, ri⟩, fun x hx => by
    obtain ⟨a1, a2, a3⟩ := h.rows x hx
    exact ⟨a1, fun _ => rfl, a3⟩, h.lo, h.kb, h.bg⟩
/-- rows are sent -/
theorem Dir.send {m mo : EM} {s so : Side} {n l : List Seg} (h : Dir mo m so s n) (u : Wtr s.out m) (c : m.closed = if s.closed then 1 else 0) (hl : ∀ x ∈ l, x ∈ m.due) : Dir mo m so s (n ++ l) :=
  ⟨h.u, h.c, h.gv, h.r, fun x hx => by
    rcases List.mem_append.mp hx with z | z
    · exact h.rows x z
    · obtain ⟨a, b, d, e, f⟩ := due_seg u x (hl x z)
      refine ⟨a, fun z => ?_, by rw [b]; exact Int.le_refl _, e, f⟩
      have := d z
      rw [c] at this
      cases q : s.closed with
      | true => rfl
      | false => (rw [q] at this; cases this), h.lo, h.kb, h.bg⟩
theorem Dir.less {m mo : EM} {s so : Side} {n l : List Seg} (h : Dir m mo s so n) (hl : ∀ x ∈ l, x ∈ n) : Dir m mo s so l := ⟨h.u, h.c, h.gv, h.r, fun x hx => h.rows x (hl x hx), h.lo, h.kb, h.bg⟩
theorem takeS_ended (m : EM) (x : Seg) : (m.takeS x).ended = 1 ∨ (m.takeS x).ended = m.ended := by
  have : (m.takeS x).ended = if (m.takeS x).fin = some (m.takeS x).got then 1 else m.ended := rfl
  rw [this]
  split
  · exact .inl rfl
  · exact .inr rfl
/-- a row comes -/
theorem Dir.take1 {m mo : EM} {s so : Side} {n no : List Seg} {x : Seg} (h : Dir m mo s so n) (ho : Dir mo m so s no) (hx : x ∈ n) : Dir (m.takeS x) mo (s.take m x) so n := by
  obtain ⟨D, e, g, r, rb, re, ri⟩ := h.r
  obtain ⟨a1, a2, a3, a4, a5⟩ := h.rows x hx
  obtain ⟨g', r', gg, eo⟩ := r.take a1
  obtain ⟨Do, eo', go, ro, _, _, _⟩ := ho.r
  refine ⟨(h.u.take x).1, h.c, ?_, ⟨_, _, g', r', fun k hk => ?_, fun z => z.elim re a2, ?_⟩, h.rows, h.lo, ?_, ?_⟩
  · by_cases q : m.closed ≠ 0 ∧ m.base + m.pend.length < x.t
    · right
      refine ⟨if_pos q, ?_, ?_⟩
      · cases z : s.closed with
        | true => exact z
        | false => exact absurd (by rw [h.c, z]; rfl) q.1
      · have l1 := h.u.len
        have l2 := ro.got
        have l3 := ro.gle
        have l4 : mo.taken = mo.got + mo.ended := rfl
        rcases ro.ended with z | ⟨z, _⟩
        · omega
        · exact z
    · have : (m.takeS x).given = m.given := if_neg q
      rw [this]
      exact h.gv
  · rcases hk with z | ⟨_, z⟩
    · exact rb k z
    · have := a1.n; omega
  · show s.inn ++ m.outS x = so.out.take g'
    have eo : m.outS x = (so.out.drop g).take (g' - g) := eo
    rw [ri, eo, ← List.take_add, show g + (g' - g) = g' by omega]
  · rw [(h.u.take x).2, ← h.kb]
    rfl
  · rw [(h.u.take x).2]
    have l2 := ro.got
    have l3 := ro.gle
    have l4 : mo.taken = mo.got + mo.ended := rfl
    have l5 := h.bg
    rcases ro.ended with z | ⟨z, _, z2⟩ <;> omega
theorem Dir.take2 {m mo : EM} {s so : Side} {n no : List Seg} {x : Seg} (h : Dir m mo s so n) (ho : Dir mo m so s no) (hx : x ∈ n) : Dir mo (m.takeS x) so (s.take m x) no := by
  obtain ⟨D, e, g, r, rb, re, ri⟩ := h.r
  obtain ⟨a1, a2, a3, a4, a5⟩ := h.rows x hx
  obtain ⟨g', r', gg, eo⟩ := r.take a1
  have tk : m.taken ≤ (m.takeS x).taken := by
    have l1 := r.got
    have l2 : (m.takeS x).got = g' := r'.got
    have l4 : m.taken = m.got + m.ended := rfl
    have l5 : (m.takeS x).taken = (m.takeS x).got + (m.takeS x).ended := rfl
    rcases takeS_ended m x with z | z
    · rcases r.ended with y | ⟨y, _⟩ <;> omega
    · omega
  have en : m.ended = 1 → (m.takeS x).ended = 1 := fun z => by
    rcases takeS_ended m x with y | y
    · exact y
    · rw [y]; exact z
  exact ⟨ho.u, ho.c, ho.gv.imp_right fun ⟨a, b, c⟩ => ⟨a, b, en c⟩, ho.r, fun y hy => by
    obtain ⟨b1, b2, b3, b4⟩ := ho.rows y hy
    exact ⟨b1, b2, Int.le_trans b3 tk, b4⟩, ho.lo, ho.kb, Int.le_trans ho.bg (by rw [r.got, show (m.takeS x).got = g' from r'.got]; omega)⟩
/-- what is asked at each step -/
theorem Dir.right {m mo : EM} {s so : Side} {n : List Seg} (h : Dir m mo s so n) :
    so.out.take s.inn.length = s.inn ∧ m.taken = s.inn.length + (if m.ended == 1 then 1 else 0) ∧ ((m.ended == 1) = true → so.closed = true ∧ s.inn.length = so.out.length) ∧ ((m.given == 1) = true → (mo.ended == 1) = true) := by
  obtain ⟨D, e, g, r, rb, re, ri⟩ := h.r
  have lg : s.inn.length = g := by rw [ri, List.length_take]; have := r.gle; omega
  refine ⟨by rw [lg, ri], ?_, fun z => ?_, fun z => ?_⟩
  · show m.got + m.ended = _
    rw [r.got, lg]
    rcases r.ended with y | ⟨y, _⟩ <;> rw [y] <;> rfl
  · rcases r.ended with y | ⟨y, y1, y2⟩
    · rw [y] at z; cases z
    · exact ⟨re y1, by rw [lg, y2]⟩
  · rcases h.gv with y | ⟨y, _, y2⟩
    · rw [y] at z; cases z
    · rw [y2]; rfl
theorem Dir.new (n : List Seg) (hn : n = []) : Dir EM.new EM.new ⟨[], [], false, 0⟩ ⟨[], [], false, 0⟩ n :=
  ⟨Wtr.new rfl [] rfl, rfl, .inl rfl, ⟨fun _ => False, False, 0, Rdr.new [] _ (fun _ h => h), fun _ h => h.elim, fun h => h.elim, rfl⟩, fun x hx => by rw [hn] at hx; (cases hx), by decide, rfl, Int.le_refl _⟩
end My

set_option Elab.async false
set_option linter.all false
set_option maxRecDepth 100000
set_option maxHeartbeats 4000000
/-! an end as a law keeps it that throws nothing away of what has come -/
namespace My
open PySem PySem.Spec PyProof.Rows L2 Wp
abbrev Sn := Int → Option Int
/-- the bytes of a row, put at their places -/
def putS (f : Sn) (o : Int) : List Int → Sn
  | [] => f
  | b :: d => putS (fun k => if k = o then some b else f k) (o + 1) d
/-- what is there from a place on, n bytes at the most -/
def runS (f : Sn) : Nat → Int → List Int
  | 0, _ => []
  | n + 1, g => match f g with
    | none => []
    | some v => v :: runS f n (g + 1)
theorem putS_at {V : Int → Int} : ∀ (d : List Int) (f : Sn) (o : Int), (∀ (i : Nat) (b : Int), d[i]? = some b → b = V (o + i)) →
    ∀ k, putS f o d k = if o ≤ k ∧ k < o + d.length then some (V k) else f k
  | [], f, o, _, k => by
    rw [if_neg (by simp only [List.length_nil]; omega)]
    rfl
  | b :: d, f, o, h, k => by
    have h0 : b = V o := by have := h 0 b rfl; simpa using this
    have ih := putS_at d (fun k => if k = o then some b else f k) (o + 1) (fun i c e => by
      have := h (i + 1) c e
      rw [this, show o + ((i + 1 : Nat) : Int) = o + 1 + (i : Int) by omega]) k
    show putS _ (o + 1) d k = _
    rw [ih]
    simp only [List.length_cons]
    by_cases q : k = o
    · subst q
      rw [if_neg (by omega), if_pos rfl, if_pos (by omega), h0]
    · rw [if_neg q]
      by_cases z : o + 1 ≤ k ∧ k < o + 1 + d.length
      · rw [if_pos z, if_pos (by omega)]
      · rw [if_neg z, if_neg (by omega)]
/-- the rows that wait are those of the dict from g on -/
def Fol (f : Sn) (g : Int) (l : Bs) : Prop := ∀ k v, g ≤ k → (f k = some v ↔ (k, v) ∈ l)
theorem drain_run : ∀ (l : Bs) (f : Sn) (g : Int) (n : Nat), srtd l → (∀ e ∈ l, g ≤ e.1) → Fol f g l → l.length ≤ n → (drain g l).1 = runS f n g
  | [], f, g, n, _, _, h, _ => by
    have hn : f g = none := by
      cases q : f g with
      | none => rfl
      | some v => exact absurd ((h g v (Int.le_refl _)).mp q) (by simp)
    cases n with
    | zero => rfl
    | succ n =>
      show [] = runS f (n + 1) g
      unfold runS
      rw [hn]
  | e :: r, f, g, 0, _, _, _, hl => by simp at hl
  | e :: r, f, g, n + 1, hs, hg, h, hl => by
    have hc := List.pairwise_cons.mp hs
    unfold drain
    by_cases q : e.1 = g
    · rw [if_pos q]
      have fe : f g = some e.2 := (h g e.2 (Int.le_refl _)).mpr (by rw [← q]; exact List.mem_cons_self ..)
      have ih := drain_run r f (g + 1) n hc.2 (fun x hx => by have := hc.1 x hx; omega) (fun k v hk => by
        rw [h k v (by omega), List.mem_cons]
        constructor
        · rintro (z | z)
          · have : k = e.1 := congrArg Prod.fst z
            omega
          · exact z
        · exact .inr) (by rw [List.length_cons] at hl; omega)
      show e.2 :: (drain (g + 1) r).1 = _
      rw [ih]
      show _ = runS f (n + 1) g
      rw [runS, fe]
    · rw [if_neg q]
      have fe : f g = none := by
        cases z : f g with
        | none => rfl
        | some v =>
          exfalso
          have := hg e (List.mem_cons_self ..)
          rcases List.mem_cons.mp ((h g v (Int.le_refl _)).mp z) with w | w
          · exact q (congrArg Prod.fst w).symm
          · have := hc.1 _ w
            have : e.1 < g := this
            omega
      show ([] : List Int) = runS f (n + 1) g
      rw [runS, fe]
theorem drain_fol {l : Bs} {f : Sn} {g : Int} (hs : srtd l) (hg : ∀ e ∈ l, g ≤ e.1) (h : Fol f g l) : Fol f (g + (drain g l).1.length) (drain g l).2 := fun k v hk => by
  rw [h k v (by omega), drain_iff l g (k, v) hs hg]
  exact ⟨fun z => ⟨z, hk⟩, fun z => z.1⟩
theorem keep_fol {V : Int → Int} {l : Bs} {f : Sn} {g o : Int} {d : List Int} (hs : srtd l) (fv : Fits V l) (h : Fol f g l) (hd : ∀ (i : Nat) (b : Int), d[i]? = some b → b = V (o + i)) : Fol (putS f o d) g (keepA g l o d) := fun k v hk => by
  rw [putS_at d f o hd k, (keepA_iff (V := V) (g := g) (e := (k, v)) d l o hs fv hd).2]
  by_cases q : o ≤ k ∧ k < o + d.length
  · rw [if_pos q]
    have e : o + ((k - o).toNat : Int) = k := by omega
    constructor
    · intro z
      refine .inr ⟨(k - o).toNat, by omega, by omega, ?_⟩
      rw [e, Option.some.inj z]
    · rintro (z | ⟨i, _, _, z⟩)
      · have : v = V k := fv (k, v) z
        rw [this]
      · have z1 : k = o + i := congrArg Prod.fst z
        have z2 : v = V (o + i) := congrArg Prod.snd z
        rw [z2, ← z1]
  · rw [if_neg q, h k v hk]
    constructor
    · exact .inl
    · rintro (z | ⟨i, a, _, z⟩)
      · exact z
      · have z1 : k = o + i := congrArg Prod.fst z
        exact absurd (by omega) q
/-- an end as the law keeps it -/
structure SM where
  out : List Int
  closed : Int
  base : Int
  given : Int
  seen : Sn
  got : Int
  ended : Int
  fin : Option Int
def SM.new : SM := ⟨[], 0, 0, 0, fun _ => none, 0, 0, none⟩
def SM.run (s : SM) (x : Seg) : List Int := runS (putS s.seen x.o x.d) 80 s.got
def SM.take (s : SM) (x : Seg) : SM :=
  let g := s.got + (s.run x).length
  let f := if x.l = 1 then some (x.o + x.d.length) else s.fin
  { s with given := if (s.out.length : Int) < x.t then 1 else s.given, base := max s.base (min x.t s.out.length), seen := putS s.seen x.o x.d, got := g, fin := f, ended := if f = some g then 1 else s.ended }
/-- the same end as an End holds it -/
structure Lik (s : SM) (m : EM) : Prop where
  u : Wtr s.out m
  base : m.base = s.base
  closed : m.closed = s.closed
  given : m.given = s.given
  got : m.got = s.got
  ended : m.ended = s.ended
  fin : m.fin = s.fin
  seen : Fol s.seen m.got m.ahead
  near : ∀ e ∈ m.ahead, e.1 < m.got + 32
theorem Lik.new : Lik SM.new EM.new := ⟨Wtr.new rfl [] rfl, rfl, rfl, rfl, rfl, rfl, rfl, fun k v _ => ⟨fun h => (by cases h), fun h => (by cases h)⟩, fun e h => (by cases h)⟩
theorem Lik.take {s : SM} {m : EM} {W : List Int} {D : Nat → Prop} {e : Prop} {g : Nat} {x : Seg} (h : Lik s m) (r : Rdr W D e m g) (hx : SegOf W x) (ht : (s.out.length : Int) < x.t → s.closed ≠ 0) (hn : x.o + x.d.length ≤ m.got + 32) :
    Lik (s.take x) (m.takeS x) ∧ m.outS x = s.run x := by
  have V0 : Fits (valW W) m.ahead := fun y hy => by
    obtain ⟨k, _, _, _, h4⟩ := (r.mem y).mp hy
    rw [h4]
  have Vd : ∀ (i : Nat) (b : Int), x.d[i]? = some b → b = valW W (x.o + i) := fun i b hb => by
    have := hx.d i b hb
    have o0 := hx.o
    unfold valW
    rw [show (x.o + (i : Int)).toNat = x.o.toNat + i by omega, List.getD_eq_getElem?_getD, this]
    rfl
  have ag : ∀ e ∈ m.ahead, m.got ≤ e.1 := fun y hy => by
    obtain ⟨k, _, b, _, d⟩ := (r.mem y).mp hy
    rw [d, r.got]
    show (g : Int) ≤ k
    omega
  obtain ⟨l, el⟩ : ∃ l, keepA m.got m.ahead x.o x.d = l := ⟨_, rfl⟩
  have ls : srtd l := by rw [← el]; exact keepA_srtd _ _ _ r.s
  have lg : ∀ e ∈ l, m.got ≤ e.1 := by rw [← el]; exact keepA_ge _ _ _ ag
  have lf : Fol (putS s.seen x.o x.d) m.got l := by rw [← el]; exact keep_fol r.s V0 h.seen Vd
  have ln : ∀ e ∈ l, e.1 < m.got + 32 := fun y hy => by
    rw [← el] at hy
    rcases (keepA_iff (V := valW W) (g := m.got) (e := y) x.d m.ahead x.o r.s V0 Vd).2.mp hy with z | ⟨i, a, b, c⟩
    · exact h.near y z
    · rw [c]
      show x.o + (i : Int) < _
      omega
  have few : l.length ≤ 80 := by
    have := srtd_len (lo := m.got) (hi := m.got + 32) ls fun y hy => ⟨lg y hy, ln y hy⟩
    omega
  have er : (drain m.got l).1 = s.run x := by
    unfold SM.run
    rw [← h.got]
    exact drain_run l _ m.got 80 ls lg lf few
  have fol := drain_fol ls lg lf
  have eo : m.outS x = s.run x := by
    rw [← er, ← el]
    rfl
  refine ⟨⟨(h.u.take x).1, ?_, h.closed, ?_, ?_, ?_, ?_, ?_, ?_⟩, eo⟩
  · rw [(h.u.take x).2, h.base]
    rfl
  · show (if m.closed ≠ 0 ∧ m.base + m.pend.length < x.t then 1 else m.given) = if (s.out.length : Int) < x.t then 1 else s.given
    rw [h.u.len, h.closed, h.given]
    by_cases q : (s.out.length : Int) < x.t
    · rw [if_pos ⟨ht q, q⟩, if_pos q]
    · rw [if_neg q, if_neg fun z => q z.2]
  · show m.got + (drain m.got (keepA m.got m.ahead x.o x.d)).1.length = s.got + (s.run x).length
    rw [el, er, h.got]
  · show (if (if x.l = 1 then some (x.o + x.d.length) else m.fin) = some (m.got + ((drain m.got (keepA m.got m.ahead x.o x.d)).1.length : Int)) then (1 : Int) else m.ended) = if (if x.l = 1 then some (x.o + x.d.length) else s.fin) = some (s.got + ((s.run x).length : Int)) then 1 else s.ended
    rw [el, er, h.got, h.fin, h.ended]
  · show (if x.l = 1 then some (x.o + (x.d.length : Int)) else m.fin) = if x.l = 1 then some (x.o + (x.d.length : Int)) else s.fin
    rw [h.fin]
  · show Fol (putS s.seen x.o x.d) (m.got + ((drain m.got (keepA m.got m.ahead x.o x.d)).1.length : Int)) (drain m.got (keepA m.got m.ahead x.o x.d)).2
    rw [el]
    exact fol
  · intro y hy
    have hy : y ∈ (drain m.got (keepA m.got m.ahead x.o x.d)).2 := hy
    show y.1 < m.got + ((drain m.got (keepA m.got m.ahead x.o x.d)).1.length : Int) + 32
    rw [el] at hy ⊢
    have := ln y ((drain_iff l m.got y ls lg).mp hy).1
    omega
/-- what is written -/
theorem Lik.write {s : SM} {m : EM} {d : List Int} (h : Lik s m) (c : s.closed = 0) : Lik { s with out := s.out ++ d } (m.write d) := by
  have hc : m.closed = 0 := h.closed.trans c
  rw [write_eq hc]
  have bl : m.base.toNat ≤ s.out.length := h.u.b1
  refine ⟨⟨h.u.b0, ?_, ?_⟩, h.base, h.closed, h.given, h.got, h.ended, h.fin, h.seen, h.near⟩
  · rw [List.length_append]; exact Nat.le_trans bl (Nat.le_add_right _ _)
  · show m.pend ++ d = (s.out ++ d).drop m.base.toNat
    rw [List.drop_append_of_le_length bl, h.u.p]
/-- closed -/
theorem Lik.close {s : SM} {m : EM} (h : Lik s m) : Lik { s with closed := 1 } m.close := ⟨⟨h.u.b0, h.u.b1, h.u.p⟩, h.base, rfl, h.given, h.got, h.ended, h.fin, h.seen, h.near⟩
/-- the kept rows, told from all that came -/
theorem Lik.kept {s : SM} {m : EM} (h : Lik s m) (hs : srtd m.ahead) (hg : ∀ e ∈ m.ahead, m.got ≤ e.1) {zs : List Int} (st : zs.Pairwise (· < ·)) (all : ∀ k, k ∈ zs ↔ (s.seen k).isSome = true) :
    (zs.filter fun k => decide (s.got ≤ k)).map (fun k => (k, (s.seen k).getD 0)) = m.ahead := by
  refine srtd_eq ?_ hs fun e => ?_
  · unfold srtd
    rw [List.pairwise_map]
    exact st.filter _
  · rw [List.mem_map]
    constructor
    · rintro ⟨k, hk, rfl⟩
      rw [List.mem_filter, decide_eq_true_eq, all] at hk
      obtain ⟨v, hv⟩ := Option.isSome_iff_exists.mp hk.1
      rw [hv]
      exact (h.seen k v (by rw [h.got]; exact hk.2)).mp hv
    · intro he
      have ge := hg e he
      have hv := (h.seen e.1 e.2 ge).mpr he
      refine ⟨e.1, ?_, by rw [hv]; rfl⟩
      rw [List.mem_filter, decide_eq_true_eq, all, hv, ← h.got]
      exact ⟨rfl, ge⟩
end My

set_option Elab.async false
set_option linter.all false
set_option maxRecDepth 100000
set_option maxHeartbeats 4000000
namespace My
open PySem PySem.Spec PyProof.Rows L2 Wp
/-! ### the law's own end, in the state -/
theorem valT_zip {κ : Type} [DecidableEq κ] {k : κ} : ∀ (ks : List κ) (vs : List T) (i : Nat), ks.Nodup → ks.length = vs.length → ks[i]? = some k → valT (ks.zip vs) k = vs[i]?
  | [], [], i, _, _, h => by simp at h
  | [], _ :: _, _, _, h, _ => by simp at h
  | _ :: _, [], _, _, h, _ => by simp at h
  | a :: ks, v :: vs, 0, _, _, h => by
    obtain rfl : a = k := Option.some.inj h
    show valT ((a, v) :: ks.zip vs) a = some v
    rw [valT_cons, if_pos rfl]
  | a :: ks, v :: vs, i + 1, nd, hl, h => by
    have n := List.nodup_cons.mp nd
    have h : ks[i]? = some k := h
    have ne : ¬ a = k := fun z => n.1 (by rw [z]; exact List.mem_of_getElem? h)
    show valT ((a, v) :: ks.zip vs) k = vs[i]?
    rw [valT_cons, if_neg ne]
    exact valT_zip ks vs i n.2 (Nat.succ.inj hl) h
theorem putT_zip {κ : Type} [DecidableEq κ] {k : κ} {w : T} : ∀ (ks : List κ) (vs : List T) (i : Nat), ks.Nodup → ks.length = vs.length → ks[i]? = some k → putT (ks.zip vs) k w = ks.zip (vs.set i w) := fun ks vs i nd hl h => by
  have hi := (List.getElem?_eq_some_iff.mp h).1
  have e := valT_zip ks vs i nd hl h
  unfold putT
  rw [if_pos (by rw [valT_any, e, List.getElem?_eq_getElem (by omega)]; rfl)]
  refine List.ext_getElem? fun j => ?_
  rw [List.getElem?_map]
  by_cases q : j < ks.length
  · have e1 : (ks.zip vs)[j]? = some (ks[j], vs[j]'(by omega)) := List.getElem?_zip_eq_some.mpr ⟨List.getElem?_eq_getElem q, List.getElem?_eq_getElem _⟩
    rw [e1, Option.map_some]
    by_cases z : i = j
    · subst z
      have ek : ks[i] = k := Option.some.inj ((List.getElem?_eq_getElem q).symm.trans h)
      have e2 : (ks.zip (vs.set i w))[i]? = some (ks[i], w) := List.getElem?_zip_eq_some.mpr ⟨List.getElem?_eq_getElem q, List.getElem?_set_self (by omega)⟩
      rw [e2]
      show some (if ks[i] = k then (ks[i], w) else _) = _
      rw [if_pos ek]
    · have nk : ¬ ks[j] = k := fun ek => z ((List.getElem?_inj hi nd).mp (by rw [h, List.getElem?_eq_getElem q, ek]))
      have e2 : (ks.zip (vs.set i w))[j]? = some (ks[j], vs[j]'(by omega)) := List.getElem?_zip_eq_some.mpr ⟨List.getElem?_eq_getElem q, by rw [List.getElem?_set_ne z]; exact List.getElem?_eq_getElem _⟩
      rw [e2]
      show some (if ks[j] = k then _ else (ks[j], _)) = _
      rw [if_neg nk]
  · rw [List.getElem?_eq_none (by rw [List.length_zip]; omega), List.getElem?_eq_none (by rw [List.length_zip, List.length_set]; omega)]
    rfl
theorem merge_zip {ks : List Key} {vs : List T} (nd : ks.Nodup) (hl : ks.length = vs.length) : mergeT [] (ks.zip vs) = ks.zip vs := by
  have go : ∀ (more kvs : List (Key × T)), ((kvs ++ more).map (·.1)).Nodup → more.foldl (fun acc kv => putT acc kv.1 kv.2) kvs = kvs ++ more := by
    intro more
    induction more with
    | nil => intro kvs _; exact (List.append_nil _).symm
    | cons e r ih =>
      intro kvs n
      have ne : ¬ (kvs.any fun kv => decide (kv.1 = e.1)) = true := fun z => by
        obtain ⟨x, hx, q⟩ := List.any_eq_true.mp z
        rw [List.map_append, List.map_cons] at n
        exact (List.nodup_append.mp n).2.2 x.1 (List.mem_map.mpr ⟨x, hx, rfl⟩) e.1 (List.mem_cons_self ..) (of_decide_eq_true q)
      show r.foldl _ (putT kvs e.1 e.2) = _
      unfold putT
      rw [if_neg ne]
      have := ih (kvs ++ [(e.1, e.2)]) (by rw [List.append_assoc]; exact n)
      unfold putT at this
      rw [this, List.append_assoc]
      rfl
  have := go (ks.zip vs) [] (by rw [List.nil_append, List.map_fst_zip (Nat.le_of_eq hl)]; exact nd)
  exact this
def kd : List Key := [Sum.inr "out", Sum.inr "closed", Sum.inr "base", Sum.inr "given", Sum.inr "seen", Sum.inr "got", Sum.inr "ended", Sum.inr "end"]
theorem kd_nd : kd.Nodup := by decide +kernel
def sdL (o c b g s t e f : T) : List (Key × T) := kd.zip [o, c, b, g, s, t, e, f]
section
variable {o c b g s t e f v : T}
theorem sdL_len : (sdL o c b g s t e f).length = 8 := rfl
theorem ix_out : valT (sdL o c b g s t e f) (.inr "out") = some o := valT_zip kd _ 0 kd_nd rfl rfl
theorem ix_closed : valT (sdL o c b g s t e f) (.inr "closed") = some c := valT_zip kd _ 1 kd_nd rfl rfl
theorem ix_base : valT (sdL o c b g s t e f) (.inr "base") = some b := valT_zip kd _ 2 kd_nd rfl rfl
theorem ix_given : valT (sdL o c b g s t e f) (.inr "given") = some g := valT_zip kd _ 3 kd_nd rfl rfl
theorem ix_seen : valT (sdL o c b g s t e f) (.inr "seen") = some s := valT_zip kd _ 4 kd_nd rfl rfl
theorem ix_got : valT (sdL o c b g s t e f) (.inr "got") = some t := valT_zip kd _ 5 kd_nd rfl rfl
theorem ix_ended : valT (sdL o c b g s t e f) (.inr "ended") = some e := valT_zip kd _ 6 kd_nd rfl rfl
theorem ix_end : valT (sdL o c b g s t e f) (.inr "end") = some f := valT_zip kd _ 7 kd_nd rfl rfl
theorem st_closed : putT (sdL o c b g s t e f) (.inr "closed") v = sdL o v b g s t e f := putT_zip kd _ 1 kd_nd rfl rfl
theorem st_base : putT (sdL o c b g s t e f) (.inr "base") v = sdL o c v g s t e f := putT_zip kd _ 2 kd_nd rfl rfl
theorem st_given : putT (sdL o c b g s t e f) (.inr "given") v = sdL o c b v s t e f := putT_zip kd _ 3 kd_nd rfl rfl
theorem st_got : putT (sdL o c b g s t e f) (.inr "got") v = sdL o c b g s v e f := putT_zip kd _ 5 kd_nd rfl rfl
theorem st_ended : putT (sdL o c b g s t e f) (.inr "ended") v = sdL o c b g s t v f := putT_zip kd _ 6 kd_nd rfl rfl
theorem st_end : putT (sdL o c b g s t e f) (.inr "end") v = sdL o c b g s t e v := putT_zip kd _ 7 kd_nd rfl rfl
end
/-- the law's own end: its dict, its list of what is written, its dict of what has come -/
structure SdAt (S : Sta) (a lo ls : Addr) (m : SM) : Prop where
  ob : S a = some (.dct (sdL (.ref lo) (.int m.closed) (.int m.base) (.int m.given) (.ref ls) (.int m.got) (.int m.ended) (finT m.fin)))
  ot : S lo = some (.lst (m.out.map T.int))
  sn : ∃ ks : Bs, S ls = some (.dct (ks.map entI)) ∧ (ks.map (·.1)).Nodup ∧ ∀ k v, m.seen k = some v ↔ (k, v) ∈ ks
def SdA (S : Sta) (a : Addr) (F : List Addr) (m : SM) : Prop := ∃ lo ls, F = [a, lo, ls] ∧ a ≠ lo ∧ a ≠ ls ∧ lo ≠ ls ∧ SdAt S a lo ls m
theorem SdA.keep {S S' : Sta} {a : Addr} {F : List Addr} {m : SM} (h : SdA S a F m) (k : ∀ x o, S x = some o → x ∈ F → S' x = some o) : SdA S' a F m := by
  obtain ⟨lp, la, rfl, n1, n2, n3, ⟨e1, e2, ks, e3, p⟩⟩ := h
  exact ⟨lp, la, rfl, n1, n2, n3, ⟨k _ _ e1 (by simp), k _ _ e2 (by simp), ks, k _ _ e3 (by simp), p⟩⟩
theorem SdA.gr {S S' : Sta} {a : Addr} {F : List Addr} {m : SM} (h : SdA S a F m) (g : Gr S S') : SdA S' a F m := h.keep fun x o e _ => g x o e
theorem SdA.here {S : Sta} {a : Addr} {F : List Addr} {m : SM} (h : SdA S a F m) : ∀ x ∈ F, ∃ o, S x = some o := by
  obtain ⟨lp, la, rfl, n1, n2, n3, ⟨e1, e2, ks, e3, p⟩⟩ := h
  intro x hx
  simp only [List.mem_cons, List.not_mem_nil, or_false] at hx
  rcases hx with rfl | rfl | rfl
  · exact ⟨_, e1⟩
  · exact ⟨_, e2⟩
  · exact ⟨_, e3⟩
end My

set_option Elab.async false
set_option linter.all false
set_option maxRecDepth 100000
set_option maxHeartbeats 4000000
/-! a dict of numbers by numbers, written at a place that may be there -/
namespace My
open PySem PySem.Spec PyProof.Rows L2 Wp
theorem putS_snoc : ∀ (d : List Int) (f : Sn) (o b : Int), putS f o (d ++ [b]) = fun k => if k = o + d.length then some b else putS f o d k
  | [], f, o, b => by
    funext k
    show (if k = o then some b else f k) = if k = o + ((0 : Nat) : Int) then some b else f k
    rw [show o + ((0 : Nat) : Int) = o by omega]
  | c :: d, f, o, b => by
    show putS _ (o + 1) (d ++ [b]) = _
    rw [putS_snoc d _ (o + 1) b]
    funext k
    rw [List.length_cons, show o + 1 + (d.length : Int) = o + ((d.length + 1 : Nat) : Int) by omega]
    rfl
def putB (ks : Bs) (k v : Int) : Bs := if (ks.any fun e => decide (e.1 = k)) = true then ks.map (fun e => if e.1 = k then (e.1, v) else e) else ks ++ [(k, v)]
theorem putB_ent (ks : Bs) (k v : Int) : putT (ks.map entI) (.inl k) (.int v) = (putB ks k v).map entI := by
  have a : ((ks.map entI).any fun kv => decide (kv.1 = Sum.inl k)) = ks.any fun e => decide (e.1 = k) := by
    rw [List.any_map]
    congr 1
    funext e
    show decide ((Sum.inl e.1 : Key) = Sum.inl k) = _
    exact decide_eq_decide.mpr ⟨fun z => Sum.inl.inj z, fun z => congrArg _ z⟩
  unfold putT putB
  rw [a]
  split
  · rw [List.map_map, List.map_map]
    refine List.map_congr_left fun e _ => ?_
    show (if (Sum.inl e.1 : Key) = Sum.inl k then _ else _) = entI (if e.1 = k then (e.1, v) else e)
    by_cases q : e.1 = k
    · rw [if_pos (congrArg _ q), if_pos q]; rfl
    · rw [if_neg fun z => q (Sum.inl.inj z), if_neg q]
  · rw [List.map_append]
    rfl
theorem putB_keys {ks : Bs} {k v : Int} (nd : (ks.map (·.1)).Nodup) : ((putB ks k v).map (·.1)).Nodup := by
  unfold putB
  split
  · rw [List.map_map, show ((·.1) ∘ fun e : Int × Int => if e.1 = k then (e.1, v) else e) = (·.1) from funext fun e => by
      show (if e.1 = k then (e.1, v) else e).1 = e.1
      split <;> rfl]
    exact nd
  · rename_i h
    rw [List.map_append, List.nodup_append]
    refine ⟨nd, List.nodup_cons.mpr ⟨by simp, List.nodup_nil⟩, fun a ha b hb z => h ?_⟩
    rw [List.map_singleton, List.mem_singleton] at hb
    obtain ⟨e, he, rfl⟩ := List.mem_map.mp ha
    exact List.any_eq_true.mpr ⟨e, he, decide_eq_true (z.trans hb)⟩
theorem putB_mem {ks : Bs} {k v j w : Int} : (j, w) ∈ putB ks k v ↔ if j = k then w = v else (j, w) ∈ ks := by
  unfold putB
  split
  · rename_i h
    obtain ⟨x, hx, qx⟩ := List.any_eq_true.mp h
    have qx : x.1 = k := of_decide_eq_true qx
    rw [List.mem_map]
    constructor
    · rintro ⟨e, he, q⟩
      by_cases z : e.1 = k
      · rw [if_pos z] at q
        have q1 : e.1 = j := congrArg Prod.fst q
        have q2 : v = w := congrArg Prod.snd q
        rw [if_pos (by omega)]
        exact q2.symm
      · rw [if_neg z] at q
        rw [q] at he z
        rw [if_neg z]
        exact he
    · by_cases z : j = k
      · rw [if_pos z]
        rintro rfl
        exact ⟨x, hx, by rw [if_pos qx, qx, z]⟩
      · rw [if_neg z]
        intro he
        exact ⟨(j, w), he, if_neg z⟩
  · rename_i h
    have no : ∀ e ∈ ks, e.1 ≠ k := fun e he z => h (List.any_eq_true.mpr ⟨e, he, decide_eq_true z⟩)
    rw [List.mem_append, List.mem_singleton]
    by_cases z : j = k
    · rw [if_pos z]
      constructor
      · rintro (q | q)
        · exact absurd z (no _ q)
        · exact congrArg Prod.snd q
      · rintro rfl
        exact .inr (by rw [z])
    · rw [if_neg z]
      constructor
      · rintro (q | q)
        · exact q
        · exact absurd (congrArg Prod.fst q) z
      · exact .inl
/-- the dict for what has come -/
def DicS (S : Sta) (p : Addr) (f : Sn) : Prop := ∃ ks : Bs, S p = some (.dct (ks.map entI)) ∧ (ks.map (·.1)).Nodup ∧ ∀ k v, f k = some v ↔ (k, v) ∈ ks
theorem dic_put {ks : Bs} {f : Sn} {k v : Int} (sn : ∀ k v, f k = some v ↔ (k, v) ∈ ks) : ∀ j w, (fun j => if j = k then some v else f j) j = some w ↔ (j, w) ∈ putB ks k v := fun j w => by
  rw [putB_mem]
  show (if j = k then some v else f j) = some w ↔ _
  by_cases z : j = k
  · rw [if_pos z, if_pos z]
    exact ⟨fun q => (Option.some.inj q).symm, fun q => by rw [q]⟩
  · rw [if_neg z, if_neg z]
    exact sn j w
theorem few_keys {ks : Bs} (nd : (ks.map (·.1)).Nodup) (b : ∀ e ∈ ks, 0 ≤ e.1 ∧ e.1 < 4000) : ks.length ≤ 4000 := by
  have p : (ks.mergeSort fun a b => decide (a.1 ≤ b.1)).Perm ks := List.mergeSort_perm ks _
  have s : (ks.mergeSort fun a b => decide (a.1 ≤ b.1)).Pairwise fun a b => decide (a.1 ≤ b.1) = true := List.pairwise_mergeSort (fun a b c h1 h2 => by simp only [decide_eq_true_eq] at h1 h2 ⊢; omega) (fun a b => by simp only [Bool.or_eq_true, decide_eq_true_eq]; omega) ks
  have n := (p.map (·.1)).nodup_iff.mpr nd
  rw [List.Nodup, List.pairwise_map] at n
  have z := srtd_len (lo := 0) (hi := 4000) (l := ks.mergeSort fun a b => decide (a.1 ≤ b.1)) ((s.and n).imp fun ⟨h1, h2⟩ => by simp only [decide_eq_true_eq] at h1; omega) fun e he => b e (p.mem_iff.mp he)
  rw [p.length_eq] at z
  omega
theorem runS_len : ∀ (n : Nat) (f : Sn) (t : Int), (runS f n t).length ≤ n
  | 0, _, _ => Nat.le_refl _
  | n + 1, f, t => by
    unfold runS
    cases f t with
    | none => exact Nat.zero_le _
    | some v =>
      show (v :: runS f n (t + 1)).length ≤ n + 1
      rw [List.length_cons]
      have := runS_len n f (t + 1)
      omega
theorem runS_step : ∀ (i : Nat) (f : Sn) (t : Int), runS f (i + 1) t = runS f i t ++ (match f (t + (runS f i t).length) with | none => [] | some v => [v])
  | 0, f, t => by
    show runS f (0 + 1) t = [] ++ (match f (t + ((0 : Nat) : Int)) with | none => [] | some v => [v])
    rw [show t + ((0 : Nat) : Int) = t by omega]
    unfold runS
    cases f t <;> rfl
  | i + 1, f, t => by
    cases e : f t with
    | none =>
      have r : ∀ n, runS f (n + 1) t = [] := fun n => by unfold runS; rw [e]
      rw [r (i + 1), r i]
      show [] = [] ++ (match f (t + ((0 : Nat) : Int)) with | none => [] | some v => [v])
      rw [show t + ((0 : Nat) : Int) = t by omega, e]
      rfl
    | some v =>
      have r : ∀ n, runS f (n + 1) t = v :: runS f n (t + 1) := fun n => by rw [runS, e]
      rw [r (i + 1), r i, runS_step i f (t + 1), List.length_cons, List.cons_append, show t + (((runS f i (t + 1)).length + 1 : Nat) : Int) = t + 1 + ((runS f i (t + 1)).length : Int) by omega]
theorem dic_val {ks : Bs} {f : Sn} (nd : (ks.map (·.1)).Nodup) (sn : ∀ k v, f k = some v ↔ (k, v) ∈ ks) (k : Int) : valT (ks.map entI) (.inl k) = (f k).map T.int := by
  cases e : f k with
  | some v => exact ent_val nd ((sn k v).mp e)
  | none =>
    refine ent_not fun x hx z => ?_
    have : f k = some x.2 := (sn k x.2).mpr (by rw [← z]; exact hx)
    rw [e] at this; cases this
end My

set_option Elab.async false
set_option linter.all false
set_option maxRecDepth 100000
set_option maxHeartbeats 4000000
namespace My
open PySem PySem.Spec PyProof.Rows L2 Wp
/-! ### the two sides of the law, as values -/
theorem due_near (m : EM) : ∀ x ∈ m.due, x.o + x.d.length ≤ m.base + 32 := by
  intro x hx
  unfold EM.due at hx
  split at hx
  · rw [List.mem_singleton] at hx
    subst hx
    show m.base + ((0 : Nat) : Int) ≤ _
    omega
  · obtain ⟨i, hi, rfl⟩ := List.mem_map.mp hx
    rw [List.mem_range, List.length_take] at hi
    have ed : (m.segAt i).d.length = min 8 (min 32 m.pend.length - 8 * i) := by
      show (((m.pend.take 32).drop (8 * i)).take 8).length = _
      rw [List.length_take, List.length_drop, List.length_take]
    have eo : (m.segAt i).o = m.base + 8 * (i : Int) := rfl
    rw [ed, eo]
    omega
theorem due_len (m : EM) : m.due.length ≤ 4 := by
  unfold EM.due
  split
  · simp
  · rw [List.length_map, List.length_range, List.length_take]
    omega
/-- one side: what it holds, and the rows under way to it -/
structure Pr (m mo : EM) (s so : SM) (w wo : Side) (n : List Seg) : Prop where
  d : Dir m mo w wo n
  k : Lik s m
  o : w.out = s.out
  near : ∀ x ∈ n, x.o + x.d.length ≤ m.got + 32
  sb : ∀ k, (s.seen k).isSome = true → 0 ≤ k ∧ k < 4000
theorem Pr.cl {m mo : EM} {s so : SM} {w wo : Side} {n : List Seg} (h : Pr m mo s so w wo n) : (s.closed = 0 ∨ s.closed = 1) := by
  have := h.d.c
  rw [h.k.closed] at this
  rw [this]
  split
  · exact .inr rfl
  · exact .inl rfl
theorem Pr.nc {m mo : EM} {s so : SM} {w wo : Side} {n : List Seg} (h : Pr m mo s so w wo n) (c : s.closed = 0) : w.closed = false := by
  have := h.d.c
  rw [h.k.closed, c] at this
  cases z : w.closed with
  | false => rfl
  | true => rw [z] at this; cases this
theorem Pr.lo {m mo : EM} {s so : SM} {w wo : Side} {n : List Seg} (h : Pr m mo s so w wo n) : s.out.length ≤ 4000 := by rw [← h.o]; exact h.d.lo
theorem Pr.write1 {m mo : EM} {s so : SM} {w wo : Side} {n : List Seg} {d : List Int} (h : Pr m mo s so w wo n) (c : s.closed = 0) (l : (s.out ++ d).length ≤ 4000) : Pr (m.write d) mo { s with out := s.out ++ d } so { w with out := w.out ++ d } wo n := by
  have c0 : m.closed = 0 := h.k.closed.trans c
  refine ⟨h.d.write1 (h.nc c) (by rw [h.o]; exact l), h.k.write c, by show w.out ++ d = s.out ++ d; rw [h.o], fun x hx => ?_, h.sb⟩
  rw [write_eq c0]
  exact h.near x hx
theorem Pr.write2 {m mo : EM} {s so : SM} {w wo : Side} {n no : List Seg} {d : List Int} (h : Pr mo m so s wo w n) (h' : Pr m mo s so w wo no) (c : s.closed = 0) : Pr mo (m.write d) so { s with out := s.out ++ d } wo { w with out := w.out ++ d } n :=
  ⟨h.d.write2 (h'.nc c) (h'.k.closed.trans c), h.k, h.o, h.near, h.sb⟩
theorem Pr.close1 {m mo : EM} {s so : SM} {w wo : Side} {n : List Seg} (h : Pr m mo s so w wo n) : Pr m.close mo { s with closed := 1 } so { w with closed := true } wo n :=
  ⟨h.d.close1, h.k.close, h.o, h.near, h.sb⟩
theorem Pr.close2 {m mo : EM} {s so : SM} {w wo : Side} {n : List Seg} (h : Pr mo m so s wo w n) : Pr mo m.close so { s with closed := 1 } wo { w with closed := true } n :=
  ⟨h.d.close2, h.k, h.o, h.near, h.sb⟩
theorem Pr.send {m mo : EM} {s so : SM} {w wo : Side} {n no l : List Seg} (h : Pr mo m so s wo w n) (h' : Pr m mo s so w wo no) (hl : ∀ x ∈ l, x ∈ m.due) : Pr mo m so s wo w (n ++ l) := by
  have u := h'.d.u
  refine ⟨h.d.send u h'.d.c hl, h.k, h.o, fun x hx => ?_, h.sb⟩
  rcases List.mem_append.mp hx with z | z
  · exact h.near x z
  · have a := due_near m x (hl x z)
    have b := h'.d.bg
    omega
theorem Pr.past {m mo : EM} {s so : SM} {w wo : Side} {n no : List Seg} {x : Seg} (h : Pr m mo s so w wo n) (ho : Pr mo m so s wo w no) (hx : x ∈ n) : (s.out.length : Int) < x.t → s.closed ≠ 0 := by
  intro q
  obtain ⟨_, _, a3, _⟩ := h.d.rows x hx
  obtain ⟨Do, eo', go, ro, rb, re, ri⟩ := ho.d.r
  have l2 := ro.got
  have l3 := ro.gle
  have l4 : mo.taken = mo.got + mo.ended := rfl
  have l5 : w.out.length = s.out.length := by rw [h.o]
  rcases ro.ended with z | ⟨z, z1, _⟩
  · omega
  · have := h.d.c
    rw [re z1, h.k.closed] at this
    rw [this]
    decide
theorem takeS_got (m : EM) (x : Seg) : m.got ≤ (m.takeS x).got := by
  have : (m.takeS x).got = m.got + ((drain m.got (keepA m.got m.ahead x.o x.d)).1.length : Int) := rfl
  omega
theorem Pr.size {m mo : EM} {s so : SM} {w wo : Side} {n : List Seg} {x : Seg} (h : Pr m mo s so w wo n) (lo : wo.out.length ≤ 4000) (hx : x ∈ n) : x.d.length ≤ 8 ∧ 0 ≤ x.o ∧ x.o + x.d.length ≤ 4000 := by
  obtain ⟨a1, a2, a3, a4, a5⟩ := h.d.rows x hx
  have := a1.n
  have := a1.o
  exact ⟨a4, this, by omega⟩
theorem Pr.take1 {m mo : EM} {s so : SM} {w wo : Side} {n no : List Seg} {x : Seg} (h : Pr m mo s so w wo n) (ho : Pr mo m so s wo w no) (hx : x ∈ n) :
    Pr (m.takeS x) mo (s.take x) so (w.take m x) wo n ∧ m.outS x = s.run x := by
  have d' := h.d.take1 ho.d hx
  obtain ⟨D, e, g, r, rb, re, ri⟩ := h.d.r
  obtain ⟨a1, a2, a3, a4, a5⟩ := h.d.rows x hx
  obtain ⟨k', ek⟩ := h.k.take r a1 (h.past ho hx) (h.near x hx)
  refine ⟨⟨d', k', h.o, fun y hy => ?_, fun k hk => ?_⟩, ek⟩
  · have a := h.near y hy
    have b := takeS_got m x
    omega
  · have sz := h.size ho.d.lo hx
    have hk : (putS s.seen x.o x.d k).isSome = true := hk
    have Vd : ∀ (i : Nat) (b : Int), x.d[i]? = some b → b = valW wo.out (x.o + i) := fun i b hb => by
      have := a1.d i b hb
      have o0 := a1.o
      unfold valW
      rw [show (x.o + (i : Int)).toNat = x.o.toNat + i by omega, List.getD_eq_getElem?_getD, this]
      rfl
    rw [putS_at x.d s.seen x.o Vd k] at hk
    split at hk
    · omega
    · exact h.sb k hk
theorem Pr.take2 {m mo : EM} {s so : SM} {w wo : Side} {n no : List Seg} {x : Seg} (h : Pr m mo s so w wo n) (ho : Pr mo m so s wo w no) (hx : x ∈ n) : Pr mo (m.takeS x) so (s.take x) wo (w.take m x) no :=
  ⟨h.d.take2 ho.d hx, ho.k, ho.o, ho.near, ho.sb⟩
theorem Pr.new : Pr EM.new EM.new SM.new SM.new ⟨[], [], false, 0⟩ ⟨[], [], false, 0⟩ [] :=
  ⟨Dir.new [] rfl, Lik.new, rfl, fun x hx => (by cases hx), fun k hk => (by cases hk)⟩
end My

set_option Elab.async false
set_option linter.all false
set_option maxRecDepth 100000
namespace Gn
open PySem PySem.Spec PyProof.Rows L2 Wp
def topS (i : Nat) : Stmt := PySem.Challenge.pw_heldflows_k13_end_step_by_step.main.body.getD i (.Pass ⟨0, 0, 0, 0⟩)
abbrev st_End_init : Stmt := inClass (topS 3) 0
abbrev N_End_init : List Str := ["self"]
theorem sc_End_init : FnScope N_End_init ["self"] (defScope st_End_init) := ⟨rfl, rfl, rfl, by decide +kernel, rfl, by decide +kernel, by decide +kernel⟩
abbrev st_End_write : Stmt := inClass (topS 3) 1
abbrev N_End_write : List Str := ["self", "data"]
theorem sc_End_write : FnScope N_End_write ["self", "data"] (defScope st_End_write) := ⟨rfl, rfl, rfl, by decide +kernel, rfl, by decide +kernel, by decide +kernel⟩
abbrev st_End_close : Stmt := inClass (topS 3) 2
abbrev N_End_close : List Str := ["self"]
theorem sc_End_close : FnScope N_End_close ["self"] (defScope st_End_close) := ⟨rfl, rfl, rfl, by decide +kernel, rfl, by decide +kernel, by decide +kernel⟩
abbrev st_End_due : Stmt := inClass (topS 3) 3
abbrev N_End_due : List Str := ["self", "taken", "window", "segments", "at", "piece", "last"]
theorem sc_End_due : FnScope N_End_due ["self"] (defScope st_End_due) := ⟨rfl, rfl, rfl, by decide +kernel, rfl, by decide +kernel, by decide +kernel⟩
abbrev st_End_take : Stmt := inClass (topS 3) 4
abbrev N_End_take : List Str := ["self", "offset", "data", "last", "taken", "fresh"]
theorem sc_End_take : FnScope N_End_take ["self", "offset", "data", "last", "taken"] (defScope st_End_take) := ⟨rfl, rfl, rfl, by decide +kernel, rfl, by decide +kernel, by decide +kernel⟩
abbrev st_End_taken : Stmt := inClass (topS 3) 5
abbrev N_End_taken : List Str := ["self"]
theorem sc_End_taken : FnScope N_End_taken ["self"] (defScope st_End_taken) := ⟨rfl, rfl, rfl, by decide +kernel, rfl, by decide +kernel, by decide +kernel⟩
abbrev st_End_has_end : Stmt := inClass (topS 3) 6
abbrev N_End_has_end : List Str := ["self"]
theorem sc_End_has_end : FnScope N_End_has_end ["self"] (defScope st_End_has_end) := ⟨rfl, rfl, rfl, by decide +kernel, rfl, by decide +kernel, by decide +kernel⟩
abbrev st_End_is_given : Stmt := inClass (topS 3) 7
abbrev N_End_is_given : List Str := ["self"]
theorem sc_End_is_given : FnScope N_End_is_given ["self"] (defScope st_End_is_given) := ⟨rfl, rfl, rfl, by decide +kernel, rfl, by decide +kernel, by decide +kernel⟩
abbrev st_End_picture : Stmt := inClass (topS 3) 8
abbrev N_End_picture : List Str := ["self", "pieces", "own"]
theorem sc_End_picture : FnScope N_End_picture ["self"] (defScope st_End_picture) := ⟨rfl, rfl, rfl, by decide +kernel, rfl, by decide +kernel, by decide +kernel⟩
abbrev st_End__learn : Stmt := inClass (topS 3) 9
abbrev N_End__learn : List Str := ["self", "taken", "written", "known"]
theorem sc_End__learn : FnScope N_End__learn ["self", "taken"] (defScope st_End__learn) := ⟨rfl, rfl, rfl, by decide +kernel, rfl, by decide +kernel, by decide +kernel⟩
abbrev st_End__keep : Stmt := inClass (topS 3) 10
abbrev N_End__keep : List Str := ["self", "offset", "data", "at", "byte"]
theorem sc_End__keep : FnScope N_End__keep ["self", "offset", "data"] (defScope st_End__keep) := ⟨rfl, rfl, rfl, by decide +kernel, rfl, by decide +kernel, by decide +kernel⟩
abbrev st_End__take_in_order : Stmt := inClass (topS 3) 11
abbrev N_End__take_in_order : List Str := ["self", "fresh"]
theorem sc_End__take_in_order : FnScope N_End__take_in_order ["self"] (defScope st_End__take_in_order) := ⟨rfl, rfl, rfl, by decide +kernel, rfl, by decide +kernel, by decide +kernel⟩
abbrev st_end_of : Stmt := topS 4
abbrev N_end_of : List Str := ["picture", "base", "pending", "closed", "given", "got", "ended", "pieces", "last_offset", "end"]
theorem sc_end_of : FnScope N_end_of ["picture"] (defScope st_end_of) := ⟨rfl, rfl, rfl, by decide +kernel, rfl, by decide +kernel, by decide +kernel⟩
abbrev st__law_bag : Stmt := topS 6
abbrev N__law_bag : List Str := ["script"]
theorem sc__law_bag : FnScope N__law_bag ["script"] (defScope st__law_bag) := ⟨rfl, rfl, rfl, by decide +kernel, rfl, by decide +kernel, by decide +kernel⟩
abbrev st__law_draw : Stmt := topS 7
abbrev N__law_draw : List Str := ["bag", "many", "cell", "cells", "seed", "rest"]
theorem sc__law_draw : FnScope N__law_draw ["bag", "many"] (defScope st__law_draw) := ⟨rfl, rfl, rfl, by decide +kernel, rfl, by decide +kernel, by decide +kernel⟩
abbrev st__law_side : Stmt := topS 8
abbrev N__law_side : List Str := []
theorem sc__law_side : FnScope N__law_side [] (defScope st__law_side) := ⟨rfl, rfl, rfl, by decide +kernel, rfl, by decide +kernel, by decide +kernel⟩
abbrev st__law_due : Stmt := topS 9
abbrev N__law_due : List Str := ["side", "taken", "rows", "stop", "place", "k", "data", "last"]
theorem sc__law_due : FnScope N__law_due ["side"] (defScope st__law_due) := ⟨rfl, rfl, rfl, by decide +kernel, rfl, by decide +kernel, by decide +kernel⟩
abbrev st__law_take : Stmt := topS 10
abbrev N__law_take : List Str := ["side", "row", "offset", "data", "last", "taken", "seen", "k", "found"]
theorem sc__law_take : FnScope N__law_take ["side", "row"] (defScope st__law_take) := ⟨rfl, rfl, rfl, by decide +kernel, rfl, by decide +kernel, by decide +kernel⟩
abbrev st__law_picture : Stmt := topS 11
abbrev N__law_picture : List Str := ["side", "pending", "seen", "kept", "k"]
theorem sc__law_picture : FnScope N__law_picture ["side"] (defScope st__law_picture) := ⟨rfl, rfl, rfl, by decide +kernel, rfl, by decide +kernel, by decide +kernel⟩
abbrev st__law_data : Stmt := topS 12
abbrev N__law_data : List Str := ["bag", "size", "k"]
theorem sc__law_data : FnScope N__law_data ["bag"] (defScope st__law_data) := ⟨rfl, rfl, rfl, by decide +kernel, rfl, by decide +kernel, by decide +kernel⟩
abbrev st__law_same : Stmt := topS 13
abbrev N__law_same : List Str := ["end", "side", "due", "picture"]
theorem sc__law_same : FnScope N__law_same ["end", "side"] (defScope st__law_same) := ⟨rfl, rfl, rfl, by decide +kernel, rfl, by decide +kernel, by decide +kernel⟩
abbrev st__law_write : Stmt := topS 14
abbrev N__law_write : List Str := ["bag", "end", "side", "data", "out"]
theorem sc__law_write : FnScope N__law_write ["bag", "end", "side"] (defScope st__law_write) := ⟨rfl, rfl, rfl, by decide +kernel, rfl, by decide +kernel, by decide +kernel⟩
abbrev st_law : Stmt := topS 15
abbrev N_law : List Str := ["script", "bag", "end", "sides", "rows", "turn", "pick", "k", "row"]
theorem sc_law : FnScope N_law ["script"] (defScope st_law) := ⟨rfl, rfl, rfl, by decide +kernel, rfl, by decide +kernel, by decide +kernel⟩
def F_End (v0 v1 v2 v3 v4 v5 v6 v7 : T) : List (Str × T) := [("_base", v0), ("_pending", v1), ("_closed", v2), ("_given", v3), ("_got", v4), ("_ended", v5), ("_ahead", v6), ("_end", v7)]
theorem q_End__base__pending : (("_base" : Str) == ("_pending" : Str)) = false := by decide +kernel
theorem q_End__base__closed : (("_base" : Str) == ("_closed" : Str)) = false := by decide +kernel
theorem q_End__base__given : (("_base" : Str) == ("_given" : Str)) = false := by decide +kernel
theorem q_End__base__got : (("_base" : Str) == ("_got" : Str)) = false := by decide +kernel
theorem q_End__base__ended : (("_base" : Str) == ("_ended" : Str)) = false := by decide +kernel
theorem q_End__base__ahead : (("_base" : Str) == ("_ahead" : Str)) = false := by decide +kernel
theorem q_End__base__end : (("_base" : Str) == ("_end" : Str)) = false := by decide +kernel
theorem q_End__pending__base : (("_pending" : Str) == ("_base" : Str)) = false := by decide +kernel
theorem q_End__pending__closed : (("_pending" : Str) == ("_closed" : Str)) = false := by decide +kernel
theorem q_End__pending__given : (("_pending" : Str) == ("_given" : Str)) = false := by decide +kernel
theorem q_End__pending__got : (("_pending" : Str) == ("_got" : Str)) = false := by decide +kernel
theorem q_End__pending__ended : (("_pending" : Str) == ("_ended" : Str)) = false := by decide +kernel
theorem q_End__pending__ahead : (("_pending" : Str) == ("_ahead" : Str)) = false := by decide +kernel
theorem q_End__pending__end : (("_pending" : Str) == ("_end" : Str)) = false := by decide +kernel
theorem q_End__closed__base : (("_closed" : Str) == ("_base" : Str)) = false := by decide +kernel
theorem q_End__closed__pending : (("_closed" : Str) == ("_pending" : Str)) = false := by decide +kernel
theorem q_End__closed__given : (("_closed" : Str) == ("_given" : Str)) = false := by decide +kernel
theorem q_End__closed__got : (("_closed" : Str) == ("_got" : Str)) = false := by decide +kernel
theorem q_End__closed__ended : (("_closed" : Str) == ("_ended" : Str)) = false := by decide +kernel
theorem q_End__closed__ahead : (("_closed" : Str) == ("_ahead" : Str)) = false := by decide +kernel
theorem q_End__closed__end : (("_closed" : Str) == ("_end" : Str)) = false := by decide +kernel
theorem q_End__given__base : (("_given" : Str) == ("_base" : Str)) = false := by decide +kernel
theorem q_End__given__pending : (("_given" : Str) == ("_pending" : Str)) = false := by decide +kernel
theorem q_End__given__closed : (("_given" : Str) == ("_closed" : Str)) = false := by decide +kernel
theorem q_End__given__got : (("_given" : Str) == ("_got" : Str)) = false := by decide +kernel
theorem q_End__given__ended : (("_given" : Str) == ("_ended" : Str)) = false := by decide +kernel
theorem q_End__given__ahead : (("_given" : Str) == ("_ahead" : Str)) = false := by decide +kernel
theorem q_End__given__end : (("_given" : Str) == ("_end" : Str)) = false := by decide +kernel
theorem q_End__got__base : (("_got" : Str) == ("_base" : Str)) = false := by decide +kernel
theorem q_End__got__pending : (("_got" : Str) == ("_pending" : Str)) = false := by decide +kernel
theorem q_End__got__closed : (("_got" : Str) == ("_closed" : Str)) = false := by decide +kernel
theorem q_End__got__given : (("_got" : Str) == ("_given" : Str)) = false := by decide +kernel
theorem q_End__got__ended : (("_got" : Str) == ("_ended" : Str)) = false := by decide +kernel
theorem q_End__got__ahead : (("_got" : Str) == ("_ahead" : Str)) = false := by decide +kernel
theorem q_End__got__end : (("_got" : Str) == ("_end" : Str)) = false := by decide +kernel
theorem q_End__ended__base : (("_ended" : Str) == ("_base" : Str)) = false := by decide +kernel
theorem q_End__ended__pending : (("_ended" : Str) == ("_pending" : Str)) = false := by decide +kernel
theorem q_End__ended__closed : (("_ended" : Str) == ("_closed" : Str)) = false := by decide +kernel
theorem q_End__ended__given : (("_ended" : Str) == ("_given" : Str)) = false := by decide +kernel
theorem q_End__ended__got : (("_ended" : Str) == ("_got" : Str)) = false := by decide +kernel
theorem q_End__ended__ahead : (("_ended" : Str) == ("_ahead" : Str)) = false := by decide +kernel
theorem q_End__ended__end : (("_ended" : Str) == ("_end" : Str)) = false := by decide +kernel
theorem q_End__ahead__base : (("_ahead" : Str) == ("_base" : Str)) = false := by decide +kernel
theorem q_End__ahead__pending : (("_ahead" : Str) == ("_pending" : Str)) = false := by decide +kernel
theorem q_End__ahead__closed : (("_ahead" : Str) == ("_closed" : Str)) = false := by decide +kernel
theorem q_End__ahead__given : (("_ahead" : Str) == ("_given" : Str)) = false := by decide +kernel
theorem q_End__ahead__got : (("_ahead" : Str) == ("_got" : Str)) = false := by decide +kernel
theorem q_End__ahead__ended : (("_ahead" : Str) == ("_ended" : Str)) = false := by decide +kernel
theorem q_End__ahead__end : (("_ahead" : Str) == ("_end" : Str)) = false := by decide +kernel
theorem q_End__end__base : (("_end" : Str) == ("_base" : Str)) = false := by decide +kernel
theorem q_End__end__pending : (("_end" : Str) == ("_pending" : Str)) = false := by decide +kernel
theorem q_End__end__closed : (("_end" : Str) == ("_closed" : Str)) = false := by decide +kernel
theorem q_End__end__given : (("_end" : Str) == ("_given" : Str)) = false := by decide +kernel
theorem q_End__end__got : (("_end" : Str) == ("_got" : Str)) = false := by decide +kernel
theorem q_End__end__ended : (("_end" : Str) == ("_ended" : Str)) = false := by decide +kernel
theorem q_End__end__ahead : (("_end" : Str) == ("_ahead" : Str)) = false := by decide +kernel
theorem q_End__keep__base : (("_keep" : Str) == ("_base" : Str)) = false := by decide +kernel
theorem q_End__keep__pending : (("_keep" : Str) == ("_pending" : Str)) = false := by decide +kernel
theorem q_End__keep__closed : (("_keep" : Str) == ("_closed" : Str)) = false := by decide +kernel
theorem q_End__keep__given : (("_keep" : Str) == ("_given" : Str)) = false := by decide +kernel
theorem q_End__keep__got : (("_keep" : Str) == ("_got" : Str)) = false := by decide +kernel
theorem q_End__keep__ended : (("_keep" : Str) == ("_ended" : Str)) = false := by decide +kernel
theorem q_End__keep__ahead : (("_keep" : Str) == ("_ahead" : Str)) = false := by decide +kernel
theorem q_End__keep__end : (("_keep" : Str) == ("_end" : Str)) = false := by decide +kernel
theorem q_End__learn__base : (("_learn" : Str) == ("_base" : Str)) = false := by decide +kernel
theorem q_End__learn__pending : (("_learn" : Str) == ("_pending" : Str)) = false := by decide +kernel
theorem q_End__learn__closed : (("_learn" : Str) == ("_closed" : Str)) = false := by decide +kernel
theorem q_End__learn__given : (("_learn" : Str) == ("_given" : Str)) = false := by decide +kernel
theorem q_End__learn__got : (("_learn" : Str) == ("_got" : Str)) = false := by decide +kernel
theorem q_End__learn__ended : (("_learn" : Str) == ("_ended" : Str)) = false := by decide +kernel
theorem q_End__learn__ahead : (("_learn" : Str) == ("_ahead" : Str)) = false := by decide +kernel
theorem q_End__learn__end : (("_learn" : Str) == ("_end" : Str)) = false := by decide +kernel
theorem q_End__take_in_order__base : (("_take_in_order" : Str) == ("_base" : Str)) = false := by decide +kernel
theorem q_End__take_in_order__pending : (("_take_in_order" : Str) == ("_pending" : Str)) = false := by decide +kernel
theorem q_End__take_in_order__closed : (("_take_in_order" : Str) == ("_closed" : Str)) = false := by decide +kernel
theorem q_End__take_in_order__given : (("_take_in_order" : Str) == ("_given" : Str)) = false := by decide +kernel
theorem q_End__take_in_order__got : (("_take_in_order" : Str) == ("_got" : Str)) = false := by decide +kernel
theorem q_End__take_in_order__ended : (("_take_in_order" : Str) == ("_ended" : Str)) = false := by decide +kernel
theorem q_End__take_in_order__ahead : (("_take_in_order" : Str) == ("_ahead" : Str)) = false := by decide +kernel
theorem q_End__take_in_order__end : (("_take_in_order" : Str) == ("_end" : Str)) = false := by decide +kernel
theorem q_End_close__base : (("close" : Str) == ("_base" : Str)) = false := by decide +kernel
theorem q_End_close__pending : (("close" : Str) == ("_pending" : Str)) = false := by decide +kernel
theorem q_End_close__closed : (("close" : Str) == ("_closed" : Str)) = false := by decide +kernel
theorem q_End_close__given : (("close" : Str) == ("_given" : Str)) = false := by decide +kernel
theorem q_End_close__got : (("close" : Str) == ("_got" : Str)) = false := by decide +kernel
theorem q_End_close__ended : (("close" : Str) == ("_ended" : Str)) = false := by decide +kernel
theorem q_End_close__ahead : (("close" : Str) == ("_ahead" : Str)) = false := by decide +kernel
theorem q_End_close__end : (("close" : Str) == ("_end" : Str)) = false := by decide +kernel
theorem q_End_due__base : (("due" : Str) == ("_base" : Str)) = false := by decide +kernel
theorem q_End_due__pending : (("due" : Str) == ("_pending" : Str)) = false := by decide +kernel
theorem q_End_due__closed : (("due" : Str) == ("_closed" : Str)) = false := by decide +kernel
theorem q_End_due__given : (("due" : Str) == ("_given" : Str)) = false := by decide +kernel
theorem q_End_due__got : (("due" : Str) == ("_got" : Str)) = false := by decide +kernel
theorem q_End_due__ended : (("due" : Str) == ("_ended" : Str)) = false := by decide +kernel
theorem q_End_due__ahead : (("due" : Str) == ("_ahead" : Str)) = false := by decide +kernel
theorem q_End_due__end : (("due" : Str) == ("_end" : Str)) = false := by decide +kernel
theorem q_End_has_end__base : (("has_end" : Str) == ("_base" : Str)) = false := by decide +kernel
theorem q_End_has_end__pending : (("has_end" : Str) == ("_pending" : Str)) = false := by decide +kernel
theorem q_End_has_end__closed : (("has_end" : Str) == ("_closed" : Str)) = false := by decide +kernel
theorem q_End_has_end__given : (("has_end" : Str) == ("_given" : Str)) = false := by decide +kernel
theorem q_End_has_end__got : (("has_end" : Str) == ("_got" : Str)) = false := by decide +kernel
theorem q_End_has_end__ended : (("has_end" : Str) == ("_ended" : Str)) = false := by decide +kernel
theorem q_End_has_end__ahead : (("has_end" : Str) == ("_ahead" : Str)) = false := by decide +kernel
theorem q_End_has_end__end : (("has_end" : Str) == ("_end" : Str)) = false := by decide +kernel
theorem q_End_is_given__base : (("is_given" : Str) == ("_base" : Str)) = false := by decide +kernel
theorem q_End_is_given__pending : (("is_given" : Str) == ("_pending" : Str)) = false := by decide +kernel
theorem q_End_is_given__closed : (("is_given" : Str) == ("_closed" : Str)) = false := by decide +kernel
theorem q_End_is_given__given : (("is_given" : Str) == ("_given" : Str)) = false := by decide +kernel
theorem q_End_is_given__got : (("is_given" : Str) == ("_got" : Str)) = false := by decide +kernel
theorem q_End_is_given__ended : (("is_given" : Str) == ("_ended" : Str)) = false := by decide +kernel
theorem q_End_is_given__ahead : (("is_given" : Str) == ("_ahead" : Str)) = false := by decide +kernel
theorem q_End_is_given__end : (("is_given" : Str) == ("_end" : Str)) = false := by decide +kernel
theorem q_End_picture__base : (("picture" : Str) == ("_base" : Str)) = false := by decide +kernel
theorem q_End_picture__pending : (("picture" : Str) == ("_pending" : Str)) = false := by decide +kernel
theorem q_End_picture__closed : (("picture" : Str) == ("_closed" : Str)) = false := by decide +kernel
theorem q_End_picture__given : (("picture" : Str) == ("_given" : Str)) = false := by decide +kernel
theorem q_End_picture__got : (("picture" : Str) == ("_got" : Str)) = false := by decide +kernel
theorem q_End_picture__ended : (("picture" : Str) == ("_ended" : Str)) = false := by decide +kernel
theorem q_End_picture__ahead : (("picture" : Str) == ("_ahead" : Str)) = false := by decide +kernel
theorem q_End_picture__end : (("picture" : Str) == ("_end" : Str)) = false := by decide +kernel
theorem q_End_take__base : (("take" : Str) == ("_base" : Str)) = false := by decide +kernel
theorem q_End_take__pending : (("take" : Str) == ("_pending" : Str)) = false := by decide +kernel
theorem q_End_take__closed : (("take" : Str) == ("_closed" : Str)) = false := by decide +kernel
theorem q_End_take__given : (("take" : Str) == ("_given" : Str)) = false := by decide +kernel
theorem q_End_take__got : (("take" : Str) == ("_got" : Str)) = false := by decide +kernel
theorem q_End_take__ended : (("take" : Str) == ("_ended" : Str)) = false := by decide +kernel
theorem q_End_take__ahead : (("take" : Str) == ("_ahead" : Str)) = false := by decide +kernel
theorem q_End_take__end : (("take" : Str) == ("_end" : Str)) = false := by decide +kernel
theorem q_End_taken__base : (("taken" : Str) == ("_base" : Str)) = false := by decide +kernel
theorem q_End_taken__pending : (("taken" : Str) == ("_pending" : Str)) = false := by decide +kernel
theorem q_End_taken__closed : (("taken" : Str) == ("_closed" : Str)) = false := by decide +kernel
theorem q_End_taken__given : (("taken" : Str) == ("_given" : Str)) = false := by decide +kernel
theorem q_End_taken__got : (("taken" : Str) == ("_got" : Str)) = false := by decide +kernel
theorem q_End_taken__ended : (("taken" : Str) == ("_ended" : Str)) = false := by decide +kernel
theorem q_End_taken__ahead : (("taken" : Str) == ("_ahead" : Str)) = false := by decide +kernel
theorem q_End_taken__end : (("taken" : Str) == ("_end" : Str)) = false := by decide +kernel
theorem q_End_write__base : (("write" : Str) == ("_base" : Str)) = false := by decide +kernel
theorem q_End_write__pending : (("write" : Str) == ("_pending" : Str)) = false := by decide +kernel
theorem q_End_write__closed : (("write" : Str) == ("_closed" : Str)) = false := by decide +kernel
theorem q_End_write__given : (("write" : Str) == ("_given" : Str)) = false := by decide +kernel
theorem q_End_write__got : (("write" : Str) == ("_got" : Str)) = false := by decide +kernel
theorem q_End_write__ended : (("write" : Str) == ("_ended" : Str)) = false := by decide +kernel
theorem q_End_write__ahead : (("write" : Str) == ("_ahead" : Str)) = false := by decide +kernel
theorem q_End_write__end : (("write" : Str) == ("_end" : Str)) = false := by decide +kernel
theorem e_End__base__pending : (("_base" : Str) = ("_pending" : Str)) = False := eq_false (by decide +kernel)
theorem e_End__base__closed : (("_base" : Str) = ("_closed" : Str)) = False := eq_false (by decide +kernel)
theorem e_End__base__given : (("_base" : Str) = ("_given" : Str)) = False := eq_false (by decide +kernel)
theorem e_End__base__got : (("_base" : Str) = ("_got" : Str)) = False := eq_false (by decide +kernel)
theorem e_End__base__ended : (("_base" : Str) = ("_ended" : Str)) = False := eq_false (by decide +kernel)
theorem e_End__base__ahead : (("_base" : Str) = ("_ahead" : Str)) = False := eq_false (by decide +kernel)
theorem e_End__base__end : (("_base" : Str) = ("_end" : Str)) = False := eq_false (by decide +kernel)
theorem e_End__pending__base : (("_pending" : Str) = ("_base" : Str)) = False := eq_false (by decide +kernel)
theorem e_End__pending__closed : (("_pending" : Str) = ("_closed" : Str)) = False := eq_false (by decide +kernel)
theorem e_End__pending__given : (("_pending" : Str) = ("_given" : Str)) = False := eq_false (by decide +kernel)
theorem e_End__pending__got : (("_pending" : Str) = ("_got" : Str)) = False := eq_false (by decide +kernel)
theorem e_End__pending__ended : (("_pending" : Str) = ("_ended" : Str)) = False := eq_false (by decide +kernel)
theorem e_End__pending__ahead : (("_pending" : Str) = ("_ahead" : Str)) = False := eq_false (by decide +kernel)
theorem e_End__pending__end : (("_pending" : Str) = ("_end" : Str)) = False := eq_false (by decide +kernel)
theorem e_End__closed__base : (("_closed" : Str) = ("_base" : Str)) = False := eq_false (by decide +kernel)
theorem e_End__closed__pending : (("_closed" : Str) = ("_pending" : Str)) = False := eq_false (by decide +kernel)
theorem e_End__closed__given : (("_closed" : Str) = ("_given" : Str)) = False := eq_false (by decide +kernel)
theorem e_End__closed__got : (("_closed" : Str) = ("_got" : Str)) = False := eq_false (by decide +kernel)
theorem e_End__closed__ended : (("_closed" : Str) = ("_ended" : Str)) = False := eq_false (by decide +kernel)
theorem e_End__closed__ahead : (("_closed" : Str) = ("_ahead" : Str)) = False := eq_false (by decide +kernel)
theorem e_End__closed__end : (("_closed" : Str) = ("_end" : Str)) = False := eq_false (by decide +kernel)
theorem e_End__given__base : (("_given" : Str) = ("_base" : Str)) = False := eq_false (by decide +kernel)
theorem e_End__given__pending : (("_given" : Str) = ("_pending" : Str)) = False := eq_false (by decide +kernel)
theorem e_End__given__closed : (("_given" : Str) = ("_closed" : Str)) = False := eq_false (by decide +kernel)
theorem e_End__given__got : (("_given" : Str) = ("_got" : Str)) = False := eq_false (by decide +kernel)
theorem e_End__given__ended : (("_given" : Str) = ("_ended" : Str)) = False := eq_false (by decide +kernel)
theorem e_End__given__ahead : (("_given" : Str) = ("_ahead" : Str)) = False := eq_false (by decide +kernel)
theorem e_End__given__end : (("_given" : Str) = ("_end" : Str)) = False := eq_false (by decide +kernel)
theorem e_End__got__base : (("_got" : Str) = ("_base" : Str)) = False := eq_false (by decide +kernel)
theorem e_End__got__pending : (("_got" : Str) = ("_pending" : Str)) = False := eq_false (by decide +kernel)
theorem e_End__got__closed : (("_got" : Str) = ("_closed" : Str)) = False := eq_false (by decide +kernel)
theorem e_End__got__given : (("_got" : Str) = ("_given" : Str)) = False := eq_false (by decide +kernel)
theorem e_End__got__ended : (("_got" : Str) = ("_ended" : Str)) = False := eq_false (by decide +kernel)
theorem e_End__got__ahead : (("_got" : Str) = ("_ahead" : Str)) = False := eq_false (by decide +kernel)
theorem e_End__got__end : (("_got" : Str) = ("_end" : Str)) = False := eq_false (by decide +kernel)
theorem e_End__ended__base : (("_ended" : Str) = ("_base" : Str)) = False := eq_false (by decide +kernel)
theorem e_End__ended__pending : (("_ended" : Str) = ("_pending" : Str)) = False := eq_false (by decide +kernel)
theorem e_End__ended__closed : (("_ended" : Str) = ("_closed" : Str)) = False := eq_false (by decide +kernel)
theorem e_End__ended__given : (("_ended" : Str) = ("_given" : Str)) = False := eq_false (by decide +kernel)
theorem e_End__ended__got : (("_ended" : Str) = ("_got" : Str)) = False := eq_false (by decide +kernel)
theorem e_End__ended__ahead : (("_ended" : Str) = ("_ahead" : Str)) = False := eq_false (by decide +kernel)
theorem e_End__ended__end : (("_ended" : Str) = ("_end" : Str)) = False := eq_false (by decide +kernel)
theorem e_End__ahead__base : (("_ahead" : Str) = ("_base" : Str)) = False := eq_false (by decide +kernel)
theorem e_End__ahead__pending : (("_ahead" : Str) = ("_pending" : Str)) = False := eq_false (by decide +kernel)
theorem e_End__ahead__closed : (("_ahead" : Str) = ("_closed" : Str)) = False := eq_false (by decide +kernel)
theorem e_End__ahead__given : (("_ahead" : Str) = ("_given" : Str)) = False := eq_false (by decide +kernel)
theorem e_End__ahead__got : (("_ahead" : Str) = ("_got" : Str)) = False := eq_false (by decide +kernel)
theorem e_End__ahead__ended : (("_ahead" : Str) = ("_ended" : Str)) = False := eq_false (by decide +kernel)
theorem e_End__ahead__end : (("_ahead" : Str) = ("_end" : Str)) = False := eq_false (by decide +kernel)
theorem e_End__end__base : (("_end" : Str) = ("_base" : Str)) = False := eq_false (by decide +kernel)
theorem e_End__end__pending : (("_end" : Str) = ("_pending" : Str)) = False := eq_false (by decide +kernel)
theorem e_End__end__closed : (("_end" : Str) = ("_closed" : Str)) = False := eq_false (by decide +kernel)
theorem e_End__end__given : (("_end" : Str) = ("_given" : Str)) = False := eq_false (by decide +kernel)
theorem e_End__end__got : (("_end" : Str) = ("_got" : Str)) = False := eq_false (by decide +kernel)
theorem e_End__end__ended : (("_end" : Str) = ("_ended" : Str)) = False := eq_false (by decide +kernel)
theorem e_End__end__ahead : (("_end" : Str) = ("_ahead" : Str)) = False := eq_false (by decide +kernel)
theorem lk_End__base {v0 v1 v2 v3 v4 v5 v6 v7 : T} : (F_End v0 v1 v2 v3 v4 v5 v6 v7).lookup ("_base" : Str) = some v0 := by simp only [F_End, List.lookup, beq_self_eq_true, q_End__base__pending, q_End__base__closed, q_End__base__given, q_End__base__got, q_End__base__ended, q_End__base__ahead, q_End__base__end]
theorem pt_End__base {v0 v1 v2 v3 v4 v5 v6 v7 y : T} : putFT "_base" y (F_End v0 v1 v2 v3 v4 v5 v6 v7) = F_End y v1 v2 v3 v4 v5 v6 v7 := by simp only [F_End, putFT, if_true, if_false, e_End__pending__base, e_End__closed__base, e_End__given__base, e_End__got__base, e_End__ended__base, e_End__ahead__base, e_End__end__base]
theorem lk_End__pending {v0 v1 v2 v3 v4 v5 v6 v7 : T} : (F_End v0 v1 v2 v3 v4 v5 v6 v7).lookup ("_pending" : Str) = some v1 := by simp only [F_End, List.lookup, beq_self_eq_true, q_End__pending__base, q_End__pending__closed, q_End__pending__given, q_End__pending__got, q_End__pending__ended, q_End__pending__ahead, q_End__pending__end]
theorem pt_End__pending {v0 v1 v2 v3 v4 v5 v6 v7 y : T} : putFT "_pending" y (F_End v0 v1 v2 v3 v4 v5 v6 v7) = F_End v0 y v2 v3 v4 v5 v6 v7 := by simp only [F_End, putFT, if_true, if_false, e_End__base__pending, e_End__closed__pending, e_End__given__pending, e_End__got__pending, e_End__ended__pending, e_End__ahead__pending, e_End__end__pending]
theorem lk_End__closed {v0 v1 v2 v3 v4 v5 v6 v7 : T} : (F_End v0 v1 v2 v3 v4 v5 v6 v7).lookup ("_closed" : Str) = some v2 := by simp only [F_End, List.lookup, beq_self_eq_true, q_End__closed__base, q_End__closed__pending, q_End__closed__given, q_End__closed__got, q_End__closed__ended, q_End__closed__ahead, q_End__closed__end]
theorem pt_End__closed {v0 v1 v2 v3 v4 v5 v6 v7 y : T} : putFT "_closed" y (F_End v0 v1 v2 v3 v4 v5 v6 v7) = F_End v0 v1 y v3 v4 v5 v6 v7 := by simp only [F_End, putFT, if_true, if_false, e_End__base__closed, e_End__pending__closed, e_End__given__closed, e_End__got__closed, e_End__ended__closed, e_End__ahead__closed, e_End__end__closed]
theorem lk_End__given {v0 v1 v2 v3 v4 v5 v6 v7 : T} : (F_End v0 v1 v2 v3 v4 v5 v6 v7).lookup ("_given" : Str) = some v3 := by simp only [F_End, List.lookup, beq_self_eq_true, q_End__given__base, q_End__given__pending, q_End__given__closed, q_End__given__got, q_End__given__ended, q_End__given__ahead, q_End__given__end]
theorem pt_End__given {v0 v1 v2 v3 v4 v5 v6 v7 y : T} : putFT "_given" y (F_End v0 v1 v2 v3 v4 v5 v6 v7) = F_End v0 v1 v2 y v4 v5 v6 v7 := by simp only [F_End, putFT, if_true, if_false, e_End__base__given, e_End__pending__given, e_End__closed__given, e_End__got__given, e_End__ended__given, e_End__ahead__given, e_End__end__given]
theorem lk_End__got {v0 v1 v2 v3 v4 v5 v6 v7 : T} : (F_End v0 v1 v2 v3 v4 v5 v6 v7).lookup ("_got" : Str) = some v4 := by simp only [F_End, List.lookup, beq_self_eq_true, q_End__got__base, q_End__got__pending, q_End__got__closed, q_End__got__given, q_End__got__ended, q_End__got__ahead, q_End__got__end]
theorem pt_End__got {v0 v1 v2 v3 v4 v5 v6 v7 y : T} : putFT "_got" y (F_End v0 v1 v2 v3 v4 v5 v6 v7) = F_End v0 v1 v2 v3 y v5 v6 v7 := by simp only [F_End, putFT, if_true, if_false, e_End__base__got, e_End__pending__got, e_End__closed__got, e_End__given__got, e_End__ended__got, e_End__ahead__got, e_End__end__got]
theorem lk_End__ended {v0 v1 v2 v3 v4 v5 v6 v7 : T} : (F_End v0 v1 v2 v3 v4 v5 v6 v7).lookup ("_ended" : Str) = some v5 := by simp only [F_End, List.lookup, beq_self_eq_true, q_End__ended__base, q_End__ended__pending, q_End__ended__closed, q_End__ended__given, q_End__ended__got, q_End__ended__ahead, q_End__ended__end]
theorem pt_End__ended {v0 v1 v2 v3 v4 v5 v6 v7 y : T} : putFT "_ended" y (F_End v0 v1 v2 v3 v4 v5 v6 v7) = F_End v0 v1 v2 v3 v4 y v6 v7 := by simp only [F_End, putFT, if_true, if_false, e_End__base__ended, e_End__pending__ended, e_End__closed__ended, e_End__given__ended, e_End__got__ended, e_End__ahead__ended, e_End__end__ended]
theorem lk_End__ahead {v0 v1 v2 v3 v4 v5 v6 v7 : T} : (F_End v0 v1 v2 v3 v4 v5 v6 v7).lookup ("_ahead" : Str) = some v6 := by simp only [F_End, List.lookup, beq_self_eq_true, q_End__ahead__base, q_End__ahead__pending, q_End__ahead__closed, q_End__ahead__given, q_End__ahead__got, q_End__ahead__ended, q_End__ahead__end]
theorem pt_End__ahead {v0 v1 v2 v3 v4 v5 v6 v7 y : T} : putFT "_ahead" y (F_End v0 v1 v2 v3 v4 v5 v6 v7) = F_End v0 v1 v2 v3 v4 v5 y v7 := by simp only [F_End, putFT, if_true, if_false, e_End__base__ahead, e_End__pending__ahead, e_End__closed__ahead, e_End__given__ahead, e_End__got__ahead, e_End__ended__ahead, e_End__end__ahead]
theorem lk_End__end {v0 v1 v2 v3 v4 v5 v6 v7 : T} : (F_End v0 v1 v2 v3 v4 v5 v6 v7).lookup ("_end" : Str) = some v7 := by simp only [F_End, List.lookup, beq_self_eq_true, q_End__end__base, q_End__end__pending, q_End__end__closed, q_End__end__given, q_End__end__got, q_End__end__ended, q_End__end__ahead]
theorem pt_End__end {v0 v1 v2 v3 v4 v5 v6 v7 y : T} : putFT "_end" y (F_End v0 v1 v2 v3 v4 v5 v6 v7) = F_End v0 v1 v2 v3 v4 v5 v6 y := by simp only [F_End, putFT, if_true, if_false, e_End__base__end, e_End__pending__end, e_End__closed__end, e_End__given__end, e_End__got__end, e_End__ended__end, e_End__ahead__end]
theorem no_End__keep {v0 v1 v2 v3 v4 v5 v6 v7 : T} : (F_End v0 v1 v2 v3 v4 v5 v6 v7).lookup ("_keep" : Str) = none := by simp only [F_End, List.lookup, q_End__keep__base, q_End__keep__pending, q_End__keep__closed, q_End__keep__given, q_End__keep__got, q_End__keep__ended, q_End__keep__ahead, q_End__keep__end]
theorem no_End__learn {v0 v1 v2 v3 v4 v5 v6 v7 : T} : (F_End v0 v1 v2 v3 v4 v5 v6 v7).lookup ("_learn" : Str) = none := by simp only [F_End, List.lookup, q_End__learn__base, q_End__learn__pending, q_End__learn__closed, q_End__learn__given, q_End__learn__got, q_End__learn__ended, q_End__learn__ahead, q_End__learn__end]
theorem no_End__take_in_order {v0 v1 v2 v3 v4 v5 v6 v7 : T} : (F_End v0 v1 v2 v3 v4 v5 v6 v7).lookup ("_take_in_order" : Str) = none := by simp only [F_End, List.lookup, q_End__take_in_order__base, q_End__take_in_order__pending, q_End__take_in_order__closed, q_End__take_in_order__given, q_End__take_in_order__got, q_End__take_in_order__ended, q_End__take_in_order__ahead, q_End__take_in_order__end]
theorem no_End_close {v0 v1 v2 v3 v4 v5 v6 v7 : T} : (F_End v0 v1 v2 v3 v4 v5 v6 v7).lookup ("close" : Str) = none := by simp only [F_End, List.lookup, q_End_close__base, q_End_close__pending, q_End_close__closed, q_End_close__given, q_End_close__got, q_End_close__ended, q_End_close__ahead, q_End_close__end]
theorem no_End_due {v0 v1 v2 v3 v4 v5 v6 v7 : T} : (F_End v0 v1 v2 v3 v4 v5 v6 v7).lookup ("due" : Str) = none := by simp only [F_End, List.lookup, q_End_due__base, q_End_due__pending, q_End_due__closed, q_End_due__given, q_End_due__got, q_End_due__ended, q_End_due__ahead, q_End_due__end]
theorem no_End_has_end {v0 v1 v2 v3 v4 v5 v6 v7 : T} : (F_End v0 v1 v2 v3 v4 v5 v6 v7).lookup ("has_end" : Str) = none := by simp only [F_End, List.lookup, q_End_has_end__base, q_End_has_end__pending, q_End_has_end__closed, q_End_has_end__given, q_End_has_end__got, q_End_has_end__ended, q_End_has_end__ahead, q_End_has_end__end]
theorem no_End_is_given {v0 v1 v2 v3 v4 v5 v6 v7 : T} : (F_End v0 v1 v2 v3 v4 v5 v6 v7).lookup ("is_given" : Str) = none := by simp only [F_End, List.lookup, q_End_is_given__base, q_End_is_given__pending, q_End_is_given__closed, q_End_is_given__given, q_End_is_given__got, q_End_is_given__ended, q_End_is_given__ahead, q_End_is_given__end]
theorem no_End_picture {v0 v1 v2 v3 v4 v5 v6 v7 : T} : (F_End v0 v1 v2 v3 v4 v5 v6 v7).lookup ("picture" : Str) = none := by simp only [F_End, List.lookup, q_End_picture__base, q_End_picture__pending, q_End_picture__closed, q_End_picture__given, q_End_picture__got, q_End_picture__ended, q_End_picture__ahead, q_End_picture__end]
theorem no_End_take {v0 v1 v2 v3 v4 v5 v6 v7 : T} : (F_End v0 v1 v2 v3 v4 v5 v6 v7).lookup ("take" : Str) = none := by simp only [F_End, List.lookup, q_End_take__base, q_End_take__pending, q_End_take__closed, q_End_take__given, q_End_take__got, q_End_take__ended, q_End_take__ahead, q_End_take__end]
theorem no_End_taken {v0 v1 v2 v3 v4 v5 v6 v7 : T} : (F_End v0 v1 v2 v3 v4 v5 v6 v7).lookup ("taken" : Str) = none := by simp only [F_End, List.lookup, q_End_taken__base, q_End_taken__pending, q_End_taken__closed, q_End_taken__given, q_End_taken__got, q_End_taken__ended, q_End_taken__ahead, q_End_taken__end]
theorem no_End_write {v0 v1 v2 v3 v4 v5 v6 v7 : T} : (F_End v0 v1 v2 v3 v4 v5 v6 v7).lookup ("write" : Str) = none := by simp only [F_End, List.lookup, q_End_write__base, q_End_write__pending, q_End_write__closed, q_End_write__given, q_End_write__got, q_End_write__ended, q_End_write__ahead, q_End_write__end]
theorem ln_End {v0 v1 v2 v3 v4 v5 v6 v7 : T} : (F_End v0 v1 v2 v3 v4 v5 v6 v7).length = 8 := rfl
theorem mk_End {v0 v1 v2 v3 v4 v5 v6 v7 : T} : (putFT "_end" v7 (putFT "_ahead" v6 (putFT "_ended" v5 (putFT "_got" v4 (putFT "_given" v3 (putFT "_closed" v2 (putFT "_pending" v1 (putFT "_base" v0 [])))))))) = F_End v0 v1 v2 v3 v4 v5 v6 v7 := by simp only [F_End, putFT, if_true, if_false, e_End__base__pending, e_End__base__closed, e_End__base__given, e_End__base__got, e_End__base__ended, e_End__base__ahead, e_End__base__end, e_End__pending__base, e_End__pending__closed, e_End__pending__given, e_End__pending__got, e_End__pending__ended, e_End__pending__ahead, e_End__pending__end, e_End__closed__base, e_End__closed__pending, e_End__closed__given, e_End__closed__got, e_End__closed__ended, e_End__closed__ahead, e_End__closed__end, e_End__given__base, e_End__given__pending, e_End__given__closed, e_End__given__got, e_End__given__ended, e_End__given__ahead, e_End__given__end, e_End__got__base, e_End__got__pending, e_End__got__closed, e_End__got__given, e_End__got__ended, e_End__got__ahead, e_End__got__end, e_End__ended__base, e_End__ended__pending, e_End__ended__closed, e_End__ended__given, e_End__ended__got, e_End__ended__ahead, e_End__ended__end, e_End__ahead__base, e_End__ahead__pending, e_End__ahead__closed, e_End__ahead__given, e_End__ahead__got, e_End__ahead__ended, e_End__ahead__end, e_End__end__base, e_End__end__pending, e_End__end__closed, e_End__end__given, e_End__end__got, e_End__end__ended, e_End__end__ahead]
/-- what the top has left -/
structure Facts (K : PySem.W.Frag) (mg : Str → Option Value) (C_End : Addr) : Prop where
  d_End_init : DefI K mg C_End "End" "End.__init__" st_End_init ["self"]
  d_End_write : DefM K C_End "write" "End.write" st_End_write ["self", "data"]
  d_End_close : DefM K C_End "close" "End.close" st_End_close ["self"]
  d_End_due : DefM K C_End "due" "End.due" st_End_due ["self"]
  d_End_take : DefM K C_End "take" "End.take" st_End_take ["self", "offset", "data", "last", "taken"]
  d_End_taken : DefM K C_End "taken" "End.taken" st_End_taken ["self"]
  d_End_has_end : DefM K C_End "has_end" "End.has_end" st_End_has_end ["self"]
  d_End_is_given : DefM K C_End "is_given" "End.is_given" st_End_is_given ["self"]
  d_End_picture : DefM K C_End "picture" "End.picture" st_End_picture ["self"]
  d_End__learn : DefM K C_End "_learn" "End._learn" st_End__learn ["self", "taken"]
  d_End__keep : DefM K C_End "_keep" "End._keep" st_End__keep ["self", "offset", "data"]
  d_End__take_in_order : DefM K C_End "_take_in_order" "End._take_in_order" st_End__take_in_order ["self"]
  d_end_of : DefT K mg "end_of" st_end_of ["picture"]
  d__law_bag : DefT K mg "_law_bag" st__law_bag ["script"]
  d__law_draw : DefT K mg "_law_draw" st__law_draw ["bag", "many"]
  d__law_side : DefT K mg "_law_side" st__law_side []
  d__law_due : DefT K mg "_law_due" st__law_due ["side"]
  d__law_take : DefT K mg "_law_take" st__law_take ["side", "row"]
  d__law_picture : DefT K mg "_law_picture" st__law_picture ["side"]
  d__law_data : DefT K mg "_law_data" st__law_data ["bag"]
  d__law_same : DefT K mg "_law_same" st__law_same ["end", "side"]
  d__law_write : DefT K mg "_law_write" st__law_write ["bag", "end", "side"]
  d_law : DefT K mg "law" st_law ["script"]
  k_End : Cls K C_End
  n_End__ahead : NoAttr K C_End "_ahead"
  n_End__base : NoAttr K C_End "_base"
  n_End__closed : NoAttr K C_End "_closed"
  n_End__end : NoAttr K C_End "_end"
  n_End__ended : NoAttr K C_End "_ended"
  n_End__given : NoAttr K C_End "_given"
  n_End__got : NoAttr K C_End "_got"
  n_End__pending : NoAttr K C_End "_pending"
  c_MOST_DATA : ∃ t, mg "MOST_DATA" = some (.int 8 t)
  c_WINDOW : ∃ t, mg "WINDOW" = some (.int 32 t)
  z_bool : mg "bool" = none
  z_dict : mg "dict" = none
  z_enumerate : mg "enumerate" = none
  z_int : mg "int" = none
  z_isinstance : mg "isinstance" = none
  z_len : mg "len" = none
  z_list : mg "list" = none
  z_max : mg "max" = none
  z_min : mg "min" = none
  z_range : mg "range" = none
  z_sorted : mg "sorted" = none
  z_tuple : mg "tuple" = none
def b_End_init (C_End : Addr) : WS :=
  (wSeq (wFSet C_End "_base" (wVar 0) (wC (.int 0)))
    (wSeq (wFSet C_End "_pending" (wVar 0) (wLst wNil))
    (wSeq (wFSet C_End "_closed" (wVar 0) (wC (.int 0)))
    (wSeq (wFSet C_End "_given" (wVar 0) (wC (.int 0)))
    (wSeq (wFSet C_End "_got" (wVar 0) (wC (.int 0)))
    (wSeq (wFSet C_End "_ended" (wVar 0) (wC (.int 0)))
    (wSeq (wFSet C_End "_ahead" (wVar 0) wDNew)
    (wFSet C_End "_end" (wVar 0) (wC .non)))))))))
def b_End_write (C_End : Addr) : WS :=
  (wIfS (wNot (wTestI (wFld C_End "_closed" (wVar 0)))) (wDrop (wMt rExtT (wFld C_End "_pending" (wVar 0)) (wCons (wVar 1) wNil))) wNext)
def b_End_close (C_End : Addr) : WS :=
  (wFSet C_End "_closed" (wVar 0) (wC (.int 1)))
def l1_End_due (C_End : Addr) (s_End_taken : WSp) : WS :=
  (wSeq (wSet 5 (wSl (wVar 2) (wPart (wVar 4)) (wPart (wOp rAdd (wVar 4) (wC (.int 8))))))
    (wSeq (wSet 6 (wIf (wTest (wOp (rEq false) (wOp rAdd (wVar 4) (wCB rLenA (wCons (wVar 5) wNil))) (wCB rLenA (wCons (wFld C_End "_pending" (wVar 0)) wNil)))) (wFld C_End "_closed" (wVar 0)) (wC (.int 0))))
    (wDrop (wMt rAppendT (wVar 3) (wCons (wTup (wCons (wOp rAdd (wFld C_End "_base" (wVar 0)) (wVar 4)) (wCons (wVar 5) (wCons (wVar 6) (wCons (wVar 1) wNil))))) wNil)))))
def b_End_due (C_End : Addr) (s_End_taken : WSp) : WS :=
  (wSeq (wSet 1 (wMeth C_End "taken" 1 s_End_taken (wVar 0) wNil))
    (wSeq (wIfS (wTest (wOp (rEq false) (wCB rLenA (wCons (wFld C_End "_pending" (wVar 0)) wNil)) (wC (.int 0)))) (wRet (wLst (wCons (wTup (wCons (wFld C_End "_base" (wVar 0)) (wCons (wTup wNil) (wCons (wFld C_End "_closed" (wVar 0)) (wCons (wVar 1) wNil))))) wNil))) wNext)
    (wSeq (wSet 2 (wCB rTupOf (wCons (wSl (wFld C_End "_pending" (wVar 0)) wNoPart (wPart (wC (.int 32)))) wNil)))
    (wSeq (wSet 3 (wLst wNil))
    (wSeq (wFor (iRg3 (wCons (wC (.int 0)) (wCons (wCB rLenA (wCons (wVar 2) wNil)) (wCons (wC (.int 8)) wNil)))) (gNm 4) (l1_End_due C_End s_End_taken))
    (wRet (wVar 3)))))))
def b_End_take (C_End : Addr) (s_End__learn s_End__keep s_End__take_in_order : WSp) : WS :=
  (wSeq (wDrop (wMeth C_End "_learn" 2 s_End__learn (wVar 0) (wCons (wVar 4) wNil)))
    (wSeq (wDrop (wMeth C_End "_keep" 3 s_End__keep (wVar 0) (wCons (wVar 1) (wCons (wVar 2) wNil))))
    (wSeq (wIfS (wTest (wOp (rEq false) (wVar 3) (wC (.int 1)))) (wFSet C_End "_end" (wVar 0) (wOp rAdd (wVar 1) (wCB rLenA (wCons (wVar 2) wNil)))) wNext)
    (wSeq (wSet 5 (wMeth C_End "_take_in_order" 1 s_End__take_in_order (wVar 0) wNil))
    (wSeq (wIfS (wTest (wOp (rEq false) (wFld C_End "_got" (wVar 0)) (wFld C_End "_end" (wVar 0)))) (wFSet C_End "_ended" (wVar 0) (wC (.int 1))) wNext)
    (wRet (wVar 5)))))))
def b_End_taken (C_End : Addr) : WS :=
  (wRet (wOp rAdd (wFld C_End "_got" (wVar 0)) (wFld C_End "_ended" (wVar 0))))
def b_End_has_end (C_End : Addr) : WS :=
  (wRet (wOp (rEq false) (wFld C_End "_ended" (wVar 0)) (wC (.int 1))))
def b_End_is_given (C_End : Addr) : WS :=
  (wRet (wOp (rEq false) (wFld C_End "_given" (wVar 0)) (wC (.int 1))))
def b_End_picture (C_End : Addr) : WS :=
  (wSeq (wSet 1 (wSrtIt (wFld C_End "_ahead" (wVar 0))))
    (wSeq (wSet 2 (wTup (wCons (wFld C_End "_base" (wVar 0)) (wCons (wCB rTupOf (wCons (wFld C_End "_pending" (wVar 0)) wNil)) (wCons (wFld C_End "_closed" (wVar 0)) (wCons (wFld C_End "_given" (wVar 0)) wNil))))))
    (wRet (wOp rAdd (wVar 2) (wTup (wCons (wFld C_End "_got" (wVar 0)) (wCons (wFld C_End "_ended" (wVar 0)) (wCons (wVar 1) (wCons (wFld C_End "_end" (wVar 0)) wNil)))))))))
def b_End__learn (C_End : Addr) : WS :=
  (wSeq (wSet 2 (wOp rAdd (wFld C_End "_base" (wVar 0)) (wCB rLenA (wCons (wFld C_End "_pending" (wVar 0)) wNil))))
    (wSeq (wSet 3 (wCB rMax2 (wCons (wFld C_End "_base" (wVar 0)) (wCons (wCB rMin2 (wCons (wVar 1) (wCons (wVar 2) wNil))) wNil))))
    (wSeq (wFSet C_End "_pending" (wVar 0) (wSl (wFld C_End "_pending" (wVar 0)) (wPart (wOp rSub (wVar 3) (wFld C_End "_base" (wVar 0)))) wNoPart))
    (wSeq (wFSet C_End "_base" (wVar 0) (wVar 3))
    (wIfS (wAnd (wTestI (wFld C_End "_closed" (wVar 0))) (wTest (wOp rGt (wVar 1) (wVar 2)))) (wFSet C_End "_given" (wVar 0) (wC (.int 1))) wNext)))))
def l1_End__keep (C_End : Addr) : WS :=
  (wIfS (wAnd (wTest (wOp rGeI (wVar 3) (wFld C_End "_got" (wVar 0)))) (wTest (wOp (rInA true) (wVar 3) (wFld C_End "_ahead" (wVar 0))))) (wAsg (wVar 4) (gIxA (wFld C_End "_ahead" (wVar 0)) (wVar 3))) wNext)
def b_End__keep (C_End : Addr) : WS :=
  (wFor (iEnuW (wVar 2) (wVar 1)) (gTp 2 (gC (gNm 3) (gC (gNm 4) gN0))) (l1_End__keep C_End))
def l1_End__take_in_order (C_End : Addr) : WT :=
  (wTest (wOp (rInA false) (wFld C_End "_got" (wVar 0)) (wFld C_End "_ahead" (wVar 0))))
def l2_End__take_in_order (C_End : Addr) : WS :=
  (wSeq (wDrop (wMt rAppendT (wVar 1) (wCons (wPop1 (wFld C_End "_ahead" (wVar 0)) (wFld C_End "_got" (wVar 0))) wNil)))
    (wFAug C_End "_got" rAddI (wVar 0) (wC (.int 1))))
def b_End__take_in_order (C_End : Addr) : WS :=
  (wSeq (wSet 1 (wLst wNil))
    (wSeq (wWhile (l1_End__take_in_order C_End) (l2_End__take_in_order C_End))
    (wRet (wCB rTupOf (wCons (wVar 1) wNil)))))
def b_end_of (C_End : Addr) (s_End_init : WSp) : WS :=
  (wSeq (wAsg (wVar 0) (gTp 8 (gC (gNm 1) (gC (gNm 2) (gC (gNm 3) (gC (gNm 4) (gC (gNm 5) (gC (gNm 6) (gC (gNm 7) (gC (gNm 8) gN0))))))))))
    (wSeq (wSet 9 (wMake C_End 1 s_End_init wNil))
    (wSeq (wFSet C_End "_base" (wVar 9) (wVar 1))
    (wSeq (wFSet C_End "_pending" (wVar 9) (wCB rListOf (wCons (wVar 2) wNil)))
    (wSeq (wFSet C_End "_closed" (wVar 9) (wVar 3))
    (wSeq (wFSet C_End "_given" (wVar 9) (wVar 4))
    (wSeq (wFSet C_End "_got" (wVar 9) (wVar 5))
    (wSeq (wFSet C_End "_ended" (wVar 9) (wVar 6))
    (wSeq (wFSet C_End "_ahead" (wVar 9) (wCB rDictP (wCons (wVar 7) wNil)))
    (wSeq (wFSet C_End "_end" (wVar 9) (wVar 8))
    (wRet (wVar 9))))))))))))
def b__law_bag (C_End : Addr) : WS :=
  (wRet (wLst (wCons (wC (.int 0)) (wCons (wC (.int 7)) (wCons (wC (.int 0)) (wCons (wC (.int 0)) (wCons (wCB rListOf (wCons (wVar 0) wNil)) wNil)))))))
def b__law_draw (C_End : Addr) : WS :=
  (wSeq (wIfS (wTest (wOp (rEq false) (wOp rIxA (wVar 0) (wC (.int 0))) (wC (.int 0)))) (wSeq (wSet 2 (wCB rInt1 (wCons (wOp rIxA (wVar 0) (wC (.int 3))) wNil)))
    (wSeq (wSet 3 (wOp rIxA (wVar 0) (wC (.int 4))))
    (wSeq (wIfS (wTest (wOp rLt (wOp rIxA (wVar 0) (wC (.int 2))) (wCB rLenA (wCons (wVar 3) wNil)))) (wSet 2 (wCB rInt1 (wCons (wOp rIxA (wVar 3) (wOp rIxA (wVar 0) (wC (.int 2)))) wNil))) wNext)
    (wSeq (wAsg (wOp rAdd (wOp rIxA (wVar 0) (wC (.int 2))) (wC (.int 1))) (gIxA (wVar 0) (wC (.int 2))))
    (wSeq (wSet 4 (wOp rMod (wCB rInt1 (wCons (wOp rAdd (wOp rAdd (wOp rAdd (wOp rMul (wOp rIxA (wVar 0) (wC (.int 1))) (wC (.int 48271))) (wOp rMul (wVar 2) (wC (.int 69621)))) (wOp rMul (wOp rIxA (wVar 0) (wC (.int 2))) (wC (.int 16807)))) (wC (.int 11))) wNil)) (wC (.int 2147483647))))
    (wSeq (wAsg (wOp rAdd (wOp rMul (wVar 4) (wC (.int 2147483629))) (wOp rMod (wCB rInt1 (wCons (wOp rAdd (wOp rMul (wVar 4) (wVar 4)) (wVar 2)) wNil)) (wC (.int 2147483629)))) (gIxA (wVar 0) (wC (.int 0))))
    (wSeq (wIfS (wTest (wOp rGeI (wVar 2) (wOp rPow (wC (.int 10)) (wC (.int 18))))) (wAsg (wVar 2) (gIxA (wVar 0) (wC (.int 0)))) wNext)
    (wAsg (wVar 4) (gIxA (wVar 0) (wC (.int 1))))))))))) wNext)
    (wSeq (wSet 5 (wOp rIxA (wVar 0) (wC (.int 0))))
    (wSeq (wAsg (wOp rFdiv (wVar 5) (wVar 1)) (gIxA (wVar 0) (wC (.int 0))))
    (wRet (wOp rMod (wCB rInt1 (wCons (wVar 5) wNil)) (wVar 1))))))
def b__law_side (C_End : Addr) : WS :=
  (wRet (wDisp (wPCons (wC (.str "out")) (wLst wNil) (wPCons (wC (.str "closed")) (wC (.int 0)) (wPCons (wC (.str "base")) (wC (.int 0)) (wPCons (wC (.str "given")) (wC (.int 0)) (wPCons (wC (.str "seen")) wDNew (wPCons (wC (.str "got")) (wC (.int 0)) (wPCons (wC (.str "ended")) (wC (.int 0)) (wPCons (wC (.str "end")) (wC .non) wPNil))))))))))
def l1__law_due (C_End : Addr) : WS :=
  (wIfS (wTest (wOp rLt (wVar 4) (wVar 3))) (wSeq (wSet 6 (wCB rTupOf (wCons (wSl (wOp rIxA (wVar 0) (wC (.str "out"))) (wPart (wVar 4)) (wPart (wCB rMin2 (wCons (wVar 3) (wCons (wOp rAdd (wVar 4) (wC (.int 8))) wNil))))) wNil)))
    (wSeq (wSet 7 (wCB rInt1 (wCons (wAndV (wOp (rEq false) (wOp rIxA (wVar 0) (wC (.str "closed"))) (wC (.int 1))) (wOp (rEq false) (wOp rAdd (wVar 4) (wCB rLenA (wCons (wVar 6) wNil))) (wCB rLenA (wCons (wOp rIxA (wVar 0) (wC (.str "out"))) wNil)))) wNil)))
    (wSeq (wDrop (wMt rAppendT (wVar 2) (wCons (wTup (wCons (wVar 4) (wCons (wVar 6) (wCons (wVar 7) (wCons (wVar 1) wNil))))) wNil)))
    (wSet 4 (wOp rAdd (wVar 4) (wCB rLenA (wCons (wVar 6) wNil))))))) wNext)
def b__law_due (C_End : Addr) : WS :=
  (wSeq (wSet 1 (wOp rAdd (wOp rIxA (wVar 0) (wC (.str "got"))) (wOp rIxA (wVar 0) (wC (.str "ended")))))
    (wSeq (wSet 2 (wLst wNil))
    (wSeq (wSet 3 (wCB rMin2 (wCons (wCB rLenA (wCons (wOp rIxA (wVar 0) (wC (.str "out"))) wNil)) (wCons (wOp rAdd (wOp rIxA (wVar 0) (wC (.str "base"))) (wC (.int 32))) wNil))))
    (wSeq (wSet 4 (wOp rIxA (wVar 0) (wC (.str "base"))))
    (wSeq (wFor (iRg1 (wCons (wC (.int 4)) wNil)) (gNm 5) (l1__law_due C_End))
    (wSeq (wIfS (wTest (wOp (rEq false) (wCB rLenA (wCons (wVar 2) wNil)) (wC (.int 0)))) (wDrop (wMt rAppendT (wVar 2) (wCons (wTup (wCons (wOp rIxA (wVar 0) (wC (.str "base"))) (wCons (wTup wNil) (wCons (wOp rIxA (wVar 0) (wC (.str "closed"))) (wCons (wVar 1) wNil))))) wNil))) wNext)
    (wRet (wVar 2))))))))
def l1__law_take (C_End : Addr) : WS :=
  (wAsg (wOp rIxA (wVar 3) (wVar 7)) (gIxA (wVar 6) (wOp rAdd (wVar 2) (wVar 7))))
def l2__law_take (C_End : Addr) : WS :=
  (wIfS (wTest (wOp (rInA false) (wOp rIxA (wVar 0) (wC (.str "got"))) (wVar 6))) (wSeq (wDrop (wMt rAppendT (wVar 8) (wCons (wOp rIxA (wVar 6) (wOp rIxA (wVar 0) (wC (.str "got")))) wNil)))
    (wAsg (wOp rAdd (wOp rIxA (wVar 0) (wC (.str "got"))) (wC (.int 1))) (gIxA (wVar 0) (wC (.str "got"))))) wNext)
def b__law_take (C_End : Addr) : WS :=
  (wSeq (wAsg (wVar 1) (gTp 4 (gC (gNm 2) (gC (gNm 3) (gC (gNm 4) (gC (gNm 5) gN0))))))
    (wSeq (wSet 6 (wOp rIxA (wVar 0) (wC (.str "seen"))))
    (wSeq (wIfS (wTest (wOp rGt (wVar 5) (wCB rLenA (wCons (wOp rIxA (wVar 0) (wC (.str "out"))) wNil)))) (wAsg (wC (.int 1)) (gIxA (wVar 0) (wC (.str "given")))) wNext)
    (wSeq (wAsg (wCB rMax2 (wCons (wOp rIxA (wVar 0) (wC (.str "base"))) (wCons (wCB rMin2 (wCons (wVar 5) (wCons (wCB rLenA (wCons (wOp rIxA (wVar 0) (wC (.str "out"))) wNil)) wNil))) wNil))) (gIxA (wVar 0) (wC (.str "base"))))
    (wSeq (wFor (iRg1 (wCons (wCB rLenA (wCons (wVar 3) wNil)) wNil)) (gNm 7) (l1__law_take C_End))
    (wSeq (wIfS (wTest (wOp (rEq false) (wVar 4) (wC (.int 1)))) (wAsg (wOp rAdd (wVar 2) (wCB rLenA (wCons (wVar 3) wNil))) (gIxA (wVar 0) (wC (.str "end")))) wNext)
    (wSeq (wSet 8 (wLst wNil))
    (wSeq (wFor (iRg1 (wCons (wC (.int 80)) wNil)) (gNm 7) (l2__law_take C_End))
    (wSeq (wIfS (wTest (wOp (rEq false) (wOp rIxA (wVar 0) (wC (.str "got"))) (wOp rIxA (wVar 0) (wC (.str "end"))))) (wAsg (wC (.int 1)) (gIxA (wVar 0) (wC (.str "ended")))) wNext)
    (wRet (wCB rTupOf (wCons (wVar 8) wNil))))))))))))
def l1__law_picture (C_End : Addr) : WT :=
  (wTest (wOp rGeI (wVar 4) (wOp rIxA (wVar 0) (wC (.str "got")))))
def l2__law_picture (C_End : Addr) : WE :=
  (wTup (wCons (wVar 4) (wCons (wOp rIxA (wVar 2) (wVar 4)) wNil)))
def b__law_picture (C_End : Addr) : WS :=
  (wSeq (wSet 1 (wCB rTupOf (wCons (wSl (wOp rIxA (wVar 0) (wC (.str "out"))) (wPart (wOp rIxA (wVar 0) (wC (.str "base")))) wNoPart) wNil)))
    (wSeq (wSet 2 (wOp rIxA (wVar 0) (wC (.str "seen"))))
    (wSeq (wSet 3 (wCB rTupOf (wCons (wLc (iAnyW (wCB rSortDA (wCons (wVar 2) wNil))) (gNm 4) (l1__law_picture C_End) (l2__law_picture C_End) [4]) wNil)))
    (wRet (wTup (wCons (wOp rIxA (wVar 0) (wC (.str "base"))) (wCons (wVar 1) (wCons (wOp rIxA (wVar 0) (wC (.str "closed"))) (wCons (wOp rIxA (wVar 0) (wC (.str "given"))) (wCons (wOp rIxA (wVar 0) (wC (.str "got"))) (wCons (wOp rIxA (wVar 0) (wC (.str "ended"))) (wCons (wVar 3) (wCons (wOp rIxA (wVar 0) (wC (.str "end"))) wNil)))))))))))))
def l1__law_data (C_End : Addr) (s__law_draw : WSp) : WE :=
  (wCall 2 s__law_draw (wCons (wVar 0) (wCons (wC (.int 256)) wNil)))
def b__law_data (C_End : Addr) (s__law_draw : WSp) : WS :=
  (wSeq (wSet 1 (wOp rIxA (wLst (wCons (wC (.int 0)) (wCons (wC (.int 1)) (wCons (wC (.int 2)) (wCons (wC (.int 8)) (wCons (wC (.int 9)) (wCons (wC (.int 33)) (wCons (wCall 2 s__law_draw (wCons (wVar 0) (wCons (wC (.int 41)) wNil))) wNil)))))))) (wCall 2 s__law_draw (wCons (wVar 0) (wCons (wC (.int 7)) wNil)))))
    (wRet (wCB rTupOf (wCons (wLc (iRg1 (wCons (wVar 1) wNil)) (gNm 2) wYes (l1__law_data C_End s__law_draw) [2]) wNil))))
def b__law_same (C_End : Addr) (s_End_has_end s_End_is_given s_End_taken s_End_due s__law_due s_End_picture s__law_picture : WSp) : WS :=
  (wSeq (wIfS (wOr (wNot (wTest (wIsi "bool" (wMeth C_End "has_end" 1 s_End_has_end (wVar 0) wNil)))) (wNot (wTest (wIsi "bool" (wMeth C_End "is_given" 1 s_End_is_given (wVar 0) wNil))))) (wRet (wC (.bl false))) wNext)
    (wSeq (wIfS (wTest (wOp (rEq true) (wLst (wCons (wCB rInt1 (wCons (wMeth C_End "has_end" 1 s_End_has_end (wVar 0) wNil) wNil)) (wCons (wCB rInt1 (wCons (wMeth C_End "is_given" 1 s_End_is_given (wVar 0) wNil) wNil)) (wCons (wMeth C_End "taken" 1 s_End_taken (wVar 0) wNil) wNil)))) (wLst (wCons (wOp rIxA (wVar 1) (wC (.str "ended"))) (wCons (wOp rIxA (wVar 1) (wC (.str "given"))) (wCons (wOp rAdd (wOp rIxA (wVar 1) (wC (.str "got"))) (wOp rIxA (wVar 1) (wC (.str "ended")))) wNil)))))) (wRet (wC (.bl false))) wNext)
    (wSeq (wSet 2 (wMeth C_End "due" 1 s_End_due (wVar 0) wNil))
    (wSeq (wIfS (wOr (wNot (wTest (wIsi "list" (wVar 2)))) (wOr (wTest (wOp (rEq true) (wVar 2) (wCall 1 s__law_due (wCons (wVar 1) wNil)))) (wTest (wOp (rEq true) (wMeth C_End "due" 1 s_End_due (wVar 0) wNil) (wVar 2))))) (wRet (wC (.bl false))) wNext)
    (wSeq (wSet 3 (wMeth C_End "picture" 1 s_End_picture (wVar 0) wNil))
    (wRet (wAndV (wIsi "tuple" (wVar 3)) (wOp (rEq false) (wVar 3) (wCall 1 s__law_picture (wCons (wVar 1) wNil))))))))))
def b__law_write (C_End : Addr) (s__law_data s__law_draw s_End_close s_End_write : WSp) : WS :=
  (wSeq (wSet 3 (wCall 1 s__law_data (wCons (wVar 0) wNil)))
    (wSeq (wSet 4 (wOp rIxA (wVar 2) (wC (.str "out"))))
    (wSeq (wIfS (wTest (wOp (rEq false) (wOp rIxA (wVar 2) (wC (.str "closed"))) (wC (.int 1)))) (wRet (wC (.bl true))) wNext)
    (wSeq (wIfS (wTest (wOp (rEq false) (wCall 2 s__law_draw (wCons (wVar 0) (wCons (wC (.int 6)) wNil))) (wC (.int 0)))) (wSeq (wAsg (wC (.int 1)) (gIxA (wVar 2) (wC (.str "closed"))))
    (wRet (wOrV (wOp (rIsN false) (wVar 1) (wC .non)) (wOp (rIsN false) (wMeth C_End "close" 1 s_End_close (wVar 1) wNil) (wC .non))))) wNext)
    (wSeq (wDrop (wMt rExtendT (wVar 4) (wCons (wCB rListOf (wCons (wVar 3) wNil)) wNil)))
    (wRet (wOrV (wOp (rIsN false) (wVar 1) (wC .non)) (wOp (rIsN false) (wMeth C_End "write" 2 s_End_write (wVar 1) (wCons (wVar 3) wNil)) (wC .non)))))))))
def l1_law (C_End : Addr) (s__law_bag s_End_init s__law_side s__law_draw s__law_write s_end_of s_End_picture s__law_due s_End_take s__law_take s__law_same : WSp) : WT :=
  (wTest (wOp (rInDt true) (wVar 8) (wOp rIxA (wVar 4) (wVar 7))))
def l2_law (C_End : Addr) (s__law_bag s_End_init s__law_side s__law_draw s__law_write s_end_of s_End_picture s__law_due s_End_take s__law_take s__law_same : WSp) : WE :=
  (wVar 8)
def l3_law (C_End : Addr) (s__law_bag s_End_init s__law_side s__law_draw s__law_write s_end_of s_End_picture s__law_due s_End_take s__law_take s__law_same : WSp) : WS :=
  (wAsg (wOp rAdd (wOp rIxA (wVar 4) (wVar 7)) (wLc (iAnyW (wCall 1 s__law_due (wCons (wOp rIxA (wVar 3) (wVar 7)) wNil))) (gNm 8) (l1_law C_End s__law_bag s_End_init s__law_side s__law_draw s__law_write s_end_of s_End_picture s__law_due s_End_take s__law_take s__law_same) (l2_law C_End s__law_bag s_End_init s__law_side s__law_draw s__law_write s_end_of s_End_picture s__law_due s_End_take s__law_take s__law_same) [8])) (gIxA (wVar 4) (wVar 7)))
def l4_law (C_End : Addr) (s__law_bag s_End_init s__law_side s__law_draw s__law_write s_end_of s_End_picture s__law_due s_End_take s__law_take s__law_same : WSp) : WS :=
  (wSeq (wSet 6 (wCall 2 s__law_draw (wCons (wVar 1) (wCons (wC (.int 10)) wNil))))
    (wSeq (wIfS (wAnd (wTest (wOp rLt (wVar 6) (wC (.int 3)))) (wNot (wTest (wCall 3 s__law_write (wCons (wVar 1) (wCons (wOp rIxA (wLst (wCons (wVar 2) (wCons (wC .non) wNil))) (wCB rInt1 (wCons (wOp rGt (wVar 6) (wC (.int 0))) wNil))) (wCons (wOp rIxA (wVar 3) (wCB rInt1 (wCons (wOp rGt (wVar 6) (wC (.int 0))) wNil))) wNil))))))) (wRet (wC (.bl false))) wNext)
    (wSeq (wIfS (wTest (wOp (rEq false) (wVar 6) (wC (.int 3)))) (wSet 2 (wCall 1 s_end_of (wCons (wMeth C_End "picture" 1 s_End_picture (wVar 2) wNil) wNil))) wNext)
    (wSeq (wFor (iRg1 (wCons (wC (.int 2)) wNil)) (gNm 7) (l3_law C_End s__law_bag s_End_init s__law_side s__law_draw s__law_write s_end_of s_End_picture s__law_due s_End_take s__law_take s__law_same))
    (wSeq (wSet 7 (wCB rInt1 (wCons (wOp rGt (wVar 6) (wC (.int 6))) wNil)))
    (wSeq (wSet 8 (wOp rIxA (wOp rIxA (wVar 4) (wVar 7)) (wOp rIxA (wLst (wCons (wCall 2 s__law_draw (wCons (wVar 1) (wCons (wCB rLenA (wCons (wOp rIxA (wVar 4) (wVar 7)) wNil)) wNil))) (wCons (wOp rSub (wCB rLenA (wCons (wOp rIxA (wVar 4) (wVar 7)) wNil)) (wC (.int 1))) wNil))) (wCall 2 s__law_draw (wCons (wVar 1) (wCons (wC (.int 2)) wNil))))))
    (wSeq (wIfS (wAnd (wTest (wOp rGt (wVar 6) (wC (.int 6)))) (wTest (wOp (rEq true) (wMeth C_End "take" 5 s_End_take (wVar 2) (wCons (wOp rIxA (wVar 8) (wC (.int 0))) (wCons (wOp rIxA (wVar 8) (wC (.int 1))) (wCons (wOp rIxA (wVar 8) (wC (.int 2))) (wCons (wOp rIxA (wVar 8) (wC (.int 3))) wNil))))) (wCall 2 s__law_take (wCons (wOp rIxA (wVar 3) (wC (.int 0))) (wCons (wVar 8) wNil)))))) (wRet (wC (.bl false))) wNext)
    (wSeq (wIfS (wAnd (wTest (wOp rGt (wVar 6) (wC (.int 3)))) (wTest (wOp rLt (wVar 6) (wC (.int 7))))) (wDrop (wCall 2 s__law_take (wCons (wOp rIxA (wVar 3) (wC (.int 1))) (wCons (wVar 8) wNil)))) wNext)
    (wIfS (wNot (wTest (wCall 2 s__law_same (wCons (wVar 2) (wCons (wOp rIxA (wVar 3) (wC (.int 0))) wNil))))) (wRet (wC (.bl false))) wNext)))))))))
def b_law (C_End : Addr) (s__law_bag s_End_init s__law_side s__law_draw s__law_write s_end_of s_End_picture s__law_due s_End_take s__law_take s__law_same : WSp) : WS :=
  (wSeq (wSet 1 (wCall 1 s__law_bag (wCons (wVar 0) wNil)))
    (wSeq (wSet 2 (wMake C_End 1 s_End_init wNil))
    (wSeq (wSet 3 (wLst (wCons (wCall 0 s__law_side wNil) (wCons (wCall 0 s__law_side wNil) wNil))))
    (wSeq (wSet 4 (wLst (wCons (wLst wNil) (wCons (wLst wNil) wNil))))
    (wSeq (wFor (iRg1 (wCons (wOp rAdd (wC (.int 1)) (wCall 2 s__law_draw (wCons (wVar 1) (wCons (wC (.int 40)) wNil)))) wNil)) (gNm 5) (l4_law C_End s__law_bag s_End_init s__law_side s__law_draw s__law_write s_end_of s_End_picture s__law_due s_End_take s__law_take s__law_same))
    (wRet (wC (.bl true))))))))
section
variable {C_End : Addr} {P : Program} {w : World} {K : PySem.W.Frag} {mg : Str → Option Value} {base : Heap}
theorem fn_End_init (T : Facts K mg C_End) {k : Nat} {f : Addr} {fd : FuncData} {tl : List Addr}  {sp : WSp} (F : Fun K "__init__" "End.__init__" st_End_init f fd) 
    (hw : ∀ ts S Q E, ts.length = 1 → sp ts S Q E → b_End_init C_End  { nx := fun _ S' => Q .non S', rt := Q } (startT N_End_init ts) S) :
    FnOk P w K mg base CX0 (k + 1) f fd ["self"] (Lsp tl K 1 sp) :=
  fnT F sc_End_init (fun cdv A outer s H E hr hcd ht => (jss_cons (js_fset T.k_End T.n_End__base (j_var 0) j_int)
    (jss_cons (js_fset T.k_End T.n_End__pending (j_var 0) (j_lst ja_nil))
    (jss_cons (js_fset T.k_End T.n_End__closed (j_var 0) j_int)
    (jss_cons (js_fset T.k_End T.n_End__given (j_var 0) j_int)
    (jss_cons (js_fset T.k_End T.n_End__got (j_var 0) j_int)
    (jss_cons (js_fset T.k_End T.n_End__ended (j_var 0) j_int)
    (jss_cons (js_fset T.k_End T.n_End__ahead (j_var 0) j_dnew)
    (jss_one (js_fset T.k_End T.n_End__end (j_var 0) j_non)))))))))) hw
theorem fn_End_write (T : Facts K mg C_End) {k : Nat} {f : Addr} {fd : FuncData} {tl : List Addr}  {sp : WSp} (F : Fun K "write" "End.write" st_End_write f fd) 
    (hw : ∀ ts S Q E, ts.length = 2 → sp ts S Q E → b_End_write C_End  { nx := fun _ S' => Q .non S', rt := Q } (startT N_End_write ts) S) :
    FnOk P w K mg base CX0 (k + 1) f fd ["self", "data"] (Lsp tl K 2 sp) :=
  fnT F sc_End_write (fun cdv A outer s H E hr hcd ht => (jss_one (js_if (jt_not (jt_valI (j_fld T.k_End T.n_End__closed (j_var 0)))) (jss_one (js_expr (j_mtL PySem.F.slot_list_extend PySem.F.type_list_extend m_extT (j_fld T.k_End T.n_End__pending (j_var 0)) (ja_cons (j_var 1) ja_nil)))) jss_nil))) hw
theorem fn_End_close (T : Facts K mg C_End) {k : Nat} {f : Addr} {fd : FuncData} {tl : List Addr}  {sp : WSp} (F : Fun K "close" "End.close" st_End_close f fd) 
    (hw : ∀ ts S Q E, ts.length = 1 → sp ts S Q E → b_End_close C_End  { nx := fun _ S' => Q .non S', rt := Q } (startT N_End_close ts) S) :
    FnOk P w K mg base CX0 (k + 1) f fd ["self"] (Lsp tl K 1 sp) :=
  fnT F sc_End_close (fun cdv A outer s H E hr hcd ht => (jss_one (js_fset T.k_End T.n_End__closed (j_var 0) j_int))) hw
theorem fn_End_due (T : Facts K mg C_End) {k : Nat} {f : Addr} {fd : FuncData} {tl : List Addr} {s_End_taken : WSp} {sp : WSp} (F : Fun K "due" "End.due" st_End_due f fd) (M_End_taken : CalM P w K mg base tl k C_End "taken" ["self"] s_End_taken)
    (hw : ∀ ts S Q E, ts.length = 1 → sp ts S Q E → b_End_due C_End s_End_taken { nx := fun _ S' => Q .non S', rt := Q } (startT N_End_due ts) S) :
    FnOk P w K mg base CX0 (k + 1) f fd ["self"] (Lsp tl K 1 sp) :=
  fnT F sc_End_due (fun cdv A outer s H E hr hcd ht => (jss_cons (js_set (i := 1) sc_End_due.nd rfl (by first | exact .inl rfl | exact .inr rfl) (j_meth0 M_End_taken T.k_End ht hr (j_var 0)))
    (jss_cons (js_if (jt_cmp (o_eq hr.units) (j_callB c_lenA (by rfl) T.z_len PySem.boot_len (ja_cons (j_fld T.k_End T.n_End__pending (j_var 0)) ja_nil)) j_int (nomark _)) (jss_one (js_ret (j_lst (ja_cons (j_tup (ja_cons (j_fld T.k_End T.n_End__base (j_var 0)) (ja_cons (j_tup ja_nil) (ja_cons (j_fld T.k_End T.n_End__closed (j_var 0)) (ja_cons (j_var 1) ja_nil))))) ja_nil)))) jss_nil)
    (jss_cons (js_set (i := 2) sc_End_due.nd rfl (by first | exact .inl rfl | exact .inr rfl) (j_callTy c_tup (by rfl) T.z_tuple (by rfl) (ja_cons (j_slice (j_fld T.k_End T.n_End__pending (j_var 0)) jo_none (jo_some (j_cI (by rfl) T.c_WINDOW))) ja_nil)))
    (jss_cons (js_set (i := 3) sc_End_due.nd rfl (by first | exact .inl rfl | exact .inr rfl) (j_lst ja_nil))
    (jss_cons (js_for PassesOwn.never rfl (ji_rg3 (by rfl) T.z_range (ja_cons j_int (ja_cons (j_callB c_lenA (by rfl) T.z_len PySem.boot_len (ja_cons (j_var 2) ja_nil)) (ja_cons (j_cI (by rfl) T.c_MOST_DATA) ja_nil)))) (jg_name (i := 4) (vs := [4]) sc_End_due.nd rfl (by first | exact .inl rfl | exact .inr rfl) (by decide))
    (jss_cons (js_set (i := 5) sc_End_due.nd rfl (by first | exact .inl rfl | exact .inr rfl) (j_slice (j_var 2) (jo_some (j_var 4)) (jo_some (j_op o_add (j_var 4) (j_cI (by rfl) T.c_MOST_DATA)))))
    (jss_cons (js_set (i := 6) sc_End_due.nd rfl (by first | exact .inl rfl | exact .inr rfl) (j_ifExp (jt_cmp (o_eq hr.units) (j_op o_add (j_var 4) (j_callB c_lenA (by rfl) T.z_len PySem.boot_len (ja_cons (j_var 5) ja_nil))) (j_callB c_lenA (by rfl) T.z_len PySem.boot_len (ja_cons (j_fld T.k_End T.n_End__pending (j_var 0)) ja_nil)) (nomark _)) (j_fld T.k_End T.n_End__closed (j_var 0)) j_int))
    (jss_one (js_expr (j_mtL PySem.F.slot_list_append PySem.F.type_list_append m_append (j_var 3) (ja_cons (j_tup (ja_cons (j_op o_add (j_fld T.k_End T.n_End__base (j_var 0)) (j_var 4)) (ja_cons (j_var 5) (ja_cons (j_var 6) (ja_cons (j_var 1) ja_nil))))) ja_nil)))))))
    (jss_one (js_ret (j_var 3))))))))) hw
theorem fn_End_take (T : Facts K mg C_End) {k : Nat} {f : Addr} {fd : FuncData} {tl : List Addr} {s_End__learn s_End__keep s_End__take_in_order : WSp} {sp : WSp} (F : Fun K "take" "End.take" st_End_take f fd) (M_End__learn : CalM P w K mg base tl k C_End "_learn" ["self", "taken"] s_End__learn) (M_End__keep : CalM P w K mg base tl k C_End "_keep" ["self", "offset", "data"] s_End__keep) (M_End__take_in_order : CalM P w K mg base tl k C_End "_take_in_order" ["self"] s_End__take_in_order)
    (hw : ∀ ts S Q E, ts.length = 5 → sp ts S Q E → b_End_take C_End s_End__learn s_End__keep s_End__take_in_order { nx := fun _ S' => Q .non S', rt := Q } (startT N_End_take ts) S) :
    FnOk P w K mg base CX0 (k + 1) f fd ["self", "offset", "data", "last", "taken"] (Lsp tl K 5 sp) :=
  fnT F sc_End_take (fun cdv A outer s H E hr hcd ht => (jss_cons (js_expr (j_meth M_End__learn T.k_End ht hr (j_var 0) (ja_cons (j_var 4) ja_nil)))
    (jss_cons (js_expr (j_meth M_End__keep T.k_End ht hr (j_var 0) (ja_cons (j_var 1) (ja_cons (j_var 2) ja_nil))))
    (jss_cons (js_if (jt_cmp (o_eq hr.units) (j_var 3) j_int (nomark _)) (jss_one (js_fset T.k_End T.n_End__end (j_var 0) (j_op o_add (j_var 1) (j_callB c_lenA (by rfl) T.z_len PySem.boot_len (ja_cons (j_var 2) ja_nil))))) jss_nil)
    (jss_cons (js_set (i := 5) sc_End_take.nd rfl (by first | exact .inl rfl | exact .inr rfl) (j_meth0 M_End__take_in_order T.k_End ht hr (j_var 0)))
    (jss_cons (js_if (jt_cmp (o_eq hr.units) (j_fld T.k_End T.n_End__got (j_var 0)) (j_fld T.k_End T.n_End__end (j_var 0)) (nomark _)) (jss_one (js_fset T.k_End T.n_End__ended (j_var 0) j_int)) jss_nil)
    (jss_one (js_ret (j_var 5))))))))) hw
theorem fn_End_taken (T : Facts K mg C_End) {k : Nat} {f : Addr} {fd : FuncData} {tl : List Addr}  {sp : WSp} (F : Fun K "taken" "End.taken" st_End_taken f fd) 
    (hw : ∀ ts S Q E, ts.length = 1 → sp ts S Q E → b_End_taken C_End  { nx := fun _ S' => Q .non S', rt := Q } (startT N_End_taken ts) S) :
    FnOk P w K mg base CX0 (k + 1) f fd ["self"] (Lsp tl K 1 sp) :=
  fnT F sc_End_taken (fun cdv A outer s H E hr hcd ht => (jss_one (js_ret (j_op o_add (j_fld T.k_End T.n_End__got (j_var 0)) (j_fld T.k_End T.n_End__ended (j_var 0)))))) hw
theorem fn_End_has_end (T : Facts K mg C_End) {k : Nat} {f : Addr} {fd : FuncData} {tl : List Addr}  {sp : WSp} (F : Fun K "has_end" "End.has_end" st_End_has_end f fd) 
    (hw : ∀ ts S Q E, ts.length = 1 → sp ts S Q E → b_End_has_end C_End  { nx := fun _ S' => Q .non S', rt := Q } (startT N_End_has_end ts) S) :
    FnOk P w K mg base CX0 (k + 1) f fd ["self"] (Lsp tl K 1 sp) :=
  fnT F sc_End_has_end (fun cdv A outer s H E hr hcd ht => (jss_one (js_ret (j_cmp (o_eq hr.units) (j_fld T.k_End T.n_End__ended (j_var 0)) j_int (nomark _))))) hw
theorem fn_End_is_given (T : Facts K mg C_End) {k : Nat} {f : Addr} {fd : FuncData} {tl : List Addr}  {sp : WSp} (F : Fun K "is_given" "End.is_given" st_End_is_given f fd) 
    (hw : ∀ ts S Q E, ts.length = 1 → sp ts S Q E → b_End_is_given C_End  { nx := fun _ S' => Q .non S', rt := Q } (startT N_End_is_given ts) S) :
    FnOk P w K mg base CX0 (k + 1) f fd ["self"] (Lsp tl K 1 sp) :=
  fnT F sc_End_is_given (fun cdv A outer s H E hr hcd ht => (jss_one (js_ret (j_cmp (o_eq hr.units) (j_fld T.k_End T.n_End__given (j_var 0)) j_int (nomark _))))) hw
theorem fn_End_picture (T : Facts K mg C_End) {k : Nat} {f : Addr} {fd : FuncData} {tl : List Addr}  {sp : WSp} (F : Fun K "picture" "End.picture" st_End_picture f fd) 
    (hw : ∀ ts S Q E, ts.length = 1 → sp ts S Q E → b_End_picture C_End  { nx := fun _ S' => Q .non S', rt := Q } (startT N_End_picture ts) S) :
    FnOk P w K mg base CX0 (k + 1) f fd ["self"] (Lsp tl K 1 sp) :=
  fnT F sc_End_picture (fun cdv A outer s H E hr hcd ht => (jss_cons (js_set (i := 1) sc_End_picture.nd rfl (by first | exact .inl rfl | exact .inr rfl) (j_srtIt rfl (by rfl) T.z_tuple (by rfl) T.z_sorted (j_fld T.k_End T.n_End__ahead (j_var 0))))
    (jss_cons (js_set (i := 2) sc_End_picture.nd rfl (by first | exact .inl rfl | exact .inr rfl) (j_tup (ja_cons (j_fld T.k_End T.n_End__base (j_var 0)) (ja_cons (j_callTy c_tup (by rfl) T.z_tuple (by rfl) (ja_cons (j_fld T.k_End T.n_End__pending (j_var 0)) ja_nil)) (ja_cons (j_fld T.k_End T.n_End__closed (j_var 0)) (ja_cons (j_fld T.k_End T.n_End__given (j_var 0)) ja_nil))))))
    (jss_one (js_ret (j_op o_add (j_var 2) (j_tup (ja_cons (j_fld T.k_End T.n_End__got (j_var 0)) (ja_cons (j_fld T.k_End T.n_End__ended (j_var 0)) (ja_cons (j_var 1) (ja_cons (j_fld T.k_End T.n_End__end (j_var 0)) ja_nil))))))))))) hw
theorem fn_End__learn (T : Facts K mg C_End) {k : Nat} {f : Addr} {fd : FuncData} {tl : List Addr}  {sp : WSp} (F : Fun K "_learn" "End._learn" st_End__learn f fd) 
    (hw : ∀ ts S Q E, ts.length = 2 → sp ts S Q E → b_End__learn C_End  { nx := fun _ S' => Q .non S', rt := Q } (startT N_End__learn ts) S) :
    FnOk P w K mg base CX0 (k + 1) f fd ["self", "taken"] (Lsp tl K 2 sp) :=
  fnT F sc_End__learn (fun cdv A outer s H E hr hcd ht => (jss_cons (js_set (i := 2) sc_End__learn.nd rfl (by first | exact .inl rfl | exact .inr rfl) (j_op o_add (j_fld T.k_End T.n_End__base (j_var 0)) (j_callB c_lenA (by rfl) T.z_len PySem.boot_len (ja_cons (j_fld T.k_End T.n_End__pending (j_var 0)) ja_nil))))
    (jss_cons (js_set (i := 3) sc_End__learn.nd rfl (by first | exact .inl rfl | exact .inr rfl) (j_callB (c_max2 rfl) (by rfl) T.z_max (by rfl) (ja_cons (j_fld T.k_End T.n_End__base (j_var 0)) (ja_cons (j_callB (c_min2 rfl) (by rfl) T.z_min (by rfl) (ja_cons (j_var 1) (ja_cons (j_var 2) ja_nil))) ja_nil))))
    (jss_cons (js_fset T.k_End T.n_End__pending (j_var 0) (j_slice (j_fld T.k_End T.n_End__pending (j_var 0)) (jo_some (j_op o_sub (j_var 3) (j_fld T.k_End T.n_End__base (j_var 0)))) jo_none))
    (jss_cons (js_fset T.k_End T.n_End__base (j_var 0) (j_var 3))
    (jss_one (js_if (JW.jt (jw_and (jt_valI (j_fld T.k_End T.n_End__closed (j_var 0))) (jw_and1 (jt_cmp o_gtA (j_var 1) (j_var 2) (nomark _))))) (jss_one (js_fset T.k_End T.n_End__given (j_var 0) j_int)) jss_nil))))))) hw
theorem fn_End__keep (T : Facts K mg C_End) {k : Nat} {f : Addr} {fd : FuncData} {tl : List Addr}  {sp : WSp} (F : Fun K "_keep" "End._keep" st_End__keep f fd) 
    (hw : ∀ ts S Q E, ts.length = 3 → sp ts S Q E → b_End__keep C_End  { nx := fun _ S' => Q .non S', rt := Q } (startT N_End__keep ts) S) :
    FnOk P w K mg base CX0 (k + 1) f fd ["self", "offset", "data"] (Lsp tl K 3 sp) :=
  fnT F sc_End__keep (fun cdv A outer s H E hr hcd ht => (jss_one (js_for PassesOwn.never rfl (ji_enu (by rfl) T.z_enumerate (j_var 2) (j_var 1)) (jg_tup rfl (jgs_cons (jg_name (i := 3) (vs := [3, 4]) sc_End__keep.nd rfl (by first | exact .inl rfl | exact .inr rfl) (by decide)) (jgs_cons (jg_name (i := 4) (vs := [3, 4]) sc_End__keep.nd rfl (by first | exact .inl rfl | exact .inr rfl) (by decide)) jgs_nil)))
    (jss_one (js_if (JW.jt (jw_and (jt_cmp o_ge (j_var 3) (j_fld T.k_End T.n_End__got (j_var 0)) (nomark _)) (jw_and1 (jt_cmp (o_notInA (hu_of hr)) (j_var 3) (j_fld T.k_End T.n_End__ahead (j_var 0)) (by rfl))))) (jss_one (js_asg (j_var 4) (jg_ixA (hu_of hr) (j_fld T.k_End T.n_End__ahead (j_var 0)) (j_var 3)))) jss_nil))))) hw
theorem fn_End__take_in_order (T : Facts K mg C_End) {k : Nat} {f : Addr} {fd : FuncData} {tl : List Addr}  {sp : WSp} (F : Fun K "_take_in_order" "End._take_in_order" st_End__take_in_order f fd) 
    (hw : ∀ ts S Q E, ts.length = 1 → sp ts S Q E → b_End__take_in_order C_End  { nx := fun _ S' => Q .non S', rt := Q } (startT N_End__take_in_order ts) S) :
    FnOk P w K mg base CX0 (k + 1) f fd ["self"] (Lsp tl K 1 sp) :=
  fnT F sc_End__take_in_order (fun cdv A outer s H E hr hcd ht => (jss_cons (js_set (i := 1) sc_End__take_in_order.nd rfl (by first | exact .inl rfl | exact .inr rfl) (j_lst ja_nil))
    (jss_cons (js_while PassesOwn.never (jt_cmp (o_inA (hu_of hr)) (j_fld T.k_End T.n_End__got (j_var 0)) (j_fld T.k_End T.n_End__ahead (j_var 0)) (by rfl)) (jss_cons (js_expr (j_mtL PySem.F.slot_list_append PySem.F.type_list_append m_append (j_var 1) (ja_cons (j_pop1 (j_fld T.k_End T.n_End__ahead (j_var 0)) (j_fld T.k_End T.n_End__got (j_var 0))) ja_nil)))
    (jss_one (js_faug T.k_End T.n_End__got (j_var 0) j_int io_add))))
    (jss_one (js_ret (j_callTy c_tup (by rfl) T.z_tuple (by rfl) (ja_cons (j_var 1) ja_nil))))))) hw
theorem fn_end_of (T : Facts K mg C_End) {k : Nat} {f : Addr} {fd : FuncData} {tl : List Addr} {s_End_init : WSp} {sp : WSp} (F : Fun K "end_of" "end_of" st_end_of f fd) (I_End_init : CalI P w K mg base tl k C_End "End" ["self"] s_End_init)
    (hw : ∀ ts S Q E, ts.length = 1 → sp ts S Q E → b_end_of C_End s_End_init { nx := fun _ S' => Q .non S', rt := Q } (startT N_end_of ts) S) :
    FnOk P w K mg base CX0 (k + 2) f fd ["picture"] (Lsp tl K 1 sp) :=
  fnT F sc_end_of (fun cdv A outer s H E hr1 hcd ht => have hr := Room.mono hr1 (Nat.le_succ k); (jss_cons (js_asg (j_var 0) (JG.two (jg_tup rfl (jgs_cons (jg_name (i := 1) (vs := [1, 2, 3, 4, 5, 6, 7, 8]) sc_end_of.nd rfl (by first | exact .inl rfl | exact .inr rfl) (by decide)) (jgs_cons (jg_name (i := 2) (vs := [1, 2, 3, 4, 5, 6, 7, 8]) sc_end_of.nd rfl (by first | exact .inl rfl | exact .inr rfl) (by decide)) (jgs_cons (jg_name (i := 3) (vs := [1, 2, 3, 4, 5, 6, 7, 8]) sc_end_of.nd rfl (by first | exact .inl rfl | exact .inr rfl) (by decide)) (jgs_cons (jg_name (i := 4) (vs := [1, 2, 3, 4, 5, 6, 7, 8]) sc_end_of.nd rfl (by first | exact .inl rfl | exact .inr rfl) (by decide)) (jgs_cons (jg_name (i := 5) (vs := [1, 2, 3, 4, 5, 6, 7, 8]) sc_end_of.nd rfl (by first | exact .inl rfl | exact .inr rfl) (by decide)) (jgs_cons (jg_name (i := 6) (vs := [1, 2, 3, 4, 5, 6, 7, 8]) sc_end_of.nd rfl (by first | exact .inl rfl | exact .inr rfl) (by decide)) (jgs_cons (jg_name (i := 7) (vs := [1, 2, 3, 4, 5, 6, 7, 8]) sc_end_of.nd rfl (by first | exact .inl rfl | exact .inr rfl) (by decide)) (jgs_cons (jg_name (i := 8) (vs := [1, 2, 3, 4, 5, 6, 7, 8]) sc_end_of.nd rfl (by first | exact .inl rfl | exact .inr rfl) (by decide)) jgs_nil)))))))))))
    (jss_cons (js_set (i := 9) sc_end_of.nd rfl (by first | exact .inl rfl | exact .inr rfl) (j_make0 I_End_init ht hr1 (by rfl)))
    (jss_cons (js_fset T.k_End T.n_End__base (j_var 9) (j_var 1))
    (jss_cons (js_fset T.k_End T.n_End__pending (j_var 9) (j_callTy c_list (by rfl) T.z_list (by rfl) (ja_cons (j_var 2) ja_nil)))
    (jss_cons (js_fset T.k_End T.n_End__closed (j_var 9) (j_var 3))
    (jss_cons (js_fset T.k_End T.n_End__given (j_var 9) (j_var 4))
    (jss_cons (js_fset T.k_End T.n_End__got (j_var 9) (j_var 5))
    (jss_cons (js_fset T.k_End T.n_End__ended (j_var 9) (j_var 6))
    (jss_cons (js_fset T.k_End T.n_End__ahead (j_var 9) (j_callTy (c_dictP rfl) (by rfl) T.z_dict (by rfl) (ja_cons (j_var 7) ja_nil)))
    (jss_cons (js_fset T.k_End T.n_End__end (j_var 9) (j_var 8))
    (jss_one (js_ret (j_var 9)))))))))))))) hw
theorem fn__law_bag (T : Facts K mg C_End) {k : Nat} {f : Addr} {fd : FuncData} {tl : List Addr}  {sp : WSp} (F : Fun K "_law_bag" "_law_bag" st__law_bag f fd) 
    (hw : ∀ ts S Q E, ts.length = 1 → sp ts S Q E → b__law_bag C_End  { nx := fun _ S' => Q .non S', rt := Q } (startT N__law_bag ts) S) :
    FnOk P w K mg base CX0 (k + 1) f fd ["script"] (Lsp tl K 1 sp) :=
  fnT F sc__law_bag (fun cdv A outer s H E hr hcd ht => (jss_one (js_ret (j_lst (ja_cons j_int (ja_cons j_int (ja_cons j_int (ja_cons j_int (ja_cons (j_callTy c_list (by rfl) T.z_list (by rfl) (ja_cons (j_var 0) ja_nil)) ja_nil))))))))) hw
theorem fn__law_draw (T : Facts K mg C_End) {k : Nat} {f : Addr} {fd : FuncData} {tl : List Addr}  {sp : WSp} (F : Fun K "_law_draw" "_law_draw" st__law_draw f fd) 
    (hw : ∀ ts S Q E, ts.length = 2 → sp ts S Q E → b__law_draw C_End  { nx := fun _ S' => Q .non S', rt := Q } (startT N__law_draw ts) S) :
    FnOk P w K mg base CX0 (k + 1) f fd ["bag", "many"] (Lsp tl K 2 sp) :=
  fnT F sc__law_draw (fun cdv A outer s H E hr hcd ht => (jss_cons (js_if (jt_cmp (o_eq hr.units) (j_ixA (hu_of hr) (j_var 0) j_int (fun _ _ => rfl)) j_int (nomark _)) (jss_cons (js_set (i := 2) sc__law_draw.nd rfl (by first | exact .inl rfl | exact .inr rfl) (j_callTy c_int (by rfl) T.z_int (by rfl) (ja_cons (j_ixA (hu_of hr) (j_var 0) j_int (fun _ _ => rfl)) ja_nil)))
    (jss_cons (js_set (i := 3) sc__law_draw.nd rfl (by first | exact .inl rfl | exact .inr rfl) (j_ixA (hu_of hr) (j_var 0) j_int (fun _ _ => rfl)))
    (jss_cons (js_if (jt_cmp o_lt (j_ixA (hu_of hr) (j_var 0) j_int (fun _ _ => rfl)) (j_callB c_lenA (by rfl) T.z_len PySem.boot_len (ja_cons (j_var 3) ja_nil)) (nomark _)) (jss_one (js_set (i := 2) sc__law_draw.nd rfl (by first | exact .inl rfl | exact .inr rfl) (j_callTy c_int (by rfl) T.z_int (by rfl) (ja_cons (j_ixA (hu_of hr) (j_var 3) (j_ixA (hu_of hr) (j_var 0) j_int (fun _ _ => rfl)) (fun _ _ => rfl)) ja_nil)))) jss_nil)
    (jss_cons (js_asg (j_op o_add (j_ixA (hu_of hr) (j_var 0) j_int (fun _ _ => rfl)) j_int) (jg_ixA (hu_of hr) (j_var 0) j_int))
    (jss_cons (js_set (i := 4) sc__law_draw.nd rfl (by first | exact .inl rfl | exact .inr rfl) (j_op o_mod (j_callTy c_int (by rfl) T.z_int (by rfl) (ja_cons (j_op o_add (j_op o_add (j_op o_add (j_op o_mul (j_ixA (hu_of hr) (j_var 0) j_int (fun _ _ => rfl)) j_int) (j_op o_mul (j_var 2) j_int)) (j_op o_mul (j_ixA (hu_of hr) (j_var 0) j_int (fun _ _ => rfl)) j_int)) j_int) ja_nil)) j_int))
    (jss_cons (js_asg (j_op o_add (j_op o_mul (j_var 4) j_int) (j_op o_mod (j_callTy c_int (by rfl) T.z_int (by rfl) (ja_cons (j_op o_add (j_op o_mul (j_var 4) (j_var 4)) (j_var 2)) ja_nil)) j_int)) (jg_ixA (hu_of hr) (j_var 0) j_int))
    (jss_cons (js_if (jt_cmp o_ge (j_var 2) (j_op o_pow j_int j_int) (nomark _)) (jss_one (js_asg (j_var 2) (jg_ixA (hu_of hr) (j_var 0) j_int))) jss_nil)
    (jss_one (js_asg (j_var 4) (jg_ixA (hu_of hr) (j_var 0) j_int)))))))))) jss_nil)
    (jss_cons (js_set (i := 5) sc__law_draw.nd rfl (by first | exact .inl rfl | exact .inr rfl) (j_ixA (hu_of hr) (j_var 0) j_int (fun _ _ => rfl)))
    (jss_cons (js_asg (j_op o_fdiv (j_var 5) (j_var 1)) (jg_ixA (hu_of hr) (j_var 0) j_int))
    (jss_one (js_ret (j_op o_mod (j_callTy c_int (by rfl) T.z_int (by rfl) (ja_cons (j_var 5) ja_nil)) (j_var 1)))))))) hw
theorem fn__law_side (T : Facts K mg C_End) {k : Nat} {f : Addr} {fd : FuncData} {tl : List Addr}  {sp : WSp} (F : Fun K "_law_side" "_law_side" st__law_side f fd) 
    (hw : ∀ ts S Q E, ts.length = 0 → sp ts S Q E → b__law_side C_End  { nx := fun _ S' => Q .non S', rt := Q } (startT N__law_side ts) S) :
    FnOk P w K mg base CX0 (k + 1) f fd [] (Lsp tl K 0 sp) :=
  fnT F sc__law_side (fun cdv A outer s H E hr hcd ht => (jss_one (js_ret (j_disp (jp_cons j_str (j_lst ja_nil) (jp_cons j_str j_int (jp_cons j_str j_int (jp_cons j_str j_int (jp_cons j_str j_dnew (jp_cons j_str j_int (jp_cons j_str j_int (jp_cons j_str j_non jp_nil)))))))) (by rfl) (by rfl) (by decide))))) hw
theorem fn__law_due (T : Facts K mg C_End) {k : Nat} {f : Addr} {fd : FuncData} {tl : List Addr}  {sp : WSp} (F : Fun K "_law_due" "_law_due" st__law_due f fd) 
    (hw : ∀ ts S Q E, ts.length = 1 → sp ts S Q E → b__law_due C_End  { nx := fun _ S' => Q .non S', rt := Q } (startT N__law_due ts) S) :
    FnOk P w K mg base CX0 (k + 1) f fd ["side"] (Lsp tl K 1 sp) :=
  fnT F sc__law_due (fun cdv A outer s H E hr hcd ht => (jss_cons (js_set (i := 1) sc__law_due.nd rfl (by first | exact .inl rfl | exact .inr rfl) (j_op o_add (j_ixA (hu_of hr) (j_var 0) j_str (fun _ _ => rfl)) (j_ixA (hu_of hr) (j_var 0) j_str (fun _ _ => rfl))))
    (jss_cons (js_set (i := 2) sc__law_due.nd rfl (by first | exact .inl rfl | exact .inr rfl) (j_lst ja_nil))
    (jss_cons (js_set (i := 3) sc__law_due.nd rfl (by first | exact .inl rfl | exact .inr rfl) (j_callB (c_min2 rfl) (by rfl) T.z_min (by rfl) (ja_cons (j_callB c_lenA (by rfl) T.z_len PySem.boot_len (ja_cons (j_ixA (hu_of hr) (j_var 0) j_str (fun _ _ => rfl)) ja_nil)) (ja_cons (j_op o_add (j_ixA (hu_of hr) (j_var 0) j_str (fun _ _ => rfl)) j_int) ja_nil))))
    (jss_cons (js_set (i := 4) sc__law_due.nd rfl (by first | exact .inl rfl | exact .inr rfl) (j_ixA (hu_of hr) (j_var 0) j_str (fun _ _ => rfl)))
    (jss_cons (js_for PassesOwn.never rfl (ji_rg1 (by rfl) T.z_range (ja_cons j_int ja_nil)) (jg_name (i := 5) (vs := [5]) sc__law_due.nd rfl (by first | exact .inl rfl | exact .inr rfl) (by decide))
    (jss_one (js_if (jt_cmp o_lt (j_var 4) (j_var 3) (nomark _)) (jss_cons (js_set (i := 6) sc__law_due.nd rfl (by first | exact .inl rfl | exact .inr rfl) (j_callTy c_tup (by rfl) T.z_tuple (by rfl) (ja_cons (j_slice (j_ixA (hu_of hr) (j_var 0) j_str (fun _ _ => rfl)) (jo_some (j_var 4)) (jo_some (j_callB (c_min2 rfl) (by rfl) T.z_min (by rfl) (ja_cons (j_var 3) (ja_cons (j_op o_add (j_var 4) j_int) ja_nil))))) ja_nil)))
    (jss_cons (js_set (i := 7) sc__law_due.nd rfl (by first | exact .inl rfl | exact .inr rfl) (j_callTy c_int (by rfl) T.z_int (by rfl) (ja_cons (j_and (j_cmp (o_eq hr.units) (j_ixA (hu_of hr) (j_var 0) j_str (fun _ _ => rfl)) j_int (nomark _)) (j_one (j_cmp (o_eq hr.units) (j_op o_add (j_var 4) (j_callB c_lenA (by rfl) T.z_len PySem.boot_len (ja_cons (j_var 6) ja_nil))) (j_callB c_lenA (by rfl) T.z_len PySem.boot_len (ja_cons (j_ixA (hu_of hr) (j_var 0) j_str (fun _ _ => rfl)) ja_nil)) (nomark _)))) ja_nil)))
    (jss_cons (js_expr (j_mtL PySem.F.slot_list_append PySem.F.type_list_append m_append (j_var 2) (ja_cons (j_tup (ja_cons (j_var 4) (ja_cons (j_var 6) (ja_cons (j_var 7) (ja_cons (j_var 1) ja_nil))))) ja_nil)))
    (jss_one (js_set (i := 4) sc__law_due.nd rfl (by first | exact .inl rfl | exact .inr rfl) (j_op o_add (j_var 4) (j_callB c_lenA (by rfl) T.z_len PySem.boot_len (ja_cons (j_var 6) ja_nil)))))))) jss_nil)))
    (jss_cons (js_if (jt_cmp (o_eq hr.units) (j_callB c_lenA (by rfl) T.z_len PySem.boot_len (ja_cons (j_var 2) ja_nil)) j_int (nomark _)) (jss_one (js_expr (j_mtL PySem.F.slot_list_append PySem.F.type_list_append m_append (j_var 2) (ja_cons (j_tup (ja_cons (j_ixA (hu_of hr) (j_var 0) j_str (fun _ _ => rfl)) (ja_cons (j_tup ja_nil) (ja_cons (j_ixA (hu_of hr) (j_var 0) j_str (fun _ _ => rfl)) (ja_cons (j_var 1) ja_nil))))) ja_nil)))) jss_nil)
    (jss_one (js_ret (j_var 2)))))))))) hw
theorem fn__law_take (T : Facts K mg C_End) {k : Nat} {f : Addr} {fd : FuncData} {tl : List Addr}  {sp : WSp} (F : Fun K "_law_take" "_law_take" st__law_take f fd) 
    (hw : ∀ ts S Q E, ts.length = 2 → sp ts S Q E → b__law_take C_End  { nx := fun _ S' => Q .non S', rt := Q } (startT N__law_take ts) S) :
    FnOk P w K mg base CX0 (k + 1) f fd ["side", "row"] (Lsp tl K 2 sp) :=
  fnT F sc__law_take (fun cdv A outer s H E hr hcd ht => (jss_cons (js_asg (j_var 1) (JG.two (jg_tup rfl (jgs_cons (jg_name (i := 2) (vs := [2, 3, 4, 5]) sc__law_take.nd rfl (by first | exact .inl rfl | exact .inr rfl) (by decide)) (jgs_cons (jg_name (i := 3) (vs := [2, 3, 4, 5]) sc__law_take.nd rfl (by first | exact .inl rfl | exact .inr rfl) (by decide)) (jgs_cons (jg_name (i := 4) (vs := [2, 3, 4, 5]) sc__law_take.nd rfl (by first | exact .inl rfl | exact .inr rfl) (by decide)) (jgs_cons (jg_name (i := 5) (vs := [2, 3, 4, 5]) sc__law_take.nd rfl (by first | exact .inl rfl | exact .inr rfl) (by decide)) jgs_nil)))))))
    (jss_cons (js_set (i := 6) sc__law_take.nd rfl (by first | exact .inl rfl | exact .inr rfl) (j_ixA (hu_of hr) (j_var 0) j_str (fun _ _ => rfl)))
    (jss_cons (js_if (jt_cmp o_gtA (j_var 5) (j_callB c_lenA (by rfl) T.z_len PySem.boot_len (ja_cons (j_ixA (hu_of hr) (j_var 0) j_str (fun _ _ => rfl)) ja_nil)) (nomark _)) (jss_one (js_asg j_int (jg_ixA (hu_of hr) (j_var 0) j_str))) jss_nil)
    (jss_cons (js_asg (j_callB (c_max2 rfl) (by rfl) T.z_max (by rfl) (ja_cons (j_ixA (hu_of hr) (j_var 0) j_str (fun _ _ => rfl)) (ja_cons (j_callB (c_min2 rfl) (by rfl) T.z_min (by rfl) (ja_cons (j_var 5) (ja_cons (j_callB c_lenA (by rfl) T.z_len PySem.boot_len (ja_cons (j_ixA (hu_of hr) (j_var 0) j_str (fun _ _ => rfl)) ja_nil)) ja_nil))) ja_nil))) (jg_ixA (hu_of hr) (j_var 0) j_str))
    (jss_cons (js_for PassesOwn.never rfl (ji_rg1 (by rfl) T.z_range (ja_cons (j_callB c_lenA (by rfl) T.z_len PySem.boot_len (ja_cons (j_var 3) ja_nil)) ja_nil)) (jg_name (i := 7) (vs := [7]) sc__law_take.nd rfl (by first | exact .inl rfl | exact .inr rfl) (by decide))
    (jss_one (js_asg (j_ixA (hu_of hr) (j_var 3) (j_var 7) (fun _ _ => rfl)) (jg_ixA (hu_of hr) (j_var 6) (j_op o_add (j_var 2) (j_var 7))))))
    (jss_cons (js_if (jt_cmp (o_eq hr.units) (j_var 4) j_int (nomark _)) (jss_one (js_asg (j_op o_add (j_var 2) (j_callB c_lenA (by rfl) T.z_len PySem.boot_len (ja_cons (j_var 3) ja_nil))) (jg_ixA (hu_of hr) (j_var 0) j_str))) jss_nil)
    (jss_cons (js_set (i := 8) sc__law_take.nd rfl (by first | exact .inl rfl | exact .inr rfl) (j_lst ja_nil))
    (jss_cons (js_for PassesOwn.never rfl (ji_rg1 (by rfl) T.z_range (ja_cons j_int ja_nil)) (jg_name (i := 7) (vs := [7]) sc__law_take.nd rfl (by first | exact .inl rfl | exact .inr rfl) (by decide))
    (jss_one (js_if (jt_cmp (o_inA (hu_of hr)) (j_ixA (hu_of hr) (j_var 0) j_str (fun _ _ => rfl)) (j_var 6) (by rfl)) (jss_cons (js_expr (j_mtL PySem.F.slot_list_append PySem.F.type_list_append m_append (j_var 8) (ja_cons (j_ixA (hu_of hr) (j_var 6) (j_ixA (hu_of hr) (j_var 0) j_str (fun _ _ => rfl)) (fun _ _ => rfl)) ja_nil)))
    (jss_one (js_asg (j_op o_add (j_ixA (hu_of hr) (j_var 0) j_str (fun _ _ => rfl)) j_int) (jg_ixA (hu_of hr) (j_var 0) j_str)))) jss_nil)))
    (jss_cons (js_if (jt_cmp (o_eq hr.units) (j_ixA (hu_of hr) (j_var 0) j_str (fun _ _ => rfl)) (j_ixA (hu_of hr) (j_var 0) j_str (fun _ _ => rfl)) (nomark _)) (jss_one (js_asg j_int (jg_ixA (hu_of hr) (j_var 0) j_str))) jss_nil)
    (jss_one (js_ret (j_callTy c_tup (by rfl) T.z_tuple (by rfl) (ja_cons (j_var 8) ja_nil)))))))))))))) hw
theorem fn__law_picture (T : Facts K mg C_End) {k : Nat} {f : Addr} {fd : FuncData} {tl : List Addr}  {sp : WSp} (F : Fun K "_law_picture" "_law_picture" st__law_picture f fd) 
    (hw : ∀ ts S Q E, ts.length = 1 → sp ts S Q E → b__law_picture C_End  { nx := fun _ S' => Q .non S', rt := Q } (startT N__law_picture ts) S) :
    FnOk P w K mg base CX0 (k + 1) f fd ["side"] (Lsp tl K 1 sp) :=
  fnT F sc__law_picture (fun cdv A outer s H E hr hcd ht => (jss_cons (js_set (i := 1) sc__law_picture.nd rfl (by first | exact .inl rfl | exact .inr rfl) (j_callTy c_tup (by rfl) T.z_tuple (by rfl) (ja_cons (j_slice (j_ixA (hu_of hr) (j_var 0) j_str (fun _ _ => rfl)) (jo_some (j_ixA (hu_of hr) (j_var 0) j_str (fun _ _ => rfl))) jo_none) ja_nil)))
    (jss_cons (js_set (i := 2) sc__law_picture.nd rfl (by first | exact .inl rfl | exact .inr rfl) (j_ixA (hu_of hr) (j_var 0) j_str (fun _ _ => rfl)))
    (jss_cons (js_set (i := 3) sc__law_picture.nd rfl (by first | exact .inl rfl | exact .inr rfl) (j_callTy c_tup (by rfl) T.z_tuple (by rfl) (ja_cons (j_lc (own := [("k", 4)]) rfl sc__law_picture.nd (ji_any (j_callB (c_sortDA rfl) (by rfl) T.z_sorted (by rfl) (ja_cons (j_var 2) ja_nil))) (blkOk_by (N := N__law_picture) (sc := defScope st__law_picture) (by decide +kernel)) (fun _ _ _ _ _ => (jg_name (i := 4) (vs := [4]) sc__law_picture.nd rfl (by first | exact .inl rfl | exact .inr rfl) (by decide))) (fun _ _ _ _ _ => (jts_one (jt_cmp o_ge (j_var 4) (j_ixA (hu_of hr) (j_var 0) j_str (fun _ _ => rfl)) (nomark _)))) (fun _ _ _ _ _ => (j_tup (ja_cons (j_var 4) (ja_cons (j_ixA (hu_of hr) (j_var 2) (j_var 4) (fun _ _ => rfl)) ja_nil))))) ja_nil)))
    (jss_one (js_ret (j_tup (ja_cons (j_ixA (hu_of hr) (j_var 0) j_str (fun _ _ => rfl)) (ja_cons (j_var 1) (ja_cons (j_ixA (hu_of hr) (j_var 0) j_str (fun _ _ => rfl)) (ja_cons (j_ixA (hu_of hr) (j_var 0) j_str (fun _ _ => rfl)) (ja_cons (j_ixA (hu_of hr) (j_var 0) j_str (fun _ _ => rfl)) (ja_cons (j_ixA (hu_of hr) (j_var 0) j_str (fun _ _ => rfl)) (ja_cons (j_var 3) (ja_cons (j_ixA (hu_of hr) (j_var 0) j_str (fun _ _ => rfl)) ja_nil))))))))))))))) hw
theorem fn__law_data (T : Facts K mg C_End) {k : Nat} {f : Addr} {fd : FuncData} {tl : List Addr} {s__law_draw : WSp} {sp : WSp} (F : Fun K "_law_data" "_law_data" st__law_data f fd) (C__law_draw : Cal P w K mg base tl k "_law_draw" ["bag", "many"] s__law_draw)
    (hw : ∀ ts S Q E, ts.length = 1 → sp ts S Q E → b__law_data C_End s__law_draw { nx := fun _ S' => Q .non S', rt := Q } (startT N__law_data ts) S) :
    FnOk P w K mg base CX0 (k + 1) f fd ["bag"] (Lsp tl K 1 sp) :=
  fnT F sc__law_data (fun cdv A outer s H E hr hcd ht => (jss_cons (js_set (i := 1) sc__law_data.nd rfl (by first | exact .inl rfl | exact .inr rfl) (j_ixA (hu_of hr) (j_lst (ja_cons j_int (ja_cons j_int (ja_cons j_int (ja_cons j_int (ja_cons j_int (ja_cons j_int (ja_cons (j_c C__law_draw ht hr (by rfl) (ja_cons (j_var 0) (ja_cons j_int ja_nil))) ja_nil)))))))) (j_c C__law_draw ht hr (by rfl) (ja_cons (j_var 0) (ja_cons j_int ja_nil))) (fun _ _ => rfl)))
    (jss_one (js_ret (j_callTy c_tup (by rfl) T.z_tuple (by rfl) (ja_cons (j_lc (own := [("k", 2)]) rfl sc__law_data.nd (ji_rg1 (by rfl) T.z_range (ja_cons (j_var 1) ja_nil)) (blkOk_by (N := N__law_data) (sc := defScope st__law_data) (by decide +kernel)) (fun _ _ _ _ _ => (jg_name (i := 2) (vs := [2]) sc__law_data.nd rfl (by first | exact .inl rfl | exact .inr rfl) (by decide))) (fun _ _ _ _ _ => jts_nil) (fun _ _ _ _ _ => (j_c C__law_draw ht hr (by rfl) (ja_cons (j_var 0) (ja_cons j_int ja_nil))))) ja_nil)))))) hw
theorem fn__law_same (T : Facts K mg C_End) {k : Nat} {f : Addr} {fd : FuncData} {tl : List Addr} {s_End_has_end s_End_is_given s_End_taken s_End_due s__law_due s_End_picture s__law_picture : WSp} {sp : WSp} (F : Fun K "_law_same" "_law_same" st__law_same f fd) (M_End_has_end : CalM P w K mg base tl k C_End "has_end" ["self"] s_End_has_end) (M_End_is_given : CalM P w K mg base tl k C_End "is_given" ["self"] s_End_is_given) (M_End_taken : CalM P w K mg base tl k C_End "taken" ["self"] s_End_taken) (M_End_due : CalM P w K mg base tl k C_End "due" ["self"] s_End_due) (C__law_due : Cal P w K mg base tl k "_law_due" ["side"] s__law_due) (M_End_picture : CalM P w K mg base tl k C_End "picture" ["self"] s_End_picture) (C__law_picture : Cal P w K mg base tl k "_law_picture" ["side"] s__law_picture)
    (hw : ∀ ts S Q E, ts.length = 2 → sp ts S Q E → b__law_same C_End s_End_has_end s_End_is_given s_End_taken s_End_due s__law_due s_End_picture s__law_picture { nx := fun _ S' => Q .non S', rt := Q } (startT N__law_same ts) S) :
    FnOk P w K mg base CX0 (k + 1) f fd ["end", "side"] (Lsp tl K 2 sp) :=
  fnT F sc__law_same (fun cdv A outer s H E hr hcd ht => (jss_cons (js_if (JW.jt (jw_or (jt_not (jt_val (j_isi (cs := "bool") (by rfl) T.z_isinstance (by rfl) (j_meth0 M_End_has_end T.k_End ht hr (j_var 0)) (by rfl) T.z_bool (by rfl) (by decide)))) (jw_or1 (jt_not (jt_val (j_isi (cs := "bool") (by rfl) T.z_isinstance (by rfl) (j_meth0 M_End_is_given T.k_End ht hr (j_var 0)) (by rfl) T.z_bool (by rfl) (by decide))))))) (jss_one (js_ret j_bl)) jss_nil)
    (jss_cons (js_if (jt_cmp (o_ne hr.units) (j_lst (ja_cons (j_callTy c_int (by rfl) T.z_int (by rfl) (ja_cons (j_meth0 M_End_has_end T.k_End ht hr (j_var 0)) ja_nil)) (ja_cons (j_callTy c_int (by rfl) T.z_int (by rfl) (ja_cons (j_meth0 M_End_is_given T.k_End ht hr (j_var 0)) ja_nil)) (ja_cons (j_meth0 M_End_taken T.k_End ht hr (j_var 0)) ja_nil)))) (j_lst (ja_cons (j_ixA (hu_of hr) (j_var 1) j_str (fun _ _ => rfl)) (ja_cons (j_ixA (hu_of hr) (j_var 1) j_str (fun _ _ => rfl)) (ja_cons (j_op o_add (j_ixA (hu_of hr) (j_var 1) j_str (fun _ _ => rfl)) (j_ixA (hu_of hr) (j_var 1) j_str (fun _ _ => rfl))) ja_nil)))) (nomark _)) (jss_one (js_ret j_bl)) jss_nil)
    (jss_cons (js_set (i := 2) sc__law_same.nd rfl (by first | exact .inl rfl | exact .inr rfl) (j_meth0 M_End_due T.k_End ht hr (j_var 0)))
    (jss_cons (js_if (JW.jt (jw_or (jt_not (jt_val (j_isi (cs := "list") (by rfl) T.z_isinstance (by rfl) (j_var 2) (by rfl) T.z_list (by rfl) (by decide)))) (jw_or (jt_cmp (o_ne hr.units) (j_var 2) (j_c C__law_due ht hr (by rfl) (ja_cons (j_var 1) ja_nil)) (nomark _)) (jw_or1 (jt_cmp (o_ne hr.units) (j_meth0 M_End_due T.k_End ht hr (j_var 0)) (j_var 2) (nomark _)))))) (jss_one (js_ret j_bl)) jss_nil)
    (jss_cons (js_set (i := 3) sc__law_same.nd rfl (by first | exact .inl rfl | exact .inr rfl) (j_meth0 M_End_picture T.k_End ht hr (j_var 0)))
    (jss_one (js_ret (j_and (j_isi (cs := "tuple") (by rfl) T.z_isinstance (by rfl) (j_var 3) (by rfl) T.z_tuple (by rfl) (by decide)) (j_one (j_cmp (o_eq hr.units) (j_var 3) (j_c C__law_picture ht hr (by rfl) (ja_cons (j_var 1) ja_nil)) (nomark _)))))))))))) hw
theorem fn__law_write (T : Facts K mg C_End) {k : Nat} {f : Addr} {fd : FuncData} {tl : List Addr} {s__law_data s__law_draw s_End_close s_End_write : WSp} {sp : WSp} (F : Fun K "_law_write" "_law_write" st__law_write f fd) (C__law_data : Cal P w K mg base tl k "_law_data" ["bag"] s__law_data) (C__law_draw : Cal P w K mg base tl k "_law_draw" ["bag", "many"] s__law_draw) (M_End_close : CalM P w K mg base tl k C_End "close" ["self"] s_End_close) (M_End_write : CalM P w K mg base tl k C_End "write" ["self", "data"] s_End_write)
    (hw : ∀ ts S Q E, ts.length = 3 → sp ts S Q E → b__law_write C_End s__law_data s__law_draw s_End_close s_End_write { nx := fun _ S' => Q .non S', rt := Q } (startT N__law_write ts) S) :
    FnOk P w K mg base CX0 (k + 1) f fd ["bag", "end", "side"] (Lsp tl K 3 sp) :=
  fnT F sc__law_write (fun cdv A outer s H E hr hcd ht => (jss_cons (js_set (i := 3) sc__law_write.nd rfl (by first | exact .inl rfl | exact .inr rfl) (j_c C__law_data ht hr (by rfl) (ja_cons (j_var 0) ja_nil)))
    (jss_cons (js_set (i := 4) sc__law_write.nd rfl (by first | exact .inl rfl | exact .inr rfl) (j_ixA (hu_of hr) (j_var 2) j_str (fun _ _ => rfl)))
    (jss_cons (js_if (jt_cmp (o_eq hr.units) (j_ixA (hu_of hr) (j_var 2) j_str (fun _ _ => rfl)) j_int (nomark _)) (jss_one (js_ret j_bl)) jss_nil)
    (jss_cons (js_if (jt_cmp (o_eq hr.units) (j_c C__law_draw ht hr (by rfl) (ja_cons (j_var 0) (ja_cons j_int ja_nil))) j_int (nomark _)) (jss_cons (js_asg j_int (jg_ixA (hu_of hr) (j_var 2) j_str))
    (jss_one (js_ret (j_or (j_cmp o_isN (j_var 1) j_non (nomark _)) (j_one (j_cmp o_isN (j_meth0 M_End_close T.k_End ht hr (j_var 1)) j_non (nomark _))))))) jss_nil)
    (jss_cons (js_expr (j_mtL PySem.F.slot_list_extend PySem.F.type_list_extend m_extend (j_var 4) (ja_cons (j_callTy c_list (by rfl) T.z_list (by rfl) (ja_cons (j_var 3) ja_nil)) ja_nil)))
    (jss_one (js_ret (j_or (j_cmp o_isN (j_var 1) j_non (nomark _)) (j_one (j_cmp o_isN (j_meth M_End_write T.k_End ht hr (j_var 1) (ja_cons (j_var 3) ja_nil)) j_non (nomark _)))))))))))) hw
theorem fn_law (T : Facts K mg C_End) {k : Nat} {f : Addr} {fd : FuncData} {tl : List Addr} {s__law_bag s_End_init s__law_side s__law_draw s__law_write s_end_of s_End_picture s__law_due s_End_take s__law_take s__law_same : WSp} {sp : WSp} (F : Fun K "law" "law" st_law f fd) (C__law_bag : Cal P w K mg base tl k "_law_bag" ["script"] s__law_bag) (I_End_init : CalI P w K mg base tl k C_End "End" ["self"] s_End_init) (C__law_side : Cal P w K mg base tl k "_law_side" [] s__law_side) (C__law_draw : Cal P w K mg base tl k "_law_draw" ["bag", "many"] s__law_draw) (C__law_write : Cal P w K mg base tl k "_law_write" ["bag", "end", "side"] s__law_write) (C_end_of : Cal P w K mg base tl k "end_of" ["picture"] s_end_of) (M_End_picture : CalM P w K mg base tl k C_End "picture" ["self"] s_End_picture) (C__law_due : Cal P w K mg base tl k "_law_due" ["side"] s__law_due) (M_End_take : CalM P w K mg base tl k C_End "take" ["self", "offset", "data", "last", "taken"] s_End_take) (C__law_take : Cal P w K mg base tl k "_law_take" ["side", "row"] s__law_take) (C__law_same : Cal P w K mg base tl k "_law_same" ["end", "side"] s__law_same)
    (hw : ∀ ts S Q E, ts.length = 1 → sp ts S Q E → b_law C_End s__law_bag s_End_init s__law_side s__law_draw s__law_write s_end_of s_End_picture s__law_due s_End_take s__law_take s__law_same { nx := fun _ S' => Q .non S', rt := Q } (startT N_law ts) S) :
    FnOk P w K mg base CX0 (k + 2) f fd ["script"] (Lsp tl K 1 sp) :=
  fnT F sc_law (fun cdv A outer s H E hr1 hcd ht => have hr := Room.mono hr1 (Nat.le_succ k); (jss_cons (js_set (i := 1) sc_law.nd rfl (by first | exact .inl rfl | exact .inr rfl) (j_c C__law_bag ht hr (by rfl) (ja_cons (j_var 0) ja_nil)))
    (jss_cons (js_set (i := 2) sc_law.nd rfl (by first | exact .inl rfl | exact .inr rfl) (j_make0 I_End_init ht hr1 (by rfl)))
    (jss_cons (js_set (i := 3) sc_law.nd rfl (by first | exact .inl rfl | exact .inr rfl) (j_lst (ja_cons (j_c0 C__law_side ht hr (by rfl)) (ja_cons (j_c0 C__law_side ht hr (by rfl)) ja_nil))))
    (jss_cons (js_set (i := 4) sc_law.nd rfl (by first | exact .inl rfl | exact .inr rfl) (j_lst (ja_cons (j_lst ja_nil) (ja_cons (j_lst ja_nil) ja_nil))))
    (jss_cons (js_for PassesOwn.never rfl (ji_rg1 (by rfl) T.z_range (ja_cons (j_op o_add j_int (j_c C__law_draw ht hr (by rfl) (ja_cons (j_var 1) (ja_cons j_int ja_nil)))) ja_nil)) (jg_name (i := 5) (vs := [5]) sc_law.nd rfl (by first | exact .inl rfl | exact .inr rfl) (by decide))
    (jss_cons (js_set (i := 6) sc_law.nd rfl (by first | exact .inl rfl | exact .inr rfl) (j_c C__law_draw ht hr (by rfl) (ja_cons (j_var 1) (ja_cons j_int ja_nil))))
    (jss_cons (js_if (JW.jt (jw_and (jt_cmp o_lt (j_var 6) j_int (nomark _)) (jw_and1 (jt_not (jt_val (j_c C__law_write ht hr (by rfl) (ja_cons (j_var 1) (ja_cons (j_ixA (hu_of hr) (j_lst (ja_cons (j_var 2) (ja_cons j_non ja_nil))) (j_callTy c_int (by rfl) T.z_int (by rfl) (ja_cons (j_cmp o_gtA (j_var 6) j_int (nomark _)) ja_nil)) (fun _ _ => rfl)) (ja_cons (j_ixA (hu_of hr) (j_var 3) (j_callTy c_int (by rfl) T.z_int (by rfl) (ja_cons (j_cmp o_gtA (j_var 6) j_int (nomark _)) ja_nil)) (fun _ _ => rfl)) ja_nil))))))))) (jss_one (js_ret j_bl)) jss_nil)
    (jss_cons (js_if (jt_cmp (o_eq hr.units) (j_var 6) j_int (nomark _)) (jss_one (js_set (i := 2) sc_law.nd rfl (by first | exact .inl rfl | exact .inr rfl) (j_c C_end_of ht hr (by rfl) (ja_cons (j_meth0 M_End_picture T.k_End ht hr (j_var 2)) ja_nil)))) jss_nil)
    (jss_cons (js_for PassesOwn.never rfl (ji_rg1 (by rfl) T.z_range (ja_cons j_int ja_nil)) (jg_name (i := 7) (vs := [7]) sc_law.nd rfl (by first | exact .inl rfl | exact .inr rfl) (by decide))
    (jss_one (js_asg (j_op o_add (j_ixA (hu_of hr) (j_var 4) (j_var 7) (fun _ _ => rfl)) (j_lc (own := [("row", 8)]) rfl sc_law.nd (ji_any (j_c C__law_due ht hr (by rfl) (ja_cons (j_ixA (hu_of hr) (j_var 3) (j_var 7) (fun _ _ => rfl)) ja_nil))) (blkOk_by (N := N_law) (sc := defScope st_law) (by decide +kernel)) (fun _ _ _ _ _ => (jg_name (i := 8) (vs := [8]) sc_law.nd rfl (by first | exact .inl rfl | exact .inr rfl) (by decide))) (fun _ _ _ _ _ => (jts_one (jt_cmp (o_notInDt (hu65 hr)) (j_var 8) (j_ixA (hu_of hr) (j_var 4) (j_var 7) (fun _ _ => rfl)) (by rfl)))) (fun _ _ _ _ _ => (j_var 8)))) (jg_ixA (hu_of hr) (j_var 4) (j_var 7)))))
    (jss_cons (js_set (i := 7) sc_law.nd rfl (by first | exact .inl rfl | exact .inr rfl) (j_callTy c_int (by rfl) T.z_int (by rfl) (ja_cons (j_cmp o_gtA (j_var 6) j_int (nomark _)) ja_nil)))
    (jss_cons (js_set (i := 8) sc_law.nd rfl (by first | exact .inl rfl | exact .inr rfl) (j_ixA (hu_of hr) (j_ixA (hu_of hr) (j_var 4) (j_var 7) (fun _ _ => rfl)) (j_ixA (hu_of hr) (j_lst (ja_cons (j_c C__law_draw ht hr (by rfl) (ja_cons (j_var 1) (ja_cons (j_callB c_lenA (by rfl) T.z_len PySem.boot_len (ja_cons (j_ixA (hu_of hr) (j_var 4) (j_var 7) (fun _ _ => rfl)) ja_nil)) ja_nil))) (ja_cons (j_op o_sub (j_callB c_lenA (by rfl) T.z_len PySem.boot_len (ja_cons (j_ixA (hu_of hr) (j_var 4) (j_var 7) (fun _ _ => rfl)) ja_nil)) j_int) ja_nil))) (j_c C__law_draw ht hr (by rfl) (ja_cons (j_var 1) (ja_cons j_int ja_nil))) (fun _ _ => rfl)) (fun _ _ => rfl)))
    (jss_cons (js_if (JW.jt (jw_and (jt_cmp o_gtA (j_var 6) j_int (nomark _)) (jw_and1 (jt_cmp (o_ne hr.units) (j_meth M_End_take T.k_End ht hr (j_var 2) (ja_cons (j_ixA (hu_of hr) (j_var 8) j_int (fun _ _ => rfl)) (ja_cons (j_ixA (hu_of hr) (j_var 8) j_int (fun _ _ => rfl)) (ja_cons (j_ixA (hu_of hr) (j_var 8) j_int (fun _ _ => rfl)) (ja_cons (j_ixA (hu_of hr) (j_var 8) j_int (fun _ _ => rfl)) ja_nil))))) (j_c C__law_take ht hr (by rfl) (ja_cons (j_ixA (hu_of hr) (j_var 3) j_int (fun _ _ => rfl)) (ja_cons (j_var 8) ja_nil))) (nomark _))))) (jss_one (js_ret j_bl)) jss_nil)
    (jss_cons (js_if (JW.jt (jw_and (jt_cmp o_gtA (j_var 6) j_int (nomark _)) (jw_and1 (jt_cmp o_lt (j_var 6) j_int (nomark _))))) (jss_one (js_expr (j_c C__law_take ht hr (by rfl) (ja_cons (j_ixA (hu_of hr) (j_var 3) j_int (fun _ _ => rfl)) (ja_cons (j_var 8) ja_nil))))) jss_nil)
    (jss_one (js_if (jt_not (jt_val (j_c C__law_same ht hr (by rfl) (ja_cons (j_var 2) (ja_cons (j_ixA (hu_of hr) (j_var 3) j_int (fun _ _ => rfl)) ja_nil))))) (jss_one (js_ret j_bl)) jss_nil)))))))))))
    (jss_one (js_ret j_bl)))))))) hw
end
set_option maxHeartbeats 0 in
theorem facts_mk {K : PySem.W.Frag} {h : Heap} {mg : Str → Option Value} (X : K.In h) (G : h.Ns mainGlobals mg)
    {C_End : Addr} (aC_End : PySem.W.nsIn K mainGlobals "End" = some (some (.ref C_End))) (pg_End : PySem.W.plainGet K C_End Str.empty = true) (hd_End : PySem.W.hasDictIn K C_End = true) (po_End : PySem.W.plainOver K C_End = true) (sa_End : PySem.W.findIn K (.ref C_End) "__setattr__" = some (some (.builtin "object.__setattr__"))) (mk_End : PySem.W.makesIn K C_End = true) (kc_End : PySem.W.keepIn K (.ref C_End) = true)
    (nA_End__ahead : PySem.W.findIn K (.ref C_End) "_ahead" = some none)
    (nA_End__base : PySem.W.findIn K (.ref C_End) "_base" = some none)
    (nA_End__closed : PySem.W.findIn K (.ref C_End) "_closed" = some none)
    (nA_End__end : PySem.W.findIn K (.ref C_End) "_end" = some none)
    (nA_End__ended : PySem.W.findIn K (.ref C_End) "_ended" = some none)
    (nA_End__given : PySem.W.findIn K (.ref C_End) "_given" = some none)
    (nA_End__got : PySem.W.findIn K (.ref C_End) "_got" = some none)
    (nA_End__pending : PySem.W.findIn K (.ref C_End) "_pending" = some none)
    {f0 : Addr} {od0 an0 : Option Addr} {sl0 : Array (Option Value)} {oc0 kV0 dc0 pm0 cd0 ct0 : Value}
    (a0 : PySem.W.findIn K (.ref C_End) "__init__" = some (some (.ref f0))) (i0 : PySem.W.isFn K (.ref f0) = true) (l0 : K.lookup f0 = some ⟨oc0, od0, .func (PySem.W.fnOf "__init__" "End.__init__" (defArgs st_End_init) (defBody st_End_init) (defScope st_End_init) .none kV0 dc0 pm0 an0 cd0 ct0), sl0⟩) (c0 : PySem.W.codeIn K cd0 "End.__init__" = true) (k0 : PySem.W.keepIn K (.ref f0) = true)
    {f1 : Addr} {od1 an1 : Option Addr} {sl1 : Array (Option Value)} {oc1 kV1 dc1 pm1 cd1 ct1 : Value}
    (a1 : PySem.W.findIn K (.ref C_End) "write" = some (some (.ref f1))) (i1 : PySem.W.isFn K (.ref f1) = true) (l1 : K.lookup f1 = some ⟨oc1, od1, .func (PySem.W.fnOf "write" "End.write" (defArgs st_End_write) (defBody st_End_write) (defScope st_End_write) .none kV1 dc1 pm1 an1 cd1 ct1), sl1⟩) (c1 : PySem.W.codeIn K cd1 "End.write" = true) (k1 : PySem.W.keepIn K (.ref f1) = true)
    {f2 : Addr} {od2 an2 : Option Addr} {sl2 : Array (Option Value)} {oc2 kV2 dc2 pm2 cd2 ct2 : Value}
    (a2 : PySem.W.findIn K (.ref C_End) "close" = some (some (.ref f2))) (i2 : PySem.W.isFn K (.ref f2) = true) (l2 : K.lookup f2 = some ⟨oc2, od2, .func (PySem.W.fnOf "close" "End.close" (defArgs st_End_close) (defBody st_End_close) (defScope st_End_close) .none kV2 dc2 pm2 an2 cd2 ct2), sl2⟩) (c2 : PySem.W.codeIn K cd2 "End.close" = true) (k2 : PySem.W.keepIn K (.ref f2) = true)
    {f3 : Addr} {od3 an3 : Option Addr} {sl3 : Array (Option Value)} {oc3 kV3 dc3 pm3 cd3 ct3 : Value}
    (a3 : PySem.W.findIn K (.ref C_End) "due" = some (some (.ref f3))) (i3 : PySem.W.isFn K (.ref f3) = true) (l3 : K.lookup f3 = some ⟨oc3, od3, .func (PySem.W.fnOf "due" "End.due" (defArgs st_End_due) (defBody st_End_due) (defScope st_End_due) .none kV3 dc3 pm3 an3 cd3 ct3), sl3⟩) (c3 : PySem.W.codeIn K cd3 "End.due" = true) (k3 : PySem.W.keepIn K (.ref f3) = true)
    {f4 : Addr} {od4 an4 : Option Addr} {sl4 : Array (Option Value)} {oc4 kV4 dc4 pm4 cd4 ct4 : Value}
    (a4 : PySem.W.findIn K (.ref C_End) "take" = some (some (.ref f4))) (i4 : PySem.W.isFn K (.ref f4) = true) (l4 : K.lookup f4 = some ⟨oc4, od4, .func (PySem.W.fnOf "take" "End.take" (defArgs st_End_take) (defBody st_End_take) (defScope st_End_take) .none kV4 dc4 pm4 an4 cd4 ct4), sl4⟩) (c4 : PySem.W.codeIn K cd4 "End.take" = true) (k4 : PySem.W.keepIn K (.ref f4) = true)
    {f5 : Addr} {od5 an5 : Option Addr} {sl5 : Array (Option Value)} {oc5 kV5 dc5 pm5 cd5 ct5 : Value}
    (a5 : PySem.W.findIn K (.ref C_End) "taken" = some (some (.ref f5))) (i5 : PySem.W.isFn K (.ref f5) = true) (l5 : K.lookup f5 = some ⟨oc5, od5, .func (PySem.W.fnOf "taken" "End.taken" (defArgs st_End_taken) (defBody st_End_taken) (defScope st_End_taken) .none kV5 dc5 pm5 an5 cd5 ct5), sl5⟩) (c5 : PySem.W.codeIn K cd5 "End.taken" = true) (k5 : PySem.W.keepIn K (.ref f5) = true)
    {f6 : Addr} {od6 an6 : Option Addr} {sl6 : Array (Option Value)} {oc6 kV6 dc6 pm6 cd6 ct6 : Value}
    (a6 : PySem.W.findIn K (.ref C_End) "has_end" = some (some (.ref f6))) (i6 : PySem.W.isFn K (.ref f6) = true) (l6 : K.lookup f6 = some ⟨oc6, od6, .func (PySem.W.fnOf "has_end" "End.has_end" (defArgs st_End_has_end) (defBody st_End_has_end) (defScope st_End_has_end) .none kV6 dc6 pm6 an6 cd6 ct6), sl6⟩) (c6 : PySem.W.codeIn K cd6 "End.has_end" = true) (k6 : PySem.W.keepIn K (.ref f6) = true)
    {f7 : Addr} {od7 an7 : Option Addr} {sl7 : Array (Option Value)} {oc7 kV7 dc7 pm7 cd7 ct7 : Value}
    (a7 : PySem.W.findIn K (.ref C_End) "is_given" = some (some (.ref f7))) (i7 : PySem.W.isFn K (.ref f7) = true) (l7 : K.lookup f7 = some ⟨oc7, od7, .func (PySem.W.fnOf "is_given" "End.is_given" (defArgs st_End_is_given) (defBody st_End_is_given) (defScope st_End_is_given) .none kV7 dc7 pm7 an7 cd7 ct7), sl7⟩) (c7 : PySem.W.codeIn K cd7 "End.is_given" = true) (k7 : PySem.W.keepIn K (.ref f7) = true)
    {f8 : Addr} {od8 an8 : Option Addr} {sl8 : Array (Option Value)} {oc8 kV8 dc8 pm8 cd8 ct8 : Value}
    (a8 : PySem.W.findIn K (.ref C_End) "picture" = some (some (.ref f8))) (i8 : PySem.W.isFn K (.ref f8) = true) (l8 : K.lookup f8 = some ⟨oc8, od8, .func (PySem.W.fnOf "picture" "End.picture" (defArgs st_End_picture) (defBody st_End_picture) (defScope st_End_picture) .none kV8 dc8 pm8 an8 cd8 ct8), sl8⟩) (c8 : PySem.W.codeIn K cd8 "End.picture" = true) (k8 : PySem.W.keepIn K (.ref f8) = true)
    {f9 : Addr} {od9 an9 : Option Addr} {sl9 : Array (Option Value)} {oc9 kV9 dc9 pm9 cd9 ct9 : Value}
    (a9 : PySem.W.findIn K (.ref C_End) "_learn" = some (some (.ref f9))) (i9 : PySem.W.isFn K (.ref f9) = true) (l9 : K.lookup f9 = some ⟨oc9, od9, .func (PySem.W.fnOf "_learn" "End._learn" (defArgs st_End__learn) (defBody st_End__learn) (defScope st_End__learn) .none kV9 dc9 pm9 an9 cd9 ct9), sl9⟩) (c9 : PySem.W.codeIn K cd9 "End._learn" = true) (k9 : PySem.W.keepIn K (.ref f9) = true)
    {f10 : Addr} {od10 an10 : Option Addr} {sl10 : Array (Option Value)} {oc10 kV10 dc10 pm10 cd10 ct10 : Value}
    (a10 : PySem.W.findIn K (.ref C_End) "_keep" = some (some (.ref f10))) (i10 : PySem.W.isFn K (.ref f10) = true) (l10 : K.lookup f10 = some ⟨oc10, od10, .func (PySem.W.fnOf "_keep" "End._keep" (defArgs st_End__keep) (defBody st_End__keep) (defScope st_End__keep) .none kV10 dc10 pm10 an10 cd10 ct10), sl10⟩) (c10 : PySem.W.codeIn K cd10 "End._keep" = true) (k10 : PySem.W.keepIn K (.ref f10) = true)
    {f11 : Addr} {od11 an11 : Option Addr} {sl11 : Array (Option Value)} {oc11 kV11 dc11 pm11 cd11 ct11 : Value}
    (a11 : PySem.W.findIn K (.ref C_End) "_take_in_order" = some (some (.ref f11))) (i11 : PySem.W.isFn K (.ref f11) = true) (l11 : K.lookup f11 = some ⟨oc11, od11, .func (PySem.W.fnOf "_take_in_order" "End._take_in_order" (defArgs st_End__take_in_order) (defBody st_End__take_in_order) (defScope st_End__take_in_order) .none kV11 dc11 pm11 an11 cd11 ct11), sl11⟩) (c11 : PySem.W.codeIn K cd11 "End._take_in_order" = true) (k11 : PySem.W.keepIn K (.ref f11) = true)
    {f12 : Addr} {od12 an12 : Option Addr} {sl12 : Array (Option Value)} {oc12 kV12 dc12 pm12 cd12 ct12 : Value}
    (a12 : PySem.W.nsIn K mainGlobals "end_of" = some (some (.ref f12))) (l12 : K.lookup f12 = some ⟨oc12, od12, .func (PySem.W.fnOf "end_of" "end_of" (defArgs st_end_of) (defBody st_end_of) (defScope st_end_of) .none kV12 dc12 pm12 an12 cd12 ct12), sl12⟩) (c12 : PySem.W.codeIn K cd12 "end_of" = true) (k12 : PySem.W.keepIn K (.ref f12) = true)
    {f13 : Addr} {od13 an13 : Option Addr} {sl13 : Array (Option Value)} {oc13 kV13 dc13 pm13 cd13 ct13 : Value}
    (a13 : PySem.W.nsIn K mainGlobals "_law_bag" = some (some (.ref f13))) (l13 : K.lookup f13 = some ⟨oc13, od13, .func (PySem.W.fnOf "_law_bag" "_law_bag" (defArgs st__law_bag) (defBody st__law_bag) (defScope st__law_bag) .none kV13 dc13 pm13 an13 cd13 ct13), sl13⟩) (c13 : PySem.W.codeIn K cd13 "_law_bag" = true) (k13 : PySem.W.keepIn K (.ref f13) = true)
    {f14 : Addr} {od14 an14 : Option Addr} {sl14 : Array (Option Value)} {oc14 kV14 dc14 pm14 cd14 ct14 : Value}
    (a14 : PySem.W.nsIn K mainGlobals "_law_draw" = some (some (.ref f14))) (l14 : K.lookup f14 = some ⟨oc14, od14, .func (PySem.W.fnOf "_law_draw" "_law_draw" (defArgs st__law_draw) (defBody st__law_draw) (defScope st__law_draw) .none kV14 dc14 pm14 an14 cd14 ct14), sl14⟩) (c14 : PySem.W.codeIn K cd14 "_law_draw" = true) (k14 : PySem.W.keepIn K (.ref f14) = true)
    {f15 : Addr} {od15 an15 : Option Addr} {sl15 : Array (Option Value)} {oc15 kV15 dc15 pm15 cd15 ct15 : Value}
    (a15 : PySem.W.nsIn K mainGlobals "_law_side" = some (some (.ref f15))) (l15 : K.lookup f15 = some ⟨oc15, od15, .func (PySem.W.fnOf "_law_side" "_law_side" (defArgs st__law_side) (defBody st__law_side) (defScope st__law_side) .none kV15 dc15 pm15 an15 cd15 ct15), sl15⟩) (c15 : PySem.W.codeIn K cd15 "_law_side" = true) (k15 : PySem.W.keepIn K (.ref f15) = true)
    {f16 : Addr} {od16 an16 : Option Addr} {sl16 : Array (Option Value)} {oc16 kV16 dc16 pm16 cd16 ct16 : Value}
    (a16 : PySem.W.nsIn K mainGlobals "_law_due" = some (some (.ref f16))) (l16 : K.lookup f16 = some ⟨oc16, od16, .func (PySem.W.fnOf "_law_due" "_law_due" (defArgs st__law_due) (defBody st__law_due) (defScope st__law_due) .none kV16 dc16 pm16 an16 cd16 ct16), sl16⟩) (c16 : PySem.W.codeIn K cd16 "_law_due" = true) (k16 : PySem.W.keepIn K (.ref f16) = true)
    {f17 : Addr} {od17 an17 : Option Addr} {sl17 : Array (Option Value)} {oc17 kV17 dc17 pm17 cd17 ct17 : Value}
    (a17 : PySem.W.nsIn K mainGlobals "_law_take" = some (some (.ref f17))) (l17 : K.lookup f17 = some ⟨oc17, od17, .func (PySem.W.fnOf "_law_take" "_law_take" (defArgs st__law_take) (defBody st__law_take) (defScope st__law_take) .none kV17 dc17 pm17 an17 cd17 ct17), sl17⟩) (c17 : PySem.W.codeIn K cd17 "_law_take" = true) (k17 : PySem.W.keepIn K (.ref f17) = true)
    {f18 : Addr} {od18 an18 : Option Addr} {sl18 : Array (Option Value)} {oc18 kV18 dc18 pm18 cd18 ct18 : Value}
    (a18 : PySem.W.nsIn K mainGlobals "_law_picture" = some (some (.ref f18))) (l18 : K.lookup f18 = some ⟨oc18, od18, .func (PySem.W.fnOf "_law_picture" "_law_picture" (defArgs st__law_picture) (defBody st__law_picture) (defScope st__law_picture) .none kV18 dc18 pm18 an18 cd18 ct18), sl18⟩) (c18 : PySem.W.codeIn K cd18 "_law_picture" = true) (k18 : PySem.W.keepIn K (.ref f18) = true)
    {f19 : Addr} {od19 an19 : Option Addr} {sl19 : Array (Option Value)} {oc19 kV19 dc19 pm19 cd19 ct19 : Value}
    (a19 : PySem.W.nsIn K mainGlobals "_law_data" = some (some (.ref f19))) (l19 : K.lookup f19 = some ⟨oc19, od19, .func (PySem.W.fnOf "_law_data" "_law_data" (defArgs st__law_data) (defBody st__law_data) (defScope st__law_data) .none kV19 dc19 pm19 an19 cd19 ct19), sl19⟩) (c19 : PySem.W.codeIn K cd19 "_law_data" = true) (k19 : PySem.W.keepIn K (.ref f19) = true)
    {f20 : Addr} {od20 an20 : Option Addr} {sl20 : Array (Option Value)} {oc20 kV20 dc20 pm20 cd20 ct20 : Value}
    (a20 : PySem.W.nsIn K mainGlobals "_law_same" = some (some (.ref f20))) (l20 : K.lookup f20 = some ⟨oc20, od20, .func (PySem.W.fnOf "_law_same" "_law_same" (defArgs st__law_same) (defBody st__law_same) (defScope st__law_same) .none kV20 dc20 pm20 an20 cd20 ct20), sl20⟩) (c20 : PySem.W.codeIn K cd20 "_law_same" = true) (k20 : PySem.W.keepIn K (.ref f20) = true)
    {f21 : Addr} {od21 an21 : Option Addr} {sl21 : Array (Option Value)} {oc21 kV21 dc21 pm21 cd21 ct21 : Value}
    (a21 : PySem.W.nsIn K mainGlobals "_law_write" = some (some (.ref f21))) (l21 : K.lookup f21 = some ⟨oc21, od21, .func (PySem.W.fnOf "_law_write" "_law_write" (defArgs st__law_write) (defBody st__law_write) (defScope st__law_write) .none kV21 dc21 pm21 an21 cd21 ct21), sl21⟩) (c21 : PySem.W.codeIn K cd21 "_law_write" = true) (k21 : PySem.W.keepIn K (.ref f21) = true)
    {f22 : Addr} {od22 an22 : Option Addr} {sl22 : Array (Option Value)} {oc22 kV22 dc22 pm22 cd22 ct22 : Value}
    (a22 : PySem.W.nsIn K mainGlobals "law" = some (some (.ref f22))) (l22 : K.lookup f22 = some ⟨oc22, od22, .func (PySem.W.fnOf "law" "law" (defArgs st_law) (defBody st_law) (defScope st_law) .none kV22 dc22 pm22 an22 cd22 ct22), sl22⟩) (c22 : PySem.W.codeIn K cd22 "law" = true) (k22 : PySem.W.keepIn K (.ref f22) = true)
    {t_MOST_DATA : Tok} (n_MOST_DATA : PySem.W.nsIn K mainGlobals "MOST_DATA" = some (some (.int 8 t_MOST_DATA)))
    {t_WINDOW : Tok} (n_WINDOW : PySem.W.nsIn K mainGlobals "WINDOW" = some (some (.int 32 t_WINDOW)))
    (z_bool : PySem.W.nsIn K mainGlobals "bool" = some none)
    (z_dict : PySem.W.nsIn K mainGlobals "dict" = some none)
    (z_enumerate : PySem.W.nsIn K mainGlobals "enumerate" = some none)
    (z_int : PySem.W.nsIn K mainGlobals "int" = some none)
    (z_isinstance : PySem.W.nsIn K mainGlobals "isinstance" = some none)
    (z_len : PySem.W.nsIn K mainGlobals "len" = some none)
    (z_list : PySem.W.nsIn K mainGlobals "list" = some none)
    (z_max : PySem.W.nsIn K mainGlobals "max" = some none)
    (z_min : PySem.W.nsIn K mainGlobals "min" = some none)
    (z_range : PySem.W.nsIn K mainGlobals "range" = some none)
    (z_sorted : PySem.W.nsIn K mainGlobals "sorted" = some none)
    (z_tuple : PySem.W.nsIn K mainGlobals "tuple" = some none) : Facts K mg C_End where
  d_End_init := defI_mk a0 i0 mk_End kc_End (PySem.W.mg_of X G aC_End) l0 c0 k0 fun _ _ _ _ _ _ us hl => match us, hl with | [_], _ => rfl
  d_End_write := defM_mk a1 i1 l1 c1 k1 fun _ _ _ _ _ _ us hl => match us, hl with | [_, _], _ => rfl
  d_End_close := defM_mk a2 i2 l2 c2 k2 fun _ _ _ _ _ _ us hl => match us, hl with | [_], _ => rfl
  d_End_due := defM_mk a3 i3 l3 c3 k3 fun _ _ _ _ _ _ us hl => match us, hl with | [_], _ => rfl
  d_End_take := defM_mk a4 i4 l4 c4 k4 fun _ _ _ _ _ _ us hl => match us, hl with | [_, _, _, _, _], _ => rfl
  d_End_taken := defM_mk a5 i5 l5 c5 k5 fun _ _ _ _ _ _ us hl => match us, hl with | [_], _ => rfl
  d_End_has_end := defM_mk a6 i6 l6 c6 k6 fun _ _ _ _ _ _ us hl => match us, hl with | [_], _ => rfl
  d_End_is_given := defM_mk a7 i7 l7 c7 k7 fun _ _ _ _ _ _ us hl => match us, hl with | [_], _ => rfl
  d_End_picture := defM_mk a8 i8 l8 c8 k8 fun _ _ _ _ _ _ us hl => match us, hl with | [_], _ => rfl
  d_End__learn := defM_mk a9 i9 l9 c9 k9 fun _ _ _ _ _ _ us hl => match us, hl with | [_, _], _ => rfl
  d_End__keep := defM_mk a10 i10 l10 c10 k10 fun _ _ _ _ _ _ us hl => match us, hl with | [_, _, _], _ => rfl
  d_End__take_in_order := defM_mk a11 i11 l11 c11 k11 fun _ _ _ _ _ _ us hl => match us, hl with | [_], _ => rfl
  d_end_of := defT_mk (PySem.W.mg_of X G a12) l12 c12 k12 fun _ _ _ _ _ _ us hl => match us, hl with | [_], _ => rfl
  d__law_bag := defT_mk (PySem.W.mg_of X G a13) l13 c13 k13 fun _ _ _ _ _ _ us hl => match us, hl with | [_], _ => rfl
  d__law_draw := defT_mk (PySem.W.mg_of X G a14) l14 c14 k14 fun _ _ _ _ _ _ us hl => match us, hl with | [_, _], _ => rfl
  d__law_side := defT_mk (PySem.W.mg_of X G a15) l15 c15 k15 fun _ _ _ _ _ _ us hl => match us, hl with | [], _ => rfl
  d__law_due := defT_mk (PySem.W.mg_of X G a16) l16 c16 k16 fun _ _ _ _ _ _ us hl => match us, hl with | [_], _ => rfl
  d__law_take := defT_mk (PySem.W.mg_of X G a17) l17 c17 k17 fun _ _ _ _ _ _ us hl => match us, hl with | [_, _], _ => rfl
  d__law_picture := defT_mk (PySem.W.mg_of X G a18) l18 c18 k18 fun _ _ _ _ _ _ us hl => match us, hl with | [_], _ => rfl
  d__law_data := defT_mk (PySem.W.mg_of X G a19) l19 c19 k19 fun _ _ _ _ _ _ us hl => match us, hl with | [_], _ => rfl
  d__law_same := defT_mk (PySem.W.mg_of X G a20) l20 c20 k20 fun _ _ _ _ _ _ us hl => match us, hl with | [_, _], _ => rfl
  d__law_write := defT_mk (PySem.W.mg_of X G a21) l21 c21 k21 fun _ _ _ _ _ _ us hl => match us, hl with | [_, _, _], _ => rfl
  d_law := defT_mk (PySem.W.mg_of X G a22) l22 c22 k22 fun _ _ _ _ _ _ us hl => match us, hl with | [_], _ => rfl
  k_End := ⟨pg_End, hd_End, po_End, sa_End⟩
  n_End__ahead := nA_End__ahead
  n_End__base := nA_End__base
  n_End__closed := nA_End__closed
  n_End__end := nA_End__end
  n_End__ended := nA_End__ended
  n_End__given := nA_End__given
  n_End__got := nA_End__got
  n_End__pending := nA_End__pending
  c_MOST_DATA := ⟨t_MOST_DATA, PySem.W.mg_of X G n_MOST_DATA⟩
  c_WINDOW := ⟨t_WINDOW, PySem.W.mg_of X G n_WINDOW⟩
  z_bool := PySem.W.mg_none_of X G z_bool
  z_dict := PySem.W.mg_none_of X G z_dict
  z_enumerate := PySem.W.mg_none_of X G z_enumerate
  z_int := PySem.W.mg_none_of X G z_int
  z_isinstance := PySem.W.mg_none_of X G z_isinstance
  z_len := PySem.W.mg_none_of X G z_len
  z_list := PySem.W.mg_none_of X G z_list
  z_max := PySem.W.mg_none_of X G z_max
  z_min := PySem.W.mg_none_of X G z_min
  z_range := PySem.W.mg_none_of X G z_range
  z_sorted := PySem.W.mg_none_of X G z_sorted
  z_tuple := PySem.W.mg_none_of X G z_tuple
end Gn

set_option Elab.async false
set_option linter.all false
set_option maxRecDepth 100000
set_option maxHeartbeats 8000000
namespace My
open PySem PySem.Spec PyProof.Rows L2 Wp Gn
local macro_rules | `(tactic| walk_at "go") => `(tactic| (with_reducible refine goS_i ?_))
local macro_rules | `(tactic| walk_at "wp") => `(tactic| simp (disch := omega) only [Wp.wSeq, Wp.wNext, Wp.wSet, Wp.wVar, Wp.wC, Wp.wOp, Wp.wRet, Wp.wIfS, Wp.wTest, Wp.wCall, Wp.wCons, Wp.wNil, Wp.wTup, Wp.wLst, Wp.wAsg, Wp.gTp, Wp.gC, Wp.gNm, Wp.gN0, Wp.gIx, Wp.rSet, Wp.rAdd, Wp.rMul, Wp.rMod, Wp.rSub, Wp.rFdiv, Wp.rPow, Wp.rInt, Wp.rIx, Wp.rLt, Wp.rLe, Wp.rCmp, Wp.rGeI, Wp.rGtI, Wp.wCB, Wp.rLen, Wp.rLen1, Wp.rInt1, Wp.rMax2, Wp.rMin2, Wp.rTupOf, Wp.rListOf,
  Wp.wIsi, Wp.rBIs, Wp.rIsN, Wp.isNon, Wp.wMt, Wp.rAppendT, Wp.rExtendT, Wp.rReverseT, Wp.wNot, Wp.wOr, Wp.wAnd, Wp.wAndV, Wp.wOrV, Wp.wNotV, Wp.wFor, Wp.iRg1, Wp.iRg2, Wp.iAnyW, Wp.wAll, Wp.wChain, Wp.wSl, Wp.wNoPart, Wp.wPart, Wp.rSl, Wp.wNeg, Wp.rNeg, Wp.wLc, Wp.wYes, Wp.wDrop, Wp.wipeT, Wp.wAug, List.map, List.set_cons_zero, List.set_cons_succ, List.getElem?_cons_zero, List.getElem?_cons_succ, List.length_cons, List.length_nil, List.cons_append, List.nil_append, List.replicate, Wp.startT,
  true_and, and_true, Wp.wif_true, Wp.wif_false, Wp.ex_some, Wp.ex_some1, Wp.ex_eq, Wp.ex_lst, Wp.ex_lst0, Wp.rEq_int, Bool.false_bne, Bool.true_bne, Int.reduceLT, Int.reduceLE, Int.reduceAdd, Nat.reduceAdd, Nat.reduceSub, eq_self, ite_true, ite_false, beq_self_eq_true, Bool.not_true, Bool.not_false, Wp.isB_0, Wp.isB_1, Wp.isB_2, Wp.isB_3, Wp.isB_4, Wp.isB_5, Wp.isB_6, Wp.isB_7, Wp.isB_8, Wp.isB_9, Wp.isB_10, Wp.isB_11, Wp.isB_12, Wp.isB_13, Wp.isB_14, Wp.isB_15, Wp.isB_16, Wp.isB_17, Wp.isB_18, Wp.isB_19, Wp.isB_20, Wp.isB_21, Wp.isB_22, Wp.isB_23, Wp.isB_24, Wp.isB_25, Wp.isB_26, Wp.isB_27, Wp.isB_28, Wp.isB_29, Wp.isB_30, Wp.isB_31, Wp.isB_32, Wp.isB_33, Wp.isB_34, Wp.isB_35, Wp.cmul_l, Wp.cmul_r, Wp.cpow_lit, Wp.size_le, Wp.size_lt, Wp.atI_0, Wp.atI_1, Wp.atI_2, Wp.atI_3, Wp.atI_4, Wp.atI_5, Wp.atI_6, Wp.ixN_0, Wp.ixN_1, Wp.ixN_2, Wp.itemsT, Wp.tyT, reduceIte, Wp.wFld, Wp.wFSet, Wp.wFAug, Wp.wMeth, Wp.wMake, Wp.rIxA, Wp.rInA, Wp.rSetA, Wp.ixA, Wp.inA, Wp.setA, Wp.lenA, Wp.getD, Option.map_some, Option.bind_some, Option.getD_some,  Wp.gIxA, Wp.wDNew, Wp.wDNewT, Wp.rLenA, Wp.rSortD, Wp.rMaxL, Wp.rPopL, Wp.rGet1, Wp.rGet2, Wp.wGet1, Wp.wGet2, Wp.wPop1, Wp.wPop2, Wp.wDel, Wp.isDT, Wp.keyT, Wp.keysT, Wp.keysL, Wp.ex_ins, Wp.ex_dct, Wp.wSrtIt, Wp.iRg3, Wp.rAddI, Wp.wIf, Wp.rExtT, Wp.wTestI, Wp.rGt, Wp.rMulA, Int.cast_ofNat_Int, Int.reduceBEq, lk_End__base, pt_End__base, lk_End__pending, pt_End__pending, lk_End__closed, pt_End__closed, lk_End__given, pt_End__given, lk_End__got, pt_End__got, lk_End__ended, pt_End__ended, lk_End__ahead, pt_End__ahead, lk_End__end, pt_End__end, no_End__keep, no_End__learn, no_End__take_in_order, no_End_close, no_End_due, no_End_has_end, no_End_is_given, no_End_picture, no_End_take, no_End_taken, no_End_write, ln_End, mk_End, Wp.rSortDA, Wp.wDisp, Wp.wPCons, Wp.wPNil, ix_out, ix_closed, ix_base, ix_given, ix_seen, ix_got, ix_ended, ix_end, st_closed, st_base, st_given, st_got, st_ended, st_end, sdL_len, Wp.upS, Wp.upS_upS, *])
local macro_rules | `(tactic| walk_at "run") => `(tactic| repeat (first | walk_at "wp" | walk_at "go"))
local macro_rules | `(tactic| walk_at "wq") => `(tactic| simp (disch := omega) only [Wp.wSeq, Wp.wNext, Wp.wSet, Wp.wVar, Wp.wC, Wp.wOp, Wp.wRet, Wp.wIfS, Wp.wTest, Wp.wCall, Wp.wCons, Wp.wNil, Wp.wTup, Wp.wLst, Wp.wAsg, Wp.gTp, Wp.gC, Wp.gNm, Wp.gN0, Wp.gIx, Wp.rSet, Wp.rAdd, Wp.rMul, Wp.rMod, Wp.rSub, Wp.rFdiv, Wp.rPow, Wp.rInt, Wp.rIx, Wp.rLt, Wp.rLe, Wp.rCmp, Wp.rGeI, Wp.rGtI, Wp.wCB, Wp.rLen, Wp.rLen1, Wp.rInt1, Wp.rMax2, Wp.rMin2, Wp.rTupOf, Wp.rListOf,
  Wp.wIsi, Wp.rBIs, Wp.rIsN, Wp.isNon, Wp.wMt, Wp.rAppendT, Wp.rExtendT, Wp.rReverseT, Wp.wNot, Wp.wOr, Wp.wAnd, Wp.wAndV, Wp.wOrV, Wp.wNotV, Wp.wFor, Wp.iRg1, Wp.iRg2, Wp.iAnyW, Wp.wAll, Wp.wChain, Wp.wSl, Wp.wNoPart, Wp.wPart, Wp.rSl, Wp.wNeg, Wp.rNeg, Wp.wLc, Wp.wYes, Wp.wDrop, Wp.wipeT, Wp.wAug, List.map, List.set_cons_zero, List.set_cons_succ, List.getElem?_cons_zero, List.getElem?_cons_succ, List.length_cons, List.length_nil, List.cons_append, List.nil_append, List.replicate, Wp.startT,
  true_and, and_true, Wp.wif_true, Wp.wif_false, Wp.ex_some, Wp.ex_some1, Wp.ex_eq, Wp.ex_lst, Wp.ex_lst0, Wp.rEq_int, Bool.false_bne, Bool.true_bne, Int.reduceLT, Int.reduceLE, Int.reduceAdd, Nat.reduceAdd, Nat.reduceSub, eq_self, ite_true, ite_false, beq_self_eq_true, Bool.not_true, Bool.not_false, Wp.isB_0, Wp.isB_1, Wp.isB_2, Wp.isB_3, Wp.isB_4, Wp.isB_5, Wp.isB_6, Wp.isB_7, Wp.isB_8, Wp.isB_9, Wp.isB_10, Wp.isB_11, Wp.isB_12, Wp.isB_13, Wp.isB_14, Wp.isB_15, Wp.isB_16, Wp.isB_17, Wp.isB_18, Wp.isB_19, Wp.isB_20, Wp.isB_21, Wp.isB_22, Wp.isB_23, Wp.isB_24, Wp.isB_25, Wp.isB_26, Wp.isB_27, Wp.isB_28, Wp.isB_29, Wp.isB_30, Wp.isB_31, Wp.isB_32, Wp.isB_33, Wp.isB_34, Wp.isB_35, Wp.cmul_l, Wp.cmul_r, Wp.cpow_lit, Wp.size_le, Wp.size_lt, Wp.atI_0, Wp.atI_1, Wp.atI_2, Wp.atI_3, Wp.atI_4, Wp.atI_5, Wp.atI_6, Wp.ixN_0, Wp.ixN_1, Wp.ixN_2, Wp.itemsT, Wp.tyT, reduceIte, Wp.wFld, Wp.wFSet, Wp.wFAug, Wp.wMeth, Wp.wMake, Wp.rIxA, Wp.rInA, Wp.rSetA, Wp.ixA, Wp.inA, Wp.setA, Wp.lenA, Wp.getD, Option.map_some, Option.bind_some, Option.getD_some,  Wp.gIxA, Wp.wDNew, Wp.wDNewT, Wp.rLenA, Wp.rSortD, Wp.rMaxL, Wp.rPopL, Wp.rGet1, Wp.rGet2, Wp.wGet1, Wp.wGet2, Wp.wPop1, Wp.wPop2, Wp.wDel, Wp.isDT, Wp.keyT, Wp.keysT, Wp.keysL, Wp.ex_ins, Wp.ex_dct, Wp.wSrtIt, Wp.iRg3, Wp.rAddI, Wp.wIf, Wp.rExtT, Wp.wTestI, Wp.rGt, Wp.rMulA, Int.cast_ofNat_Int, Int.reduceBEq, lk_End__base, pt_End__base, lk_End__pending, pt_End__pending, lk_End__closed, pt_End__closed, lk_End__given, pt_End__given, lk_End__got, pt_End__got, lk_End__ended, pt_End__ended, lk_End__ahead, pt_End__ahead, lk_End__end, pt_End__end, no_End__keep, no_End__learn, no_End__take_in_order, no_End_close, no_End_due, no_End_has_end, no_End_is_given, no_End_picture, no_End_take, no_End_taken, no_End_write, ln_End, mk_End, Wp.rSortDA, Wp.wDisp, Wp.wPCons, Wp.wPNil, ix_out, ix_closed, ix_base, ix_given, ix_seen, ix_got, ix_ended, ix_end, st_closed, st_base, st_given, st_got, st_ended, st_end, sdL_len, *])
local macro_rules | `(tactic| walk_at "r2") => `(tactic| repeat (first | walk_at "wq" | walk_at "go"))
local macro_rules | `(tactic| walk_at "w0") => `(tactic| simp (disch := omega) only [Wp.wSeq, Wp.wNext, Wp.wSet, Wp.wVar, Wp.wC, Wp.wOp, Wp.wRet, Wp.wIfS, Wp.wTest, Wp.wCall, Wp.wCons, Wp.wNil, Wp.wTup, Wp.wLst, Wp.wAsg, Wp.gTp, Wp.gC, Wp.gNm, Wp.gN0, Wp.gIx, Wp.rSet, Wp.rAdd, Wp.rMul, Wp.rMod, Wp.rSub, Wp.rFdiv, Wp.rPow, Wp.rInt, Wp.rIx, Wp.rLt, Wp.rLe, Wp.rCmp, Wp.rGeI, Wp.rGtI, Wp.wCB, Wp.rLen, Wp.rLen1, Wp.rInt1, Wp.rMax2, Wp.rMin2, Wp.rTupOf, Wp.rListOf,
  Wp.wIsi, Wp.rBIs, Wp.rIsN, Wp.isNon, Wp.wMt, Wp.rAppendT, Wp.rExtendT, Wp.rReverseT, Wp.wNot, Wp.wOr, Wp.wAnd, Wp.wAndV, Wp.wOrV, Wp.wNotV, Wp.wFor, Wp.iRg1, Wp.iRg2, Wp.iAnyW, Wp.wAll, Wp.wChain, Wp.wSl, Wp.wNoPart, Wp.wPart, Wp.rSl, Wp.wNeg, Wp.rNeg, Wp.wLc, Wp.wYes, Wp.wDrop, Wp.wipeT, Wp.wAug, List.map, List.set_cons_zero, List.set_cons_succ, List.getElem?_cons_zero, List.getElem?_cons_succ, List.length_cons, List.length_nil, List.cons_append, List.nil_append, List.replicate, Wp.startT,
  true_and, and_true, Wp.wif_true, Wp.wif_false, Wp.ex_some, Wp.ex_some1, Wp.ex_eq, Wp.ex_lst, Wp.ex_lst0, Wp.rEq_int, Bool.false_bne, Bool.true_bne, Int.reduceLT, Int.reduceLE, Int.reduceAdd, Nat.reduceAdd, Nat.reduceSub, eq_self, ite_true, ite_false, beq_self_eq_true, Bool.not_true, Bool.not_false, Wp.isB_0, Wp.isB_1, Wp.isB_2, Wp.isB_3, Wp.isB_4, Wp.isB_5, Wp.isB_6, Wp.isB_7, Wp.isB_8, Wp.isB_9, Wp.isB_10, Wp.isB_11, Wp.isB_12, Wp.isB_13, Wp.isB_14, Wp.isB_15, Wp.isB_16, Wp.isB_17, Wp.isB_18, Wp.isB_19, Wp.isB_20, Wp.isB_21, Wp.isB_22, Wp.isB_23, Wp.isB_24, Wp.isB_25, Wp.isB_26, Wp.isB_27, Wp.isB_28, Wp.isB_29, Wp.isB_30, Wp.isB_31, Wp.isB_32, Wp.isB_33, Wp.isB_34, Wp.isB_35, Wp.cmul_l, Wp.cmul_r, Wp.cpow_lit, Wp.size_le, Wp.size_lt, Wp.atI_0, Wp.atI_1, Wp.atI_2, Wp.atI_3, Wp.atI_4, Wp.atI_5, Wp.atI_6, Wp.ixN_0, Wp.ixN_1, Wp.ixN_2, Wp.itemsT, Wp.tyT, reduceIte, Wp.wFld, Wp.wFSet, Wp.wFAug, Wp.wMeth, Wp.wMake, Wp.rIxA, Wp.rInA, Wp.rSetA, Wp.ixA, Wp.inA, Wp.setA, Wp.lenA, Wp.getD, Option.map_some, Option.bind_some, Option.getD_some,  Wp.gIxA, Wp.wDNew, Wp.wDNewT, Wp.rLenA, Wp.rSortD, Wp.rMaxL, Wp.rPopL, Wp.rGet1, Wp.rGet2, Wp.wGet1, Wp.wGet2, Wp.wPop1, Wp.wPop2, Wp.wDel, Wp.isDT, Wp.keyT, Wp.keysT, Wp.keysL, Wp.ex_ins, Wp.ex_dct, Wp.wSrtIt, Wp.iRg3, Wp.rAddI, Wp.wIf, Wp.rExtT, Wp.wTestI, Wp.rGt, Wp.rMulA, Int.cast_ofNat_Int, Int.reduceBEq, lk_End__base, pt_End__base, lk_End__pending, pt_End__pending, lk_End__closed, pt_End__closed, lk_End__given, pt_End__given, lk_End__got, pt_End__got, lk_End__ended, pt_End__ended, lk_End__ahead, pt_End__ahead, lk_End__end, pt_End__end, no_End__keep, no_End__learn, no_End__take_in_order, no_End_close, no_End_due, no_End_has_end, no_End_is_given, no_End_picture, no_End_take, no_End_taken, no_End_write, ln_End, mk_End, Wp.rSortDA, Wp.wDisp, Wp.wPCons, Wp.wPNil, ix_out, ix_closed, ix_base, ix_given, ix_seen, ix_got, ix_ended, ix_end, st_closed, st_base, st_given, st_got, st_ended, st_end, sdL_len])
local macro_rules | `(tactic| walk_at "r0") => `(tactic| repeat (first | walk_at "w0" | walk_at "go"))
variable {C : Addr}
/-! ### an End in the state -/
structure EndAt (C : Addr) (S : Sta) (a lp la : Addr) (m : EM) : Prop where
  ob : S a = some (.ins C (F_End (.int m.base) (.ref lp) (.int m.closed) (.int m.given) (.int m.got) (.int m.ended) (.ref la) (finT m.fin)))
  pd : S lp = some (.lst (m.pend.map T.int))
  ah : ∃ ks : Bs, S la = some (.dct (ks.map entI)) ∧ ks.Perm m.ahead
/-- an End with its things -/
def EndA (C : Addr) (S : Sta) (a : Addr) (F : List Addr) (m : EM) : Prop := ∃ lp la, F = [a, lp, la] ∧ EndAt C S a lp la m
theorem EndA.keep {S S' : Sta} {a : Addr} {F : List Addr} {m : EM} (h : EndA C S a F m) (k : ∀ x o, S x = some o → x ∈ F → S' x = some o) : EndA C S' a F m := by
  obtain ⟨lp, la, rfl, ⟨e1, e2, ks, e3, p⟩⟩ := h
  exact ⟨lp, la, rfl, ⟨k _ _ e1 (by simp), k _ _ e2 (by simp), ks, k _ _ e3 (by simp), p⟩⟩
theorem EndA.gr {S S' : Sta} {a : Addr} {F : List Addr} {m : EM} (h : EndA C S a F m) (g : Gr S S') : EndA C S' a F m := h.keep fun x o e _ => g x o e
theorem EndA.here {S : Sta} {a : Addr} {F : List Addr} {m : EM} (h : EndA C S a F m) : ∀ x ∈ F, ∃ o, S x = some o := by
  obtain ⟨lp, la, rfl, ⟨e1, e2, ks, e3, p⟩⟩ := h
  intro x hx
  simp only [List.mem_cons, List.not_mem_nil, or_false] at hx
  rcases hx with rfl | rfl | rfl
  · exact ⟨_, e1⟩
  · exact ⟨_, e2⟩
  · exact ⟨_, e3⟩
/-- another End stays -/
theorem EndA.frm {S S' : Sta} {b : Addr} {F F' G : List Addr} {m : EM} (h : EndA C S b G m) (f : Frm S S' F F') (d : ∀ x ∈ G, x ∉ F) : EndA C S' b G m := h.keep fun x o e hx => f.k x o e (d x hx)
theorem EndA.apart {S S' : Sta} {b : Addr} {F F' G : List Addr} {m : EM} (h : EndA C S b G m) (f : Frm S S' F F') (d : ∀ x ∈ G, x ∉ F) : ∀ x ∈ G, x ∉ F' := fun x hx h' => by
  rcases f.n x h' with z | z
  · exact d x hx z
  · obtain ⟨o, e⟩ := h.here x hx
    rw [e] at z; cases z
def spTaken (C : Addr) : WSp := fun ts S Q _ => match ts with
  | [.ref a] => ∃ F m, EndA C S a F m ∧ Q (.int m.taken) S
  | _ => False
theorem hw_taken : ∀ ts S Q E, ts.length = 1 → spTaken C ts S Q E → b_End_taken C { nx := fun _ S' => Q .non S', rt := Q } (Wp.startT N_End_taken ts) S := by
  intro ts S Q E _ h
  match ts, h with
  | [.ref a], ⟨F, m, ⟨lp, la, _, e1, e2, _⟩, h⟩ =>
    unfold b_End_taken N_End_taken
    walk_at "r0"
    rw [e1]
    walk_at "r0"
    exact h
def spHasEnd (C : Addr) : WSp := fun ts S Q _ => match ts with
  | [.ref a] => ∃ F m, EndA C S a F m ∧ Q (.bl (m.ended == 1)) S
  | _ => False
theorem hw_hasEnd : ∀ ts S Q E, ts.length = 1 → spHasEnd C ts S Q E → b_End_has_end C { nx := fun _ S' => Q .non S', rt := Q } (Wp.startT N_End_has_end ts) S := by
  intro ts S Q E _ h
  match ts, h with
  | [.ref a], ⟨F, m, ⟨lp, la, _, e1, e2, _⟩, h⟩ =>
    unfold b_End_has_end N_End_has_end
    walk_at "r0"
    rw [e1]
    walk_at "r0"
    exact h
def spGiven (C : Addr) : WSp := fun ts S Q _ => match ts with
  | [.ref a] => ∃ F m, EndA C S a F m ∧ Q (.bl (m.given == 1)) S
  | _ => False
theorem hw_given : ∀ ts S Q E, ts.length = 1 → spGiven C ts S Q E → b_End_is_given C { nx := fun _ S' => Q .non S', rt := Q } (Wp.startT N_End_is_given ts) S := by
  intro ts S Q E _ h
  match ts, h with
  | [.ref a], ⟨F, m, ⟨lp, la, _, e1, e2, _⟩, h⟩ =>
    unfold b_End_is_given N_End_is_given
    walk_at "r0"
    rw [e1]
    walk_at "r0"
    exact h
def spClose (C : Addr) : WSp := fun ts S Q _ => match ts with
  | [.ref a] => ∃ F m, EndA C S a F m ∧ ∀ S', Frm S S' F F → EndA C S' a F m.close → Q .non S'
  | _ => False
theorem hw_close : ∀ ts S Q E, ts.length = 1 → spClose C ts S Q E → b_End_close C { nx := fun _ S' => Q .non S', rt := Q } (Wp.startT N_End_close ts) S := by
  intro ts S Q E _ h
  match ts, h with
  | [.ref a], ⟨F, m, ⟨lp, la, hF, e1, e2, ks, e3, pm⟩, h⟩ =>
    subst hF
    have n1 : lp ≠ a := fun e => by rw [e, e1] at e2; cases e2
    have n2 : la ≠ a := fun e => by rw [e, e1] at e3; cases e3
    unfold b_End_close N_End_close
    walk_at "r0"
    rw [e1]
    walk_at "r0"
    refine ⟨by decide, ?_⟩
    refine goS_i (h _ (Frm.up (by simp)) ⟨lp, la, rfl, ?_, ?_, ks, ?_, pm⟩)
    · rw [upS_same]; rfl
    · rw [upS_ne n1]; exact e2
    · rw [upS_ne n2]; exact e3
def spWrite (C : Addr) : WSp := fun ts S Q _ => match ts with
  | [.ref a, .tup ds] => ∃ F m d, EndA C S a F m ∧ ds = d.map T.int ∧ m.pend.length + d.length ≤ 1000000 ∧ ∀ S', Frm S S' F F → EndA C S' a F (m.write d) → Q .non S'
  | _ => False
theorem hw_write : ∀ ts S Q E, ts.length = 2 → spWrite C ts S Q E → b_End_write C { nx := fun _ S' => Q .non S', rt := Q } (Wp.startT N_End_write ts) S := by
  intro ts S Q E _ h
  match ts, h with
  | [.ref a, .tup _], ⟨F, m, d, ⟨lp, la, hF, e1, e2, ks, e3, pm⟩, rfl, hl, h⟩ =>
    subst hF
    have n1 : a ≠ lp := fun e => by rw [← e, e1] at e2; cases e2
    have n2 : la ≠ lp := fun e => by rw [e, e2] at e3; cases e3
    unfold b_End_write N_End_write
    walk_at "r0"
    rw [e1]
    walk_at "r0"
    by_cases hc : m.closed = 0
    · have w : m.write d = { m with pend := m.pend ++ d } := by unfold EM.write; rw [if_pos hc]
      rw [w] at h
      rw [show (m.closed != 0) = false by rw [hc]; rfl]
      walk_at "r0"
      rw [e2]
      walk_at "r0"
      refine ⟨by rw [List.length_map, List.length_map]; have := sizeLine_eq; omega, ?_⟩
      refine goS_i (h _ (Frm.up (by simp)) ⟨lp, la, rfl, ?_, ?_, ks, ?_, pm⟩)
      · rw [upS_ne n1]; exact e1
      · rw [upS_same, ← List.map_append]
      · rw [upS_ne n2]; exact e3
    · have w : m.write d = m := by unfold EM.write; rw [if_neg hc]
      rw [w] at h
      rw [show (m.closed != 0) = true from bne_iff_ne.mpr hc]
      walk_at "r0"
      exact h S Frm.refl ⟨lp, la, rfl, e1, e2, ks, e3, pm⟩
def spLearn (C : Addr) : WSp := fun ts S Q _ => match ts with
  | [.ref a, .int t] => ∃ F m, EndA C S a F m ∧ m.pend.length ≤ 1000000 ∧ ∀ S' F', Frm S S' F F' → EndA C S' a F' (m.learn t) → Q .non S'
  | _ => False
theorem cutT_fromI (xs : List T) (i : Int) (h : 0 ≤ i) : cutT xs (some i) none = xs.drop i.toNat := by
  have := cutT_from xs i.toNat
  rwa [Int.toNat_of_nonneg h] at this
theorem hw_learn : ∀ ts S Q E, ts.length = 2 → spLearn C ts S Q E → b_End__learn C { nx := fun _ S' => Q .non S', rt := Q } (Wp.startT N_End__learn ts) S := by
  intro ts S Q E _ h
  match ts, h with
  | [.ref a, .int t], ⟨F, m, ⟨lp, la, hF, e1, e2, ks, e3, pm⟩, hl, h⟩ =>
    subst hF
    have n1 : a ≠ lp := fun e => by rw [← e, e1] at e2; cases e2
    have n2 : la ≠ lp := fun e => by rw [e, e2] at e3; cases e3
    have n3 : la ≠ a := fun e => by rw [e, e1] at e3; cases e3
    have k1 : (if (if m.base + (m.pend.length : Int) < t then m.base + (m.pend.length : Int) else t) > m.base then (if m.base + (m.pend.length : Int) < t then m.base + (m.pend.length : Int) else t) else m.base) = m.known t := by unfold EM.known; omega
    have k0 : 0 ≤ m.known t - m.base := by unfold EM.known; omega
    unfold b_End__learn N_End__learn
    walk_at "r0"
    rw [e1]
    walk_at "r0"
    rw [e2]
    walk_at "r0"
    simp only [List.length_map, k1, e1]
    walk_at "r0"
    simp only [List.length_map, k1, cutT_fromI _ _ k0, e1, e2]
    walk_at "r0"
    simp only [List.length_map, k1, cutT_fromI _ _ k0, e1, e2]
    walk_at "r0"
    intro q hq
    have nq : a ≠ q := fun e => by rw [← e, e1] at hq; cases hq
    have nql : la ≠ q := fun e => by rw [← e, e3] at hq; cases hq
    simp only [upS_ne nq, e1]
    walk_at "r0"
    refine ⟨by decide, ?_⟩
    generalize hS1 : upS (upS S q _) a _ = S1
    have f1 : S1 a = some (.ins C (F_End (.int m.base) (.ref q) (.int m.closed) (.int m.given) (.int m.got) (.int m.ended) (.ref la) (finT m.fin))) := by rw [← hS1, upS_same]
    have f2 : S1 q = some (.lst ((m.pend.drop (m.known t - m.base).toNat).map T.int)) := by rw [← hS1, upS_ne nq.symm, upS_same, List.map_drop]
    have f3 : S1 la = some (.dct (ks.map entI)) := by rw [← hS1, upS_ne n3, upS_ne nql]; exact e3
    have fr : Frm S S1 [a, lp, la] [a, q, la] := ⟨fun x o e nx => by
      rw [← hS1, upS_ne (fun z => nx (by rw [z]; simp)), upS_ne (fun z => by rw [z, hq] at e; cases e)]; exact e, fun x hx => by
      simp only [List.mem_cons, List.not_mem_nil, or_false] at hx
      rcases hx with rfl | rfl | rfl
      · exact .inl (by simp)
      · exact .inr hq
      · exact .inl (by simp)⟩
    walk_at "r0"
    rw [f1]
    walk_at "r0"
    refine ⟨by decide, ?_⟩
    generalize hS2 : upS S1 a _ = S2
    have nqa : q ≠ a := nq.symm
    have g1 : S2 a = some (.ins C (F_End (.int (m.known t)) (.ref q) (.int m.closed) (.int m.given) (.int m.got) (.int m.ended) (.ref la) (finT m.fin))) := by rw [← hS2, upS_same]
    have g2 : S2 q = some (.lst ((m.pend.drop (m.known t - m.base).toNat).map T.int)) := by rw [← hS2, upS_ne nqa]; exact f2
    have g3 : S2 la = some (.dct (ks.map entI)) := by rw [← hS2, upS_ne n3]; exact f3
    have fr2 : Frm S S2 [a, lp, la] [a, q, la] := fr.trans (by rw [← hS2]; exact Frm.up (by simp))
    walk_at "r0"
    rw [g1]
    walk_at "r0"
    by_cases hc : m.closed ≠ 0 ∧ m.base + (m.pend.length : Int) < t
    · have w : m.learn t = { m with base := m.known t, pend := m.pend.drop (m.known t - m.base).toNat, given := 1 } := by unfold EM.learn; rw [if_pos hc]
      rw [w] at h
      rw [show (m.closed != 0) = true from bne_iff_ne.mpr hc.1]
      walk_at "r0"
      refine if_dec (fun _ => ?_) (fun q => absurd hc.2 q)
      walk_at "r0"
      try rw [g1]
      try walk_at "r0"
      refine ⟨by decide, ?_⟩
      refine goS_i (h _ [a, q, la] (fr2.trans (Frm.up (by simp))) ⟨q, la, rfl, ?_, ?_, ks, ?_, pm⟩)
      · rw [upS_same]
      · rw [upS_ne nqa]; exact g2
      · rw [upS_ne n3]; exact g3
    · have w : m.learn t = { m with base := m.known t, pend := m.pend.drop (m.known t - m.base).toNat } := by unfold EM.learn; rw [if_neg hc]
      rw [w] at h
      have fin := h S2 [a, q, la] fr2 ⟨q, la, rfl, g1, g2, ks, g3, pm⟩
      refine if_bool (fun hb => ?_) (fun hb => ?_)
      · walk_at "r0"
        refine if_dec (fun h2 => absurd ⟨bne_iff_ne.mp hb, h2⟩ hc) (fun _ => ?_)
        walk_at "r0"
        exact fin
      · walk_at "r0"
        exact fin
end My

set_option Elab.async false
set_option linter.all false
set_option maxRecDepth 100000
set_option maxHeartbeats 8000000
namespace My
open PySem PySem.Spec PyProof.Rows L2 Wp Gn
local macro_rules | `(tactic| walk_at "go") => `(tactic| (with_reducible refine goS_i ?_))
local macro_rules | `(tactic| walk_at "wp") => `(tactic| simp (disch := omega) only [Wp.wSeq, Wp.wNext, Wp.wSet, Wp.wVar, Wp.wC, Wp.wOp, Wp.wRet, Wp.wIfS, Wp.wTest, Wp.wCall, Wp.wCons, Wp.wNil, Wp.wTup, Wp.wLst, Wp.wAsg, Wp.gTp, Wp.gC, Wp.gNm, Wp.gN0, Wp.gIx, Wp.rSet, Wp.rAdd, Wp.rMul, Wp.rMod, Wp.rSub, Wp.rFdiv, Wp.rPow, Wp.rInt, Wp.rIx, Wp.rLt, Wp.rLe, Wp.rCmp, Wp.rGeI, Wp.rGtI, Wp.wCB, Wp.rLen, Wp.rLen1, Wp.rInt1, Wp.rMax2, Wp.rMin2, Wp.rTupOf, Wp.rListOf,
  Wp.wIsi, Wp.rBIs, Wp.rIsN, Wp.isNon, Wp.wMt, Wp.rAppendT, Wp.rExtendT, Wp.rReverseT, Wp.wNot, Wp.wOr, Wp.wAnd, Wp.wAndV, Wp.wOrV, Wp.wNotV, Wp.wFor, Wp.iRg1, Wp.iRg2, Wp.iAnyW, Wp.wAll, Wp.wChain, Wp.wSl, Wp.wNoPart, Wp.wPart, Wp.rSl, Wp.wNeg, Wp.rNeg, Wp.wLc, Wp.wYes, Wp.wDrop, Wp.wipeT, Wp.wAug, List.map, List.set_cons_zero, List.set_cons_succ, List.getElem?_cons_zero, List.getElem?_cons_succ, List.length_cons, List.length_nil, List.cons_append, List.nil_append, List.replicate, Wp.startT,
  true_and, and_true, Wp.wif_true, Wp.wif_false, Wp.ex_some, Wp.ex_some1, Wp.ex_eq, Wp.ex_lst, Wp.ex_lst0, Wp.rEq_int, Bool.false_bne, Bool.true_bne, Int.reduceLT, Int.reduceLE, Int.reduceAdd, Nat.reduceAdd, Nat.reduceSub, eq_self, ite_true, ite_false, beq_self_eq_true, Bool.not_true, Bool.not_false, Wp.isB_0, Wp.isB_1, Wp.isB_2, Wp.isB_3, Wp.isB_4, Wp.isB_5, Wp.isB_6, Wp.isB_7, Wp.isB_8, Wp.isB_9, Wp.isB_10, Wp.isB_11, Wp.isB_12, Wp.isB_13, Wp.isB_14, Wp.isB_15, Wp.isB_16, Wp.isB_17, Wp.isB_18, Wp.isB_19, Wp.isB_20, Wp.isB_21, Wp.isB_22, Wp.isB_23, Wp.isB_24, Wp.isB_25, Wp.isB_26, Wp.isB_27, Wp.isB_28, Wp.isB_29, Wp.isB_30, Wp.isB_31, Wp.isB_32, Wp.isB_33, Wp.isB_34, Wp.isB_35, Wp.cmul_l, Wp.cmul_r, Wp.cpow_lit, Wp.size_le, Wp.size_lt, Wp.atI_0, Wp.atI_1, Wp.atI_2, Wp.atI_3, Wp.atI_4, Wp.atI_5, Wp.atI_6, Wp.ixN_0, Wp.ixN_1, Wp.ixN_2, Wp.itemsT, Wp.tyT, reduceIte, Wp.wFld, Wp.wFSet, Wp.wFAug, Wp.wMeth, Wp.wMake, Wp.rIxA, Wp.rInA, Wp.rSetA, Wp.ixA, Wp.inA, Wp.setA, Wp.lenA, Wp.getD, Option.map_some, Option.bind_some, Option.getD_some,  Wp.gIxA, Wp.wDNew, Wp.wDNewT, Wp.rLenA, Wp.rSortD, Wp.rMaxL, Wp.rPopL, Wp.rGet1, Wp.rGet2, Wp.wGet1, Wp.wGet2, Wp.wPop1, Wp.wPop2, Wp.wDel, Wp.isDT, Wp.keyT, Wp.keysT, Wp.keysL, Wp.ex_ins, Wp.ex_dct, Wp.wSrtIt, Wp.iRg3, Wp.rAddI, Wp.wIf, Wp.rExtT, Wp.wTestI, Wp.rGt, Wp.rMulA, Int.cast_ofNat_Int, Int.reduceBEq, lk_End__base, pt_End__base, lk_End__pending, pt_End__pending, lk_End__closed, pt_End__closed, lk_End__given, pt_End__given, lk_End__got, pt_End__got, lk_End__ended, pt_End__ended, lk_End__ahead, pt_End__ahead, lk_End__end, pt_End__end, no_End__keep, no_End__learn, no_End__take_in_order, no_End_close, no_End_due, no_End_has_end, no_End_is_given, no_End_picture, no_End_take, no_End_taken, no_End_write, ln_End, mk_End, Wp.rSortDA, Wp.wDisp, Wp.wPCons, Wp.wPNil, ix_out, ix_closed, ix_base, ix_given, ix_seen, ix_got, ix_ended, ix_end, st_closed, st_base, st_given, st_got, st_ended, st_end, sdL_len, Wp.upS, Wp.upS_upS, *])
local macro_rules | `(tactic| walk_at "run") => `(tactic| repeat (first | walk_at "wp" | walk_at "go"))
local macro_rules | `(tactic| walk_at "wq") => `(tactic| simp (disch := omega) only [Wp.wSeq, Wp.wNext, Wp.wSet, Wp.wVar, Wp.wC, Wp.wOp, Wp.wRet, Wp.wIfS, Wp.wTest, Wp.wCall, Wp.wCons, Wp.wNil, Wp.wTup, Wp.wLst, Wp.wAsg, Wp.gTp, Wp.gC, Wp.gNm, Wp.gN0, Wp.gIx, Wp.rSet, Wp.rAdd, Wp.rMul, Wp.rMod, Wp.rSub, Wp.rFdiv, Wp.rPow, Wp.rInt, Wp.rIx, Wp.rLt, Wp.rLe, Wp.rCmp, Wp.rGeI, Wp.rGtI, Wp.wCB, Wp.rLen, Wp.rLen1, Wp.rInt1, Wp.rMax2, Wp.rMin2, Wp.rTupOf, Wp.rListOf,
  Wp.wIsi, Wp.rBIs, Wp.rIsN, Wp.isNon, Wp.wMt, Wp.rAppendT, Wp.rExtendT, Wp.rReverseT, Wp.wNot, Wp.wOr, Wp.wAnd, Wp.wAndV, Wp.wOrV, Wp.wNotV, Wp.wFor, Wp.iRg1, Wp.iRg2, Wp.iAnyW, Wp.wAll, Wp.wChain, Wp.wSl, Wp.wNoPart, Wp.wPart, Wp.rSl, Wp.wNeg, Wp.rNeg, Wp.wLc, Wp.wYes, Wp.wDrop, Wp.wipeT, Wp.wAug, List.map, List.set_cons_zero, List.set_cons_succ, List.getElem?_cons_zero, List.getElem?_cons_succ, List.length_cons, List.length_nil, List.cons_append, List.nil_append, List.replicate, Wp.startT,
  true_and, and_true, Wp.wif_true, Wp.wif_false, Wp.ex_some, Wp.ex_some1, Wp.ex_eq, Wp.ex_lst, Wp.ex_lst0, Wp.rEq_int, Bool.false_bne, Bool.true_bne, Int.reduceLT, Int.reduceLE, Int.reduceAdd, Nat.reduceAdd, Nat.reduceSub, eq_self, ite_true, ite_false, beq_self_eq_true, Bool.not_true, Bool.not_false, Wp.isB_0, Wp.isB_1, Wp.isB_2, Wp.isB_3, Wp.isB_4, Wp.isB_5, Wp.isB_6, Wp.isB_7, Wp.isB_8, Wp.isB_9, Wp.isB_10, Wp.isB_11, Wp.isB_12, Wp.isB_13, Wp.isB_14, Wp.isB_15, Wp.isB_16, Wp.isB_17, Wp.isB_18, Wp.isB_19, Wp.isB_20, Wp.isB_21, Wp.isB_22, Wp.isB_23, Wp.isB_24, Wp.isB_25, Wp.isB_26, Wp.isB_27, Wp.isB_28, Wp.isB_29, Wp.isB_30, Wp.isB_31, Wp.isB_32, Wp.isB_33, Wp.isB_34, Wp.isB_35, Wp.cmul_l, Wp.cmul_r, Wp.cpow_lit, Wp.size_le, Wp.size_lt, Wp.atI_0, Wp.atI_1, Wp.atI_2, Wp.atI_3, Wp.atI_4, Wp.atI_5, Wp.atI_6, Wp.ixN_0, Wp.ixN_1, Wp.ixN_2, Wp.itemsT, Wp.tyT, reduceIte, Wp.wFld, Wp.wFSet, Wp.wFAug, Wp.wMeth, Wp.wMake, Wp.rIxA, Wp.rInA, Wp.rSetA, Wp.ixA, Wp.inA, Wp.setA, Wp.lenA, Wp.getD, Option.map_some, Option.bind_some, Option.getD_some,  Wp.gIxA, Wp.wDNew, Wp.wDNewT, Wp.rLenA, Wp.rSortD, Wp.rMaxL, Wp.rPopL, Wp.rGet1, Wp.rGet2, Wp.wGet1, Wp.wGet2, Wp.wPop1, Wp.wPop2, Wp.wDel, Wp.isDT, Wp.keyT, Wp.keysT, Wp.keysL, Wp.ex_ins, Wp.ex_dct, Wp.wSrtIt, Wp.iRg3, Wp.rAddI, Wp.wIf, Wp.rExtT, Wp.wTestI, Wp.rGt, Wp.rMulA, Int.cast_ofNat_Int, Int.reduceBEq, lk_End__base, pt_End__base, lk_End__pending, pt_End__pending, lk_End__closed, pt_End__closed, lk_End__given, pt_End__given, lk_End__got, pt_End__got, lk_End__ended, pt_End__ended, lk_End__ahead, pt_End__ahead, lk_End__end, pt_End__end, no_End__keep, no_End__learn, no_End__take_in_order, no_End_close, no_End_due, no_End_has_end, no_End_is_given, no_End_picture, no_End_take, no_End_taken, no_End_write, ln_End, mk_End, Wp.rSortDA, Wp.wDisp, Wp.wPCons, Wp.wPNil, ix_out, ix_closed, ix_base, ix_given, ix_seen, ix_got, ix_ended, ix_end, st_closed, st_base, st_given, st_got, st_ended, st_end, sdL_len, *])
local macro_rules | `(tactic| walk_at "r2") => `(tactic| repeat (first | walk_at "wq" | walk_at "go"))
local macro_rules | `(tactic| walk_at "w0") => `(tactic| simp (disch := omega) only [Wp.wSeq, Wp.wNext, Wp.wSet, Wp.wVar, Wp.wC, Wp.wOp, Wp.wRet, Wp.wIfS, Wp.wTest, Wp.wCall, Wp.wCons, Wp.wNil, Wp.wTup, Wp.wLst, Wp.wAsg, Wp.gTp, Wp.gC, Wp.gNm, Wp.gN0, Wp.gIx, Wp.rSet, Wp.rAdd, Wp.rMul, Wp.rMod, Wp.rSub, Wp.rFdiv, Wp.rPow, Wp.rInt, Wp.rIx, Wp.rLt, Wp.rLe, Wp.rCmp, Wp.rGeI, Wp.rGtI, Wp.wCB, Wp.rLen, Wp.rLen1, Wp.rInt1, Wp.rMax2, Wp.rMin2, Wp.rTupOf, Wp.rListOf,
  Wp.wIsi, Wp.rBIs, Wp.rIsN, Wp.isNon, Wp.wMt, Wp.rAppendT, Wp.rExtendT, Wp.rReverseT, Wp.wNot, Wp.wOr, Wp.wAnd, Wp.wAndV, Wp.wOrV, Wp.wNotV, Wp.wFor, Wp.iRg1, Wp.iRg2, Wp.iAnyW, Wp.wAll, Wp.wChain, Wp.wSl, Wp.wNoPart, Wp.wPart, Wp.rSl, Wp.wNeg, Wp.rNeg, Wp.wLc, Wp.wYes, Wp.wDrop, Wp.wipeT, Wp.wAug, List.map, List.set_cons_zero, List.set_cons_succ, List.getElem?_cons_zero, List.getElem?_cons_succ, List.length_cons, List.length_nil, List.cons_append, List.nil_append, List.replicate, Wp.startT,
  true_and, and_true, Wp.wif_true, Wp.wif_false, Wp.ex_some, Wp.ex_some1, Wp.ex_eq, Wp.ex_lst, Wp.ex_lst0, Wp.rEq_int, Bool.false_bne, Bool.true_bne, Int.reduceLT, Int.reduceLE, Int.reduceAdd, Nat.reduceAdd, Nat.reduceSub, eq_self, ite_true, ite_false, beq_self_eq_true, Bool.not_true, Bool.not_false, Wp.isB_0, Wp.isB_1, Wp.isB_2, Wp.isB_3, Wp.isB_4, Wp.isB_5, Wp.isB_6, Wp.isB_7, Wp.isB_8, Wp.isB_9, Wp.isB_10, Wp.isB_11, Wp.isB_12, Wp.isB_13, Wp.isB_14, Wp.isB_15, Wp.isB_16, Wp.isB_17, Wp.isB_18, Wp.isB_19, Wp.isB_20, Wp.isB_21, Wp.isB_22, Wp.isB_23, Wp.isB_24, Wp.isB_25, Wp.isB_26, Wp.isB_27, Wp.isB_28, Wp.isB_29, Wp.isB_30, Wp.isB_31, Wp.isB_32, Wp.isB_33, Wp.isB_34, Wp.isB_35, Wp.cmul_l, Wp.cmul_r, Wp.cpow_lit, Wp.size_le, Wp.size_lt, Wp.atI_0, Wp.atI_1, Wp.atI_2, Wp.atI_3, Wp.atI_4, Wp.atI_5, Wp.atI_6, Wp.ixN_0, Wp.ixN_1, Wp.ixN_2, Wp.itemsT, Wp.tyT, reduceIte, Wp.wFld, Wp.wFSet, Wp.wFAug, Wp.wMeth, Wp.wMake, Wp.rIxA, Wp.rInA, Wp.rSetA, Wp.ixA, Wp.inA, Wp.setA, Wp.lenA, Wp.getD, Option.map_some, Option.bind_some, Option.getD_some,  Wp.gIxA, Wp.wDNew, Wp.wDNewT, Wp.rLenA, Wp.rSortD, Wp.rMaxL, Wp.rPopL, Wp.rGet1, Wp.rGet2, Wp.wGet1, Wp.wGet2, Wp.wPop1, Wp.wPop2, Wp.wDel, Wp.isDT, Wp.keyT, Wp.keysT, Wp.keysL, Wp.ex_ins, Wp.ex_dct, Wp.wSrtIt, Wp.iRg3, Wp.rAddI, Wp.wIf, Wp.rExtT, Wp.wTestI, Wp.rGt, Wp.rMulA, Int.cast_ofNat_Int, Int.reduceBEq, lk_End__base, pt_End__base, lk_End__pending, pt_End__pending, lk_End__closed, pt_End__closed, lk_End__given, pt_End__given, lk_End__got, pt_End__got, lk_End__ended, pt_End__ended, lk_End__ahead, pt_End__ahead, lk_End__end, pt_End__end, no_End__keep, no_End__learn, no_End__take_in_order, no_End_close, no_End_due, no_End_has_end, no_End_is_given, no_End_picture, no_End_take, no_End_taken, no_End_write, ln_End, mk_End, Wp.rSortDA, Wp.wDisp, Wp.wPCons, Wp.wPNil, ix_out, ix_closed, ix_base, ix_given, ix_seen, ix_got, ix_ended, ix_end, st_closed, st_base, st_given, st_got, st_ended, st_end, sdL_len])
local macro_rules | `(tactic| walk_at "r0") => `(tactic| repeat (first | walk_at "w0" | walk_at "go"))
variable {C : Addr}
theorem pairsT_cons (k : Int) (t : T) (ts : List T) : pairsT k (t :: ts) = .tup [.int k, t] :: pairsT (k + 1) ts := by
  unfold pairsT
  rw [List.mapIdx_cons]
  congr 1
  · simp
  · congr 1
    funext i t
    rw [show k + ((i + 1 : Nat) : Int) = k + 1 + (i : Int) by omega]
def spKeep (C : Addr) : WSp := fun ts S Q _ => match ts with
  | [.ref a, .int o, .tup ds] => ∃ F m d, EndA C S a F m ∧ WF m ∧ ds = d.map T.int ∧ d.length ≤ 100000 ∧ (0 ≤ o ∧ o < 2 ^ 40) ∧ ∀ S', Frm S S' F F → EndA C S' a F (m.keep o d) → Q .non S'
  | _ => False
theorem keep_in {ks l : Bs} (p : ks.Perm l) (k : Int) : (∃ e ∈ ks, e.1 = k) ↔ ∃ e ∈ l, e.1 = k := ⟨fun ⟨e, h, q⟩ => ⟨e, p.mem_iff.mp h, q⟩, fun ⟨e, h, q⟩ => ⟨e, p.mem_iff.mpr h, q⟩⟩
theorem keep_loop {a lp la : Addr} {x y : Option T} {D : WEnds} : ∀ (d : List Int) (o : Int) (m : EM) (S : Sta) (z w : Option T), EndAt C S a lp la m → srtd m.ahead → m.ahead.length + d.length ≤ 200000 →
    (∀ S' z' w', Frm S S' [a, lp, la] [a, lp, la] → EndAt C S' a lp la (m.keep o d) → D.nx [some (.ref a), x, y, z', w'] S') →
    loopW (gTp 2 (gC (gNm 3) (gC (gNm 4) gN0))) (l1_End__keep C) (fun _ => True) D (pairsT o (d.map T.int)) [some (.ref a), x, y, z, w] S
  | [], o, m, S, z, w, h, wf, hl, k => ⟨trivial, k S z w Frm.refl h⟩
  | b :: d, o, m, S, z, w, ⟨e1, e2, ks, e3, pm⟩, wf, hl, k => by
    rw [List.map_cons, pairsT_cons]
    have n1 : a ≠ la := fun e => by rw [← e, e1] at e3; cases e3
    have n2 : lp ≠ la := fun e => by rw [← e, e2] at e3; cases e3
    have sz : ks.length ≤ 200000 := by have := pm.length_eq; simp only [List.length_cons] at hl; omega
    have ih := fun m' S' z' w' h1 h2 h3 h4 => keep_loop (a := a) (lp := lp) (la := la) (x := x) (y := y) (D := D) d (o + 1) m' S' z' w' h1 h2 h3 h4
    refine ⟨trivial, ?_⟩
    show gTp 2 (gC (gNm 3) (gC (gNm 4) gN0)) (.tup [.int o, .int b]) _ _ _
    generalize loopW (gTp 2 (gC (gNm 3) (gC (gNm 4) gN0))) (l1_End__keep C) (fun _ => True) D (pairsT (o + 1) (d.map T.int)) = R at ih ⊢
    have kk : m.keep o (b :: d) = EM.keep { m with ahead := keep1 m.got m.ahead o b } (o + 1) d := rfl
    rw [kk] at k
    unfold l1_End__keep
    walk_at "r0"
    rw [e1]
    walk_at "r0"
    by_cases hg : m.got ≤ o
    · rw [show decide (m.got ≤ o) = true from decide_eq_true hg]
      have e0 : keep1 m.got m.ahead o b = insA o b m.ahead := if_pos hg
      rw [e0] at k
      walk_at "r0"
      try rw [e1]
      try walk_at "r0"
      simp only [e3]
      walk_at "r0"
      by_cases hin : ∃ e ∈ ks, e.1 = o
      · have e4 : insA o b m.ahead = m.ahead := insA_there wf ((keep_in pm o).mp hin)
        rw [e4] at k
        rw [show (valT (ks.map entI) (Sum.inl o)).isSome = true from ent_mem.mpr hin]
        walk_at "r0"
        exact ih m S _ _ ⟨e1, e2, ks, e3, pm⟩ wf (by simp only [List.length_cons] at hl; omega) k
      · have no : ∀ e ∈ ks, e.1 ≠ o := fun e he q => hin ⟨e, he, q⟩
        have no2 : ∀ e ∈ m.ahead, e.1 ≠ o := fun e he q => hin ((keep_in pm o).mpr ⟨e, he, q⟩)
        rw [show (valT (ks.map entI) (Sum.inl o)).isSome = false by rw [ent_not no]; rfl]
        walk_at "r0"
        rw [if_pos (by rw [List.length_map]; have := sizeLine_eq; omega), ent_put no]
        walk_at "r0"
        refine goS_i (ih { m with ahead := insA o b m.ahead } _ _ _ ⟨?_, ?_, ks ++ [(o, b)], ?_, ?_⟩ ?_ ?_ fun S' z' w' f e => k S' z' w' ((Frm.up (by simp)).trans f) e)
        · rw [upS_ne n1]; exact e1
        · rw [upS_ne n2]; exact e2
        · rw [upS_same]
        · exact (List.perm_append_singleton ..).trans ((pm.cons _).trans (insA_perm no2).symm)
        · exact insA_srtd wf
        · have := insA_len (k := o) (v := b) m.ahead
          show (insA o b m.ahead).length + d.length ≤ 200000
          simp only [List.length_cons] at hl; omega
    · rw [show decide (m.got ≤ o) = false from decide_eq_false hg]
      have e0 : keep1 m.got m.ahead o b = m.ahead := if_neg hg
      rw [e0] at k
      walk_at "r0"
      exact ih m S _ _ ⟨e1, e2, ks, e3, pm⟩ wf (by simp only [List.length_cons] at hl; omega) k
theorem hw_keep : ∀ ts S Q E, ts.length = 3 → spKeep C ts S Q E → b_End__keep C { nx := fun _ S' => Q .non S', rt := Q } (Wp.startT N_End__keep ts) S := by
  intro ts S Q E _ h
  match ts, h with
  | [.ref a, .int o, .tup _], ⟨F, m, d, ⟨lp, la, hF, he⟩, wf, rfl, hd, ho, h⟩ =>
    subst hF
    unfold b_End__keep N_End__keep
    walk_at "r0"
    unfold iEnuW
    walk_at "r0"
    refine ⟨by omega, keep_loop d o m S none none he wf.s (by have := wf.n; omega) fun S' z' w' f e => h S' f ⟨lp, la, rfl, e⟩⟩
def spOrder (C : Addr) : WSp := fun ts S Q _ => match ts with
  | [.ref a] => ∃ F m, EndA C S a F m ∧ srtd m.ahead ∧ (∀ e ∈ m.ahead, m.got ≤ e.1) ∧ m.ahead.length ≤ 200000 ∧ ∀ S', Frm S S' F F → EndA C S' a F m.order → Q (.tup (m.fresh.map T.int)) S'
  | _ => False
theorem drain_head {g v : Int} {r : Bs} : drain g ((g, v) :: r) = (v :: (drain (g + 1) r).1, (drain (g + 1) r).2) := by
  show (if g = g then _ else _) = _
  rw [if_pos rfl]
theorem drain_no {g : Int} : ∀ {l : Bs}, (∀ e ∈ l, e.1 ≠ g) → drain g l = ([], l)
  | [], _ => rfl
  | e :: r, h => if_neg (h e (List.mem_cons_self ..))
/-- the first key, if it is there at all -/
theorem head_is {g : Int} : ∀ {l : Bs}, srtd l → (∀ e ∈ l, g ≤ e.1) → (∃ e ∈ l, e.1 = g) → ∃ v r, l = (g, v) :: r
  | [], _, _, ⟨e, he, _⟩ => by cases he
  | f :: r, h, hg, ⟨e, he, q⟩ => by
    rcases List.mem_cons.mp he with z | z
    · exact ⟨f.2, r, by rw [← q, z]⟩
    · have h1 := (List.pairwise_cons.mp h).1 e z
      have h2 := hg f (List.mem_cons_self ..)
      omega
theorem order_walk {a lp la : Addr} {D : WEnds} {S0 : Sta} {q : Addr} {m0 : EM} (hm : m0.ahead.length ≤ 200000) (hq : S0 q = none) (n6 : lp ≠ q) :
    ∀ (S : Sta) (m : EM) (fr : List Int), EndAt C S a lp la m → srtd m.ahead → (∀ e ∈ m.ahead, m.got ≤ e.1) → S q = some (.lst (fr.map T.int)) → Frm S0 S [a, lp, la] [a, lp, la] → fr.length + m.ahead.length = m0.ahead.length →
      m.order = m0.order → fr ++ m.fresh = m0.fresh →
      (∀ S' , Frm S0 S' [a, lp, la] [a, lp, la] → EndAt C S' a lp la m0.order → S' q = some (.lst (m0.fresh.map T.int)) → D.nx [some (.ref a), some (.ref q)] S') →
      wWhile (l1_End__take_in_order C) (l2_End__take_in_order C) D [some (.ref a), some (.ref q)] S := by
  intro S m fr h1 h2 h3 h4 h5 h6 h7 h8 k
  refine ⟨fun n σ S => ∃ (m : EM) (fr : List Int), n = m.ahead.length ∧ σ = [some (.ref a), some (.ref q)] ∧ EndAt C S a lp la m ∧ srtd m.ahead ∧ (∀ e ∈ m.ahead, m.got ≤ e.1) ∧ S q = some (.lst (fr.map T.int)) ∧ Frm S0 S [a, lp, la] [a, lp, la] ∧ fr.length + m.ahead.length = m0.ahead.length ∧ m.order = m0.order ∧ fr ++ m.fresh = m0.fresh, ⟨_, m, fr, rfl, rfl, h1, h2, h3, h4, h5, h6, h7, h8⟩, ?_⟩
  clear h1 h2 h3 h4 h5 h6 h7 h8 m fr S
  rintro n σ S ⟨m, fr, rfl, rfl, ⟨e1, e2, ks, e3, pm⟩, hs, hg, e4, f0, hl, ho, hf⟩
  have n1 : a ≠ la := fun e => by rw [← e, e1] at e3; cases e3
  have n2 : lp ≠ la := fun e => by rw [← e, e2] at e3; cases e3
  have n3 : a ≠ q := fun e => by rw [← e, e1] at e4; cases e4
  have n4 : la ≠ q := fun e => by rw [← e, e3] at e4; cases e4
  have n5 : lp ≠ a := fun e => by rw [e, e1] at e2; cases e2
  unfold l1_End__take_in_order l2_End__take_in_order
  walk_at "r0"
  rw [e1]
  walk_at "r0"
  try rw [e1]
  try walk_at "r0"
  simp only [e3]
  walk_at "r0"
  by_cases hin : ∃ e ∈ ks, e.1 = m.got
  · obtain ⟨v, r, el⟩ := head_is hs hg ((keep_in pm _).mp hin)
    rw [show (valT (ks.map entI) (Sum.inl m.got)).isSome = true from ent_mem.mpr hin]
    walk_at "r0"
    have mem : (m.got, v) ∈ ks := pm.mem_iff.mpr (el ▸ List.mem_cons_self ..)
    have ndk : (ks.map (·.1)).Nodup := (pm.map (·.1)).nodup_iff.mpr hs.keys
    refine ⟨⟨_, e4⟩, .int v, ent_val ndk mem, ?_⟩
    rw [upS_ne n4.symm, e4, ent_drop]
    walk_at "r0"
    have lf : fr.length < 200000 := by rw [el] at hl; simp only [List.length_cons] at hl; omega
    refine ⟨by rw [List.length_map]; have := sizeLine_eq; omega, ?_⟩
    generalize hS1 : upS (upS S la _) q _ = S1
    have g1 : S1 a = some (.ins C (F_End (.int m.base) (.ref lp) (.int m.closed) (.int m.given) (.int m.got) (.int m.ended) (.ref la) (finT m.fin))) := by rw [← hS1, upS_ne n3, upS_ne n1]; exact e1
    have g2 : S1 lp = some (.lst (m.pend.map T.int)) := by rw [← hS1, upS_ne n6, upS_ne n2]; exact e2
    have g3 : S1 la = some (.dct ((ks.filter fun e => decide (e.1 ≠ m.got)).map entI)) := by rw [← hS1, upS_ne n4, upS_same]
    have g4 : S1 q = some (.lst ((fr ++ [v]).map T.int)) := by rw [← hS1, upS_same, List.map_append]; rfl
    have fr1 : Frm S0 S1 [a, lp, la] [a, lp, la] := ⟨fun x o e nx => by
      have xq : x ≠ q := fun z => by rw [z, hq] at e; cases e
      rw [← hS1, upS_ne xq, upS_ne (fun z => nx (by rw [z]; simp))]
      exact f0.k x o e nx, fun x h => .inl h⟩
    have hs2 : srtd r := by rw [el] at hs; exact (List.pairwise_cons.mp hs).2
    have hr : ∀ e ∈ r, m.got < e.1 := by rw [el] at hs; exact fun e he => (List.pairwise_cons.mp hs).1 e he
    have fl : (ks.filter fun e => decide (e.1 ≠ m.got)).Perm r := by
      have p2 := pm.filter fun e => decide (e.1 ≠ m.got)
      have fr0 : r.filter (fun e => decide (e.1 ≠ m.got)) = r := List.filter_eq_self.mpr fun e he => decide_eq_true (by have := hr e he; omega)
      rw [el, List.filter_cons_of_neg (by simp), fr0] at p2
      exact p2
    have dr : drain m.got m.ahead = (v :: (drain (m.got + 1) r).1, (drain (m.got + 1) r).2) := by rw [el]; exact drain_head
    have ho2 : EM.order { m with got := m.got + 1, ahead := r } = m.order := by
      unfold EM.order
      rw [dr]
      simp only [List.length_cons]
      congr 1
      omega
    have hf2 : EM.fresh { m with got := m.got + 1, ahead := r } = (drain (m.got + 1) r).1 := rfl
    have hf3 : m.fresh = v :: (drain (m.got + 1) r).1 := by unfold EM.fresh; rw [dr]
    walk_at "r0"
    rw [g1]
    walk_at "r0"
    refine ⟨by decide, ?_⟩
    refine goS_i ⟨r.length, by rw [el]; exact Nat.lt_succ_self _, { m with got := m.got + 1, ahead := r }, fr ++ [v], rfl, rfl, ⟨?_, ?_, _, ?_, fl⟩, hs2, fun e he => by have := hr e he; show m.got + 1 ≤ e.1; omega, ?_, ?_, ?_, by rw [ho2]; exact ho, by rw [hf2, List.append_assoc, List.singleton_append, ← hf3]; exact hf⟩
    · rw [upS_same]
    · rw [upS_ne n5]; exact g2
    · rw [upS_ne n1.symm]; exact g3
    · rw [upS_ne n3.symm]; exact g4
    · exact fr1.trans (Frm.up (by simp))
    · rw [el] at hl; simp only [List.length_cons, List.length_append, List.length_nil] at hl ⊢; omega
  · have no2 : ∀ e ∈ m.ahead, e.1 ≠ m.got := fun e he z => hin ((keep_in pm _).mpr ⟨e, he, z⟩)
    rw [show (valT (ks.map entI) (Sum.inl m.got)).isSome = false by rw [ent_not fun e he z => hin ⟨e, he, z⟩]; rfl]
    walk_at "r0"
    have d0 := drain_no no2
    have o0 : m.order = m := by unfold EM.order; rw [d0]; simp
    have o1 : m.fresh = [] := by unfold EM.fresh; rw [d0]
    rw [o1, List.append_nil] at hf
    rw [o0] at ho
    exact k S f0 (ho ▸ ⟨e1, e2, ks, e3, pm⟩) (hf ▸ e4)
theorem hw_order : ∀ ts S Q E, ts.length = 1 → spOrder C ts S Q E → b_End__take_in_order C { nx := fun _ S' => Q .non S', rt := Q } (Wp.startT N_End__take_in_order ts) S := by
  intro ts S Q E _ h
  match ts, h with
  | [.ref a], ⟨F, m, ⟨lp, la, hF, he⟩, hs, hg, hl, h⟩ =>
    subst hF
    unfold b_End__take_in_order N_End__take_in_order
    walk_at "r0"
    intro q hq
    have k1 : ∀ x o, S x = some o → upS S q (.lst []) x = some o := fun x o e => by rw [upS_ne fun z => by rw [z, hq] at e; cases e]; exact e
    obtain ⟨e1, e2, ks, e3, pm⟩ := he
    have n6 : lp ≠ q := fun z => by rw [z, hq] at e2; cases e2
    refine order_walk (S0 := S) (m0 := m) hl hq n6 _ m [] ⟨k1 _ _ e1, k1 _ _ e2, ks, k1 _ _ e3, pm⟩ hs hg upS_same ⟨fun x o e _ => k1 x o e, fun _ h => .inl h⟩ (by simp) rfl rfl fun S' f e eq => ?_
    walk_at "r0"
    rw [eq]
    walk_at "r0"
    exact h S' f ⟨lp, la, rfl, e⟩
end My

set_option Elab.async false
set_option linter.all false
set_option maxRecDepth 100000
set_option maxHeartbeats 8000000
namespace My
open PySem PySem.Spec PyProof.Rows L2 Wp Gn
local macro_rules | `(tactic| walk_at "go") => `(tactic| (with_reducible refine goS_i ?_))
local macro_rules | `(tactic| walk_at "wp") => `(tactic| simp (disch := omega) only [Wp.wSeq, Wp.wNext, Wp.wSet, Wp.wVar, Wp.wC, Wp.wOp, Wp.wRet, Wp.wIfS, Wp.wTest, Wp.wCall, Wp.wCons, Wp.wNil, Wp.wTup, Wp.wLst, Wp.wAsg, Wp.gTp, Wp.gC, Wp.gNm, Wp.gN0, Wp.gIx, Wp.rSet, Wp.rAdd, Wp.rMul, Wp.rMod, Wp.rSub, Wp.rFdiv, Wp.rPow, Wp.rInt, Wp.rIx, Wp.rLt, Wp.rLe, Wp.rCmp, Wp.rGeI, Wp.rGtI, Wp.wCB, Wp.rLen, Wp.rLen1, Wp.rInt1, Wp.rMax2, Wp.rMin2, Wp.rTupOf, Wp.rListOf,
  Wp.wIsi, Wp.rBIs, Wp.rIsN, Wp.isNon, Wp.wMt, Wp.rAppendT, Wp.rExtendT, Wp.rReverseT, Wp.wNot, Wp.wOr, Wp.wAnd, Wp.wAndV, Wp.wOrV, Wp.wNotV, Wp.wFor, Wp.iRg1, Wp.iRg2, Wp.iAnyW, Wp.wAll, Wp.wChain, Wp.wSl, Wp.wNoPart, Wp.wPart, Wp.rSl, Wp.wNeg, Wp.rNeg, Wp.wLc, Wp.wYes, Wp.wDrop, Wp.wipeT, Wp.wAug, List.map, List.set_cons_zero, List.set_cons_succ, List.getElem?_cons_zero, List.getElem?_cons_succ, List.length_cons, List.length_nil, List.cons_append, List.nil_append, List.replicate, Wp.startT,
  true_and, and_true, Wp.wif_true, Wp.wif_false, Wp.ex_some, Wp.ex_some1, Wp.ex_eq, Wp.ex_lst, Wp.ex_lst0, Wp.rEq_int, Bool.false_bne, Bool.true_bne, Int.reduceLT, Int.reduceLE, Int.reduceAdd, Nat.reduceAdd, Nat.reduceSub, eq_self, ite_true, ite_false, beq_self_eq_true, Bool.not_true, Bool.not_false, Wp.isB_0, Wp.isB_1, Wp.isB_2, Wp.isB_3, Wp.isB_4, Wp.isB_5, Wp.isB_6, Wp.isB_7, Wp.isB_8, Wp.isB_9, Wp.isB_10, Wp.isB_11, Wp.isB_12, Wp.isB_13, Wp.isB_14, Wp.isB_15, Wp.isB_16, Wp.isB_17, Wp.isB_18, Wp.isB_19, Wp.isB_20, Wp.isB_21, Wp.isB_22, Wp.isB_23, Wp.isB_24, Wp.isB_25, Wp.isB_26, Wp.isB_27, Wp.isB_28, Wp.isB_29, Wp.isB_30, Wp.isB_31, Wp.isB_32, Wp.isB_33, Wp.isB_34, Wp.isB_35, Wp.cmul_l, Wp.cmul_r, Wp.cpow_lit, Wp.size_le, Wp.size_lt, Wp.atI_0, Wp.atI_1, Wp.atI_2, Wp.atI_3, Wp.atI_4, Wp.atI_5, Wp.atI_6, Wp.ixN_0, Wp.ixN_1, Wp.ixN_2, Wp.itemsT, Wp.tyT, reduceIte, Wp.wFld, Wp.wFSet, Wp.wFAug, Wp.wMeth, Wp.wMake, Wp.rIxA, Wp.rInA, Wp.rSetA, Wp.ixA, Wp.inA, Wp.setA, Wp.lenA, Wp.getD, Option.map_some, Option.bind_some, Option.getD_some,  Wp.gIxA, Wp.wDNew, Wp.wDNewT, Wp.rLenA, Wp.rSortD, Wp.rMaxL, Wp.rPopL, Wp.rGet1, Wp.rGet2, Wp.wGet1, Wp.wGet2, Wp.wPop1, Wp.wPop2, Wp.wDel, Wp.isDT, Wp.keyT, Wp.keysT, Wp.keysL, Wp.ex_ins, Wp.ex_dct, Wp.wSrtIt, Wp.iRg3, Wp.rAddI, Wp.wIf, Wp.rExtT, Wp.wTestI, Wp.rGt, Wp.rMulA, Int.cast_ofNat_Int, Int.reduceBEq, lk_End__base, pt_End__base, lk_End__pending, pt_End__pending, lk_End__closed, pt_End__closed, lk_End__given, pt_End__given, lk_End__got, pt_End__got, lk_End__ended, pt_End__ended, lk_End__ahead, pt_End__ahead, lk_End__end, pt_End__end, no_End__keep, no_End__learn, no_End__take_in_order, no_End_close, no_End_due, no_End_has_end, no_End_is_given, no_End_picture, no_End_take, no_End_taken, no_End_write, ln_End, mk_End, Wp.rSortDA, Wp.wDisp, Wp.wPCons, Wp.wPNil, ix_out, ix_closed, ix_base, ix_given, ix_seen, ix_got, ix_ended, ix_end, st_closed, st_base, st_given, st_got, st_ended, st_end, sdL_len, Wp.upS, Wp.upS_upS, *])
local macro_rules | `(tactic| walk_at "run") => `(tactic| repeat (first | walk_at "wp" | walk_at "go"))
local macro_rules | `(tactic| walk_at "wq") => `(tactic| simp (disch := omega) only [Wp.wSeq, Wp.wNext, Wp.wSet, Wp.wVar, Wp.wC, Wp.wOp, Wp.wRet, Wp.wIfS, Wp.wTest, Wp.wCall, Wp.wCons, Wp.wNil, Wp.wTup, Wp.wLst, Wp.wAsg, Wp.gTp, Wp.gC, Wp.gNm, Wp.gN0, Wp.gIx, Wp.rSet, Wp.rAdd, Wp.rMul, Wp.rMod, Wp.rSub, Wp.rFdiv, Wp.rPow, Wp.rInt, Wp.rIx, Wp.rLt, Wp.rLe, Wp.rCmp, Wp.rGeI, Wp.rGtI, Wp.wCB, Wp.rLen, Wp.rLen1, Wp.rInt1, Wp.rMax2, Wp.rMin2, Wp.rTupOf, Wp.rListOf,
  Wp.wIsi, Wp.rBIs, Wp.rIsN, Wp.isNon, Wp.wMt, Wp.rAppendT, Wp.rExtendT, Wp.rReverseT, Wp.wNot, Wp.wOr, Wp.wAnd, Wp.wAndV, Wp.wOrV, Wp.wNotV, Wp.wFor, Wp.iRg1, Wp.iRg2, Wp.iAnyW, Wp.wAll, Wp.wChain, Wp.wSl, Wp.wNoPart, Wp.wPart, Wp.rSl, Wp.wNeg, Wp.rNeg, Wp.wLc, Wp.wYes, Wp.wDrop, Wp.wipeT, Wp.wAug, List.map, List.set_cons_zero, List.set_cons_succ, List.getElem?_cons_zero, List.getElem?_cons_succ, List.length_cons, List.length_nil, List.cons_append, List.nil_append, List.replicate, Wp.startT,
  true_and, and_true, Wp.wif_true, Wp.wif_false, Wp.ex_some, Wp.ex_some1, Wp.ex_eq, Wp.ex_lst, Wp.ex_lst0, Wp.rEq_int, Bool.false_bne, Bool.true_bne, Int.reduceLT, Int.reduceLE, Int.reduceAdd, Nat.reduceAdd, Nat.reduceSub, eq_self, ite_true, ite_false, beq_self_eq_true, Bool.not_true, Bool.not_false, Wp.isB_0, Wp.isB_1, Wp.isB_2, Wp.isB_3, Wp.isB_4, Wp.isB_5, Wp.isB_6, Wp.isB_7, Wp.isB_8, Wp.isB_9, Wp.isB_10, Wp.isB_11, Wp.isB_12, Wp.isB_13, Wp.isB_14, Wp.isB_15, Wp.isB_16, Wp.isB_17, Wp.isB_18, Wp.isB_19, Wp.isB_20, Wp.isB_21, Wp.isB_22, Wp.isB_23, Wp.isB_24, Wp.isB_25, Wp.isB_26, Wp.isB_27, Wp.isB_28, Wp.isB_29, Wp.isB_30, Wp.isB_31, Wp.isB_32, Wp.isB_33, Wp.isB_34, Wp.isB_35, Wp.cmul_l, Wp.cmul_r, Wp.cpow_lit, Wp.size_le, Wp.size_lt, Wp.atI_0, Wp.atI_1, Wp.atI_2, Wp.atI_3, Wp.atI_4, Wp.atI_5, Wp.atI_6, Wp.ixN_0, Wp.ixN_1, Wp.ixN_2, Wp.itemsT, Wp.tyT, reduceIte, Wp.wFld, Wp.wFSet, Wp.wFAug, Wp.wMeth, Wp.wMake, Wp.rIxA, Wp.rInA, Wp.rSetA, Wp.ixA, Wp.inA, Wp.setA, Wp.lenA, Wp.getD, Option.map_some, Option.bind_some, Option.getD_some,  Wp.gIxA, Wp.wDNew, Wp.wDNewT, Wp.rLenA, Wp.rSortD, Wp.rMaxL, Wp.rPopL, Wp.rGet1, Wp.rGet2, Wp.wGet1, Wp.wGet2, Wp.wPop1, Wp.wPop2, Wp.wDel, Wp.isDT, Wp.keyT, Wp.keysT, Wp.keysL, Wp.ex_ins, Wp.ex_dct, Wp.wSrtIt, Wp.iRg3, Wp.rAddI, Wp.wIf, Wp.rExtT, Wp.wTestI, Wp.rGt, Wp.rMulA, Int.cast_ofNat_Int, Int.reduceBEq, lk_End__base, pt_End__base, lk_End__pending, pt_End__pending, lk_End__closed, pt_End__closed, lk_End__given, pt_End__given, lk_End__got, pt_End__got, lk_End__ended, pt_End__ended, lk_End__ahead, pt_End__ahead, lk_End__end, pt_End__end, no_End__keep, no_End__learn, no_End__take_in_order, no_End_close, no_End_due, no_End_has_end, no_End_is_given, no_End_picture, no_End_take, no_End_taken, no_End_write, ln_End, mk_End, Wp.rSortDA, Wp.wDisp, Wp.wPCons, Wp.wPNil, ix_out, ix_closed, ix_base, ix_given, ix_seen, ix_got, ix_ended, ix_end, st_closed, st_base, st_given, st_got, st_ended, st_end, sdL_len, *])
local macro_rules | `(tactic| walk_at "r2") => `(tactic| repeat (first | walk_at "wq" | walk_at "go"))
local macro_rules | `(tactic| walk_at "w0") => `(tactic| simp (disch := omega) only [Wp.wSeq, Wp.wNext, Wp.wSet, Wp.wVar, Wp.wC, Wp.wOp, Wp.wRet, Wp.wIfS, Wp.wTest, Wp.wCall, Wp.wCons, Wp.wNil, Wp.wTup, Wp.wLst, Wp.wAsg, Wp.gTp, Wp.gC, Wp.gNm, Wp.gN0, Wp.gIx, Wp.rSet, Wp.rAdd, Wp.rMul, Wp.rMod, Wp.rSub, Wp.rFdiv, Wp.rPow, Wp.rInt, Wp.rIx, Wp.rLt, Wp.rLe, Wp.rCmp, Wp.rGeI, Wp.rGtI, Wp.wCB, Wp.rLen, Wp.rLen1, Wp.rInt1, Wp.rMax2, Wp.rMin2, Wp.rTupOf, Wp.rListOf,
  Wp.wIsi, Wp.rBIs, Wp.rIsN, Wp.isNon, Wp.wMt, Wp.rAppendT, Wp.rExtendT, Wp.rReverseT, Wp.wNot, Wp.wOr, Wp.wAnd, Wp.wAndV, Wp.wOrV, Wp.wNotV, Wp.wFor, Wp.iRg1, Wp.iRg2, Wp.iAnyW, Wp.wAll, Wp.wChain, Wp.wSl, Wp.wNoPart, Wp.wPart, Wp.rSl, Wp.wNeg, Wp.rNeg, Wp.wLc, Wp.wYes, Wp.wDrop, Wp.wipeT, Wp.wAug, List.map, List.set_cons_zero, List.set_cons_succ, List.getElem?_cons_zero, List.getElem?_cons_succ, List.length_cons, List.length_nil, List.cons_append, List.nil_append, List.replicate, Wp.startT,
  true_and, and_true, Wp.wif_true, Wp.wif_false, Wp.ex_some, Wp.ex_some1, Wp.ex_eq, Wp.ex_lst, Wp.ex_lst0, Wp.rEq_int, Bool.false_bne, Bool.true_bne, Int.reduceLT, Int.reduceLE, Int.reduceAdd, Nat.reduceAdd, Nat.reduceSub, eq_self, ite_true, ite_false, beq_self_eq_true, Bool.not_true, Bool.not_false, Wp.isB_0, Wp.isB_1, Wp.isB_2, Wp.isB_3, Wp.isB_4, Wp.isB_5, Wp.isB_6, Wp.isB_7, Wp.isB_8, Wp.isB_9, Wp.isB_10, Wp.isB_11, Wp.isB_12, Wp.isB_13, Wp.isB_14, Wp.isB_15, Wp.isB_16, Wp.isB_17, Wp.isB_18, Wp.isB_19, Wp.isB_20, Wp.isB_21, Wp.isB_22, Wp.isB_23, Wp.isB_24, Wp.isB_25, Wp.isB_26, Wp.isB_27, Wp.isB_28, Wp.isB_29, Wp.isB_30, Wp.isB_31, Wp.isB_32, Wp.isB_33, Wp.isB_34, Wp.isB_35, Wp.cmul_l, Wp.cmul_r, Wp.cpow_lit, Wp.size_le, Wp.size_lt, Wp.atI_0, Wp.atI_1, Wp.atI_2, Wp.atI_3, Wp.atI_4, Wp.atI_5, Wp.atI_6, Wp.ixN_0, Wp.ixN_1, Wp.ixN_2, Wp.itemsT, Wp.tyT, reduceIte, Wp.wFld, Wp.wFSet, Wp.wFAug, Wp.wMeth, Wp.wMake, Wp.rIxA, Wp.rInA, Wp.rSetA, Wp.ixA, Wp.inA, Wp.setA, Wp.lenA, Wp.getD, Option.map_some, Option.bind_some, Option.getD_some,  Wp.gIxA, Wp.wDNew, Wp.wDNewT, Wp.rLenA, Wp.rSortD, Wp.rMaxL, Wp.rPopL, Wp.rGet1, Wp.rGet2, Wp.wGet1, Wp.wGet2, Wp.wPop1, Wp.wPop2, Wp.wDel, Wp.isDT, Wp.keyT, Wp.keysT, Wp.keysL, Wp.ex_ins, Wp.ex_dct, Wp.wSrtIt, Wp.iRg3, Wp.rAddI, Wp.wIf, Wp.rExtT, Wp.wTestI, Wp.rGt, Wp.rMulA, Int.cast_ofNat_Int, Int.reduceBEq, lk_End__base, pt_End__base, lk_End__pending, pt_End__pending, lk_End__closed, pt_End__closed, lk_End__given, pt_End__given, lk_End__got, pt_End__got, lk_End__ended, pt_End__ended, lk_End__ahead, pt_End__ahead, lk_End__end, pt_End__end, no_End__keep, no_End__learn, no_End__take_in_order, no_End_close, no_End_due, no_End_has_end, no_End_is_given, no_End_picture, no_End_take, no_End_taken, no_End_write, ln_End, mk_End, Wp.rSortDA, Wp.wDisp, Wp.wPCons, Wp.wPNil, ix_out, ix_closed, ix_base, ix_given, ix_seen, ix_got, ix_ended, ix_end, st_closed, st_base, st_given, st_got, st_ended, st_end, sdL_len])
local macro_rules | `(tactic| walk_at "r0") => `(tactic| repeat (first | walk_at "w0" | walk_at "go"))
variable {C : Addr}
theorem learn_ahead (m : EM) (t : Int) : (m.learn t).ahead = m.ahead := rfl
theorem rEq_fin {g : Int} {f : Option Int} {S : Sta} {Q : T → Sta → Prop} (h : Q (.bl (decide (f = some g))) S) : rEq false (.int g) (finT f) S Q := by
  cases f with
  | none => exact ⟨.int g, rfl, .none, rfl, rfl, rfl, h⟩
  | some k =>
    show rEq false (.int g) (.int k) S Q
    rw [Wp.rEq_int]
    rw [show decide (some k = some g) = (g == k) by
      by_cases e : k = g
      · simp [e]
      · rw [decide_eq_false (by simpa using e), (beq_eq_false_iff_ne).mpr (fun z => e z.symm)]] at h
    rw [Bool.false_bne]
    exact h
theorem take_tail {a : Addr} {F : List Addr} {M : EM} {S : Sta} {D : WEnds} {x1 x2 x3 x4 x5 : Option T} (he : EndA C S a F M) (hs : srtd M.ahead) (hg : ∀ e ∈ M.ahead, M.got ≤ e.1) (hn : M.ahead.length ≤ 200000)
    (k : ∀ S', Frm S S' F F → EndA C S' a F M.order.endI → D.rt (.tup (M.fresh.map T.int)) S') :
    (wSeq (wSet 5 (wMeth C "_take_in_order" 1 (spOrder C) (wVar 0) wNil)) (wSeq (wIfS (wTest (wOp (Wp.rEq false) (wFld C "_got" (wVar 0)) (wFld C "_end" (wVar 0)))) (wFSet C "_ended" (wVar 0) (wC (T.int 1))) wNext) (wRet (wVar 5)))) D [some (.ref a), x1, x2, x3, x4, x5] S := by
  have he0 := he
  obtain ⟨lp, la, hF, e1, _⟩ := he0
  walk_at "r0"
  rw [e1]
  walk_at "r0"
  refine ⟨F, M, he, hs, hg, hn, fun S1 f1 he1 => ?_⟩
  have he0 := he1
  obtain ⟨lp1, la1, hF1, g1, g2, ks, g3, pm⟩ := he0
  have n1 : lp1 ≠ a := fun e => by rw [e, g1] at g2; cases g2
  have n2 : la1 ≠ a := fun e => by rw [e, g1] at g3; cases g3
  walk_at "r0"
  rw [g1]
  try walk_at "r0"
  try simp only [g1]
  try walk_at "r0"
  refine rEq_fin ?_
  show wif (decide (M.order.fin = some M.order.got)) _ _
  refine if_dec (fun q => ?_) (fun q => ?_)
  · try rw [g1]
    walk_at "r0"
    refine ⟨by decide, ?_⟩
    have en : M.order.endI = { M.order with ended := 1 } := by unfold EM.endI; rw [if_pos q]
    rw [en] at k
    walk_at "r0"
    refine k _ (f1.trans (Frm.up (by rw [hF1]; simp))) ⟨lp1, la1, hF1, ?_, ?_, ks, ?_, pm⟩
    · rw [upS_same]
    · rw [upS_ne n1]; exact g2
    · rw [upS_ne n2]; exact g3
  · have en : M.order.endI = M.order := by unfold EM.endI; rw [if_neg q]
    rw [en] at k
    walk_at "r0"
    exact k S1 f1 ⟨lp1, la1, hF1, g1, g2, ks, g3, pm⟩
def spTake (C : Addr) : WSp := fun ts S Q _ => match ts with
  | [.ref a, .int o, .tup ds, .int l, .int t] => ∃ F m d, EndA C S a F m ∧ WF m ∧ ds = d.map T.int ∧ d.length ≤ 100000 ∧ (0 ≤ o ∧ o < 2 ^ 40) ∧ ∀ S' F', Frm S S' F F' → EndA C S' a F' (m.take o d l t) → Q (.tup ((m.out o d l t).map T.int)) S'
  | _ => False
theorem hw_take : ∀ ts S Q E, ts.length = 5 → spTake C ts S Q E → b_End_take C (spLearn C) (spKeep C) (spOrder C) { nx := fun _ S' => Q .non S', rt := Q } (Wp.startT N_End_take ts) S := by
  intro ts S Q E _ h
  match ts, h with
  | [.ref a, .int o, .tup _, .int l, .int t], ⟨F, m, d, he, wf, rfl, hd, ho, h⟩ =>
    have he0 := he
    obtain ⟨lp, la, hF, e1, _⟩ := he0
    have wf1 : WF (m.learn t) := ⟨wf.s, wf.g, wf.n, by have := wf.p; show (m.pend.drop _).length ≤ 100000; rw [List.length_drop]; omega⟩
    unfold b_End_take N_End_take
    walk_at "r0"
    rw [e1]
    walk_at "r0"
    refine ⟨F, m, he, by have := wf.p; omega, fun S1 F1 f1 he1 => ?_⟩
    have he0 := he1
    obtain ⟨lp1, la1, hF1, g1, _⟩ := he0
    walk_at "r0"
    rw [g1]
    walk_at "r0"
    refine ⟨F1, m.learn t, d, he1, wf1, rfl, hd, ho, fun S2 f2 he2 => ?_⟩
    have he0 := he2
    obtain ⟨lp2, la2, hF2, k1, k2, ks, k3, pm⟩ := he0
    have n1 : lp2 ≠ a := fun e => by rw [e, k1] at k2; cases k2
    have n2 : la2 ≠ a := fun e => by rw [e, k1] at k3; cases k3
    have m1 : srtd (m.mid o d l t).ahead := keepA_srtd d _ _ wf.s
    have m2 : ∀ e ∈ (m.mid o d l t).ahead, (m.mid o d l t).got ≤ e.1 := keepA_ge d _ _ wf.g
    have m3 : (m.mid o d l t).ahead.length ≤ 200000 := by
      have := keepA_len (g := m.got) d m.ahead o
      have := wf.n
      show (keepA m.got m.ahead o d).length ≤ 200000
      omega
    walk_at "r0"
    refine if_bool (fun hl => ?_) (fun hl => ?_)
    · rw [k1]
      walk_at "r0"
      refine ⟨by decide, ?_⟩
      have hl : l = 1 := by simpa using hl
      refine goS_i (take_tail (M := m.mid o d l t) (F := F1) ⟨lp2, la2, hF2, ?_, ?_, ks, ?_, pm⟩ m1 m2 m3 fun S' f e => h S' F1 ((f1.trans f2).trans ((Frm.up (by rw [hF2]; simp)).trans f)) e)
      · rw [upS_same]
        unfold EM.mid EM.finI
        rw [if_pos hl, List.length_map]
        rfl
      · rw [upS_ne n1]; exact k2
      · rw [upS_ne n2]; exact k3
    · have hl : ¬ l = 1 := by simpa using hl
      have em : m.mid o d l t = (m.learn t).keep o d := by unfold EM.mid EM.finI; rw [if_neg hl]
      refine goS_i (take_tail (M := m.mid o d l t) (F := F1) (by rw [em]; exact ⟨lp2, la2, hF2, k1, k2, ks, k3, pm⟩) m1 m2 m3 fun S' f e => h S' F1 ((f1.trans f2).trans f) e)
end My

set_option Elab.async false
set_option linter.all false
set_option maxRecDepth 100000
set_option maxHeartbeats 8000000
namespace My
open PySem PySem.Spec PyProof.Rows L2 Wp Gn
local macro_rules | `(tactic| walk_at "go") => `(tactic| (with_reducible refine goS_i ?_))
local macro_rules | `(tactic| walk_at "wp") => `(tactic| simp (disch := omega) only [Wp.wSeq, Wp.wNext, Wp.wSet, Wp.wVar, Wp.wC, Wp.wOp, Wp.wRet, Wp.wIfS, Wp.wTest, Wp.wCall, Wp.wCons, Wp.wNil, Wp.wTup, Wp.wLst, Wp.wAsg, Wp.gTp, Wp.gC, Wp.gNm, Wp.gN0, Wp.gIx, Wp.rSet, Wp.rAdd, Wp.rMul, Wp.rMod, Wp.rSub, Wp.rFdiv, Wp.rPow, Wp.rInt, Wp.rIx, Wp.rLt, Wp.rLe, Wp.rCmp, Wp.rGeI, Wp.rGtI, Wp.wCB, Wp.rLen, Wp.rLen1, Wp.rInt1, Wp.rMax2, Wp.rMin2, Wp.rTupOf, Wp.rListOf,
  Wp.wIsi, Wp.rBIs, Wp.rIsN, Wp.isNon, Wp.wMt, Wp.rAppendT, Wp.rExtendT, Wp.rReverseT, Wp.wNot, Wp.wOr, Wp.wAnd, Wp.wAndV, Wp.wOrV, Wp.wNotV, Wp.wFor, Wp.iRg1, Wp.iRg2, Wp.iAnyW, Wp.wAll, Wp.wChain, Wp.wSl, Wp.wNoPart, Wp.wPart, Wp.rSl, Wp.wNeg, Wp.rNeg, Wp.wLc, Wp.wYes, Wp.wDrop, Wp.wipeT, Wp.wAug, List.map, List.set_cons_zero, List.set_cons_succ, List.getElem?_cons_zero, List.getElem?_cons_succ, List.length_cons, List.length_nil, List.cons_append, List.nil_append, List.replicate, Wp.startT,
  true_and, and_true, Wp.wif_true, Wp.wif_false, Wp.ex_some, Wp.ex_some1, Wp.ex_eq, Wp.ex_lst, Wp.ex_lst0, Wp.rEq_int, Bool.false_bne, Bool.true_bne, Int.reduceLT, Int.reduceLE, Int.reduceAdd, Nat.reduceAdd, Nat.reduceSub, eq_self, ite_true, ite_false, beq_self_eq_true, Bool.not_true, Bool.not_false, Wp.isB_0, Wp.isB_1, Wp.isB_2, Wp.isB_3, Wp.isB_4, Wp.isB_5, Wp.isB_6, Wp.isB_7, Wp.isB_8, Wp.isB_9, Wp.isB_10, Wp.isB_11, Wp.isB_12, Wp.isB_13, Wp.isB_14, Wp.isB_15, Wp.isB_16, Wp.isB_17, Wp.isB_18, Wp.isB_19, Wp.isB_20, Wp.isB_21, Wp.isB_22, Wp.isB_23, Wp.isB_24, Wp.isB_25, Wp.isB_26, Wp.isB_27, Wp.isB_28, Wp.isB_29, Wp.isB_30, Wp.isB_31, Wp.isB_32, Wp.isB_33, Wp.isB_34, Wp.isB_35, Wp.cmul_l, Wp.cmul_r, Wp.cpow_lit, Wp.size_le, Wp.size_lt, Wp.atI_0, Wp.atI_1, Wp.atI_2, Wp.atI_3, Wp.atI_4, Wp.atI_5, Wp.atI_6, Wp.ixN_0, Wp.ixN_1, Wp.ixN_2, Wp.itemsT, Wp.tyT, reduceIte, Wp.wFld, Wp.wFSet, Wp.wFAug, Wp.wMeth, Wp.wMake, Wp.rIxA, Wp.rInA, Wp.rSetA, Wp.ixA, Wp.inA, Wp.setA, Wp.lenA, Wp.getD, Option.map_some, Option.bind_some, Option.getD_some,  Wp.gIxA, Wp.wDNew, Wp.wDNewT, Wp.rLenA, Wp.rSortD, Wp.rMaxL, Wp.rPopL, Wp.rGet1, Wp.rGet2, Wp.wGet1, Wp.wGet2, Wp.wPop1, Wp.wPop2, Wp.wDel, Wp.isDT, Wp.keyT, Wp.keysT, Wp.keysL, Wp.ex_ins, Wp.ex_dct, Wp.wSrtIt, Wp.iRg3, Wp.rAddI, Wp.wIf, Wp.rExtT, Wp.wTestI, Wp.rGt, Wp.rMulA, lk_End__base, pt_End__base, lk_End__pending, pt_End__pending, lk_End__closed, pt_End__closed, lk_End__given, pt_End__given, lk_End__got, pt_End__got, lk_End__ended, pt_End__ended, lk_End__ahead, pt_End__ahead, lk_End__end, pt_End__end, no_End__keep, no_End__learn, no_End__take_in_order, no_End_close, no_End_due, no_End_has_end, no_End_is_given, no_End_picture, no_End_take, no_End_taken, no_End_write, ln_End, mk_End, Wp.rSortDA, Wp.wDisp, Wp.wPCons, Wp.wPNil, ix_out, ix_closed, ix_base, ix_given, ix_seen, ix_got, ix_ended, ix_end, st_closed, st_base, st_given, st_got, st_ended, st_end, sdL_len, Wp.upS, Wp.upS_upS, *])
local macro_rules | `(tactic| walk_at "run") => `(tactic| repeat (first | walk_at "wp" | walk_at "go"))
local macro_rules | `(tactic| walk_at "wq") => `(tactic| simp (disch := omega) only [Wp.wSeq, Wp.wNext, Wp.wSet, Wp.wVar, Wp.wC, Wp.wOp, Wp.wRet, Wp.wIfS, Wp.wTest, Wp.wCall, Wp.wCons, Wp.wNil, Wp.wTup, Wp.wLst, Wp.wAsg, Wp.gTp, Wp.gC, Wp.gNm, Wp.gN0, Wp.gIx, Wp.rSet, Wp.rAdd, Wp.rMul, Wp.rMod, Wp.rSub, Wp.rFdiv, Wp.rPow, Wp.rInt, Wp.rIx, Wp.rLt, Wp.rLe, Wp.rCmp, Wp.rGeI, Wp.rGtI, Wp.wCB, Wp.rLen, Wp.rLen1, Wp.rInt1, Wp.rMax2, Wp.rMin2, Wp.rTupOf, Wp.rListOf,
  Wp.wIsi, Wp.rBIs, Wp.rIsN, Wp.isNon, Wp.wMt, Wp.rAppendT, Wp.rExtendT, Wp.rReverseT, Wp.wNot, Wp.wOr, Wp.wAnd, Wp.wAndV, Wp.wOrV, Wp.wNotV, Wp.wFor, Wp.iRg1, Wp.iRg2, Wp.iAnyW, Wp.wAll, Wp.wChain, Wp.wSl, Wp.wNoPart, Wp.wPart, Wp.rSl, Wp.wNeg, Wp.rNeg, Wp.wLc, Wp.wYes, Wp.wDrop, Wp.wipeT, Wp.wAug, List.map, List.set_cons_zero, List.set_cons_succ, List.getElem?_cons_zero, List.getElem?_cons_succ, List.length_cons, List.length_nil, List.cons_append, List.nil_append, List.replicate, Wp.startT,
  true_and, and_true, Wp.wif_true, Wp.wif_false, Wp.ex_some, Wp.ex_some1, Wp.ex_eq, Wp.ex_lst, Wp.ex_lst0, Wp.rEq_int, Bool.false_bne, Bool.true_bne, Int.reduceLT, Int.reduceLE, Int.reduceAdd, Nat.reduceAdd, Nat.reduceSub, eq_self, ite_true, ite_false, beq_self_eq_true, Bool.not_true, Bool.not_false, Wp.isB_0, Wp.isB_1, Wp.isB_2, Wp.isB_3, Wp.isB_4, Wp.isB_5, Wp.isB_6, Wp.isB_7, Wp.isB_8, Wp.isB_9, Wp.isB_10, Wp.isB_11, Wp.isB_12, Wp.isB_13, Wp.isB_14, Wp.isB_15, Wp.isB_16, Wp.isB_17, Wp.isB_18, Wp.isB_19, Wp.isB_20, Wp.isB_21, Wp.isB_22, Wp.isB_23, Wp.isB_24, Wp.isB_25, Wp.isB_26, Wp.isB_27, Wp.isB_28, Wp.isB_29, Wp.isB_30, Wp.isB_31, Wp.isB_32, Wp.isB_33, Wp.isB_34, Wp.isB_35, Wp.cmul_l, Wp.cmul_r, Wp.cpow_lit, Wp.size_le, Wp.size_lt, Wp.atI_0, Wp.atI_1, Wp.atI_2, Wp.atI_3, Wp.atI_4, Wp.atI_5, Wp.atI_6, Wp.ixN_0, Wp.ixN_1, Wp.ixN_2, Wp.itemsT, Wp.tyT, reduceIte, Wp.wFld, Wp.wFSet, Wp.wFAug, Wp.wMeth, Wp.wMake, Wp.rIxA, Wp.rInA, Wp.rSetA, Wp.ixA, Wp.inA, Wp.setA, Wp.lenA, Wp.getD, Option.map_some, Option.bind_some, Option.getD_some,  Wp.gIxA, Wp.wDNew, Wp.wDNewT, Wp.rLenA, Wp.rSortD, Wp.rMaxL, Wp.rPopL, Wp.rGet1, Wp.rGet2, Wp.wGet1, Wp.wGet2, Wp.wPop1, Wp.wPop2, Wp.wDel, Wp.isDT, Wp.keyT, Wp.keysT, Wp.keysL, Wp.ex_ins, Wp.ex_dct, Wp.wSrtIt, Wp.iRg3, Wp.rAddI, Wp.wIf, Wp.rExtT, Wp.wTestI, Wp.rGt, Wp.rMulA, lk_End__base, pt_End__base, lk_End__pending, pt_End__pending, lk_End__closed, pt_End__closed, lk_End__given, pt_End__given, lk_End__got, pt_End__got, lk_End__ended, pt_End__ended, lk_End__ahead, pt_End__ahead, lk_End__end, pt_End__end, no_End__keep, no_End__learn, no_End__take_in_order, no_End_close, no_End_due, no_End_has_end, no_End_is_given, no_End_picture, no_End_take, no_End_taken, no_End_write, ln_End, mk_End, Wp.rSortDA, Wp.wDisp, Wp.wPCons, Wp.wPNil, ix_out, ix_closed, ix_base, ix_given, ix_seen, ix_got, ix_ended, ix_end, st_closed, st_base, st_given, st_got, st_ended, st_end, sdL_len, *])
local macro_rules | `(tactic| walk_at "r2") => `(tactic| repeat (first | walk_at "wq" | walk_at "go"))
local macro_rules | `(tactic| walk_at "w0") => `(tactic| simp (disch := omega) only [Wp.wSeq, Wp.wNext, Wp.wSet, Wp.wVar, Wp.wC, Wp.wOp, Wp.wRet, Wp.wIfS, Wp.wTest, Wp.wCall, Wp.wCons, Wp.wNil, Wp.wTup, Wp.wLst, Wp.wAsg, Wp.gTp, Wp.gC, Wp.gNm, Wp.gN0, Wp.gIx, Wp.rSet, Wp.rAdd, Wp.rMul, Wp.rMod, Wp.rSub, Wp.rFdiv, Wp.rPow, Wp.rInt, Wp.rIx, Wp.rLt, Wp.rLe, Wp.rCmp, Wp.rGeI, Wp.rGtI, Wp.wCB, Wp.rLen, Wp.rLen1, Wp.rInt1, Wp.rMax2, Wp.rMin2, Wp.rTupOf, Wp.rListOf,
  Wp.wIsi, Wp.rBIs, Wp.rIsN, Wp.isNon, Wp.wMt, Wp.rAppendT, Wp.rExtendT, Wp.rReverseT, Wp.wNot, Wp.wOr, Wp.wAnd, Wp.wAndV, Wp.wOrV, Wp.wNotV, Wp.wFor, Wp.iRg1, Wp.iRg2, Wp.iAnyW, Wp.wAll, Wp.wChain, Wp.wSl, Wp.wNoPart, Wp.wPart, Wp.rSl, Wp.wNeg, Wp.rNeg, Wp.wLc, Wp.wYes, Wp.wDrop, Wp.wipeT, Wp.wAug, List.map, List.set_cons_zero, List.set_cons_succ, List.getElem?_cons_zero, List.getElem?_cons_succ, List.length_cons, List.length_nil, List.cons_append, List.nil_append, List.replicate, Wp.startT,
  true_and, and_true, Wp.wif_true, Wp.wif_false, Wp.ex_some, Wp.ex_some1, Wp.ex_eq, Wp.ex_lst, Wp.ex_lst0, Wp.rEq_int, Bool.false_bne, Bool.true_bne, Int.reduceLT, Int.reduceLE, Int.reduceAdd, Nat.reduceAdd, Nat.reduceSub, eq_self, ite_true, ite_false, beq_self_eq_true, Bool.not_true, Bool.not_false, Wp.isB_0, Wp.isB_1, Wp.isB_2, Wp.isB_3, Wp.isB_4, Wp.isB_5, Wp.isB_6, Wp.isB_7, Wp.isB_8, Wp.isB_9, Wp.isB_10, Wp.isB_11, Wp.isB_12, Wp.isB_13, Wp.isB_14, Wp.isB_15, Wp.isB_16, Wp.isB_17, Wp.isB_18, Wp.isB_19, Wp.isB_20, Wp.isB_21, Wp.isB_22, Wp.isB_23, Wp.isB_24, Wp.isB_25, Wp.isB_26, Wp.isB_27, Wp.isB_28, Wp.isB_29, Wp.isB_30, Wp.isB_31, Wp.isB_32, Wp.isB_33, Wp.isB_34, Wp.isB_35, Wp.cmul_l, Wp.cmul_r, Wp.cpow_lit, Wp.size_le, Wp.size_lt, Wp.atI_0, Wp.atI_1, Wp.atI_2, Wp.atI_3, Wp.atI_4, Wp.atI_5, Wp.atI_6, Wp.ixN_0, Wp.ixN_1, Wp.ixN_2, Wp.itemsT, Wp.tyT, reduceIte, Wp.wFld, Wp.wFSet, Wp.wFAug, Wp.wMeth, Wp.wMake, Wp.rIxA, Wp.rInA, Wp.rSetA, Wp.ixA, Wp.inA, Wp.setA, Wp.lenA, Wp.getD, Option.map_some, Option.bind_some, Option.getD_some,  Wp.gIxA, Wp.wDNew, Wp.wDNewT, Wp.rLenA, Wp.rSortD, Wp.rMaxL, Wp.rPopL, Wp.rGet1, Wp.rGet2, Wp.wGet1, Wp.wGet2, Wp.wPop1, Wp.wPop2, Wp.wDel, Wp.isDT, Wp.keyT, Wp.keysT, Wp.keysL, Wp.ex_ins, Wp.ex_dct, Wp.wSrtIt, Wp.iRg3, Wp.rAddI, Wp.wIf, Wp.rExtT, Wp.wTestI, Wp.rGt, Wp.rMulA, lk_End__base, pt_End__base, lk_End__pending, pt_End__pending, lk_End__closed, pt_End__closed, lk_End__given, pt_End__given, lk_End__got, pt_End__got, lk_End__ended, pt_End__ended, lk_End__ahead, pt_End__ahead, lk_End__end, pt_End__end, no_End__keep, no_End__learn, no_End__take_in_order, no_End_close, no_End_due, no_End_has_end, no_End_is_given, no_End_picture, no_End_take, no_End_taken, no_End_write, ln_End, mk_End, Wp.rSortDA, Wp.wDisp, Wp.wPCons, Wp.wPNil, ix_out, ix_closed, ix_base, ix_given, ix_seen, ix_got, ix_ended, ix_end, st_closed, st_base, st_given, st_got, st_ended, st_end, sdL_len])
local macro_rules | `(tactic| walk_at "r0") => `(tactic| repeat (first | walk_at "w0" | walk_at "go"))
variable {C : Addr}
def spPic (C : Addr) : WSp := fun ts S Q _ => match ts with
  | [.ref a] => ∃ F m, EndA C S a F m ∧ srtd m.ahead ∧ Q m.pic S
  | _ => False
theorem hw_pic : ∀ ts S Q E, ts.length = 1 → spPic C ts S Q E → b_End_picture C { nx := fun _ S' => Q .non S', rt := Q } (Wp.startT N_End_picture ts) S := by
  intro ts S Q E _ h
  match ts, h with
  | [.ref a], ⟨F, m, ⟨lp, la, hF, e1, e2, ks, e3, pm⟩, hs, h⟩ =>
    unfold b_End_picture N_End_picture
    walk_at "r0"
    rw [e1]
    walk_at "r0"
    refine ⟨ks, e3, fun zs p1 p2 => ?_⟩
    obtain rfl : zs = m.ahead := perm_srt hs pm p1 p2
    walk_at "r0"
    rw [e1]
    walk_at "r0"
    try rw [e1]
    try walk_at "r0"
    try rw [e2]
    try walk_at "r0"
    try rw [e1]
    try walk_at "r0"
    exact h
theorem pl (f : Str) (v : T) : ∀ (fs : List (Str × T)), (putFT f v fs).length ≤ fs.length + 1
  | [] => Nat.le_refl _
  | g :: fs => by
    unfold putFT
    split
    · simp only [List.length_cons]; omega
    · have := pl f v fs
      simp only [List.length_cons]; omega
theorem pl1 {f : Str} {v : T} {fs : List (Str × T)} {n : Nat} (h : fs.length ≤ n) : (putFT f v fs).length ≤ n + 1 := Nat.le_trans (pl f v fs) (Nat.succ_le_succ h)
theorem pl0 : ([] : List (Str × T)).length ≤ 0 := Nat.le_refl _
def spInit (C : Addr) : WSp := fun ts S Q _ => match ts with
  | [.ref a] => S a = some (.ins C []) ∧ ∀ S' F, Frm S S' [a] F → EndA C S' a F EM.new → Q .non S'
  | _ => False
theorem hw_init : ∀ ts S Q E, ts.length = 1 → spInit C ts S Q E → b_End_init C { nx := fun _ S' => Q .non S', rt := Q } (Wp.startT N_End_init ts) S := by
  intro ts S Q E _ h
  match ts, h with
  | [.ref a], ⟨e1, h⟩ =>
    unfold b_End_init N_End_init
    walk_at "r0"
    rw [e1]
    walk_at "r0"
    refine ⟨by decide, ?_⟩
    generalize hS1 : upS S a _ = S1
    have g1 : S1 a = some (.ins C (putFT "_base" (.int 0) [])) := by rw [← hS1]; exact upS_same
    walk_at "r0"
    intro q hq
    have nq : a ≠ q := fun e => by rw [← e, g1] at hq; cases hq
    rw [upS_ne nq, g1]
    walk_at "r0"
    refine ⟨Nat.lt_of_le_of_lt (m := 1) (n := _) (pl1 pl0) (by decide), ?_⟩
    generalize hS2 : upS (upS S1 q _) a _ = S2
    have g2 : S2 a = some (.ins C (putFT "_pending" (.ref q) (putFT "_base" (.int 0) []))) := by rw [← hS2, upS_same]
    have q2 : S2 q = some (.lst []) := by rw [← hS2, upS_ne nq.symm, upS_same]
    have f2 : ∀ x o, S x = some o → x ≠ a → S2 x = some o := fun x o e nx => by
      have s1 : S1 x = some o := by rw [← hS1, upS_ne nx]; exact e
      rw [← hS2, upS_ne nx, upS_ne (fun z => by rw [z, hq] at s1; cases s1)]
      exact s1
    have hqS : S q = none := by
      rw [← hS1, upS_ne nq.symm] at hq
      exact hq
    walk_at "r0"
    rw [g2]
    walk_at "r0"
    refine ⟨Nat.lt_of_le_of_lt (m := 2) (n := _) (pl1 (pl1 pl0)) (by decide), ?_⟩
    walk_at "r0"
    rw [upS_same]
    walk_at "r0"
    simp only [upS_upS]
    refine ⟨Nat.lt_of_le_of_lt (m := 3) (n := _) (pl1 (pl1 (pl1 pl0))) (by decide), ?_⟩
    walk_at "r0"
    rw [upS_same]
    walk_at "r0"
    simp only [upS_upS]
    refine ⟨Nat.lt_of_le_of_lt (m := 4) (n := _) (pl1 (pl1 (pl1 (pl1 pl0)))) (by decide), ?_⟩
    walk_at "r0"
    rw [upS_same]
    walk_at "r0"
    simp only [upS_upS]
    refine ⟨Nat.lt_of_le_of_lt (m := 5) (n := _) (pl1 (pl1 (pl1 (pl1 (pl1 pl0))))) (by decide), ?_⟩
    generalize hS3 : upS S2 a _ = S3
    have g3 : S3 a = some (.ins C (putFT "_ended" (.int 0) (putFT "_got" (.int 0) (putFT "_given" (.int 0) (putFT "_closed" (.int 0) (putFT "_pending" (.ref q) (putFT "_base" (.int 0) []))))))) := by rw [← hS3, upS_same]
    have q3 : S3 q = some (.lst []) := by rw [← hS3, upS_ne nq.symm]; exact q2
    have f3 : ∀ x o, S x = some o → x ≠ a → S3 x = some o := fun x o e nx => by rw [← hS3, upS_ne nx]; exact f2 x o e nx
    walk_at "r0"
    intro r hr
    have nr : a ≠ r := fun e => by rw [← e, g3] at hr; cases hr
    have nqr : q ≠ r := fun e => by rw [← e, q3] at hr; cases hr
    have hrS : S r = none := by
      cases z : S r with
      | none => rfl
      | some o => rw [f3 r o z nr.symm] at hr; cases hr
    rw [upS_ne nr, g3]
    walk_at "r0"
    refine ⟨Nat.lt_of_le_of_lt (m := 6) (n := _) (pl1 (pl1 (pl1 (pl1 (pl1 (pl1 pl0)))))) (by decide), ?_⟩
    walk_at "r0"
    rw [upS_same]
    walk_at "r0"
    simp only [upS_upS]
    refine ⟨by first | exact Nat.lt_of_le_of_lt (m := 7) (n := _) (pl1 (pl1 (pl1 (pl1 (pl1 (pl1 (pl1 pl0))))))) (by decide) | decide, ?_⟩
    refine goS_i (h _ [a, q, r] ⟨fun x o e nx => ?_, fun x hx => ?_⟩ ⟨q, r, rfl, ?_, ?_, [], ?_, .nil⟩)
    · have nx : x ≠ a := fun z => nx (by rw [z]; simp)
      have := f3 x o e nx
      rw [upS_ne nx, upS_ne fun z => by rw [z, hr] at this; cases this]
      exact this
    · simp only [List.mem_cons, List.not_mem_nil, or_false] at hx
      rcases hx with rfl | rfl | rfl
      · exact .inl (by simp)
      · exact .inr hqS
      · exact .inr hrS
    · rw [upS_same]
      rfl
    · rw [upS_ne nq.symm, upS_ne nqr]; exact q3
    · rw [upS_ne nr.symm, upS_same]; rfl
end My

set_option Elab.async false
set_option linter.all false
set_option maxRecDepth 100000
set_option maxHeartbeats 8000000
namespace My
open PySem PySem.Spec PyProof.Rows L2 Wp Gn
local macro_rules | `(tactic| walk_at "go") => `(tactic| (with_reducible refine goS_i ?_))
local macro_rules | `(tactic| walk_at "wp") => `(tactic| simp (disch := omega) only [Wp.wSeq, Wp.wNext, Wp.wSet, Wp.wVar, Wp.wC, Wp.wOp, Wp.wRet, Wp.wIfS, Wp.wTest, Wp.wCall, Wp.wCons, Wp.wNil, Wp.wTup, Wp.wLst, Wp.wAsg, Wp.gTp, Wp.gC, Wp.gNm, Wp.gN0, Wp.gIx, Wp.rSet, Wp.rAdd, Wp.rMul, Wp.rMod, Wp.rSub, Wp.rFdiv, Wp.rPow, Wp.rInt, Wp.rIx, Wp.rLt, Wp.rLe, Wp.rCmp, Wp.rGeI, Wp.rGtI, Wp.wCB, Wp.rLen, Wp.rLen1, Wp.rInt1, Wp.rMax2, Wp.rMin2, Wp.rTupOf, Wp.rListOf,
  Wp.wIsi, Wp.rBIs, Wp.rIsN, Wp.isNon, Wp.wMt, Wp.rAppendT, Wp.rExtendT, Wp.rReverseT, Wp.wNot, Wp.wOr, Wp.wAnd, Wp.wAndV, Wp.wOrV, Wp.wNotV, Wp.wFor, Wp.iRg1, Wp.iRg2, Wp.iAnyW, Wp.wAll, Wp.wChain, Wp.wSl, Wp.wNoPart, Wp.wPart, Wp.rSl, Wp.wNeg, Wp.rNeg, Wp.wLc, Wp.wYes, Wp.wDrop, Wp.wipeT, Wp.wAug, List.map, List.set_cons_zero, List.set_cons_succ, List.getElem?_cons_zero, List.getElem?_cons_succ, List.length_cons, List.length_nil, List.cons_append, List.nil_append, List.replicate, Wp.startT,
  true_and, and_true, Wp.wif_true, Wp.wif_false, Wp.ex_some, Wp.ex_some1, Wp.ex_eq, Wp.ex_lst, Wp.ex_lst0, Wp.rEq_int, Bool.false_bne, Bool.true_bne, Int.reduceLT, Int.reduceLE, Int.reduceAdd, Nat.reduceAdd, Nat.reduceSub, eq_self, ite_true, ite_false, beq_self_eq_true, Bool.not_true, Bool.not_false, Wp.isB_0, Wp.isB_1, Wp.isB_2, Wp.isB_3, Wp.isB_4, Wp.isB_5, Wp.isB_6, Wp.isB_7, Wp.isB_8, Wp.isB_9, Wp.isB_10, Wp.isB_11, Wp.isB_12, Wp.isB_13, Wp.isB_14, Wp.isB_15, Wp.isB_16, Wp.isB_17, Wp.isB_18, Wp.isB_19, Wp.isB_20, Wp.isB_21, Wp.isB_22, Wp.isB_23, Wp.isB_24, Wp.isB_25, Wp.isB_26, Wp.isB_27, Wp.isB_28, Wp.isB_29, Wp.isB_30, Wp.isB_31, Wp.isB_32, Wp.isB_33, Wp.isB_34, Wp.isB_35, Wp.cmul_l, Wp.cmul_r, Wp.cpow_lit, Wp.size_le, Wp.size_lt, Wp.atI_0, Wp.atI_1, Wp.atI_2, Wp.atI_3, Wp.atI_4, Wp.atI_5, Wp.atI_6, Wp.ixN_0, Wp.ixN_1, Wp.ixN_2, Wp.itemsT, Wp.tyT, reduceIte, Wp.wFld, Wp.wFSet, Wp.wFAug, Wp.wMeth, Wp.wMake, Wp.rIxA, Wp.rInA, Wp.rSetA, Wp.ixA, Wp.inA, Wp.setA, Wp.lenA, Wp.getD, Option.map_some, Option.bind_some, Option.getD_some,  Wp.gIxA, Wp.wDNew, Wp.wDNewT, Wp.rLenA, Wp.rSortD, Wp.rMaxL, Wp.rPopL, Wp.rGet1, Wp.rGet2, Wp.wGet1, Wp.wGet2, Wp.wPop1, Wp.wPop2, Wp.wDel, Wp.isDT, Wp.keyT, Wp.keysT, Wp.keysL, Wp.ex_ins, Wp.ex_dct, Wp.wSrtIt, Wp.iRg3, Wp.rAddI, Wp.wIf, Wp.rExtT, Wp.wTestI, Wp.rGt, Wp.rMulA, Int.cast_ofNat_Int, Int.reduceBEq, lk_End__base, pt_End__base, lk_End__pending, pt_End__pending, lk_End__closed, pt_End__closed, lk_End__given, pt_End__given, lk_End__got, pt_End__got, lk_End__ended, pt_End__ended, lk_End__ahead, pt_End__ahead, lk_End__end, pt_End__end, no_End__keep, no_End__learn, no_End__take_in_order, no_End_close, no_End_due, no_End_has_end, no_End_is_given, no_End_picture, no_End_take, no_End_taken, no_End_write, ln_End, mk_End, Wp.rSortDA, Wp.wDisp, Wp.wPCons, Wp.wPNil, ix_out, ix_closed, ix_base, ix_given, ix_seen, ix_got, ix_ended, ix_end, st_closed, st_base, st_given, st_got, st_ended, st_end, sdL_len, Wp.upS, Wp.upS_upS, *])
local macro_rules | `(tactic| walk_at "run") => `(tactic| repeat (first | walk_at "wp" | walk_at "go"))
local macro_rules | `(tactic| walk_at "wq") => `(tactic| simp (disch := omega) only [Wp.wSeq, Wp.wNext, Wp.wSet, Wp.wVar, Wp.wC, Wp.wOp, Wp.wRet, Wp.wIfS, Wp.wTest, Wp.wCall, Wp.wCons, Wp.wNil, Wp.wTup, Wp.wLst, Wp.wAsg, Wp.gTp, Wp.gC, Wp.gNm, Wp.gN0, Wp.gIx, Wp.rSet, Wp.rAdd, Wp.rMul, Wp.rMod, Wp.rSub, Wp.rFdiv, Wp.rPow, Wp.rInt, Wp.rIx, Wp.rLt, Wp.rLe, Wp.rCmp, Wp.rGeI, Wp.rGtI, Wp.wCB, Wp.rLen, Wp.rLen1, Wp.rInt1, Wp.rMax2, Wp.rMin2, Wp.rTupOf, Wp.rListOf,
  Wp.wIsi, Wp.rBIs, Wp.rIsN, Wp.isNon, Wp.wMt, Wp.rAppendT, Wp.rExtendT, Wp.rReverseT, Wp.wNot, Wp.wOr, Wp.wAnd, Wp.wAndV, Wp.wOrV, Wp.wNotV, Wp.wFor, Wp.iRg1, Wp.iRg2, Wp.iAnyW, Wp.wAll, Wp.wChain, Wp.wSl, Wp.wNoPart, Wp.wPart, Wp.rSl, Wp.wNeg, Wp.rNeg, Wp.wLc, Wp.wYes, Wp.wDrop, Wp.wipeT, Wp.wAug, List.map, List.set_cons_zero, List.set_cons_succ, List.getElem?_cons_zero, List.getElem?_cons_succ, List.length_cons, List.length_nil, List.cons_append, List.nil_append, List.replicate, Wp.startT,
  true_and, and_true, Wp.wif_true, Wp.wif_false, Wp.ex_some, Wp.ex_some1, Wp.ex_eq, Wp.ex_lst, Wp.ex_lst0, Wp.rEq_int, Bool.false_bne, Bool.true_bne, Int.reduceLT, Int.reduceLE, Int.reduceAdd, Nat.reduceAdd, Nat.reduceSub, eq_self, ite_true, ite_false, beq_self_eq_true, Bool.not_true, Bool.not_false, Wp.isB_0, Wp.isB_1, Wp.isB_2, Wp.isB_3, Wp.isB_4, Wp.isB_5, Wp.isB_6, Wp.isB_7, Wp.isB_8, Wp.isB_9, Wp.isB_10, Wp.isB_11, Wp.isB_12, Wp.isB_13, Wp.isB_14, Wp.isB_15, Wp.isB_16, Wp.isB_17, Wp.isB_18, Wp.isB_19, Wp.isB_20, Wp.isB_21, Wp.isB_22, Wp.isB_23, Wp.isB_24, Wp.isB_25, Wp.isB_26, Wp.isB_27, Wp.isB_28, Wp.isB_29, Wp.isB_30, Wp.isB_31, Wp.isB_32, Wp.isB_33, Wp.isB_34, Wp.isB_35, Wp.cmul_l, Wp.cmul_r, Wp.cpow_lit, Wp.size_le, Wp.size_lt, Wp.atI_0, Wp.atI_1, Wp.atI_2, Wp.atI_3, Wp.atI_4, Wp.atI_5, Wp.atI_6, Wp.ixN_0, Wp.ixN_1, Wp.ixN_2, Wp.itemsT, Wp.tyT, reduceIte, Wp.wFld, Wp.wFSet, Wp.wFAug, Wp.wMeth, Wp.wMake, Wp.rIxA, Wp.rInA, Wp.rSetA, Wp.ixA, Wp.inA, Wp.setA, Wp.lenA, Wp.getD, Option.map_some, Option.bind_some, Option.getD_some,  Wp.gIxA, Wp.wDNew, Wp.wDNewT, Wp.rLenA, Wp.rSortD, Wp.rMaxL, Wp.rPopL, Wp.rGet1, Wp.rGet2, Wp.wGet1, Wp.wGet2, Wp.wPop1, Wp.wPop2, Wp.wDel, Wp.isDT, Wp.keyT, Wp.keysT, Wp.keysL, Wp.ex_ins, Wp.ex_dct, Wp.wSrtIt, Wp.iRg3, Wp.rAddI, Wp.wIf, Wp.rExtT, Wp.wTestI, Wp.rGt, Wp.rMulA, Int.cast_ofNat_Int, Int.reduceBEq, lk_End__base, pt_End__base, lk_End__pending, pt_End__pending, lk_End__closed, pt_End__closed, lk_End__given, pt_End__given, lk_End__got, pt_End__got, lk_End__ended, pt_End__ended, lk_End__ahead, pt_End__ahead, lk_End__end, pt_End__end, no_End__keep, no_End__learn, no_End__take_in_order, no_End_close, no_End_due, no_End_has_end, no_End_is_given, no_End_picture, no_End_take, no_End_taken, no_End_write, ln_End, mk_End, Wp.rSortDA, Wp.wDisp, Wp.wPCons, Wp.wPNil, ix_out, ix_closed, ix_base, ix_given, ix_seen, ix_got, ix_ended, ix_end, st_closed, st_base, st_given, st_got, st_ended, st_end, sdL_len, *])
local macro_rules | `(tactic| walk_at "r2") => `(tactic| repeat (first | walk_at "wq" | walk_at "go"))
local macro_rules | `(tactic| walk_at "w0") => `(tactic| simp (disch := omega) only [Wp.wSeq, Wp.wNext, Wp.wSet, Wp.wVar, Wp.wC, Wp.wOp, Wp.wRet, Wp.wIfS, Wp.wTest, Wp.wCall, Wp.wCons, Wp.wNil, Wp.wTup, Wp.wLst, Wp.wAsg, Wp.gTp, Wp.gC, Wp.gNm, Wp.gN0, Wp.gIx, Wp.rSet, Wp.rAdd, Wp.rMul, Wp.rMod, Wp.rSub, Wp.rFdiv, Wp.rPow, Wp.rInt, Wp.rIx, Wp.rLt, Wp.rLe, Wp.rCmp, Wp.rGeI, Wp.rGtI, Wp.wCB, Wp.rLen, Wp.rLen1, Wp.rInt1, Wp.rMax2, Wp.rMin2, Wp.rTupOf, Wp.rListOf,
  Wp.wIsi, Wp.rBIs, Wp.rIsN, Wp.isNon, Wp.wMt, Wp.rAppendT, Wp.rExtendT, Wp.rReverseT, Wp.wNot, Wp.wOr, Wp.wAnd, Wp.wAndV, Wp.wOrV, Wp.wNotV, Wp.wFor, Wp.iRg1, Wp.iRg2, Wp.iAnyW, Wp.wAll, Wp.wChain, Wp.wSl, Wp.wNoPart, Wp.wPart, Wp.rSl, Wp.wNeg, Wp.rNeg, Wp.wLc, Wp.wYes, Wp.wDrop, Wp.wipeT, Wp.wAug, List.map, List.set_cons_zero, List.set_cons_succ, List.getElem?_cons_zero, List.getElem?_cons_succ, List.length_cons, List.length_nil, List.cons_append, List.nil_append, List.replicate, Wp.startT,
  true_and, and_true, Wp.wif_true, Wp.wif_false, Wp.ex_some, Wp.ex_some1, Wp.ex_eq, Wp.ex_lst, Wp.ex_lst0, Wp.rEq_int, Bool.false_bne, Bool.true_bne, Int.reduceLT, Int.reduceLE, Int.reduceAdd, Nat.reduceAdd, Nat.reduceSub, eq_self, ite_true, ite_false, beq_self_eq_true, Bool.not_true, Bool.not_false, Wp.isB_0, Wp.isB_1, Wp.isB_2, Wp.isB_3, Wp.isB_4, Wp.isB_5, Wp.isB_6, Wp.isB_7, Wp.isB_8, Wp.isB_9, Wp.isB_10, Wp.isB_11, Wp.isB_12, Wp.isB_13, Wp.isB_14, Wp.isB_15, Wp.isB_16, Wp.isB_17, Wp.isB_18, Wp.isB_19, Wp.isB_20, Wp.isB_21, Wp.isB_22, Wp.isB_23, Wp.isB_24, Wp.isB_25, Wp.isB_26, Wp.isB_27, Wp.isB_28, Wp.isB_29, Wp.isB_30, Wp.isB_31, Wp.isB_32, Wp.isB_33, Wp.isB_34, Wp.isB_35, Wp.cmul_l, Wp.cmul_r, Wp.cpow_lit, Wp.size_le, Wp.size_lt, Wp.atI_0, Wp.atI_1, Wp.atI_2, Wp.atI_3, Wp.atI_4, Wp.atI_5, Wp.atI_6, Wp.ixN_0, Wp.ixN_1, Wp.ixN_2, Wp.itemsT, Wp.tyT, reduceIte, Wp.wFld, Wp.wFSet, Wp.wFAug, Wp.wMeth, Wp.wMake, Wp.rIxA, Wp.rInA, Wp.rSetA, Wp.ixA, Wp.inA, Wp.setA, Wp.lenA, Wp.getD, Option.map_some, Option.bind_some, Option.getD_some,  Wp.gIxA, Wp.wDNew, Wp.wDNewT, Wp.rLenA, Wp.rSortD, Wp.rMaxL, Wp.rPopL, Wp.rGet1, Wp.rGet2, Wp.wGet1, Wp.wGet2, Wp.wPop1, Wp.wPop2, Wp.wDel, Wp.isDT, Wp.keyT, Wp.keysT, Wp.keysL, Wp.ex_ins, Wp.ex_dct, Wp.wSrtIt, Wp.iRg3, Wp.rAddI, Wp.wIf, Wp.rExtT, Wp.wTestI, Wp.rGt, Wp.rMulA, Int.cast_ofNat_Int, Int.reduceBEq, lk_End__base, pt_End__base, lk_End__pending, pt_End__pending, lk_End__closed, pt_End__closed, lk_End__given, pt_End__given, lk_End__got, pt_End__got, lk_End__ended, pt_End__ended, lk_End__ahead, pt_End__ahead, lk_End__end, pt_End__end, no_End__keep, no_End__learn, no_End__take_in_order, no_End_close, no_End_due, no_End_has_end, no_End_is_given, no_End_picture, no_End_take, no_End_taken, no_End_write, ln_End, mk_End, Wp.rSortDA, Wp.wDisp, Wp.wPCons, Wp.wPNil, ix_out, ix_closed, ix_base, ix_given, ix_seen, ix_got, ix_ended, ix_end, st_closed, st_base, st_given, st_got, st_ended, st_end, sdL_len])
local macro_rules | `(tactic| walk_at "r0") => `(tactic| repeat (first | walk_at "w0" | walk_at "go"))
variable {C : Addr}
def spDue (C : Addr) : WSp := fun ts S Q _ => match ts with
  | [.ref a] => ∃ F m, EndA C S a F m ∧ m.pend.length ≤ 1000000 ∧ ∀ q S', S q = none → Gr S S' → S' q = some (.lst (m.due.map Seg.tr)) → Q (.ref q) S'
  | _ => False
theorem seg_at {m : EM} {i : Nat} {x : T} (h : (rangeC 0 8 (((m.pend.take 32).length + 7) / 8))[i]? = some x) : x = .int ((8 * i : Nat) : Int) ∧ i < ((m.pend.take 32).length + 7) / 8 := by
  unfold rangeC at h
  rw [List.getElem?_map, Option.map_eq_some_iff] at h
  obtain ⟨j, h1, h2⟩ := h
  have hl := (List.getElem?_eq_some_iff.mp h1).1
  rw [List.length_range] at hl
  rw [List.getElem?_range hl] at h1
  cases h1
  exact ⟨by rw [← h2]; congr 1; omega, hl⟩
theorem hw_due : ∀ ts S Q E, ts.length = 1 → spDue C ts S Q E → b_End_due C (spTaken C) { nx := fun _ S' => Q .non S', rt := Q } (Wp.startT N_End_due ts) S := by
  intro ts S Q E _ h
  match ts, h with
  | [.ref a], ⟨F, m, he, hp, h⟩ =>
    have he0 := he
    obtain ⟨lp, la, hF, e1, e2, ks, e3, pm⟩ := he0
    unfold b_End_due N_End_due
    walk_at "r0"
    rw [e1]
    walk_at "r0"
    refine ⟨F, m, he, ?_⟩
    walk_at "r0"
    rw [e1]
    walk_at "r0"
    rw [e2]
    walk_at "r0"
    by_cases h0 : m.pend = []
    · have hd : m.due = [⟨m.base, [], m.closed, m.taken⟩] := if_pos h0
      rw [hd] at h
      rw [h0]
      walk_at "r0"
      try rw [e1]
      try walk_at "r0"
      intro q hq
      exact h q _ hq (gr_new hq) (by rw [upS_same]; rfl)
    · have hd : m.due = (List.range (((m.pend.take 32).length + 7) / 8)).map m.segAt := if_neg h0
      have hl : ¬ ((List.map T.int m.pend).length : Int) = 0 := by
        rw [List.length_map]
        intro z
        exact h0 (List.eq_nil_of_length_eq_zero (by omega))
      refine if_bool (fun z => absurd (by simpa using z) hl) (fun _ => ?_)
      walk_at "r0"
      rw [e1]
      walk_at "r0"
      try rw [e2]
      try walk_at "r0"
      intro p hq1
      have w32 : cutT (m.pend.map T.int) none (some ((32 : Nat) : Int)) = (m.pend.take 32).map T.int := by rw [cutT_to, List.map_take]
      have w32 : cutT (m.pend.map T.int) none (some (32 : Int)) = (m.pend.take 32).map T.int := w32
      simp only [w32, upS_same]
      walk_at "r0"
      have gr1 : Gr S (upS S p (.lst ((m.pend.take 32).map T.int))) := gr_new hq1
      generalize upS S p (.lst ((m.pend.take 32).map T.int)) = S1 at gr1 ⊢
      walk_at "r0"
      intro q hq2
      have hqS : S q = none := by
        cases z : S q with
        | none => rfl
        | some o => rw [gr1 q o z] at hq2; cases hq2
      have gr2 : Gr S (upS S1 q (.lst [])) := gr1.trans (gr_new hq2)
      generalize hS2 : upS S1 q (.lst []) = S2 at gr2
      have q2 : S2 q = some (.lst []) := by rw [← hS2, upS_same]
      walk_at "r0"
      have lt0 : 0 < (m.pend.take 32).length := by
        rw [List.length_take]
        have : m.pend.length ≠ 0 := fun z => h0 (List.eq_nil_of_length_eq_zero z)
        omega
      have le0 : (m.pend.take 32).length ≤ 32 := by rw [List.length_take]; omega
      refine ⟨by rw [List.length_map]; omega, ?_⟩
      have en : ((((m.pend.take 32).map T.int).length : Int) - 0 - 1) / 8 + 1 = ((((m.pend.take 32).length + 7) / 8 : Nat) : Int) := by rw [List.length_map]; omega
      rw [en, Int.toNat_natCast]
      refine loop_inv (fun i σ S' => ∃ x y z, σ = [some (.ref a), some (.int m.taken), some (.tup ((m.pend.take 32).map T.int)), some (.ref q), x, y, z] ∧ Gr S S' ∧ S' q = some (.lst (((List.range i).map m.segAt).map Seg.tr))) ⟨_, _, _, rfl, gr2, q2⟩ (fun _ _ _ _ => trivial) ?_ ?_
      · rintro i x σ S' LP hx ⟨y1, y2, y3, rfl, g, hq'⟩ k
        obtain ⟨rfl, hi⟩ := seg_at hx
        have f1 := g _ _ e1
        have f2 := g _ _ e2
        unfold l1_End_due
        walk_at "r0"
        have cb : cutT ((m.pend.take 32).map T.int) (some ((8 * i : Nat) : Int)) (some (((8 * i : Nat) : Int) + 8)) = (((m.pend.take 32).drop (8 * i)).take 8).map T.int := by
          rw [show (((8 * i : Nat) : Int) + 8) = ((8 * i + 8 : Nat) : Int) by omega, cutT_both, ← List.map_drop, ← List.map_take, show 8 * i + 8 - 8 * i = 8 by omega]
        rw [cb]
        generalize hpc : ((m.pend.take 32).drop (8 * i)).take 8 = pc
        walk_at "r0"
        rw [f1]
        walk_at "r0"
        rw [f2]
        walk_at "r0"
        try rw [f1]
        try walk_at "r0"
        have pcl : pc.length ≤ 8 := by rw [← hpc, List.length_take]; omega
        have sg : m.segAt i = ⟨m.base + 8 * (i : Int), pc, if 8 * i + pc.length = m.pend.length then m.closed else 0, m.taken⟩ := by unfold EM.segAt; rw [hpc]
        have nqa : q ≠ a := fun z => by rw [z, f1] at hq'; cases hq'
        have fin : ∀ z, z = (if 8 * i + pc.length = m.pend.length then m.closed else 0) → LP [some (.ref a), some (.int m.taken), some (.tup ((m.pend.take 32).map T.int)), some (.ref q), some (.int ((8 * i : Nat) : Int)), some (.tup (pc.map T.int)), some (.int z)] (upS S' q (.lst (((List.range i).map m.segAt).map Seg.tr ++ [.tup [.int (m.base + ((8 * i : Nat) : Int)), .tup (pc.map T.int), .int z, .int m.taken]]))) := fun z ez => by
          refine k _ _ ⟨_, _, _, rfl, fun x o e => ?_, ?_⟩
          · rw [upS_ne fun w => by rw [w, hqS] at e; cases e]; exact g x o e
          · rw [upS_same, List.range_succ, List.map_append, List.map_append, List.map_singleton, List.map_singleton, sg, ez]
            simp only [Seg.tr]
            rw [show m.base + 8 * (i : Int) = m.base + ((8 * i : Nat) : Int) by omega]
        have ht : (((8 * i : Nat) : Int) + ((pc.map T.int).length : Int) == ((m.pend.map T.int).length : Int)) = decide (8 * i + pc.length = m.pend.length) := by
          rw [List.length_map, List.length_map, Bool.eq_iff_iff, beq_iff_eq, decide_eq_true_eq]
          omega
        have sz : ((((List.range i).map m.segAt).map Seg.tr)).length < sizeLine := by
          rw [List.length_map, List.length_map, List.length_range]
          have := sizeLine_eq
          omega
        rw [ht]
        refine if_dec (fun c => ?_) (fun c => ?_)
        · walk_at "r0"
          rw [f1]
          walk_at "r0"
          rw [hq']
          walk_at "r0"
          refine ⟨sz, ?_⟩
          exact goS_i (fin _ (if_pos c).symm)
        · walk_at "r0"
          rw [f1]
          walk_at "r0"
          rw [hq']
          walk_at "r0"
          refine ⟨sz, ?_⟩
          exact goS_i (fin _ (if_neg c).symm)
      · rintro σ S' ⟨y1, y2, y3, rfl, g, hq'⟩
        walk_at "r0"
        refine h q S' hqS g ?_
        rw [hd, hq']
        unfold rangeC
        rw [List.length_map, List.length_range]
def spEndOf (C : Addr) : WSp := fun ts S Q _ => match ts with
  | [t] => ∃ m : EM, t = m.pic ∧ srtd m.ahead ∧ ∀ a F S', (∀ x ∈ F, S x = none) → Gr S S' → EndA C S' a F m → Q (.ref a) S'
  | _ => False
theorem hw_endOf : ∀ ts S Q E, ts.length = 1 → spEndOf C ts S Q E → b_end_of C (spInit C) { nx := fun _ S' => Q .non S', rt := Q } (Wp.startT N_end_of ts) S := by
  intro ts S Q E _ h
  match ts, h with
  | [_], ⟨m, rfl, hs, h⟩ =>
    unfold b_end_of N_end_of EM.pic
    walk_at "r0"
    intro a ha
    refine ⟨upS_same, fun S1 F1 fr he => ?_⟩
    obtain ⟨lp, la, hF, g1, g2, ks1, g3, _⟩ := he
    have up0 : ∀ x o, S x = some o → x ≠ a → upS S a (.ins C []) x = some o := fun x o e nx => by rw [upS_ne nx]; exact e
    have gr1 : ∀ x o, S x = some o → x ≠ a ∧ S1 x = some o := fun x o e => by
      have nx : x ≠ a := fun z => by rw [z, ha] at e; cases e
      exact ⟨nx, fr.k x o (up0 x o e nx) (by simp [nx])⟩
    clear g2 g3 fr
    refine ⟨rfl, ?_⟩
    walk_at "r0"
    rw [g1]
    walk_at "r0"
    refine ⟨by decide, ?_⟩
    walk_at "r0"
    intro p hp
    have npa : a ≠ p := fun z => by rw [← z, upS_same] at hp; cases hp
    have hp1 : S1 p = none := by rw [upS_ne npa.symm] at hp; exact hp
    rw [upS_ne npa, upS_same]
    walk_at "r0"
    refine ⟨by decide, ?_⟩
    generalize hS2 : upS (upS (upS S1 a _) p _) a _ = S2
    have k1 : S2 a = some (.ins C (F_End (.int m.base) (.ref p) (.int 0) (.int 0) (.int 0) (.int 0) (.ref la) .non)) := by rw [← hS2, upS_same]; rfl
    have k2 : S2 p = some (.lst (m.pend.map T.int)) := by rw [← hS2, upS_ne npa.symm, upS_same]
    have gr2 : ∀ x o, S x = some o → x ≠ a ∧ S2 x = some o := fun x o e => by
      obtain ⟨nx, e1⟩ := gr1 x o e
      refine ⟨nx, ?_⟩
      rw [← hS2, upS_ne nx, upS_ne (fun z => by rw [z, hp1] at e1; cases e1), upS_ne nx]
      exact e1
    have hpS : S p = none := by
      cases z : S p with
      | none => rfl
      | some o => rw [(gr1 p o z).2] at hp1; cases hp1
    clear hS2
    walk_at "r0"
    rw [k1]
    walk_at "r0"
    refine ⟨by decide, ?_⟩
    walk_at "r0"
    rw [upS_same]
    walk_at "r0"
    simp only [upS_upS]
    refine ⟨by decide, ?_⟩
    walk_at "r0"
    rw [upS_same]
    walk_at "r0"
    simp only [upS_upS]
    refine ⟨by decide, ?_⟩
    walk_at "r0"
    rw [upS_same]
    walk_at "r0"
    simp only [upS_upS]
    refine ⟨by decide, ?_⟩
    generalize hS3 : upS S2 a _ = S3
    have j1 : S3 a = some (.ins C (F_End (.int m.base) (.ref p) (.int m.closed) (.int m.given) (.int m.got) (.int m.ended) (.ref la) .non)) := by rw [← hS3, upS_same]
    have j2 : S3 p = some (.lst (m.pend.map T.int)) := by rw [← hS3, upS_ne npa.symm]; exact k2
    have gr3 : ∀ x o, S x = some o → x ≠ a ∧ S3 x = some o := fun x o e => by
      obtain ⟨nx, e1⟩ := gr2 x o e
      refine ⟨nx, ?_⟩
      rw [← hS3, upS_ne nx]
      exact e1
    clear hS3
    walk_at "r0"
    refine ⟨m.ahead, rfl, hs.keys, fun r hr => ?_⟩
    have nra : a ≠ r := fun z => by rw [← z, j1] at hr; cases hr
    have nrp : p ≠ r := fun z => by rw [← z, j2] at hr; cases hr
    have hrS : S r = none := by
      cases z : S r with
      | none => rfl
      | some o => rw [(gr3 r o z).2] at hr; cases hr
    walk_at "r0"
    rw [upS_ne nra, j1]
    walk_at "r0"
    refine ⟨by decide, ?_⟩
    walk_at "r0"
    rw [upS_same]
    walk_at "r0"
    simp only [upS_upS]
    refine ⟨by decide, ?_⟩
    walk_at "r0"
    refine h a [a, p, r] _ (fun x hx => ?_) (fun x o e => ?_) ⟨p, r, rfl, ?_, ?_, m.ahead, ?_, .refl _⟩
    · simp only [List.mem_cons, List.not_mem_nil, or_false] at hx
      rcases hx with rfl | rfl | rfl
      · exact ha
      · exact hpS
      · exact hrS
    · obtain ⟨nx, e1⟩ := gr3 x o e
      rw [upS_ne nx, upS_ne (fun z => by rw [z, hr] at e1; cases e1)]
      exact e1
    · rw [upS_same]
    · rw [upS_ne npa.symm, upS_ne nrp]; exact j2
    · rw [upS_ne nra.symm, upS_same]
end My

set_option Elab.async false
set_option linter.all false
set_option maxRecDepth 100000
set_option maxHeartbeats 8000000
namespace My
open PySem PySem.Spec PyProof.Rows L2 Wp Gn
local macro_rules | `(tactic| walk_at "go") => `(tactic| (with_reducible refine goS_i ?_))
local macro_rules | `(tactic| walk_at "wp") => `(tactic| simp (disch := omega) only [Wp.wSeq, Wp.wNext, Wp.wSet, Wp.wVar, Wp.wC, Wp.wOp, Wp.wRet, Wp.wIfS, Wp.wTest, Wp.wCall, Wp.wCons, Wp.wNil, Wp.wTup, Wp.wLst, Wp.wAsg, Wp.gTp, Wp.gC, Wp.gNm, Wp.gN0, Wp.gIx, Wp.rSet, Wp.rAdd, Wp.rMul, Wp.rMod, Wp.rSub, Wp.rFdiv, Wp.rPow, Wp.rInt, Wp.rIx, Wp.rLt, Wp.rLe, Wp.rCmp, Wp.rGeI, Wp.rGtI, Wp.wCB, Wp.rLen, Wp.rLen1, Wp.rInt1, Wp.rMax2, Wp.rMin2, Wp.rTupOf, Wp.rListOf,
  Wp.wIsi, Wp.rBIs, Wp.rIsN, Wp.isNon, Wp.wMt, Wp.rAppendT, Wp.rExtendT, Wp.rReverseT, Wp.wNot, Wp.wOr, Wp.wAnd, Wp.wAndV, Wp.wOrV, Wp.wNotV, Wp.wFor, Wp.iRg1, Wp.iRg2, Wp.iAnyW, Wp.wAll, Wp.wChain, Wp.wSl, Wp.wNoPart, Wp.wPart, Wp.rSl, Wp.wNeg, Wp.rNeg, Wp.wLc, Wp.wYes, Wp.wDrop, Wp.wipeT, Wp.wAug, List.map, List.set_cons_zero, List.set_cons_succ, List.getElem?_cons_zero, List.getElem?_cons_succ, List.length_cons, List.length_nil, List.cons_append, List.nil_append, List.replicate, Wp.startT,
  true_and, and_true, Wp.wif_true, Wp.wif_false, Wp.ex_some, Wp.ex_some1, Wp.ex_eq, Wp.ex_lst, Wp.ex_lst0, Wp.rEq_int, Bool.false_bne, Bool.true_bne, Int.reduceLT, Int.reduceLE, Int.reduceAdd, Nat.reduceAdd, Nat.reduceSub, eq_self, ite_true, ite_false, beq_self_eq_true, Bool.not_true, Bool.not_false, Wp.isB_0, Wp.isB_1, Wp.isB_2, Wp.isB_3, Wp.isB_4, Wp.isB_5, Wp.isB_6, Wp.isB_7, Wp.isB_8, Wp.isB_9, Wp.isB_10, Wp.isB_11, Wp.isB_12, Wp.isB_13, Wp.isB_14, Wp.isB_15, Wp.isB_16, Wp.isB_17, Wp.isB_18, Wp.isB_19, Wp.isB_20, Wp.isB_21, Wp.isB_22, Wp.isB_23, Wp.isB_24, Wp.isB_25, Wp.isB_26, Wp.isB_27, Wp.isB_28, Wp.isB_29, Wp.isB_30, Wp.isB_31, Wp.isB_32, Wp.isB_33, Wp.isB_34, Wp.isB_35, Wp.cmul_l, Wp.cmul_r, Wp.cpow_lit, Wp.size_le, Wp.size_lt, Wp.atI_0, Wp.atI_1, Wp.atI_2, Wp.atI_3, Wp.atI_4, Wp.atI_5, Wp.atI_6, Wp.ixN_0, Wp.ixN_1, Wp.ixN_2, Wp.itemsT, Wp.tyT, reduceIte, Wp.wFld, Wp.wFSet, Wp.wFAug, Wp.wMeth, Wp.wMake, Wp.rIxA, Wp.rInA, Wp.rSetA, Wp.ixA, Wp.inA, Wp.setA, Wp.lenA, Wp.getD, Option.map_some, Option.bind_some, Option.getD_some,  Wp.gIxA, Wp.wDNew, Wp.wDNewT, Wp.rLenA, Wp.rSortD, Wp.rMaxL, Wp.rPopL, Wp.rGet1, Wp.rGet2, Wp.wGet1, Wp.wGet2, Wp.wPop1, Wp.wPop2, Wp.wDel, Wp.isDT, Wp.keyT, Wp.keysT, Wp.keysL, Wp.ex_ins, Wp.ex_dct, Wp.wSrtIt, Wp.iRg3, Wp.rAddI, Wp.wIf, Wp.rExtT, Wp.wTestI, Wp.rGt, Wp.rMulA, Int.cast_ofNat_Int, Int.reduceBEq, lk_End__base, pt_End__base, lk_End__pending, pt_End__pending, lk_End__closed, pt_End__closed, lk_End__given, pt_End__given, lk_End__got, pt_End__got, lk_End__ended, pt_End__ended, lk_End__ahead, pt_End__ahead, lk_End__end, pt_End__end, no_End__keep, no_End__learn, no_End__take_in_order, no_End_close, no_End_due, no_End_has_end, no_End_is_given, no_End_picture, no_End_take, no_End_taken, no_End_write, ln_End, mk_End, Wp.rSortDA, Wp.wDisp, Wp.wPCons, Wp.wPNil, ix_out, ix_closed, ix_base, ix_given, ix_seen, ix_got, ix_ended, ix_end, st_closed, st_base, st_given, st_got, st_ended, st_end, sdL_len, Wp.upS, Wp.upS_upS, *])
local macro_rules | `(tactic| walk_at "run") => `(tactic| repeat (first | walk_at "wp" | walk_at "go"))
local macro_rules | `(tactic| walk_at "wq") => `(tactic| simp (disch := omega) only [Wp.wSeq, Wp.wNext, Wp.wSet, Wp.wVar, Wp.wC, Wp.wOp, Wp.wRet, Wp.wIfS, Wp.wTest, Wp.wCall, Wp.wCons, Wp.wNil, Wp.wTup, Wp.wLst, Wp.wAsg, Wp.gTp, Wp.gC, Wp.gNm, Wp.gN0, Wp.gIx, Wp.rSet, Wp.rAdd, Wp.rMul, Wp.rMod, Wp.rSub, Wp.rFdiv, Wp.rPow, Wp.rInt, Wp.rIx, Wp.rLt, Wp.rLe, Wp.rCmp, Wp.rGeI, Wp.rGtI, Wp.wCB, Wp.rLen, Wp.rLen1, Wp.rInt1, Wp.rMax2, Wp.rMin2, Wp.rTupOf, Wp.rListOf,
  Wp.wIsi, Wp.rBIs, Wp.rIsN, Wp.isNon, Wp.wMt, Wp.rAppendT, Wp.rExtendT, Wp.rReverseT, Wp.wNot, Wp.wOr, Wp.wAnd, Wp.wAndV, Wp.wOrV, Wp.wNotV, Wp.wFor, Wp.iRg1, Wp.iRg2, Wp.iAnyW, Wp.wAll, Wp.wChain, Wp.wSl, Wp.wNoPart, Wp.wPart, Wp.rSl, Wp.wNeg, Wp.rNeg, Wp.wLc, Wp.wYes, Wp.wDrop, Wp.wipeT, Wp.wAug, List.map, List.set_cons_zero, List.set_cons_succ, List.getElem?_cons_zero, List.getElem?_cons_succ, List.length_cons, List.length_nil, List.cons_append, List.nil_append, List.replicate, Wp.startT,
  true_and, and_true, Wp.wif_true, Wp.wif_false, Wp.ex_some, Wp.ex_some1, Wp.ex_eq, Wp.ex_lst, Wp.ex_lst0, Wp.rEq_int, Bool.false_bne, Bool.true_bne, Int.reduceLT, Int.reduceLE, Int.reduceAdd, Nat.reduceAdd, Nat.reduceSub, eq_self, ite_true, ite_false, beq_self_eq_true, Bool.not_true, Bool.not_false, Wp.isB_0, Wp.isB_1, Wp.isB_2, Wp.isB_3, Wp.isB_4, Wp.isB_5, Wp.isB_6, Wp.isB_7, Wp.isB_8, Wp.isB_9, Wp.isB_10, Wp.isB_11, Wp.isB_12, Wp.isB_13, Wp.isB_14, Wp.isB_15, Wp.isB_16, Wp.isB_17, Wp.isB_18, Wp.isB_19, Wp.isB_20, Wp.isB_21, Wp.isB_22, Wp.isB_23, Wp.isB_24, Wp.isB_25, Wp.isB_26, Wp.isB_27, Wp.isB_28, Wp.isB_29, Wp.isB_30, Wp.isB_31, Wp.isB_32, Wp.isB_33, Wp.isB_34, Wp.isB_35, Wp.cmul_l, Wp.cmul_r, Wp.cpow_lit, Wp.size_le, Wp.size_lt, Wp.atI_0, Wp.atI_1, Wp.atI_2, Wp.atI_3, Wp.atI_4, Wp.atI_5, Wp.atI_6, Wp.ixN_0, Wp.ixN_1, Wp.ixN_2, Wp.itemsT, Wp.tyT, reduceIte, Wp.wFld, Wp.wFSet, Wp.wFAug, Wp.wMeth, Wp.wMake, Wp.rIxA, Wp.rInA, Wp.rSetA, Wp.ixA, Wp.inA, Wp.setA, Wp.lenA, Wp.getD, Option.map_some, Option.bind_some, Option.getD_some,  Wp.gIxA, Wp.wDNew, Wp.wDNewT, Wp.rLenA, Wp.rSortD, Wp.rMaxL, Wp.rPopL, Wp.rGet1, Wp.rGet2, Wp.wGet1, Wp.wGet2, Wp.wPop1, Wp.wPop2, Wp.wDel, Wp.isDT, Wp.keyT, Wp.keysT, Wp.keysL, Wp.ex_ins, Wp.ex_dct, Wp.wSrtIt, Wp.iRg3, Wp.rAddI, Wp.wIf, Wp.rExtT, Wp.wTestI, Wp.rGt, Wp.rMulA, Int.cast_ofNat_Int, Int.reduceBEq, lk_End__base, pt_End__base, lk_End__pending, pt_End__pending, lk_End__closed, pt_End__closed, lk_End__given, pt_End__given, lk_End__got, pt_End__got, lk_End__ended, pt_End__ended, lk_End__ahead, pt_End__ahead, lk_End__end, pt_End__end, no_End__keep, no_End__learn, no_End__take_in_order, no_End_close, no_End_due, no_End_has_end, no_End_is_given, no_End_picture, no_End_take, no_End_taken, no_End_write, ln_End, mk_End, Wp.rSortDA, Wp.wDisp, Wp.wPCons, Wp.wPNil, ix_out, ix_closed, ix_base, ix_given, ix_seen, ix_got, ix_ended, ix_end, st_closed, st_base, st_given, st_got, st_ended, st_end, sdL_len, *])
local macro_rules | `(tactic| walk_at "r2") => `(tactic| repeat (first | walk_at "wq" | walk_at "go"))
local macro_rules | `(tactic| walk_at "w0") => `(tactic| simp (disch := omega) only [Wp.wSeq, Wp.wNext, Wp.wSet, Wp.wVar, Wp.wC, Wp.wOp, Wp.wRet, Wp.wIfS, Wp.wTest, Wp.wCall, Wp.wCons, Wp.wNil, Wp.wTup, Wp.wLst, Wp.wAsg, Wp.gTp, Wp.gC, Wp.gNm, Wp.gN0, Wp.gIx, Wp.rSet, Wp.rAdd, Wp.rMul, Wp.rMod, Wp.rSub, Wp.rFdiv, Wp.rPow, Wp.rInt, Wp.rIx, Wp.rLt, Wp.rLe, Wp.rCmp, Wp.rGeI, Wp.rGtI, Wp.wCB, Wp.rLen, Wp.rLen1, Wp.rInt1, Wp.rMax2, Wp.rMin2, Wp.rTupOf, Wp.rListOf,
  Wp.wIsi, Wp.rBIs, Wp.rIsN, Wp.isNon, Wp.wMt, Wp.rAppendT, Wp.rExtendT, Wp.rReverseT, Wp.wNot, Wp.wOr, Wp.wAnd, Wp.wAndV, Wp.wOrV, Wp.wNotV, Wp.wFor, Wp.iRg1, Wp.iRg2, Wp.iAnyW, Wp.wAll, Wp.wChain, Wp.wSl, Wp.wNoPart, Wp.wPart, Wp.rSl, Wp.wNeg, Wp.rNeg, Wp.wLc, Wp.wYes, Wp.wDrop, Wp.wipeT, Wp.wAug, List.map, List.set_cons_zero, List.set_cons_succ, List.getElem?_cons_zero, List.getElem?_cons_succ, List.length_cons, List.length_nil, List.cons_append, List.nil_append, List.replicate, Wp.startT,
  true_and, and_true, Wp.wif_true, Wp.wif_false, Wp.ex_some, Wp.ex_some1, Wp.ex_eq, Wp.ex_lst, Wp.ex_lst0, Wp.rEq_int, Bool.false_bne, Bool.true_bne, Int.reduceLT, Int.reduceLE, Int.reduceAdd, Nat.reduceAdd, Nat.reduceSub, eq_self, ite_true, ite_false, beq_self_eq_true, Bool.not_true, Bool.not_false, Wp.isB_0, Wp.isB_1, Wp.isB_2, Wp.isB_3, Wp.isB_4, Wp.isB_5, Wp.isB_6, Wp.isB_7, Wp.isB_8, Wp.isB_9, Wp.isB_10, Wp.isB_11, Wp.isB_12, Wp.isB_13, Wp.isB_14, Wp.isB_15, Wp.isB_16, Wp.isB_17, Wp.isB_18, Wp.isB_19, Wp.isB_20, Wp.isB_21, Wp.isB_22, Wp.isB_23, Wp.isB_24, Wp.isB_25, Wp.isB_26, Wp.isB_27, Wp.isB_28, Wp.isB_29, Wp.isB_30, Wp.isB_31, Wp.isB_32, Wp.isB_33, Wp.isB_34, Wp.isB_35, Wp.cmul_l, Wp.cmul_r, Wp.cpow_lit, Wp.size_le, Wp.size_lt, Wp.atI_0, Wp.atI_1, Wp.atI_2, Wp.atI_3, Wp.atI_4, Wp.atI_5, Wp.atI_6, Wp.ixN_0, Wp.ixN_1, Wp.ixN_2, Wp.itemsT, Wp.tyT, reduceIte, Wp.wFld, Wp.wFSet, Wp.wFAug, Wp.wMeth, Wp.wMake, Wp.rIxA, Wp.rInA, Wp.rSetA, Wp.ixA, Wp.inA, Wp.setA, Wp.lenA, Wp.getD, Option.map_some, Option.bind_some, Option.getD_some,  Wp.gIxA, Wp.wDNew, Wp.wDNewT, Wp.rLenA, Wp.rSortD, Wp.rMaxL, Wp.rPopL, Wp.rGet1, Wp.rGet2, Wp.wGet1, Wp.wGet2, Wp.wPop1, Wp.wPop2, Wp.wDel, Wp.isDT, Wp.keyT, Wp.keysT, Wp.keysL, Wp.ex_ins, Wp.ex_dct, Wp.wSrtIt, Wp.iRg3, Wp.rAddI, Wp.wIf, Wp.rExtT, Wp.wTestI, Wp.rGt, Wp.rMulA, Int.cast_ofNat_Int, Int.reduceBEq, lk_End__base, pt_End__base, lk_End__pending, pt_End__pending, lk_End__closed, pt_End__closed, lk_End__given, pt_End__given, lk_End__got, pt_End__got, lk_End__ended, pt_End__ended, lk_End__ahead, pt_End__ahead, lk_End__end, pt_End__end, no_End__keep, no_End__learn, no_End__take_in_order, no_End_close, no_End_due, no_End_has_end, no_End_is_given, no_End_picture, no_End_take, no_End_taken, no_End_write, ln_End, mk_End, Wp.rSortDA, Wp.wDisp, Wp.wPCons, Wp.wPNil, ix_out, ix_closed, ix_base, ix_given, ix_seen, ix_got, ix_ended, ix_end, st_closed, st_base, st_given, st_got, st_ended, st_end, sdL_len])
local macro_rules | `(tactic| walk_at "r0") => `(tactic| repeat (first | walk_at "w0" | walk_at "go"))
def spSide : WSp := fun ts S Q _ => ∀ a F S', (∀ x ∈ F, S x = none) → Gr S S' → SdA S' a F SM.new → Q (.ref a) S'
theorem hw_side {C : Addr} : ∀ ts S Q E, ts.length = 0 → spSide ts S Q E → b__law_side C { nx := fun _ S' => Q .non S', rt := Q } (Wp.startT N__law_side ts) S := by
  intro ts S Q E _ h
  match ts, h with
  | [], h =>
    unfold b__law_side N__law_side
    walk_at "r0"
    intro d hd
    walk_at "r0"
    intro lo hlo ls hls
    have n1 : lo ≠ d := fun z => by rw [z, upS_same] at hlo; cases hlo
    rw [upS_ne n1] at hlo
    have n2 : ls ≠ lo := fun z => by rw [z, upS_same] at hls; cases hls
    rw [upS_ne n2] at hls
    have n3 : ls ≠ d := fun z => by rw [z, upS_same] at hls; cases hls
    rw [upS_ne n3] at hls
    refine ⟨by rw [upS_ne n3.symm, upS_ne n1.symm, upS_same], by decide, _, rfl, ?_⟩
    have em : mergeT [] (kd.zip [T.ref lo, .int 0, .int 0, .int 0, .ref ls, .int 0, .int 0, .non]) = sdL (.ref lo) (.int 0) (.int 0) (.int 0) (.ref ls) (.int 0) (.int 0) .non := merge_zip kd_nd rfl
    show Q (T.ref d) (upS (upS (upS (upS S d (O.dct [])) lo (O.lst [])) ls (O.dct [])) d (O.dct (mergeT [] (kd.zip [T.ref lo, .int 0, .int 0, .int 0, .ref ls, .int 0, .int 0, .non]))))
    rw [em]
    refine h d [d, lo, ls] _ (fun x hx => ?_) (fun x o e => ?_) ⟨lo, ls, rfl, n1.symm, n3.symm, n2.symm, upS_same, ?_, [], ?_, List.nodup_nil, fun k v => ⟨fun z => (by cases z), fun z => (by cases z)⟩⟩
    · simp only [List.mem_cons, List.not_mem_nil, or_false] at hx
      rcases hx with rfl | rfl | rfl
      · exact hd
      · exact hlo
      · exact hls
    · have a1 : x ≠ d := fun z => by rw [z, hd] at e; cases e
      have a2 : x ≠ lo := fun z => by rw [z, hlo] at e; cases e
      have a3 : x ≠ ls := fun z => by rw [z, hls] at e; cases e
      rw [upS_ne a1, upS_ne a3, upS_ne a2, upS_ne a1]
      exact e
    · rw [upS_ne n1, upS_ne n2.symm, upS_same]
      rfl
    · rw [upS_ne n3, upS_same]
      rfl
end My

set_option Elab.async false
set_option linter.all false
set_option maxRecDepth 100000
set_option maxHeartbeats 8000000
namespace My
open PySem PySem.Spec PyProof.Rows L2 Wp Gn
local macro_rules | `(tactic| walk_at "go") => `(tactic| (with_reducible refine goS_i ?_))
local macro_rules | `(tactic| walk_at "wp") => `(tactic| simp (disch := omega) only [Wp.wSeq, Wp.wNext, Wp.wSet, Wp.wVar, Wp.wC, Wp.wOp, Wp.wRet, Wp.wIfS, Wp.wTest, Wp.wCall, Wp.wCons, Wp.wNil, Wp.wTup, Wp.wLst, Wp.wAsg, Wp.gTp, Wp.gC, Wp.gNm, Wp.gN0, Wp.gIx, Wp.rSet, Wp.rAdd, Wp.rMul, Wp.rMod, Wp.rSub, Wp.rFdiv, Wp.rPow, Wp.rInt, Wp.rIx, Wp.rLt, Wp.rLe, Wp.rCmp, Wp.rGeI, Wp.rGtI, Wp.wCB, Wp.rLen, Wp.rLen1, Wp.rInt1, Wp.rMax2, Wp.rMin2, Wp.rTupOf, Wp.rListOf,
  Wp.wIsi, Wp.rBIs, Wp.rIsN, Wp.isNon, Wp.wMt, Wp.rAppendT, Wp.rExtendT, Wp.rReverseT, Wp.wNot, Wp.wOr, Wp.wAnd, Wp.wAndV, Wp.wOrV, Wp.wNotV, Wp.wFor, Wp.iRg1, Wp.iRg2, Wp.iAnyW, Wp.wAll, Wp.wChain, Wp.wSl, Wp.wNoPart, Wp.wPart, Wp.rSl, Wp.wNeg, Wp.rNeg, Wp.wLc, Wp.wYes, Wp.wDrop, Wp.wipeT, Wp.wAug, List.map, List.set_cons_zero, List.set_cons_succ, List.getElem?_cons_zero, List.getElem?_cons_succ, List.length_cons, List.length_nil, List.cons_append, List.nil_append, List.replicate, Wp.startT,
  true_and, and_true, Wp.wif_true, Wp.wif_false, Wp.ex_some, Wp.ex_some1, Wp.ex_eq, Wp.ex_lst, Wp.ex_lst0, Wp.rEq_int, Bool.false_bne, Bool.true_bne, Int.reduceLT, Int.reduceLE, Int.reduceAdd, Nat.reduceAdd, Nat.reduceSub, eq_self, ite_true, ite_false, beq_self_eq_true, Bool.not_true, Bool.not_false, Wp.isB_0, Wp.isB_1, Wp.isB_2, Wp.isB_3, Wp.isB_4, Wp.isB_5, Wp.isB_6, Wp.isB_7, Wp.isB_8, Wp.isB_9, Wp.isB_10, Wp.isB_11, Wp.isB_12, Wp.isB_13, Wp.isB_14, Wp.isB_15, Wp.isB_16, Wp.isB_17, Wp.isB_18, Wp.isB_19, Wp.isB_20, Wp.isB_21, Wp.isB_22, Wp.isB_23, Wp.isB_24, Wp.isB_25, Wp.isB_26, Wp.isB_27, Wp.isB_28, Wp.isB_29, Wp.isB_30, Wp.isB_31, Wp.isB_32, Wp.isB_33, Wp.isB_34, Wp.isB_35, Wp.cmul_l, Wp.cmul_r, Wp.cpow_lit, Wp.size_le, Wp.size_lt, Wp.atI_0, Wp.atI_1, Wp.atI_2, Wp.atI_3, Wp.atI_4, Wp.atI_5, Wp.atI_6, Wp.ixN_0, Wp.ixN_1, Wp.ixN_2, Wp.itemsT, Wp.tyT, reduceIte, Wp.wFld, Wp.wFSet, Wp.wFAug, Wp.wMeth, Wp.wMake, Wp.rIxA, Wp.rInA, Wp.rSetA, Wp.ixA, Wp.inA, Wp.setA, Wp.lenA, Wp.getD, Option.map_some, Option.bind_some, Option.getD_some,  Wp.gIxA, Wp.wDNew, Wp.wDNewT, Wp.rLenA, Wp.rSortD, Wp.rMaxL, Wp.rPopL, Wp.rGet1, Wp.rGet2, Wp.wGet1, Wp.wGet2, Wp.wPop1, Wp.wPop2, Wp.wDel, Wp.isDT, Wp.keyT, Wp.keysT, Wp.keysL, Wp.ex_ins, Wp.ex_dct, Wp.wSrtIt, Wp.iRg3, Wp.rAddI, Wp.wIf, Wp.rExtT, Wp.wTestI, Wp.rGt, Wp.rMulA, Int.cast_ofNat_Int, Int.reduceBEq, lk_End__base, pt_End__base, lk_End__pending, pt_End__pending, lk_End__closed, pt_End__closed, lk_End__given, pt_End__given, lk_End__got, pt_End__got, lk_End__ended, pt_End__ended, lk_End__ahead, pt_End__ahead, lk_End__end, pt_End__end, no_End__keep, no_End__learn, no_End__take_in_order, no_End_close, no_End_due, no_End_has_end, no_End_is_given, no_End_picture, no_End_take, no_End_taken, no_End_write, ln_End, mk_End, Wp.rSortDA, Wp.wDisp, Wp.wPCons, Wp.wPNil, ix_out, ix_closed, ix_base, ix_given, ix_seen, ix_got, ix_ended, ix_end, st_closed, st_base, st_given, st_got, st_ended, st_end, sdL_len, Wp.upS, Wp.upS_upS, *])
local macro_rules | `(tactic| walk_at "run") => `(tactic| repeat (first | walk_at "wp" | walk_at "go"))
local macro_rules | `(tactic| walk_at "wq") => `(tactic| simp (disch := omega) only [Wp.wSeq, Wp.wNext, Wp.wSet, Wp.wVar, Wp.wC, Wp.wOp, Wp.wRet, Wp.wIfS, Wp.wTest, Wp.wCall, Wp.wCons, Wp.wNil, Wp.wTup, Wp.wLst, Wp.wAsg, Wp.gTp, Wp.gC, Wp.gNm, Wp.gN0, Wp.gIx, Wp.rSet, Wp.rAdd, Wp.rMul, Wp.rMod, Wp.rSub, Wp.rFdiv, Wp.rPow, Wp.rInt, Wp.rIx, Wp.rLt, Wp.rLe, Wp.rCmp, Wp.rGeI, Wp.rGtI, Wp.wCB, Wp.rLen, Wp.rLen1, Wp.rInt1, Wp.rMax2, Wp.rMin2, Wp.rTupOf, Wp.rListOf,
  Wp.wIsi, Wp.rBIs, Wp.rIsN, Wp.isNon, Wp.wMt, Wp.rAppendT, Wp.rExtendT, Wp.rReverseT, Wp.wNot, Wp.wOr, Wp.wAnd, Wp.wAndV, Wp.wOrV, Wp.wNotV, Wp.wFor, Wp.iRg1, Wp.iRg2, Wp.iAnyW, Wp.wAll, Wp.wChain, Wp.wSl, Wp.wNoPart, Wp.wPart, Wp.rSl, Wp.wNeg, Wp.rNeg, Wp.wLc, Wp.wYes, Wp.wDrop, Wp.wipeT, Wp.wAug, List.map, List.set_cons_zero, List.set_cons_succ, List.getElem?_cons_zero, List.getElem?_cons_succ, List.length_cons, List.length_nil, List.cons_append, List.nil_append, List.replicate, Wp.startT,
  true_and, and_true, Wp.wif_true, Wp.wif_false, Wp.ex_some, Wp.ex_some1, Wp.ex_eq, Wp.ex_lst, Wp.ex_lst0, Wp.rEq_int, Bool.false_bne, Bool.true_bne, Int.reduceLT, Int.reduceLE, Int.reduceAdd, Nat.reduceAdd, Nat.reduceSub, eq_self, ite_true, ite_false, beq_self_eq_true, Bool.not_true, Bool.not_false, Wp.isB_0, Wp.isB_1, Wp.isB_2, Wp.isB_3, Wp.isB_4, Wp.isB_5, Wp.isB_6, Wp.isB_7, Wp.isB_8, Wp.isB_9, Wp.isB_10, Wp.isB_11, Wp.isB_12, Wp.isB_13, Wp.isB_14, Wp.isB_15, Wp.isB_16, Wp.isB_17, Wp.isB_18, Wp.isB_19, Wp.isB_20, Wp.isB_21, Wp.isB_22, Wp.isB_23, Wp.isB_24, Wp.isB_25, Wp.isB_26, Wp.isB_27, Wp.isB_28, Wp.isB_29, Wp.isB_30, Wp.isB_31, Wp.isB_32, Wp.isB_33, Wp.isB_34, Wp.isB_35, Wp.cmul_l, Wp.cmul_r, Wp.cpow_lit, Wp.size_le, Wp.size_lt, Wp.atI_0, Wp.atI_1, Wp.atI_2, Wp.atI_3, Wp.atI_4, Wp.atI_5, Wp.atI_6, Wp.ixN_0, Wp.ixN_1, Wp.ixN_2, Wp.itemsT, Wp.tyT, reduceIte, Wp.wFld, Wp.wFSet, Wp.wFAug, Wp.wMeth, Wp.wMake, Wp.rIxA, Wp.rInA, Wp.rSetA, Wp.ixA, Wp.inA, Wp.setA, Wp.lenA, Wp.getD, Option.map_some, Option.bind_some, Option.getD_some,  Wp.gIxA, Wp.wDNew, Wp.wDNewT, Wp.rLenA, Wp.rSortD, Wp.rMaxL, Wp.rPopL, Wp.rGet1, Wp.rGet2, Wp.wGet1, Wp.wGet2, Wp.wPop1, Wp.wPop2, Wp.wDel, Wp.isDT, Wp.keyT, Wp.keysT, Wp.keysL, Wp.ex_ins, Wp.ex_dct, Wp.wSrtIt, Wp.iRg3, Wp.rAddI, Wp.wIf, Wp.rExtT, Wp.wTestI, Wp.rGt, Wp.rMulA, Int.cast_ofNat_Int, Int.reduceBEq, lk_End__base, pt_End__base, lk_End__pending, pt_End__pending, lk_End__closed, pt_End__closed, lk_End__given, pt_End__given, lk_End__got, pt_End__got, lk_End__ended, pt_End__ended, lk_End__ahead, pt_End__ahead, lk_End__end, pt_End__end, no_End__keep, no_End__learn, no_End__take_in_order, no_End_close, no_End_due, no_End_has_end, no_End_is_given, no_End_picture, no_End_take, no_End_taken, no_End_write, ln_End, mk_End, Wp.rSortDA, Wp.wDisp, Wp.wPCons, Wp.wPNil, ix_out, ix_closed, ix_base, ix_given, ix_seen, ix_got, ix_ended, ix_end, st_closed, st_base, st_given, st_got, st_ended, st_end, sdL_len, *])
local macro_rules | `(tactic| walk_at "r2") => `(tactic| repeat (first | walk_at "wq" | walk_at "go"))
local macro_rules | `(tactic| walk_at "w0") => `(tactic| simp (disch := omega) only [Wp.wSeq, Wp.wNext, Wp.wSet, Wp.wVar, Wp.wC, Wp.wOp, Wp.wRet, Wp.wIfS, Wp.wTest, Wp.wCall, Wp.wCons, Wp.wNil, Wp.wTup, Wp.wLst, Wp.wAsg, Wp.gTp, Wp.gC, Wp.gNm, Wp.gN0, Wp.gIx, Wp.rSet, Wp.rAdd, Wp.rMul, Wp.rMod, Wp.rSub, Wp.rFdiv, Wp.rPow, Wp.rInt, Wp.rIx, Wp.rLt, Wp.rLe, Wp.rCmp, Wp.rGeI, Wp.rGtI, Wp.wCB, Wp.rLen, Wp.rLen1, Wp.rInt1, Wp.rMax2, Wp.rMin2, Wp.rTupOf, Wp.rListOf,
  Wp.wIsi, Wp.rBIs, Wp.rIsN, Wp.isNon, Wp.wMt, Wp.rAppendT, Wp.rExtendT, Wp.rReverseT, Wp.wNot, Wp.wOr, Wp.wAnd, Wp.wAndV, Wp.wOrV, Wp.wNotV, Wp.wFor, Wp.iRg1, Wp.iRg2, Wp.iAnyW, Wp.wAll, Wp.wChain, Wp.wSl, Wp.wNoPart, Wp.wPart, Wp.rSl, Wp.wNeg, Wp.rNeg, Wp.wLc, Wp.wYes, Wp.wDrop, Wp.wipeT, Wp.wAug, List.map, List.set_cons_zero, List.set_cons_succ, List.getElem?_cons_zero, List.getElem?_cons_succ, List.length_cons, List.length_nil, List.cons_append, List.nil_append, List.replicate, Wp.startT,
  true_and, and_true, Wp.wif_true, Wp.wif_false, Wp.ex_some, Wp.ex_some1, Wp.ex_eq, Wp.ex_lst, Wp.ex_lst0, Wp.rEq_int, Bool.false_bne, Bool.true_bne, Int.reduceLT, Int.reduceLE, Int.reduceAdd, Nat.reduceAdd, Nat.reduceSub, eq_self, ite_true, ite_false, beq_self_eq_true, Bool.not_true, Bool.not_false, Wp.isB_0, Wp.isB_1, Wp.isB_2, Wp.isB_3, Wp.isB_4, Wp.isB_5, Wp.isB_6, Wp.isB_7, Wp.isB_8, Wp.isB_9, Wp.isB_10, Wp.isB_11, Wp.isB_12, Wp.isB_13, Wp.isB_14, Wp.isB_15, Wp.isB_16, Wp.isB_17, Wp.isB_18, Wp.isB_19, Wp.isB_20, Wp.isB_21, Wp.isB_22, Wp.isB_23, Wp.isB_24, Wp.isB_25, Wp.isB_26, Wp.isB_27, Wp.isB_28, Wp.isB_29, Wp.isB_30, Wp.isB_31, Wp.isB_32, Wp.isB_33, Wp.isB_34, Wp.isB_35, Wp.cmul_l, Wp.cmul_r, Wp.cpow_lit, Wp.size_le, Wp.size_lt, Wp.atI_0, Wp.atI_1, Wp.atI_2, Wp.atI_3, Wp.atI_4, Wp.atI_5, Wp.atI_6, Wp.ixN_0, Wp.ixN_1, Wp.ixN_2, Wp.itemsT, Wp.tyT, reduceIte, Wp.wFld, Wp.wFSet, Wp.wFAug, Wp.wMeth, Wp.wMake, Wp.rIxA, Wp.rInA, Wp.rSetA, Wp.ixA, Wp.inA, Wp.setA, Wp.lenA, Wp.getD, Option.map_some, Option.bind_some, Option.getD_some,  Wp.gIxA, Wp.wDNew, Wp.wDNewT, Wp.rLenA, Wp.rSortD, Wp.rMaxL, Wp.rPopL, Wp.rGet1, Wp.rGet2, Wp.wGet1, Wp.wGet2, Wp.wPop1, Wp.wPop2, Wp.wDel, Wp.isDT, Wp.keyT, Wp.keysT, Wp.keysL, Wp.ex_ins, Wp.ex_dct, Wp.wSrtIt, Wp.iRg3, Wp.rAddI, Wp.wIf, Wp.rExtT, Wp.wTestI, Wp.rGt, Wp.rMulA, Int.cast_ofNat_Int, Int.reduceBEq, lk_End__base, pt_End__base, lk_End__pending, pt_End__pending, lk_End__closed, pt_End__closed, lk_End__given, pt_End__given, lk_End__got, pt_End__got, lk_End__ended, pt_End__ended, lk_End__ahead, pt_End__ahead, lk_End__end, pt_End__end, no_End__keep, no_End__learn, no_End__take_in_order, no_End_close, no_End_due, no_End_has_end, no_End_is_given, no_End_picture, no_End_take, no_End_taken, no_End_write, ln_End, mk_End, Wp.rSortDA, Wp.wDisp, Wp.wPCons, Wp.wPNil, ix_out, ix_closed, ix_base, ix_given, ix_seen, ix_got, ix_ended, ix_end, st_closed, st_base, st_given, st_got, st_ended, st_end, sdL_len])
local macro_rules | `(tactic| walk_at "r0") => `(tactic| repeat (first | walk_at "w0" | walk_at "go"))
def spSDue : WSp := fun ts S Q _ => match ts with
  | [.ref a] => ∃ F s m, SdA S a F s ∧ Lik s m ∧ (s.closed = 0 ∨ s.closed = 1) ∧ s.out.length ≤ 4000 ∧ ∀ q S', S q = none → Gr S S' → S' q = some (.lst (m.due.map Seg.tr)) → Q (.ref q) S'
  | _ => False
/-- the rows of the first turns -/
def EM.rows (m : EM) (i : Nat) : List Seg := (List.range (min i (((m.pend.take 32).length + 7) / 8))).map m.segAt
theorem hw_sdue {C : Addr} : ∀ ts S Q E, ts.length = 1 → spSDue ts S Q E → b__law_due C { nx := fun _ S' => Q .non S', rt := Q } (Wp.startT N__law_due ts) S := by
  intro ts S Q E _ h
  match ts, h with
  | [.ref a], ⟨F, s, m, ⟨lo, ls, hF, n1, n2, n3, e1, e2, _⟩, lk, hc, hl, h⟩ =>
    unfold b__law_due N__law_due
    walk_at "r0"
    rw [e1]
    walk_at "r0"
    intro q hq
    have gr1 : Gr S (upS S q (.lst [])) := gr_new hq
    have f1 := gr1 _ _ e1
    have f2 := gr1 _ _ e2
    have q1 : upS S q (.lst []) q = some (.lst []) := upS_same
    generalize upS S q (.lst []) = S1 at gr1 f1 f2 q1 ⊢
    walk_at "r0"
    rw [f1]
    walk_at "r0"
    rw [f2]
    walk_at "r0"
    rw [f1]
    walk_at "r0"
    try rw [f1]
    try walk_at "r0"
    refine ⟨by omega, by omega, ?_⟩
    have len := lk.u.len
    have hb := lk.base
    obtain ⟨P, hP⟩ : ∃ P, (m.pend.take 32).length = P := ⟨_, rfl⟩
    have hP2 : P = min 32 m.pend.length := by rw [← hP, List.length_take]
    have stop : (if s.base + 32 < ((List.map T.int s.out).length : Int) then s.base + 32 else ((List.map T.int s.out).length : Int)) = s.base + (P : Int) := by
      rw [List.length_map]
      split <;> omega
    rw [stop]
    refine loop_inv (fun i σ S' => ∃ x y z, σ = [some (.ref a), some (.int (s.got + s.ended)), some (.ref q), some (.int (s.base + (P : Int))), some (.int (s.base + ((min (8 * i) P : Nat) : Int))), x, y, z] ∧ Gr S S' ∧ S' q = some (.lst ((m.rows i).map Seg.tr))) ⟨none, none, none, ?_, gr1, ?_⟩ (fun _ _ _ _ => trivial) ?_ ?_
    · rw [show min (8 * 0) P = 0 by omega]
      simp
    · rw [q1]
      unfold EM.rows
      rw [show min 0 (((m.pend.take 32).length + 7) / 8) = 0 by omega]
      rfl
    · rintro i x σ S' LP hx ⟨y1, y2, y3, rfl, g, hq'⟩ k
      have g1 := g _ _ e1
      have g2 := g _ _ e2
      unfold l1__law_due
      walk_at "r0"
      refine if_dec (fun c => ?_) (fun c => ?_)
      · have ci : 8 * i < P := by omega
        have em : min (8 * i) P = 8 * i := by omega
        rw [em]
        rw [g1]
        walk_at "r0"
        rw [g2]
        walk_at "r0"
        intro p hp
        have b0 := lk.u.b0
        have b1 := lk.u.b1
        have cut : cutT (List.map T.int s.out) (some (s.base + ((8 * i : Nat) : Int))) (some (if s.base + ((8 * i : Nat) : Int) + 8 < s.base + (P : Int) then s.base + ((8 * i : Nat) : Int) + 8 else s.base + (P : Int))) = (((m.pend.take 32).drop (8 * i)).take 8).map T.int := by
          rw [show s.base + ((8 * i : Nat) : Int) = ((m.base.toNat + 8 * i : Nat) : Int) by omega, show (if ((m.base.toNat + 8 * i : Nat) : Int) + 8 < s.base + (P : Int) then ((m.base.toNat + 8 * i : Nat) : Int) + 8 else s.base + (P : Int)) = ((m.base.toNat + min (8 * i + 8) P : Nat) : Int) by split <;> omega, cutT_both, ← List.map_drop, ← List.map_take, lk.u.p, List.drop_take, List.drop_drop, List.take_take]
          congr 1
          rw [List.take_eq_take_iff, List.length_drop]
          omega
        rw [cut]
        obtain ⟨pc, hpc⟩ : ∃ pc, ((m.pend.take 32).drop (8 * i)).take 8 = pc := ⟨_, rfl⟩
        rw [hpc]
        have g3 : Gr S' (upS S' p (.lst (pc.map T.int))) := gr_new hp
        have h1 := g3 _ _ g1
        have h2 := g3 _ _ g2
        have hq3 := g3 _ _ hq'
        have hp3 : upS S' p (.lst (pc.map T.int)) p = some (.lst (pc.map T.int)) := upS_same
        have g4 := g.trans g3
        generalize upS S' p (.lst (pc.map T.int)) = S3 at g3 g4 h1 h2 hq3 hp3 ⊢
        rw [hp3]
        walk_at "r0"
        have pcl : pc.length = min 8 (P - 8 * i) := by rw [← hpc, List.length_take, List.length_drop, hP]
        have sg : m.segAt i = ⟨m.base + 8 * (i : Int), pc, if 8 * i + pc.length = m.pend.length then m.closed else 0, m.taken⟩ := by unfold EM.segAt; rw [hpc]
        have rl : (m.rows i).length ≤ 32 := by unfold EM.rows; rw [List.length_map, List.length_range]; omega
        have sz : ((m.rows i).map Seg.tr).length < sizeLine := by
          rw [List.length_map]
          have := sizeLine_eq
          omega
        have hqS : q ∉ [a] := by
          intro z
          simp only [List.mem_singleton] at z
          rw [z, h1] at hq3; cases hq3
        have fin : ∀ z, z = (if 8 * i + pc.length = m.pend.length then m.closed else 0) → LP [some (.ref a), some (.int (s.got + s.ended)), some (.ref q), some (.int (s.base + (P : Int))), some (.int (s.base + ((8 * i : Nat) : Int) + ((pc.map T.int).length : Int))), some x, some (.tup (pc.map T.int)), some (.int z)] (upS S3 q (.lst ((m.rows i).map Seg.tr ++ [T.tup [.int (s.base + ((8 * i : Nat) : Int)), .tup (pc.map T.int), .int z, .int (s.got + s.ended)]]))) := fun z ez => by
          refine k _ _ ⟨some x, some (.tup (pc.map T.int)), some (.int z), ?_, fun y o e => ?_, ?_⟩
          · rw [List.length_map, pcl, show s.base + ((8 * i : Nat) : Int) + ((min 8 (P - 8 * i) : Nat) : Int) = s.base + ((min (8 * (i + 1)) P : Nat) : Int) by omega]
          · rw [upS_ne fun w => by rw [w, hq] at e; cases e]
            exact g4 y o e
          · rw [upS_same]
            congr 2
            unfold EM.rows
            rw [hP, show min (i + 1) ((P + 7) / 8) = i + 1 by omega, show min i ((P + 7) / 8) = i by omega, List.range_succ, List.map_append, List.map_append, List.map_singleton, List.map_singleton, sg, ez]
            simp only [Seg.tr]
            rw [show m.base + 8 * (i : Int) = s.base + ((8 * i : Nat) : Int) by omega, show m.taken = s.got + s.ended by unfold EM.taken; rw [lk.got, lk.ended]]
        rw [h1]
        walk_at "r0"
        refine if_bool (fun c1 => ?_) (fun c1 => ?_)
        · have c1 : s.closed = 1 := by simpa using c1
          walk_at "r0"
          rw [h1]
          walk_at "r0"
          rw [h2]
          walk_at "r0"
          rw [hq3]
          walk_at "r0"
          refine ⟨sz, ?_⟩
          walk_at "r0"
          refine fin _ ?_
          rw [List.length_map, List.length_map, lk.closed, c1]
          by_cases w : 8 * i + pc.length = m.pend.length
          · rw [if_pos w, if_pos (by rw [beq_iff_eq]; omega)]
          · rw [if_neg w, if_neg (by rw [beq_iff_eq]; omega)]
        · have c1 : s.closed = 0 := by
            rcases hc with z | z
            · exact z
            · rw [z] at c1; exact absurd c1 (by decide)
          walk_at "r0"
          rw [hq3]
          walk_at "r0"
          refine ⟨sz, ?_⟩
          walk_at "r0"
          refine fin _ ?_
          rw [lk.closed, c1, if_neg (by decide : ¬ false = true)]
          split <;> rfl
      · have ci : P ≤ 8 * i := by omega
        refine goS_i (k _ _ ⟨some x, y2, y3, ?_, g, ?_⟩)
        · rw [show min (8 * (i + 1)) P = min (8 * i) P by omega]
        · rw [hq']
          unfold EM.rows
          rw [hP, show min (i + 1) ((P + 7) / 8) = min i ((P + 7) / 8) by omega]
    · rintro σ S' ⟨y1, y2, y3, rfl, g, hq'⟩
      have g1 := g _ _ e1
      have g2 := g _ _ e2
      rw [show (Wp.rangeT 0 (Int.toNat 4)).length = 4 from rfl] at hq' ⊢
      have hr : m.rows 4 = (List.range ((P + 7) / 8)).map m.segAt := by
        unfold EM.rows
        rw [hP, show min 4 ((P + 7) / 8) = (P + 7) / 8 by omega]
      rw [hr] at hq'
      walk_at "r0"
      rw [hq']
      walk_at "r0"
      by_cases h0 : m.pend = []
      · have hd : m.due = [⟨m.base, [], m.closed, m.taken⟩] := if_pos h0
        have p0 : P = 0 := by rw [hP2, h0]; rfl
        rw [p0]
        rw [p0] at hq'
        have hq' : S' q = some (.lst []) := hq'
        refine if_bool (fun _ => ?_) (fun z => absurd z (by simp))
        rw [g1]
        walk_at "r0"
        rw [show List.range (7 / 8) = [] from rfl]
        refine ⟨by rw [sizeLine_eq]; show 0 < 16777216; decide, ?_⟩
        walk_at "r0"
        refine h q _ hq (fun y o e => ?_) ?_
        · rw [upS_ne fun w => by rw [w, hq] at e; cases e]
          exact g y o e
        · rw [upS_same, hd, lk.base, lk.closed, show m.taken = s.got + s.ended by unfold EM.taken; rw [lk.got, lk.ended]]
          rfl
      · have hd : m.due = (List.range (((m.pend.take 32).length + 7) / 8)).map m.segAt := if_neg h0
        have lp : m.pend.length ≠ 0 := fun z => h0 (List.eq_nil_of_length_eq_zero z)
        refine if_bool (fun z => ?_) (fun _ => ?_)
        · rw [List.length_map, List.length_map, List.length_range, beq_iff_eq] at z
          omega
        · walk_at "r0"
          refine h q S' hq g ?_
          rw [hq', hd, hP]
end My

set_option Elab.async false
set_option linter.all false
set_option maxRecDepth 100000
set_option maxHeartbeats 8000000
namespace My
open PySem PySem.Spec PyProof.Rows L2 Wp Gn
local macro_rules | `(tactic| walk_at "go") => `(tactic| (with_reducible refine goS_i ?_))
local macro_rules | `(tactic| walk_at "wp") => `(tactic| simp (disch := omega) only [Wp.wSeq, Wp.wNext, Wp.wSet, Wp.wVar, Wp.wC, Wp.wOp, Wp.wRet, Wp.wIfS, Wp.wTest, Wp.wCall, Wp.wCons, Wp.wNil, Wp.wTup, Wp.wLst, Wp.wAsg, Wp.gTp, Wp.gC, Wp.gNm, Wp.gN0, Wp.gIx, Wp.rSet, Wp.rAdd, Wp.rMul, Wp.rMod, Wp.rSub, Wp.rFdiv, Wp.rPow, Wp.rInt, Wp.rIx, Wp.rLt, Wp.rLe, Wp.rCmp, Wp.rGeI, Wp.rGtI, Wp.wCB, Wp.rLen, Wp.rLen1, Wp.rInt1, Wp.rMax2, Wp.rMin2, Wp.rTupOf, Wp.rListOf,
  Wp.wIsi, Wp.rBIs, Wp.rIsN, Wp.isNon, Wp.wMt, Wp.rAppendT, Wp.rExtendT, Wp.rReverseT, Wp.wNot, Wp.wOr, Wp.wAnd, Wp.wAndV, Wp.wOrV, Wp.wNotV, Wp.wFor, Wp.iRg1, Wp.iRg2, Wp.iAnyW, Wp.wAll, Wp.wChain, Wp.wSl, Wp.wNoPart, Wp.wPart, Wp.rSl, Wp.wNeg, Wp.rNeg, Wp.wLc, Wp.wYes, Wp.wDrop, Wp.wipeT, Wp.wAug, List.map, List.set_cons_zero, List.set_cons_succ, List.getElem?_cons_zero, List.getElem?_cons_succ, List.length_cons, List.length_nil, List.cons_append, List.nil_append, List.replicate, Wp.startT,
  true_and, and_true, Wp.wif_true, Wp.wif_false, Wp.ex_some, Wp.ex_some1, Wp.ex_eq, Wp.ex_lst, Wp.ex_lst0, Wp.rEq_int, Bool.false_bne, Bool.true_bne, Int.reduceLT, Int.reduceLE, Int.reduceAdd, Nat.reduceAdd, Nat.reduceSub, eq_self, ite_true, ite_false, beq_self_eq_true, Bool.not_true, Bool.not_false, Wp.isB_0, Wp.isB_1, Wp.isB_2, Wp.isB_3, Wp.isB_4, Wp.isB_5, Wp.isB_6, Wp.isB_7, Wp.isB_8, Wp.isB_9, Wp.isB_10, Wp.isB_11, Wp.isB_12, Wp.isB_13, Wp.isB_14, Wp.isB_15, Wp.isB_16, Wp.isB_17, Wp.isB_18, Wp.isB_19, Wp.isB_20, Wp.isB_21, Wp.isB_22, Wp.isB_23, Wp.isB_24, Wp.isB_25, Wp.isB_26, Wp.isB_27, Wp.isB_28, Wp.isB_29, Wp.isB_30, Wp.isB_31, Wp.isB_32, Wp.isB_33, Wp.isB_34, Wp.isB_35, Wp.cmul_l, Wp.cmul_r, Wp.cpow_lit, Wp.size_le, Wp.size_lt, Wp.atI_0, Wp.atI_1, Wp.atI_2, Wp.atI_3, Wp.atI_4, Wp.atI_5, Wp.atI_6, Wp.ixN_0, Wp.ixN_1, Wp.ixN_2, Wp.itemsT, Wp.tyT, reduceIte, Wp.wFld, Wp.wFSet, Wp.wFAug, Wp.wMeth, Wp.wMake, Wp.rIxA, Wp.rInA, Wp.rSetA, Wp.ixA, Wp.inA, Wp.setA, Wp.lenA, Wp.getD, Option.map_some, Option.bind_some, Option.getD_some,  Wp.gIxA, Wp.wDNew, Wp.wDNewT, Wp.rLenA, Wp.rSortD, Wp.rMaxL, Wp.rPopL, Wp.rGet1, Wp.rGet2, Wp.wGet1, Wp.wGet2, Wp.wPop1, Wp.wPop2, Wp.wDel, Wp.isDT, Wp.keyT, Wp.keysT, Wp.keysL, Wp.ex_ins, Wp.ex_dct, Wp.wSrtIt, Wp.iRg3, Wp.rAddI, Wp.wIf, Wp.rExtT, Wp.wTestI, Wp.rGt, Wp.rMulA, Int.cast_ofNat_Int, Int.reduceBEq, lk_End__base, pt_End__base, lk_End__pending, pt_End__pending, lk_End__closed, pt_End__closed, lk_End__given, pt_End__given, lk_End__got, pt_End__got, lk_End__ended, pt_End__ended, lk_End__ahead, pt_End__ahead, lk_End__end, pt_End__end, no_End__keep, no_End__learn, no_End__take_in_order, no_End_close, no_End_due, no_End_has_end, no_End_is_given, no_End_picture, no_End_take, no_End_taken, no_End_write, ln_End, mk_End, Wp.rSortDA, Wp.wDisp, Wp.wPCons, Wp.wPNil, ix_out, ix_closed, ix_base, ix_given, ix_seen, ix_got, ix_ended, ix_end, st_closed, st_base, st_given, st_got, st_ended, st_end, sdL_len, Wp.upS, Wp.upS_upS, *])
local macro_rules | `(tactic| walk_at "run") => `(tactic| repeat (first | walk_at "wp" | walk_at "go"))
local macro_rules | `(tactic| walk_at "wq") => `(tactic| simp (disch := omega) only [Wp.wSeq, Wp.wNext, Wp.wSet, Wp.wVar, Wp.wC, Wp.wOp, Wp.wRet, Wp.wIfS, Wp.wTest, Wp.wCall, Wp.wCons, Wp.wNil, Wp.wTup, Wp.wLst, Wp.wAsg, Wp.gTp, Wp.gC, Wp.gNm, Wp.gN0, Wp.gIx, Wp.rSet, Wp.rAdd, Wp.rMul, Wp.rMod, Wp.rSub, Wp.rFdiv, Wp.rPow, Wp.rInt, Wp.rIx, Wp.rLt, Wp.rLe, Wp.rCmp, Wp.rGeI, Wp.rGtI, Wp.wCB, Wp.rLen, Wp.rLen1, Wp.rInt1, Wp.rMax2, Wp.rMin2, Wp.rTupOf, Wp.rListOf,
  Wp.wIsi, Wp.rBIs, Wp.rIsN, Wp.isNon, Wp.wMt, Wp.rAppendT, Wp.rExtendT, Wp.rReverseT, Wp.wNot, Wp.wOr, Wp.wAnd, Wp.wAndV, Wp.wOrV, Wp.wNotV, Wp.wFor, Wp.iRg1, Wp.iRg2, Wp.iAnyW, Wp.wAll, Wp.wChain, Wp.wSl, Wp.wNoPart, Wp.wPart, Wp.rSl, Wp.wNeg, Wp.rNeg, Wp.wLc, Wp.wYes, Wp.wDrop, Wp.wipeT, Wp.wAug, List.map, List.set_cons_zero, List.set_cons_succ, List.getElem?_cons_zero, List.getElem?_cons_succ, List.length_cons, List.length_nil, List.cons_append, List.nil_append, List.replicate, Wp.startT,
  true_and, and_true, Wp.wif_true, Wp.wif_false, Wp.ex_some, Wp.ex_some1, Wp.ex_eq, Wp.ex_lst, Wp.ex_lst0, Wp.rEq_int, Bool.false_bne, Bool.true_bne, Int.reduceLT, Int.reduceLE, Int.reduceAdd, Nat.reduceAdd, Nat.reduceSub, eq_self, ite_true, ite_false, beq_self_eq_true, Bool.not_true, Bool.not_false, Wp.isB_0, Wp.isB_1, Wp.isB_2, Wp.isB_3, Wp.isB_4, Wp.isB_5, Wp.isB_6, Wp.isB_7, Wp.isB_8, Wp.isB_9, Wp.isB_10, Wp.isB_11, Wp.isB_12, Wp.isB_13, Wp.isB_14, Wp.isB_15, Wp.isB_16, Wp.isB_17, Wp.isB_18, Wp.isB_19, Wp.isB_20, Wp.isB_21, Wp.isB_22, Wp.isB_23, Wp.isB_24, Wp.isB_25, Wp.isB_26, Wp.isB_27, Wp.isB_28, Wp.isB_29, Wp.isB_30, Wp.isB_31, Wp.isB_32, Wp.isB_33, Wp.isB_34, Wp.isB_35, Wp.cmul_l, Wp.cmul_r, Wp.cpow_lit, Wp.size_le, Wp.size_lt, Wp.atI_0, Wp.atI_1, Wp.atI_2, Wp.atI_3, Wp.atI_4, Wp.atI_5, Wp.atI_6, Wp.ixN_0, Wp.ixN_1, Wp.ixN_2, Wp.itemsT, Wp.tyT, reduceIte, Wp.wFld, Wp.wFSet, Wp.wFAug, Wp.wMeth, Wp.wMake, Wp.rIxA, Wp.rInA, Wp.rSetA, Wp.ixA, Wp.inA, Wp.setA, Wp.lenA, Wp.getD, Option.map_some, Option.bind_some, Option.getD_some,  Wp.gIxA, Wp.wDNew, Wp.wDNewT, Wp.rLenA, Wp.rSortD, Wp.rMaxL, Wp.rPopL, Wp.rGet1, Wp.rGet2, Wp.wGet1, Wp.wGet2, Wp.wPop1, Wp.wPop2, Wp.wDel, Wp.isDT, Wp.keyT, Wp.keysT, Wp.keysL, Wp.ex_ins, Wp.ex_dct, Wp.wSrtIt, Wp.iRg3, Wp.rAddI, Wp.wIf, Wp.rExtT, Wp.wTestI, Wp.rGt, Wp.rMulA, Int.cast_ofNat_Int, Int.reduceBEq, lk_End__base, pt_End__base, lk_End__pending, pt_End__pending, lk_End__closed, pt_End__closed, lk_End__given, pt_End__given, lk_End__got, pt_End__got, lk_End__ended, pt_End__ended, lk_End__ahead, pt_End__ahead, lk_End__end, pt_End__end, no_End__keep, no_End__learn, no_End__take_in_order, no_End_close, no_End_due, no_End_has_end, no_End_is_given, no_End_picture, no_End_take, no_End_taken, no_End_write, ln_End, mk_End, Wp.rSortDA, Wp.wDisp, Wp.wPCons, Wp.wPNil, ix_out, ix_closed, ix_base, ix_given, ix_seen, ix_got, ix_ended, ix_end, st_closed, st_base, st_given, st_got, st_ended, st_end, sdL_len, *])
local macro_rules | `(tactic| walk_at "r2") => `(tactic| repeat (first | walk_at "wq" | walk_at "go"))
local macro_rules | `(tactic| walk_at "w0") => `(tactic| simp (disch := omega) only [Wp.wSeq, Wp.wNext, Wp.wSet, Wp.wVar, Wp.wC, Wp.wOp, Wp.wRet, Wp.wIfS, Wp.wTest, Wp.wCall, Wp.wCons, Wp.wNil, Wp.wTup, Wp.wLst, Wp.wAsg, Wp.gTp, Wp.gC, Wp.gNm, Wp.gN0, Wp.gIx, Wp.rSet, Wp.rAdd, Wp.rMul, Wp.rMod, Wp.rSub, Wp.rFdiv, Wp.rPow, Wp.rInt, Wp.rIx, Wp.rLt, Wp.rLe, Wp.rCmp, Wp.rGeI, Wp.rGtI, Wp.wCB, Wp.rLen, Wp.rLen1, Wp.rInt1, Wp.rMax2, Wp.rMin2, Wp.rTupOf, Wp.rListOf,
  Wp.wIsi, Wp.rBIs, Wp.rIsN, Wp.isNon, Wp.wMt, Wp.rAppendT, Wp.rExtendT, Wp.rReverseT, Wp.wNot, Wp.wOr, Wp.wAnd, Wp.wAndV, Wp.wOrV, Wp.wNotV, Wp.wFor, Wp.iRg1, Wp.iRg2, Wp.iAnyW, Wp.wAll, Wp.wChain, Wp.wSl, Wp.wNoPart, Wp.wPart, Wp.rSl, Wp.wNeg, Wp.rNeg, Wp.wLc, Wp.wYes, Wp.wDrop, Wp.wipeT, Wp.wAug, List.map, List.set_cons_zero, List.set_cons_succ, List.getElem?_cons_zero, List.getElem?_cons_succ, List.length_cons, List.length_nil, List.cons_append, List.nil_append, List.replicate, Wp.startT,
  true_and, and_true, Wp.wif_true, Wp.wif_false, Wp.ex_some, Wp.ex_some1, Wp.ex_eq, Wp.ex_lst, Wp.ex_lst0, Wp.rEq_int, Bool.false_bne, Bool.true_bne, Int.reduceLT, Int.reduceLE, Int.reduceAdd, Nat.reduceAdd, Nat.reduceSub, eq_self, ite_true, ite_false, beq_self_eq_true, Bool.not_true, Bool.not_false, Wp.isB_0, Wp.isB_1, Wp.isB_2, Wp.isB_3, Wp.isB_4, Wp.isB_5, Wp.isB_6, Wp.isB_7, Wp.isB_8, Wp.isB_9, Wp.isB_10, Wp.isB_11, Wp.isB_12, Wp.isB_13, Wp.isB_14, Wp.isB_15, Wp.isB_16, Wp.isB_17, Wp.isB_18, Wp.isB_19, Wp.isB_20, Wp.isB_21, Wp.isB_22, Wp.isB_23, Wp.isB_24, Wp.isB_25, Wp.isB_26, Wp.isB_27, Wp.isB_28, Wp.isB_29, Wp.isB_30, Wp.isB_31, Wp.isB_32, Wp.isB_33, Wp.isB_34, Wp.isB_35, Wp.cmul_l, Wp.cmul_r, Wp.cpow_lit, Wp.size_le, Wp.size_lt, Wp.atI_0, Wp.atI_1, Wp.atI_2, Wp.atI_3, Wp.atI_4, Wp.atI_5, Wp.atI_6, Wp.ixN_0, Wp.ixN_1, Wp.ixN_2, Wp.itemsT, Wp.tyT, reduceIte, Wp.wFld, Wp.wFSet, Wp.wFAug, Wp.wMeth, Wp.wMake, Wp.rIxA, Wp.rInA, Wp.rSetA, Wp.ixA, Wp.inA, Wp.setA, Wp.lenA, Wp.getD, Option.map_some, Option.bind_some, Option.getD_some,  Wp.gIxA, Wp.wDNew, Wp.wDNewT, Wp.rLenA, Wp.rSortD, Wp.rMaxL, Wp.rPopL, Wp.rGet1, Wp.rGet2, Wp.wGet1, Wp.wGet2, Wp.wPop1, Wp.wPop2, Wp.wDel, Wp.isDT, Wp.keyT, Wp.keysT, Wp.keysL, Wp.ex_ins, Wp.ex_dct, Wp.wSrtIt, Wp.iRg3, Wp.rAddI, Wp.wIf, Wp.rExtT, Wp.wTestI, Wp.rGt, Wp.rMulA, Int.cast_ofNat_Int, Int.reduceBEq, lk_End__base, pt_End__base, lk_End__pending, pt_End__pending, lk_End__closed, pt_End__closed, lk_End__given, pt_End__given, lk_End__got, pt_End__got, lk_End__ended, pt_End__ended, lk_End__ahead, pt_End__ahead, lk_End__end, pt_End__end, no_End__keep, no_End__learn, no_End__take_in_order, no_End_close, no_End_due, no_End_has_end, no_End_is_given, no_End_picture, no_End_take, no_End_taken, no_End_write, ln_End, mk_End, Wp.rSortDA, Wp.wDisp, Wp.wPCons, Wp.wPNil, ix_out, ix_closed, ix_base, ix_given, ix_seen, ix_got, ix_ended, ix_end, st_closed, st_base, st_given, st_got, st_ended, st_end, sdL_len])
local macro_rules | `(tactic| walk_at "r0") => `(tactic| repeat (first | walk_at "w0" | walk_at "go"))
/-- a comprehension with a test whose parts change nothing -/
theorem compW_sel {tt : WT} {te : WE} {i : Nat} {σ : Sl} {D : Addr} {Q : T → Sta → Prop} {stb : Sta → Prop} {S : Sta} (f : T → T) (c : T → Bool) (hst : ∀ acc, stb (upS S D (.lst acc))) : ∀ (xs acc : List T),
    (∀ x ∈ xs, ∀ (acc' : List T) (R : Bool → Sta → Prop), R (c x) (upS S D (.lst acc')) → tt (σ.set i (some x)) (upS S D (.lst acc')) R) →
    (∀ x ∈ xs, c x = true → ∀ (acc' : List T) (R : T → Sta → Prop), R (f x) (upS S D (.lst acc')) → te (σ.set i (some x)) (upS S D (.lst acc')) R) →
    acc.length + xs.length ≤ 1000000 → Q (.ref D) (upS S D (.lst (acc ++ (xs.filter c).map f))) → compW (gNm i) tt te stb σ D Q xs (upS S D (.lst acc))
  | [], acc, _, _, _, q => by
    rw [List.filter_nil, List.map_nil, List.append_nil] at q
    exact ⟨hst _, q⟩
  | x :: xs, acc, ht, he, hl, q => by
    rw [List.length_cons] at hl
    refine ⟨hst _, ht x List.mem_cons_self acc _ ?_⟩
    by_cases w : c x = true
    · rw [w]
      refine wif_t (he x List.mem_cons_self w acc _ ⟨acc, upS_same, ?_, ?_⟩)
      · exact Nat.lt_of_lt_of_le (show acc.length < 10000000 by omega) (by rw [sizeLine_eq]; decide)
      · rw [upS_upS]
        refine compW_sel f c hst xs (acc ++ [f x]) (fun y hy => ht y (List.mem_cons_of_mem _ hy)) (fun y hy => he y (List.mem_cons_of_mem _ hy)) ?_ ?_
        · rw [List.length_append, List.length_cons, List.length_nil]; omega
        · rw [List.filter_cons, if_pos w, List.map_cons] at q
          rw [List.append_assoc]
          exact q
    · rw [Bool.not_eq_true] at w
      rw [w]
      refine wif_f (compW_sel f c hst xs acc (fun y hy => ht y (List.mem_cons_of_mem _ hy)) (fun y hy => he y (List.mem_cons_of_mem _ hy)) (by omega) ?_)
      rw [List.filter_cons, if_neg (by rw [w]; decide)] at q
      exact q
def selF (s : SM) : T → T
  | .int k => prI (k, (s.seen k).getD 0)
  | _ => .non
def selC (s : SM) : T → Bool
  | .int k => decide (s.got ≤ k)
  | _ => false
/-- the picture as the law tells it -/
def EM.picL (m : EM) : T := .tup [.int m.base, .tup (m.pend.map T.int), .int m.closed, .int m.given, .int m.got, .int m.ended, .tup (m.ahead.map prI), finT m.fin]
def spSPic : WSp := fun ts S Q _ => match ts with
  | [.ref a] => ∃ F s m, SdA S a F s ∧ Lik s m ∧ srtd m.ahead ∧ (∀ e ∈ m.ahead, m.got ≤ e.1) ∧ (∀ k, (s.seen k).isSome = true → 0 ≤ k ∧ k < 4000) ∧ ∀ S', Gr S S' → Q m.picL S'
  | _ => False
theorem hw_spic {C : Addr} : ∀ ts S Q E, ts.length = 1 → spSPic ts S Q E → b__law_picture C { nx := fun _ S' => Q .non S', rt := Q } (Wp.startT N__law_picture ts) S := by
  intro ts S Q E _ h
  match ts, h with
  | [.ref a], ⟨F, s, m, ⟨lo, ls, hF, n1, n2, n3, e1, e2, ks, e3, nd, sn⟩, lk, hs, hg, hk, h⟩ =>
    unfold b__law_picture N__law_picture
    walk_at "r0"
    rw [e1]
    walk_at "r0"
    rw [e2]
    walk_at "r0"
    have cut : cutT (List.map T.int s.out) (some s.base) none = m.pend.map T.int := by
      have z := cutT_from (s.out.map T.int) m.base.toNat
      rw [Int.toNat_of_nonneg lk.u.b0] at z
      rw [← lk.base, z, ← List.map_drop, lk.u.p]
    rw [cut]
    intro p hp
    have g1 : Gr S (upS S p (.lst (m.pend.map T.int))) := gr_new hp
    have f1 := g1 _ _ e1
    have f3 := g1 _ _ e3
    have fp : upS S p (.lst (m.pend.map T.int)) p = some (.lst (m.pend.map T.int)) := upS_same
    generalize upS S p (.lst (m.pend.map T.int)) = S1 at g1 f1 f3 fp ⊢
    rw [fp]
    walk_at "r0"
    rw [f1]
    walk_at "r0"
    rw [f3]
    walk_at "r0"
    have keys : (ks.map entI).map (·.1) = (ks.map (·.1)).map Sum.inl := by rw [List.map_map, List.map_map]; rfl
    refine ⟨_, ks.map (·.1), rfl, keys, fun ys q pm st hq => ⟨_, upS_same, fun D hD => ?_⟩⟩
    have g2 := g1.trans (gr_new (o := .lst (ys.map T.int)) hq)
    have f1 := g2 _ _ e1
    have f3 := g2 _ _ e3
    have hqq : upS S1 q (.lst (ys.map T.int)) q = some (.lst (ys.map T.int)) := upS_same
    generalize upS S1 q (.lst (ys.map T.int)) = S2 at g2 f1 f3 hqq hD ⊢
    have D1 : ∀ {x : Addr} {o : O}, S2 x = some o → x ≠ D := fun e z => by rw [z, hD] at e; cases e
    have inv : ∀ {x : Addr} {o : O} (acc : List T), S2 x = some o → upS S2 D (.lst acc) x = some o := fun acc e => by rw [upS_ne (D1 e)]; exact e
    have ysl : ∀ k, k ∈ ys ↔ (s.seen k).isSome = true := fun k => by
      rw [pm.mem_iff, List.mem_map]
      constructor
      · rintro ⟨e, he, rfl⟩
        rw [(sn e.1 e.2).mpr he]
        rfl
      · intro z
        obtain ⟨v, hv⟩ := Option.isSome_iff_exists.mp z
        exact ⟨(k, v), (sn k v).mp hv, rfl⟩
    have st2 : ys.Pairwise (· < ·) := by
      have nd2 : ys.Nodup := pm.nodup_iff.mpr nd
      exact (st.and nd2).imp fun ⟨a, b⟩ => by omega
    have yl : ys.length ≤ 900000 := by
      have z := srtd_len (l := ys.map fun k => (k, (0 : Int))) (lo := 0) (hi := 4000) (by unfold srtd; rw [List.pairwise_map]; exact st2) fun e he => by
        obtain ⟨k, hk', rfl⟩ := List.mem_map.mp he
        exact hk k ((ysl k).mp hk')
      rw [List.length_map] at z
      omega
    refine compW_sel (S := S2) (selF s) (selC s) (fun acc => inv acc hqq) (ys.map T.int) [] (fun x hx acc R r => ?_) (fun x hx cx acc R r => ?_) (by rw [List.length_map, List.length_nil]; omega) ?_
    · obtain ⟨k, hk, rfl⟩ := List.mem_map.mp hx
      have f1 := inv acc f1
      generalize upS S2 D (.lst acc) = S3 at r f1 ⊢
      unfold l1__law_picture
      walk_at "r0"
      rw [f1]
      walk_at "r0"
      exact r
    · obtain ⟨k, hk, rfl⟩ := List.mem_map.mp hx
      have f3 := inv acc f3
      obtain ⟨v, hv⟩ := Option.isSome_iff_exists.mp ((ysl k).mp hk)
      have lv : valT (ks.map entI) (.inl k) = some (.int v) := ent_val nd ((sn k v).mp hv)
      have r : R (T.tup [.int k, .int v]) (upS S2 D (.lst acc)) := by
        have : selF s (.int k) = T.tup [.int k, .int v] := by show prI (k, (s.seen k).getD 0) = _; rw [hv]; rfl
        rw [← this]; exact r
      generalize upS S2 D (.lst acc) = S3 at r f3 ⊢
      unfold l2__law_picture
      walk_at "r0"
      rw [f3]
      walk_at "r0"
      exact ⟨_, lv, r⟩
    · have sel : ((ys.map T.int).filter (selC s)).map (selF s) = m.ahead.map prI := by
        rw [← lk.kept hs hg st2 ysl, List.filter_map, List.map_map, List.map_map]
        rfl
      rw [List.nil_append, sel]
      have f1 := inv (m.ahead.map prI) f1
      have hDD : upS S2 D (.lst (m.ahead.map prI)) D = some (.lst (m.ahead.map prI)) := upS_same
      have g3 := g2.trans (gr_new (o := .lst (m.ahead.map prI)) hD)
      generalize upS S2 D (.lst (m.ahead.map prI)) = S3 at f1 hDD g3 ⊢
      refine ⟨m.ahead.map prI, by show (match S3 D with | some (.lst ts) => some ts | x => none) = _; rw [hDD], ?_⟩
      walk_at "r0"
      rw [f1]
      walk_at "r0"
      try rw [f1]
      try walk_at "r0"
      have z := h S3 g3
      unfold EM.picL at z
      rw [lk.base, lk.closed, lk.given, lk.got, lk.ended, lk.fin] at z
      exact z
end My

set_option Elab.async false
set_option linter.all false
set_option maxRecDepth 100000
set_option maxHeartbeats 8000000
namespace My
open PySem PySem.Spec PyProof.Rows L2 Wp Gn
local macro_rules | `(tactic| walk_at "go") => `(tactic| (with_reducible refine goS_i ?_))
local macro_rules | `(tactic| walk_at "wp") => `(tactic| simp (disch := omega) only [Wp.wSeq, Wp.wNext, Wp.wSet, Wp.wVar, Wp.wC, Wp.wOp, Wp.wRet, Wp.wIfS, Wp.wTest, Wp.wCall, Wp.wCons, Wp.wNil, Wp.wTup, Wp.wLst, Wp.wAsg, Wp.gTp, Wp.gC, Wp.gNm, Wp.gN0, Wp.gIx, Wp.rSet, Wp.rAdd, Wp.rMul, Wp.rMod, Wp.rSub, Wp.rFdiv, Wp.rPow, Wp.rInt, Wp.rIx, Wp.rLt, Wp.rLe, Wp.rCmp, Wp.rGeI, Wp.rGtI, Wp.wCB, Wp.rLen, Wp.rLen1, Wp.rInt1, Wp.rMax2, Wp.rMin2, Wp.rTupOf, Wp.rListOf,
  Wp.wIsi, Wp.rBIs, Wp.rIsN, Wp.isNon, Wp.wMt, Wp.rAppendT, Wp.rExtendT, Wp.rReverseT, Wp.wNot, Wp.wOr, Wp.wAnd, Wp.wAndV, Wp.wOrV, Wp.wNotV, Wp.wFor, Wp.iRg1, Wp.iRg2, Wp.iAnyW, Wp.wAll, Wp.wChain, Wp.wSl, Wp.wNoPart, Wp.wPart, Wp.rSl, Wp.wNeg, Wp.rNeg, Wp.wLc, Wp.wYes, Wp.wDrop, Wp.wipeT, Wp.wAug, List.map, List.set_cons_zero, List.set_cons_succ, List.getElem?_cons_zero, List.getElem?_cons_succ, List.length_cons, List.length_nil, List.cons_append, List.nil_append, List.replicate, Wp.startT,
  true_and, and_true, Wp.wif_true, Wp.wif_false, Wp.ex_some, Wp.ex_some1, Wp.ex_eq, Wp.ex_lst, Wp.ex_lst0, Wp.rEq_int, Bool.false_bne, Bool.true_bne, Int.reduceLT, Int.reduceLE, Int.reduceAdd, Nat.reduceAdd, Nat.reduceSub, eq_self, ite_true, ite_false, beq_self_eq_true, Bool.not_true, Bool.not_false, Wp.isB_0, Wp.isB_1, Wp.isB_2, Wp.isB_3, Wp.isB_4, Wp.isB_5, Wp.isB_6, Wp.isB_7, Wp.isB_8, Wp.isB_9, Wp.isB_10, Wp.isB_11, Wp.isB_12, Wp.isB_13, Wp.isB_14, Wp.isB_15, Wp.isB_16, Wp.isB_17, Wp.isB_18, Wp.isB_19, Wp.isB_20, Wp.isB_21, Wp.isB_22, Wp.isB_23, Wp.isB_24, Wp.isB_25, Wp.isB_26, Wp.isB_27, Wp.isB_28, Wp.isB_29, Wp.isB_30, Wp.isB_31, Wp.isB_32, Wp.isB_33, Wp.isB_34, Wp.isB_35, Wp.cmul_l, Wp.cmul_r, Wp.cpow_lit, Wp.size_le, Wp.size_lt, Wp.atI_0, Wp.atI_1, Wp.atI_2, Wp.atI_3, Wp.atI_4, Wp.atI_5, Wp.atI_6, Wp.ixN_0, Wp.ixN_1, Wp.ixN_2, Wp.itemsT, Wp.tyT, reduceIte, Wp.wFld, Wp.wFSet, Wp.wFAug, Wp.wMeth, Wp.wMake, Wp.rIxA, Wp.rInA, Wp.rSetA, Wp.ixA, Wp.inA, Wp.setA, Wp.lenA, Wp.getD, Option.map_some, Option.bind_some, Option.getD_some,  Wp.gIxA, Wp.wDNew, Wp.wDNewT, Wp.rLenA, Wp.rSortD, Wp.rMaxL, Wp.rPopL, Wp.rGet1, Wp.rGet2, Wp.wGet1, Wp.wGet2, Wp.wPop1, Wp.wPop2, Wp.wDel, Wp.isDT, Wp.keyT, Wp.keysT, Wp.keysL, Wp.ex_ins, Wp.ex_dct, Wp.wSrtIt, Wp.iRg3, Wp.rAddI, Wp.wIf, Wp.rExtT, Wp.wTestI, Wp.rGt, Wp.rMulA, Int.cast_ofNat_Int, Int.reduceBEq, lk_End__base, pt_End__base, lk_End__pending, pt_End__pending, lk_End__closed, pt_End__closed, lk_End__given, pt_End__given, lk_End__got, pt_End__got, lk_End__ended, pt_End__ended, lk_End__ahead, pt_End__ahead, lk_End__end, pt_End__end, no_End__keep, no_End__learn, no_End__take_in_order, no_End_close, no_End_due, no_End_has_end, no_End_is_given, no_End_picture, no_End_take, no_End_taken, no_End_write, ln_End, mk_End, Wp.rSortDA, Wp.wDisp, Wp.wPCons, Wp.wPNil, ix_out, ix_closed, ix_base, ix_given, ix_seen, ix_got, ix_ended, ix_end, st_closed, st_base, st_given, st_got, st_ended, st_end, sdL_len, Wp.upS, Wp.upS_upS, *])
local macro_rules | `(tactic| walk_at "run") => `(tactic| repeat (first | walk_at "wp" | walk_at "go"))
local macro_rules | `(tactic| walk_at "wq") => `(tactic| simp (disch := omega) only [Wp.wSeq, Wp.wNext, Wp.wSet, Wp.wVar, Wp.wC, Wp.wOp, Wp.wRet, Wp.wIfS, Wp.wTest, Wp.wCall, Wp.wCons, Wp.wNil, Wp.wTup, Wp.wLst, Wp.wAsg, Wp.gTp, Wp.gC, Wp.gNm, Wp.gN0, Wp.gIx, Wp.rSet, Wp.rAdd, Wp.rMul, Wp.rMod, Wp.rSub, Wp.rFdiv, Wp.rPow, Wp.rInt, Wp.rIx, Wp.rLt, Wp.rLe, Wp.rCmp, Wp.rGeI, Wp.rGtI, Wp.wCB, Wp.rLen, Wp.rLen1, Wp.rInt1, Wp.rMax2, Wp.rMin2, Wp.rTupOf, Wp.rListOf,
  Wp.wIsi, Wp.rBIs, Wp.rIsN, Wp.isNon, Wp.wMt, Wp.rAppendT, Wp.rExtendT, Wp.rReverseT, Wp.wNot, Wp.wOr, Wp.wAnd, Wp.wAndV, Wp.wOrV, Wp.wNotV, Wp.wFor, Wp.iRg1, Wp.iRg2, Wp.iAnyW, Wp.wAll, Wp.wChain, Wp.wSl, Wp.wNoPart, Wp.wPart, Wp.rSl, Wp.wNeg, Wp.rNeg, Wp.wLc, Wp.wYes, Wp.wDrop, Wp.wipeT, Wp.wAug, List.map, List.set_cons_zero, List.set_cons_succ, List.getElem?_cons_zero, List.getElem?_cons_succ, List.length_cons, List.length_nil, List.cons_append, List.nil_append, List.replicate, Wp.startT,
  true_and, and_true, Wp.wif_true, Wp.wif_false, Wp.ex_some, Wp.ex_some1, Wp.ex_eq, Wp.ex_lst, Wp.ex_lst0, Wp.rEq_int, Bool.false_bne, Bool.true_bne, Int.reduceLT, Int.reduceLE, Int.reduceAdd, Nat.reduceAdd, Nat.reduceSub, eq_self, ite_true, ite_false, beq_self_eq_true, Bool.not_true, Bool.not_false, Wp.isB_0, Wp.isB_1, Wp.isB_2, Wp.isB_3, Wp.isB_4, Wp.isB_5, Wp.isB_6, Wp.isB_7, Wp.isB_8, Wp.isB_9, Wp.isB_10, Wp.isB_11, Wp.isB_12, Wp.isB_13, Wp.isB_14, Wp.isB_15, Wp.isB_16, Wp.isB_17, Wp.isB_18, Wp.isB_19, Wp.isB_20, Wp.isB_21, Wp.isB_22, Wp.isB_23, Wp.isB_24, Wp.isB_25, Wp.isB_26, Wp.isB_27, Wp.isB_28, Wp.isB_29, Wp.isB_30, Wp.isB_31, Wp.isB_32, Wp.isB_33, Wp.isB_34, Wp.isB_35, Wp.cmul_l, Wp.cmul_r, Wp.cpow_lit, Wp.size_le, Wp.size_lt, Wp.atI_0, Wp.atI_1, Wp.atI_2, Wp.atI_3, Wp.atI_4, Wp.atI_5, Wp.atI_6, Wp.ixN_0, Wp.ixN_1, Wp.ixN_2, Wp.itemsT, Wp.tyT, reduceIte, Wp.wFld, Wp.wFSet, Wp.wFAug, Wp.wMeth, Wp.wMake, Wp.rIxA, Wp.rInA, Wp.rSetA, Wp.ixA, Wp.inA, Wp.setA, Wp.lenA, Wp.getD, Option.map_some, Option.bind_some, Option.getD_some,  Wp.gIxA, Wp.wDNew, Wp.wDNewT, Wp.rLenA, Wp.rSortD, Wp.rMaxL, Wp.rPopL, Wp.rGet1, Wp.rGet2, Wp.wGet1, Wp.wGet2, Wp.wPop1, Wp.wPop2, Wp.wDel, Wp.isDT, Wp.keyT, Wp.keysT, Wp.keysL, Wp.ex_ins, Wp.ex_dct, Wp.wSrtIt, Wp.iRg3, Wp.rAddI, Wp.wIf, Wp.rExtT, Wp.wTestI, Wp.rGt, Wp.rMulA, Int.cast_ofNat_Int, Int.reduceBEq, lk_End__base, pt_End__base, lk_End__pending, pt_End__pending, lk_End__closed, pt_End__closed, lk_End__given, pt_End__given, lk_End__got, pt_End__got, lk_End__ended, pt_End__ended, lk_End__ahead, pt_End__ahead, lk_End__end, pt_End__end, no_End__keep, no_End__learn, no_End__take_in_order, no_End_close, no_End_due, no_End_has_end, no_End_is_given, no_End_picture, no_End_take, no_End_taken, no_End_write, ln_End, mk_End, Wp.rSortDA, Wp.wDisp, Wp.wPCons, Wp.wPNil, ix_out, ix_closed, ix_base, ix_given, ix_seen, ix_got, ix_ended, ix_end, st_closed, st_base, st_given, st_got, st_ended, st_end, sdL_len, *])
local macro_rules | `(tactic| walk_at "r2") => `(tactic| repeat (first | walk_at "wq" | walk_at "go"))
local macro_rules | `(tactic| walk_at "w0") => `(tactic| simp (disch := omega) only [Wp.wSeq, Wp.wNext, Wp.wSet, Wp.wVar, Wp.wC, Wp.wOp, Wp.wRet, Wp.wIfS, Wp.wTest, Wp.wCall, Wp.wCons, Wp.wNil, Wp.wTup, Wp.wLst, Wp.wAsg, Wp.gTp, Wp.gC, Wp.gNm, Wp.gN0, Wp.gIx, Wp.rSet, Wp.rAdd, Wp.rMul, Wp.rMod, Wp.rSub, Wp.rFdiv, Wp.rPow, Wp.rInt, Wp.rIx, Wp.rLt, Wp.rLe, Wp.rCmp, Wp.rGeI, Wp.rGtI, Wp.wCB, Wp.rLen, Wp.rLen1, Wp.rInt1, Wp.rMax2, Wp.rMin2, Wp.rTupOf, Wp.rListOf,
  Wp.wIsi, Wp.rBIs, Wp.rIsN, Wp.isNon, Wp.wMt, Wp.rAppendT, Wp.rExtendT, Wp.rReverseT, Wp.wNot, Wp.wOr, Wp.wAnd, Wp.wAndV, Wp.wOrV, Wp.wNotV, Wp.wFor, Wp.iRg1, Wp.iRg2, Wp.iAnyW, Wp.wAll, Wp.wChain, Wp.wSl, Wp.wNoPart, Wp.wPart, Wp.rSl, Wp.wNeg, Wp.rNeg, Wp.wLc, Wp.wYes, Wp.wDrop, Wp.wipeT, Wp.wAug, List.map, List.set_cons_zero, List.set_cons_succ, List.getElem?_cons_zero, List.getElem?_cons_succ, List.length_cons, List.length_nil, List.cons_append, List.nil_append, List.replicate, Wp.startT,
  true_and, and_true, Wp.wif_true, Wp.wif_false, Wp.ex_some, Wp.ex_some1, Wp.ex_eq, Wp.ex_lst, Wp.ex_lst0, Wp.rEq_int, Bool.false_bne, Bool.true_bne, Int.reduceLT, Int.reduceLE, Int.reduceAdd, Nat.reduceAdd, Nat.reduceSub, eq_self, ite_true, ite_false, beq_self_eq_true, Bool.not_true, Bool.not_false, Wp.isB_0, Wp.isB_1, Wp.isB_2, Wp.isB_3, Wp.isB_4, Wp.isB_5, Wp.isB_6, Wp.isB_7, Wp.isB_8, Wp.isB_9, Wp.isB_10, Wp.isB_11, Wp.isB_12, Wp.isB_13, Wp.isB_14, Wp.isB_15, Wp.isB_16, Wp.isB_17, Wp.isB_18, Wp.isB_19, Wp.isB_20, Wp.isB_21, Wp.isB_22, Wp.isB_23, Wp.isB_24, Wp.isB_25, Wp.isB_26, Wp.isB_27, Wp.isB_28, Wp.isB_29, Wp.isB_30, Wp.isB_31, Wp.isB_32, Wp.isB_33, Wp.isB_34, Wp.isB_35, Wp.cmul_l, Wp.cmul_r, Wp.cpow_lit, Wp.size_le, Wp.size_lt, Wp.atI_0, Wp.atI_1, Wp.atI_2, Wp.atI_3, Wp.atI_4, Wp.atI_5, Wp.atI_6, Wp.ixN_0, Wp.ixN_1, Wp.ixN_2, Wp.itemsT, Wp.tyT, reduceIte, Wp.wFld, Wp.wFSet, Wp.wFAug, Wp.wMeth, Wp.wMake, Wp.rIxA, Wp.rInA, Wp.rSetA, Wp.ixA, Wp.inA, Wp.setA, Wp.lenA, Wp.getD, Option.map_some, Option.bind_some, Option.getD_some,  Wp.gIxA, Wp.wDNew, Wp.wDNewT, Wp.rLenA, Wp.rSortD, Wp.rMaxL, Wp.rPopL, Wp.rGet1, Wp.rGet2, Wp.wGet1, Wp.wGet2, Wp.wPop1, Wp.wPop2, Wp.wDel, Wp.isDT, Wp.keyT, Wp.keysT, Wp.keysL, Wp.ex_ins, Wp.ex_dct, Wp.wSrtIt, Wp.iRg3, Wp.rAddI, Wp.wIf, Wp.rExtT, Wp.wTestI, Wp.rGt, Wp.rMulA, Int.cast_ofNat_Int, Int.reduceBEq, lk_End__base, pt_End__base, lk_End__pending, pt_End__pending, lk_End__closed, pt_End__closed, lk_End__given, pt_End__given, lk_End__got, pt_End__got, lk_End__ended, pt_End__ended, lk_End__ahead, pt_End__ahead, lk_End__end, pt_End__end, no_End__keep, no_End__learn, no_End__take_in_order, no_End_close, no_End_due, no_End_has_end, no_End_is_given, no_End_picture, no_End_take, no_End_taken, no_End_write, ln_End, mk_End, Wp.rSortDA, Wp.wDisp, Wp.wPCons, Wp.wPNil, ix_out, ix_closed, ix_base, ix_given, ix_seen, ix_got, ix_ended, ix_end, st_closed, st_base, st_given, st_got, st_ended, st_end, sdL_len])
local macro_rules | `(tactic| walk_at "r0") => `(tactic| repeat (first | walk_at "w0" | walk_at "go"))
/-- the bytes of a row are put at their places -/
theorem put_loop {C : Addr} {D : WEnds} {S : Sta} {ls : Addr} {f : Sn} {o : Int} {d : List Int} {v0 v1 v4 v5 v7 v8 : Option T} (hs : DicS S ls f) (hk : ∀ k, (f k).isSome = true → 0 ≤ k ∧ k < 4000) (o0 : 0 ≤ o) (o1 : o + d.length ≤ 4000)
    (done : ∀ S' w7, (∀ x, x ≠ ls → S' x = S x) → DicS S' ls (putS f o d) → D.nx [v0, v1, some (.int o), some (.tup (d.map T.int)), v4, v5, some (.ref ls), w7, v8] S') :
    loopW (gNm 7) (l1__law_take C) (fun _ => True) D (Wp.rangeT 0 d.length) [v0, v1, some (.int o), some (.tup (d.map T.int)), v4, v5, some (.ref ls), v7, v8] S := by
  refine loop_inv (fun i σ S' => ∃ w7, σ = [v0, v1, some (.int o), some (.tup (d.map T.int)), v4, v5, some (.ref ls), w7, v8] ∧ (∀ x, x ≠ ls → S' x = S x) ∧ DicS S' ls (putS f o (d.take i)) ∧ ∀ k, (putS f o (d.take i) k).isSome = true → 0 ≤ k ∧ k < 4000) ⟨v7, rfl, fun _ _ => rfl, by rw [List.take_zero]; exact hs, by rw [List.take_zero]; exact hk⟩ (fun _ _ _ _ => trivial) ?_ ?_
  · rintro i x σ S' LP hx ⟨w7, rfl, same, ⟨ks, e3, nd, sn⟩, hk'⟩ k
    unfold Wp.rangeT at hx
    rw [List.getElem?_map, Option.map_eq_some_iff] at hx
    obtain ⟨j, h1, h2⟩ := hx
    have hl := (List.getElem?_eq_some_iff.mp h1).1
    rw [List.length_range] at hl
    rw [List.getElem?_range hl] at h1
    cases h1
    rw [Int.zero_add] at h2
    subst h2
    obtain ⟨b, hb⟩ : ∃ b, d[i]? = some b := ⟨d[i], List.getElem?_eq_getElem hl⟩
    have at' : atI (d.map T.int) (i : Int) = some (.int b) := by rw [atI_lit, List.getElem?_map, hb]; rfl
    have fk : ks.length ≤ 4000 := few_keys nd fun e he => hk' e.1 (by rw [(sn e.1 e.2).mpr he]; rfl)
    unfold l1__law_take
    walk_at "r0"
    refine ⟨_, at', ?_⟩
    rw [e3]
    refine ⟨.dct ((putB ks (o + i) b).map entI), ?_, ?_⟩
    · show (if (ks.map entI).length < sizeLine then some (O.dct (putT (ks.map entI) (Sum.inl (o + (i : Int))) (.int b))) else none) = _
      rw [if_pos (by rw [List.length_map, sizeLine_eq]; omega), putB_ent]
    · have tk : putS f o (d.take (i + 1)) = fun k => if k = o + i then some b else putS f o (d.take i) k := by
        rw [List.take_succ, hb]
        show putS f o (d.take i ++ [b]) = _
        rw [putS_snoc, List.length_take, show min i d.length = i by omega]
      refine goS_i (k _ _ ⟨_, rfl, fun x hx => by rw [upS_ne hx]; exact same x hx, ⟨_, upS_same, putB_keys nd, by rw [tk]; exact dic_put sn⟩, ?_⟩)
      rw [tk]
      intro j hj
      by_cases z : j = o + i
      · omega
      · exact hk' j (by simpa only [if_neg z] using hj)
  · rintro σ S' ⟨w7, rfl, same, dic, _⟩
    rw [show (Wp.rangeT 0 d.length).length = d.length from rangeT_len, List.take_length] at dic
    exact done S' w7 same dic
/-- what is there is taken in order -/
theorem run_loop {C : Addr} {D : WEnds} {S : Sta} {a ls q lo : Addr} {f : Sn} {c b g e : Int} {fin : T} {v1 v2 v3 v4 v5 v7 : Option T} {t : Int} (nq : q ≠ a) (ns : ls ≠ a) (nz : ls ≠ q) (hs : DicS S ls f) (ha : S a = some (.dct (sdL (.ref lo) (.int c) (.int b) (.int g) (.ref ls) (.int t) (.int e) fin))) (hq : S q = some (.lst []))
    (done : ∀ S' w7, (∀ x, x ≠ a → x ≠ q → S' x = S x) → S' a = some (.dct (sdL (.ref lo) (.int c) (.int b) (.int g) (.ref ls) (.int (t + (runS f 80 t).length)) (.int e) fin)) → S' q = some (.lst ((runS f 80 t).map T.int)) → D.nx [some (.ref a), v1, v2, v3, v4, v5, some (.ref ls), w7, some (.ref q)] S') :
    loopW (gNm 7) (l2__law_take C) (fun _ => True) D (Wp.rangeT 0 80) [some (.ref a), v1, v2, v3, v4, v5, some (.ref ls), v7, some (.ref q)] S := by
  refine loop_inv (fun i σ S' => ∃ w7, σ = [some (.ref a), v1, v2, v3, v4, v5, some (.ref ls), w7, some (.ref q)] ∧ (∀ x, x ≠ a → x ≠ q → S' x = S x) ∧ S' a = some (.dct (sdL (.ref lo) (.int c) (.int b) (.int g) (.ref ls) (.int (t + (runS f i t).length)) (.int e) fin)) ∧ S' q = some (.lst ((runS f i t).map T.int))) ⟨v7, rfl, fun _ _ _ => rfl, by rw [ha]; simp [runS], hq⟩ (fun _ _ _ _ => trivial) ?_ ?_
  · rintro i x σ S' LP hx ⟨w7, rfl, same, ea, eq⟩ k
    obtain ⟨ks, e3, nd, sn⟩ := hs
    have e3 := (same ls ns nz).trans e3
    unfold l2__law_take
    walk_at "r0"
    rw [ea]
    walk_at "r0"
    rw [e3]
    refine ⟨_, rfl, ?_⟩
    have dv := dic_val nd sn (t + ((runS f i t).length : Int))
    have rs := runS_step i f t
    have rl := runS_len i f t
    have hi : i < 80 := by
      have := (List.getElem?_eq_some_iff.mp hx).1
      rwa [show (Wp.rangeT 0 80).length = 80 from rangeT_len] at this
    rw [dv]
    cases ef : f (t + ((runS f i t).length : Int)) with
    | none =>
      rw [ef] at rs
      have rs : runS f (i + 1) t = runS f i t := by rw [rs]; exact List.append_nil _
      refine wif_f (goS_i (k _ _ ⟨_, rfl, same, by rw [rs]; exact ea, by rw [rs]; exact eq⟩))
    | some v =>
      rw [ef] at rs
      have rs : runS f (i + 1) t = runS f i t ++ [v] := rs
      refine wif_t ⟨⟨_, eq⟩, .int v, by show valT (ks.map entI) _ = _; rw [dv, ef]; rfl, _, eq, by rw [List.length_map, sizeLine_eq]; omega, ?_⟩
      have ea2 : upS S' q (.lst ((runS f i t).map T.int ++ [.int v])) a = _ := (upS_ne nq.symm).trans ea
      have eq2 : upS S' q (.lst ((runS f i t).map T.int ++ [.int v])) q = some (.lst ((runS f i t).map T.int ++ [.int v])) := upS_same
      have same2 : ∀ x, x ≠ a → x ≠ q → upS S' q (.lst ((runS f i t).map T.int ++ [.int v])) x = S x := fun x h1 h2 => by rw [upS_ne h2]; exact same x h1 h2
      generalize upS S' q (.lst ((runS f i t).map T.int ++ [.int v])) = S2 at ea2 eq2 same2 ⊢
      walk_at "r0"
      rw [ea2]
      walk_at "r0"
      refine k _ _ ⟨_, rfl, fun x h1 h2 => by rw [upS_ne h1]; exact same2 x h1 h2, ?_, ?_⟩
      · rw [upS_same, rs, List.length_append, List.length_singleton, show t + (((runS f i t).length + 1 : Nat) : Int) = t + ((runS f i t).length : Int) + 1 by omega]
      · rw [upS_ne nq, eq2, rs, List.map_append]
        rfl
  · rintro σ S' ⟨w7, rfl, same, ea, eq⟩
    rw [show (Wp.rangeT 0 80).length = 80 from rangeT_len] at ea eq
    exact done S' w7 same ea eq
def spSTake : WSp := fun ts S Q _ => match ts with
  | [.ref a, t] => ∃ F s x, SdA S a F s ∧ t = Seg.tr x ∧ x.d.length ≤ 8 ∧ s.out.length ≤ 4000 ∧ 0 ≤ x.o ∧ x.o + x.d.length ≤ 4000 ∧ (∀ k, (s.seen k).isSome = true → 0 ≤ k ∧ k < 4000) ∧ ∀ S', Frm S S' F F → SdA S' a F (s.take x) → Q (.tup ((s.run x).map T.int)) S'
  | _ => False
/-- the rest behind the first test -/
def tkB (C : Addr) : WS := (wSeq (wAsg (wCB rMax2 (wCons (wOp rIxA (wVar 0) (wC (.str "base"))) (wCons (wCB rMin2 (wCons (wVar 5) (wCons (wCB rLenA (wCons (wOp rIxA (wVar 0) (wC (.str "out"))) wNil)) wNil))) wNil))) (gIxA (wVar 0) (wC (.str "base"))))
    (wSeq (wFor (iRg1 (wCons (wCB rLenA (wCons (wVar 3) wNil)) wNil)) (gNm 7) (l1__law_take C))
    (wSeq (wIfS (wTest (wOp (rEq false) (wVar 4) (wC (.int 1)))) (wAsg (wOp rAdd (wVar 2) (wCB rLenA (wCons (wVar 3) wNil))) (gIxA (wVar 0) (wC (.str "end")))) wNext)
    (wSeq (wSet 8 (wLst wNil))
    (wSeq (wFor (iRg1 (wCons (wC (.int 80)) wNil)) (gNm 7) (l2__law_take C))
    (wSeq (wIfS (wTest (wOp (rEq false) (wOp rIxA (wVar 0) (wC (.str "got"))) (wOp rIxA (wVar 0) (wC (.str "end"))))) (wAsg (wC (.int 1)) (gIxA (wVar 0) (wC (.str "ended")))) wNext)
    (wRet (wCB rTupOf (wCons (wVar 8) wNil)))))))))
end My

set_option Elab.async false
set_option linter.all false
set_option maxRecDepth 100000
set_option maxHeartbeats 8000000
namespace My
open PySem PySem.Spec PyProof.Rows L2 Wp Gn
local macro_rules | `(tactic| walk_at "go") => `(tactic| (with_reducible refine goS_i ?_))
local macro_rules | `(tactic| walk_at "wp") => `(tactic| simp (disch := omega) only [Wp.wSeq, Wp.wNext, Wp.wSet, Wp.wVar, Wp.wC, Wp.wOp, Wp.wRet, Wp.wIfS, Wp.wTest, Wp.wCall, Wp.wCons, Wp.wNil, Wp.wTup, Wp.wLst, Wp.wAsg, Wp.gTp, Wp.gC, Wp.gNm, Wp.gN0, Wp.gIx, Wp.rSet, Wp.rAdd, Wp.rMul, Wp.rMod, Wp.rSub, Wp.rFdiv, Wp.rPow, Wp.rInt, Wp.rIx, Wp.rLt, Wp.rLe, Wp.rCmp, Wp.rGeI, Wp.rGtI, Wp.wCB, Wp.rLen, Wp.rLen1, Wp.rInt1, Wp.rMax2, Wp.rMin2, Wp.rTupOf, Wp.rListOf,
  Wp.wIsi, Wp.rBIs, Wp.rIsN, Wp.isNon, Wp.wMt, Wp.rAppendT, Wp.rExtendT, Wp.rReverseT, Wp.wNot, Wp.wOr, Wp.wAnd, Wp.wAndV, Wp.wOrV, Wp.wNotV, Wp.wFor, Wp.iRg1, Wp.iRg2, Wp.iAnyW, Wp.wAll, Wp.wChain, Wp.wSl, Wp.wNoPart, Wp.wPart, Wp.rSl, Wp.wNeg, Wp.rNeg, Wp.wLc, Wp.wYes, Wp.wDrop, Wp.wipeT, Wp.wAug, List.map, List.set_cons_zero, List.set_cons_succ, List.getElem?_cons_zero, List.getElem?_cons_succ, List.length_cons, List.length_nil, List.cons_append, List.nil_append, List.replicate, Wp.startT,
  true_and, and_true, Wp.wif_true, Wp.wif_false, Wp.ex_some, Wp.ex_some1, Wp.ex_eq, Wp.ex_lst, Wp.ex_lst0, Wp.rEq_int, Bool.false_bne, Bool.true_bne, Int.reduceLT, Int.reduceLE, Int.reduceAdd, Nat.reduceAdd, Nat.reduceSub, eq_self, ite_true, ite_false, beq_self_eq_true, Bool.not_true, Bool.not_false, Wp.isB_0, Wp.isB_1, Wp.isB_2, Wp.isB_3, Wp.isB_4, Wp.isB_5, Wp.isB_6, Wp.isB_7, Wp.isB_8, Wp.isB_9, Wp.isB_10, Wp.isB_11, Wp.isB_12, Wp.isB_13, Wp.isB_14, Wp.isB_15, Wp.isB_16, Wp.isB_17, Wp.isB_18, Wp.isB_19, Wp.isB_20, Wp.isB_21, Wp.isB_22, Wp.isB_23, Wp.isB_24, Wp.isB_25, Wp.isB_26, Wp.isB_27, Wp.isB_28, Wp.isB_29, Wp.isB_30, Wp.isB_31, Wp.isB_32, Wp.isB_33, Wp.isB_34, Wp.isB_35, Wp.cmul_l, Wp.cmul_r, Wp.cpow_lit, Wp.size_le, Wp.size_lt, Wp.atI_0, Wp.atI_1, Wp.atI_2, Wp.atI_3, Wp.atI_4, Wp.atI_5, Wp.atI_6, Wp.ixN_0, Wp.ixN_1, Wp.ixN_2, Wp.itemsT, Wp.tyT, reduceIte, Wp.wFld, Wp.wFSet, Wp.wFAug, Wp.wMeth, Wp.wMake, Wp.rIxA, Wp.rInA, Wp.rSetA, Wp.ixA, Wp.inA, Wp.setA, Wp.lenA, Wp.getD, Option.map_some, Option.bind_some, Option.getD_some,  Wp.gIxA, Wp.wDNew, Wp.wDNewT, Wp.rLenA, Wp.rSortD, Wp.rMaxL, Wp.rPopL, Wp.rGet1, Wp.rGet2, Wp.wGet1, Wp.wGet2, Wp.wPop1, Wp.wPop2, Wp.wDel, Wp.isDT, Wp.keyT, Wp.keysT, Wp.keysL, Wp.ex_ins, Wp.ex_dct, Wp.wSrtIt, Wp.iRg3, Wp.rAddI, Wp.wIf, Wp.rExtT, Wp.wTestI, Wp.rGt, Wp.rMulA, Int.cast_ofNat_Int, Int.reduceBEq, lk_End__base, pt_End__base, lk_End__pending, pt_End__pending, lk_End__closed, pt_End__closed, lk_End__given, pt_End__given, lk_End__got, pt_End__got, lk_End__ended, pt_End__ended, lk_End__ahead, pt_End__ahead, lk_End__end, pt_End__end, no_End__keep, no_End__learn, no_End__take_in_order, no_End_close, no_End_due, no_End_has_end, no_End_is_given, no_End_picture, no_End_take, no_End_taken, no_End_write, ln_End, mk_End, Wp.rSortDA, Wp.wDisp, Wp.wPCons, Wp.wPNil, ix_out, ix_closed, ix_base, ix_given, ix_seen, ix_got, ix_ended, ix_end, st_closed, st_base, st_given, st_got, st_ended, st_end, sdL_len, Wp.upS, Wp.upS_upS, *])
local macro_rules | `(tactic| walk_at "run") => `(tactic| repeat (first | walk_at "wp" | walk_at "go"))
local macro_rules | `(tactic| walk_at "wq") => `(tactic| simp (disch := omega) only [Wp.wSeq, Wp.wNext, Wp.wSet, Wp.wVar, Wp.wC, Wp.wOp, Wp.wRet, Wp.wIfS, Wp.wTest, Wp.wCall, Wp.wCons, Wp.wNil, Wp.wTup, Wp.wLst, Wp.wAsg, Wp.gTp, Wp.gC, Wp.gNm, Wp.gN0, Wp.gIx, Wp.rSet, Wp.rAdd, Wp.rMul, Wp.rMod, Wp.rSub, Wp.rFdiv, Wp.rPow, Wp.rInt, Wp.rIx, Wp.rLt, Wp.rLe, Wp.rCmp, Wp.rGeI, Wp.rGtI, Wp.wCB, Wp.rLen, Wp.rLen1, Wp.rInt1, Wp.rMax2, Wp.rMin2, Wp.rTupOf, Wp.rListOf,
  Wp.wIsi, Wp.rBIs, Wp.rIsN, Wp.isNon, Wp.wMt, Wp.rAppendT, Wp.rExtendT, Wp.rReverseT, Wp.wNot, Wp.wOr, Wp.wAnd, Wp.wAndV, Wp.wOrV, Wp.wNotV, Wp.wFor, Wp.iRg1, Wp.iRg2, Wp.iAnyW, Wp.wAll, Wp.wChain, Wp.wSl, Wp.wNoPart, Wp.wPart, Wp.rSl, Wp.wNeg, Wp.rNeg, Wp.wLc, Wp.wYes, Wp.wDrop, Wp.wipeT, Wp.wAug, List.map, List.set_cons_zero, List.set_cons_succ, List.getElem?_cons_zero, List.getElem?_cons_succ, List.length_cons, List.length_nil, List.cons_append, List.nil_append, List.replicate, Wp.startT,
  true_and, and_true, Wp.wif_true, Wp.wif_false, Wp.ex_some, Wp.ex_some1, Wp.ex_eq, Wp.ex_lst, Wp.ex_lst0, Wp.rEq_int, Bool.false_bne, Bool.true_bne, Int.reduceLT, Int.reduceLE, Int.reduceAdd, Nat.reduceAdd, Nat.reduceSub, eq_self, ite_true, ite_false, beq_self_eq_true, Bool.not_true, Bool.not_false, Wp.isB_0, Wp.isB_1, Wp.isB_2, Wp.isB_3, Wp.isB_4, Wp.isB_5, Wp.isB_6, Wp.isB_7, Wp.isB_8, Wp.isB_9, Wp.isB_10, Wp.isB_11, Wp.isB_12, Wp.isB_13, Wp.isB_14, Wp.isB_15, Wp.isB_16, Wp.isB_17, Wp.isB_18, Wp.isB_19, Wp.isB_20, Wp.isB_21, Wp.isB_22, Wp.isB_23, Wp.isB_24, Wp.isB_25, Wp.isB_26, Wp.isB_27, Wp.isB_28, Wp.isB_29, Wp.isB_30, Wp.isB_31, Wp.isB_32, Wp.isB_33, Wp.isB_34, Wp.isB_35, Wp.cmul_l, Wp.cmul_r, Wp.cpow_lit, Wp.size_le, Wp.size_lt, Wp.atI_0, Wp.atI_1, Wp.atI_2, Wp.atI_3, Wp.atI_4, Wp.atI_5, Wp.atI_6, Wp.ixN_0, Wp.ixN_1, Wp.ixN_2, Wp.itemsT, Wp.tyT, reduceIte, Wp.wFld, Wp.wFSet, Wp.wFAug, Wp.wMeth, Wp.wMake, Wp.rIxA, Wp.rInA, Wp.rSetA, Wp.ixA, Wp.inA, Wp.setA, Wp.lenA, Wp.getD, Option.map_some, Option.bind_some, Option.getD_some,  Wp.gIxA, Wp.wDNew, Wp.wDNewT, Wp.rLenA, Wp.rSortD, Wp.rMaxL, Wp.rPopL, Wp.rGet1, Wp.rGet2, Wp.wGet1, Wp.wGet2, Wp.wPop1, Wp.wPop2, Wp.wDel, Wp.isDT, Wp.keyT, Wp.keysT, Wp.keysL, Wp.ex_ins, Wp.ex_dct, Wp.wSrtIt, Wp.iRg3, Wp.rAddI, Wp.wIf, Wp.rExtT, Wp.wTestI, Wp.rGt, Wp.rMulA, Int.cast_ofNat_Int, Int.reduceBEq, lk_End__base, pt_End__base, lk_End__pending, pt_End__pending, lk_End__closed, pt_End__closed, lk_End__given, pt_End__given, lk_End__got, pt_End__got, lk_End__ended, pt_End__ended, lk_End__ahead, pt_End__ahead, lk_End__end, pt_End__end, no_End__keep, no_End__learn, no_End__take_in_order, no_End_close, no_End_due, no_End_has_end, no_End_is_given, no_End_picture, no_End_take, no_End_taken, no_End_write, ln_End, mk_End, Wp.rSortDA, Wp.wDisp, Wp.wPCons, Wp.wPNil, ix_out, ix_closed, ix_base, ix_given, ix_seen, ix_got, ix_ended, ix_end, st_closed, st_base, st_given, st_got, st_ended, st_end, sdL_len, *])
local macro_rules | `(tactic| walk_at "r2") => `(tactic| repeat (first | walk_at "wq" | walk_at "go"))
local macro_rules | `(tactic| walk_at "w0") => `(tactic| simp (disch := omega) only [Wp.wSeq, Wp.wNext, Wp.wSet, Wp.wVar, Wp.wC, Wp.wOp, Wp.wRet, Wp.wIfS, Wp.wTest, Wp.wCall, Wp.wCons, Wp.wNil, Wp.wTup, Wp.wLst, Wp.wAsg, Wp.gTp, Wp.gC, Wp.gNm, Wp.gN0, Wp.gIx, Wp.rSet, Wp.rAdd, Wp.rMul, Wp.rMod, Wp.rSub, Wp.rFdiv, Wp.rPow, Wp.rInt, Wp.rIx, Wp.rLt, Wp.rLe, Wp.rCmp, Wp.rGeI, Wp.rGtI, Wp.wCB, Wp.rLen, Wp.rLen1, Wp.rInt1, Wp.rMax2, Wp.rMin2, Wp.rTupOf, Wp.rListOf,
  Wp.wIsi, Wp.rBIs, Wp.rIsN, Wp.isNon, Wp.wMt, Wp.rAppendT, Wp.rExtendT, Wp.rReverseT, Wp.wNot, Wp.wOr, Wp.wAnd, Wp.wAndV, Wp.wOrV, Wp.wNotV, Wp.wFor, Wp.iRg1, Wp.iRg2, Wp.iAnyW, Wp.wAll, Wp.wChain, Wp.wSl, Wp.wNoPart, Wp.wPart, Wp.rSl, Wp.wNeg, Wp.rNeg, Wp.wLc, Wp.wYes, Wp.wDrop, Wp.wipeT, Wp.wAug, List.map, List.set_cons_zero, List.set_cons_succ, List.getElem?_cons_zero, List.getElem?_cons_succ, List.length_cons, List.length_nil, List.cons_append, List.nil_append, List.replicate, Wp.startT,
  true_and, and_true, Wp.wif_true, Wp.wif_false, Wp.ex_some, Wp.ex_some1, Wp.ex_eq, Wp.ex_lst, Wp.ex_lst0, Wp.rEq_int, Bool.false_bne, Bool.true_bne, Int.reduceLT, Int.reduceLE, Int.reduceAdd, Nat.reduceAdd, Nat.reduceSub, eq_self, ite_true, ite_false, beq_self_eq_true, Bool.not_true, Bool.not_false, Wp.isB_0, Wp.isB_1, Wp.isB_2, Wp.isB_3, Wp.isB_4, Wp.isB_5, Wp.isB_6, Wp.isB_7, Wp.isB_8, Wp.isB_9, Wp.isB_10, Wp.isB_11, Wp.isB_12, Wp.isB_13, Wp.isB_14, Wp.isB_15, Wp.isB_16, Wp.isB_17, Wp.isB_18, Wp.isB_19, Wp.isB_20, Wp.isB_21, Wp.isB_22, Wp.isB_23, Wp.isB_24, Wp.isB_25, Wp.isB_26, Wp.isB_27, Wp.isB_28, Wp.isB_29, Wp.isB_30, Wp.isB_31, Wp.isB_32, Wp.isB_33, Wp.isB_34, Wp.isB_35, Wp.cmul_l, Wp.cmul_r, Wp.cpow_lit, Wp.size_le, Wp.size_lt, Wp.atI_0, Wp.atI_1, Wp.atI_2, Wp.atI_3, Wp.atI_4, Wp.atI_5, Wp.atI_6, Wp.ixN_0, Wp.ixN_1, Wp.ixN_2, Wp.itemsT, Wp.tyT, reduceIte, Wp.wFld, Wp.wFSet, Wp.wFAug, Wp.wMeth, Wp.wMake, Wp.rIxA, Wp.rInA, Wp.rSetA, Wp.ixA, Wp.inA, Wp.setA, Wp.lenA, Wp.getD, Option.map_some, Option.bind_some, Option.getD_some,  Wp.gIxA, Wp.wDNew, Wp.wDNewT, Wp.rLenA, Wp.rSortD, Wp.rMaxL, Wp.rPopL, Wp.rGet1, Wp.rGet2, Wp.wGet1, Wp.wGet2, Wp.wPop1, Wp.wPop2, Wp.wDel, Wp.isDT, Wp.keyT, Wp.keysT, Wp.keysL, Wp.ex_ins, Wp.ex_dct, Wp.wSrtIt, Wp.iRg3, Wp.rAddI, Wp.wIf, Wp.rExtT, Wp.wTestI, Wp.rGt, Wp.rMulA, Int.cast_ofNat_Int, Int.reduceBEq, lk_End__base, pt_End__base, lk_End__pending, pt_End__pending, lk_End__closed, pt_End__closed, lk_End__given, pt_End__given, lk_End__got, pt_End__got, lk_End__ended, pt_End__ended, lk_End__ahead, pt_End__ahead, lk_End__end, pt_End__end, no_End__keep, no_End__learn, no_End__take_in_order, no_End_close, no_End_due, no_End_has_end, no_End_is_given, no_End_picture, no_End_take, no_End_taken, no_End_write, ln_End, mk_End, Wp.rSortDA, Wp.wDisp, Wp.wPCons, Wp.wPNil, ix_out, ix_closed, ix_base, ix_given, ix_seen, ix_got, ix_ended, ix_end, st_closed, st_base, st_given, st_got, st_ended, st_end, sdL_len])
local macro_rules | `(tactic| walk_at "r0") => `(tactic| repeat (first | walk_at "w0" | walk_at "go"))
theorem rEq_fin2 {g : Int} {f : Option Int} {S : Sta} {Q : T → Sta → Prop} (h : Q (.bl (decide (f = some g))) S) : rEq false (.int g) (finT f) S Q := by
  cases f with
  | none => exact ⟨.int g, rfl, .none, rfl, rfl, rfl, h⟩
  | some k =>
    show rEq false (.int g) (.int k) S Q
    rw [Wp.rEq_int]
    rw [show decide (some k = some g) = (g == k) by
      by_cases e : k = g
      · simp [e]
      · rw [decide_eq_false (by simpa using e), (beq_eq_false_iff_ne).mpr (fun z => e z.symm)]] at h
    rw [Bool.false_bne]
    exact h
/-- the rest behind the second test -/
def tkC (C : Addr) : WS := (wSeq (wSet 8 (wLst wNil))
    (wSeq (wFor (iRg1 (wCons (wC (.int 80)) wNil)) (gNm 7) (l2__law_take C))
    (wSeq (wIfS (wTest (wOp (rEq false) (wOp rIxA (wVar 0) (wC (.str "got"))) (wOp rIxA (wVar 0) (wC (.str "end"))))) (wAsg (wC (.int 1)) (gIxA (wVar 0) (wC (.str "ended")))) wNext)
    (wRet (wCB rTupOf (wCons (wVar 8) wNil))))))
theorem tkC_ok {C : Addr} {S : Sta} {E : WEnds} {a lo ls : Addr} {f : Sn} {c b g t e : Int} {fn : Option Int} {v1 v2 v3 v4 v5 v7 v8 : Option T} (n2 : a ≠ ls) (ha : S a = some (.dct (sdL (.ref lo) (.int c) (.int b) (.int g) (.ref ls) (.int t) (.int e) (finT fn)))) (dic : DicS S ls f)
    (done : ∀ S', (∀ y o, S y = some o → y ≠ a → S' y = some o) → S' a = some (.dct (sdL (.ref lo) (.int c) (.int b) (.int g) (.ref ls) (.int (t + (runS f 80 t).length)) (.int (if fn = some (t + (runS f 80 t).length) then 1 else e)) (finT fn))) → E.rt (.tup ((runS f 80 t).map T.int)) S') :
    goS (tkC C E) [some (.ref a), v1, v2, v3, v4, v5, some (.ref ls), v7, v8] S := by
  unfold tkC
  walk_at "r0"
  intro q hq
  refine ⟨by omega, by omega, ?_⟩
  have nq : q ≠ a := fun z => by rw [z, ha] at hq; cases hq
  have nz : ls ≠ q := fun z => by obtain ⟨ks, e3, _⟩ := dic; rw [z, hq] at e3; cases e3
  obtain ⟨ks, e3, nd, sn⟩ := dic
  refine run_loop nq n2.symm nz ⟨ks, (upS_ne nz).trans e3, nd, sn⟩ ((upS_ne nq.symm).trans ha) upS_same fun S2 w7 same ea eq => ?_
  have old : ∀ y o, S y = some o → y ≠ a → S2 y = some o := fun y o ey ny => by
    have yq : y ≠ q := fun z => by rw [z, hq] at ey; cases ey
    rw [same y ny yq, upS_ne yq]; exact ey
  walk_at "r0"
  rw [ea]
  walk_at "r0"
  refine rEq_fin2 ?_
  have hqf : ∀ {S' : Sta}, S' q = some (.lst ((runS f 80 t).map T.int)) → (∀ y o, S y = some o → y ≠ a → S' y = some o) → S' a = some (.dct (sdL (.ref lo) (.int c) (.int b) (.int g) (.ref ls) (.int (t + (runS f 80 t).length)) (.int (if fn = some (t + (runS f 80 t).length) then 1 else e)) (finT fn))) → goS (wRet (wCB rTupOf (wCons (wVar 8) wNil)) E) [some (.ref a), v1, v2, v3, v4, v5, some (.ref ls), w7, some (.ref q)] S' := fun {S'} h1 h2 h3 => by
    have h := done S' h2 h3
    walk_at "r0"
    refine ⟨_, by rw [h1], ?_⟩
    exact h
  by_cases w : fn = some (t + ((runS f 80 t).length : Int))
  · rw [decide_eq_true w]
    refine wif_t ?_
    rw [if_pos w] at hqf
    walk_at "r0"
    rw [ea]
    refine ⟨_, if_pos (by rw [sdL_len, sizeLine_eq]; decide), ?_⟩
    rw [st_ended]
    exact hqf ((upS_ne nq).trans eq) (fun y o ey ny => by rw [upS_ne ny]; exact old y o ey ny) upS_same
  · rw [decide_eq_false w]
    refine wif_f (hqf eq old ?_)
    rw [ea, if_neg w]
end My

set_option Elab.async false
set_option linter.all false
set_option maxRecDepth 100000
set_option maxHeartbeats 8000000
namespace My
open PySem PySem.Spec PyProof.Rows L2 Wp Gn
local macro_rules | `(tactic| walk_at "go") => `(tactic| (with_reducible refine goS_i ?_))
local macro_rules | `(tactic| walk_at "wp") => `(tactic| simp (disch := omega) only [Wp.wSeq, Wp.wNext, Wp.wSet, Wp.wVar, Wp.wC, Wp.wOp, Wp.wRet, Wp.wIfS, Wp.wTest, Wp.wCall, Wp.wCons, Wp.wNil, Wp.wTup, Wp.wLst, Wp.wAsg, Wp.gTp, Wp.gC, Wp.gNm, Wp.gN0, Wp.gIx, Wp.rSet, Wp.rAdd, Wp.rMul, Wp.rMod, Wp.rSub, Wp.rFdiv, Wp.rPow, Wp.rInt, Wp.rIx, Wp.rLt, Wp.rLe, Wp.rCmp, Wp.rGeI, Wp.rGtI, Wp.wCB, Wp.rLen, Wp.rLen1, Wp.rInt1, Wp.rMax2, Wp.rMin2, Wp.rTupOf, Wp.rListOf,
  Wp.wIsi, Wp.rBIs, Wp.rIsN, Wp.isNon, Wp.wMt, Wp.rAppendT, Wp.rExtendT, Wp.rReverseT, Wp.wNot, Wp.wOr, Wp.wAnd, Wp.wAndV, Wp.wOrV, Wp.wNotV, Wp.wFor, Wp.iRg1, Wp.iRg2, Wp.iAnyW, Wp.wAll, Wp.wChain, Wp.wSl, Wp.wNoPart, Wp.wPart, Wp.rSl, Wp.wNeg, Wp.rNeg, Wp.wLc, Wp.wYes, Wp.wDrop, Wp.wipeT, Wp.wAug, List.map, List.set_cons_zero, List.set_cons_succ, List.getElem?_cons_zero, List.getElem?_cons_succ, List.length_cons, List.length_nil, List.cons_append, List.nil_append, List.replicate, Wp.startT,
  true_and, and_true, Wp.wif_true, Wp.wif_false, Wp.ex_some, Wp.ex_some1, Wp.ex_eq, Wp.ex_lst, Wp.ex_lst0, Wp.rEq_int, Bool.false_bne, Bool.true_bne, Int.reduceLT, Int.reduceLE, Int.reduceAdd, Nat.reduceAdd, Nat.reduceSub, eq_self, ite_true, ite_false, beq_self_eq_true, Bool.not_true, Bool.not_false, Wp.isB_0, Wp.isB_1, Wp.isB_2, Wp.isB_3, Wp.isB_4, Wp.isB_5, Wp.isB_6, Wp.isB_7, Wp.isB_8, Wp.isB_9, Wp.isB_10, Wp.isB_11, Wp.isB_12, Wp.isB_13, Wp.isB_14, Wp.isB_15, Wp.isB_16, Wp.isB_17, Wp.isB_18, Wp.isB_19, Wp.isB_20, Wp.isB_21, Wp.isB_22, Wp.isB_23, Wp.isB_24, Wp.isB_25, Wp.isB_26, Wp.isB_27, Wp.isB_28, Wp.isB_29, Wp.isB_30, Wp.isB_31, Wp.isB_32, Wp.isB_33, Wp.isB_34, Wp.isB_35, Wp.cmul_l, Wp.cmul_r, Wp.cpow_lit, Wp.size_le, Wp.size_lt, Wp.atI_0, Wp.atI_1, Wp.atI_2, Wp.atI_3, Wp.atI_4, Wp.atI_5, Wp.atI_6, Wp.ixN_0, Wp.ixN_1, Wp.ixN_2, Wp.itemsT, Wp.tyT, reduceIte, Wp.wFld, Wp.wFSet, Wp.wFAug, Wp.wMeth, Wp.wMake, Wp.rIxA, Wp.rInA, Wp.rSetA, Wp.ixA, Wp.inA, Wp.setA, Wp.lenA, Wp.getD, Option.map_some, Option.bind_some, Option.getD_some,  Wp.gIxA, Wp.wDNew, Wp.wDNewT, Wp.rLenA, Wp.rSortD, Wp.rMaxL, Wp.rPopL, Wp.rGet1, Wp.rGet2, Wp.wGet1, Wp.wGet2, Wp.wPop1, Wp.wPop2, Wp.wDel, Wp.isDT, Wp.keyT, Wp.keysT, Wp.keysL, Wp.ex_ins, Wp.ex_dct, Wp.wSrtIt, Wp.iRg3, Wp.rAddI, Wp.wIf, Wp.rExtT, Wp.wTestI, Wp.rGt, Wp.rMulA, Int.cast_ofNat_Int, Int.reduceBEq, lk_End__base, pt_End__base, lk_End__pending, pt_End__pending, lk_End__closed, pt_End__closed, lk_End__given, pt_End__given, lk_End__got, pt_End__got, lk_End__ended, pt_End__ended, lk_End__ahead, pt_End__ahead, lk_End__end, pt_End__end, no_End__keep, no_End__learn, no_End__take_in_order, no_End_close, no_End_due, no_End_has_end, no_End_is_given, no_End_picture, no_End_take, no_End_taken, no_End_write, ln_End, mk_End, Wp.rSortDA, Wp.wDisp, Wp.wPCons, Wp.wPNil, ix_out, ix_closed, ix_base, ix_given, ix_seen, ix_got, ix_ended, ix_end, st_closed, st_base, st_given, st_got, st_ended, st_end, sdL_len, Wp.upS, Wp.upS_upS, *])
local macro_rules | `(tactic| walk_at "run") => `(tactic| repeat (first | walk_at "wp" | walk_at "go"))
local macro_rules | `(tactic| walk_at "wq") => `(tactic| simp (disch := omega) only [Wp.wSeq, Wp.wNext, Wp.wSet, Wp.wVar, Wp.wC, Wp.wOp, Wp.wRet, Wp.wIfS, Wp.wTest, Wp.wCall, Wp.wCons, Wp.wNil, Wp.wTup, Wp.wLst, Wp.wAsg, Wp.gTp, Wp.gC, Wp.gNm, Wp.gN0, Wp.gIx, Wp.rSet, Wp.rAdd, Wp.rMul, Wp.rMod, Wp.rSub, Wp.rFdiv, Wp.rPow, Wp.rInt, Wp.rIx, Wp.rLt, Wp.rLe, Wp.rCmp, Wp.rGeI, Wp.rGtI, Wp.wCB, Wp.rLen, Wp.rLen1, Wp.rInt1, Wp.rMax2, Wp.rMin2, Wp.rTupOf, Wp.rListOf,
  Wp.wIsi, Wp.rBIs, Wp.rIsN, Wp.isNon, Wp.wMt, Wp.rAppendT, Wp.rExtendT, Wp.rReverseT, Wp.wNot, Wp.wOr, Wp.wAnd, Wp.wAndV, Wp.wOrV, Wp.wNotV, Wp.wFor, Wp.iRg1, Wp.iRg2, Wp.iAnyW, Wp.wAll, Wp.wChain, Wp.wSl, Wp.wNoPart, Wp.wPart, Wp.rSl, Wp.wNeg, Wp.rNeg, Wp.wLc, Wp.wYes, Wp.wDrop, Wp.wipeT, Wp.wAug, List.map, List.set_cons_zero, List.set_cons_succ, List.getElem?_cons_zero, List.getElem?_cons_succ, List.length_cons, List.length_nil, List.cons_append, List.nil_append, List.replicate, Wp.startT,
  true_and, and_true, Wp.wif_true, Wp.wif_false, Wp.ex_some, Wp.ex_some1, Wp.ex_eq, Wp.ex_lst, Wp.ex_lst0, Wp.rEq_int, Bool.false_bne, Bool.true_bne, Int.reduceLT, Int.reduceLE, Int.reduceAdd, Nat.reduceAdd, Nat.reduceSub, eq_self, ite_true, ite_false, beq_self_eq_true, Bool.not_true, Bool.not_false, Wp.isB_0, Wp.isB_1, Wp.isB_2, Wp.isB_3, Wp.isB_4, Wp.isB_5, Wp.isB_6, Wp.isB_7, Wp.isB_8, Wp.isB_9, Wp.isB_10, Wp.isB_11, Wp.isB_12, Wp.isB_13, Wp.isB_14, Wp.isB_15, Wp.isB_16, Wp.isB_17, Wp.isB_18, Wp.isB_19, Wp.isB_20, Wp.isB_21, Wp.isB_22, Wp.isB_23, Wp.isB_24, Wp.isB_25, Wp.isB_26, Wp.isB_27, Wp.isB_28, Wp.isB_29, Wp.isB_30, Wp.isB_31, Wp.isB_32, Wp.isB_33, Wp.isB_34, Wp.isB_35, Wp.cmul_l, Wp.cmul_r, Wp.cpow_lit, Wp.size_le, Wp.size_lt, Wp.atI_0, Wp.atI_1, Wp.atI_2, Wp.atI_3, Wp.atI_4, Wp.atI_5, Wp.atI_6, Wp.ixN_0, Wp.ixN_1, Wp.ixN_2, Wp.itemsT, Wp.tyT, reduceIte, Wp.wFld, Wp.wFSet, Wp.wFAug, Wp.wMeth, Wp.wMake, Wp.rIxA, Wp.rInA, Wp.rSetA, Wp.ixA, Wp.inA, Wp.setA, Wp.lenA, Wp.getD, Option.map_some, Option.bind_some, Option.getD_some,  Wp.gIxA, Wp.wDNew, Wp.wDNewT, Wp.rLenA, Wp.rSortD, Wp.rMaxL, Wp.rPopL, Wp.rGet1, Wp.rGet2, Wp.wGet1, Wp.wGet2, Wp.wPop1, Wp.wPop2, Wp.wDel, Wp.isDT, Wp.keyT, Wp.keysT, Wp.keysL, Wp.ex_ins, Wp.ex_dct, Wp.wSrtIt, Wp.iRg3, Wp.rAddI, Wp.wIf, Wp.rExtT, Wp.wTestI, Wp.rGt, Wp.rMulA, Int.cast_ofNat_Int, Int.reduceBEq, lk_End__base, pt_End__base, lk_End__pending, pt_End__pending, lk_End__closed, pt_End__closed, lk_End__given, pt_End__given, lk_End__got, pt_End__got, lk_End__ended, pt_End__ended, lk_End__ahead, pt_End__ahead, lk_End__end, pt_End__end, no_End__keep, no_End__learn, no_End__take_in_order, no_End_close, no_End_due, no_End_has_end, no_End_is_given, no_End_picture, no_End_take, no_End_taken, no_End_write, ln_End, mk_End, Wp.rSortDA, Wp.wDisp, Wp.wPCons, Wp.wPNil, ix_out, ix_closed, ix_base, ix_given, ix_seen, ix_got, ix_ended, ix_end, st_closed, st_base, st_given, st_got, st_ended, st_end, sdL_len, *])
local macro_rules | `(tactic| walk_at "r2") => `(tactic| repeat (first | walk_at "wq" | walk_at "go"))
local macro_rules | `(tactic| walk_at "w0") => `(tactic| simp (disch := omega) only [Wp.wSeq, Wp.wNext, Wp.wSet, Wp.wVar, Wp.wC, Wp.wOp, Wp.wRet, Wp.wIfS, Wp.wTest, Wp.wCall, Wp.wCons, Wp.wNil, Wp.wTup, Wp.wLst, Wp.wAsg, Wp.gTp, Wp.gC, Wp.gNm, Wp.gN0, Wp.gIx, Wp.rSet, Wp.rAdd, Wp.rMul, Wp.rMod, Wp.rSub, Wp.rFdiv, Wp.rPow, Wp.rInt, Wp.rIx, Wp.rLt, Wp.rLe, Wp.rCmp, Wp.rGeI, Wp.rGtI, Wp.wCB, Wp.rLen, Wp.rLen1, Wp.rInt1, Wp.rMax2, Wp.rMin2, Wp.rTupOf, Wp.rListOf,
  Wp.wIsi, Wp.rBIs, Wp.rIsN, Wp.isNon, Wp.wMt, Wp.rAppendT, Wp.rExtendT, Wp.rReverseT, Wp.wNot, Wp.wOr, Wp.wAnd, Wp.wAndV, Wp.wOrV, Wp.wNotV, Wp.wFor, Wp.iRg1, Wp.iRg2, Wp.iAnyW, Wp.wAll, Wp.wChain, Wp.wSl, Wp.wNoPart, Wp.wPart, Wp.rSl, Wp.wNeg, Wp.rNeg, Wp.wLc, Wp.wYes, Wp.wDrop, Wp.wipeT, Wp.wAug, List.map, List.set_cons_zero, List.set_cons_succ, List.getElem?_cons_zero, List.getElem?_cons_succ, List.length_cons, List.length_nil, List.cons_append, List.nil_append, List.replicate, Wp.startT,
  true_and, and_true, Wp.wif_true, Wp.wif_false, Wp.ex_some, Wp.ex_some1, Wp.ex_eq, Wp.ex_lst, Wp.ex_lst0, Wp.rEq_int, Bool.false_bne, Bool.true_bne, Int.reduceLT, Int.reduceLE, Int.reduceAdd, Nat.reduceAdd, Nat.reduceSub, eq_self, ite_true, ite_false, beq_self_eq_true, Bool.not_true, Bool.not_false, Wp.isB_0, Wp.isB_1, Wp.isB_2, Wp.isB_3, Wp.isB_4, Wp.isB_5, Wp.isB_6, Wp.isB_7, Wp.isB_8, Wp.isB_9, Wp.isB_10, Wp.isB_11, Wp.isB_12, Wp.isB_13, Wp.isB_14, Wp.isB_15, Wp.isB_16, Wp.isB_17, Wp.isB_18, Wp.isB_19, Wp.isB_20, Wp.isB_21, Wp.isB_22, Wp.isB_23, Wp.isB_24, Wp.isB_25, Wp.isB_26, Wp.isB_27, Wp.isB_28, Wp.isB_29, Wp.isB_30, Wp.isB_31, Wp.isB_32, Wp.isB_33, Wp.isB_34, Wp.isB_35, Wp.cmul_l, Wp.cmul_r, Wp.cpow_lit, Wp.size_le, Wp.size_lt, Wp.atI_0, Wp.atI_1, Wp.atI_2, Wp.atI_3, Wp.atI_4, Wp.atI_5, Wp.atI_6, Wp.ixN_0, Wp.ixN_1, Wp.ixN_2, Wp.itemsT, Wp.tyT, reduceIte, Wp.wFld, Wp.wFSet, Wp.wFAug, Wp.wMeth, Wp.wMake, Wp.rIxA, Wp.rInA, Wp.rSetA, Wp.ixA, Wp.inA, Wp.setA, Wp.lenA, Wp.getD, Option.map_some, Option.bind_some, Option.getD_some,  Wp.gIxA, Wp.wDNew, Wp.wDNewT, Wp.rLenA, Wp.rSortD, Wp.rMaxL, Wp.rPopL, Wp.rGet1, Wp.rGet2, Wp.wGet1, Wp.wGet2, Wp.wPop1, Wp.wPop2, Wp.wDel, Wp.isDT, Wp.keyT, Wp.keysT, Wp.keysL, Wp.ex_ins, Wp.ex_dct, Wp.wSrtIt, Wp.iRg3, Wp.rAddI, Wp.wIf, Wp.rExtT, Wp.wTestI, Wp.rGt, Wp.rMulA, Int.cast_ofNat_Int, Int.reduceBEq, lk_End__base, pt_End__base, lk_End__pending, pt_End__pending, lk_End__closed, pt_End__closed, lk_End__given, pt_End__given, lk_End__got, pt_End__got, lk_End__ended, pt_End__ended, lk_End__ahead, pt_End__ahead, lk_End__end, pt_End__end, no_End__keep, no_End__learn, no_End__take_in_order, no_End_close, no_End_due, no_End_has_end, no_End_is_given, no_End_picture, no_End_take, no_End_taken, no_End_write, ln_End, mk_End, Wp.rSortDA, Wp.wDisp, Wp.wPCons, Wp.wPNil, ix_out, ix_closed, ix_base, ix_given, ix_seen, ix_got, ix_ended, ix_end, st_closed, st_base, st_given, st_got, st_ended, st_end, sdL_len])
local macro_rules | `(tactic| walk_at "r0") => `(tactic| repeat (first | walk_at "w0" | walk_at "go"))
theorem tkB_ok {C : Addr} {S : Sta} {E : WEnds} {a lo ls : Addr} {s : SM} {x : Seg} {row : T} (n1 : a ≠ lo) (n2 : a ≠ ls) (n3 : lo ≠ ls) (at' : SdAt S a lo ls s) (hd : x.d.length ≤ 8) (ho : s.out.length ≤ 4000) (o0 : 0 ≤ x.o) (o1 : x.o + x.d.length ≤ 4000) (hk : ∀ k, (s.seen k).isSome = true → 0 ≤ k ∧ k < 4000)
    (h : ∀ S' s', s' = { s.take x with given := s.given } → (∀ y o, S y = some o → y ≠ a → y ≠ ls → S' y = some o) → SdAt S' a lo ls s' → E.rt (.tup ((s.run x).map T.int)) S') :
    goS (tkB C E) [some (.ref a), some row, some (.int x.o), some (.tup (x.d.map T.int)), some (.int x.l), some (.int x.t), some (.ref ls), none, none] S := by
  obtain ⟨e1, e2, dic⟩ := at'
  unfold tkB
  walk_at "r0"
  rw [e1]
  walk_at "r0"
  rw [e2]
  walk_at "r0"
  have nb : (if (if ((List.map T.int s.out).length : Int) < x.t then ((List.map T.int s.out).length : Int) else x.t) > s.base then (if ((List.map T.int s.out).length : Int) < x.t then ((List.map T.int s.out).length : Int) else x.t) else s.base) = max s.base (min x.t s.out.length) := by
    rw [List.length_map]
    repeat' split
    all_goals omega
  rw [nb]
  refine ⟨by rw [List.length_map]; omega, by rw [List.length_map]; omega, ?_⟩
  rw [show (((List.map T.int x.d).length : Int)).toNat = x.d.length by rw [List.length_map]; rfl]
  refine put_loop (S := upS S a _) (f := s.seen) (o := x.o) (d := x.d) ?_ hk o0 o1 fun S2 w7 same dic2 => ?_
  · obtain ⟨ks, e3, nd, sn⟩ := dic
    exact ⟨ks, (upS_ne n2.symm).trans e3, nd, sn⟩
  · have a2 : S2 a = _ := (same a n2).trans upS_same
    have old : ∀ y o, S y = some o → y ≠ a → y ≠ ls → S2 y = some o := fun y o ey h1 h2 => by rw [same y h2, upS_ne h1]; exact ey
    have tailC : ∀ (S3 : Sta) (fn : Option Int), S3 a = some (.dct (sdL (.ref lo) (.int s.closed) (.int (max s.base (min x.t s.out.length))) (.int s.given) (.ref ls) (.int s.got) (.int s.ended) (finT fn))) → (∀ y o, S y = some o → y ≠ a → y ≠ ls → S3 y = some o) → DicS S3 ls (putS s.seen x.o x.d) → fn = (if x.l = 1 then some (x.o + (x.d.length : Int)) else s.fin) →
        goS (tkC C E) [some (.ref a), some row, some (.int x.o), some (.tup (x.d.map T.int)), some (.int x.l), some (.int x.t), some (.ref ls), w7, none] S3 := fun S3 fn ha3 old3 dic3 efn => by
      refine tkC_ok n2 ha3 dic3 fun S4 old4 ha4 => ?_
      have nl : lo ≠ a := n1.symm
      obtain ⟨ks, e3, nd, sn⟩ := dic3
      subst efn
      exact h S4 _ rfl (fun y o ey h1 h2 => old4 y o (old3 y o ey h1 h2) h1) ⟨ha4, old4 lo _ (old3 lo _ e2 nl n3) nl, ks, old4 ls _ e3 n2.symm, nd, sn⟩
    walk_at "r0"
    refine if_bool (fun w => ?_) (fun w => ?_)
    · have w : x.l = 1 := by simpa using w
      rw [a2]
      refine ⟨_, if_pos (by rw [sdL_len, sizeLine_eq]; decide), ?_⟩
      rw [st_end]
      refine tailC _ (some (x.o + (x.d.length : Int))) ?_ (fun y o ey h1 h2 => by rw [upS_ne h1]; exact old y o ey h1 h2) ?_ (if_pos w).symm
      · rw [upS_same, List.length_map]; rfl
      · obtain ⟨ks, e3, nd, sn⟩ := dic2
        exact ⟨ks, (upS_ne n2.symm).trans e3, nd, sn⟩
    · have w : ¬ x.l = 1 := by simpa using w
      exact tailC S2 s.fin a2 old dic2 (if_neg w).symm
theorem hw_stake {C : Addr} : ∀ ts S Q E, ts.length = 2 → spSTake ts S Q E → b__law_take C { nx := fun _ S' => Q .non S', rt := Q } (Wp.startT N__law_take ts) S := by
  intro ts S Q E _ h
  match ts, h with
  | [.ref a, _], ⟨F, s, ⟨o, d, l, t⟩, ⟨lo, ls, hF, n1, n2, n3, e1, e2, dic⟩, rfl, hd, ho, o0, o1, hk, h⟩ =>
    subst hF
    have fin : ∀ (S1 : Sta) (g : Int), g = (if (s.out.length : Int) < t then 1 else s.given) → (∀ y o, S y = some o → y ≠ a → S1 y = some o) → S1 a = some (.dct (sdL (.ref lo) (.int s.closed) (.int s.base) (.int g) (.ref ls) (.int s.got) (.int s.ended) (finT s.fin))) → ∀ row,
        goS (tkB C { nx := fun _ S' => Q .non S', rt := Q }) [some (.ref a), some row, some (.int o), some (.tup (d.map T.int)), some (.int l), some (.int t), some (.ref ls), none, none] S1 := fun S1 g eg old ha row => by
      obtain ⟨ks, e3, nd, sn⟩ := dic
      refine tkB_ok (s := { s with given := g }) (x := ⟨o, d, l, t⟩) n1 n2 n3 ⟨ha, old _ _ e2 n1.symm, ks, old _ _ e3 n2.symm, nd, sn⟩ hd ho o0 o1 hk fun S2 s' es old2 at2 => ?_
      refine h S2 ⟨fun y o' ey ny => ?_, fun y hy => .inl hy⟩ ⟨lo, ls, rfl, n1, n2, n3, ?_⟩
      · simp only [List.mem_cons, List.not_mem_nil, or_false, not_or] at ny
        exact old2 y o' (old y o' ey ny.1) ny.1 ny.2.2
      · have e : s' = s.take ⟨o, d, l, t⟩ := by rw [es, eg]; rfl
        rw [← e]; exact at2
    unfold b__law_take N__law_take Seg.tr
    walk_at "r0"
    rw [e1]
    walk_at "r0"
    rw [e1]
    walk_at "r0"
    rw [e2]
    walk_at "r0"
    refine if_dec (fun w => ?_) (fun w => ?_)
    · exact fin _ 1 (if_pos (by rw [List.length_map] at w; exact w)).symm (fun y o ey ny => by rw [upS_ne ny]; exact ey) upS_same _
    · exact fin S s.given (if_neg (by rw [List.length_map] at w; exact w)).symm (fun _ _ ey _ => ey) e1 _
end My

set_option Elab.async false
set_option linter.all false
set_option maxRecDepth 100000
set_option maxHeartbeats 8000000
namespace My
open PySem PySem.Spec PyProof.Rows L2 Wp Gn
local macro_rules | `(tactic| walk_at "go") => `(tactic| (with_reducible refine goS_i ?_))
local macro_rules | `(tactic| walk_at "wp") => `(tactic| simp (disch := omega) only [Wp.wSeq, Wp.wNext, Wp.wSet, Wp.wVar, Wp.wC, Wp.wOp, Wp.wRet, Wp.wIfS, Wp.wTest, Wp.wCall, Wp.wCons, Wp.wNil, Wp.wTup, Wp.wLst, Wp.wAsg, Wp.gTp, Wp.gC, Wp.gNm, Wp.gN0, Wp.gIx, Wp.rSet, Wp.rAdd, Wp.rMul, Wp.rMod, Wp.rSub, Wp.rFdiv, Wp.rPow, Wp.rInt, Wp.rIx, Wp.rLt, Wp.rLe, Wp.rCmp, Wp.rGeI, Wp.rGtI, Wp.wCB, Wp.rLen, Wp.rLen1, Wp.rInt1, Wp.rMax2, Wp.rMin2, Wp.rTupOf, Wp.rListOf,
  Wp.wIsi, Wp.rBIs, Wp.rIsN, Wp.isNon, Wp.wMt, Wp.rAppendT, Wp.rExtendT, Wp.rReverseT, Wp.wNot, Wp.wOr, Wp.wAnd, Wp.wAndV, Wp.wOrV, Wp.wNotV, Wp.wFor, Wp.iRg1, Wp.iRg2, Wp.iAnyW, Wp.wAll, Wp.wChain, Wp.wSl, Wp.wNoPart, Wp.wPart, Wp.rSl, Wp.wNeg, Wp.rNeg, Wp.wLc, Wp.wYes, Wp.wDrop, Wp.wipeT, Wp.wAug, List.map, List.set_cons_zero, List.set_cons_succ, List.getElem?_cons_zero, List.getElem?_cons_succ, List.length_cons, List.length_nil, List.cons_append, List.nil_append, List.replicate, Wp.startT,
  true_and, and_true, Wp.wif_true, Wp.wif_false, Wp.ex_some, Wp.ex_some1, Wp.ex_eq, Wp.ex_lst, Wp.ex_lst0, Wp.rEq_int, Bool.false_bne, Bool.true_bne, Int.reduceLT, Int.reduceLE, Int.reduceAdd, Nat.reduceAdd, Nat.reduceSub, eq_self, ite_true, ite_false, beq_self_eq_true, Bool.not_true, Bool.not_false, Wp.isB_0, Wp.isB_1, Wp.isB_2, Wp.isB_3, Wp.isB_4, Wp.isB_5, Wp.isB_6, Wp.isB_7, Wp.isB_8, Wp.isB_9, Wp.isB_10, Wp.isB_11, Wp.isB_12, Wp.isB_13, Wp.isB_14, Wp.isB_15, Wp.isB_16, Wp.isB_17, Wp.isB_18, Wp.isB_19, Wp.isB_20, Wp.isB_21, Wp.isB_22, Wp.isB_23, Wp.isB_24, Wp.isB_25, Wp.isB_26, Wp.isB_27, Wp.isB_28, Wp.isB_29, Wp.isB_30, Wp.isB_31, Wp.isB_32, Wp.isB_33, Wp.isB_34, Wp.isB_35, Wp.cmul_l, Wp.cmul_r, Wp.cpow_lit, Wp.size_le, Wp.size_lt, Wp.atI_0, Wp.atI_1, Wp.atI_2, Wp.atI_3, Wp.atI_4, Wp.atI_5, Wp.atI_6, Wp.ixN_0, Wp.ixN_1, Wp.ixN_2, Wp.itemsT, Wp.tyT, reduceIte, Wp.wFld, Wp.wFSet, Wp.wFAug, Wp.wMeth, Wp.wMake, Wp.rIxA, Wp.rInA, Wp.rSetA, Wp.ixA, Wp.inA, Wp.setA, Wp.lenA, Wp.getD, Option.map_some, Option.bind_some, Option.getD_some,  Wp.gIxA, Wp.wDNew, Wp.wDNewT, Wp.rLenA, Wp.rSortD, Wp.rMaxL, Wp.rPopL, Wp.rGet1, Wp.rGet2, Wp.wGet1, Wp.wGet2, Wp.wPop1, Wp.wPop2, Wp.wDel, Wp.isDT, Wp.keyT, Wp.keysT, Wp.keysL, Wp.ex_ins, Wp.ex_dct, Wp.wSrtIt, Wp.iRg3, Wp.rAddI, Wp.wIf, Wp.rExtT, Wp.wTestI, Wp.rGt, Wp.rMulA, Int.cast_ofNat_Int, Int.reduceBEq, lk_End__base, pt_End__base, lk_End__pending, pt_End__pending, lk_End__closed, pt_End__closed, lk_End__given, pt_End__given, lk_End__got, pt_End__got, lk_End__ended, pt_End__ended, lk_End__ahead, pt_End__ahead, lk_End__end, pt_End__end, no_End__keep, no_End__learn, no_End__take_in_order, no_End_close, no_End_due, no_End_has_end, no_End_is_given, no_End_picture, no_End_take, no_End_taken, no_End_write, ln_End, mk_End, Wp.rSortDA, Wp.wDisp, Wp.wPCons, Wp.wPNil, ix_out, ix_closed, ix_base, ix_given, ix_seen, ix_got, ix_ended, ix_end, st_closed, st_base, st_given, st_got, st_ended, st_end, sdL_len, Wp.upS, Wp.upS_upS, *])
local macro_rules | `(tactic| walk_at "run") => `(tactic| repeat (first | walk_at "wp" | walk_at "go"))
local macro_rules | `(tactic| walk_at "wq") => `(tactic| simp (disch := omega) only [Wp.wSeq, Wp.wNext, Wp.wSet, Wp.wVar, Wp.wC, Wp.wOp, Wp.wRet, Wp.wIfS, Wp.wTest, Wp.wCall, Wp.wCons, Wp.wNil, Wp.wTup, Wp.wLst, Wp.wAsg, Wp.gTp, Wp.gC, Wp.gNm, Wp.gN0, Wp.gIx, Wp.rSet, Wp.rAdd, Wp.rMul, Wp.rMod, Wp.rSub, Wp.rFdiv, Wp.rPow, Wp.rInt, Wp.rIx, Wp.rLt, Wp.rLe, Wp.rCmp, Wp.rGeI, Wp.rGtI, Wp.wCB, Wp.rLen, Wp.rLen1, Wp.rInt1, Wp.rMax2, Wp.rMin2, Wp.rTupOf, Wp.rListOf,
  Wp.wIsi, Wp.rBIs, Wp.rIsN, Wp.isNon, Wp.wMt, Wp.rAppendT, Wp.rExtendT, Wp.rReverseT, Wp.wNot, Wp.wOr, Wp.wAnd, Wp.wAndV, Wp.wOrV, Wp.wNotV, Wp.wFor, Wp.iRg1, Wp.iRg2, Wp.iAnyW, Wp.wAll, Wp.wChain, Wp.wSl, Wp.wNoPart, Wp.wPart, Wp.rSl, Wp.wNeg, Wp.rNeg, Wp.wLc, Wp.wYes, Wp.wDrop, Wp.wipeT, Wp.wAug, List.map, List.set_cons_zero, List.set_cons_succ, List.getElem?_cons_zero, List.getElem?_cons_succ, List.length_cons, List.length_nil, List.cons_append, List.nil_append, List.replicate, Wp.startT,
  true_and, and_true, Wp.wif_true, Wp.wif_false, Wp.ex_some, Wp.ex_some1, Wp.ex_eq, Wp.ex_lst, Wp.ex_lst0, Wp.rEq_int, Bool.false_bne, Bool.true_bne, Int.reduceLT, Int.reduceLE, Int.reduceAdd, Nat.reduceAdd, Nat.reduceSub, eq_self, ite_true, ite_false, beq_self_eq_true, Bool.not_true, Bool.not_false, Wp.isB_0, Wp.isB_1, Wp.isB_2, Wp.isB_3, Wp.isB_4, Wp.isB_5, Wp.isB_6, Wp.isB_7, Wp.isB_8, Wp.isB_9, Wp.isB_10, Wp.isB_11, Wp.isB_12, Wp.isB_13, Wp.isB_14, Wp.isB_15, Wp.isB_16, Wp.isB_17, Wp.isB_18, Wp.isB_19, Wp.isB_20, Wp.isB_21, Wp.isB_22, Wp.isB_23, Wp.isB_24, Wp.isB_25, Wp.isB_26, Wp.isB_27, Wp.isB_28, Wp.isB_29, Wp.isB_30, Wp.isB_31, Wp.isB_32, Wp.isB_33, Wp.isB_34, Wp.isB_35, Wp.cmul_l, Wp.cmul_r, Wp.cpow_lit, Wp.size_le, Wp.size_lt, Wp.atI_0, Wp.atI_1, Wp.atI_2, Wp.atI_3, Wp.atI_4, Wp.atI_5, Wp.atI_6, Wp.ixN_0, Wp.ixN_1, Wp.ixN_2, Wp.itemsT, Wp.tyT, reduceIte, Wp.wFld, Wp.wFSet, Wp.wFAug, Wp.wMeth, Wp.wMake, Wp.rIxA, Wp.rInA, Wp.rSetA, Wp.ixA, Wp.inA, Wp.setA, Wp.lenA, Wp.getD, Option.map_some, Option.bind_some, Option.getD_some,  Wp.gIxA, Wp.wDNew, Wp.wDNewT, Wp.rLenA, Wp.rSortD, Wp.rMaxL, Wp.rPopL, Wp.rGet1, Wp.rGet2, Wp.wGet1, Wp.wGet2, Wp.wPop1, Wp.wPop2, Wp.wDel, Wp.isDT, Wp.keyT, Wp.keysT, Wp.keysL, Wp.ex_ins, Wp.ex_dct, Wp.wSrtIt, Wp.iRg3, Wp.rAddI, Wp.wIf, Wp.rExtT, Wp.wTestI, Wp.rGt, Wp.rMulA, Int.cast_ofNat_Int, Int.reduceBEq, lk_End__base, pt_End__base, lk_End__pending, pt_End__pending, lk_End__closed, pt_End__closed, lk_End__given, pt_End__given, lk_End__got, pt_End__got, lk_End__ended, pt_End__ended, lk_End__ahead, pt_End__ahead, lk_End__end, pt_End__end, no_End__keep, no_End__learn, no_End__take_in_order, no_End_close, no_End_due, no_End_has_end, no_End_is_given, no_End_picture, no_End_take, no_End_taken, no_End_write, ln_End, mk_End, Wp.rSortDA, Wp.wDisp, Wp.wPCons, Wp.wPNil, ix_out, ix_closed, ix_base, ix_given, ix_seen, ix_got, ix_ended, ix_end, st_closed, st_base, st_given, st_got, st_ended, st_end, sdL_len, *])
local macro_rules | `(tactic| walk_at "r2") => `(tactic| repeat (first | walk_at "wq" | walk_at "go"))
local macro_rules | `(tactic| walk_at "w0") => `(tactic| simp (disch := omega) only [Wp.wSeq, Wp.wNext, Wp.wSet, Wp.wVar, Wp.wC, Wp.wOp, Wp.wRet, Wp.wIfS, Wp.wTest, Wp.wCall, Wp.wCons, Wp.wNil, Wp.wTup, Wp.wLst, Wp.wAsg, Wp.gTp, Wp.gC, Wp.gNm, Wp.gN0, Wp.gIx, Wp.rSet, Wp.rAdd, Wp.rMul, Wp.rMod, Wp.rSub, Wp.rFdiv, Wp.rPow, Wp.rInt, Wp.rIx, Wp.rLt, Wp.rLe, Wp.rCmp, Wp.rGeI, Wp.rGtI, Wp.wCB, Wp.rLen, Wp.rLen1, Wp.rInt1, Wp.rMax2, Wp.rMin2, Wp.rTupOf, Wp.rListOf,
  Wp.wIsi, Wp.rBIs, Wp.rIsN, Wp.isNon, Wp.wMt, Wp.rAppendT, Wp.rExtendT, Wp.rReverseT, Wp.wNot, Wp.wOr, Wp.wAnd, Wp.wAndV, Wp.wOrV, Wp.wNotV, Wp.wFor, Wp.iRg1, Wp.iRg2, Wp.iAnyW, Wp.wAll, Wp.wChain, Wp.wSl, Wp.wNoPart, Wp.wPart, Wp.rSl, Wp.wNeg, Wp.rNeg, Wp.wLc, Wp.wYes, Wp.wDrop, Wp.wipeT, Wp.wAug, List.map, List.set_cons_zero, List.set_cons_succ, List.getElem?_cons_zero, List.getElem?_cons_succ, List.length_cons, List.length_nil, List.cons_append, List.nil_append, List.replicate, Wp.startT,
  true_and, and_true, Wp.wif_true, Wp.wif_false, Wp.ex_some, Wp.ex_some1, Wp.ex_eq, Wp.ex_lst, Wp.ex_lst0, Wp.rEq_int, Bool.false_bne, Bool.true_bne, Int.reduceLT, Int.reduceLE, Int.reduceAdd, Nat.reduceAdd, Nat.reduceSub, eq_self, ite_true, ite_false, beq_self_eq_true, Bool.not_true, Bool.not_false, Wp.isB_0, Wp.isB_1, Wp.isB_2, Wp.isB_3, Wp.isB_4, Wp.isB_5, Wp.isB_6, Wp.isB_7, Wp.isB_8, Wp.isB_9, Wp.isB_10, Wp.isB_11, Wp.isB_12, Wp.isB_13, Wp.isB_14, Wp.isB_15, Wp.isB_16, Wp.isB_17, Wp.isB_18, Wp.isB_19, Wp.isB_20, Wp.isB_21, Wp.isB_22, Wp.isB_23, Wp.isB_24, Wp.isB_25, Wp.isB_26, Wp.isB_27, Wp.isB_28, Wp.isB_29, Wp.isB_30, Wp.isB_31, Wp.isB_32, Wp.isB_33, Wp.isB_34, Wp.isB_35, Wp.cmul_l, Wp.cmul_r, Wp.cpow_lit, Wp.size_le, Wp.size_lt, Wp.atI_0, Wp.atI_1, Wp.atI_2, Wp.atI_3, Wp.atI_4, Wp.atI_5, Wp.atI_6, Wp.ixN_0, Wp.ixN_1, Wp.ixN_2, Wp.itemsT, Wp.tyT, reduceIte, Wp.wFld, Wp.wFSet, Wp.wFAug, Wp.wMeth, Wp.wMake, Wp.rIxA, Wp.rInA, Wp.rSetA, Wp.ixA, Wp.inA, Wp.setA, Wp.lenA, Wp.getD, Option.map_some, Option.bind_some, Option.getD_some,  Wp.gIxA, Wp.wDNew, Wp.wDNewT, Wp.rLenA, Wp.rSortD, Wp.rMaxL, Wp.rPopL, Wp.rGet1, Wp.rGet2, Wp.wGet1, Wp.wGet2, Wp.wPop1, Wp.wPop2, Wp.wDel, Wp.isDT, Wp.keyT, Wp.keysT, Wp.keysL, Wp.ex_ins, Wp.ex_dct, Wp.wSrtIt, Wp.iRg3, Wp.rAddI, Wp.wIf, Wp.rExtT, Wp.wTestI, Wp.rGt, Wp.rMulA, Int.cast_ofNat_Int, Int.reduceBEq, lk_End__base, pt_End__base, lk_End__pending, pt_End__pending, lk_End__closed, pt_End__closed, lk_End__given, pt_End__given, lk_End__got, pt_End__got, lk_End__ended, pt_End__ended, lk_End__ahead, pt_End__ahead, lk_End__end, pt_End__end, no_End__keep, no_End__learn, no_End__take_in_order, no_End_close, no_End_due, no_End_has_end, no_End_is_given, no_End_picture, no_End_take, no_End_taken, no_End_write, ln_End, mk_End, Wp.rSortDA, Wp.wDisp, Wp.wPCons, Wp.wPNil, ix_out, ix_closed, ix_base, ix_given, ix_seen, ix_got, ix_ended, ix_end, st_closed, st_base, st_given, st_got, st_ended, st_end, sdL_len])
local macro_rules | `(tactic| walk_at "r0") => `(tactic| repeat (first | walk_at "w0" | walk_at "go"))
/-! ### the law's own draws -/
def spData13 : WSp := fun ts S Q _ => match ts with
  | [.ref p] => ∃ q, IsBag (some q) S p ∧ ∀ (d : List Int) S', Grb (some q) p S S' → d.length ≤ 40 → Q (.tup (d.map T.int)) S'
  | _ => False
theorem comp_data13 {C : Addr} {p q D : Addr} {x : Option T} {Q : T → Sta → Prop} {S0 : Sta} (hb : IsBag (some q) S0 p) (hn : S0 D = none) (n : Nat) (hl : n ≤ 1000)
    (hQ : ∀ (ns : List Int) S', Grb (some q) p S0 S' → S' D = some (.lst (ns.map T.int)) → ns.length ≤ n → Q (.ref D) S') :
    compW (gNm 2) wYes (l1__law_data C (spDraw true)) (fun _ => True) [some (.ref p), x, none] D Q (Wp.rangeT 0 n) (upS S0 D (.lst [])) := by
  have hDp := new_ne hb hn
  refine comp_inv (fun i S' => Grb (some q) p S0 S' ∧ ∃ ns : List Int, S' D = some (.lst (ns.map T.int)) ∧ ns.length = i) ⟨(gr_new hn).grb hb, [], upS_same, rfl⟩ (fun _ _ _ => trivial) (fun i x S LP hx hI nx => ?_) (fun S hI => ?_)
  · obtain ⟨g, ns, e, hlen⟩ := hI
    obtain ⟨hi, _⟩ := range_at hx
    unfold l1__law_data
    walk_at "r0"
    refine ⟨some q, rfl, g.bag, by omega, by omega, fun r S2 r0 r1 g2 => ?_⟩
    have e2 := g2.keep D _ e hDp
    refine ⟨_, e2, by rw [List.length_map]; exact lt_sz (by omega), nx _ ⟨(g.trans g2).up hb hn, ns ++ [r], by rw [upS_same, List.map_append]; rfl, by rw [List.length_append, hlen]; rfl⟩⟩
  · obtain ⟨g, ns, e, hlen⟩ := hI
    rw [rangeT_length] at hlen
    exact hQ ns S g e (by omega)
theorem hw_data13 {C : Addr} : ∀ ts S Q E, ts.length = 1 → spData13 ts S Q E → b__law_data C (spDraw true) { nx := fun _ S' => Q .non S', rt := Q } (Wp.startT N__law_data ts) S := by
  intro ts S Q E _ h
  match ts, h with
  | [.ref p], ⟨q, hb, h⟩ =>
    unfold b__law_data N__law_data
    walk_at "r0"
    refine ⟨some q, rfl, hb, by omega, by omega, fun r S1 r0 r1 g1 => ?_⟩
    walk_at "r0"
    intro L hL
    have hLp := new_ne g1.bag hL
    have gL : Gr S1 (upS S1 L (.lst [T.int 0, T.int 1, T.int 2, T.int 8, T.int 9, T.int 33, T.int r])) := gr_new hL
    have eL : upS S1 L (.lst [T.int 0, T.int 1, T.int 2, T.int 8, T.int 9, T.int 33, T.int r]) L = some (.lst [T.int 0, T.int 1, T.int 2, T.int 8, T.int 9, T.int 33, T.int r]) := upS_same
    have gb := gL.grb g1.bag
    generalize upS S1 L (.lst [T.int 0, T.int 1, T.int 2, T.int 8, T.int 9, T.int 33, T.int r]) = S2 at gL eL gb ⊢
    try walk_at "r0"
    refine ⟨some q, rfl, gb.bag, by omega, by omega, fun w S3 w0 w1 g3 => ?_⟩
    have e3 := g3.keep L _ eL hLp
    walk_at "r0"
    rw [e3]
    obtain ⟨n, hn, n0, n1⟩ : ∃ n : Int, atI [T.int 0, T.int 1, T.int 2, T.int 8, T.int 9, T.int 33, T.int r] w = some (.int n) ∧ 0 ≤ n ∧ n ≤ 40 := by
      have : w = 0 ∨ w = 1 ∨ w = 2 ∨ w = 3 ∨ w = 4 ∨ w = 5 ∨ w = 6 := by omega
      rcases this with rfl | rfl | rfl | rfl | rfl | rfl | rfl
      · exact ⟨0, atI_0.trans rfl, by omega, by omega⟩
      · exact ⟨1, atI_1.trans rfl, by omega, by omega⟩
      · exact ⟨2, atI_2.trans rfl, by omega, by omega⟩
      · exact ⟨8, atI_3.trans rfl, by omega, by omega⟩
      · exact ⟨9, atI_4.trans rfl, by omega, by omega⟩
      · exact ⟨33, atI_5.trans rfl, by omega, by omega⟩
      · exact ⟨r, atI_6.trans rfl, by omega, by omega⟩
    refine ⟨_, hn, ?_⟩
    walk_at "r0"
    refine ⟨by omega, by omega, fun D hD => ?_⟩
    refine comp_data13 g3.bag hD n.toNat (by omega) fun ns S' g e hl => ?_
    simp only [e]
    walk_at "r0"
    exact h ns S' (g1.trans (gb.trans (g3.trans g))) (by omega)
end My

set_option Elab.async false
set_option linter.all false
set_option maxRecDepth 100000
set_option maxHeartbeats 8000000
namespace My
open PySem PySem.Spec PyProof.Rows L2 Wp Gn
local macro_rules | `(tactic| walk_at "go") => `(tactic| (with_reducible refine goS_i ?_))
local macro_rules | `(tactic| walk_at "wp") => `(tactic| simp (disch := omega) only [Wp.wSeq, Wp.wNext, Wp.wSet, Wp.wVar, Wp.wC, Wp.wOp, Wp.wRet, Wp.wIfS, Wp.wTest, Wp.wCall, Wp.wCons, Wp.wNil, Wp.wTup, Wp.wLst, Wp.wAsg, Wp.gTp, Wp.gC, Wp.gNm, Wp.gN0, Wp.gIx, Wp.rSet, Wp.rAdd, Wp.rMul, Wp.rMod, Wp.rSub, Wp.rFdiv, Wp.rPow, Wp.rInt, Wp.rIx, Wp.rLt, Wp.rLe, Wp.rCmp, Wp.rGeI, Wp.rGtI, Wp.wCB, Wp.rLen, Wp.rLen1, Wp.rInt1, Wp.rMax2, Wp.rMin2, Wp.rTupOf, Wp.rListOf,
  Wp.wIsi, Wp.rBIs, Wp.rIsN, Wp.isNon, Wp.wMt, Wp.rAppendT, Wp.rExtendT, Wp.rReverseT, Wp.wNot, Wp.wOr, Wp.wAnd, Wp.wAndV, Wp.wOrV, Wp.wNotV, Wp.wFor, Wp.iRg1, Wp.iRg2, Wp.iAnyW, Wp.wAll, Wp.wChain, Wp.wSl, Wp.wNoPart, Wp.wPart, Wp.rSl, Wp.wNeg, Wp.rNeg, Wp.wLc, Wp.wYes, Wp.wDrop, Wp.wipeT, Wp.wAug, List.map, List.set_cons_zero, List.set_cons_succ, List.getElem?_cons_zero, List.getElem?_cons_succ, List.length_cons, List.length_nil, List.cons_append, List.nil_append, List.replicate, Wp.startT,
  true_and, and_true, Wp.wif_true, Wp.wif_false, Wp.ex_some, Wp.ex_some1, Wp.ex_eq, Wp.ex_lst, Wp.ex_lst0, Wp.rEq_int, Bool.false_bne, Bool.true_bne, Int.reduceLT, Int.reduceLE, Int.reduceAdd, Nat.reduceAdd, Nat.reduceSub, eq_self, ite_true, ite_false, beq_self_eq_true, Bool.not_true, Bool.not_false, Wp.isB_0, Wp.isB_1, Wp.isB_2, Wp.isB_3, Wp.isB_4, Wp.isB_5, Wp.isB_6, Wp.isB_7, Wp.isB_8, Wp.isB_9, Wp.isB_10, Wp.isB_11, Wp.isB_12, Wp.isB_13, Wp.isB_14, Wp.isB_15, Wp.isB_16, Wp.isB_17, Wp.isB_18, Wp.isB_19, Wp.isB_20, Wp.isB_21, Wp.isB_22, Wp.isB_23, Wp.isB_24, Wp.isB_25, Wp.isB_26, Wp.isB_27, Wp.isB_28, Wp.isB_29, Wp.isB_30, Wp.isB_31, Wp.isB_32, Wp.isB_33, Wp.isB_34, Wp.isB_35, Wp.cmul_l, Wp.cmul_r, Wp.cpow_lit, Wp.size_le, Wp.size_lt, Wp.atI_0, Wp.atI_1, Wp.atI_2, Wp.atI_3, Wp.atI_4, Wp.atI_5, Wp.atI_6, Wp.ixN_0, Wp.ixN_1, Wp.ixN_2, Wp.itemsT, Wp.tyT, reduceIte, Wp.wFld, Wp.wFSet, Wp.wFAug, Wp.wMeth, Wp.wMake, Wp.rIxA, Wp.rInA, Wp.rSetA, Wp.ixA, Wp.inA, Wp.setA, Wp.lenA, Wp.getD, Option.map_some, Option.bind_some, Option.getD_some,  Wp.gIxA, Wp.wDNew, Wp.wDNewT, Wp.rLenA, Wp.rSortD, Wp.rMaxL, Wp.rPopL, Wp.rGet1, Wp.rGet2, Wp.wGet1, Wp.wGet2, Wp.wPop1, Wp.wPop2, Wp.wDel, Wp.isDT, Wp.keyT, Wp.keysT, Wp.keysL, Wp.ex_ins, Wp.ex_dct, Wp.wSrtIt, Wp.iRg3, Wp.rAddI, Wp.wIf, Wp.rExtT, Wp.wTestI, Wp.rGt, Wp.rMulA, Int.cast_ofNat_Int, Int.reduceBEq, lk_End__base, pt_End__base, lk_End__pending, pt_End__pending, lk_End__closed, pt_End__closed, lk_End__given, pt_End__given, lk_End__got, pt_End__got, lk_End__ended, pt_End__ended, lk_End__ahead, pt_End__ahead, lk_End__end, pt_End__end, no_End__keep, no_End__learn, no_End__take_in_order, no_End_close, no_End_due, no_End_has_end, no_End_is_given, no_End_picture, no_End_take, no_End_taken, no_End_write, ln_End, mk_End, Wp.rSortDA, Wp.wDisp, Wp.wPCons, Wp.wPNil, ix_out, ix_closed, ix_base, ix_given, ix_seen, ix_got, ix_ended, ix_end, st_closed, st_base, st_given, st_got, st_ended, st_end, sdL_len, Wp.upS, Wp.upS_upS, *])
local macro_rules | `(tactic| walk_at "run") => `(tactic| repeat (first | walk_at "wp" | walk_at "go"))
local macro_rules | `(tactic| walk_at "wq") => `(tactic| simp (disch := omega) only [Wp.wSeq, Wp.wNext, Wp.wSet, Wp.wVar, Wp.wC, Wp.wOp, Wp.wRet, Wp.wIfS, Wp.wTest, Wp.wCall, Wp.wCons, Wp.wNil, Wp.wTup, Wp.wLst, Wp.wAsg, Wp.gTp, Wp.gC, Wp.gNm, Wp.gN0, Wp.gIx, Wp.rSet, Wp.rAdd, Wp.rMul, Wp.rMod, Wp.rSub, Wp.rFdiv, Wp.rPow, Wp.rInt, Wp.rIx, Wp.rLt, Wp.rLe, Wp.rCmp, Wp.rGeI, Wp.rGtI, Wp.wCB, Wp.rLen, Wp.rLen1, Wp.rInt1, Wp.rMax2, Wp.rMin2, Wp.rTupOf, Wp.rListOf,
  Wp.wIsi, Wp.rBIs, Wp.rIsN, Wp.isNon, Wp.wMt, Wp.rAppendT, Wp.rExtendT, Wp.rReverseT, Wp.wNot, Wp.wOr, Wp.wAnd, Wp.wAndV, Wp.wOrV, Wp.wNotV, Wp.wFor, Wp.iRg1, Wp.iRg2, Wp.iAnyW, Wp.wAll, Wp.wChain, Wp.wSl, Wp.wNoPart, Wp.wPart, Wp.rSl, Wp.wNeg, Wp.rNeg, Wp.wLc, Wp.wYes, Wp.wDrop, Wp.wipeT, Wp.wAug, List.map, List.set_cons_zero, List.set_cons_succ, List.getElem?_cons_zero, List.getElem?_cons_succ, List.length_cons, List.length_nil, List.cons_append, List.nil_append, List.replicate, Wp.startT,
  true_and, and_true, Wp.wif_true, Wp.wif_false, Wp.ex_some, Wp.ex_some1, Wp.ex_eq, Wp.ex_lst, Wp.ex_lst0, Wp.rEq_int, Bool.false_bne, Bool.true_bne, Int.reduceLT, Int.reduceLE, Int.reduceAdd, Nat.reduceAdd, Nat.reduceSub, eq_self, ite_true, ite_false, beq_self_eq_true, Bool.not_true, Bool.not_false, Wp.isB_0, Wp.isB_1, Wp.isB_2, Wp.isB_3, Wp.isB_4, Wp.isB_5, Wp.isB_6, Wp.isB_7, Wp.isB_8, Wp.isB_9, Wp.isB_10, Wp.isB_11, Wp.isB_12, Wp.isB_13, Wp.isB_14, Wp.isB_15, Wp.isB_16, Wp.isB_17, Wp.isB_18, Wp.isB_19, Wp.isB_20, Wp.isB_21, Wp.isB_22, Wp.isB_23, Wp.isB_24, Wp.isB_25, Wp.isB_26, Wp.isB_27, Wp.isB_28, Wp.isB_29, Wp.isB_30, Wp.isB_31, Wp.isB_32, Wp.isB_33, Wp.isB_34, Wp.isB_35, Wp.cmul_l, Wp.cmul_r, Wp.cpow_lit, Wp.size_le, Wp.size_lt, Wp.atI_0, Wp.atI_1, Wp.atI_2, Wp.atI_3, Wp.atI_4, Wp.atI_5, Wp.atI_6, Wp.ixN_0, Wp.ixN_1, Wp.ixN_2, Wp.itemsT, Wp.tyT, reduceIte, Wp.wFld, Wp.wFSet, Wp.wFAug, Wp.wMeth, Wp.wMake, Wp.rIxA, Wp.rInA, Wp.rSetA, Wp.ixA, Wp.inA, Wp.setA, Wp.lenA, Wp.getD, Option.map_some, Option.bind_some, Option.getD_some,  Wp.gIxA, Wp.wDNew, Wp.wDNewT, Wp.rLenA, Wp.rSortD, Wp.rMaxL, Wp.rPopL, Wp.rGet1, Wp.rGet2, Wp.wGet1, Wp.wGet2, Wp.wPop1, Wp.wPop2, Wp.wDel, Wp.isDT, Wp.keyT, Wp.keysT, Wp.keysL, Wp.ex_ins, Wp.ex_dct, Wp.wSrtIt, Wp.iRg3, Wp.rAddI, Wp.wIf, Wp.rExtT, Wp.wTestI, Wp.rGt, Wp.rMulA, Int.cast_ofNat_Int, Int.reduceBEq, lk_End__base, pt_End__base, lk_End__pending, pt_End__pending, lk_End__closed, pt_End__closed, lk_End__given, pt_End__given, lk_End__got, pt_End__got, lk_End__ended, pt_End__ended, lk_End__ahead, pt_End__ahead, lk_End__end, pt_End__end, no_End__keep, no_End__learn, no_End__take_in_order, no_End_close, no_End_due, no_End_has_end, no_End_is_given, no_End_picture, no_End_take, no_End_taken, no_End_write, ln_End, mk_End, Wp.rSortDA, Wp.wDisp, Wp.wPCons, Wp.wPNil, ix_out, ix_closed, ix_base, ix_given, ix_seen, ix_got, ix_ended, ix_end, st_closed, st_base, st_given, st_got, st_ended, st_end, sdL_len, *])
local macro_rules | `(tactic| walk_at "r2") => `(tactic| repeat (first | walk_at "wq" | walk_at "go"))
local macro_rules | `(tactic| walk_at "w0") => `(tactic| simp (disch := omega) only [Wp.wSeq, Wp.wNext, Wp.wSet, Wp.wVar, Wp.wC, Wp.wOp, Wp.wRet, Wp.wIfS, Wp.wTest, Wp.wCall, Wp.wCons, Wp.wNil, Wp.wTup, Wp.wLst, Wp.wAsg, Wp.gTp, Wp.gC, Wp.gNm, Wp.gN0, Wp.gIx, Wp.rSet, Wp.rAdd, Wp.rMul, Wp.rMod, Wp.rSub, Wp.rFdiv, Wp.rPow, Wp.rInt, Wp.rIx, Wp.rLt, Wp.rLe, Wp.rCmp, Wp.rGeI, Wp.rGtI, Wp.wCB, Wp.rLen, Wp.rLen1, Wp.rInt1, Wp.rMax2, Wp.rMin2, Wp.rTupOf, Wp.rListOf,
  Wp.wIsi, Wp.rBIs, Wp.rIsN, Wp.isNon, Wp.wMt, Wp.rAppendT, Wp.rExtendT, Wp.rReverseT, Wp.wNot, Wp.wOr, Wp.wAnd, Wp.wAndV, Wp.wOrV, Wp.wNotV, Wp.wFor, Wp.iRg1, Wp.iRg2, Wp.iAnyW, Wp.wAll, Wp.wChain, Wp.wSl, Wp.wNoPart, Wp.wPart, Wp.rSl, Wp.wNeg, Wp.rNeg, Wp.wLc, Wp.wYes, Wp.wDrop, Wp.wipeT, Wp.wAug, List.map, List.set_cons_zero, List.set_cons_succ, List.getElem?_cons_zero, List.getElem?_cons_succ, List.length_cons, List.length_nil, List.cons_append, List.nil_append, List.replicate, Wp.startT,
  true_and, and_true, Wp.wif_true, Wp.wif_false, Wp.ex_some, Wp.ex_some1, Wp.ex_eq, Wp.ex_lst, Wp.ex_lst0, Wp.rEq_int, Bool.false_bne, Bool.true_bne, Int.reduceLT, Int.reduceLE, Int.reduceAdd, Nat.reduceAdd, Nat.reduceSub, eq_self, ite_true, ite_false, beq_self_eq_true, Bool.not_true, Bool.not_false, Wp.isB_0, Wp.isB_1, Wp.isB_2, Wp.isB_3, Wp.isB_4, Wp.isB_5, Wp.isB_6, Wp.isB_7, Wp.isB_8, Wp.isB_9, Wp.isB_10, Wp.isB_11, Wp.isB_12, Wp.isB_13, Wp.isB_14, Wp.isB_15, Wp.isB_16, Wp.isB_17, Wp.isB_18, Wp.isB_19, Wp.isB_20, Wp.isB_21, Wp.isB_22, Wp.isB_23, Wp.isB_24, Wp.isB_25, Wp.isB_26, Wp.isB_27, Wp.isB_28, Wp.isB_29, Wp.isB_30, Wp.isB_31, Wp.isB_32, Wp.isB_33, Wp.isB_34, Wp.isB_35, Wp.cmul_l, Wp.cmul_r, Wp.cpow_lit, Wp.size_le, Wp.size_lt, Wp.atI_0, Wp.atI_1, Wp.atI_2, Wp.atI_3, Wp.atI_4, Wp.atI_5, Wp.atI_6, Wp.ixN_0, Wp.ixN_1, Wp.ixN_2, Wp.itemsT, Wp.tyT, reduceIte, Wp.wFld, Wp.wFSet, Wp.wFAug, Wp.wMeth, Wp.wMake, Wp.rIxA, Wp.rInA, Wp.rSetA, Wp.ixA, Wp.inA, Wp.setA, Wp.lenA, Wp.getD, Option.map_some, Option.bind_some, Option.getD_some,  Wp.gIxA, Wp.wDNew, Wp.wDNewT, Wp.rLenA, Wp.rSortD, Wp.rMaxL, Wp.rPopL, Wp.rGet1, Wp.rGet2, Wp.wGet1, Wp.wGet2, Wp.wPop1, Wp.wPop2, Wp.wDel, Wp.isDT, Wp.keyT, Wp.keysT, Wp.keysL, Wp.ex_ins, Wp.ex_dct, Wp.wSrtIt, Wp.iRg3, Wp.rAddI, Wp.wIf, Wp.rExtT, Wp.wTestI, Wp.rGt, Wp.rMulA, Int.cast_ofNat_Int, Int.reduceBEq, lk_End__base, pt_End__base, lk_End__pending, pt_End__pending, lk_End__closed, pt_End__closed, lk_End__given, pt_End__given, lk_End__got, pt_End__got, lk_End__ended, pt_End__ended, lk_End__ahead, pt_End__ahead, lk_End__end, pt_End__end, no_End__keep, no_End__learn, no_End__take_in_order, no_End_close, no_End_due, no_End_has_end, no_End_is_given, no_End_picture, no_End_take, no_End_taken, no_End_write, ln_End, mk_End, Wp.rSortDA, Wp.wDisp, Wp.wPCons, Wp.wPNil, ix_out, ix_closed, ix_base, ix_given, ix_seen, ix_got, ix_ended, ix_end, st_closed, st_base, st_given, st_got, st_ended, st_end, sdL_len])
local macro_rules | `(tactic| walk_at "r0") => `(tactic| repeat (first | walk_at "w0" | walk_at "go"))
variable {C : Addr}
theorem ok_ints : ∀ (l : List Int), okTs (l.map T.int) = true
  | [] => rfl
  | n :: l => by
    show (okT (.int n) && okTs (l.map T.int)) = true
    rw [ok_ints l]; rfl
theorem dq_ints : ∀ (l : List Int), dqTs (l.map T.int) = 0
  | [] => rfl
  | n :: l => by
    show max (dqT (.int n)) (dqTs (l.map T.int)) = 0
    rw [dq_ints l]; rfl
theorem ok_prs : ∀ (l : Bs), okTs (l.map prI) = true ∧ dqTs (l.map prI) ≤ 1
  | [] => ⟨rfl, Nat.zero_le _⟩
  | e :: l => by
    obtain ⟨a, b⟩ := ok_prs l
    refine ⟨?_, ?_⟩
    · show (okT (prI e) && okTs (l.map prI)) = true
      rw [a]; rfl
    · show max (dqT (prI e)) (dqTs (l.map prI)) ≤ 1
      have : dqT (prI e) = 1 := rfl
      omega
theorem ok_seg (s : Seg) : okT s.tr = true ∧ dqT s.tr ≤ 2 := by
  unfold Seg.tr
  constructor
  · simp only [okT, okTs, ok_ints, Bool.and_self]
  · simp only [dqT, dqTs, dq_ints]; omega
theorem ok_segs : ∀ (l : List Seg), okTs (l.map Seg.tr) = true ∧ dqTs (l.map Seg.tr) ≤ 2
  | [] => ⟨rfl, Nat.zero_le _⟩
  | e :: l => by
    obtain ⟨a, b⟩ := ok_segs l
    obtain ⟨c, d⟩ := ok_seg e
    refine ⟨?_, ?_⟩
    · show (okT e.tr && okTs (l.map Seg.tr)) = true
      rw [a, c]; rfl
    · show max (dqT e.tr) (dqTs (l.map Seg.tr)) ≤ 2
      omega
theorem ok_pic (m : EM) : okT m.pic = true ∧ dqT m.pic ≤ 3 := by
  have hf : okT (finT m.fin) = true ∧ dqT (finT m.fin) = 0 := by cases m.fin <;> exact ⟨rfl, rfl⟩
  obtain ⟨a, b⟩ := ok_prs m.ahead
  unfold EM.pic
  constructor
  · simp only [okT, okTs, ok_ints, a, hf.1, Bool.and_self]
  · simp only [dqT, dqTs, dq_ints, hf.2]; omega
theorem ints_same {S : Sta} {l : List Int} {Q : T → Sta → Prop} (h : Q (.bl false) S) : Wp.rEq true (.tup (l.map T.int)) (.tup (l.map T.int)) S Q :=
  rEq_okS (neg := true) (z := .tup (l.map T.int)) rfl rfl (by simp only [okT, ok_ints]) (by simp only [dqT, dq_ints]; omega) h
theorem rEq_okP {neg : Bool} {x y : T} {S : Sta} {Q : T → Sta → Prop} {z w : T} (ex : see S x = z) (ey : see S y = w) (e : toD w = toD z) (hz : okT z = true) (dz : dqT z ≤ 60) (h : Q (.bl (!neg)) S) : Wp.rEq neg x y S Q := by
  obtain ⟨d, a1, a2, a3, a4⟩ := ok_toD _ hz
  have sh : SeqAt.shaped d = true := by unfold SeqAt.shaped; rw [a2, Bool.true_and]; exact decide_eq_true (by omega)
  refine ⟨d, by rw [dd_see, ex]; exact a1, d, by rw [dd_see, ey, e]; exact a1, sh, sh, ?_⟩
  rw [a4]
  cases neg <;> exact h
theorem toD_pic (m : EM) : toD m.picL = toD m.pic := by
  unfold EM.picL EM.pic
  simp only [toD, toDs]
theorem pic_same {neg : Bool} {S : Sta} {m : EM} {Q : T → Sta → Prop} (h : Q (.bl (!neg)) S) : Wp.rEq neg m.pic m.picL S Q :=
  rEq_okP rfl rfl (toD_pic m) (ok_pic m).1 (Nat.le_trans (ok_pic m).2 (by decide)) h
theorem segs_same {neg : Bool} {S : Sta} {p q : Addr} {l : List Seg} {Q : T → Sta → Prop} (ep : S p = some (.lst (l.map Seg.tr))) (eq : S q = some (.lst (l.map Seg.tr))) (h : Q (.bl (!neg)) S) : Wp.rEq neg (.ref p) (.ref q) S Q :=
  rEq_okS (z := .fl (l.map Seg.tr)) (see_ref ep) (see_ref eq) (ok_segs l).1 (by have := (ok_segs l).2; show dqTs (l.map Seg.tr) + 1 ≤ 60; omega) h
theorem insE {S : Sta} {a : Addr} {F : List Addr} {m : EM} : EndA C S a F m → ∃ lp la, S a = some (.ins C (F_End (.int m.base) (.ref lp) (.int m.closed) (.int m.given) (.int m.got) (.int m.ended) (.ref la) (finT m.fin))) := fun ⟨lp, la, _, e⟩ => ⟨lp, la, e.ob⟩
theorem insD {S : Sta} {a : Addr} {F : List Addr} {m : SM} : SdA S a F m → ∃ lo ls, S a = some (.dct (sdL (.ref lo) (.int m.closed) (.int m.base) (.int m.given) (.ref ls) (.int m.got) (.int m.ended) (finT m.fin))) := fun ⟨lo, ls, _, _, _, _, e⟩ => ⟨lo, ls, e.ob⟩
def sdI (a : Addr) (F : List Addr) (s : SM) : It := ⟨F, fun S => SdA S a F s⟩
theorem sdI_ok {S : Sta} {a : Addr} {F : List Addr} {s : SM} (h : SdA S a F s) : (sdI a F s).ok S := ⟨h, h.here, fun S' k => h.keep k⟩
def endI (C : Addr) (a : Addr) (F : List Addr) (m : EM) : It := ⟨F, fun S => EndA C S a F m⟩
theorem endI_ok {S : Sta} {a : Addr} {F : List Addr} {m : EM} (h : EndA C S a F m) : (endI C a F m).ok S := ⟨h, h.here, fun S' k => h.keep k⟩
theorem at_ne {α : Type} {L : List α} {i j : Nat} {x y : α} (h : L[i]? = some x) (n : j ≠ i) : (L.set j y)[i]? = some x := by
  rw [List.getElem?_set_ne n]; exact h
theorem at_eq {α : Type} {L : List α} {i : Nat} {x y : α} (h : L[i]? = some x) : (L.set i y)[i]? = some y := List.getElem?_set_self (List.getElem?_eq_some_iff.mp h).1
def spLSame (C : Addr) : WSp := fun ts S Q _ => match ts with
  | [.ref a, .ref d] => ∃ F m G s, EndA C S a F m ∧ SdA S d G s ∧ Lik s m ∧ (s.closed = 0 ∨ s.closed = 1) ∧ s.out.length ≤ 4000 ∧ srtd m.ahead ∧ (∀ e ∈ m.ahead, m.got ≤ e.1) ∧ (m.ended = 0 ∨ m.ended = 1) ∧ (m.given = 0 ∨ m.given = 1) ∧ (∀ k, (s.seen k).isSome = true → 0 ≤ k ∧ k < 4000) ∧ ∀ S', Gr S S' → Q (.bl true) S'
  | _ => False
/-- the pieces of the law's look at the End -/
def smY : WE := wLst (wCons (wOp rIxA (wVar 1) (wC (.str "ended"))) (wCons (wOp rIxA (wVar 1) (wC (.str "given"))) (wCons (wOp rAdd (wOp rIxA (wVar 1) (wC (.str "got"))) (wOp rIxA (wVar 1) (wC (.str "ended")))) wNil)))
def smA (C : Addr) : WS := wIfS (wTest (wOp (Wp.rEq true) (wLst (wCons (wCB rInt1 (wCons (wMeth C "has_end" 1 (spHasEnd C) (wVar 0) wNil) wNil)) (wCons (wCB rInt1 (wCons (wMeth C "is_given" 1 (spGiven C) (wVar 0) wNil) wNil)) (wCons (wMeth C "taken" 1 (spTaken C) (wVar 0) wNil) wNil)))) smY)) (wRet (wC (.bl false))) wNext
def smB (C : Addr) : WS := wSeq (wSet 2 (wMeth C "due" 1 (spDue C) (wVar 0) wNil)) (wIfS (wOr (wNot (wTest (wIsi "list" (wVar 2)))) (wOr (wTest (wOp (Wp.rEq true) (wVar 2) (wCall 1 spSDue (wCons (wVar 1) wNil)))) (wTest (wOp (Wp.rEq true) (wMeth C "due" 1 (spDue C) (wVar 0) wNil) (wVar 2))))) (wRet (wC (.bl false))) wNext)
def smC (C : Addr) : WS := wSeq (wSet 3 (wMeth C "picture" 1 (spPic C) (wVar 0) wNil)) (wRet (wAndV (wIsi "tuple" (wVar 3)) (wOp (Wp.rEq false) (wVar 3) (wCall 1 spSPic (wCons (wVar 1) wNil)))))
def smR (C : Addr) : WS := wSeq (smA C) (wSeq (wSet 2 (wMeth C "due" 1 (spDue C) (wVar 0) wNil)) (wSeq (wIfS (wOr (wNot (wTest (wIsi "list" (wVar 2)))) (wOr (wTest (wOp (Wp.rEq true) (wVar 2) (wCall 1 spSDue (wCons (wVar 1) wNil)))) (wTest (wOp (Wp.rEq true) (wMeth C "due" 1 (spDue C) (wVar 0) wNil) (wVar 2))))) (wRet (wC (.bl false))) wNext) (smC C)))
theorem same_is : b__law_same C (spHasEnd C) (spGiven C) (spTaken C) (spDue C) spSDue (spPic C) spSPic = wSeq (wIfS (wOr (wNot (wTest (wIsi "bool" (wMeth C "has_end" 1 (spHasEnd C) (wVar 0) wNil)))) (wNot (wTest (wIsi "bool" (wMeth C "is_given" 1 (spGiven C) (wVar 0) wNil))))) (wRet (wC (.bl false))) wNext) (smR C) := rfl
section
variable {a d : Addr} {F G : List Addr} {m : EM} {s : SM} {S : Sta} {D : WEnds} {v2 v3 : Option T}
theorem smA_ok (he : EndA C S a F m) (hd : SdA S d G s) (lk : Lik s m) (en : m.ended = 0 ∨ m.ended = 1) (gv : m.given = 0 ∨ m.given = 1)
    (nx : ∀ S', Gr S S' → D.nx [some (.ref a), some (.ref d), v2, v3] S') : smA C D [some (.ref a), some (.ref d), v2, v3] S := by
  obtain ⟨lp, la, k0⟩ := insE he
  have e1 : (if (m.ended == 1) = true then (1 : Int) else 0) = s.ended := by
    rw [← lk.ended]
    rcases en with z | z <;> rw [z] <;> rfl
  have e2 : (if (m.given == 1) = true then (1 : Int) else 0) = s.given := by
    rw [← lk.given]
    rcases gv with z | z <;> rw [z] <;> rfl
  have e3 : m.taken = s.got + s.ended := by unfold EM.taken; rw [lk.got, lk.ended]
  unfold smA
  walk_at "r0"
  rw [k0]
  walk_at "r0"
  refine ⟨F, m, he, ?_⟩
  walk_at "r0"
  rw [k0]
  walk_at "r0"
  refine ⟨F, m, he, ?_⟩
  walk_at "r0"
  rw [k0]
  walk_at "r0"
  refine ⟨F, m, he, ?_⟩
  walk_at "r0"
  intro p hp
  rw [e1, e2, e3]
  obtain ⟨S1, w1, g1, ep⟩ := al_ (o := .lst [T.int s.ended, T.int s.given, T.int (s.got + s.ended)]) hp
  rw [w1]
  obtain ⟨lo, ls, kd⟩ := insD (hd.gr g1)
  unfold smY
  walk_at "r0"
  rw [kd]
  walk_at "r0"
  try rw [kd]
  try walk_at "r0"
  intro q hq
  have g2 := gr_new (o := .lst [T.int s.ended, T.int s.given, T.int (s.got + s.ended)]) hq
  refine rEq_okS (neg := true) (z := .fl [T.int s.ended, T.int s.given, T.int (s.got + s.ended)]) (see_ref (g2 _ _ ep)) (see_ref upS_same) rfl (by show (1 : Nat) ≤ 60; omega) ?_
  refine wif_f ?_
  exact nx _ (g1.trans g2)
theorem smB_ok (he : EndA C S a F m) (hd : SdA S d G s) (lk : Lik s m) (hc : s.closed = 0 ∨ s.closed = 1) (ho : s.out.length ≤ 4000)
    (nx : ∀ S' v2, Gr S S' → D.nx [some (.ref a), some (.ref d), v2, v3] S') : smB C D [some (.ref a), some (.ref d), v2, v3] S := by
  obtain ⟨lp, la, k0⟩ := insE he
  unfold smB
  walk_at "r0"
  rw [k0]
  walk_at "r0"
  refine ⟨F, m, he, by have := lk.u.pend; omega, fun q S1 nq g1 e1 => ?_⟩
  walk_at "r0"
  rw [e1]
  refine ⟨_, rfl, ?_⟩
  rw [show isB "list" "list" = true from rfl]
  simp only [Bool.not_true, Wp.wif_false]
  refine ⟨G, s, m, hd.gr g1, lk, hc, ho, fun q2 S2 nq2 g2 e2 => ?_⟩
  have e1' := g2 _ _ e1
  refine segs_same e1' e2 ?_
  walk_at "r0"
  rw [g2 _ _ (g1 _ _ k0)]
  walk_at "r0"
  refine ⟨F, m, he.gr (g1.trans g2), by have := lk.u.pend; omega, fun q3 S3 nq3 g3 e3 => ?_⟩
  refine segs_same e3 (g3 _ _ e1') ?_
  walk_at "r0"
  exact nx _ _ (g1.trans (g2.trans g3))
theorem smC_ok (he : EndA C S a F m) (hd : SdA S d G s) (lk : Lik s m) (hs : srtd m.ahead) (hg : ∀ e ∈ m.ahead, m.got ≤ e.1) (sb : ∀ k, (s.seen k).isSome = true → 0 ≤ k ∧ k < 4000)
    (rt : ∀ S', Gr S S' → D.rt (.bl true) S') : smC C D [some (.ref a), some (.ref d), v2, v3] S := by
  obtain ⟨lp, la, k0⟩ := insE he
  unfold smC
  walk_at "r0"
  rw [k0]
  walk_at "r0"
  refine ⟨F, m, he, hs, ?_⟩
  walk_at "r0"
  refine ⟨_, rfl, ?_⟩
  rw [show isB "tuple" "tuple" = true from rfl, Wp.wif_true]
  refine ⟨G, s, m, hd, lk, hs, hg, sb, fun S1 g1 => ?_⟩
  exact pic_same (rt S1 g1)
end
theorem hw_lsame : ∀ ts S Q E, ts.length = 2 → spLSame C ts S Q E → b__law_same C (spHasEnd C) (spGiven C) (spTaken C) (spDue C) spSDue (spPic C) spSPic { nx := fun _ S' => Q .non S', rt := Q } (Wp.startT N__law_same ts) S := by
  intro ts S Q E _ h
  match ts, h with
  | [.ref a, .ref d], ⟨F, m, G, s, he, hd, lk, hc, ho, hs, hg, en, gv, sb, h⟩ =>
    obtain ⟨lp, la, k0⟩ := insE he
    rw [same_is]
    show wSeq _ _ _ [some (.ref a), some (.ref d), none, none] S
    walk_at "r0"
    rw [k0]
    walk_at "r0"
    refine ⟨F, m, he, ?_⟩
    refine ⟨_, rfl, ?_⟩
    rw [show isB "bool" "bool" = true from rfl]
    simp only [Bool.not_true, Wp.wif_false]
    rw [k0]
    walk_at "r0"
    refine ⟨F, m, he, ?_⟩
    refine ⟨_, rfl, ?_⟩
    rw [show isB "bool" "bool" = true from rfl]
    simp only [Bool.not_true, Wp.wif_false]
    refine goS_i ?_
    show smA C _ _ _
    refine smA_ok he hd lk en gv fun S1 g1 => ?_
    show smB C { nx := _, rt := Q, bk := _, ct := _ } _ _
    refine smB_ok (he.gr g1) (hd.gr g1) lk hc ho fun S2 v2 g2 => ?_
    show smC C _ _ _
    exact smC_ok (he.gr (g1.trans g2)) (hd.gr (g1.trans g2)) lk hs hg sb fun S3 g3 => h S3 (g1.trans (g2.trans g3))
end My

set_option Elab.async false
set_option linter.all false
set_option maxRecDepth 100000
set_option maxHeartbeats 8000000
namespace My
open PySem PySem.Spec PyProof.Rows L2 Wp Gn
local macro_rules | `(tactic| walk_at "go") => `(tactic| (with_reducible refine goS_i ?_))
local macro_rules | `(tactic| walk_at "wp") => `(tactic| simp (disch := omega) only [Wp.wSeq, Wp.wNext, Wp.wSet, Wp.wVar, Wp.wC, Wp.wOp, Wp.wRet, Wp.wIfS, Wp.wTest, Wp.wCall, Wp.wCons, Wp.wNil, Wp.wTup, Wp.wLst, Wp.wAsg, Wp.gTp, Wp.gC, Wp.gNm, Wp.gN0, Wp.gIx, Wp.rSet, Wp.rAdd, Wp.rMul, Wp.rMod, Wp.rSub, Wp.rFdiv, Wp.rPow, Wp.rInt, Wp.rIx, Wp.rLt, Wp.rLe, Wp.rCmp, Wp.rGeI, Wp.rGtI, Wp.wCB, Wp.rLen, Wp.rLen1, Wp.rInt1, Wp.rMax2, Wp.rMin2, Wp.rTupOf, Wp.rListOf,
  Wp.wIsi, Wp.rBIs, Wp.rIsN, Wp.isNon, Wp.wMt, Wp.rAppendT, Wp.rExtendT, Wp.rReverseT, Wp.wNot, Wp.wOr, Wp.wAnd, Wp.wAndV, Wp.wOrV, Wp.wNotV, Wp.wFor, Wp.iRg1, Wp.iRg2, Wp.iAnyW, Wp.wAll, Wp.wChain, Wp.wSl, Wp.wNoPart, Wp.wPart, Wp.rSl, Wp.wNeg, Wp.rNeg, Wp.wLc, Wp.wYes, Wp.wDrop, Wp.wipeT, Wp.wAug, List.map, List.set_cons_zero, List.set_cons_succ, List.getElem?_cons_zero, List.getElem?_cons_succ, List.length_cons, List.length_nil, List.cons_append, List.nil_append, List.replicate, Wp.startT,
  true_and, and_true, Wp.wif_true, Wp.wif_false, Wp.ex_some, Wp.ex_some1, Wp.ex_eq, Wp.ex_lst, Wp.ex_lst0, Wp.rEq_int, Bool.false_bne, Bool.true_bne, Int.reduceLT, Int.reduceLE, Int.reduceAdd, Nat.reduceAdd, Nat.reduceSub, eq_self, ite_true, ite_false, beq_self_eq_true, Bool.not_true, Bool.not_false, Wp.isB_0, Wp.isB_1, Wp.isB_2, Wp.isB_3, Wp.isB_4, Wp.isB_5, Wp.isB_6, Wp.isB_7, Wp.isB_8, Wp.isB_9, Wp.isB_10, Wp.isB_11, Wp.isB_12, Wp.isB_13, Wp.isB_14, Wp.isB_15, Wp.isB_16, Wp.isB_17, Wp.isB_18, Wp.isB_19, Wp.isB_20, Wp.isB_21, Wp.isB_22, Wp.isB_23, Wp.isB_24, Wp.isB_25, Wp.isB_26, Wp.isB_27, Wp.isB_28, Wp.isB_29, Wp.isB_30, Wp.isB_31, Wp.isB_32, Wp.isB_33, Wp.isB_34, Wp.isB_35, Wp.cmul_l, Wp.cmul_r, Wp.cpow_lit, Wp.size_le, Wp.size_lt, Wp.atI_0, Wp.atI_1, Wp.atI_2, Wp.atI_3, Wp.atI_4, Wp.atI_5, Wp.atI_6, Wp.ixN_0, Wp.ixN_1, Wp.ixN_2, Wp.itemsT, Wp.tyT, reduceIte, Wp.wFld, Wp.wFSet, Wp.wFAug, Wp.wMeth, Wp.wMake, Wp.rIxA, Wp.rInA, Wp.rSetA, Wp.ixA, Wp.inA, Wp.setA, Wp.lenA, Wp.getD, Option.map_some, Option.bind_some, Option.getD_some,  Wp.gIxA, Wp.wDNew, Wp.wDNewT, Wp.rLenA, Wp.rSortD, Wp.rMaxL, Wp.rPopL, Wp.rGet1, Wp.rGet2, Wp.wGet1, Wp.wGet2, Wp.wPop1, Wp.wPop2, Wp.wDel, Wp.isDT, Wp.keyT, Wp.keysT, Wp.keysL, Wp.ex_ins, Wp.ex_dct, Wp.wSrtIt, Wp.iRg3, Wp.rAddI, Wp.wIf, Wp.rExtT, Wp.wTestI, Wp.rGt, Wp.rMulA, Int.cast_ofNat_Int, Int.reduceBEq, lk_End__base, pt_End__base, lk_End__pending, pt_End__pending, lk_End__closed, pt_End__closed, lk_End__given, pt_End__given, lk_End__got, pt_End__got, lk_End__ended, pt_End__ended, lk_End__ahead, pt_End__ahead, lk_End__end, pt_End__end, no_End__keep, no_End__learn, no_End__take_in_order, no_End_close, no_End_due, no_End_has_end, no_End_is_given, no_End_picture, no_End_take, no_End_taken, no_End_write, ln_End, mk_End, Wp.rSortDA, Wp.wDisp, Wp.wPCons, Wp.wPNil, ix_out, ix_closed, ix_base, ix_given, ix_seen, ix_got, ix_ended, ix_end, st_closed, st_base, st_given, st_got, st_ended, st_end, sdL_len, Wp.upS, Wp.upS_upS, *])
local macro_rules | `(tactic| walk_at "run") => `(tactic| repeat (first | walk_at "wp" | walk_at "go"))
local macro_rules | `(tactic| walk_at "wq") => `(tactic| simp (disch := omega) only [Wp.wSeq, Wp.wNext, Wp.wSet, Wp.wVar, Wp.wC, Wp.wOp, Wp.wRet, Wp.wIfS, Wp.wTest, Wp.wCall, Wp.wCons, Wp.wNil, Wp.wTup, Wp.wLst, Wp.wAsg, Wp.gTp, Wp.gC, Wp.gNm, Wp.gN0, Wp.gIx, Wp.rSet, Wp.rAdd, Wp.rMul, Wp.rMod, Wp.rSub, Wp.rFdiv, Wp.rPow, Wp.rInt, Wp.rIx, Wp.rLt, Wp.rLe, Wp.rCmp, Wp.rGeI, Wp.rGtI, Wp.wCB, Wp.rLen, Wp.rLen1, Wp.rInt1, Wp.rMax2, Wp.rMin2, Wp.rTupOf, Wp.rListOf,
  Wp.wIsi, Wp.rBIs, Wp.rIsN, Wp.isNon, Wp.wMt, Wp.rAppendT, Wp.rExtendT, Wp.rReverseT, Wp.wNot, Wp.wOr, Wp.wAnd, Wp.wAndV, Wp.wOrV, Wp.wNotV, Wp.wFor, Wp.iRg1, Wp.iRg2, Wp.iAnyW, Wp.wAll, Wp.wChain, Wp.wSl, Wp.wNoPart, Wp.wPart, Wp.rSl, Wp.wNeg, Wp.rNeg, Wp.wLc, Wp.wYes, Wp.wDrop, Wp.wipeT, Wp.wAug, List.map, List.set_cons_zero, List.set_cons_succ, List.getElem?_cons_zero, List.getElem?_cons_succ, List.length_cons, List.length_nil, List.cons_append, List.nil_append, List.replicate, Wp.startT,
  true_and, and_true, Wp.wif_true, Wp.wif_false, Wp.ex_some, Wp.ex_some1, Wp.ex_eq, Wp.ex_lst, Wp.ex_lst0, Wp.rEq_int, Bool.false_bne, Bool.true_bne, Int.reduceLT, Int.reduceLE, Int.reduceAdd, Nat.reduceAdd, Nat.reduceSub, eq_self, ite_true, ite_false, beq_self_eq_true, Bool.not_true, Bool.not_false, Wp.isB_0, Wp.isB_1, Wp.isB_2, Wp.isB_3, Wp.isB_4, Wp.isB_5, Wp.isB_6, Wp.isB_7, Wp.isB_8, Wp.isB_9, Wp.isB_10, Wp.isB_11, Wp.isB_12, Wp.isB_13, Wp.isB_14, Wp.isB_15, Wp.isB_16, Wp.isB_17, Wp.isB_18, Wp.isB_19, Wp.isB_20, Wp.isB_21, Wp.isB_22, Wp.isB_23, Wp.isB_24, Wp.isB_25, Wp.isB_26, Wp.isB_27, Wp.isB_28, Wp.isB_29, Wp.isB_30, Wp.isB_31, Wp.isB_32, Wp.isB_33, Wp.isB_34, Wp.isB_35, Wp.cmul_l, Wp.cmul_r, Wp.cpow_lit, Wp.size_le, Wp.size_lt, Wp.atI_0, Wp.atI_1, Wp.atI_2, Wp.atI_3, Wp.atI_4, Wp.atI_5, Wp.atI_6, Wp.ixN_0, Wp.ixN_1, Wp.ixN_2, Wp.itemsT, Wp.tyT, reduceIte, Wp.wFld, Wp.wFSet, Wp.wFAug, Wp.wMeth, Wp.wMake, Wp.rIxA, Wp.rInA, Wp.rSetA, Wp.ixA, Wp.inA, Wp.setA, Wp.lenA, Wp.getD, Option.map_some, Option.bind_some, Option.getD_some,  Wp.gIxA, Wp.wDNew, Wp.wDNewT, Wp.rLenA, Wp.rSortD, Wp.rMaxL, Wp.rPopL, Wp.rGet1, Wp.rGet2, Wp.wGet1, Wp.wGet2, Wp.wPop1, Wp.wPop2, Wp.wDel, Wp.isDT, Wp.keyT, Wp.keysT, Wp.keysL, Wp.ex_ins, Wp.ex_dct, Wp.wSrtIt, Wp.iRg3, Wp.rAddI, Wp.wIf, Wp.rExtT, Wp.wTestI, Wp.rGt, Wp.rMulA, Int.cast_ofNat_Int, Int.reduceBEq, lk_End__base, pt_End__base, lk_End__pending, pt_End__pending, lk_End__closed, pt_End__closed, lk_End__given, pt_End__given, lk_End__got, pt_End__got, lk_End__ended, pt_End__ended, lk_End__ahead, pt_End__ahead, lk_End__end, pt_End__end, no_End__keep, no_End__learn, no_End__take_in_order, no_End_close, no_End_due, no_End_has_end, no_End_is_given, no_End_picture, no_End_take, no_End_taken, no_End_write, ln_End, mk_End, Wp.rSortDA, Wp.wDisp, Wp.wPCons, Wp.wPNil, ix_out, ix_closed, ix_base, ix_given, ix_seen, ix_got, ix_ended, ix_end, st_closed, st_base, st_given, st_got, st_ended, st_end, sdL_len, *])
local macro_rules | `(tactic| walk_at "r2") => `(tactic| repeat (first | walk_at "wq" | walk_at "go"))
local macro_rules | `(tactic| walk_at "w0") => `(tactic| simp (disch := omega) only [Wp.wSeq, Wp.wNext, Wp.wSet, Wp.wVar, Wp.wC, Wp.wOp, Wp.wRet, Wp.wIfS, Wp.wTest, Wp.wCall, Wp.wCons, Wp.wNil, Wp.wTup, Wp.wLst, Wp.wAsg, Wp.gTp, Wp.gC, Wp.gNm, Wp.gN0, Wp.gIx, Wp.rSet, Wp.rAdd, Wp.rMul, Wp.rMod, Wp.rSub, Wp.rFdiv, Wp.rPow, Wp.rInt, Wp.rIx, Wp.rLt, Wp.rLe, Wp.rCmp, Wp.rGeI, Wp.rGtI, Wp.wCB, Wp.rLen, Wp.rLen1, Wp.rInt1, Wp.rMax2, Wp.rMin2, Wp.rTupOf, Wp.rListOf,
  Wp.wIsi, Wp.rBIs, Wp.rIsN, Wp.isNon, Wp.wMt, Wp.rAppendT, Wp.rExtendT, Wp.rReverseT, Wp.wNot, Wp.wOr, Wp.wAnd, Wp.wAndV, Wp.wOrV, Wp.wNotV, Wp.wFor, Wp.iRg1, Wp.iRg2, Wp.iAnyW, Wp.wAll, Wp.wChain, Wp.wSl, Wp.wNoPart, Wp.wPart, Wp.rSl, Wp.wNeg, Wp.rNeg, Wp.wLc, Wp.wYes, Wp.wDrop, Wp.wipeT, Wp.wAug, List.map, List.set_cons_zero, List.set_cons_succ, List.getElem?_cons_zero, List.getElem?_cons_succ, List.length_cons, List.length_nil, List.cons_append, List.nil_append, List.replicate, Wp.startT,
  true_and, and_true, Wp.wif_true, Wp.wif_false, Wp.ex_some, Wp.ex_some1, Wp.ex_eq, Wp.ex_lst, Wp.ex_lst0, Wp.rEq_int, Bool.false_bne, Bool.true_bne, Int.reduceLT, Int.reduceLE, Int.reduceAdd, Nat.reduceAdd, Nat.reduceSub, eq_self, ite_true, ite_false, beq_self_eq_true, Bool.not_true, Bool.not_false, Wp.isB_0, Wp.isB_1, Wp.isB_2, Wp.isB_3, Wp.isB_4, Wp.isB_5, Wp.isB_6, Wp.isB_7, Wp.isB_8, Wp.isB_9, Wp.isB_10, Wp.isB_11, Wp.isB_12, Wp.isB_13, Wp.isB_14, Wp.isB_15, Wp.isB_16, Wp.isB_17, Wp.isB_18, Wp.isB_19, Wp.isB_20, Wp.isB_21, Wp.isB_22, Wp.isB_23, Wp.isB_24, Wp.isB_25, Wp.isB_26, Wp.isB_27, Wp.isB_28, Wp.isB_29, Wp.isB_30, Wp.isB_31, Wp.isB_32, Wp.isB_33, Wp.isB_34, Wp.isB_35, Wp.cmul_l, Wp.cmul_r, Wp.cpow_lit, Wp.size_le, Wp.size_lt, Wp.atI_0, Wp.atI_1, Wp.atI_2, Wp.atI_3, Wp.atI_4, Wp.atI_5, Wp.atI_6, Wp.ixN_0, Wp.ixN_1, Wp.ixN_2, Wp.itemsT, Wp.tyT, reduceIte, Wp.wFld, Wp.wFSet, Wp.wFAug, Wp.wMeth, Wp.wMake, Wp.rIxA, Wp.rInA, Wp.rSetA, Wp.ixA, Wp.inA, Wp.setA, Wp.lenA, Wp.getD, Option.map_some, Option.bind_some, Option.getD_some,  Wp.gIxA, Wp.wDNew, Wp.wDNewT, Wp.rLenA, Wp.rSortD, Wp.rMaxL, Wp.rPopL, Wp.rGet1, Wp.rGet2, Wp.wGet1, Wp.wGet2, Wp.wPop1, Wp.wPop2, Wp.wDel, Wp.isDT, Wp.keyT, Wp.keysT, Wp.keysL, Wp.ex_ins, Wp.ex_dct, Wp.wSrtIt, Wp.iRg3, Wp.rAddI, Wp.wIf, Wp.rExtT, Wp.wTestI, Wp.rGt, Wp.rMulA, Int.cast_ofNat_Int, Int.reduceBEq, lk_End__base, pt_End__base, lk_End__pending, pt_End__pending, lk_End__closed, pt_End__closed, lk_End__given, pt_End__given, lk_End__got, pt_End__got, lk_End__ended, pt_End__ended, lk_End__ahead, pt_End__ahead, lk_End__end, pt_End__end, no_End__keep, no_End__learn, no_End__take_in_order, no_End_close, no_End_due, no_End_has_end, no_End_is_given, no_End_picture, no_End_take, no_End_taken, no_End_write, ln_End, mk_End, Wp.rSortDA, Wp.wDisp, Wp.wPCons, Wp.wPNil, ix_out, ix_closed, ix_base, ix_given, ix_seen, ix_got, ix_ended, ix_end, st_closed, st_base, st_given, st_got, st_ended, st_end, sdL_len])
local macro_rules | `(tactic| walk_at "r0") => `(tactic| repeat (first | walk_at "w0" | walk_at "go"))
variable {C : Addr}
/-- writing: the law's own end, and an End or none -/
def spLWr (C : Addr) : WSp := fun ts S Q _ => match ts with
  | [.ref p, t, .ref d] => ∃ (L : List It) (i k : Nat) (q : Addr) (F : List Addr) (s : SM), Sep S L ∧ L[i]? = some (bagI p q) ∧ L[k]? = some (sdI d F s) ∧ i ≠ k ∧ (s.closed = 0 ∨ s.closed = 1) ∧ s.out.length ≤ 3000 ∧ (∀ S', Sep S' L → Q (.bl true) S') ∧
      ((t = .non ∧
        (s.closed = 0 → ∀ S', Sep S' (L.set k (sdI d F { s with closed := 1 })) → Q (.bl true) S') ∧
        (s.closed = 0 → ∀ dd S', dd.length ≤ 40 → Sep S' (L.set k (sdI d F { s with out := s.out ++ dd })) → Q (.bl true) S')) ∨
       (∃ (j : Nat) (a : Addr) (G : List Addr) (m : EM), t = .ref a ∧ L[j]? = some (endI C a G m) ∧ k ≠ j ∧ m.pend.length ≤ 4000 ∧
        (s.closed = 0 → ∀ S', Sep S' ((L.set k (sdI d F { s with closed := 1 })).set j (endI C a G m.close)) → Q (.bl true) S') ∧
        (s.closed = 0 → ∀ dd S', dd.length ≤ 40 → Sep S' ((L.set k (sdI d F { s with out := s.out ++ dd })).set j (endI C a G (m.write dd))) → Q (.bl true) S')))
  | _ => False
theorem hw_lwr : ∀ ts S Q E, ts.length = 3 → spLWr C ts S Q E → b__law_write C spData13 (spDraw true) (spClose C) (spWrite C) { nx := fun _ S' => Q .non S', rt := Q } (Wp.startT N__law_write ts) S := by
  intro ts S Q E _ h
  match ts, h with
  | [.ref p, t, .ref d], ⟨L, i, k, q, F, s, sp, hi, hk, nik, hc, ho, h0, h1⟩ =>
    unfold b__law_write N__law_write
    walk_at "r0"
    refine ⟨q, (sp.ok _ _ hi).p, fun dd S1 g1 ld => ?_⟩
    have sp1 := sp.draw hi g1
    walk_at "r0"
    have sd := (show SdA S1 d F s from (sp1.ok _ _ hk).p)
    obtain ⟨lo, ls, hF, n1, n2, n3, e1, e2, ks, e3, pk⟩ := sd
    rw [e1]
    walk_at "r0"
    rw [e1]
    walk_at "r0"
    refine if_bool (fun w => ?_) (fun w => ?_)
    · try walk_at "r0"
      exact h0 S1 sp1
    have c0 : s.closed = 0 := by
      rcases hc with z | z
      · exact z
      · rw [z] at w; exact absurd w (by decide)
    try walk_at "r0"
    refine ⟨some q, rfl, (sp1.ok _ _ hi).p, by omega, by omega, fun r S2 _ _ g2 => ?_⟩
    have sp2 := sp1.draw hi g2
    obtain ⟨lo2, ls2, hF2, m1, m2, m3, u1, u2, kt, u3, pt⟩ := (show SdA S2 d F s from (sp2.ok _ _ hk).p)
    have elo : lo = lo2 := by rw [hF] at hF2; simp only [List.cons.injEq, true_and] at hF2; exact hF2.1
    have els : ls = ls2 := by rw [hF] at hF2; simp only [List.cons.injEq, true_and, and_true] at hF2; exact hF2.2
    subst elo els
    walk_at "r0"
    refine if_bool (fun _ => ?_) (fun _ => ?_)
    · rw [u1]
      refine ⟨_, if_pos (by rw [sdL_len, sizeLine_eq]; decide), ?_⟩
      rw [st_closed]
      have sp3 := sp2.set k hk (S' := upS S2 d (.dct (sdL (.ref lo) (.int 1) (.int s.base) (.int s.given) (.ref ls) (.int s.got) (.int s.ended) (finT s.fin)))) (i' := sdI d F { s with closed := 1 }) (Frm.up (by rw [show (sdI d F s).F = F from rfl, hF]; simp)) (sdI_ok ⟨lo, ls, hF, n1, n2, n3, upS_same, (upS_ne n1.symm).trans u2, kt, (upS_ne n2.symm).trans u3, pt⟩)
      generalize upS S2 d (.dct (sdL (.ref lo) (.int 1) (.int s.base) (.int s.given) (.ref ls) (.int s.got) (.int s.ended) (finT s.fin))) = S3 at sp3 ⊢
      rcases h1 with ⟨rfl, h1, h2⟩ | ⟨j, a, G, m, rfl, hj, njk, lp, h1, h2⟩
      · walk_at "r0"
        exact h1 c0 _ sp3
      · have hj3 := at_ne (y := sdI d F { s with closed := 1 }) hj njk
        obtain ⟨lp1, la1, k1⟩ := insE (sp3.ok _ _ hj3).p
        walk_at "r0"
        rw [k1]
        walk_at "r0"
        refine ⟨G, m, (sp3.ok _ _ hj3).p, fun S4 f4 e4 => ?_⟩
        have sp4 := sp3.set j hj3 f4 (i' := endI C a G m.close) (endI_ok e4)
        walk_at "r0"
        exact h1 c0 _ sp4
    · walk_at "r0"
      refine ⟨⟨_, u2⟩, fun z hz => ?_⟩
      have sp3 := sp2.gr (gr_new (o := .lst (dd.map T.int)) hz)
      have g3 : Gr S2 (upS S2 z (.lst (dd.map T.int))) := gr_new hz
      have ez : upS S2 z (.lst (dd.map T.int)) z = some (.lst (dd.map T.int)) := upS_same
      have u1' := g3 _ _ u1
      have u2' := g3 _ _ u2
      have u3' := g3 _ _ u3
      generalize upS S2 z (.lst (dd.map T.int)) = S3 at sp3 g3 ez u1' u2' u3' ⊢
      refine ⟨_, u2', _, ez, by rw [List.length_map, List.length_map]; exact le_sz (by omega), ?_⟩
      rw [← List.map_append]
      have sp4 := sp3.set k hk (S' := upS S3 lo (.lst ((s.out ++ dd).map T.int))) (i' := sdI d F { s with out := s.out ++ dd }) (Frm.up (by rw [show (sdI d F s).F = F from rfl, hF]; simp)) (sdI_ok ⟨lo, ls, hF, n1, n2, n3, (upS_ne n1).trans u1', upS_same, kt, (upS_ne n3.symm).trans u3', pt⟩)
      generalize upS S3 lo (.lst ((s.out ++ dd).map T.int)) = S4 at sp4 ⊢
      rcases h1 with ⟨rfl, h1, h2⟩ | ⟨j, a, G, m, rfl, hj, njk, lp, h1, h2⟩
      · walk_at "r0"
        exact h2 c0 dd _ ld sp4
      · have hj3 := at_ne (y := sdI d F { s with out := s.out ++ dd }) hj njk
        obtain ⟨lp1, la1, k1⟩ := insE (sp4.ok _ _ hj3).p
        walk_at "r0"
        rw [k1]
        walk_at "r0"
        refine ⟨G, m, dd, (sp4.ok _ _ hj3).p, rfl, by omega, fun S5 f5 e5 => ?_⟩
        have sp5 := sp4.set j hj3 f5 (i' := endI C a G (m.write dd)) (endI_ok e5)
        walk_at "r0"
        exact h2 c0 dd _ ld sp5
end My

set_option Elab.async false
set_option linter.all false
set_option maxRecDepth 100000
set_option maxHeartbeats 8000000
namespace My
open PySem PySem.Spec PyProof.Rows L2 Wp Gn
local macro_rules | `(tactic| walk_at "go") => `(tactic| (with_reducible refine goS_i ?_))
local macro_rules | `(tactic| walk_at "wp") => `(tactic| simp (disch := omega) only [Wp.wSeq, Wp.wNext, Wp.wSet, Wp.wVar, Wp.wC, Wp.wOp, Wp.wRet, Wp.wIfS, Wp.wTest, Wp.wCall, Wp.wCons, Wp.wNil, Wp.wTup, Wp.wLst, Wp.wAsg, Wp.gTp, Wp.gC, Wp.gNm, Wp.gN0, Wp.gIx, Wp.rSet, Wp.rAdd, Wp.rMul, Wp.rMod, Wp.rSub, Wp.rFdiv, Wp.rPow, Wp.rInt, Wp.rIx, Wp.rLt, Wp.rLe, Wp.rCmp, Wp.rGeI, Wp.rGtI, Wp.wCB, Wp.rLen, Wp.rLen1, Wp.rInt1, Wp.rMax2, Wp.rMin2, Wp.rTupOf, Wp.rListOf,
  Wp.wIsi, Wp.rBIs, Wp.rIsN, Wp.isNon, Wp.wMt, Wp.rAppendT, Wp.rExtendT, Wp.rReverseT, Wp.wNot, Wp.wOr, Wp.wAnd, Wp.wAndV, Wp.wOrV, Wp.wNotV, Wp.wFor, Wp.iRg1, Wp.iRg2, Wp.iAnyW, Wp.wAll, Wp.wChain, Wp.wSl, Wp.wNoPart, Wp.wPart, Wp.rSl, Wp.wNeg, Wp.rNeg, Wp.wLc, Wp.wYes, Wp.wDrop, Wp.wipeT, Wp.wAug, List.map, List.set_cons_zero, List.set_cons_succ, List.getElem?_cons_zero, List.getElem?_cons_succ, List.length_cons, List.length_nil, List.cons_append, List.nil_append, List.replicate, Wp.startT,
  true_and, and_true, Wp.wif_true, Wp.wif_false, Wp.ex_some, Wp.ex_some1, Wp.ex_eq, Wp.ex_lst, Wp.ex_lst0, Wp.rEq_int, Bool.false_bne, Bool.true_bne, Int.reduceLT, Int.reduceLE, Int.reduceAdd, Nat.reduceAdd, Nat.reduceSub, eq_self, ite_true, ite_false, beq_self_eq_true, Bool.not_true, Bool.not_false, Wp.isB_0, Wp.isB_1, Wp.isB_2, Wp.isB_3, Wp.isB_4, Wp.isB_5, Wp.isB_6, Wp.isB_7, Wp.isB_8, Wp.isB_9, Wp.isB_10, Wp.isB_11, Wp.isB_12, Wp.isB_13, Wp.isB_14, Wp.isB_15, Wp.isB_16, Wp.isB_17, Wp.isB_18, Wp.isB_19, Wp.isB_20, Wp.isB_21, Wp.isB_22, Wp.isB_23, Wp.isB_24, Wp.isB_25, Wp.isB_26, Wp.isB_27, Wp.isB_28, Wp.isB_29, Wp.isB_30, Wp.isB_31, Wp.isB_32, Wp.isB_33, Wp.isB_34, Wp.isB_35, Wp.cmul_l, Wp.cmul_r, Wp.cpow_lit, Wp.size_le, Wp.size_lt, Wp.atI_0, Wp.atI_1, Wp.atI_2, Wp.atI_3, Wp.atI_4, Wp.atI_5, Wp.atI_6, Wp.ixN_0, Wp.ixN_1, Wp.ixN_2, Wp.itemsT, Wp.tyT, reduceIte, Wp.wFld, Wp.wFSet, Wp.wFAug, Wp.wMeth, Wp.wMake, Wp.rIxA, Wp.rInA, Wp.rSetA, Wp.ixA, Wp.inA, Wp.setA, Wp.lenA, Wp.getD, Option.map_some, Option.bind_some, Option.getD_some,  Wp.gIxA, Wp.wDNew, Wp.wDNewT, Wp.rLenA, Wp.rSortD, Wp.rMaxL, Wp.rPopL, Wp.rGet1, Wp.rGet2, Wp.wGet1, Wp.wGet2, Wp.wPop1, Wp.wPop2, Wp.wDel, Wp.isDT, Wp.keyT, Wp.keysT, Wp.keysL, Wp.ex_ins, Wp.ex_dct, Wp.wSrtIt, Wp.iRg3, Wp.rAddI, Wp.wIf, Wp.rExtT, Wp.wTestI, Wp.rGt, Wp.rMulA, Int.cast_ofNat_Int, Int.reduceBEq, lk_End__base, pt_End__base, lk_End__pending, pt_End__pending, lk_End__closed, pt_End__closed, lk_End__given, pt_End__given, lk_End__got, pt_End__got, lk_End__ended, pt_End__ended, lk_End__ahead, pt_End__ahead, lk_End__end, pt_End__end, no_End__keep, no_End__learn, no_End__take_in_order, no_End_close, no_End_due, no_End_has_end, no_End_is_given, no_End_picture, no_End_take, no_End_taken, no_End_write, ln_End, mk_End, Wp.rSortDA, Wp.wDisp, Wp.wPCons, Wp.wPNil, ix_out, ix_closed, ix_base, ix_given, ix_seen, ix_got, ix_ended, ix_end, st_closed, st_base, st_given, st_got, st_ended, st_end, sdL_len, Wp.upS, Wp.upS_upS, *])
local macro_rules | `(tactic| walk_at "run") => `(tactic| repeat (first | walk_at "wp" | walk_at "go"))
local macro_rules | `(tactic| walk_at "wq") => `(tactic| simp (disch := omega) only [Wp.wSeq, Wp.wNext, Wp.wSet, Wp.wVar, Wp.wC, Wp.wOp, Wp.wRet, Wp.wIfS, Wp.wTest, Wp.wCall, Wp.wCons, Wp.wNil, Wp.wTup, Wp.wLst, Wp.wAsg, Wp.gTp, Wp.gC, Wp.gNm, Wp.gN0, Wp.gIx, Wp.rSet, Wp.rAdd, Wp.rMul, Wp.rMod, Wp.rSub, Wp.rFdiv, Wp.rPow, Wp.rInt, Wp.rIx, Wp.rLt, Wp.rLe, Wp.rCmp, Wp.rGeI, Wp.rGtI, Wp.wCB, Wp.rLen, Wp.rLen1, Wp.rInt1, Wp.rMax2, Wp.rMin2, Wp.rTupOf, Wp.rListOf,
  Wp.wIsi, Wp.rBIs, Wp.rIsN, Wp.isNon, Wp.wMt, Wp.rAppendT, Wp.rExtendT, Wp.rReverseT, Wp.wNot, Wp.wOr, Wp.wAnd, Wp.wAndV, Wp.wOrV, Wp.wNotV, Wp.wFor, Wp.iRg1, Wp.iRg2, Wp.iAnyW, Wp.wAll, Wp.wChain, Wp.wSl, Wp.wNoPart, Wp.wPart, Wp.rSl, Wp.wNeg, Wp.rNeg, Wp.wLc, Wp.wYes, Wp.wDrop, Wp.wipeT, Wp.wAug, List.map, List.set_cons_zero, List.set_cons_succ, List.getElem?_cons_zero, List.getElem?_cons_succ, List.length_cons, List.length_nil, List.cons_append, List.nil_append, List.replicate, Wp.startT,
  true_and, and_true, Wp.wif_true, Wp.wif_false, Wp.ex_some, Wp.ex_some1, Wp.ex_eq, Wp.ex_lst, Wp.ex_lst0, Wp.rEq_int, Bool.false_bne, Bool.true_bne, Int.reduceLT, Int.reduceLE, Int.reduceAdd, Nat.reduceAdd, Nat.reduceSub, eq_self, ite_true, ite_false, beq_self_eq_true, Bool.not_true, Bool.not_false, Wp.isB_0, Wp.isB_1, Wp.isB_2, Wp.isB_3, Wp.isB_4, Wp.isB_5, Wp.isB_6, Wp.isB_7, Wp.isB_8, Wp.isB_9, Wp.isB_10, Wp.isB_11, Wp.isB_12, Wp.isB_13, Wp.isB_14, Wp.isB_15, Wp.isB_16, Wp.isB_17, Wp.isB_18, Wp.isB_19, Wp.isB_20, Wp.isB_21, Wp.isB_22, Wp.isB_23, Wp.isB_24, Wp.isB_25, Wp.isB_26, Wp.isB_27, Wp.isB_28, Wp.isB_29, Wp.isB_30, Wp.isB_31, Wp.isB_32, Wp.isB_33, Wp.isB_34, Wp.isB_35, Wp.cmul_l, Wp.cmul_r, Wp.cpow_lit, Wp.size_le, Wp.size_lt, Wp.atI_0, Wp.atI_1, Wp.atI_2, Wp.atI_3, Wp.atI_4, Wp.atI_5, Wp.atI_6, Wp.ixN_0, Wp.ixN_1, Wp.ixN_2, Wp.itemsT, Wp.tyT, reduceIte, Wp.wFld, Wp.wFSet, Wp.wFAug, Wp.wMeth, Wp.wMake, Wp.rIxA, Wp.rInA, Wp.rSetA, Wp.ixA, Wp.inA, Wp.setA, Wp.lenA, Wp.getD, Option.map_some, Option.bind_some, Option.getD_some,  Wp.gIxA, Wp.wDNew, Wp.wDNewT, Wp.rLenA, Wp.rSortD, Wp.rMaxL, Wp.rPopL, Wp.rGet1, Wp.rGet2, Wp.wGet1, Wp.wGet2, Wp.wPop1, Wp.wPop2, Wp.wDel, Wp.isDT, Wp.keyT, Wp.keysT, Wp.keysL, Wp.ex_ins, Wp.ex_dct, Wp.wSrtIt, Wp.iRg3, Wp.rAddI, Wp.wIf, Wp.rExtT, Wp.wTestI, Wp.rGt, Wp.rMulA, Int.cast_ofNat_Int, Int.reduceBEq, lk_End__base, pt_End__base, lk_End__pending, pt_End__pending, lk_End__closed, pt_End__closed, lk_End__given, pt_End__given, lk_End__got, pt_End__got, lk_End__ended, pt_End__ended, lk_End__ahead, pt_End__ahead, lk_End__end, pt_End__end, no_End__keep, no_End__learn, no_End__take_in_order, no_End_close, no_End_due, no_End_has_end, no_End_is_given, no_End_picture, no_End_take, no_End_taken, no_End_write, ln_End, mk_End, Wp.rSortDA, Wp.wDisp, Wp.wPCons, Wp.wPNil, ix_out, ix_closed, ix_base, ix_given, ix_seen, ix_got, ix_ended, ix_end, st_closed, st_base, st_given, st_got, st_ended, st_end, sdL_len, *])
local macro_rules | `(tactic| walk_at "r2") => `(tactic| repeat (first | walk_at "wq" | walk_at "go"))
local macro_rules | `(tactic| walk_at "w0") => `(tactic| simp (disch := omega) only [Wp.wSeq, Wp.wNext, Wp.wSet, Wp.wVar, Wp.wC, Wp.wOp, Wp.wRet, Wp.wIfS, Wp.wTest, Wp.wCall, Wp.wCons, Wp.wNil, Wp.wTup, Wp.wLst, Wp.wAsg, Wp.gTp, Wp.gC, Wp.gNm, Wp.gN0, Wp.gIx, Wp.rSet, Wp.rAdd, Wp.rMul, Wp.rMod, Wp.rSub, Wp.rFdiv, Wp.rPow, Wp.rInt, Wp.rIx, Wp.rLt, Wp.rLe, Wp.rCmp, Wp.rGeI, Wp.rGtI, Wp.wCB, Wp.rLen, Wp.rLen1, Wp.rInt1, Wp.rMax2, Wp.rMin2, Wp.rTupOf, Wp.rListOf,
  Wp.wIsi, Wp.rBIs, Wp.rIsN, Wp.isNon, Wp.wMt, Wp.rAppendT, Wp.rExtendT, Wp.rReverseT, Wp.wNot, Wp.wOr, Wp.wAnd, Wp.wAndV, Wp.wOrV, Wp.wNotV, Wp.wFor, Wp.iRg1, Wp.iRg2, Wp.iAnyW, Wp.wAll, Wp.wChain, Wp.wSl, Wp.wNoPart, Wp.wPart, Wp.rSl, Wp.wNeg, Wp.rNeg, Wp.wLc, Wp.wYes, Wp.wDrop, Wp.wipeT, Wp.wAug, List.map, List.set_cons_zero, List.set_cons_succ, List.getElem?_cons_zero, List.getElem?_cons_succ, List.length_cons, List.length_nil, List.cons_append, List.nil_append, List.replicate, Wp.startT,
  true_and, and_true, Wp.wif_true, Wp.wif_false, Wp.ex_some, Wp.ex_some1, Wp.ex_eq, Wp.ex_lst, Wp.ex_lst0, Wp.rEq_int, Bool.false_bne, Bool.true_bne, Int.reduceLT, Int.reduceLE, Int.reduceAdd, Nat.reduceAdd, Nat.reduceSub, eq_self, ite_true, ite_false, beq_self_eq_true, Bool.not_true, Bool.not_false, Wp.isB_0, Wp.isB_1, Wp.isB_2, Wp.isB_3, Wp.isB_4, Wp.isB_5, Wp.isB_6, Wp.isB_7, Wp.isB_8, Wp.isB_9, Wp.isB_10, Wp.isB_11, Wp.isB_12, Wp.isB_13, Wp.isB_14, Wp.isB_15, Wp.isB_16, Wp.isB_17, Wp.isB_18, Wp.isB_19, Wp.isB_20, Wp.isB_21, Wp.isB_22, Wp.isB_23, Wp.isB_24, Wp.isB_25, Wp.isB_26, Wp.isB_27, Wp.isB_28, Wp.isB_29, Wp.isB_30, Wp.isB_31, Wp.isB_32, Wp.isB_33, Wp.isB_34, Wp.isB_35, Wp.cmul_l, Wp.cmul_r, Wp.cpow_lit, Wp.size_le, Wp.size_lt, Wp.atI_0, Wp.atI_1, Wp.atI_2, Wp.atI_3, Wp.atI_4, Wp.atI_5, Wp.atI_6, Wp.ixN_0, Wp.ixN_1, Wp.ixN_2, Wp.itemsT, Wp.tyT, reduceIte, Wp.wFld, Wp.wFSet, Wp.wFAug, Wp.wMeth, Wp.wMake, Wp.rIxA, Wp.rInA, Wp.rSetA, Wp.ixA, Wp.inA, Wp.setA, Wp.lenA, Wp.getD, Option.map_some, Option.bind_some, Option.getD_some,  Wp.gIxA, Wp.wDNew, Wp.wDNewT, Wp.rLenA, Wp.rSortD, Wp.rMaxL, Wp.rPopL, Wp.rGet1, Wp.rGet2, Wp.wGet1, Wp.wGet2, Wp.wPop1, Wp.wPop2, Wp.wDel, Wp.isDT, Wp.keyT, Wp.keysT, Wp.keysL, Wp.ex_ins, Wp.ex_dct, Wp.wSrtIt, Wp.iRg3, Wp.rAddI, Wp.wIf, Wp.rExtT, Wp.wTestI, Wp.rGt, Wp.rMulA, Int.cast_ofNat_Int, Int.reduceBEq, lk_End__base, pt_End__base, lk_End__pending, pt_End__pending, lk_End__closed, pt_End__closed, lk_End__given, pt_End__given, lk_End__got, pt_End__got, lk_End__ended, pt_End__ended, lk_End__ahead, pt_End__ahead, lk_End__end, pt_End__end, no_End__keep, no_End__learn, no_End__take_in_order, no_End_close, no_End_due, no_End_has_end, no_End_is_given, no_End_picture, no_End_take, no_End_taken, no_End_write, ln_End, mk_End, Wp.rSortDA, Wp.wDisp, Wp.wPCons, Wp.wPNil, ix_out, ix_closed, ix_base, ix_given, ix_seen, ix_got, ix_ended, ix_end, st_closed, st_base, st_given, st_got, st_ended, st_end, sdL_len])
local macro_rules | `(tactic| walk_at "r0") => `(tactic| repeat (first | walk_at "w0" | walk_at "go"))
variable {C : Addr}
/-- a comprehension that leaves some out, no matter which -/
theorem compW_any {tt : WT} {te : WE} {i : Nat} {σ : Sl} {D : Addr} {Q : T → Sta → Prop} {stb : Sta → Prop} {S : Sta} (full : Prop) (hst : ∀ acc, stb (upS S D (.lst acc))) : ∀ (xs acc : List T),
    (∀ x ∈ xs, ∀ (acc' : List T) (R : Bool → Sta → Prop), (∀ b, (full → b = true) → R b (upS S D (.lst acc'))) → tt (σ.set i (some x)) (upS S D (.lst acc')) R) →
    (∀ x ∈ xs, ∀ (acc' : List T) (R : T → Sta → Prop), R x (upS S D (.lst acc')) → te (σ.set i (some x)) (upS S D (.lst acc')) R) →
    acc.length + xs.length ≤ 1000000 → (∀ l : List T, (∀ y ∈ l, y ∈ xs) → l.length ≤ xs.length → (full → l.length = xs.length) → Q (.ref D) (upS S D (.lst (acc ++ l)))) → compW (gNm i) tt te stb σ D Q xs (upS S D (.lst acc))
  | [], acc, _, _, _, q => by
    have := q [] (fun y hy => hy) (Nat.le_refl _) (fun _ => rfl)
    rw [List.append_nil] at this
    exact ⟨hst _, this⟩
  | x :: xs, acc, ht, he, hl, q => by
    rw [List.length_cons] at hl
    refine ⟨hst _, ht x List.mem_cons_self acc _ fun b hb => ?_⟩
    cases b
    · refine wif_f (compW_any full hst xs acc (fun y hy => ht y (List.mem_cons_of_mem _ hy)) (fun y hy => he y (List.mem_cons_of_mem _ hy)) (by omega) fun l hm hn hf => q l (fun y hy => List.mem_cons_of_mem _ (hm y hy)) (by rw [List.length_cons]; omega) fun z => (by cases hb z))
    · refine wif_t (he x List.mem_cons_self acc _ ⟨acc, upS_same, ?_, ?_⟩)
      · exact Nat.lt_of_lt_of_le (show acc.length < 10000000 by omega) (by rw [sizeLine_eq]; decide)
      · rw [upS_upS]
        refine compW_any full hst xs (acc ++ [x]) (fun y hy => ht y (List.mem_cons_of_mem _ hy)) (fun y hy => he y (List.mem_cons_of_mem _ hy)) ?_ fun l hm hn hf => ?_
        · rw [List.length_append, List.length_cons, List.length_nil]; omega
        · have := q (x :: l) (fun y hy => ?_) (by rw [List.length_cons, List.length_cons]; omega) (fun z => by rw [List.length_cons, List.length_cons, hf z])
          · rw [List.append_assoc]; exact this
          · rcases List.mem_cons.mp hy with rfl | z
            · exact List.mem_cons_self ..
            · exact List.mem_cons_of_mem _ (hm y z)
theorem rInDt_nil {x y : T} {S : Sta} {Q : T → Sta → Prop} (ey : see S y = .fl []) (hx : okT (see S x) = true) (dx : dqT (see S x) ≤ 50) (h : Q (.bl true) S) : rInDt true x y S Q := by
  obtain ⟨d, a1, a2, a3, a4⟩ := ok_toD _ hx
  refine ⟨d, [], a1, by rw [ey]; simp only [toD, toDs, Option.map_some], ?_, by decide, h⟩
  unfold SeqAt.shaped; rw [a2, Bool.true_and]; exact decide_eq_true (by omega)
theorem Sep.swap {S S' : Sta} {L : List It} {k : Nat} {i i' : It} (h : Sep S L) (e : L[k]? = some i) (g : Gr S S') (ok : i'.ok S') (n : ∀ x ∈ i'.F, S x = none) : Sep S' (L.set k i') := h.set k e (Frm.of_new g n) ok
abbrev l3 (C : Addr) : WS := l3_law C spBag5 (spInit C) spSide (spDraw true) (spLWr C) (spEndOf C) (spPic C) spSDue (spTake C) spSTake (spLSame C)
theorem row_k {Sx Rx d r : Addr} {ds ns : List T} {F : List Addr} {s : SM} {m : EM} {n : List Seg} {L : List It} {jd jr kn : Nat} {S : Sta} {D : WEnds} {v0 v1 v2 v5 v6 x8 : Option T}
    (sp : Sep S L) (hS : L[2]? = some (lstI Sx ds)) (hR : L[5]? = some (lstI Rx ns)) (hd : L[jd]? = some (sdI d F s)) (hr : L[jr]? = some (lstI r (n.map Seg.tr))) (a2 : ds[kn]? = some (.ref d)) (a3 : ns[kn]? = some (.ref r)) (b2 : ixN ns.length (kn : Int) = some kn)
    (nr : jr ≠ 5) (lk : Lik s m) (hc : s.closed = 0 ∨ s.closed = 1) (ho : s.out.length ≤ 4000) (ln : n.length ≤ 10000)
    (nx : ∀ (l : List Seg) r' S' x8, (∀ x ∈ l, x ∈ m.due) → l.length ≤ 4 → 0 < (n ++ l).length → Sep S' ((L.set jr (lstI r' ((n ++ l).map Seg.tr))).set 5 (lstI Rx (ns.set kn (.ref r')))) → D.nx [v0, v1, v2, some (.ref Sx), some (.ref Rx), v5, v6, some (.int (kn : Int)), x8] S') :
    l3 C D [v0, v1, v2, some (.ref Sx), some (.ref Rx), v5, v6, some (.int (kn : Int)), x8] S := by
  have eS : S Sx = some (.lst ds) := (sp.ok _ _ hS).p
  have eR : S Rx = some (.lst ns) := (sp.ok _ _ hR).p
  unfold l3 l3_law
  walk_at "r0"
  rw [eR]
  refine ⟨_, atI_lit.trans a3, ?_⟩
  rw [eS]
  refine ⟨_, atI_lit.trans a2, ?_⟩
  refine ⟨F, s, m, (sp.ok _ _ hd).p, lk, hc, ho, fun q S1 nq g1 e1 => ?_⟩
  have sp1 := sp.gr g1
  have eR1 := g1 _ _ eR
  refine ⟨_, e1, fun D1 hD => ?_⟩
  have ne1 : ∀ {x : Addr} {o : O}, S1 x = some o → x ≠ D1 := fun e z => by rw [z, hD] at e; cases e
  have er1 : S1 r = some (.lst (n.map Seg.tr)) := (sp1.ok _ _ hr).p
  have dl := due_len m
  refine compW_any (n = []) (fun acc => (upS_ne (ne1 e1)).trans e1) _ _ (fun x hx acc R hb => ?_) (fun x hx acc R h => ?_) (by rw [List.length_map, List.length_nil]; omega) (fun l hm hl hf => ?_)
  · obtain ⟨y, hy, rfl⟩ := List.mem_map.mp hx
    have eR2 : upS S1 D1 (.lst acc) Rx = some (.lst ns) := (upS_ne (ne1 eR1)).trans eR1
    have er2 : upS S1 D1 (.lst acc) r = some (.lst (n.map Seg.tr)) := (upS_ne (ne1 er1)).trans er1
    generalize upS S1 D1 (.lst acc) = S2 at eR2 er2 hb ⊢
    unfold l1_law
    walk_at "r0"
    rw [eR2]
    refine ⟨_, atI_lit.trans a3, ?_⟩
    have oy := ok_seg y
    have on := ok_segs n
    by_cases n0 : n = []
    · subst n0
      exact rInDt_nil (see_ref er2) oy.1 (by have : see S2 y.tr = y.tr := rfl; rw [this]; omega) (hb true fun _ => rfl)
    · exact rInDt_any (see_ref er2) oy.1 on.1 (by have : see S2 y.tr = y.tr := rfl; rw [this]; omega) (by omega) fun b => hb b fun z => absurd z n0
  · unfold l2_law
    walk_at "r0"
    exact h
  · obtain ⟨l2, rfl, hl2⟩ := segs_of l hm
    rw [List.length_map, List.length_map] at hl hf
    have pos : 0 < (n ++ l2).length := by
      rw [List.length_append]
      by_cases n0 : n = []
      · have d0 : m.due.length ≠ 0 := fun z => due_some m (List.eq_nil_of_length_eq_zero z)
        have := hf n0
        omega
      · have : n.length ≠ 0 := fun z => n0 (List.eq_nil_of_length_eq_zero z)
        omega
    have sp2 := sp1.gr (gr_new (o := .lst ([] ++ l2.map Seg.tr)) hD)
    have eR2 : upS S1 D1 (.lst ([] ++ l2.map Seg.tr)) Rx = some (.lst ns) := (upS_ne (ne1 eR1)).trans eR1
    have er2 : upS S1 D1 (.lst ([] ++ l2.map Seg.tr)) r = some (.lst (n.map Seg.tr)) := (upS_ne (ne1 er1)).trans er1
    have eD2 : upS S1 D1 (.lst ([] ++ l2.map Seg.tr)) D1 = some (.lst (l2.map Seg.tr)) := upS_same
    generalize upS S1 D1 (.lst ([] ++ l2.map Seg.tr)) = S2 at sp2 eR2 er2 eD2 ⊢
    refine ⟨_, er2, _, eD2, by rw [List.length_map, List.length_map]; exact le_sz (by omega), fun r' hr' => ?_⟩
    rw [← List.map_append]
    have sp3 := sp2.swap hr (gr_new (o := .lst ((n ++ l2).map Seg.tr)) hr') (i' := lstI r' ((n ++ l2).map Seg.tr)) (lstI_ok upS_same) (fun x hx => by simp only [lstI, List.mem_singleton] at hx; rw [hx]; exact hr')
    have hR3 : (L.set jr (lstI r' ((n ++ l2).map Seg.tr)))[5]? = some (lstI Rx ns) := at_ne hR nr
    have eR3 : upS S2 r' (.lst ((n ++ l2).map Seg.tr)) Rx = some (.lst ns) := (sp3.ok _ _ hR3).p
    simp only [eR3, b2, Option.map_some]
    refine ⟨_, rfl, ?_⟩
    exact nx l2 r' _ _ hl2 (by omega) pos (sp3.set 5 hR3 (Frm.up (by simp [lstI])) (lstI_ok upS_same))
end My

set_option Elab.async false
set_option linter.all false
set_option maxRecDepth 100000
set_option maxHeartbeats 8000000
namespace My
open PySem PySem.Spec PyProof.Rows L2 Wp Gn
local macro_rules | `(tactic| walk_at "go") => `(tactic| (with_reducible refine goS_i ?_))
local macro_rules | `(tactic| walk_at "wp") => `(tactic| simp (disch := omega) only [Wp.wSeq, Wp.wNext, Wp.wSet, Wp.wVar, Wp.wC, Wp.wOp, Wp.wRet, Wp.wIfS, Wp.wTest, Wp.wCall, Wp.wCons, Wp.wNil, Wp.wTup, Wp.wLst, Wp.wAsg, Wp.gTp, Wp.gC, Wp.gNm, Wp.gN0, Wp.gIx, Wp.rSet, Wp.rAdd, Wp.rMul, Wp.rMod, Wp.rSub, Wp.rFdiv, Wp.rPow, Wp.rInt, Wp.rIx, Wp.rLt, Wp.rLe, Wp.rCmp, Wp.rGeI, Wp.rGtI, Wp.wCB, Wp.rLen, Wp.rLen1, Wp.rInt1, Wp.rMax2, Wp.rMin2, Wp.rTupOf, Wp.rListOf,
  Wp.wIsi, Wp.rBIs, Wp.rIsN, Wp.isNon, Wp.wMt, Wp.rAppendT, Wp.rExtendT, Wp.rReverseT, Wp.wNot, Wp.wOr, Wp.wAnd, Wp.wAndV, Wp.wOrV, Wp.wNotV, Wp.wFor, Wp.iRg1, Wp.iRg2, Wp.iAnyW, Wp.wAll, Wp.wChain, Wp.wSl, Wp.wNoPart, Wp.wPart, Wp.rSl, Wp.wNeg, Wp.rNeg, Wp.wLc, Wp.wYes, Wp.wDrop, Wp.wipeT, Wp.wAug, List.map, List.set_cons_zero, List.set_cons_succ, List.getElem?_cons_zero, List.getElem?_cons_succ, List.length_cons, List.length_nil, List.cons_append, List.nil_append, List.replicate, Wp.startT,
  true_and, and_true, Wp.wif_true, Wp.wif_false, Wp.ex_some, Wp.ex_some1, Wp.ex_eq, Wp.ex_lst, Wp.ex_lst0, Wp.rEq_int, Bool.false_bne, Bool.true_bne, Int.reduceLT, Int.reduceLE, Int.reduceAdd, Nat.reduceAdd, Nat.reduceSub, eq_self, ite_true, ite_false, beq_self_eq_true, Bool.not_true, Bool.not_false, Wp.isB_0, Wp.isB_1, Wp.isB_2, Wp.isB_3, Wp.isB_4, Wp.isB_5, Wp.isB_6, Wp.isB_7, Wp.isB_8, Wp.isB_9, Wp.isB_10, Wp.isB_11, Wp.isB_12, Wp.isB_13, Wp.isB_14, Wp.isB_15, Wp.isB_16, Wp.isB_17, Wp.isB_18, Wp.isB_19, Wp.isB_20, Wp.isB_21, Wp.isB_22, Wp.isB_23, Wp.isB_24, Wp.isB_25, Wp.isB_26, Wp.isB_27, Wp.isB_28, Wp.isB_29, Wp.isB_30, Wp.isB_31, Wp.isB_32, Wp.isB_33, Wp.isB_34, Wp.isB_35, Wp.cmul_l, Wp.cmul_r, Wp.cpow_lit, Wp.size_le, Wp.size_lt, Wp.atI_0, Wp.atI_1, Wp.atI_2, Wp.atI_3, Wp.atI_4, Wp.atI_5, Wp.atI_6, Wp.ixN_0, Wp.ixN_1, Wp.ixN_2, Wp.itemsT, Wp.tyT, reduceIte, Wp.wFld, Wp.wFSet, Wp.wFAug, Wp.wMeth, Wp.wMake, Wp.rIxA, Wp.rInA, Wp.rSetA, Wp.ixA, Wp.inA, Wp.setA, Wp.lenA, Wp.getD, Option.map_some, Option.bind_some, Option.getD_some,  Wp.gIxA, Wp.wDNew, Wp.wDNewT, Wp.rLenA, Wp.rSortD, Wp.rMaxL, Wp.rPopL, Wp.rGet1, Wp.rGet2, Wp.wGet1, Wp.wGet2, Wp.wPop1, Wp.wPop2, Wp.wDel, Wp.isDT, Wp.keyT, Wp.keysT, Wp.keysL, Wp.ex_ins, Wp.ex_dct, Wp.wSrtIt, Wp.iRg3, Wp.rAddI, Wp.wIf, Wp.rExtT, Wp.wTestI, Wp.rGt, Wp.rMulA, Int.cast_ofNat_Int, Int.reduceBEq, lk_End__base, pt_End__base, lk_End__pending, pt_End__pending, lk_End__closed, pt_End__closed, lk_End__given, pt_End__given, lk_End__got, pt_End__got, lk_End__ended, pt_End__ended, lk_End__ahead, pt_End__ahead, lk_End__end, pt_End__end, no_End__keep, no_End__learn, no_End__take_in_order, no_End_close, no_End_due, no_End_has_end, no_End_is_given, no_End_picture, no_End_take, no_End_taken, no_End_write, ln_End, mk_End, Wp.rSortDA, Wp.wDisp, Wp.wPCons, Wp.wPNil, ix_out, ix_closed, ix_base, ix_given, ix_seen, ix_got, ix_ended, ix_end, st_closed, st_base, st_given, st_got, st_ended, st_end, sdL_len, Wp.upS, Wp.upS_upS, *])
local macro_rules | `(tactic| walk_at "run") => `(tactic| repeat (first | walk_at "wp" | walk_at "go"))
local macro_rules | `(tactic| walk_at "wq") => `(tactic| simp (disch := omega) only [Wp.wSeq, Wp.wNext, Wp.wSet, Wp.wVar, Wp.wC, Wp.wOp, Wp.wRet, Wp.wIfS, Wp.wTest, Wp.wCall, Wp.wCons, Wp.wNil, Wp.wTup, Wp.wLst, Wp.wAsg, Wp.gTp, Wp.gC, Wp.gNm, Wp.gN0, Wp.gIx, Wp.rSet, Wp.rAdd, Wp.rMul, Wp.rMod, Wp.rSub, Wp.rFdiv, Wp.rPow, Wp.rInt, Wp.rIx, Wp.rLt, Wp.rLe, Wp.rCmp, Wp.rGeI, Wp.rGtI, Wp.wCB, Wp.rLen, Wp.rLen1, Wp.rInt1, Wp.rMax2, Wp.rMin2, Wp.rTupOf, Wp.rListOf,
  Wp.wIsi, Wp.rBIs, Wp.rIsN, Wp.isNon, Wp.wMt, Wp.rAppendT, Wp.rExtendT, Wp.rReverseT, Wp.wNot, Wp.wOr, Wp.wAnd, Wp.wAndV, Wp.wOrV, Wp.wNotV, Wp.wFor, Wp.iRg1, Wp.iRg2, Wp.iAnyW, Wp.wAll, Wp.wChain, Wp.wSl, Wp.wNoPart, Wp.wPart, Wp.rSl, Wp.wNeg, Wp.rNeg, Wp.wLc, Wp.wYes, Wp.wDrop, Wp.wipeT, Wp.wAug, List.map, List.set_cons_zero, List.set_cons_succ, List.getElem?_cons_zero, List.getElem?_cons_succ, List.length_cons, List.length_nil, List.cons_append, List.nil_append, List.replicate, Wp.startT,
  true_and, and_true, Wp.wif_true, Wp.wif_false, Wp.ex_some, Wp.ex_some1, Wp.ex_eq, Wp.ex_lst, Wp.ex_lst0, Wp.rEq_int, Bool.false_bne, Bool.true_bne, Int.reduceLT, Int.reduceLE, Int.reduceAdd, Nat.reduceAdd, Nat.reduceSub, eq_self, ite_true, ite_false, beq_self_eq_true, Bool.not_true, Bool.not_false, Wp.isB_0, Wp.isB_1, Wp.isB_2, Wp.isB_3, Wp.isB_4, Wp.isB_5, Wp.isB_6, Wp.isB_7, Wp.isB_8, Wp.isB_9, Wp.isB_10, Wp.isB_11, Wp.isB_12, Wp.isB_13, Wp.isB_14, Wp.isB_15, Wp.isB_16, Wp.isB_17, Wp.isB_18, Wp.isB_19, Wp.isB_20, Wp.isB_21, Wp.isB_22, Wp.isB_23, Wp.isB_24, Wp.isB_25, Wp.isB_26, Wp.isB_27, Wp.isB_28, Wp.isB_29, Wp.isB_30, Wp.isB_31, Wp.isB_32, Wp.isB_33, Wp.isB_34, Wp.isB_35, Wp.cmul_l, Wp.cmul_r, Wp.cpow_lit, Wp.size_le, Wp.size_lt, Wp.atI_0, Wp.atI_1, Wp.atI_2, Wp.atI_3, Wp.atI_4, Wp.atI_5, Wp.atI_6, Wp.ixN_0, Wp.ixN_1, Wp.ixN_2, Wp.itemsT, Wp.tyT, reduceIte, Wp.wFld, Wp.wFSet, Wp.wFAug, Wp.wMeth, Wp.wMake, Wp.rIxA, Wp.rInA, Wp.rSetA, Wp.ixA, Wp.inA, Wp.setA, Wp.lenA, Wp.getD, Option.map_some, Option.bind_some, Option.getD_some,  Wp.gIxA, Wp.wDNew, Wp.wDNewT, Wp.rLenA, Wp.rSortD, Wp.rMaxL, Wp.rPopL, Wp.rGet1, Wp.rGet2, Wp.wGet1, Wp.wGet2, Wp.wPop1, Wp.wPop2, Wp.wDel, Wp.isDT, Wp.keyT, Wp.keysT, Wp.keysL, Wp.ex_ins, Wp.ex_dct, Wp.wSrtIt, Wp.iRg3, Wp.rAddI, Wp.wIf, Wp.rExtT, Wp.wTestI, Wp.rGt, Wp.rMulA, Int.cast_ofNat_Int, Int.reduceBEq, lk_End__base, pt_End__base, lk_End__pending, pt_End__pending, lk_End__closed, pt_End__closed, lk_End__given, pt_End__given, lk_End__got, pt_End__got, lk_End__ended, pt_End__ended, lk_End__ahead, pt_End__ahead, lk_End__end, pt_End__end, no_End__keep, no_End__learn, no_End__take_in_order, no_End_close, no_End_due, no_End_has_end, no_End_is_given, no_End_picture, no_End_take, no_End_taken, no_End_write, ln_End, mk_End, Wp.rSortDA, Wp.wDisp, Wp.wPCons, Wp.wPNil, ix_out, ix_closed, ix_base, ix_given, ix_seen, ix_got, ix_ended, ix_end, st_closed, st_base, st_given, st_got, st_ended, st_end, sdL_len, *])
local macro_rules | `(tactic| walk_at "r2") => `(tactic| repeat (first | walk_at "wq" | walk_at "go"))
local macro_rules | `(tactic| walk_at "w0") => `(tactic| simp (disch := omega) only [Wp.wSeq, Wp.wNext, Wp.wSet, Wp.wVar, Wp.wC, Wp.wOp, Wp.wRet, Wp.wIfS, Wp.wTest, Wp.wCall, Wp.wCons, Wp.wNil, Wp.wTup, Wp.wLst, Wp.wAsg, Wp.gTp, Wp.gC, Wp.gNm, Wp.gN0, Wp.gIx, Wp.rSet, Wp.rAdd, Wp.rMul, Wp.rMod, Wp.rSub, Wp.rFdiv, Wp.rPow, Wp.rInt, Wp.rIx, Wp.rLt, Wp.rLe, Wp.rCmp, Wp.rGeI, Wp.rGtI, Wp.wCB, Wp.rLen, Wp.rLen1, Wp.rInt1, Wp.rMax2, Wp.rMin2, Wp.rTupOf, Wp.rListOf,
  Wp.wIsi, Wp.rBIs, Wp.rIsN, Wp.isNon, Wp.wMt, Wp.rAppendT, Wp.rExtendT, Wp.rReverseT, Wp.wNot, Wp.wOr, Wp.wAnd, Wp.wAndV, Wp.wOrV, Wp.wNotV, Wp.wFor, Wp.iRg1, Wp.iRg2, Wp.iAnyW, Wp.wAll, Wp.wChain, Wp.wSl, Wp.wNoPart, Wp.wPart, Wp.rSl, Wp.wNeg, Wp.rNeg, Wp.wLc, Wp.wYes, Wp.wDrop, Wp.wipeT, Wp.wAug, List.map, List.set_cons_zero, List.set_cons_succ, List.getElem?_cons_zero, List.getElem?_cons_succ, List.length_cons, List.length_nil, List.cons_append, List.nil_append, List.replicate, Wp.startT,
  true_and, and_true, Wp.wif_true, Wp.wif_false, Wp.ex_some, Wp.ex_some1, Wp.ex_eq, Wp.ex_lst, Wp.ex_lst0, Wp.rEq_int, Bool.false_bne, Bool.true_bne, Int.reduceLT, Int.reduceLE, Int.reduceAdd, Nat.reduceAdd, Nat.reduceSub, eq_self, ite_true, ite_false, beq_self_eq_true, Bool.not_true, Bool.not_false, Wp.isB_0, Wp.isB_1, Wp.isB_2, Wp.isB_3, Wp.isB_4, Wp.isB_5, Wp.isB_6, Wp.isB_7, Wp.isB_8, Wp.isB_9, Wp.isB_10, Wp.isB_11, Wp.isB_12, Wp.isB_13, Wp.isB_14, Wp.isB_15, Wp.isB_16, Wp.isB_17, Wp.isB_18, Wp.isB_19, Wp.isB_20, Wp.isB_21, Wp.isB_22, Wp.isB_23, Wp.isB_24, Wp.isB_25, Wp.isB_26, Wp.isB_27, Wp.isB_28, Wp.isB_29, Wp.isB_30, Wp.isB_31, Wp.isB_32, Wp.isB_33, Wp.isB_34, Wp.isB_35, Wp.cmul_l, Wp.cmul_r, Wp.cpow_lit, Wp.size_le, Wp.size_lt, Wp.atI_0, Wp.atI_1, Wp.atI_2, Wp.atI_3, Wp.atI_4, Wp.atI_5, Wp.atI_6, Wp.ixN_0, Wp.ixN_1, Wp.ixN_2, Wp.itemsT, Wp.tyT, reduceIte, Wp.wFld, Wp.wFSet, Wp.wFAug, Wp.wMeth, Wp.wMake, Wp.rIxA, Wp.rInA, Wp.rSetA, Wp.ixA, Wp.inA, Wp.setA, Wp.lenA, Wp.getD, Option.map_some, Option.bind_some, Option.getD_some,  Wp.gIxA, Wp.wDNew, Wp.wDNewT, Wp.rLenA, Wp.rSortD, Wp.rMaxL, Wp.rPopL, Wp.rGet1, Wp.rGet2, Wp.wGet1, Wp.wGet2, Wp.wPop1, Wp.wPop2, Wp.wDel, Wp.isDT, Wp.keyT, Wp.keysT, Wp.keysL, Wp.ex_ins, Wp.ex_dct, Wp.wSrtIt, Wp.iRg3, Wp.rAddI, Wp.wIf, Wp.rExtT, Wp.wTestI, Wp.rGt, Wp.rMulA, Int.cast_ofNat_Int, Int.reduceBEq, lk_End__base, pt_End__base, lk_End__pending, pt_End__pending, lk_End__closed, pt_End__closed, lk_End__given, pt_End__given, lk_End__got, pt_End__got, lk_End__ended, pt_End__ended, lk_End__ahead, pt_End__ahead, lk_End__end, pt_End__end, no_End__keep, no_End__learn, no_End__take_in_order, no_End_close, no_End_due, no_End_has_end, no_End_is_given, no_End_picture, no_End_take, no_End_taken, no_End_write, ln_End, mk_End, Wp.rSortDA, Wp.wDisp, Wp.wPCons, Wp.wPNil, ix_out, ix_closed, ix_base, ix_given, ix_seen, ix_got, ix_ended, ix_end, st_closed, st_base, st_given, st_got, st_ended, st_end, sdL_len])
local macro_rules | `(tactic| walk_at "r0") => `(tactic| repeat (first | walk_at "w0" | walk_at "go"))
variable {C : Addr}
/-! ### the law's turn, in pieces -/
def w1P (C : Addr) : WS := wIfS (wAnd (wTest (wOp rLt (wVar 6) (wC (.int 3)))) (wNot (wTest (wCall 3 (spLWr C) (wCons (wVar 1) (wCons (wOp rIxA (wLst (wCons (wVar 2) (wCons (wC .non) wNil))) (wCB rInt1 (wCons (wOp rGt (wVar 6) (wC (.int 0))) wNil))) (wCons (wOp rIxA (wVar 3) (wCB rInt1 (wCons (wOp rGt (wVar 6) (wC (.int 0))) wNil))) wNil))))))) (wRet (wC (.bl false))) wNext
def w2P (C : Addr) : WS := wIfS (wTest (wOp (rEq false) (wVar 6) (wC (.int 3)))) (wSet 2 (wCall 1 (spEndOf C) (wCons (wMeth C "picture" 1 (spPic C) (wVar 2) wNil) wNil))) wNext
def foP (C : Addr) : WS := wFor (iRg1 (wCons (wC (.int 2)) wNil)) (gNm 7) (l3 C)
def kP : WS := wSet 7 (wCB rInt1 (wCons (wOp rGt (wVar 6) (wC (.int 6))) wNil))
def roP : WS := wSet 8 (wOp rIxA (wOp rIxA (wVar 4) (wVar 7)) (wOp rIxA (wLst (wCons (wCall 2 (spDraw true) (wCons (wVar 1) (wCons (wCB rLenA (wCons (wOp rIxA (wVar 4) (wVar 7)) wNil)) wNil))) (wCons (wOp rSub (wCB rLenA (wCons (wOp rIxA (wVar 4) (wVar 7)) wNil)) (wC (.int 1))) wNil))) (wCall 2 (spDraw true) (wCons (wVar 1) (wCons (wC (.int 2)) wNil)))))
def t1P (C : Addr) : WS := wIfS (wAnd (wTest (wOp rGt (wVar 6) (wC (.int 6)))) (wTest (wOp (rEq true) (wMeth C "take" 5 (spTake C) (wVar 2) (wCons (wOp rIxA (wVar 8) (wC (.int 0))) (wCons (wOp rIxA (wVar 8) (wC (.int 1))) (wCons (wOp rIxA (wVar 8) (wC (.int 2))) (wCons (wOp rIxA (wVar 8) (wC (.int 3))) wNil))))) (wCall 2 spSTake (wCons (wOp rIxA (wVar 3) (wC (.int 0))) (wCons (wVar 8) wNil)))))) (wRet (wC (.bl false))) wNext
def t2P : WS := wIfS (wAnd (wTest (wOp rGt (wVar 6) (wC (.int 3)))) (wTest (wOp rLt (wVar 6) (wC (.int 7))))) (wDrop (wCall 2 spSTake (wCons (wOp rIxA (wVar 3) (wC (.int 1))) (wCons (wVar 8) wNil)))) wNext
def saP (C : Addr) : WS := wIfS (wNot (wTest (wCall 2 (spLSame C) (wCons (wVar 2) (wCons (wOp rIxA (wVar 3) (wC (.int 0))) wNil))))) (wRet (wC (.bl false))) wNext
abbrev l4 (C : Addr) : WS := l4_law C spBag5 (spInit C) spSide (spDraw true) (spLWr C) (spEndOf C) (spPic C) spSDue (spTake C) spSTake (spLSame C)
def reP (C : Addr) : WS := wSeq (w1P C) (wSeq (w2P C) (wSeq (foP C) (wSeq kP (wSeq roP (wSeq (t1P C) (wSeq t2P (saP C)))))))
theorem l4_is : l4 C = wSeq (wSet 6 (wCall 2 (spDraw true) (wCons (wVar 1) (wCons (wC (.int 10)) wNil)))) (reP C) := rfl
/-- all that the law has -/
structure D13 where
  a : Addr
  F : List Addr
  m0 : EM
  m1 : EM
  s0 : SM
  s1 : SM
  w0 : Side
  w1 : Side
  n0 : List Seg
  n1 : List Seg
  r0 : Addr
  r1 : Addr
def L13 (C p q Sx d0 d1 Rx : Addr) (F0 F1 : List Addr) (W : D13) : List It := [bagI p q, endI C W.a W.F W.m0, lstI Sx [.ref d0, .ref d1], sdI d0 F0 W.s0, sdI d1 F1 W.s1, lstI Rx [.ref W.r0, .ref W.r1], lstI W.r0 (W.n0.map Seg.tr), lstI W.r1 (W.n1.map Seg.tr)]
structure B13 (W : D13) (i j : Nat) : Prop where
  e : Pr W.m0 W.m1 W.s0 W.s1 W.w0 W.w1 W.n1
  f : Pr W.m1 W.m0 W.s1 W.s0 W.w1 W.w0 W.n0
  l0 : W.n0.length ≤ 4 * i
  l1 : W.n1.length ≤ 4 * i
  u0 : W.s0.out.length ≤ 40 * j
  u1 : W.s1.out.length ≤ 40 * j
theorem Pr.facts {m mo : EM} {s so : SM} {w wo : Side} {n : List Seg} (h : Pr m mo s so w wo n) : srtd m.ahead ∧ (∀ e ∈ m.ahead, m.got ≤ e.1) ∧ (m.ended = 0 ∨ m.ended = 1) ∧ (m.given = 0 ∨ m.given = 1) := by
  obtain ⟨D, e, g, r, _⟩ := h.d.r
  refine ⟨r.s, fun y hy => ?_, ?_, ?_⟩
  · obtain ⟨k, _, b, _, d⟩ := (r.mem y).mp hy
    rw [d, r.got]
    show (g : Int) ≤ k
    omega
  · rcases r.ended with z | ⟨z, _⟩
    · exact .inl z
    · exact .inr z
  · rcases h.d.gv with z | ⟨z, _⟩
    · exact .inl z
    · exact .inr z
section
variable {p q Sx d0 d1 Rx : Addr} {F0 F1 : List Addr} {W : D13} {i j : Nat} {D : WEnds} {v0 v5 v7 v8 : Option T} {pick : Int} {S : Sta}
theorem sa_ok (sp : Sep S (L13 C p q Sx d0 d1 Rx F0 F1 W)) (b : B13 W i j)
    (nx : ∀ S', Sep S' (L13 C p q Sx d0 d1 Rx F0 F1 W) → D.nx [v0, some (.ref p), some (.ref W.a), some (.ref Sx), some (.ref Rx), v5, some (.int pick), v7, v8] S') :
    saP C D [v0, some (.ref p), some (.ref W.a), some (.ref Sx), some (.ref Rx), v5, some (.int pick), v7, v8] S := by
  have eS : S Sx = some (.lst [.ref d0, .ref d1]) := (sp.ok 2 _ rfl).p
  obtain ⟨f1, f2, f3, f4⟩ := b.e.facts
  unfold saP
  walk_at "r0"
  rw [eS]
  walk_at "r0"
  refine ⟨W.F, W.m0, F0, W.s0, (sp.ok 1 _ rfl).p, (sp.ok 3 _ rfl).p, b.e.k, b.e.cl, b.e.lo, f1, f2, f3, f4, b.e.sb, fun S' g => ?_⟩
  walk_at "r0"
  exact nx S' (sp.gr g)
theorem t2_ok {x : Seg} (sp : Sep S (L13 C p q Sx d0 d1 Rx F0 F1 W)) (b : B13 W i j) (hx : pick < 7 → x ∈ W.n0)
    (nx : ∀ W' S', Sep S' (L13 C p q Sx d0 d1 Rx F0 F1 W') → B13 W' i j → D.nx [v0, some (.ref p), some (.ref W'.a), some (.ref Sx), some (.ref Rx), v5, some (.int pick), v7, some x.tr] S') :
    t2P D [v0, some (.ref p), some (.ref W.a), some (.ref Sx), some (.ref Rx), v5, some (.int pick), v7, some x.tr] S := by
  have eS : S Sx = some (.lst [.ref d0, .ref d1]) := (sp.ok 2 _ rfl).p
  unfold t2P
  walk_at "r0"
  refine if_dec (fun _ => ?_) (fun _ => ?_)
  · try walk_at "r0"
    refine if_dec (fun h7 => ?_) (fun _ => ?_)
    · have xm := hx h7
      obtain ⟨z1, z2, z3⟩ := b.f.size b.e.d.lo xm
      walk_at "r0"
      rw [eS]
      walk_at "r0"
      refine ⟨F1, W.s1, x, (sp.ok 4 _ rfl).p, rfl, z1, b.f.lo, z2, z3, b.f.sb, fun S' f' sd => ?_⟩
      walk_at "r0"
      have t1 := (b.f.take1 b.e xm).1
      have t2 := b.f.take2 b.e xm
      exact nx { W with m1 := W.m1.takeS x, s1 := W.s1.take x, w1 := W.w1.take W.m1 x } S' (sp.set 4 rfl f' (i' := sdI d1 F1 (W.s1.take x)) (sdI_ok sd)) ⟨t2, t1, b.l0, b.l1, b.u0, b.u1⟩
    · try walk_at "r0"
      exact nx W S sp b
  · try walk_at "r0"
    exact nx W S sp b
theorem t1_ok {x : Seg} (sp : Sep S (L13 C p q Sx d0 d1 Rx F0 F1 W)) (b : B13 W i j) (hx : pick > 6 → x ∈ W.n1)
    (nx : ∀ W' S', Sep S' (L13 C p q Sx d0 d1 Rx F0 F1 W') → B13 W' i j → W'.n0 = W.n0 → D.nx [v0, some (.ref p), some (.ref W'.a), some (.ref Sx), some (.ref Rx), v5, some (.int pick), v7, some x.tr] S') :
    t1P C D [v0, some (.ref p), some (.ref W.a), some (.ref Sx), some (.ref Rx), v5, some (.int pick), v7, some x.tr] S := by
  have eS : S Sx = some (.lst [.ref d0, .ref d1]) := (sp.ok 2 _ rfl).p
  obtain ⟨lp, la, k0⟩ := insE (sp.ok 1 _ rfl).p
  unfold t1P
  walk_at "r0"
  refine if_dec (fun h7 => ?_) (fun _ => ?_)
  · have xm := hx h7
    obtain ⟨z1, z2, z3⟩ := b.e.size b.f.d.lo xm
    have t1 := b.e.take1 b.f xm
    have t2 := b.e.take2 b.f xm
    unfold Seg.tr
    walk_at "r0"
    rw [k0]
    walk_at "r0"
    refine ⟨W.F, W.m0, x.d, (sp.ok 1 _ rfl).p, b.e.d.wf b.f.d.lo, rfl, by omega, ⟨by omega, by omega⟩, fun S1 G f1 e1 => ?_⟩
    have sp1 := sp.set 1 rfl f1 (i' := endI C W.a G (W.m0.takeS x)) (endI_ok e1)
    have eS1 : S1 Sx = some (.lst [.ref d0, .ref d1]) := (sp1.ok 2 _ rfl).p
    simp only [eS1]
    refine ⟨_, rfl, ?_⟩
    refine ⟨F0, W.s0, x, (sp1.ok 3 _ rfl).p, rfl, z1, b.e.lo, z2, z3, b.e.sb, fun S2 f2 sd => ?_⟩
    have sp2 := sp1.set 3 rfl f2 (i' := sdI d0 F0 (W.s0.take x)) (sdI_ok sd)
    rw [← t1.2]
    refine ints_same ?_
    walk_at "r0"
    exact nx { W with F := G, m0 := W.m0.takeS x, s0 := W.s0.take x, w0 := W.w0.take W.m0 x } S2 sp2 ⟨t1.1, t2, b.l0, b.l1, b.u0, b.u1⟩ rfl
  · try walk_at "r0"
    exact nx W S sp b rfl
theorem ro_ok {n : List Seg} {r : Addr} {kn : Nat} (sp : Sep S (L13 C p q Sx d0 d1 Rx F0 F1 W)) (a1 : [T.ref W.r0, T.ref W.r1][kn]? = some (.ref r)) (a2 : ∃ k : Nat, (L13 C p q Sx d0 d1 Rx F0 F1 W)[k]? = some (lstI r (n.map Seg.tr))) (pos : 0 < n.length) (ln : n.length ≤ 10000)
    (nx : ∀ (x : Seg) S', x ∈ n → Sep S' (L13 C p q Sx d0 d1 Rx F0 F1 W) → D.nx [v0, some (.ref p), some (.ref W.a), some (.ref Sx), some (.ref Rx), v5, some (.int pick), some (.int (kn : Int)), some x.tr] S') :
    roP D [v0, some (.ref p), some (.ref W.a), some (.ref Sx), some (.ref Rx), v5, some (.int pick), some (.int (kn : Int)), v8] S := by
  have eR : S Rx = some (.lst [.ref W.r0, .ref W.r1]) := (sp.ok 5 _ rfl).p
  obtain ⟨k, hk⟩ := a2
  have er : S r = some (.lst (n.map Seg.tr)) := (sp.ok k _ hk).p
  unfold roP
  walk_at "r0"
  rw [eR]
  walk_at "r0"
  refine ⟨_, atI_lit.trans a1, _, atI_lit.trans a1, ?_⟩
  simp only [er]
  refine ⟨_, rfl, some q, rfl, (sp.ok 0 _ rfl).p, by rw [List.length_map]; omega, by rw [List.length_map]; omega, fun d S1 dd0 dd1 g1 => ?_⟩
  have sp1 := sp.draw (k := 0) rfl g1
  have eR1 : S1 Rx = some (.lst [.ref W.r0, .ref W.r1]) := (sp1.ok 5 _ rfl).p
  have er1 : S1 r = some (.lst (n.map Seg.tr)) := (sp1.ok k _ hk).p
  simp only [eR1]
  refine ⟨_, atI_lit.trans a1, ?_⟩
  simp only [er1]
  refine ⟨_, rfl, ?_⟩
  walk_at "r0"
  intro z hz
  rw [List.length_map] at dd1 ⊢
  have sp2 := sp1.gr (gr_new (o := .lst [T.int d, T.int ((n.length : Int) - 1)]) hz)
  have ez : upS S1 z (.lst [T.int d, T.int ((n.length : Int) - 1)]) z = some (.lst [T.int d, T.int ((n.length : Int) - 1)]) := upS_same
  have nzp : z ≠ p := new_ne (show IsBag (some q) S1 p from (sp1.ok 0 _ rfl).p) hz
  generalize upS S1 z (.lst [T.int d, T.int ((n.length : Int) - 1)]) = S2 at sp2 ez ⊢
  refine ⟨some q, rfl, (sp2.ok 0 _ rfl).p, by omega, by omega, fun e S3 e0 e1 g3 => ?_⟩
  have sp3 := sp2.draw (k := 0) rfl g3
  have ez3 := g3.keep z _ ez nzp
  have er3 : S3 r = some (.lst (n.map Seg.tr)) := (sp3.ok k _ hk).p
  simp only [ez3]
  obtain ⟨v, hv, v0, v1⟩ : ∃ v : Int, atI [T.int d, T.int ((n.length : Int) - 1)] e = some (.int v) ∧ 0 ≤ v ∧ v < n.length := by
    have : e = 0 ∨ e = 1 := by omega
    rcases this with rfl | rfl
    · exact ⟨d, atI_0.trans rfl, dd0, dd1⟩
    · exact ⟨(n.length : Int) - 1, atI_1.trans rfl, by omega, by omega⟩
  refine ⟨_, hv, ?_⟩
  simp only [er3]
  obtain ⟨w, hw, hm⟩ := atI_in (xs := n.map Seg.tr) v0 (by simpa using v1)
  obtain ⟨x, xm, rfl⟩ := List.mem_map.mp hm
  exact ⟨_, hw, nx x S3 xm sp3⟩
end
end My

set_option Elab.async false
set_option linter.all false
set_option maxRecDepth 100000
set_option maxHeartbeats 8000000
namespace My
open PySem PySem.Spec PyProof.Rows L2 Wp Gn
local macro_rules | `(tactic| walk_at "go") => `(tactic| (with_reducible refine goS_i ?_))
local macro_rules | `(tactic| walk_at "wp") => `(tactic| simp (disch := omega) only [Wp.wSeq, Wp.wNext, Wp.wSet, Wp.wVar, Wp.wC, Wp.wOp, Wp.wRet, Wp.wIfS, Wp.wTest, Wp.wCall, Wp.wCons, Wp.wNil, Wp.wTup, Wp.wLst, Wp.wAsg, Wp.gTp, Wp.gC, Wp.gNm, Wp.gN0, Wp.gIx, Wp.rSet, Wp.rAdd, Wp.rMul, Wp.rMod, Wp.rSub, Wp.rFdiv, Wp.rPow, Wp.rInt, Wp.rIx, Wp.rLt, Wp.rLe, Wp.rCmp, Wp.rGeI, Wp.rGtI, Wp.wCB, Wp.rLen, Wp.rLen1, Wp.rInt1, Wp.rMax2, Wp.rMin2, Wp.rTupOf, Wp.rListOf,
  Wp.wIsi, Wp.rBIs, Wp.rIsN, Wp.isNon, Wp.wMt, Wp.rAppendT, Wp.rExtendT, Wp.rReverseT, Wp.wNot, Wp.wOr, Wp.wAnd, Wp.wAndV, Wp.wOrV, Wp.wNotV, Wp.wFor, Wp.iRg1, Wp.iRg2, Wp.iAnyW, Wp.wAll, Wp.wChain, Wp.wSl, Wp.wNoPart, Wp.wPart, Wp.rSl, Wp.wNeg, Wp.rNeg, Wp.wLc, Wp.wYes, Wp.wDrop, Wp.wipeT, Wp.wAug, List.map, List.set_cons_zero, List.set_cons_succ, List.getElem?_cons_zero, List.getElem?_cons_succ, List.length_cons, List.length_nil, List.cons_append, List.nil_append, List.replicate, Wp.startT,
  true_and, and_true, Wp.wif_true, Wp.wif_false, Wp.ex_some, Wp.ex_some1, Wp.ex_eq, Wp.ex_lst, Wp.ex_lst0, Wp.rEq_int, Bool.false_bne, Bool.true_bne, Int.reduceLT, Int.reduceLE, Int.reduceAdd, Nat.reduceAdd, Nat.reduceSub, eq_self, ite_true, ite_false, beq_self_eq_true, Bool.not_true, Bool.not_false, Wp.isB_0, Wp.isB_1, Wp.isB_2, Wp.isB_3, Wp.isB_4, Wp.isB_5, Wp.isB_6, Wp.isB_7, Wp.isB_8, Wp.isB_9, Wp.isB_10, Wp.isB_11, Wp.isB_12, Wp.isB_13, Wp.isB_14, Wp.isB_15, Wp.isB_16, Wp.isB_17, Wp.isB_18, Wp.isB_19, Wp.isB_20, Wp.isB_21, Wp.isB_22, Wp.isB_23, Wp.isB_24, Wp.isB_25, Wp.isB_26, Wp.isB_27, Wp.isB_28, Wp.isB_29, Wp.isB_30, Wp.isB_31, Wp.isB_32, Wp.isB_33, Wp.isB_34, Wp.isB_35, Wp.cmul_l, Wp.cmul_r, Wp.cpow_lit, Wp.size_le, Wp.size_lt, Wp.atI_0, Wp.atI_1, Wp.atI_2, Wp.atI_3, Wp.atI_4, Wp.atI_5, Wp.atI_6, Wp.ixN_0, Wp.ixN_1, Wp.ixN_2, Wp.itemsT, Wp.tyT, reduceIte, Wp.wFld, Wp.wFSet, Wp.wFAug, Wp.wMeth, Wp.wMake, Wp.rIxA, Wp.rInA, Wp.rSetA, Wp.ixA, Wp.inA, Wp.setA, Wp.lenA, Wp.getD, Option.map_some, Option.bind_some, Option.getD_some,  Wp.gIxA, Wp.wDNew, Wp.wDNewT, Wp.rLenA, Wp.rSortD, Wp.rMaxL, Wp.rPopL, Wp.rGet1, Wp.rGet2, Wp.wGet1, Wp.wGet2, Wp.wPop1, Wp.wPop2, Wp.wDel, Wp.isDT, Wp.keyT, Wp.keysT, Wp.keysL, Wp.ex_ins, Wp.ex_dct, Wp.wSrtIt, Wp.iRg3, Wp.rAddI, Wp.wIf, Wp.rExtT, Wp.wTestI, Wp.rGt, Wp.rMulA, Int.cast_ofNat_Int, Int.reduceBEq, lk_End__base, pt_End__base, lk_End__pending, pt_End__pending, lk_End__closed, pt_End__closed, lk_End__given, pt_End__given, lk_End__got, pt_End__got, lk_End__ended, pt_End__ended, lk_End__ahead, pt_End__ahead, lk_End__end, pt_End__end, no_End__keep, no_End__learn, no_End__take_in_order, no_End_close, no_End_due, no_End_has_end, no_End_is_given, no_End_picture, no_End_take, no_End_taken, no_End_write, ln_End, mk_End, Wp.rSortDA, Wp.wDisp, Wp.wPCons, Wp.wPNil, ix_out, ix_closed, ix_base, ix_given, ix_seen, ix_got, ix_ended, ix_end, st_closed, st_base, st_given, st_got, st_ended, st_end, sdL_len, Wp.upS, Wp.upS_upS, *])
local macro_rules | `(tactic| walk_at "run") => `(tactic| repeat (first | walk_at "wp" | walk_at "go"))
local macro_rules | `(tactic| walk_at "wq") => `(tactic| simp (disch := omega) only [Wp.wSeq, Wp.wNext, Wp.wSet, Wp.wVar, Wp.wC, Wp.wOp, Wp.wRet, Wp.wIfS, Wp.wTest, Wp.wCall, Wp.wCons, Wp.wNil, Wp.wTup, Wp.wLst, Wp.wAsg, Wp.gTp, Wp.gC, Wp.gNm, Wp.gN0, Wp.gIx, Wp.rSet, Wp.rAdd, Wp.rMul, Wp.rMod, Wp.rSub, Wp.rFdiv, Wp.rPow, Wp.rInt, Wp.rIx, Wp.rLt, Wp.rLe, Wp.rCmp, Wp.rGeI, Wp.rGtI, Wp.wCB, Wp.rLen, Wp.rLen1, Wp.rInt1, Wp.rMax2, Wp.rMin2, Wp.rTupOf, Wp.rListOf,
  Wp.wIsi, Wp.rBIs, Wp.rIsN, Wp.isNon, Wp.wMt, Wp.rAppendT, Wp.rExtendT, Wp.rReverseT, Wp.wNot, Wp.wOr, Wp.wAnd, Wp.wAndV, Wp.wOrV, Wp.wNotV, Wp.wFor, Wp.iRg1, Wp.iRg2, Wp.iAnyW, Wp.wAll, Wp.wChain, Wp.wSl, Wp.wNoPart, Wp.wPart, Wp.rSl, Wp.wNeg, Wp.rNeg, Wp.wLc, Wp.wYes, Wp.wDrop, Wp.wipeT, Wp.wAug, List.map, List.set_cons_zero, List.set_cons_succ, List.getElem?_cons_zero, List.getElem?_cons_succ, List.length_cons, List.length_nil, List.cons_append, List.nil_append, List.replicate, Wp.startT,
  true_and, and_true, Wp.wif_true, Wp.wif_false, Wp.ex_some, Wp.ex_some1, Wp.ex_eq, Wp.ex_lst, Wp.ex_lst0, Wp.rEq_int, Bool.false_bne, Bool.true_bne, Int.reduceLT, Int.reduceLE, Int.reduceAdd, Nat.reduceAdd, Nat.reduceSub, eq_self, ite_true, ite_false, beq_self_eq_true, Bool.not_true, Bool.not_false, Wp.isB_0, Wp.isB_1, Wp.isB_2, Wp.isB_3, Wp.isB_4, Wp.isB_5, Wp.isB_6, Wp.isB_7, Wp.isB_8, Wp.isB_9, Wp.isB_10, Wp.isB_11, Wp.isB_12, Wp.isB_13, Wp.isB_14, Wp.isB_15, Wp.isB_16, Wp.isB_17, Wp.isB_18, Wp.isB_19, Wp.isB_20, Wp.isB_21, Wp.isB_22, Wp.isB_23, Wp.isB_24, Wp.isB_25, Wp.isB_26, Wp.isB_27, Wp.isB_28, Wp.isB_29, Wp.isB_30, Wp.isB_31, Wp.isB_32, Wp.isB_33, Wp.isB_34, Wp.isB_35, Wp.cmul_l, Wp.cmul_r, Wp.cpow_lit, Wp.size_le, Wp.size_lt, Wp.atI_0, Wp.atI_1, Wp.atI_2, Wp.atI_3, Wp.atI_4, Wp.atI_5, Wp.atI_6, Wp.ixN_0, Wp.ixN_1, Wp.ixN_2, Wp.itemsT, Wp.tyT, reduceIte, Wp.wFld, Wp.wFSet, Wp.wFAug, Wp.wMeth, Wp.wMake, Wp.rIxA, Wp.rInA, Wp.rSetA, Wp.ixA, Wp.inA, Wp.setA, Wp.lenA, Wp.getD, Option.map_some, Option.bind_some, Option.getD_some,  Wp.gIxA, Wp.wDNew, Wp.wDNewT, Wp.rLenA, Wp.rSortD, Wp.rMaxL, Wp.rPopL, Wp.rGet1, Wp.rGet2, Wp.wGet1, Wp.wGet2, Wp.wPop1, Wp.wPop2, Wp.wDel, Wp.isDT, Wp.keyT, Wp.keysT, Wp.keysL, Wp.ex_ins, Wp.ex_dct, Wp.wSrtIt, Wp.iRg3, Wp.rAddI, Wp.wIf, Wp.rExtT, Wp.wTestI, Wp.rGt, Wp.rMulA, Int.cast_ofNat_Int, Int.reduceBEq, lk_End__base, pt_End__base, lk_End__pending, pt_End__pending, lk_End__closed, pt_End__closed, lk_End__given, pt_End__given, lk_End__got, pt_End__got, lk_End__ended, pt_End__ended, lk_End__ahead, pt_End__ahead, lk_End__end, pt_End__end, no_End__keep, no_End__learn, no_End__take_in_order, no_End_close, no_End_due, no_End_has_end, no_End_is_given, no_End_picture, no_End_take, no_End_taken, no_End_write, ln_End, mk_End, Wp.rSortDA, Wp.wDisp, Wp.wPCons, Wp.wPNil, ix_out, ix_closed, ix_base, ix_given, ix_seen, ix_got, ix_ended, ix_end, st_closed, st_base, st_given, st_got, st_ended, st_end, sdL_len, *])
local macro_rules | `(tactic| walk_at "r2") => `(tactic| repeat (first | walk_at "wq" | walk_at "go"))
local macro_rules | `(tactic| walk_at "w0") => `(tactic| simp (disch := omega) only [Wp.wSeq, Wp.wNext, Wp.wSet, Wp.wVar, Wp.wC, Wp.wOp, Wp.wRet, Wp.wIfS, Wp.wTest, Wp.wCall, Wp.wCons, Wp.wNil, Wp.wTup, Wp.wLst, Wp.wAsg, Wp.gTp, Wp.gC, Wp.gNm, Wp.gN0, Wp.gIx, Wp.rSet, Wp.rAdd, Wp.rMul, Wp.rMod, Wp.rSub, Wp.rFdiv, Wp.rPow, Wp.rInt, Wp.rIx, Wp.rLt, Wp.rLe, Wp.rCmp, Wp.rGeI, Wp.rGtI, Wp.wCB, Wp.rLen, Wp.rLen1, Wp.rInt1, Wp.rMax2, Wp.rMin2, Wp.rTupOf, Wp.rListOf,
  Wp.wIsi, Wp.rBIs, Wp.rIsN, Wp.isNon, Wp.wMt, Wp.rAppendT, Wp.rExtendT, Wp.rReverseT, Wp.wNot, Wp.wOr, Wp.wAnd, Wp.wAndV, Wp.wOrV, Wp.wNotV, Wp.wFor, Wp.iRg1, Wp.iRg2, Wp.iAnyW, Wp.wAll, Wp.wChain, Wp.wSl, Wp.wNoPart, Wp.wPart, Wp.rSl, Wp.wNeg, Wp.rNeg, Wp.wLc, Wp.wYes, Wp.wDrop, Wp.wipeT, Wp.wAug, List.map, List.set_cons_zero, List.set_cons_succ, List.getElem?_cons_zero, List.getElem?_cons_succ, List.length_cons, List.length_nil, List.cons_append, List.nil_append, List.replicate, Wp.startT,
  true_and, and_true, Wp.wif_true, Wp.wif_false, Wp.ex_some, Wp.ex_some1, Wp.ex_eq, Wp.ex_lst, Wp.ex_lst0, Wp.rEq_int, Bool.false_bne, Bool.true_bne, Int.reduceLT, Int.reduceLE, Int.reduceAdd, Nat.reduceAdd, Nat.reduceSub, eq_self, ite_true, ite_false, beq_self_eq_true, Bool.not_true, Bool.not_false, Wp.isB_0, Wp.isB_1, Wp.isB_2, Wp.isB_3, Wp.isB_4, Wp.isB_5, Wp.isB_6, Wp.isB_7, Wp.isB_8, Wp.isB_9, Wp.isB_10, Wp.isB_11, Wp.isB_12, Wp.isB_13, Wp.isB_14, Wp.isB_15, Wp.isB_16, Wp.isB_17, Wp.isB_18, Wp.isB_19, Wp.isB_20, Wp.isB_21, Wp.isB_22, Wp.isB_23, Wp.isB_24, Wp.isB_25, Wp.isB_26, Wp.isB_27, Wp.isB_28, Wp.isB_29, Wp.isB_30, Wp.isB_31, Wp.isB_32, Wp.isB_33, Wp.isB_34, Wp.isB_35, Wp.cmul_l, Wp.cmul_r, Wp.cpow_lit, Wp.size_le, Wp.size_lt, Wp.atI_0, Wp.atI_1, Wp.atI_2, Wp.atI_3, Wp.atI_4, Wp.atI_5, Wp.atI_6, Wp.ixN_0, Wp.ixN_1, Wp.ixN_2, Wp.itemsT, Wp.tyT, reduceIte, Wp.wFld, Wp.wFSet, Wp.wFAug, Wp.wMeth, Wp.wMake, Wp.rIxA, Wp.rInA, Wp.rSetA, Wp.ixA, Wp.inA, Wp.setA, Wp.lenA, Wp.getD, Option.map_some, Option.bind_some, Option.getD_some,  Wp.gIxA, Wp.wDNew, Wp.wDNewT, Wp.rLenA, Wp.rSortD, Wp.rMaxL, Wp.rPopL, Wp.rGet1, Wp.rGet2, Wp.wGet1, Wp.wGet2, Wp.wPop1, Wp.wPop2, Wp.wDel, Wp.isDT, Wp.keyT, Wp.keysT, Wp.keysL, Wp.ex_ins, Wp.ex_dct, Wp.wSrtIt, Wp.iRg3, Wp.rAddI, Wp.wIf, Wp.rExtT, Wp.wTestI, Wp.rGt, Wp.rMulA, Int.cast_ofNat_Int, Int.reduceBEq, lk_End__base, pt_End__base, lk_End__pending, pt_End__pending, lk_End__closed, pt_End__closed, lk_End__given, pt_End__given, lk_End__got, pt_End__got, lk_End__ended, pt_End__ended, lk_End__ahead, pt_End__ahead, lk_End__end, pt_End__end, no_End__keep, no_End__learn, no_End__take_in_order, no_End_close, no_End_due, no_End_has_end, no_End_is_given, no_End_picture, no_End_take, no_End_taken, no_End_write, ln_End, mk_End, Wp.rSortDA, Wp.wDisp, Wp.wPCons, Wp.wPNil, ix_out, ix_closed, ix_base, ix_given, ix_seen, ix_got, ix_ended, ix_end, st_closed, st_base, st_given, st_got, st_ended, st_end, sdL_len])
local macro_rules | `(tactic| walk_at "r0") => `(tactic| repeat (first | walk_at "w0" | walk_at "go"))
section
variable {C : Addr} {p q Sx d0 d1 Rx : Addr} {F0 F1 : List Addr} {W : D13} {i j : Nat} {D : WEnds} {v0 v5 v7 v8 : Option T} {pick : Int} {S : Sta}
/-- both sides send what is due -/
theorem fo_ok (sp : Sep S (L13 C p q Sx d0 d1 Rx F0 F1 W)) (b : B13 W i j) (hi : i ≤ 100)
    (nx : ∀ W' S' v7 v8, Sep S' (L13 C p q Sx d0 d1 Rx F0 F1 W') → B13 W' (i + 1) j → 0 < W'.n0.length → 0 < W'.n1.length → W'.a = W.a → D.nx [v0, some (.ref p), some (.ref W'.a), some (.ref Sx), some (.ref Rx), v5, some (.int pick), v7, v8] S') :
    foP C D [v0, some (.ref p), some (.ref W.a), some (.ref Sx), some (.ref Rx), v5, some (.int pick), v7, v8] S := by
  unfold foP
  walk_at "r0"
  refine ⟨by omega, by omega, ?_⟩
  rw [show Wp.rangeT 0 (Int.toNat 2) = [T.int 0, T.int 1] from rfl]
  refine ⟨trivial, ?_⟩
  have l0 := b.l0
  have l1 := b.l1
  refine row_k (kn := 0) (jd := 3) (jr := 6) sp rfl rfl rfl rfl rfl rfl rfl (by decide) b.e.k b.e.cl b.e.lo (by omega) fun la ra S1 v8 lam lal pa sp1 => ?_
  refine ⟨trivial, ?_⟩
  have sp1 : Sep S1 (L13 C p q Sx d0 d1 Rx F0 F1 { W with n0 := W.n0 ++ la, r0 := ra }) := sp1
  have f1 := b.f.send b.e lam
  refine row_k (kn := 1) (jd := 4) (jr := 7) sp1 rfl rfl rfl rfl rfl rfl rfl (by decide) b.f.k b.f.cl b.f.lo (show W.n1.length ≤ 10000 by omega) fun lb rb S2 v8 lbm lbl pb sp2 => ?_
  have sp2 : Sep S2 (L13 C p q Sx d0 d1 Rx F0 F1 { W with n0 := W.n0 ++ la, r0 := ra, n1 := W.n1 ++ lb, r1 := rb }) := sp2
  have e1 := b.e.send f1 lbm
  refine ⟨trivial, ?_⟩
  refine nx { W with n0 := W.n0 ++ la, r0 := ra, n1 := W.n1 ++ lb, r1 := rb } S2 _ _ sp2 ⟨e1, f1, ?_, ?_, b.u0, b.u1⟩ pa pb rfl
  · show (W.n0 ++ la).length ≤ _
    rw [List.length_append]; omega
  · show (W.n1 ++ lb).length ≤ _
    rw [List.length_append]; omega
/-- the End is replaced by one with its picture -/
theorem w2_ok (sp : Sep S (L13 C p q Sx d0 d1 Rx F0 F1 W)) (b : B13 W i j)
    (nx : ∀ W' S', Sep S' (L13 C p q Sx d0 d1 Rx F0 F1 W') → B13 W' i j → D.nx [v0, some (.ref p), some (.ref W'.a), some (.ref Sx), some (.ref Rx), v5, some (.int pick), v7, v8] S') :
    w2P C D [v0, some (.ref p), some (.ref W.a), some (.ref Sx), some (.ref Rx), v5, some (.int pick), v7, v8] S := by
  obtain ⟨lp, la, k0⟩ := insE (sp.ok 1 _ rfl).p
  obtain ⟨f1, f2, f3, f4⟩ := b.e.facts
  unfold w2P
  walk_at "r0"
  refine if_bool (fun _ => ?_) (fun _ => ?_)
  · walk_at "r0"
    rw [k0]
    walk_at "r0"
    refine ⟨W.F, W.m0, (sp.ok 1 _ rfl).p, f1, ?_⟩
    refine ⟨W.m0, rfl, f1, fun a' F' S1 n1 g1 e1 => ?_⟩
    have sp1 := sp.set 1 rfl (i' := endI C a' F' W.m0) (Frm.of_new g1 n1) (endI_ok e1)
    walk_at "r0"
    exact nx { W with a := a', F := F' } S1 sp1 ⟨b.e, b.f, b.l0, b.l1, b.u0, b.u1⟩
  · try walk_at "r0"
    exact nx W S sp b
/-- one of the two writes or closes -/
theorem w1_ok (sp : Sep S (L13 C p q Sx d0 d1 Rx F0 F1 W)) (b : B13 W i j) (hj : j ≤ 60)
    (nx : ∀ W' S', Sep S' (L13 C p q Sx d0 d1 Rx F0 F1 W') → B13 W' i (j + 1) → W'.a = W.a → D.nx [v0, some (.ref p), some (.ref W'.a), some (.ref Sx), some (.ref Rx), v5, some (.int pick), v7, v8] S') :
    w1P C D [v0, some (.ref p), some (.ref W.a), some (.ref Sx), some (.ref Rx), v5, some (.int pick), v7, v8] S := by
  have eS : S Sx = some (.lst [.ref d0, .ref d1]) := (sp.ok 2 _ rfl).p
  have u0 := b.u0
  have u1 := b.u1
  unfold w1P
  walk_at "r0"
  refine if_dec (fun _ => ?_) (fun _ => ?_)
  · intro z hz
    have sp1 := sp.gr (gr_new (o := .lst [T.ref W.a, T.non]) hz)
    have ez : upS S z (.lst [T.ref W.a, T.non]) z = some (.lst [T.ref W.a, T.non]) := upS_same
    have eS1 := gr_new (o := .lst [T.ref W.a, T.non]) hz _ _ eS
    generalize upS S z (.lst [T.ref W.a, T.non]) = S1 at sp1 ez eS1 ⊢
    simp only [ez, eS1]
    by_cases hp : 0 < pick
    · have hb : decide (0 < pick) = true := decide_eq_true hp
      rw [if_pos hb]
      refine ⟨_, atI_1.trans rfl, _, atI_1.trans rfl, L13 C p q Sx d0 d1 Rx F0 F1 W, 0, 4, q, F1, W.s1, sp1, rfl, rfl, by decide, b.f.cl, by omega, fun S2 sp2 => ?_, .inl ⟨rfl, fun c S2 sp2 => ?_, fun c dd S2 ld sp2 => ?_⟩⟩
      · walk_at "r0"
        exact nx W S2 sp2 ⟨b.e, b.f, b.l0, b.l1, by omega, by omega⟩ rfl
      · walk_at "r0"
        exact nx { W with m1 := W.m1.close, s1 := { W.s1 with closed := 1 }, w1 := { W.w1 with closed := true } } S2 sp2 ⟨b.e.close2, b.f.close1, b.l0, b.l1, by show W.s0.out.length ≤ _; omega, by show W.s1.out.length ≤ _; omega⟩ rfl
      · walk_at "r0"
        refine nx { W with m1 := W.m1.write dd, s1 := { W.s1 with out := W.s1.out ++ dd }, w1 := { W.w1 with out := W.w1.out ++ dd } } S2 sp2 ⟨b.e.write2 b.f c, b.f.write1 c (by rw [List.length_append]; omega), b.l0, b.l1, by show W.s0.out.length ≤ _; omega, by show (W.s1.out ++ dd).length ≤ _; rw [List.length_append]; omega⟩ rfl
    · have hb : ¬ decide (0 < pick) = true := fun z => hp (of_decide_eq_true z)
      rw [if_neg hb]
      refine ⟨_, atI_0.trans rfl, _, atI_0.trans rfl, L13 C p q Sx d0 d1 Rx F0 F1 W, 0, 3, q, F0, W.s0, sp1, rfl, rfl, by decide, b.e.cl, by omega, fun S2 sp2 => ?_, .inr ⟨1, W.a, W.F, W.m0, rfl, rfl, by decide, by have := b.e.d.u.pend; have := b.e.d.lo; omega, fun c S2 sp2 => ?_, fun c dd S2 ld sp2 => ?_⟩⟩
      · walk_at "r0"
        exact nx W S2 sp2 ⟨b.e, b.f, b.l0, b.l1, by omega, by omega⟩ rfl
      · walk_at "r0"
        exact nx { W with m0 := W.m0.close, s0 := { W.s0 with closed := 1 }, w0 := { W.w0 with closed := true } } S2 sp2 ⟨b.e.close1, b.f.close2, b.l0, b.l1, by show W.s0.out.length ≤ _; omega, by show W.s1.out.length ≤ _; omega⟩ rfl
      · walk_at "r0"
        refine nx { W with m0 := W.m0.write dd, s0 := { W.s0 with out := W.s0.out ++ dd }, w0 := { W.w0 with out := W.w0.out ++ dd } } S2 sp2 ⟨b.e.write1 c (by rw [List.length_append]; omega), b.f.write2 b.e c, b.l0, b.l1, by show (W.s0.out ++ dd).length ≤ _; rw [List.length_append]; omega, by show W.s1.out.length ≤ _; omega⟩ rfl
  · try walk_at "r0"
    exact nx W S sp ⟨b.e, b.f, b.l0, b.l1, by omega, by omega⟩ rfl
end
end My

set_option Elab.async false
set_option linter.all false
set_option maxRecDepth 100000
set_option maxHeartbeats 8000000
namespace My
open PySem PySem.Spec PyProof.Rows L2 Wp Gn
local macro_rules | `(tactic| walk_at "go") => `(tactic| (with_reducible refine goS_i ?_))
local macro_rules | `(tactic| walk_at "wp") => `(tactic| simp (disch := omega) only [Wp.wSeq, Wp.wNext, Wp.wSet, Wp.wVar, Wp.wC, Wp.wOp, Wp.wRet, Wp.wIfS, Wp.wTest, Wp.wCall, Wp.wCons, Wp.wNil, Wp.wTup, Wp.wLst, Wp.wAsg, Wp.gTp, Wp.gC, Wp.gNm, Wp.gN0, Wp.gIx, Wp.rSet, Wp.rAdd, Wp.rMul, Wp.rMod, Wp.rSub, Wp.rFdiv, Wp.rPow, Wp.rInt, Wp.rIx, Wp.rLt, Wp.rLe, Wp.rCmp, Wp.rGeI, Wp.rGtI, Wp.wCB, Wp.rLen, Wp.rLen1, Wp.rInt1, Wp.rMax2, Wp.rMin2, Wp.rTupOf, Wp.rListOf,
  Wp.wIsi, Wp.rBIs, Wp.rIsN, Wp.isNon, Wp.wMt, Wp.rAppendT, Wp.rExtendT, Wp.rReverseT, Wp.wNot, Wp.wOr, Wp.wAnd, Wp.wAndV, Wp.wOrV, Wp.wNotV, Wp.wFor, Wp.iRg1, Wp.iRg2, Wp.iAnyW, Wp.wAll, Wp.wChain, Wp.wSl, Wp.wNoPart, Wp.wPart, Wp.rSl, Wp.wNeg, Wp.rNeg, Wp.wLc, Wp.wYes, Wp.wDrop, Wp.wipeT, Wp.wAug, List.map, List.set_cons_zero, List.set_cons_succ, List.getElem?_cons_zero, List.getElem?_cons_succ, List.length_cons, List.length_nil, List.cons_append, List.nil_append, List.replicate, Wp.startT,
  true_and, and_true, Wp.wif_true, Wp.wif_false, Wp.ex_some, Wp.ex_some1, Wp.ex_eq, Wp.ex_lst, Wp.ex_lst0, Wp.rEq_int, Bool.false_bne, Bool.true_bne, Int.reduceLT, Int.reduceLE, Int.reduceAdd, Nat.reduceAdd, Nat.reduceSub, eq_self, ite_true, ite_false, beq_self_eq_true, Bool.not_true, Bool.not_false, Wp.isB_0, Wp.isB_1, Wp.isB_2, Wp.isB_3, Wp.isB_4, Wp.isB_5, Wp.isB_6, Wp.isB_7, Wp.isB_8, Wp.isB_9, Wp.isB_10, Wp.isB_11, Wp.isB_12, Wp.isB_13, Wp.isB_14, Wp.isB_15, Wp.isB_16, Wp.isB_17, Wp.isB_18, Wp.isB_19, Wp.isB_20, Wp.isB_21, Wp.isB_22, Wp.isB_23, Wp.isB_24, Wp.isB_25, Wp.isB_26, Wp.isB_27, Wp.isB_28, Wp.isB_29, Wp.isB_30, Wp.isB_31, Wp.isB_32, Wp.isB_33, Wp.isB_34, Wp.isB_35, Wp.cmul_l, Wp.cmul_r, Wp.cpow_lit, Wp.size_le, Wp.size_lt, Wp.atI_0, Wp.atI_1, Wp.atI_2, Wp.atI_3, Wp.atI_4, Wp.atI_5, Wp.atI_6, Wp.ixN_0, Wp.ixN_1, Wp.ixN_2, Wp.itemsT, Wp.tyT, reduceIte, Wp.wFld, Wp.wFSet, Wp.wFAug, Wp.wMeth, Wp.wMake, Wp.rIxA, Wp.rInA, Wp.rSetA, Wp.ixA, Wp.inA, Wp.setA, Wp.lenA, Wp.getD, Option.map_some, Option.bind_some, Option.getD_some,  Wp.gIxA, Wp.wDNew, Wp.wDNewT, Wp.rLenA, Wp.rSortD, Wp.rMaxL, Wp.rPopL, Wp.rGet1, Wp.rGet2, Wp.wGet1, Wp.wGet2, Wp.wPop1, Wp.wPop2, Wp.wDel, Wp.isDT, Wp.keyT, Wp.keysT, Wp.keysL, Wp.ex_ins, Wp.ex_dct, Wp.wSrtIt, Wp.iRg3, Wp.rAddI, Wp.wIf, Wp.rExtT, Wp.wTestI, Wp.rGt, Wp.rMulA, Int.cast_ofNat_Int, Int.reduceBEq, lk_End__base, pt_End__base, lk_End__pending, pt_End__pending, lk_End__closed, pt_End__closed, lk_End__given, pt_End__given, lk_End__got, pt_End__got, lk_End__ended, pt_End__ended, lk_End__ahead, pt_End__ahead, lk_End__end, pt_End__end, no_End__keep, no_End__learn, no_End__take_in_order, no_End_close, no_End_due, no_End_has_end, no_End_is_given, no_End_picture, no_End_take, no_End_taken, no_End_write, ln_End, mk_End, Wp.rSortDA, Wp.wDisp, Wp.wPCons, Wp.wPNil, ix_out, ix_closed, ix_base, ix_given, ix_seen, ix_got, ix_ended, ix_end, st_closed, st_base, st_given, st_got, st_ended, st_end, sdL_len, Wp.upS, Wp.upS_upS, *])
local macro_rules | `(tactic| walk_at "run") => `(tactic| repeat (first | walk_at "wp" | walk_at "go"))
local macro_rules | `(tactic| walk_at "wq") => `(tactic| simp (disch := omega) only [Wp.wSeq, Wp.wNext, Wp.wSet, Wp.wVar, Wp.wC, Wp.wOp, Wp.wRet, Wp.wIfS, Wp.wTest, Wp.wCall, Wp.wCons, Wp.wNil, Wp.wTup, Wp.wLst, Wp.wAsg, Wp.gTp, Wp.gC, Wp.gNm, Wp.gN0, Wp.gIx, Wp.rSet, Wp.rAdd, Wp.rMul, Wp.rMod, Wp.rSub, Wp.rFdiv, Wp.rPow, Wp.rInt, Wp.rIx, Wp.rLt, Wp.rLe, Wp.rCmp, Wp.rGeI, Wp.rGtI, Wp.wCB, Wp.rLen, Wp.rLen1, Wp.rInt1, Wp.rMax2, Wp.rMin2, Wp.rTupOf, Wp.rListOf,
  Wp.wIsi, Wp.rBIs, Wp.rIsN, Wp.isNon, Wp.wMt, Wp.rAppendT, Wp.rExtendT, Wp.rReverseT, Wp.wNot, Wp.wOr, Wp.wAnd, Wp.wAndV, Wp.wOrV, Wp.wNotV, Wp.wFor, Wp.iRg1, Wp.iRg2, Wp.iAnyW, Wp.wAll, Wp.wChain, Wp.wSl, Wp.wNoPart, Wp.wPart, Wp.rSl, Wp.wNeg, Wp.rNeg, Wp.wLc, Wp.wYes, Wp.wDrop, Wp.wipeT, Wp.wAug, List.map, List.set_cons_zero, List.set_cons_succ, List.getElem?_cons_zero, List.getElem?_cons_succ, List.length_cons, List.length_nil, List.cons_append, List.nil_append, List.replicate, Wp.startT,
  true_and, and_true, Wp.wif_true, Wp.wif_false, Wp.ex_some, Wp.ex_some1, Wp.ex_eq, Wp.ex_lst, Wp.ex_lst0, Wp.rEq_int, Bool.false_bne, Bool.true_bne, Int.reduceLT, Int.reduceLE, Int.reduceAdd, Nat.reduceAdd, Nat.reduceSub, eq_self, ite_true, ite_false, beq_self_eq_true, Bool.not_true, Bool.not_false, Wp.isB_0, Wp.isB_1, Wp.isB_2, Wp.isB_3, Wp.isB_4, Wp.isB_5, Wp.isB_6, Wp.isB_7, Wp.isB_8, Wp.isB_9, Wp.isB_10, Wp.isB_11, Wp.isB_12, Wp.isB_13, Wp.isB_14, Wp.isB_15, Wp.isB_16, Wp.isB_17, Wp.isB_18, Wp.isB_19, Wp.isB_20, Wp.isB_21, Wp.isB_22, Wp.isB_23, Wp.isB_24, Wp.isB_25, Wp.isB_26, Wp.isB_27, Wp.isB_28, Wp.isB_29, Wp.isB_30, Wp.isB_31, Wp.isB_32, Wp.isB_33, Wp.isB_34, Wp.isB_35, Wp.cmul_l, Wp.cmul_r, Wp.cpow_lit, Wp.size_le, Wp.size_lt, Wp.atI_0, Wp.atI_1, Wp.atI_2, Wp.atI_3, Wp.atI_4, Wp.atI_5, Wp.atI_6, Wp.ixN_0, Wp.ixN_1, Wp.ixN_2, Wp.itemsT, Wp.tyT, reduceIte, Wp.wFld, Wp.wFSet, Wp.wFAug, Wp.wMeth, Wp.wMake, Wp.rIxA, Wp.rInA, Wp.rSetA, Wp.ixA, Wp.inA, Wp.setA, Wp.lenA, Wp.getD, Option.map_some, Option.bind_some, Option.getD_some,  Wp.gIxA, Wp.wDNew, Wp.wDNewT, Wp.rLenA, Wp.rSortD, Wp.rMaxL, Wp.rPopL, Wp.rGet1, Wp.rGet2, Wp.wGet1, Wp.wGet2, Wp.wPop1, Wp.wPop2, Wp.wDel, Wp.isDT, Wp.keyT, Wp.keysT, Wp.keysL, Wp.ex_ins, Wp.ex_dct, Wp.wSrtIt, Wp.iRg3, Wp.rAddI, Wp.wIf, Wp.rExtT, Wp.wTestI, Wp.rGt, Wp.rMulA, Int.cast_ofNat_Int, Int.reduceBEq, lk_End__base, pt_End__base, lk_End__pending, pt_End__pending, lk_End__closed, pt_End__closed, lk_End__given, pt_End__given, lk_End__got, pt_End__got, lk_End__ended, pt_End__ended, lk_End__ahead, pt_End__ahead, lk_End__end, pt_End__end, no_End__keep, no_End__learn, no_End__take_in_order, no_End_close, no_End_due, no_End_has_end, no_End_is_given, no_End_picture, no_End_take, no_End_taken, no_End_write, ln_End, mk_End, Wp.rSortDA, Wp.wDisp, Wp.wPCons, Wp.wPNil, ix_out, ix_closed, ix_base, ix_given, ix_seen, ix_got, ix_ended, ix_end, st_closed, st_base, st_given, st_got, st_ended, st_end, sdL_len, *])
local macro_rules | `(tactic| walk_at "r2") => `(tactic| repeat (first | walk_at "wq" | walk_at "go"))
local macro_rules | `(tactic| walk_at "w0") => `(tactic| simp (disch := omega) only [Wp.wSeq, Wp.wNext, Wp.wSet, Wp.wVar, Wp.wC, Wp.wOp, Wp.wRet, Wp.wIfS, Wp.wTest, Wp.wCall, Wp.wCons, Wp.wNil, Wp.wTup, Wp.wLst, Wp.wAsg, Wp.gTp, Wp.gC, Wp.gNm, Wp.gN0, Wp.gIx, Wp.rSet, Wp.rAdd, Wp.rMul, Wp.rMod, Wp.rSub, Wp.rFdiv, Wp.rPow, Wp.rInt, Wp.rIx, Wp.rLt, Wp.rLe, Wp.rCmp, Wp.rGeI, Wp.rGtI, Wp.wCB, Wp.rLen, Wp.rLen1, Wp.rInt1, Wp.rMax2, Wp.rMin2, Wp.rTupOf, Wp.rListOf,
  Wp.wIsi, Wp.rBIs, Wp.rIsN, Wp.isNon, Wp.wMt, Wp.rAppendT, Wp.rExtendT, Wp.rReverseT, Wp.wNot, Wp.wOr, Wp.wAnd, Wp.wAndV, Wp.wOrV, Wp.wNotV, Wp.wFor, Wp.iRg1, Wp.iRg2, Wp.iAnyW, Wp.wAll, Wp.wChain, Wp.wSl, Wp.wNoPart, Wp.wPart, Wp.rSl, Wp.wNeg, Wp.rNeg, Wp.wLc, Wp.wYes, Wp.wDrop, Wp.wipeT, Wp.wAug, List.map, List.set_cons_zero, List.set_cons_succ, List.getElem?_cons_zero, List.getElem?_cons_succ, List.length_cons, List.length_nil, List.cons_append, List.nil_append, List.replicate, Wp.startT,
  true_and, and_true, Wp.wif_true, Wp.wif_false, Wp.ex_some, Wp.ex_some1, Wp.ex_eq, Wp.ex_lst, Wp.ex_lst0, Wp.rEq_int, Bool.false_bne, Bool.true_bne, Int.reduceLT, Int.reduceLE, Int.reduceAdd, Nat.reduceAdd, Nat.reduceSub, eq_self, ite_true, ite_false, beq_self_eq_true, Bool.not_true, Bool.not_false, Wp.isB_0, Wp.isB_1, Wp.isB_2, Wp.isB_3, Wp.isB_4, Wp.isB_5, Wp.isB_6, Wp.isB_7, Wp.isB_8, Wp.isB_9, Wp.isB_10, Wp.isB_11, Wp.isB_12, Wp.isB_13, Wp.isB_14, Wp.isB_15, Wp.isB_16, Wp.isB_17, Wp.isB_18, Wp.isB_19, Wp.isB_20, Wp.isB_21, Wp.isB_22, Wp.isB_23, Wp.isB_24, Wp.isB_25, Wp.isB_26, Wp.isB_27, Wp.isB_28, Wp.isB_29, Wp.isB_30, Wp.isB_31, Wp.isB_32, Wp.isB_33, Wp.isB_34, Wp.isB_35, Wp.cmul_l, Wp.cmul_r, Wp.cpow_lit, Wp.size_le, Wp.size_lt, Wp.atI_0, Wp.atI_1, Wp.atI_2, Wp.atI_3, Wp.atI_4, Wp.atI_5, Wp.atI_6, Wp.ixN_0, Wp.ixN_1, Wp.ixN_2, Wp.itemsT, Wp.tyT, reduceIte, Wp.wFld, Wp.wFSet, Wp.wFAug, Wp.wMeth, Wp.wMake, Wp.rIxA, Wp.rInA, Wp.rSetA, Wp.ixA, Wp.inA, Wp.setA, Wp.lenA, Wp.getD, Option.map_some, Option.bind_some, Option.getD_some,  Wp.gIxA, Wp.wDNew, Wp.wDNewT, Wp.rLenA, Wp.rSortD, Wp.rMaxL, Wp.rPopL, Wp.rGet1, Wp.rGet2, Wp.wGet1, Wp.wGet2, Wp.wPop1, Wp.wPop2, Wp.wDel, Wp.isDT, Wp.keyT, Wp.keysT, Wp.keysL, Wp.ex_ins, Wp.ex_dct, Wp.wSrtIt, Wp.iRg3, Wp.rAddI, Wp.wIf, Wp.rExtT, Wp.wTestI, Wp.rGt, Wp.rMulA, Int.cast_ofNat_Int, Int.reduceBEq, lk_End__base, pt_End__base, lk_End__pending, pt_End__pending, lk_End__closed, pt_End__closed, lk_End__given, pt_End__given, lk_End__got, pt_End__got, lk_End__ended, pt_End__ended, lk_End__ahead, pt_End__ahead, lk_End__end, pt_End__end, no_End__keep, no_End__learn, no_End__take_in_order, no_End_close, no_End_due, no_End_has_end, no_End_is_given, no_End_picture, no_End_take, no_End_taken, no_End_write, ln_End, mk_End, Wp.rSortDA, Wp.wDisp, Wp.wPCons, Wp.wPNil, ix_out, ix_closed, ix_base, ix_given, ix_seen, ix_got, ix_ended, ix_end, st_closed, st_base, st_given, st_got, st_ended, st_end, sdL_len])
local macro_rules | `(tactic| walk_at "r0") => `(tactic| repeat (first | walk_at "w0" | walk_at "go"))
section
variable {C : Addr} {p q Sx d0 d1 Rx : Addr} {F0 F1 : List Addr} {W : D13} {i : Nat} {D : WEnds} {v0 v5 v6 v7 v8 : Option T} {S : Sta}
theorem k_ok {pick : Int} {D : WEnds} {v2 v3 v4 : Option T}
    (nx : ∀ kn : Nat, (kn = 0 ∧ pick ≤ 6) ∨ (kn = 1 ∧ 6 < pick) → D.nx [v0, some (.ref p), v2, v3, v4, v5, some (.int pick), some (.int (kn : Int)), v8] S) : kP D [v0, some (.ref p), v2, v3, v4, v5, some (.int pick), v7, v8] S := by
  unfold kP
  walk_at "r0"
  by_cases h : 6 < pick
  · have hb : decide (6 < pick) = true := decide_eq_true h
    rw [if_pos hb]
    exact nx 1 (.inr ⟨rfl, h⟩)
  · have hb : ¬ decide (6 < pick) = true := fun z => h (of_decide_eq_true z)
    rw [if_neg hb]
    exact nx 0 (.inl ⟨rfl, by omega⟩)
theorem turn_ok (sp : Sep S (L13 C p q Sx d0 d1 Rx F0 F1 W)) (b : B13 W i i) (hi : i ≤ 50)
    (nx : ∀ W' S' v6 v7 v8, Sep S' (L13 C p q Sx d0 d1 Rx F0 F1 W') → B13 W' (i + 1) (i + 1) → D.nx [v0, some (.ref p), some (.ref W'.a), some (.ref Sx), some (.ref Rx), v5, v6, v7, v8] S') :
    l4 C D [v0, some (.ref p), some (.ref W.a), some (.ref Sx), some (.ref Rx), v5, v6, v7, v8] S := by
  rw [l4_is]
  walk_at "r0"
  refine ⟨some q, rfl, (sp.ok 0 _ rfl).p, by omega, by omega, fun pick S1 p0 p1 g1 => ?_⟩
  have sp1 := sp.draw (k := 0) rfl g1
  walk_at "r0"
  show w1P C _ _ _
  refine w1_ok sp1 b (by omega) fun W2 S2 sp2 b2 _ => ?_
  show w2P C _ _ _
  refine w2_ok sp2 b2 fun W3 S3 sp3 b3 => ?_
  show foP C _ _ _
  refine fo_ok sp3 b3 (by omega) fun W4 S4 v7 v8 sp4 b4 pa pb _ => ?_
  show kP _ _ _
  refine k_ok fun kn hk => ?_
  show roP _ _ _
  have l0 := b4.l0
  have l1 := b4.l1
  have tail : ∀ (x : Seg) (S5 : Sta) (kn : Nat), (pick < 7 → x ∈ W4.n0) → (pick > 6 → x ∈ W4.n1) → Sep S5 (L13 C p q Sx d0 d1 Rx F0 F1 W4) → (wSeq (t1P C) (wSeq t2P (saP C))) D [v0, some (.ref p), some (.ref W4.a), some (.ref Sx), some (.ref Rx), v5, some (.int pick), some (.int (kn : Int)), some x.tr] S5 := by
    intro x S5 kn h0 h1 sp5
    show t1P C _ _ _
    refine t1_ok sp5 b4 h1 fun W6 S6 sp6 b6 e6 => ?_
    show t2P _ _ _
    refine t2_ok sp6 b6 (fun z => by rw [e6]; exact h0 z) fun W7 S7 sp7 b7 => ?_
    show saP C _ _ _
    exact sa_ok sp7 b7 fun S8 sp8 => nx W7 S8 _ _ _ sp8 b7
  rcases hk with ⟨rfl, hk⟩ | ⟨rfl, hk⟩
  · exact ro_ok (n := W4.n0) (r := W4.r0) sp4 rfl ⟨6, rfl⟩ pa (by omega) fun x S5 hx sp5 => tail x S5 0 (fun _ => hx) (fun z => by omega) sp5
  · exact ro_ok (n := W4.n1) (r := W4.r1) sp4 rfl ⟨7, rfl⟩ pb (by omega) fun x S5 hx sp5 => tail x S5 1 (fun z => by omega) (fun _ => hx) sp5
/-- a new thing, and what it becomes -/
theorem Sep.make {S S' : Sta} {l : List It} {a : Addr} {o : O} {i : It} (h : Sep S l) (n : S a = none) (f : Frm (upS S a o) S' [a] i.F) (ok : i.ok S') : Sep S' (l ++ [i]) := by
  have g := gr_new (o := o) n
  have h1 := h.add g (i := ⟨[a], fun S => S a = some o⟩) ⟨upS_same, fun x hx => by rw [List.mem_singleton.mp hx]; exact ⟨_, upS_same⟩, fun S2 k => k _ _ upS_same (by simp)⟩ (fun x hx => by rw [List.mem_singleton.mp hx]; exact n)
  have h2 := h1.set l.length (i := ⟨[a], fun S => S a = some o⟩) (by simp) (i' := i) f ok
  rwa [show (l ++ [(⟨[a], fun S => S a = some o⟩ : It)]).set l.length i = l ++ [i] by simp] at h2
theorem Sep.pw {S : Sta} {l : List It} (h : Sep S l) : (∀ i ∈ l, i.ok S) ∧ l.Pairwise fun i i' => ∀ x ∈ i.F, x ∉ i'.F := by
  refine ⟨fun i hi => ?_, ?_⟩
  · obtain ⟨k, hk, e⟩ := List.getElem_of_mem hi
    exact h.ok k i (by rw [List.getElem?_eq_getElem hk, e])
  · rw [List.pairwise_iff_getElem]
    intro j k hj hk hjk x
    exact h.ap j k _ _ (by omega) (List.getElem?_eq_getElem hj) (List.getElem?_eq_getElem hk) x
theorem Sep.of_pw {S : Sta} {l : List It} (h1 : ∀ i ∈ l, i.ok S) (h2 : l.Pairwise fun i i' => ∀ x ∈ i.F, x ∉ i'.F) : Sep S l := by
  rw [List.pairwise_iff_getElem] at h2
  refine ⟨fun k i e => h1 i (List.mem_of_getElem? e), fun j k i i' n ei ei' x hx hx' => ?_⟩
  obtain ⟨lj, ej⟩ := List.getElem?_eq_some_iff.mp ei
  obtain ⟨lk, ek⟩ := List.getElem?_eq_some_iff.mp ei'
  rcases Nat.lt_or_gt_of_ne n with q | q
  · exact h2 j k lj lk q x (by rw [ej]; exact hx) (by rw [ek]; exact hx')
  · exact h2 k j lk lj q x (by rw [ek]; exact hx') (by rw [ej]; exact hx)
theorem Sep.perm {S : Sta} {l l' : List It} (p : l.Perm l') (h : Sep S l) : Sep S l' := by
  obtain ⟨h1, h2⟩ := h.pw
  exact Sep.of_pw (fun i hi => h1 i (p.mem_iff.mpr hi)) ((p.pairwise_iff (fun {a b} h x hb ha => h x ha hb)).mp h2)
theorem hw_law : ∀ ts S Q E, ts.length = 1 → spLaw ts S Q E → b_law C spBag5 (spInit C) spSide (spDraw true) (spLWr C) (spEndOf C) (spPic C) spSDue (spTake C) spSTake (spLSame C) { nx := fun _ S' => Q .non S', rt := Q } (Wp.startT N_law ts) S := by
  intro ts S Q E _ h
  obtain ⟨ns, rfl, hl, hS, hQ⟩ := h
  unfold b_law N_law
  walk_at "r0"
  refine ⟨ns, rfl, fun p S1 hp g0 ⟨q, hb⟩ => ?_⟩
  have sp1 : Sep S1 [bagI p q] := by
    refine ⟨fun k i e => ?_, fun j k i i' n e e' => ?_⟩
    · match k, e with
      | 0, e => cases e; exact bagI_ok hb
    · match j, k, n, e, e' with
      | 0, 0, n, _, _ => exact absurd rfl n
  walk_at "r0"
  intro a0 na0
  refine ⟨upS_same, fun S3 Fe f3 e3 => ?_⟩
  have sp3 := sp1.make na0 (i := endI C a0 Fe EM.new) f3 (endI_ok e3)
  try refine ⟨rfl, ?_⟩
  try walk_at "r0"
  intro d0 F0 S4 n4 g4 e4
  have sp4 := sp3.add g4 (i := sdI d0 F0 SM.new) (sdI_ok e4) n4
  intro d1 F1 S5 n5 g5 e5
  have sp5 := sp4.add g5 (i := sdI d1 F1 SM.new) (sdI_ok e5) n5
  intro Sx nx
  have sp6 := sp5.add (gr_new nx) (i := lstI Sx [.ref d0, .ref d1]) (lstI_ok upS_same) (fun x hx => by simp only [lstI, List.mem_singleton] at hx; rw [hx]; exact nx)
  generalize upS S5 Sx (O.lst [T.ref d0, T.ref d1]) = S6 at sp6 ⊢
  walk_at "r0"
  intro r0 nr0
  have sp7 := sp6.add (gr_new nr0) (i := lstI r0 []) (lstI_ok upS_same) (fun x hx => by simp only [lstI, List.mem_singleton] at hx; rw [hx]; exact nr0)
  generalize upS S6 r0 (O.lst []) = S7 at sp7 ⊢
  try walk_at "r0"
  intro r1 nr1
  have sp8 := sp7.add (gr_new nr1) (i := lstI r1 []) (lstI_ok upS_same) (fun x hx => by simp only [lstI, List.mem_singleton] at hx; rw [hx]; exact nr1)
  generalize upS S7 r1 (O.lst []) = S8 at sp8 ⊢
  try walk_at "r0"
  intro Rx nR
  have sp9 := sp8.add (gr_new nR) (i := lstI Rx [.ref r0, .ref r1]) (lstI_ok upS_same) (fun x hx => by simp only [lstI, List.mem_singleton] at hx; rw [hx]; exact nR)
  generalize upS S8 Rx (O.lst [T.ref r0, T.ref r1]) = S9 at sp9 ⊢
  have spL : Sep S9 (L13 C p q Sx d0 d1 Rx F0 F1 ⟨a0, Fe, EM.new, EM.new, SM.new, SM.new, ⟨[], [], false, 0⟩, ⟨[], [], false, 0⟩, [], [], r0, r1⟩) := by
    refine sp9.perm ?_
    show List.Perm [bagI p q, endI C a0 Fe EM.new, sdI d0 F0 SM.new, sdI d1 F1 SM.new, lstI Sx [.ref d0, .ref d1], lstI r0 [], lstI r1 [], lstI Rx [.ref r0, .ref r1]] [bagI p q, endI C a0 Fe EM.new, lstI Sx [.ref d0, .ref d1], sdI d0 F0 SM.new, sdI d1 F1 SM.new, lstI Rx [.ref r0, .ref r1], lstI r0 [], lstI r1 []]
    refine .cons _ (.cons _ ?_)
    exact List.Perm.append (l₁ := [sdI d0 F0 SM.new, sdI d1 F1 SM.new, lstI Sx [.ref d0, .ref d1]]) (l₂ := [lstI Sx [.ref d0, .ref d1], sdI d0 F0 SM.new, sdI d1 F1 SM.new]) (List.perm_append_comm (l₁ := [sdI d0 F0 SM.new, sdI d1 F1 SM.new]) (l₂ := [lstI Sx [.ref d0, .ref d1]])) (List.perm_append_comm (l₁ := [lstI r0 [], lstI r1 []]) (l₂ := [lstI Rx [.ref r0, .ref r1]]))
  walk_at "r0"
  refine ⟨some q, rfl, (spL.ok 0 _ rfl).p, by omega, by omega, fun t S10 t0 t1 g10 => ?_⟩
  have sp10 := spL.draw (k := 0) rfl g10
  walk_at "r0"
  refine ⟨by omega, by omega, ?_⟩
  refine loop_inv (fun i σ S' => ∃ W x5 x6 x7 x8, σ = [some (.fl (ns.map T.int)), some (.ref p), some (.ref W.a), some (.ref Sx), some (.ref Rx), x5, x6, x7, x8] ∧ Sep S' (L13 C p q Sx d0 d1 Rx F0 F1 W) ∧ B13 W i i) ⟨_, _, _, _, _, rfl, sp10, Pr.new, Pr.new, Nat.le_refl _, Nat.le_refl _, Nat.le_refl _, Nat.le_refl _⟩ (fun _ _ _ _ => trivial) (fun i x σ S' LP hx hI nx => ?_) (fun σ S' hI => ?_)
  · obtain ⟨W, x5, x6, x7, x8, rfl, sp5, b5⟩ := hI
    obtain ⟨hi, rfl⟩ := range_at hx
    refine turn_ok (i := i) sp5 b5 (by omega) fun W' S' v6 v7 v8 s' b' => nx _ _ ⟨W', _, _, _, _, rfl, s', b'⟩
  · obtain ⟨W, x5, x6, x7, x8, rfl, sp5, b5⟩ := hI
    walk_at "r0"
    exact hQ S'
end
end My

set_option Elab.async false
set_option linter.all false
set_option maxRecDepth 100000
namespace My
open PySem PySem.Spec PyProof.Rows L2 Wp Gn
section
variable {K : PySem.W.Frag} {mg : Str → Option Value}
theorem law_ok {l : PySem.W.OpenLaw} {w : World} {h : Heap} {fa : Addr} {C_End : Addr} (T : Facts K mg C_End) (X : K.In h) (G : h.Ns mainGlobals mg) (hfa : mg "law" = some (.ref fa)) :
    ∃ fd : FuncData, (∀ (s : Shared) (u : Value), BindsTo s fd ⟨[u], []⟩ [("script", u)]) ∧ ∀ base : Heap, K.In base → base.Ns mainGlobals mg → FnOk l.prog w K mg base CX0 5 fa fd ["script"] (Lsp [] K 1 spLaw) := by
  obtain ⟨f, fd, F, m, b⟩ := T.d_law
  have e := m.symm.trans hfa
  cases e
  refine ⟨fd, fun s u => ?_, fun base hb hg => ?_⟩
  · obtain ⟨oc, od, kV, doc, pm, an, cdv, ct, osl, rfl, lk, hcd⟩ := F.ex
    exact .of_eq rfl
  · have c__law_bag : Cal l.prog w K mg base [] 1 "_law_bag" ["script"] spBag5 := T.d__law_bag.cal fun f fd F => fn__law_bag (k := 0) T F  hw_bag5A
    have c_End_init : CalI l.prog w K mg base [] 1 C_End "End" ["self"] (spInit C_End) := T.d_End_init.cal fun f fd F => fn_End_init (k := 0) T F  hw_init
    have c__law_side : Cal l.prog w K mg base [] 1 "_law_side" [] spSide := T.d__law_side.cal fun f fd F => fn__law_side (k := 0) T F  hw_side
    have c__law_draw : Cal l.prog w K mg base [] 1 "_law_draw" ["bag", "many"] (spDraw true) := T.d__law_draw.cal fun f fd F => fn__law_draw (k := 0) T F  hw_draw5A
    have c__law_data : Cal l.prog w K mg base [] 2 "_law_data" ["bag"] spData13 := T.d__law_data.cal fun f fd F => fn__law_data (k := 1) T F c__law_draw hw_data13
    have c_End_close : CalM l.prog w K mg base [] 1 C_End "close" ["self"] (spClose C_End) := T.d_End_close.cal fun f fd F => fn_End_close (k := 0) T F  hw_close
    have c_End_write : CalM l.prog w K mg base [] 1 C_End "write" ["self", "data"] (spWrite C_End) := T.d_End_write.cal fun f fd F => fn_End_write (k := 0) T F  hw_write
    have c__law_write : Cal l.prog w K mg base [] 3 "_law_write" ["bag", "end", "side"] (spLWr C_End) := T.d__law_write.cal fun f fd F => fn__law_write (k := 2) T F c__law_data (c__law_draw.mono (by decide)) (c_End_close.mono (by decide)) (c_End_write.mono (by decide)) hw_lwr
    have c_end_of : Cal l.prog w K mg base [] 3 "end_of" ["picture"] (spEndOf C_End) := T.d_end_of.cal fun f fd F => fn_end_of (k := 1) T F c_End_init hw_endOf
    have c_End_picture : CalM l.prog w K mg base [] 1 C_End "picture" ["self"] (spPic C_End) := T.d_End_picture.cal fun f fd F => fn_End_picture (k := 0) T F  hw_pic
    have c__law_due : Cal l.prog w K mg base [] 1 "_law_due" ["side"] spSDue := T.d__law_due.cal fun f fd F => fn__law_due (k := 0) T F  hw_sdue
    have c_End__learn : CalM l.prog w K mg base [] 1 C_End "_learn" ["self", "taken"] (spLearn C_End) := T.d_End__learn.cal fun f fd F => fn_End__learn (k := 0) T F  hw_learn
    have c_End__keep : CalM l.prog w K mg base [] 1 C_End "_keep" ["self", "offset", "data"] (spKeep C_End) := T.d_End__keep.cal fun f fd F => fn_End__keep (k := 0) T F  hw_keep
    have c_End__take_in_order : CalM l.prog w K mg base [] 1 C_End "_take_in_order" ["self"] (spOrder C_End) := T.d_End__take_in_order.cal fun f fd F => fn_End__take_in_order (k := 0) T F  hw_order
    have c_End_take : CalM l.prog w K mg base [] 2 C_End "take" ["self", "offset", "data", "last", "taken"] (spTake C_End) := T.d_End_take.cal fun f fd F => fn_End_take (k := 1) T F c_End__learn c_End__keep c_End__take_in_order hw_take
    have c__law_take : Cal l.prog w K mg base [] 1 "_law_take" ["side", "row"] spSTake := T.d__law_take.cal fun f fd F => fn__law_take (k := 0) T F  hw_stake
    have c_End_has_end : CalM l.prog w K mg base [] 1 C_End "has_end" ["self"] (spHasEnd C_End) := T.d_End_has_end.cal fun f fd F => fn_End_has_end (k := 0) T F  hw_hasEnd
    have c_End_is_given : CalM l.prog w K mg base [] 1 C_End "is_given" ["self"] (spGiven C_End) := T.d_End_is_given.cal fun f fd F => fn_End_is_given (k := 0) T F  hw_given
    have c_End_taken : CalM l.prog w K mg base [] 1 C_End "taken" ["self"] (spTaken C_End) := T.d_End_taken.cal fun f fd F => fn_End_taken (k := 0) T F  hw_taken
    have c_End_due : CalM l.prog w K mg base [] 2 C_End "due" ["self"] (spDue C_End) := T.d_End_due.cal fun f fd F => fn_End_due (k := 1) T F c_End_taken hw_due
    have c__law_picture : Cal l.prog w K mg base [] 1 "_law_picture" ["side"] spSPic := T.d__law_picture.cal fun f fd F => fn__law_picture (k := 0) T F  hw_spic
    have c__law_same : Cal l.prog w K mg base [] 3 "_law_same" ["end", "side"] (spLSame C_End) := T.d__law_same.cal fun f fd F => fn__law_same (k := 2) T F (c_End_has_end.mono (by decide)) (c_End_is_given.mono (by decide)) (c_End_taken.mono (by decide)) c_End_due (c__law_due.mono (by decide)) (c_End_picture.mono (by decide)) (c__law_picture.mono (by decide)) hw_lsame
    exact fn_law (k := 3) T F (c__law_bag.mono (by decide)) (c_End_init.mono (by decide)) (c__law_side.mono (by decide)) (c__law_draw.mono (by decide)) c__law_write c_end_of (c_End_picture.mono (by decide)) (c__law_due.mono (by decide)) (c_End_take.mono (by decide)) (c__law_take.mono (by decide)) c__law_same hw_law
end
end My
open PySem PySem.W PyProof.Rows
set_option maxHeartbeats 0 in
theorem PySem.Challenge.cw_heldflows_k13_end_step_by_step_holds : PySem.Challenge.rw_heldflows_k13_end_step_by_step.Holds := by
  w_on; o_law; k_head; (case hw => w_witness2)
  k_fill
  refine Wp.law_walk (l := PySem.Challenge.rw_heldflows_k13_end_step_by_step) (k := 5) (x := "script") rfl rfl ⟨rfl, by decide, by decide⟩ (fun w h Y => PySem.W.kIn_of Y) ?F
  case F =>
    intro w mg fa h KX G hmg
    refine' My.law_ok (Gn.facts_mk KX G ?aC_End ?pg_End ?hd_End ?po_End ?sa_End ?mk_End ?kc_End ?nA_End__ahead ?nA_End__base ?nA_End__closed ?nA_End__end ?nA_End__ended ?nA_End__given ?nA_End__got ?nA_End__pending ?i0 ?a0 ?l0 ?c0 ?k0 ?i1 ?a1 ?l1 ?c1 ?k1 ?i2 ?a2 ?l2 ?c2 ?k2 ?i3 ?a3 ?l3 ?c3 ?k3 ?i4 ?a4 ?l4 ?c4 ?k4 ?i5 ?a5 ?l5 ?c5 ?k5 ?i6 ?a6 ?l6 ?c6 ?k6 ?i7 ?a7 ?l7 ?c7 ?k7 ?i8 ?a8 ?l8 ?c8 ?k8 ?i9 ?a9 ?l9 ?c9 ?k9 ?i10 ?a10 ?l10 ?c10 ?k10 ?i11 ?a11 ?l11 ?c11 ?k11 ?a12 ?l12 ?c12 ?k12 ?a13 ?l13 ?c13 ?k13 ?a14 ?l14 ?c14 ?k14 ?a15 ?l15 ?c15 ?k15 ?a16 ?l16 ?c16 ?k16 ?a17 ?l17 ?c17 ?k17 ?a18 ?l18 ?c18 ?k18 ?a19 ?l19 ?c19 ?k19 ?a20 ?l20 ?c20 ?k20 ?a21 ?l21 ?c21 ?k21 ?a22 ?l22 ?c22 ?k22 ?n_MOST_DATA ?n_WINDOW ?z_bool ?z_dict ?z_enumerate ?z_int ?z_isinstance ?z_len ?z_list ?z_max ?z_min ?z_range ?z_sorted ?z_tuple) KX G hmg
    (case aC_End => k_is); (case pg_End => k_is); (case hd_End => k_is); (case po_End => k_is); (case sa_End => k_is); (case mk_End => k_is); (case kc_End => k_is); (case nA_End__ahead => k_is); (case nA_End__base => k_is); (case nA_End__closed => k_is); (case nA_End__end => k_is); (case nA_End__ended => k_is); (case nA_End__given => k_is); (case nA_End__got => k_is); (case nA_End__pending => k_is); (case i0 => k_is); (case a0 => k_is); (case l0 => k_is); (case c0 => k_is); (case k0 => k_is); (case i1 => k_is); (case a1 => k_is); (case l1 => k_is); (case c1 => k_is); (case k1 => k_is); (case i2 => k_is); (case a2 => k_is); (case l2 => k_is); (case c2 => k_is); (case k2 => k_is); (case i3 => k_is); (case a3 => k_is); (case l3 => k_is); (case c3 => k_is); (case k3 => k_is); (case i4 => k_is); (case a4 => k_is); (case l4 => k_is); (case c4 => k_is); (case k4 => k_is); (case i5 => k_is); (case a5 => k_is); (case l5 => k_is); (case c5 => k_is); (case k5 => k_is); (case i6 => k_is); (case a6 => k_is); (case l6 => k_is); (case c6 => k_is); (case k6 => k_is); (case i7 => k_is); (case a7 => k_is); (case l7 => k_is); (case c7 => k_is); (case k7 => k_is); (case i8 => k_is); (case a8 => k_is); (case l8 => k_is); (case c8 => k_is); (case k8 => k_is); (case i9 => k_is); (case a9 => k_is); (case l9 => k_is); (case c9 => k_is); (case k9 => k_is); (case i10 => k_is); (case a10 => k_is); (case l10 => k_is); (case c10 => k_is); (case k10 => k_is); (case i11 => k_is); (case a11 => k_is); (case l11 => k_is); (case c11 => k_is); (case k11 => k_is); (case a12 => k_is); (case l12 => k_is); (case c12 => k_is); (case k12 => k_is); (case a13 => k_is); (case l13 => k_is); (case c13 => k_is); (case k13 => k_is); (case a14 => k_is); (case l14 => k_is); (case c14 => k_is); (case k14 => k_is); (case a15 => k_is); (case l15 => k_is); (case c15 => k_is); (case k15 => k_is); (case a16 => k_is); (case l16 => k_is); (case c16 => k_is); (case k16 => k_is); (case a17 => k_is); (case l17 => k_is); (case c17 => k_is); (case k17 => k_is); (case a18 => k_is); (case l18 => k_is); (case c18 => k_is); (case k18 => k_is); (case a19 => k_is); (case l19 => k_is); (case c19 => k_is); (case k19 => k_is); (case a20 => k_is); (case l20 => k_is); (case c20 => k_is); (case k20 => k_is); (case a21 => k_is); (case l21 => k_is); (case c21 => k_is); (case k21 => k_is); (case a22 => k_is); (case l22 => k_is); (case c22 => k_is); (case k22 => k_is); (case n_MOST_DATA => k_is); (case n_WINDOW => k_is); (case z_bool => k_is); (case z_dict => k_is); (case z_enumerate => k_is); (case z_int => k_is); (case z_isinstance => k_is); (case z_len => k_is); (case z_list => k_is); (case z_max => k_is); (case z_min => k_is); (case z_range => k_is); (case z_sorted => k_is); (case z_tuple => k_is)

