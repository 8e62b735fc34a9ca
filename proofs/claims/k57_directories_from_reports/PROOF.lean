import PyProof.Rows.All
import Wide.All
import OpenK.AllK
import Wide.FinOn
import HandS.ForMost
import HandS.TupAny
import HandS.IsInst
import HandS.Wide
import HandS.Deep
import HandS.AnyAll
import KE.KDictKeyed
import KE.SortData
import HandS.Codes
import HandS.Style
import HandS.Conv
import KE.KSortedM
import HandS.GenOver
import HandS.GenList
import HandS.EndOwn
import HandS.Iter
import HandS.Text
import KE.GoesEnumKw
import HandS.SortKw
import HandS.ForExc
import HandS.ExcIs
import HandS.Dict
import HandS.More
import HandS.Zip
import HandS.NoneIn
import HandS.WrittenGet
import HandS.TupMul
import HandS.SortRule
import HandS.DictTup
import KE.KDictPairs
import KE.KDictCopyH
import HandS.SortInts
import HandS.Exc
import HandS.ExcOwn
import HandS.TryOnly
import HandS.WordsExc
import PyProof.TupleOfGen
import PySem.Challenge.RW_heldflows_k57_directories_from_reports
set_option Elab.async false
set_option linter.all false
set_option maxRecDepth 100000
/-! trees, states, and what a reading over them is worth -/
namespace Wp
open PySem PySem.Spec PyProof.Rows L2

/-- a value as a tree: tuples by their items, frozen lists by theirs, all that changes by its address -/
inductive T where
  | non | bl (b : Bool) | int (i : Int) | str (s : Str) | tup (ts : List T) | fl (ts : List T) | ref (a : Addr) | pt (ts : List T)

/-- a list that never changes: known, or of the written part -/
def FzL (K : PySem.W.Frag) (H : Hp) (a : Addr) (xs : List V) : Prop :=
  (∃ o, H a = some (.frz o (.lst xs))) ∨
    ∃ (o : Obj) (its : Array Value) (n : Nat), K.lookup a = some o ∧ o.cls = .type "list" ∧ o.dict = none ∧ o.data = .seq its n ∧ its.size ≤ sizeLine ∧ Vals xs its.toList
theorem FzL.sq {K : PySem.W.Frag} {H : Hp} {a : Addr} {xs : List V} (h : FzL K H a xs) : SqL K H a xs := by
  rcases h with ⟨o, h⟩ | h
  · exact .inl (.inr ⟨o, h⟩)
  · exact .inr h

mutual
inductive Rep (K : PySem.W.Frag) (H : Hp) : T → V → Prop
  | non : Rep K H .non .non
  | bl (b : Bool) : Rep K H (.bl b) (.bl b)
  | int (i : Int) : Rep K H (.int i) (.int i)
  | str (x : Str) : Rep K H (.str x) (.str x)
  | ref (a : Addr) : Rep K H (.ref a) (.ref a)
  | tup {a : Addr} {xs : List V} {ts : List T} : H a = some (.tup xs) → Reps K H ts xs → Rep K H (.tup ts) (.ref a)
  | fl {a : Addr} {xs : List V} {ts : List T} : FzL K H a xs → Reps K H ts xs → Rep K H (.fl ts) (.ref a)
  | pt {a : Addr} {o : Obj} {xs : List V} {ts : List T} : o.dict = none → H a = some (.frz o (.tup xs)) → Reps K H ts xs → Rep K H (.pt ts) (.ref a)
inductive Reps (K : PySem.W.Frag) (H : Hp) : List T → List V → Prop
  | nil : Reps K H [] []
  | cons {t : T} {ts : List T} {v : V} {vs : List V} : Rep K H t v → Reps K H ts vs → Reps K H (t :: ts) (v :: vs)
end

/-- what stays -/
structure Ext (H H' : Hp) : Prop where
  tups : ∀ b xs, H b = some (.tup xs) → H' b = some (.tup xs)
  frzs : ∀ b o u, H b = some (.frz o u) → H' b = some (.frz o u)
  tabs : ∀ b, GxR.TabG H b → GxR.TabG H' b
theorem Ext.refl (H : Hp) : Ext H H := ⟨fun _ _ h => h, fun _ _ _ h => h, fun _ h => h⟩
theorem Ext.trans {H H1 H2 : Hp} (a : Ext H H1) (b : Ext H1 H2) : Ext H H2 := ⟨fun x xs h => b.tups x xs (a.tups x xs h), fun x o u h => b.frzs x o u (a.frzs x o u h), fun x h => b.tabs x (a.tabs x h)⟩
theorem Ext.new {H : Hp} {p : Addr} {o : HO} (h : H p = none) : Ext H (upd H p o) :=
  ⟨fun b xs e => by rw [upd_ne (ne_of_none e h)]; exact e, fun b o u e => by rw [upd_ne (ne_of_none e h)]; exact e, fun b ⟨ps, e, t⟩ => ⟨ps, by rw [upd_ne (ne_of_none e h)]; exact e, t⟩⟩
/-- what may be written over -/
def Soft : HO → Prop
  | .tup _ => False
  | .frz _ _ => False
  | .tbl _ => False
  | _ => True
theorem Ext.put {H : Hp} {p : Addr} {o u : HO} (h : H p = some u) (hs : Soft u) : Ext H (upd H p o) :=
  ⟨fun b xs e => by
    rw [upd_ne]
    · exact e
    · intro z; subst z; rw [h] at e; cases e; exact hs,
   fun b o u e => by
    rw [upd_ne]
    · exact e
    · intro z; subst z; rw [h] at e; cases e; exact hs,
   fun b ⟨ps, e, t⟩ => ⟨ps, by
    rw [upd_ne]
    · exact e
    · intro z; subst z; rw [h] at e; cases e; exact hs, t⟩⟩
theorem sqT_of {K : PySem.W.Frag} {H : Hp} {a : Addr} {xs : List V} (h : H a = some (.tup xs)) : SqT K H a xs := .inl (.inl h)
theorem Ext.sqT {K : PySem.W.Frag} {H H' : Hp} {a : Addr} {xs : List V} (e : Ext H H') (h : SqT K H a xs) : SqT K H' a xs := by
  rcases h with (h | ⟨o, h⟩) | h
  · exact .inl (.inl (e.tups _ _ h))
  · exact .inl (.inr ⟨o, e.frzs _ _ _ h⟩)
  · exact .inr h
theorem Ext.fzL {K : PySem.W.Frag} {H H' : Hp} {a : Addr} {xs : List V} (e : Ext H H') (h : FzL K H a xs) : FzL K H' a xs := by
  rcases h with ⟨o, h⟩ | h
  · exact .inl ⟨o, e.frzs _ _ _ h⟩
  · exact .inr h
mutual
theorem Rep.mono {K : PySem.W.Frag} {H H' : Hp} (e : Ext H H') : ∀ (t : T) (v : V), Rep K H t v → Rep K H' t v
  | .non, _, h => by cases h; exact .non
  | .bl b, _, h => by cases h; exact .bl b
  | .int i, _, h => by cases h; exact .int i
  | .str x, _, h => by cases h; exact .str x
  | .ref a, _, h => by cases h; exact .ref a
  | .tup ts, _, h => by
    cases h with
    | tup h1 h2 => exact .tup (e.tups _ _ h1) (Reps.mono e ts _ h2)
  | .fl ts, _, h => by
    cases h with
    | fl h1 h2 => exact .fl (e.fzL h1) (Reps.mono e ts _ h2)
  | .pt ts, _, r => by
    cases r with
    | pt h0 h1 h2 => exact .pt h0 (e.frzs _ _ _ h1) (Reps.mono e ts _ h2)
theorem Reps.mono {K : PySem.W.Frag} {H H' : Hp} (e : Ext H H') : ∀ (ts : List T) (vs : List V), Reps K H ts vs → Reps K H' ts vs
  | [], _, h => by cases h; exact .nil
  | t :: ts, _, h => by
    cases h with
    | cons h1 h2 => exact .cons (Rep.mono e t _ h1) (Reps.mono e ts _ h2)
end
section
variable {K : PySem.W.Frag} {H : Hp}
theorem Reps.length : ∀ {ts : List T} {vs : List V}, Reps K H ts vs → ts.length = vs.length
  | [], _, h => by cases h; rfl
  | t :: ts, _, h => by
    cases h with
    | cons h1 h2 => rw [List.length_cons, List.length_cons, Reps.length h2]
theorem Reps.get : ∀ {ts : List T} {vs : List V} {i : Nat} {t : T}, Reps K H ts vs → ts[i]? = some t → ∃ v, vs[i]? = some v ∧ Rep K H t v
  | [], _, _, _, _, e => by simp at e
  | t :: ts, _, 0, x, h, e => by
    cases h with
    | cons h1 h2 =>
      simp at e
      subst e
      exact ⟨_, rfl, h1⟩
  | t :: ts, _, i + 1, x, h, e => by
    cases h with
    | cons h1 h2 =>
      obtain ⟨v, e1, e2⟩ := Reps.get (i := i) h2 (by simpa using e)
      exact ⟨v, by simpa using e1, e2⟩
theorem Reps.getV : ∀ {ts : List T} {vs : List V} {i : Nat} {v : V}, Reps K H ts vs → vs[i]? = some v → ∃ t, ts[i]? = some t ∧ Rep K H t v
  | [], _, _, _, h, e => by cases h; simp at e
  | t :: ts, _, 0, x, h, e => by
    cases h with
    | cons h1 h2 =>
      simp at e
      subst e
      exact ⟨_, rfl, h1⟩
  | t :: ts, _, i + 1, x, h, e => by
    cases h with
    | cons h1 h2 =>
      obtain ⟨v, e1, e2⟩ := Reps.getV (i := i) h2 (by simpa using e)
      exact ⟨v, by simpa using e1, e2⟩
theorem Reps.append : ∀ {ts us : List T} {vs ws : List V}, Reps K H ts vs → Reps K H us ws → Reps K H (ts ++ us) (vs ++ ws)
  | [], _, _, _, h, g => by cases h; exact g
  | t :: ts, _, _, _, h, g => by
    cases h with
    | cons h1 h2 => exact .cons h1 (Reps.append h2 g)
theorem Reps.take : ∀ {ts : List T} {vs : List V} (n : Nat), Reps K H ts vs → Reps K H (ts.take n) (vs.take n)
  | _, _, 0, _ => .nil
  | [], _, n + 1, h => by cases h; exact .nil
  | t :: ts, _, n + 1, h => by
    cases h with
    | cons h1 h2 => exact .cons h1 (Reps.take n h2)
theorem Reps.drop : ∀ {ts : List T} {vs : List V} (n : Nat), Reps K H ts vs → Reps K H (ts.drop n) (vs.drop n)
  | _, _, 0, h => h
  | [], _, n + 1, h => by cases h; exact .nil
  | t :: ts, _, n + 1, h => by
    cases h with
    | cons h1 h2 => exact Reps.drop n h2
theorem Reps.set {t : T} {v : V} (r : Rep K H t v) : ∀ {ts : List T} {vs : List V} (i : Nat), Reps K H ts vs → Reps K H (ts.set i t) (vs.set i v)
  | [], _, _, h => by cases h; exact .nil
  | t :: ts, _, 0, h => by
    cases h with
    | cons h1 h2 => exact .cons r h2
  | t :: ts, _, i + 1, h => by
    cases h with
    | cons h1 h2 => exact .cons h1 (Reps.set r i h2)
theorem Reps.reverse : ∀ {ts : List T} {vs : List V}, Reps K H ts vs → Reps K H ts.reverse vs.reverse
  | [], _, h => by cases h; exact .nil
  | t :: ts, _, h => by
    cases h with
    | cons h1 h2 =>
      rw [List.reverse_cons, List.reverse_cons]
      exact Reps.append (Reps.reverse h2) (.cons h1 .nil)
theorem Reps.ints : ∀ (ns : List Int), Reps K H (ns.map T.int) (ns.map V.int)
  | [] => .nil
  | n :: ns => .cons (.int n) (Reps.ints ns)
theorem Reps.intsV : ∀ {ns : List Int} {vs : List V}, Reps K H (ns.map T.int) vs → vs = ns.map V.int
  | [], _, h => by cases h; rfl
  | n :: ns, _, h => by
    cases h with
    | cons h1 h2 =>
      cases h1
      rw [Reps.intsV h2]
      rfl
theorem Reps.blsV : ∀ {ns : List Bool} {vs : List V}, Reps K H (ns.map T.bl) vs → vs = ns.map V.bl
  | [], _, h => by cases h; rfl
  | n :: ns, _, h => by
    cases h with
    | cons h1 h2 =>
      cases h1
      rw [Reps.blsV h2]
      rfl
theorem Reps.strsV : ∀ {ns : List Str} {vs : List V}, Reps K H (ns.map T.str) vs → vs = ns.map V.str
  | [], _, h => by cases h; rfl
  | n :: ns, _, h => by
    cases h with
    | cons h1 h2 =>
      cases h1
      rw [Reps.strsV h2]
      rfl
end

/-! ### the state: what may change -/
mutual
def tk : NestedKey → T
  | .none => .non
  | .num i => .int i
  | .text x => .str x
  | .tup ks => .tup (tks ks)
def tks : List NestedKey → List T
  | [] => []
  | k :: ks => tk k :: tks ks
end
mutual
/-- no texts in it -/
def freeK : NestedKey → Bool
  | .none => true
  | .num _ => true
  | .text _ => false
  | .tup ks => freeKs ks
def freeKs : List NestedKey → Bool
  | [] => true
  | k :: ks => freeK k && freeKs ks
end
def fineK (k : NestedKey) : Bool := freeK k && decide (k.depth ≤ 8)
/-- other things: a dict whose keys are tuples of whole numbers, None, and such tuples -/
inductive XO where
  | dnt (kvs : List (NestedKey × T))
inductive O where
  | ot (x : XO)
  | lst (ts : List T)
  | ins (C : Addr) (fs : List (Str × T))
  | dct (kvs : List (Key × T))
  | dtt (kvs : List (List Key × T))
abbrev Sta := Addr → Option O
def upS (S : Sta) (a : Addr) (o : O) : Sta := fun b => if b = a then some o else S b
theorem upS_same {S : Sta} {a : Addr} {o : O} : upS S a o a = some o := by unfold upS; rw [if_pos rfl]
theorem upS_ne {S : Sta} {a b : Addr} {o : O} (h : b ≠ a) : upS S a o b = S b := by unfold upS; rw [if_neg h]
theorem upS_upS {S : Sta} {a : Addr} {o u : O} : upS (upS S a o) a u = upS S a u := by
  funext b; unfold upS; split <;> rfl
theorem upS_self {S : Sta} {a : Addr} {o : O} (h : S a = some o) : upS S a o = S := by
  funext b; unfold upS; split
  · rename_i e; subst e; exact h.symm
  · rfl
/-- pairs of a name or a key and a value -/
inductive KRep {κ : Type} (K : PySem.W.Frag) (H : Hp) : List (κ × T) → List (κ × V) → Prop
  | nil : KRep K H [] []
  | cons {f : κ} {t : T} {v : V} {fs : List (κ × T)} {gs : List (κ × V)} : Rep K H t v → KRep K H fs gs → KRep K H ((f, t) :: fs) ((f, v) :: gs)
abbrev FRep (K : PySem.W.Frag) (H : Hp) : List (Str × T) → List (Str × V) → Prop := KRep K H
theorem KRep.mono {κ : Type} {K : PySem.W.Frag} {H H' : Hp} (e : Ext H H') : ∀ {fs : List (κ × T)} {gs : List (κ × V)}, KRep K H fs gs → KRep K H' fs gs
  | _, _, .nil => .nil
  | _, _, .cons h1 h2 => .cons (Rep.mono e _ _ h1) (KRep.mono e h2)
theorem KRep.length {κ : Type} {K : PySem.W.Frag} {H : Hp} : ∀ {fs : List (κ × T)} {gs : List (κ × V)}, KRep K H fs gs → fs.length = gs.length
  | _, _, .nil => rfl
  | _, _, .cons h1 h2 => by rw [List.length_cons, List.length_cons, KRep.length h2]
/-- such a dict's object -/
def nO (a : Addr) (xs : List (NestedKey × Addr × V)) : HO := .ext fun h => ∃ (w : World) (ys : List (NestedKey × Addr × Value)), Paired (fun (p : NestedKey × Addr × V) (q : NestedKey × Addr × Value) => p.1 = q.1 ∧ p.2.1 = q.2.1 ∧ RelV p.2.2 q.2.2) xs ys ∧
  (ys.map (·.1)).Nodup ∧ ys.length ≤ sizeLine ∧ (a == sysModules) = false ∧ ∃ o es ep, h.get? a = some o ∧ o.ExactDict ∧ o.data = .dict es ep ∧ es.toList = ys.map fun x => ⟨x.1.hash w, .ref x.2.1, x.2.2⟩
def NRep (K : PySem.W.Frag) (H : Hp) : List (NestedKey × T) → List (NestedKey × Addr × V) → Prop := Paired fun p q => p.1 = q.1 ∧ fineK p.1 = true ∧ Rep K H (tk p.1) (.ref q.2.1) ∧ Rep K H p.2 q.2.2
theorem NRep.mono {K : PySem.W.Frag} {H H' : Hp} (e : Ext H H') {kvs : List (NestedKey × T)} {xs : List (NestedKey × Addr × V)} (r : NRep K H kvs xs) : NRep K H' kvs xs := Paired.mapP r fun a b z => ⟨z.1, z.2.1, Rep.mono e _ _ z.2.2.1, Rep.mono e _ _ z.2.2.2⟩
def XRep (K : PySem.W.Frag) (H : Hp) (a : Addr) : XO → Prop
  | .dnt kvs => ∃ xs, H a = some (nO a xs) ∧ NRep K H kvs xs
theorem XRep.keep {K : PySem.W.Frag} {H H' : Hp} {a : Addr} {x : XO} (e : Ext H H') (z : H' a = H a) (r : XRep K H a x) : XRep K H' a x := by
  cases x with
  | dnt kvs => obtain ⟨xs, e1, e2⟩ := r; exact ⟨xs, z.trans e1, e2.mono e⟩
theorem XRep.soft {K : PySem.W.Frag} {H : Hp} {a : Addr} {x : XO} (r : XRep K H a x) : ∃ u, H a = some u ∧ Soft u := by
  cases x with
  | dnt kvs => obtain ⟨xs, e1, e2⟩ := r; exact ⟨_, e1, trivial⟩
def ORep (K : PySem.W.Frag) (H : Hp) (a : Addr) : O → Prop
  | .ot x => XRep K H a x
  | .lst ts => ∃ xs, H a = some (.lst xs) ∧ Reps K H ts xs
  | .ins C fs => ∃ dx gs, H a = some (.ins C dx gs) ∧ FRep K H fs gs
  | .dct kvs => ∃ xs, H a = some (.dK xs) ∧ KRep K H kvs xs
  | .dtt kvs => ∃ xs, H a = some (.dT xs) ∧ KRep K H kvs xs
theorem ORep.keep {K : PySem.W.Frag} {H H' : Hp} {a : Addr} {o : O} (e : Ext H H') (z : H' a = H a) (r : ORep K H a o) : ORep K H' a o := by
  cases o with
  | lst ts => obtain ⟨xs, e1, e2⟩ := r; exact ⟨xs, z.trans e1, Reps.mono e _ _ e2⟩
  | ot x => exact XRep.keep e z r
  | ins C fs => obtain ⟨dx, gs, e1, e2⟩ := r; exact ⟨dx, gs, z.trans e1, KRep.mono e e2⟩
  | dct kvs => obtain ⟨xs, e1, e2⟩ := r; exact ⟨xs, z.trans e1, KRep.mono e e2⟩
  | dtt kvs => obtain ⟨xs, e1, e2⟩ := r; exact ⟨xs, z.trans e1, KRep.mono e e2⟩
def St (K : PySem.W.Frag) (S : Sta) (H : Hp) : Prop := ∀ a o, S a = some o → ORep K H a o
section
variable {K : PySem.W.Frag} {S : Sta} {H H' : Hp} {a p : Addr}
theorem St.has (h : St K S H) {o : O} (e : S a = some o) : ∃ u, H a = some u ∧ Soft u := by
  have q := h a o e
  cases o with
  | lst ts => obtain ⟨xs, e, _⟩ := q; exact ⟨_, e, trivial⟩
  | ot x => exact XRep.soft q
  | ins C fs => obtain ⟨dx, gs, e, _⟩ := q; exact ⟨_, e, trivial⟩
  | dct kvs => obtain ⟨xs, e, _⟩ := q; exact ⟨_, e, trivial⟩
  | dtt kvs => obtain ⟨xs, e, _⟩ := q; exact ⟨_, e, trivial⟩
theorem St.free (h : St K S H) (e : H p = none) : S p = none := by
  cases q : S p with
  | none => rfl
  | some o =>
    obtain ⟨u, hu, _⟩ := h.has q
    rw [e] at hu
    cases hu
/-- all that S speaks of stays as it is -/
theorem St.keep (h : St K S H) (e : Ext H H') (k : ∀ a o, S a = some o → H' a = H a) : St K S H' := fun a o q => (h a o q).keep e (k a o q)
theorem St.new (h : St K S H) (e : H p = none) (u : HO) : St K S (upd H p u) :=
  h.keep (Ext.new e) fun a o q => by
    obtain ⟨u', hu, _⟩ := h.has q
    exact upd_ne (ne_of_none hu e)
theorem St.put (h : St K S H') {o : O} (g : ORep K H' a o) : St K (upS S a o) H' := fun b u q => by
  by_cases hb : b = a
  · subst hb
    rw [upS_same] at q
    cases q
    exact g
  · rw [upS_ne hb] at q
    exact h b u q
/-- a thing is written anew -/
theorem St.setO (h : St K S H) {u u' : HO} {o' : O} (e : H a = Option.some u) (hs : Soft u) (r : Ext H (upd H a u') → ORep K (upd H a u') a o') : Ext H (upd H a u') ∧ St K (upS S a o') (upd H a u') := by
  have ex : Ext H (upd H a u') := Ext.put e hs
  refine ⟨ex, fun b u q => ?_⟩
  by_cases hb : b = a
  · subst hb
    rw [upS_same] at q
    cases q
    exact r ex
  · rw [upS_ne hb] at q
    exact (h b u q).keep ex (upd_ne hb)
/-- a list is written anew -/
theorem St.setL (h : St K S H) {xs : List V} {ts' : List T} {xs' : List V} (e : H a = Option.some (.lst xs)) (r : Reps K H ts' xs') : Ext H (upd H a (.lst xs')) ∧ St K (upS S a (.lst ts')) (upd H a (.lst xs')) :=
  h.setO e trivial fun ex => ⟨xs', upd_same, Reps.mono ex _ _ r⟩
/-- a new thing -/
theorem St.newO (h : St K S H) {u' : HO} {o' : O} (e : H p = Option.none) (r : Ext H (upd H p u') → ORep K (upd H p u') p o') : Ext H (upd H p u') ∧ St K (upS S p o') (upd H p u') := by
  have ex : Ext H (upd H p u') := Ext.new e
  exact ⟨ex, (h.new e _).put (r ex)⟩
/-- a new list -/
theorem St.newL (h : St K S H) {ts : List T} {xs : List V} (e : H p = Option.none) (r : Reps K H ts xs) : Ext H (upd H p (.lst xs)) ∧ St K (upS S p (.lst ts)) (upd H p (.lst xs)) := by
  have ex : Ext H (upd H p (.lst xs)) := Ext.new e
  exact ⟨ex, (h.new e _).put ⟨xs, upd_same, Reps.mono ex _ _ r⟩⟩
/-- less is known -/
theorem St.less {S' : Sta} (h : St K S H) (k : ∀ a o, S' a = Option.some o → S a = Option.some o) : St K S' H := fun a o q => h a o (k a o q)
end

/-! ### readings over trees -/
abbrev Sl := List (Option T)
abbrev WE := Sl → Sta → (T → Sta → Prop) → Prop
abbrev WT := Sl → Sta → (Bool → Sta → Prop) → Prop
abbrev WA := Sl → Sta → (List T → Sta → Prop) → Prop
structure WEnds where
  nx : Sl → Sta → Prop
  rt : T → Sta → Prop
  bk : Sl → Sta → Prop := fun _ _ => False
  ct : Sl → Sta → Prop := fun _ _ => False
abbrev WS := WEnds → Sl → Sta → Prop
def SlR (K : PySem.W.Frag) (H : Hp) (st : Sl) (σ : L2.St) : Prop := st.length = σ.length ∧ ∀ (i : Nat) (t : T), st[i]? = some (some t) → ∃ v, σ[i]? = some (some v) ∧ Rep K H t v
theorem SlR.mono {K : PySem.W.Frag} {H H' : Hp} {st : Sl} {σ : L2.St} (e : Ext H H') (h : SlR K H st σ) : SlR K H' st σ := ⟨h.1, fun i t q => by
  obtain ⟨v, e1, e2⟩ := h.2 i t q
  exact ⟨v, e1, Rep.mono e _ _ e2⟩⟩
theorem SlR.set {K : PySem.W.Frag} {H : Hp} {st : Sl} {σ : L2.St} {t : T} {v : V} (h : SlR K H st σ) (r : Rep K H t v) (i : Nat) : SlR K H (st.set i (some t)) (σ.set i (some v)) := by
  refine ⟨by rw [List.length_set, List.length_set]; exact h.1, fun j u q => ?_⟩
  by_cases hj : i = j
  · subst hj
    by_cases hl : i < st.length
    · rw [List.getElem?_set_self hl] at q
      cases q
      exact ⟨v, by rw [List.getElem?_set_self (h.1 ▸ hl)], r⟩
    · rw [List.getElem?_eq_none (by rw [List.length_set]; omega)] at q
      cases q
  · rw [List.getElem?_set_ne hj] at q
    obtain ⟨w, e1, e2⟩ := h.2 j u q
    exact ⟨w, by rw [List.getElem?_set_ne hj]; exact e1, e2⟩

def fin (K : PySem.W.Frag) (H : Hp) (Q : VK) : T → Sta → Prop := fun t S => ∀ H' v, Ext H H' → St K S H' → Rep K H' t v → Q v H'
def finB (K : PySem.W.Frag) (H : Hp) (Q : Bool → Hp → Prop) : Bool → Sta → Prop := fun b S => ∀ H', Ext H H' → St K S H' → Q b H'
def finA (K : PySem.W.Frag) (H : Hp) (Q : List V → Hp → Prop) : List T → Sta → Prop := fun ts S => ∀ H' vs, Ext H H' → St K S H' → Reps K H' ts vs → Q vs H'
def finS (K : PySem.W.Frag) (H : Hp) (Q : L2.St → Hp → Prop) : Sl → Sta → Prop := fun st S => ∀ H' σ, Ext H H' → St K S H' → SlR K H' st σ → Q σ H'
def finD (K : PySem.W.Frag) (H : Hp) (D : Ends) : WEnds := { nx := finS K H D.nx, rt := fin K H D.rt, bk := finS K H D.bk, ct := finS K H D.ct }
/-- on to what follows -/
def goS (f : Sl → Sta → Prop) (σ : Sl) (S : Sta) : Prop := f σ S
/-- either way of a test -/
@[irreducible] def wif (b : Bool) (A C : Prop) : Prop := match b with
  | true => A
  | false => C
theorem wif_true {A C : Prop} : wif true A C = A := by unfold wif; rfl
theorem wif_false {A C : Prop} : wif false A C = C := by unfold wif; rfl
theorem wt {A C : Prop} (h : wif true A C) : A := by rw [wif_true] at h; exact h
theorem wff {A C : Prop} (h : wif false A C) : C := by rw [wif_false] at h; exact h
theorem wif_t {A C : Prop} (h : A) : wif true A C := by rw [wif_true]; exact h
theorem wif_f {A C : Prop} (h : C) : wif false A C := by rw [wif_false]; exact h
theorem if_dec {p : Prop} [Decidable p] {A C : Prop} (h1 : p → A) (h2 : ¬ p → C) : wif (decide p) A C := by
  by_cases h : p
  · rw [decide_eq_true h, wif_true]; exact h1 h
  · rw [decide_eq_false h, wif_false]; exact h2 h
theorem if_bool {p : Bool} {A C : Prop} (h1 : p = true → A) (h2 : p = false → C) : wif p A C := by
  cases p
  · rw [wif_false]; exact h2 rfl
  · rw [wif_true]; exact h1 rfl
abbrev Im2 {α : Type} (P Q : α → Sta → Prop) : Prop := ∀ v S, P v S → Q v S
structure ImD (D0 D : WEnds) : Prop where
  nx : Im2 D0.nx D.nx
  rt : Im2 D0.rt D.rt
  bk : Im2 D0.bk D.bk
  ct : Im2 D0.ct D.ct
def LE (B : Hp) (X : Cx) (t : WE) : TE := fun σ H Q => ∃ st S Q0, Ext B H ∧ SlR X.K H st σ ∧ St X.K S H ∧ t st S Q0 ∧ Im2 Q0 (fin X.K H Q)
def LT (B : Hp) (X : Cx) (t : WT) : TT := fun σ H Q => ∃ st S Q0, Ext B H ∧ SlR X.K H st σ ∧ St X.K S H ∧ t st S Q0 ∧ Im2 Q0 (finB X.K H Q)
def LA (B : Hp) (X : Cx) (t : WA) : TA := fun σ H Q => ∃ st S Q0, Ext B H ∧ SlR X.K H st σ ∧ St X.K S H ∧ t st S Q0 ∧ Im2 Q0 (finA X.K H Q)
def LS (B : Hp) (X : Cx) (t : WS) : TS := fun D σ H => ∃ st S D0, Ext B H ∧ SlR X.K H st σ ∧ St X.K S H ∧ t D0 st S ∧ ImD D0 (finD X.K H D)
def JE (B : Hp) (X : Cx) (e : Expr) (t : WE) : Prop := PE X e (LE B X t)
def JT (B : Hp) (X : Cx) (e : Expr) (t : WT) : Prop := PT X e (LT B X t)
def JW (B : Hp) (X : Cx) (e : Expr) (t : WT) : Prop := PW X e (LT B X t)
def JA (B : Hp) (X : Cx) (es : List Expr) (t : WA) : Prop := PA X es (LA B X t)
def JS (B : Hp) (X : Cx) (s : Stmt) (t : WS) : Prop := PS X s (LS B X t)
def JSs (B : Hp) (X : Cx) (ss : List Stmt) (t : WS) : Prop := PSs X ss (LS B X t)
theorem JW.jt {B : Hp} {X : Cx} {e : Expr} {t : WT} (h : JW B X e t) : JT B X e t := PW.pt h

theorem pe_imp {X : Cx} {e : Expr} {t t' : TE} (h : PE X e t) (k : ∀ σ H Q, t' σ H Q → t σ H Q) : PE X e t' := ⟨fun pins s σ H Q I q => h.run pins s σ H Q I (k σ H Q q)⟩
theorem pt_imp {X : Cx} {e : Expr} {t t' : TT} (h : PT X e t) (k : ∀ σ H Q, t' σ H Q → t σ H Q) : PT X e t' := ⟨fun pins s σ H Q I q => h.run pins s σ H Q I (k σ H Q q)⟩
theorem pw_imp {X : Cx} {e : Expr} {t t' : TT} (h : PW X e t) (k : ∀ σ H Q, t' σ H Q → t σ H Q) : PW X e t' := ⟨fun wh pins s σ H Q I q => h.run wh pins s σ H Q I (k σ H Q q)⟩
theorem pa_imp {X : Cx} {e : List Expr} {t t' : TA} (h : PA X e t) (k : ∀ σ H Q, t' σ H Q → t σ H Q) : PA X e t' := ⟨fun pos pins s σ H Q I q => h.run pos pins s σ H Q I (k σ H Q q)⟩
theorem ps_imp {X : Cx} {s : Stmt} {t t' : TS} (h : PS X s t) (k : ∀ D σ H, t' D σ H → t D σ H) : PS X s t' := ⟨fun pins s σ H D I q => h.run pins s σ H D I (k D σ H q)⟩
theorem pss_imp {X : Cx} {s : List Stmt} {t t' : TS} (h : PSs X s t) (k : ∀ D σ H, t' D σ H → t D σ H) : PSs X s t' := ⟨fun pins s σ H D I q => h.run pins s σ H D I (k D σ H q)⟩
theorem fin_ext {K : PySem.W.Frag} {H H1 : Hp} {Q : VK} {t : T} {S : Sta} (e : Ext H H1) (h : fin K H Q t S) : fin K H1 Q t S := fun H' v e' s r => h H' v (e.trans e') s r
theorem finB_ext {K : PySem.W.Frag} {H H1 : Hp} {Q : Bool → Hp → Prop} {t : Bool} {S : Sta} (e : Ext H H1) (h : finB K H Q t S) : finB K H1 Q t S := fun H' e' s => h H' (e.trans e') s
theorem finA_ext {K : PySem.W.Frag} {H H1 : Hp} {Q : List V → Hp → Prop} {t : List T} {S : Sta} (e : Ext H H1) (h : finA K H Q t S) : finA K H1 Q t S := fun H' v e' s r => h H' v (e.trans e') s r
end Wp

set_option Elab.async false
set_option linter.all false
set_option maxRecDepth 100000
/-! expressions -/
namespace Wp
open PySem PySem.Spec PyProof.Rows L2
section
variable {B : Hp} {X : Cx} {a b c : Expr} {ta tb tc : WE} {pos : Pos}
/-! ### names, constants -/
def wVar (i : Nat) (σ : Sl) (S : Sta) (Q : T → Sta → Prop) : Prop := ∃ v, σ[i]? = some (some v) ∧ Q v S
def wC (t : T) (u0 : Sl) (S : Sta) (Q : T → Sta → Prop) : Prop := Q t S
theorem j_var (i : Nat) {x : Str} (hN : X.N[i]? = some x := by rfl) (hv : Vis X.env.scope x := by first | exact Or.inl rfl | exact Or.inr (Or.inl rfl) | exact Or.inr (Or.inr rfl)) (hd : (x == ("__debug__" : Str)) = false := by decide)
    (hcd : (x == ("__classdict__" : Str)) = false := by decide) : JE B X (.Name x pos) (wVar i) :=
  pe_imp (pe_var hN hv hd hcd) fun σ H Q ⟨st, S, Q0, _, r, s, ⟨v, e, q⟩, im⟩ => by
    obtain ⟨u, e1, e2⟩ := r.2 i v e
    exact ⟨u, e1, im v S q H u (Ext.refl H) s e2⟩
theorem j_const {e : Expr} {t : T} {v : V} (h : PE X e (tC v)) (r : ∀ H, Rep X.K H t v) : JE B X e (wC t) :=
  pe_imp h fun σ H Q ⟨st, S, Q0, _, _, s, q, im⟩ => im t S q H v (Ext.refl H) s (r H)
theorem j_int {i j} : JE B X (.Constant (.int i) j pos) (wC (.int i)) := j_const pe_int fun _ => .int i
theorem j_bl {i j} : JE B X (.Constant (.bool i) j pos) (wC (.bl i)) := j_const pe_bl fun _ => .bl i
theorem j_non {j} : JE B X (.Constant .none j pos) (wC .non) := j_const pe_non fun _ => .non
theorem j_str {i j} : JE B X (.Constant (.str i) j pos) (wC (.str i)) := j_const pe_str fun _ => .str i
theorem j_globI {x : Str} {i : Int} {t : Tok} (hg : Gl X x) (hm : X.mg x = some (.int i t)) (hd : (x == ("__debug__" : Str)) = false := by decide) : JE B X (.Name x pos) (wC (.int i)) :=
  j_const (pe_glob (v := V.int i) hg hm (show ∃ t', Value.int i t = Value.int i t' from ⟨t, rfl⟩) hd) fun _ => .int i
theorem j_globS {x : Str} {i : Str} {t : Tok} (hg : Gl X x) (hm : X.mg x = some (.str i t)) (hd : (x == ("__debug__" : Str)) = false := by decide) : JE B X (.Name x pos) (wC (.str i)) :=
  j_const (pe_glob (v := V.str i) hg hm (show ∃ t', Value.str i t = Value.str i t' from ⟨t, rfl⟩) hd) fun _ => .str i

/-! ### operations -/
abbrev R3 := T → T → Sta → (T → Sta → Prop) → Prop
def L3 (K : PySem.W.Frag) (r : R3) : R2 := fun x y H Q => ∃ a b S Q0, Rep K H a x ∧ Rep K H b y ∧ St K S H ∧ r a b S Q0 ∧ Im2 Q0 (fin K H Q)
def OpT (X : Cx) (f : Value → Value → Sem Value) (r : R3) : Prop := OpR X f (L3 X.K r)
def wOp (r : R3) (ta tb : WE) (σ : Sl) (S : Sta) (Q : T → Sta → Prop) : Prop := ta σ S fun x S1 => tb σ S1 fun y S2 => r x y S2 Q
theorem le_op {r : R3} {σ : L2.St} {H : Hp} {Q : VK} (h : LE B X (wOp r ta tb) σ H Q) : tOp (L3 X.K r) (LE B X ta) (LE B X tb) σ H Q := by
  obtain ⟨st, S, Q0, he, hr, hs, h, im⟩ := h
  refine ⟨st, S, _, he, hr, hs, h, fun x S1 h1 H1 v e1 s1 r1 => ?_⟩
  refine ⟨st, S1, _, he.trans e1, hr.mono e1, s1, h1, fun y S2 h2 H2 u e2 s2 r2 => ?_⟩
  exact ⟨x, y, S2, Q0, Rep.mono e2 _ _ r1, r2, s2, h2, fun z S3 q => fin_ext (e1.trans e2) (im z S3 q)⟩
theorem j_op {op : Operator} {r : R3} (ho : OpT X (binaryOp op) r) (ha : JE B X a ta) (hb : JE B X b tb) : JE B X (.BinOp a op b pos) (wOp r ta tb) := pe_imp (pe_op ho ha hb) fun _ _ _ h => le_op h
theorem j_cmp {op : CmpOp} {r : R3} (ho : OpT X (compareOp op) r) (ha : JE B X a ta) (hb : JE B X b tb) (hm : behindInMarks op b = false) : JE B X (.Compare a [op] [b] pos) (wOp r ta tb) := pe_imp (pe_cmpR ho ha hb hm) fun _ _ _ h => le_op h
/-- a value that is a bool, as a test -/
def wTest (t : WE) (σ : Sl) (S : Sta) (Q : Bool → Sta → Prop) : Prop := t σ S fun x S1 => match x with
  | .bl c => Q c S1
  | _ => False
theorem le_test {t : WE} {σ : L2.St} {H : Hp} {Q : Bool → Hp → Prop} (h : LT B X (wTest t) σ H Q) : LE B X t σ H fun x H' => ∃ k, x = V.bl k ∧ Q k H' := by
  obtain ⟨st, S, Q0, he, hr, hs, h, im⟩ := h
  refine ⟨st, S, _, he, hr, hs, h, fun x S1 h1 H1 v e1 s1 r1 => ?_⟩
  cases x with
  | bl c =>
    cases r1
    exact ⟨c, rfl, im c S1 h1 H1 e1 s1⟩
  | _ => exact h1.elim
theorem jt_val {e : Expr} {t : WE} (h : JE B X e t) (he : ∀ whole, isTrue e X.env whole = (do let v ← whole; standAt e.pos; holding [v] (truthy v)) := by intro _; rfl) : JT B X e (wTest t) :=
  pt_imp (pt_val h he) fun _ _ _ h => le_test h
theorem jt_cmp {op : CmpOp} {r : R3} (ho : OpT X (compareOp op) r) (ha : JE B X a ta) (hb : JE B X b tb) (hm : behindInMarks op b = false) : JT B X (.Compare a [op] [b] pos) (wTest (wOp r ta tb)) :=
  pt_imp (pt_cmpR ho ha hb hm) fun σ H Q h => le_op (le_test h)
/-! ### chains a < b < c -/
def wChain (r r' : R3) (ta tb tc : WE) (σ : Sl) (S : Sta) (Q : T → Sta → Prop) : Prop := ta σ S fun x S1 => tb σ S1 fun y S2 => r x y S2 fun z S3 => match z with
  | .bl k => wif k (tc σ S3 fun u S4 => r' y u S4 Q) (Q (.bl false) S3)
  | _ => False
theorem le_chain {r r' : R3} {σ : L2.St} {H : Hp} {Q : VK} (h : LE B X (wChain r r' ta tb tc) σ H Q) : tChain (L3 X.K r) (L3 X.K r') (LE B X ta) (LE B X tb) (LE B X tc) σ H Q := by
  obtain ⟨st, S, Q0, he, hr, hs, h, im⟩ := h
  refine ⟨st, S, _, he, hr, hs, h, fun x S1 h1 H1 v e1 s1 r1 => ?_⟩
  refine ⟨st, S1, _, he.trans e1, hr.mono e1, s1, h1, fun y S2 h2 H2 u e2 s2 r2 => ?_⟩
  refine ⟨x, y, S2, _, Rep.mono e2 _ _ r1, r2, s2, h2, fun z S3 q H3 w e3 s3 r3 => ?_⟩
  cases z with
  | bl k =>
    cases r3
    refine ⟨k, rfl, ?_⟩
    cases k with
    | true =>
      rw [if_pos rfl]
      have q : tc st S3 fun u S4 => r' y u S4 Q0 := (wt q)
      refine ⟨st, S3, _, (he.trans e1).trans (e2.trans e3), hr.mono (e1.trans (e2.trans e3)), s3, q, fun u' S4 h4 H4 v4 e4 s4 r4 => ?_⟩
      exact ⟨y, u', S4, Q0, Rep.mono (e3.trans e4) _ _ r2, r4, s4, h4, fun z S5 q5 => fin_ext (e1.trans (e2.trans (e3.trans e4))) (im z S5 q5)⟩
    | false =>
      rw [if_neg Bool.false_ne_true]
      have q : Q0 (.bl false) S3 := (wff q)
      exact im _ _ q H3 _ (e1.trans (e2.trans e3)) s3 (.bl false)
  | _ => exact q.elim
theorem j_chain {op op' : CmpOp} {r r' : R3} (ho : OpT X (compareOp op) r) (ho' : OpT X (compareOp op') r') (ha : JE B X a ta) (hb : JE B X b tb) (hc : JE B X c tc)
    (hm : lastMarks [op, op'] [b, c] = false := by with_unfolding_all rfl) : JE B X (.Compare a [op, op'] [b, c] pos) (wChain r r' ta tb tc) := pe_imp (pe_chain ho ho' ha hb hc hm) fun _ _ _ h => le_chain h
theorem jt_chain {op op' : CmpOp} {r r' : R3} (ho : OpT X (compareOp op) r) (ho' : OpT X (compareOp op') r') (ha : JE B X a ta) (hb : JE B X b tb) (hc : JE B X c tc)
    (hm : lastMarks [op, op'] [b, c] = false := by with_unfolding_all rfl) : JT B X (.Compare a [op, op'] [b, c] pos) (wTest (wChain r r' ta tb tc)) := pt_imp (pt_chain ho ho' ha hb hc hm) fun _ _ _ h => le_chain (le_test h)

/-! ### and, or, not, if -/
variable {rest : List Expr} {t u : WT}
def wAnd (t u : WT) (σ : Sl) (S : Sta) (Q : Bool → Sta → Prop) : Prop := t σ S fun c S1 => wif c (u σ S1 Q) (Q false S1)
def wOr (t u : WT) (σ : Sl) (S : Sta) (Q : Bool → Sta → Prop) : Prop := t σ S fun c S1 => wif c (Q true S1) (u σ S1 Q)
def wNot (t : WT) (σ : Sl) (S : Sta) (Q : Bool → Sta → Prop) : Prop := t σ S fun c S1 => Q (!c) S1
theorem jw_and1 (ha : JT B X a t) : JW B X (.BoolOp .And [a] pos) t := pw_and1 ha
theorem jw_or1 (ha : JT B X a t) : JW B X (.BoolOp .Or [a] pos) t := pw_or1 ha
theorem jw_and (ha : JT B X a t) (hb : JW B X (.BoolOp .And (b :: rest) pos) u) : JW B X (.BoolOp .And (a :: b :: rest) pos) (wAnd t u) :=
  pw_imp (pw_and ha hb) fun σ H Q ⟨st, S, Q0, he, hr, hs, h, im⟩ => by
    refine ⟨st, S, _, he, hr, hs, h, fun k S1 h1 H1 e1 s1 => ?_⟩
    cases k with
    | true =>
      rw [if_pos rfl]
      exact ⟨st, S1, Q0, he.trans e1, hr.mono e1, s1, (wt h1), fun z S3 q => finB_ext e1 (im z S3 q)⟩
    | false =>
      rw [if_neg Bool.false_ne_true]
      exact im _ _ (wff h1) H1 e1 s1
theorem jw_or (ha : JT B X a t) (hb : JW B X (.BoolOp .Or (b :: rest) pos) u) : JW B X (.BoolOp .Or (a :: b :: rest) pos) (wOr t u) :=
  pw_imp (pw_or ha hb) fun σ H Q ⟨st, S, Q0, he, hr, hs, h, im⟩ => by
    refine ⟨st, S, _, he, hr, hs, h, fun k S1 h1 H1 e1 s1 => ?_⟩
    cases k with
    | true =>
      rw [if_pos rfl]
      exact im _ _ (wt h1) H1 e1 s1
    | false =>
      rw [if_neg Bool.false_ne_true]
      exact ⟨st, S1, Q0, he.trans e1, hr.mono e1, s1, (wff h1), fun z S3 q => finB_ext e1 (im z S3 q)⟩
theorem jt_not (ha : JT B X a t) : JT B X (.UnaryOp .Not a pos) (wNot t) :=
  pt_imp (pt_not ha) fun σ H Q ⟨st, S, Q0, he, hr, hs, h, im⟩ => ⟨st, S, _, he, hr, hs, h, fun k S1 h1 H1 e1 s1 => im _ _ h1 H1 e1 s1⟩
/-- .. as values -/
def wAndV (ta tb : WE) (σ : Sl) (S : Sta) (Q : T → Sta → Prop) : Prop := ta σ S fun x S1 => match x with
  | .bl k => wif k (tb σ S1 Q) (Q (.bl false) S1)
  | _ => False
def wOrV (ta tb : WE) (σ : Sl) (S : Sta) (Q : T → Sta → Prop) : Prop := ta σ S fun x S1 => match x with
  | .bl k => wif k (Q (.bl true) S1) (tb σ S1 Q)
  | _ => False
def wNotV (t : WE) (σ : Sl) (S : Sta) (Q : T → Sta → Prop) : Prop := t σ S fun x S1 => match x with
  | .bl c => Q (.bl (!c)) S1
  | _ => False
theorem j_one {op} {t : WE} (h : JE B X a t) : JE B X (.BoolOp op [a] pos) t := pe_one h
theorem j_and (ha : JE B X a ta) (hb : JE B X (.BoolOp .And (b :: rest) pos) tb) : JE B X (.BoolOp .And (a :: b :: rest) pos) (wAndV ta tb) :=
  pe_imp (pe_and ha hb) fun σ H Q ⟨st, S, Q0, he, hr, hs, h, im⟩ => by
    refine ⟨st, S, _, he, hr, hs, h, fun x S1 h1 H1 v e1 s1 r1 => ?_⟩
    cases x with
    | bl k =>
      cases r1
      refine ⟨k, rfl, ?_⟩
      cases k with
      | true =>
        rw [if_pos rfl]
        exact ⟨st, S1, Q0, he.trans e1, hr.mono e1, s1, (wt h1), fun z S3 q => fin_ext e1 (im z S3 q)⟩
      | false =>
        rw [if_neg Bool.false_ne_true]
        exact im _ _ (wff h1) H1 _ e1 s1 (.bl false)
    | _ => exact h1.elim
theorem j_or (ha : JE B X a ta) (hb : JE B X (.BoolOp .Or (b :: rest) pos) tb) : JE B X (.BoolOp .Or (a :: b :: rest) pos) (wOrV ta tb) :=
  pe_imp (pe_or ha hb) fun σ H Q ⟨st, S, Q0, he, hr, hs, h, im⟩ => by
    refine ⟨st, S, _, he, hr, hs, h, fun x S1 h1 H1 v e1 s1 r1 => ?_⟩
    cases x with
    | bl k =>
      cases r1
      refine ⟨k, rfl, ?_⟩
      cases k with
      | true =>
        rw [if_pos rfl]
        exact im _ _ (wt h1) H1 _ e1 s1 (.bl true)
      | false =>
        rw [if_neg Bool.false_ne_true]
        exact ⟨st, S1, Q0, he.trans e1, hr.mono e1, s1, (wff h1), fun z S3 q => fin_ext e1 (im z S3 q)⟩
    | _ => exact h1.elim
theorem j_not (ha : JE B X a ta) : JE B X (.UnaryOp .Not a pos) (wNotV ta) :=
  pe_imp (pe_not ha) fun σ H Q ⟨st, S, Q0, he, hr, hs, h, im⟩ => by
    refine ⟨st, S, _, he, hr, hs, h, fun x S1 h1 H1 v e1 s1 r1 => ?_⟩
    cases x with
    | bl k =>
      cases r1
      exact ⟨k, rfl, im _ _ h1 H1 _ e1 s1 (.bl _)⟩
    | _ => exact h1.elim
def wIf (t : WT) (ta tb : WE) (σ : Sl) (S : Sta) (Q : T → Sta → Prop) : Prop := t σ S fun c S1 => wif c (ta σ S1 Q) (tb σ S1 Q)
theorem j_ifExp (hc : JT B X c t) (ha : JE B X a ta) (hb : JE B X b tb) : JE B X (.IfExp c a b pos) (wIf t ta tb) :=
  pe_imp (pe_ifExp hc ha hb) fun σ H Q ⟨st, S, Q0, he, hr, hs, h, im⟩ => by
    refine ⟨st, S, _, he, hr, hs, h, fun k S1 h1 H1 e1 s1 => ?_⟩
    cases k with
    | true =>
      rw [if_pos rfl]
      exact ⟨st, S1, Q0, he.trans e1, hr.mono e1, s1, (wt h1), fun z S3 q => fin_ext e1 (im z S3 q)⟩
    | false =>
      rw [if_neg Bool.false_ne_true]
      exact ⟨st, S1, Q0, he.trans e1, hr.mono e1, s1, (wff h1), fun z S3 q => fin_ext e1 (im z S3 q)⟩

/-! ### argument lists, displays -/
def wNil (u0 : Sl) (S : Sta) (Q : List T → Sta → Prop) : Prop := Q [] S
def wCons (ta : WE) (tr : WA) (σ : Sl) (S : Sta) (Q : List T → Sta → Prop) : Prop := ta σ S fun x S1 => tr σ S1 fun xs S2 => Q (x :: xs) S2
variable {es : List Expr} {tr : WA}
theorem ja_nil : JA B X [] wNil := pa_imp pa_nil fun σ H Q ⟨st, S, Q0, he, hr, hs, h, im⟩ => im _ _ h H [] (Ext.refl H) hs .nil
theorem ja_cons (ha : JE B X a ta) (hr : JA B X es tr) (hs : starEach (a :: es) X.env = (false, eval a X.env) :: starEach es X.env := by rfl) : JA B X (a :: es) (wCons ta tr) :=
  pa_imp (pa_cons ha hr hs) fun σ H Q ⟨st, S, Q0, he, hr, hs, h, im⟩ => by
    refine ⟨st, S, _, he, hr, hs, h, fun x S1 h1 H1 v e1 s1 r1 => ?_⟩
    refine ⟨st, S1, _, he.trans e1, hr.mono e1, s1, h1, fun xs S2 h2 H2 vs e2 s2 r2 => ?_⟩
    exact im _ _ h2 H2 _ (e1.trans e2) s2 (.cons (Rep.mono e2 _ _ r1) r2)
def wTup (t : WA) (σ : Sl) (S : Sta) (Q : T → Sta → Prop) : Prop := t σ S fun xs S1 => xs.length ≤ sizeLine ∧ Q (.tup xs) S1
def wLst (t : WA) (σ : Sl) (S : Sta) (Q : T → Sta → Prop) : Prop := t σ S fun xs S1 => xs.length ≤ sizeLine ∧ ∀ p, S1 p = none → Q (.ref p) (upS S1 p (.lst xs))
theorem j_tup {x1} (h : JA B X es tr) : JE B X (.Tuple es x1 pos) (wTup tr) :=
  pe_imp (pe_tup h) fun σ H Q ⟨st, S, Q0, he, hr, hs, h, im⟩ => by
    refine ⟨st, S, _, he, hr, hs, h, fun xs S1 h1 H1 vs e1 s1 r1 => ?_⟩
    refine ⟨by rw [← r1.length]; exact h1.1, fun p hp => ?_⟩
    exact im _ _ h1.2 _ _ (e1.trans (Ext.new hp)) (s1.new hp _) (.tup upd_same (Reps.mono (Ext.new hp) _ _ r1))
theorem j_lst (h : JA B X es tr) : JE B X (.List es pos) (wLst tr) :=
  pe_imp (pe_lst h) fun σ H Q ⟨st, S, Q0, he, hr, hs, h, im⟩ => by
    refine ⟨st, S, _, he, hr, hs, h, fun xs S1 h1 H1 vs e1 s1 r1 => ?_⟩
    refine ⟨by rw [← r1.length]; exact h1.1, fun p hp => ?_⟩
    obtain ⟨e2, s2⟩ := s1.newL hp r1
    exact im _ _ (h1.2 p (s1.free hp)) _ _ (e1.trans e2) s2 (.ref p)
end
end Wp

set_option Elab.async false
set_option linter.all false
set_option maxRecDepth 100000
/-! operations on values -/
namespace Wp
open PySem PySem.Spec PyProof.Rows L2
section
variable {B : Hp} {X : Cx}
/-! ### arithmetic -/
def rInt (C : Int → Int → Prop) (g : Int → Int → T) (x : T) (y : T) (S : Sta) (Q : T → Sta → Prop) : Prop := match x, y with
  | .int i, .int j => C i j ∧ Q (g i j) S
  | _, _ => False
theorem opT_I {f : Value → Value → Sem Value} {C : Int → Int → Prop} {gV : Int → Int → V} {gT : Int → Int → T} (h : OpR X f (rI C gV)) (hr : ∀ H i j, Rep X.K H (gT i j) (gV i j)) : OpT X f (rInt C gT) := by
  intro pins s σ H x y v u Q I rx ry ⟨a, b, S, Q0, ra, rb, hs, q, im⟩
  cases a with
  | int i =>
    cases b with
    | int j =>
      cases ra
      cases rb
      exact h pins s σ H _ _ v u Q I rx ry ⟨i, j, rfl, rfl, q.1, im _ _ q.2 H _ (Ext.refl H) hs (hr H i j)⟩
    | _ => exact q.elim
  | _ => exact q.elim
theorem opT_I0 {f : Value → Value → Sem Value} {gV : Int → Int → V} {gT : Int → Int → T} (h : OpR X f (rI0 gV)) (hr : ∀ H i j, Rep X.K H (gT i j) (gV i j)) : OpT X f (rInt (fun _ _ => True) gT) := by
  intro pins s σ H x y v u Q I rx ry ⟨a, b, S, Q0, ra, rb, hs, q, im⟩
  cases a with
  | int i =>
    cases b with
    | int j =>
      cases ra
      cases rb
      exact h pins s σ H _ _ v u Q I rx ry ⟨i, j, rfl, rfl, im _ _ q.2 H _ (Ext.refl H) hs (hr H i j)⟩
    | _ => exact q.elim
  | _ => exact q.elim
def rSub : R3 := rInt (fun _ _ => True) fun i j => .int (i - j)
def rMul : R3 := rInt CMul fun i j => .int (i * j)
def rMod : R3 := rInt (fun _ j => 0 < j) fun i j => .int (i % j)
def rFdiv : R3 := rInt (fun _ j => 0 < j ∧ j < 2 ^ 62) fun i j => .int (i / j)
def rPow : R3 := rInt CPow fun i j => .int (i ^ j.toNat)
theorem o_sub : OpT X (binaryOp .Sub) rSub := opT_I0 op_sub fun _ _ _ => .int _
theorem o_mul : OpT X (binaryOp .Mult) rMul := opT_I op_mul fun _ _ _ => .int _
theorem o_mod : OpT X (binaryOp .Mod) rMod := opT_I op_mod fun _ _ _ => .int _
theorem o_pow : OpT X (binaryOp .Pow) rPow := opT_I op_pow fun _ _ _ => .int _
theorem o_fdiv : OpT X (binaryOp .FloorDiv) rFdiv := by
  intro pins s σ H x y v u Q I rx ry ⟨a, b, S, Q0, ra, rb, hs, q, im⟩
  refine opT_I (gT := fun i j => .int (i / j)) op_fdivW (fun _ _ _ => .int _) pins s σ H x y v u Q I rx ry ⟨a, b, S, Q0, ra, rb, hs, ?_, im⟩
  cases a with
  | int i =>
    cases b with
    | int j => exact ⟨wide_div (b := 62) q.1.1 (by have h1 := q.1.1; have h2 := q.1.2; omega) (by decide) (by decide), q.2⟩
    | _ => exact q.elim
  | _ => exact q.elim
/-- + : numbers, tuples, texts, lists -/
def rAdd (x : T) (y : T) (S : Sta) (Q : T → Sta → Prop) : Prop := match x, y with
  | .int i, .int j => Q (.int (i + j)) S
  | .tup a, .tup b => a.length + b.length ≤ sizeLine ∧ Q (.tup (a ++ b)) S
  | .str a, .str b => a.length + b.length ≤ sizeLine ∧ Q (.str (a ++ b)) S
  | .ref p, .ref q => ∃ xs, S p = some (.lst xs) ∧ ∃ ys, S q = some (.lst ys) ∧ xs.length + ys.length ≤ sizeLine ∧ ∀ r, S r = none → Q (.ref r) (upS S r (.lst (xs ++ ys)))
  | _, _ => False
theorem o_add : OpT X (binaryOp .Add) rAdd := by
  intro pins s σ H x y v u Q I rx ry ⟨a, b, S, Q0, ra, rb, hs, q, im⟩
  cases a with
  | int i =>
    cases b with
    | int j =>
      cases ra
      cases rb
      exact op_add pins s σ H _ _ v u Q I rx ry ⟨i, j, rfl, rfl, im _ _ q H _ (Ext.refl H) hs (.int _)⟩
    | _ => exact q.elim
  | str i =>
    cases b with
    | str j =>
      cases ra
      cases rb
      exact op_add_str pins s σ H _ _ v u Q I rx ry ⟨i, j, rfl, rfl, q.1, im _ _ q.2 H _ (Ext.refl H) hs (.str _)⟩
    | _ => exact q.elim
  | tup ts =>
    cases b with
    | tup us =>
      cases ra with
      | @tup p xs _ h1 h2 =>
        cases rb with
        | @tup p' ys _ g1 g2 =>
          have rr := Reps.append h2 g2
          refine op_catA pins s σ H _ _ v u Q I rx ry ⟨p, p', xs, ys, rfl, rfl, sqT_of h1, sqT_of g1, by rw [← h2.length, ← g2.length]; exact q.1, fun e => ?_, fun e e' => ?_, fun e e' r hr => ?_⟩
          · subst e
            cases h2
            exact im _ _ q.2 H _ (Ext.refl H) hs (.tup g1 g2)
          · subst e'
            cases g2
            have q2 := q.2
            rw [List.append_nil] at q2
            exact im _ _ q2 H _ (Ext.refl H) hs (.tup h1 h2)
          · exact im _ _ q.2 _ _ (Ext.new hr) (hs.new hr _) (.tup upd_same (Reps.mono (Ext.new hr) _ _ rr))
    | _ => exact q.elim
  | ref p =>
    cases b with
    | ref p' =>
      cases ra
      cases rb
      obtain ⟨ts, e1, us, e2, hz, q⟩ := q
      obtain ⟨xs, h1, r1⟩ := hs p _ e1
      obtain ⟨ys, h2, r2⟩ := hs p' _ e2
      refine op_cat pins s σ H _ _ v u Q I rx ry ⟨p, p', xs, ys, rfl, rfl, h1, h2, by rw [← r1.length, ← r2.length]; exact hz, fun r hr => ?_⟩
      obtain ⟨e3, s3⟩ := hs.newL hr (Reps.append r1 r2)
      exact im _ _ (q r (hs.free hr)) _ _ e3 s3 (.ref r)
    | _ => exact q.elim
  | _ => exact q.elim
/-! ### order -/
def rCmp (p : Int → Int → Bool) (ps : List Nat → List Nat → Bool) (x : T) (y : T) (S : Sta) (Q : T → Sta → Prop) : Prop := match x, y with
  | .int i, .int j => Q (.bl (p i j)) S
  | .str a, .str b => Q (.bl (ps a.cps.toList b.cps.toList)) S
  | _, _ => False
def rLt : R3 := rCmp (fun i j => decide (i < j)) fun a b => decide (a < b)
def rLe : R3 := rCmp (fun i j => decide (i ≤ j)) fun a b => !decide (b < a)
def rGtI : R3 := rInt (fun _ _ => True) fun i j => .bl (decide (j < i))
def rGeI : R3 := rInt (fun _ _ => True) fun i j => .bl (decide (j ≤ i))
theorem o_lt : OpT X (compareOp .Lt) rLt := by
  intro pins s σ H x y v u Q I rx ry ⟨a, b, S, Q0, ra, rb, hs, q, im⟩
  cases a with
  | int i =>
    cases b with
    | int j =>
      cases ra
      cases rb
      exact op_lt pins s σ H _ _ v u Q I rx ry ⟨i, j, rfl, rfl, im _ _ q H _ (Ext.refl H) hs (.bl _)⟩
    | _ => exact q.elim
  | str i =>
    cases b with
    | str j =>
      cases ra
      cases rb
      exact op_lt_str pins s σ H _ _ v u Q I rx ry ⟨i, j, rfl, rfl, im _ _ q H _ (Ext.refl H) hs (.bl _)⟩
    | _ => exact q.elim
  | _ => exact q.elim
theorem o_le : OpT X (compareOp .LtE) rLe := by
  intro pins s σ H x y v u Q I rx ry ⟨a, b, S, Q0, ra, rb, hs, q, im⟩
  cases a with
  | int i =>
    cases b with
    | int j =>
      cases ra
      cases rb
      exact op_le pins s σ H _ _ v u Q I rx ry ⟨i, j, rfl, rfl, im _ _ q H _ (Ext.refl H) hs (.bl _)⟩
    | _ => exact q.elim
  | str i =>
    cases b with
    | str j =>
      cases ra
      cases rb
      exact op_le_str pins s σ H _ _ v u Q I rx ry ⟨i, j, rfl, rfl, im _ _ q H _ (Ext.refl H) hs (.bl _)⟩
    | _ => exact q.elim
  | _ => exact q.elim
theorem o_gt : OpT X (compareOp .Gt) rGtI := opT_I0 op_gt fun _ _ _ => .bl _
theorem o_ge : OpT X (compareOp .GtE) rGeI := opT_I0 op_ge fun _ _ _ => .bl _
/-! ### is None -/
def isNon : T → Bool
  | .non => true
  | _ => false
def rIsN (neg : Bool) (x : T) (y : T) (S : Sta) (Q : T → Sta → Prop) : Prop := match y with
  | .non => Q (.bl (neg != isNon x)) S
  | _ => False
theorem isNon_rep {K : PySem.W.Frag} {H : Hp} {t : T} {v : V} (r : Rep K H t v) : decide (v = .non) = isNon t := by
  cases r <;> rfl
theorem o_isN : OpT X (compareOp .Is) (rIsN false) := by
  intro pins s σ H x y v u Q I rx ry ⟨a, b, S, Q0, ra, rb, hs, q, im⟩
  cases b with
  | non =>
    cases rb
    refine op_isN pins s σ H _ _ v u Q I rx ry ⟨rfl, ?_⟩
    rw [isNon_rep ra]
    have q : Q0 (.bl (false != isNon a)) S := q
    rw [Bool.false_bne] at q
    exact im _ _ q H _ (Ext.refl H) hs (.bl _)
  | _ => exact q.elim
theorem o_notN : OpT X (compareOp .IsNot) (rIsN true) := by
  intro pins s σ H x y v u Q I rx ry ⟨a, b, S, Q0, ra, rb, hs, q, im⟩
  cases b with
  | non =>
    cases rb
    refine op_notN pins s σ H _ _ v u Q I rx ry ⟨rfl, ?_⟩
    rw [isNon_rep ra]
    have q : Q0 (.bl (true != isNon a)) S := q
    rw [Bool.true_bne] at q
    exact im _ _ q H _ (Ext.refl H) hs (.bl _)
  | _ => exact q.elim
/-! ### == -/
mutual
def toD : T → Option PyData
  | .non => some .none
  | .bl b => some (.bool b)
  | .int i => some (.int i)
  | .str s => some (.str s)
  | .tup ts => (toDs ts).map .tuple
  | .fl ts => (toDs ts).map .list
  | .pt ts => (toDs ts).map .tuple
  | .ref _ => none
def toDs : List T → Option (List PyData)
  | [] => some []
  | t :: ts => match toD t, toDs ts with
    | some d, some ds => some (d :: ds)
    | _, _ => none
end
def dd (S : Sta) : T → Option PyData
  | .ref p => match S p with
    | some (.lst ts) => (toDs ts).map .list
    | _ => none
  | t => toD t
mutual
theorem Rep.dp {K : PySem.W.Frag} {H : Hp} : ∀ (t : T) (v : V) (d : PyData), Rep K H t v → toD t = some d → Dp K H v d
  | .non, _, _, r, e => by cases r; simp only [toD, Option.some.injEq] at e; subst e; exact .non
  | .bl b, _, _, r, e => by cases r; simp only [toD, Option.some.injEq] at e; subst e; exact .bl b
  | .int b, _, _, r, e => by cases r; simp only [toD, Option.some.injEq] at e; subst e; exact .int b
  | .str b, _, _, r, e => by cases r; simp only [toD, Option.some.injEq] at e; subst e; exact .str b
  | .ref a, _, _, r, e => by simp only [toD] at e; cases e
  | .tup ts, _, d, r, e => by
    cases r with
    | tup h1 h2 =>
      simp only [toD, Option.map_eq_some_iff] at e
      obtain ⟨ds, e1, e2⟩ := e
      subst e2
      exact .tup (sqT_of h1) (Reps.dp ts _ ds h2 e1)
  | .fl ts, _, d, r, e => by
    cases r with
    | fl h1 h2 =>
      simp only [toD, Option.map_eq_some_iff] at e
      obtain ⟨ds, e1, e2⟩ := e
      subst e2
      exact .lst h1.sq (Reps.dp ts _ ds h2 e1)
  | .pt ts, _, d, r, e => by
    cases r with
    | pt h0 h1 h2 =>
      simp only [toD, Option.map_eq_some_iff] at e
      obtain ⟨ds, e1, e2⟩ := e
      subst e2
      exact .tup (.inl (.inr ⟨_, h1⟩)) (Reps.dp ts _ ds h2 e1)
theorem Reps.dp {K : PySem.W.Frag} {H : Hp} : ∀ (ts : List T) (vs : List V) (ds : List PyData), Reps K H ts vs → toDs ts = some ds → DpAll K H vs ds
  | [], _, _, r, e => by cases r; simp only [toDs, Option.some.injEq] at e; subst e; exact .nil
  | t :: ts, _, ds, r, e => by
    cases r with
    | cons h1 h2 =>
      simp only [toDs] at e
      cases e1 : toD t with
      | none => rw [e1] at e; cases e
      | some d =>
        cases e2 : toDs ts with
        | none => rw [e1, e2] at e; cases e
        | some es =>
          rw [e1, e2] at e
          cases e
          exact .cons (Rep.dp t _ d h1 e1) (Reps.dp ts _ es h2 e2)
end
theorem dd_dp {K : PySem.W.Frag} {H : Hp} {S : Sta} {t : T} {v : V} {d : PyData} (hs : St K S H) (r : Rep K H t v) (e : dd S t = some d) : Dp K H v d := by
  cases t with
  | ref p =>
    cases r
    simp only [dd] at e
    cases q : S p with
    | none => rw [q] at e; cases e
    | some o =>
      rw [q] at e
      cases o with
      | ot x => cases e
      | ins C fs => cases e
      | dct kvs => cases e
      | dtt kvs => cases e
      | lst ts =>
        simp only [Option.map_eq_some_iff] at e
        obtain ⟨ds, e1, e2⟩ := e
        subst e2
        obtain ⟨xs, h1, h2⟩ := hs p _ q
        exact .lst (.inl (.inl h1)) (Reps.dp ts _ ds h2 e1)
  | non => exact Rep.dp _ _ _ r e
  | bl b => exact Rep.dp _ _ _ r e
  | int b => exact Rep.dp _ _ _ r e
  | str b => exact Rep.dp _ _ _ r e
  | tup b => exact Rep.dp _ _ _ r e
  | fl b => exact Rep.dp _ _ _ r e
  | pt b => exact Rep.dp _ _ _ r e
def rEq (neg : Bool) (x : T) (y : T) (S : Sta) (Q : T → Sta → Prop) : Prop := ∃ d, dd S x = some d ∧ ∃ e, dd S y = some e ∧ SeqAt.shaped d = true ∧ SeqAt.shaped e = true ∧ Q (.bl (neg != PyData.eqv d e)) S
theorem o_eq (hu : X.A.units + 64 < cLine) : OpT X (compareOp .Eq) (rEq false) := by
  intro pins s σ H x y v u Q I rx ry ⟨a, b, S, Q0, ra, rb, hs, ⟨d, h1, e, h2, h3, h4, q⟩, im⟩
  refine op_eqD hu pins s σ H _ _ v u Q I rx ry ⟨d, e, dd_dp hs ra h1, dd_dp hs rb h2, h3, h4, ?_⟩
  rw [Bool.false_bne] at q
  exact im _ _ q H _ (Ext.refl H) hs (.bl _)
theorem o_ne (hu : X.A.units + 64 < cLine) : OpT X (compareOp .NotEq) (rEq true) := by
  intro pins s σ H x y v u Q I rx ry ⟨a, b, S, Q0, ra, rb, hs, ⟨d, h1, e, h2, h3, h4, q⟩, im⟩
  refine op_neD hu pins s σ H _ _ v u Q I rx ry ⟨d, e, dd_dp hs ra h1, dd_dp hs rb h2, h3, h4, ?_⟩
  rw [Bool.true_bne] at q
  exact im _ _ q H _ (Ext.refl H) hs (.bl _)
/-! ### x in a list, a tuple: flat values -/
def flatT : T → Bool
  | .non => true
  | .bl _ => true
  | .int _ => true
  | .str _ => true
  | _ => false
def eqF : T → T → Bool
  | .non, .non => true
  | .bl a, .bl b => a == b
  | .bl a, .int b => (if a then 1 else 0) == b
  | .int a, .bl b => a == (if b then 1 else 0)
  | .int a, .int b => a == b
  | .str a, .str b => a == b
  | _, _ => false
def inF (x : T) (ts : List T) : Bool := ts.any fun y => eqF y x
theorem flat_rep {K : PySem.W.Frag} {H : Hp} {t : T} {v : V} (r : Rep K H t v) (f : flatT t = true) : flatV v = true := by
  cases r <;> first | rfl | cases f
theorem eqF_rep {K : PySem.W.Frag} {H : Hp} {t u : T} {v w : V} (r : Rep K H t v) (q : Rep K H u w) (f : flatT t = true) (g : flatT u = true) : eqV v w = eqF t u := by
  cases r <;> first | (cases f; done) | (cases q <;> first | (cases g; done) | rfl)
theorem flats_rep {K : PySem.W.Frag} {H : Hp} : ∀ {ts : List T} {vs : List V}, Reps K H ts vs → ts.all flatT = true → vs.all flatV = true
  | [], _, h, _ => by cases h; rfl
  | t :: ts, _, h, f => by
    cases h with
    | cons h1 h2 =>
      rw [List.all_cons, Bool.and_eq_true] at f ⊢
      exact ⟨flat_rep h1 f.1, flats_rep h2 f.2⟩
theorem inF_rep {K : PySem.W.Frag} {H : Hp} {x : T} {w : V} (r : Rep K H x w) (g : flatT x = true) : ∀ {ts : List T} {vs : List V}, Reps K H ts vs → ts.all flatT = true → inV w vs = inF x ts
  | [], _, h, _ => by cases h; rfl
  | t :: ts, _, h, f => by
    cases h with
    | cons h1 h2 =>
      rw [List.all_cons, Bool.and_eq_true] at f
      have ih := inF_rep r g h2 f.2
      unfold inV inF at ih ⊢
      rw [List.any_cons, List.any_cons, ih, eqF_rep h1 r f.1 g]
/-- the items of a list or a tuple, as they stand -/
def itemsT (S : Sta) : T → Option (List T)
  | .tup ts => some ts
  | .fl ts => some ts
  | .ref p => match S p with
    | some (.lst ts) => some ts
    | _ => none
  | _ => none
theorem items_sq {K : PySem.W.Frag} {H : Hp} {S : Sta} {t : T} {v : V} {ts : List T} (hs : St K S H) (r : Rep K H t v) (e : itemsT S t = some ts) : ∃ p xs, v = .ref p ∧ (SqL K H p xs ∨ H p = some (.tup xs)) ∧ Reps K H ts xs := by
  cases r with
  | tup h1 h2 => cases e; exact ⟨_, _, rfl, .inr h1, h2⟩
  | fl h1 h2 => cases e; exact ⟨_, _, rfl, .inl h1.sq, h2⟩
  | ref a =>
    simp only [itemsT] at e
    cases q : S a with
    | none => rw [q] at e; cases e
    | some o =>
      rw [q] at e
      cases o with
      | ot x => cases e
      | ins C fs => cases e
      | dct kvs => cases e
      | dtt kvs => cases e
      | lst us =>
        cases e
        obtain ⟨xs, h1, h2⟩ := hs a _ q
        exact ⟨a, xs, rfl, .inl (.inl (.inl h1)), h2⟩
  | _ => cases e
def rIn (neg : Bool) (x : T) (y : T) (S : Sta) (Q : T → Sta → Prop) : Prop := ∃ ts, itemsT S y = some ts ∧ flatT x = true ∧ ts.all flatT = true ∧ Q (.bl (neg != inF x ts)) S
theorem o_in : OpT X (compareOp .In) (rIn false) := by
  intro pins s σ H x y v u Q I rx ry ⟨a, b, S, Q0, ra, rb, hs, ⟨ts, e, f, g, q⟩, im⟩
  obtain ⟨p, xs, rfl, h, r⟩ := items_sq hs rb e
  refine op_in_seq pins s σ H _ _ v u Q I rx ry ⟨p, xs, rfl, h.imp id sqT_of, flat_rep ra f, flats_rep r g, ?_⟩
  rw [if_neg Bool.false_ne_true, inF_rep ra f r g]
  rw [Bool.false_bne] at q
  exact im _ _ q H _ (Ext.refl H) hs (.bl _)
theorem o_notIn : OpT X (compareOp .NotIn) (rIn true) := by
  intro pins s σ H x y v u Q I rx ry ⟨a, b, S, Q0, ra, rb, hs, ⟨ts, e, f, g, q⟩, im⟩
  obtain ⟨p, xs, rfl, h, r⟩ := items_sq hs rb e
  refine op_notIn_seq pins s σ H _ _ v u Q I rx ry ⟨p, xs, rfl, h.imp id sqT_of, flat_rep ra f, flats_rep r g, ?_⟩
  rw [if_pos rfl, inF_rep ra f r g]
  rw [Bool.true_bne] at q
  exact im _ _ q H _ (Ext.refl H) hs (.bl _)
end
end Wp

set_option Elab.async false
set_option linter.all false
set_option maxRecDepth 100000
/-! subscripts, slices, calls -/
namespace Wp
open PySem PySem.Spec PyProof.Rows L2
section
variable {B : Hp} {X : Cx} {a b : Expr} {ta tb : WE} {pos : Pos}
/-! ### o[i] -/
def rIx (x : T) (y : T) (S : Sta) (Q : T → Sta → Prop) : Prop := match y with
  | .int i => match x with
    | .str s => s.length ≤ sizeLine ∧ ∃ c, atI s.cps.toList i = some c ∧ Q (.str ⟨#[c]⟩) S
    | x => ∃ ts, itemsT S x = some ts ∧ ∃ t, atI ts i = some t ∧ Q t S
  | _ => False
theorem ixN_lt {n : Nat} {i : Int} {j : Nat} (h : ixN n i = some j) : j < n := (ixN_seq h).2.1
theorem atI_rep {K : PySem.W.Frag} {H : Hp} {ts : List T} {vs : List V} {i : Int} {t : T} (r : Reps K H ts vs) (h : atI ts i = some t) : ∃ v, atI vs i = some v ∧ Rep K H t v := by
  unfold atI at h ⊢
  rw [← r.length]
  cases e : ixN ts.length i with
  | none => rw [e] at h; cases h
  | some j =>
    rw [e] at h
    exact r.get h
theorem ix_T : IxR X (L3 X.K rIx) := by
  intro value slice pins s σ H x y v u Q I rx ry ⟨a, b, S, Q0, ra, rb, hs, q, im⟩ hsub
  cases b with
  | int i =>
    have go : ∀ ts t, itemsT S a = some ts → atI ts i = some t → Q0 t S → wpAny (model X.prog X.w) X.A (subscriptTail value slice v u) (EP X pins σ Q) X.xe s := fun ts t e1 e2 q => by
      obtain ⟨p, xs, rfl, h, r⟩ := items_sq hs ra e1
      obtain ⟨w, e3, rw'⟩ := atI_rep r e2
      cases rb
      have qq := im _ _ q H _ (Ext.refl H) hs rw'
      rcases h with h | h
      · exact ix_list value slice pins s σ H _ _ v u Q I rx ry ⟨p, xs, i, w, rfl, rfl, h, e3, qq⟩ hsub
      · exact ix_tup value slice pins s σ H _ _ v u Q I rx ry ⟨p, xs, i, w, rfl, rfl, sqT_of h, e3, qq⟩ hsub
    cases a with
    | str z =>
      obtain ⟨hz, c, e, q⟩ := q
      cases ra
      cases rb
      exact ix_str value slice pins s σ H _ _ v u Q I rx ry ⟨z, i, c, rfl, rfl, hz, e, im _ _ q H _ (Ext.refl H) hs (.str _)⟩ hsub
    | non => obtain ⟨ts, e1, t, e2, q⟩ := q; exact go ts t e1 e2 q
    | bl _ => obtain ⟨ts, e1, t, e2, q⟩ := q; exact go ts t e1 e2 q
    | pt _ => obtain ⟨ts, e1, t, e2, q⟩ := q; exact go ts t e1 e2 q
    | int _ => obtain ⟨ts, e1, t, e2, q⟩ := q; exact go ts t e1 e2 q
    | tup _ => obtain ⟨ts, e1, t, e2, q⟩ := q; exact go ts t e1 e2 q
    | fl _ => obtain ⟨ts, e1, t, e2, q⟩ := q; exact go ts t e1 e2 q
    | ref _ => obtain ⟨ts, e1, t, e2, q⟩ := q; exact go ts t e1 e2 q
  | _ => exact q.elim
theorem j_ix (ha : JE B X a ta) (hb : JE B X b tb) (hs : PlainIx b) : JE B X (.Subscript a b pos) (wOp rIx ta tb) := pe_imp (pe_ix ix_T ha hb hs) fun _ _ _ h => le_op h
/-! ### o[i:j] -/
abbrev WO := Sl → Sta → (Option Int → Sta → Prop) → Prop
def finO (K : PySem.W.Frag) (H : Hp) (Q : Option Int → Hp → Prop) : Option Int → Sta → Prop := fun b S => ∀ H', Ext H H' → St K S H' → Q b H'
def LO (B : Hp) (X : Cx) (t : WO) : TO := fun σ H Q => ∃ st S Q0, Ext B H ∧ SlR X.K H st σ ∧ St X.K S H ∧ t st S Q0 ∧ Im2 Q0 (finO X.K H Q)
def JO (B : Hp) (X : Cx) (e : Option Expr) (t : WO) : Prop := PO X e (LO B X t)
theorem po_imp {e : Option Expr} {t t' : TO} (h : PO X e t) (k : ∀ σ H Q, t' σ H Q → t σ H Q) : PO X e t' := ⟨fun pins s σ H Q I q => h.run pins s σ H Q I (k σ H Q q)⟩
def wNoPart (u0 : Sl) (S : Sta) (Q : Option Int → Sta → Prop) : Prop := Q none S
def wPart (t : WE) (σ : Sl) (S : Sta) (Q : Option Int → Sta → Prop) : Prop := t σ S fun x S1 => match x with
  | .int i => Q (some i) S1
  | _ => False
theorem jo_none : JO B X none wNoPart := po_imp po_none fun σ H Q ⟨st, S, Q0, he, hr, hs, h, im⟩ => im _ _ h H (Ext.refl H) hs
theorem jo_some (h : JE B X a ta) : JO B X (some a) (wPart ta) := po_imp (po_some h) fun σ H Q ⟨st, S, Q0, he, hr, hs, h, im⟩ => by
  refine ⟨st, S, _, he, hr, hs, h, fun x S1 h1 H1 v e1 s1 r1 => ?_⟩
  cases x with
  | int i =>
    cases r1
    exact ⟨i, rfl, im _ _ h1 H1 e1 s1⟩
  | _ => exact h1.elim
def cutT (xs : List T) (lo hi : Option Int) : List T := (xs.drop (HT.sIx xs.length 0 lo)).take (HT.sIx xs.length xs.length hi - HT.sIx xs.length 0 lo)
theorem cut_rep {K : PySem.W.Frag} {H : Hp} {ts : List T} {vs : List V} (r : Reps K H ts vs) (lo hi : Option Int) : Reps K H (cutT ts lo hi) (cutV vs lo hi) := by
  unfold cutT cutV
  rw [r.length]
  exact (r.drop _).take _
theorem cutT_all (xs : List T) (lo hi : Option Int) (h : HT.sIx xs.length 0 lo = 0 ∧ HT.sIx xs.length xs.length hi = xs.length) : cutT xs lo hi = xs := by
  unfold cutT
  rw [h.1, h.2]
  simp
def rSl : T → Option Int → Option Int → Sta → (T → Sta → Prop) → Prop := fun x lo hi S Q => match x with
  | .str z => z.length ≤ sizeLine ∧ Q (.str (Txt.slice z lo hi)) S
  | .tup ts => Q (.tup (cutT ts lo hi)) S
  | x => ∃ ts, itemsT S x = some ts ∧ ∀ p, S p = none → Q (.ref p) (upS S p (.lst (cutT ts lo hi)))
def L3s (K : PySem.W.Frag) (r : T → Option Int → Option Int → Sta → (T → Sta → Prop) → Prop) : V → Option Int → Option Int → Hp → VK → Prop := fun x lo hi H Q => ∃ a S Q0, Rep K H a x ∧ St K S H ∧ r a lo hi S Q0 ∧ Im2 Q0 (fin K H Q)
theorem sl_T : L2.SlR X (L3s X.K rSl) := by
  intro pins s σ H x v vl vu lo hi sl Q I rx hso pl pu ⟨a, S, Q0, ra, hs, q, im⟩
  cases a with
  | str z =>
    cases ra
    exact C8.sl_txt pins s σ H _ v vl vu lo hi sl Q I rx hso pl pu ⟨z, rfl, q.1, im _ _ q.2 H _ (Ext.refl H) hs (.str _)⟩
  | tup ts =>
    cases ra with
    | @tup p xs _ h1 h2 =>
      refine sl_tupA pins s σ H _ v vl vu lo hi sl Q I rx hso pl pu ⟨p, xs, rfl, sqT_of h1, fun hw => ?_, fun hw p' hp' => ?_⟩
      · rw [← h2.length] at hw
        have q : Q0 (.tup (cutT ts lo hi)) S := q
        rw [cutT_all ts lo hi hw] at q
        exact im _ _ q H _ (Ext.refl H) hs (.tup h1 h2)
      · exact im _ _ q _ _ (Ext.new hp') (hs.new hp' _) (.tup upd_same (Reps.mono (Ext.new hp') _ _ (cut_rep h2 lo hi)))
  | fl ts =>
    cases ra with
    | @fl p xs _ h1 h2 =>
      obtain ⟨us, e, q⟩ := q
      cases e
      refine sl_list pins s σ H _ v vl vu lo hi sl Q I rx hso pl pu ⟨p, xs, rfl, h1.sq, fun p' hp' => ?_⟩
      obtain ⟨e3, s3⟩ := hs.newL hp' (cut_rep h2 lo hi)
      exact im _ _ (q p' (hs.free hp')) _ _ e3 s3 (.ref p')
  | ref p =>
    obtain ⟨us, e, q⟩ := q
    simp only [itemsT] at e
    cases ra
    cases eS : S p with
    | none => rw [eS] at e; cases e
    | some o =>
      rw [eS] at e
      cases o with
      | ot x => cases e
      | ins C fs => cases e
      | dct kvs => cases e
      | dtt kvs => cases e
      | lst ws =>
        cases e
        obtain ⟨xs, h1, h2⟩ := hs p _ eS
        refine sl_list pins s σ H _ v vl vu lo hi sl Q I rx hso pl pu ⟨p, xs, rfl, .inl (.inl h1), fun p' hp' => ?_⟩
        obtain ⟨e3, s3⟩ := hs.newL hp' (cut_rep h2 lo hi)
        exact im _ _ (q p' (hs.free hp')) _ _ e3 s3 (.ref p')
  | non => obtain ⟨us, e, q⟩ := q; cases e
  | bl _ => obtain ⟨us, e, q⟩ := q; cases e
  | pt _ => obtain ⟨us, e, q⟩ := q; cases e
  | int _ => obtain ⟨us, e, q⟩ := q; cases e
def wSl (te : WE) (tl th : WO) (σ : Sl) (S : Sta) (Q : T → Sta → Prop) : Prop := te σ S fun x S1 => tl σ S1 fun l S2 => th σ S2 fun u S3 => rSl x l u S3 Q
theorem j_slice {lo hi : Option Expr} {tl th : WO} {p2 : Pos} (he : JE B X a ta) (hl : JO B X lo tl) (hu : JO B X hi th) : JE B X (.Subscript a (.Slice lo hi none p2) pos) (wSl ta tl th) :=
  pe_imp (pe_slice sl_T he hl hu) fun σ H Q ⟨st, S, Q0, he, hr, hs, h, im⟩ => by
    refine ⟨st, S, _, he, hr, hs, h, fun x S1 h1 H1 v e1 s1 r1 => ?_⟩
    refine ⟨st, S1, _, he.trans e1, hr.mono e1, s1, h1, fun l S2 h2 H2 e2 s2 => ?_⟩
    refine ⟨st, S2, _, he.trans (e1.trans e2), hr.mono (e1.trans e2), s2, h2, fun u S3 h3 H3 e3 s3 => ?_⟩
    exact ⟨x, S3, Q0, Rep.mono (e2.trans e3) _ _ r1, s3, h3, fun z S4 q => fin_ext (e1.trans (e2.trans e3)) (im z S4 q)⟩
/-! ### -x -/
def rNeg : T → Sta → (T → Sta → Prop) → Prop := fun x S Q => match x with
  | .int i => Q (.int (-i)) S
  | _ => False
def wNeg (t : WE) (σ : Sl) (S : Sta) (Q : T → Sta → Prop) : Prop := t σ S fun x S1 => rNeg x S1 Q
theorem j_neg (ha : JE B X a ta) : JE B X (.UnaryOp .USub a pos) (wNeg ta) := pe_imp (pe_un un_neg ha) fun σ H Q ⟨st, S, Q0, he, hr, hs, h, im⟩ => by
  refine ⟨st, S, _, he, hr, hs, h, fun x S1 h1 H1 v e1 s1 r1 => ?_⟩
  cases x with
  | int i =>
    cases r1
    exact ⟨i, rfl, im _ _ h1 H1 _ e1 s1 (.int _)⟩
  | _ => exact h1.elim

/-! ### calls of built-ins by values -/
abbrev RC3 := List T → Sta → (T → Sta → Prop) → Prop
def LC (K : PySem.W.Frag) (r : RC3) : List V → Hp → VK → Prop := fun xs H Q => ∃ ts S Q0, Reps K H ts xs ∧ St K S H ∧ r ts S Q0 ∧ Im2 Q0 (fin K H Q)
def wCB (r : RC3) (t : WA) (σ : Sl) (S : Sta) (Q : T → Sta → Prop) : Prop := t σ S fun xs S1 => r xs S1 Q
variable {es : List Expr} {tr : WA}
theorem le_cb {r : RC3} {σ : L2.St} {H : Hp} {Q : VK} (h : LE B X (wCB r tr) σ H Q) : tCB (LC X.K r) (LA B X tr) σ H Q := by
  obtain ⟨st, S, Q0, he, hr, hs, h, im⟩ := h
  refine ⟨st, S, _, he, hr, hs, h, fun xs S1 h1 H1 v e1 s1 r1 => ?_⟩
  exact ⟨xs, S1, Q0, r1, s1, h1, fun z S4 q => fin_ext e1 (im z S4 q)⟩
theorem j_callB {id : String} {r : RC3} {x : Str} {p : Pos} (hc : CallR X (.builtin id) (LC X.K r)) (hg : Gl X x) (hm : X.mg x = none) (hv : bootBuiltins x = some (.builtin id)) (ha : JA B X (a :: es) tr) (hn : x ≠ "__name__" := by decide) (hdb : (x == ("__debug__" : Str)) = false := by decide)
    (he : starEach (a :: es) X.env = (false, eval a X.env) :: starEach es X.env := by rfl) (hpl : (backTo pos (starEach es X.env)).any (·.1) = false := by rfl) : JE B X (.Call (.Name x p) (a :: es) [] pos) (wCB r tr) :=
  pe_imp (pe_callB hc hg hm hv ha hn hdb he hpl) fun _ _ _ h => le_cb h
theorem j_callTy {T : String} {r : RC3} {x : Str} {p : Pos} (hc : CallR X (.type T) (LC X.K r)) (hg : Gl X x) (hm : X.mg x = none) (hv : bootBuiltins x = some (.type T)) (ha : JA B X (a :: es) tr) (hn : x ≠ "__name__" := by decide) (hdb : (x == ("__debug__" : Str)) = false := by decide)
    (he : starEach (a :: es) X.env = (false, eval a X.env) :: starEach es X.env := by rfl) (hpl : (backTo pos (starEach es X.env)).any (·.1) = false := by rfl) : JE B X (.Call (.Name x p) (a :: es) [] pos) (wCB r tr) :=
  pe_imp (pe_callTy hc hg hm hv ha hn hdb he hpl) fun _ _ _ h => le_cb h
def rLen1 (x : T) (S : Sta) (Q : T → Sta → Prop) : Prop := match x with
  | .str z => z.length ≤ sizeLine ∧ Q (.int z.length) S
  | x => ∃ ts, itemsT S x = some ts ∧ Q (.int ts.length) S
def rLen (xs : List T) (S : Sta) (Q : T → Sta → Prop) : Prop := match xs with
  | [x] => rLen1 x S Q
  | _ => False
theorem Reps.one {K : PySem.W.Frag} {H : Hp} {t : T} {vs : List V} (r : Reps K H [t] vs) : ∃ v, vs = [v] ∧ Rep K H t v := by
  cases r with
  | cons h1 h2 => cases h2; exact ⟨_, rfl, h1⟩
theorem Reps.two {K : PySem.W.Frag} {H : Hp} {t u : T} {vs : List V} (r : Reps K H [t, u] vs) : ∃ v w, vs = [v, w] ∧ Rep K H t v ∧ Rep K H u w := by
  cases r with
  | cons h1 h2 =>
    obtain ⟨w, e, h3⟩ := h2.one
    subst e
    exact ⟨_, _, rfl, h1, h3⟩
theorem c_len : CallR X (.builtin "len") (LC X.K rLen) := by
  intro pins s σ H xs us Q I rx ⟨ts, S, Q0, r, hs, q, im⟩
  match ts, q with
  | [t], q =>
    obtain ⟨v, rfl, r1⟩ := r.one
    have go : ∀ us', itemsT S t = some us' → Q0 (.int us'.length) S → wpAny (model X.prog X.w) X.A (call (.builtin "len") us) (EP X pins σ Q) X.xe s := fun us' e q => by
      obtain ⟨p, ys, rfl, h, r2⟩ := items_sq hs r1 e
      refine call_len_seq pins s σ H _ us Q I rx ⟨p, ys, rfl, h.imp id sqT_of, ?_⟩
      rw [← r2.length]
      exact im _ _ q H _ (Ext.refl H) hs (.int _)
    cases t with
    | str z =>
      cases r1
      exact call_len_str pins s σ H _ us Q I rx ⟨z, rfl, q.1, im _ _ q.2 H _ (Ext.refl H) hs (.int _)⟩
    | non => obtain ⟨ts, e, q⟩ := q; exact go ts e q
    | bl _ => obtain ⟨ts, e, q⟩ := q; exact go ts e q
    | pt _ => obtain ⟨ts, e, q⟩ := q; exact go ts e q
    | int _ => obtain ⟨ts, e, q⟩ := q; exact go ts e q
    | tup _ => obtain ⟨ts, e, q⟩ := q; exact go ts e q
    | fl _ => obtain ⟨ts, e, q⟩ := q; exact go ts e q
    | ref _ => obtain ⟨ts, e, q⟩ := q; exact go ts e q
def rInt1 (xs : List T) (S : Sta) (Q : T → Sta → Prop) : Prop := match xs with
  | [.int i] => Q (.int i) S
  | [.bl b] => Q (.int (if b then 1 else 0)) S
  | _ => False
theorem c_int : CallR X (.type "int") (LC X.K rInt1) := by
  intro pins s σ H xs us Q I rx ⟨ts, S, Q0, r, hs, q, im⟩
  match ts, q with
  | [.int i], q =>
    obtain ⟨v, rfl, r1⟩ := r.one
    cases r1
    exact call_int1 pins s σ H _ us Q I rx (.inl ⟨i, rfl, im _ _ q H _ (Ext.refl H) hs (.int _)⟩)
  | [.bl i], q =>
    obtain ⟨v, rfl, r1⟩ := r.one
    cases r1
    exact call_int1 pins s σ H _ us Q I rx (.inr ⟨i, rfl, im _ _ q H _ (Ext.refl H) hs (.int _)⟩)
def rAbs (xs : List T) (S : Sta) (Q : T → Sta → Prop) : Prop := match xs with
  | [.int i] => Q (.int (if i < 0 then -i else i)) S
  | _ => False
theorem c_abs : CallR X (.builtin "abs") (LC X.K rAbs) := by
  intro pins s σ H xs us Q I rx ⟨ts, S, Q0, r, hs, q, im⟩
  match ts, q with
  | [.int i], q =>
    obtain ⟨v, rfl, r1⟩ := r.one
    cases r1
    exact call_abs pins s σ H _ us Q I rx ⟨i, rfl, im _ _ q H _ (Ext.refl H) hs (.int _)⟩
def rMax2 (xs : List T) (S : Sta) (Q : T → Sta → Prop) : Prop := match xs with
  | [.int i, .int j] => Q (.int (if j > i then j else i)) S
  | _ => False
def rMin2 (xs : List T) (S : Sta) (Q : T → Sta → Prop) : Prop := match xs with
  | [.int i, .int j] => Q (.int (if j < i then j else i)) S
  | _ => False
theorem c_max2 (hc : X.calm = true) : CallR X (.builtin "max") (LC X.K rMax2) := by
  intro pins s σ H xs us Q I rx ⟨ts, S, Q0, r, hs, q, im⟩
  match ts, q with
  | [.int i, .int j], q =>
    obtain ⟨v, w, rfl, r1, r2⟩ := r.two
    cases r1
    cases r2
    exact call_max2 hc pins s σ H _ us Q I rx ⟨i, j, rfl, im _ _ q H _ (Ext.refl H) hs (.int _)⟩
theorem c_min2 (hc : X.calm = true) : CallR X (.builtin "min") (LC X.K rMin2) := by
  intro pins s σ H xs us Q I rx ⟨ts, S, Q0, r, hs, q, im⟩
  match ts, q with
  | [.int i, .int j], q =>
    obtain ⟨v, w, rfl, r1, r2⟩ := r.two
    cases r1
    cases r2
    exact call_min2 hc pins s σ H _ us Q I rx ⟨i, j, rfl, im _ _ q H _ (Ext.refl H) hs (.int _)⟩
/-- list(xs), tuple(xs) -/
def rListOf (xs : List T) (S : Sta) (Q : T → Sta → Prop) : Prop := match xs with
  | [x] => ∃ ts, itemsT S x = some ts ∧ ∀ p, S p = none → Q (.ref p) (upS S p (.lst ts))
  | _ => False
theorem c_list : CallR X (.type "list") (LC X.K rListOf) := by
  intro pins s σ H xs us Q I rx ⟨ts, S, Q0, r, hs, q, im⟩
  match ts, q with
  | [t], ⟨us', e, q⟩ =>
    obtain ⟨v, rfl, r1⟩ := r.one
    obtain ⟨p, ys, rfl, h, r2⟩ := items_sq hs r1 e
    refine call_list_of pins s σ H _ us Q I rx ⟨p, ys, rfl, h.imp id sqT_of, fun l hl => ?_⟩
    obtain ⟨e3, s3⟩ := hs.newL hl r2
    exact im _ _ (q l (hs.free hl)) _ _ e3 s3 (.ref l)
def rTupOf (xs : List T) (S : Sta) (Q : T → Sta → Prop) : Prop := match xs with
  | [x] => ∃ ts, itemsT S x = some ts ∧ Q (.tup ts) S
  | _ => False
theorem c_tup : CallR X (.type "tuple") (LC X.K rTupOf) := by
  intro pins s σ H xs us Q I rx ⟨ts, S, Q0, r, hs, q, im⟩
  match ts, q with
  | [t], ⟨us', e, q⟩ =>
    obtain ⟨v, rfl, r1⟩ := r.one
    obtain ⟨p, ys, rfl, h, r2⟩ := items_sq hs r1 e
    rcases h with h | h
    · exact call_tuple_of pins s σ H _ us Q I rx ⟨p, ys, rfl, .inl ⟨h, fun l hl => im _ _ q _ _ (Ext.new hl) (hs.new hl _) (.tup upd_same (Reps.mono (Ext.new hl) _ _ r2))⟩⟩
    · exact call_tuple_of pins s σ H _ us Q I rx ⟨p, ys, rfl, .inr ⟨sqT_of h, im _ _ q H _ (Ext.refl H) hs (.tup h r2)⟩⟩
/-- sorted, ints -/
def rSortI (xs : List T) (S : Sta) (Q : T → Sta → Prop) : Prop := match xs with
  | [x] => ∃ ns : List Int, itemsT S x = some (ns.map T.int) ∧ ns.length < 64 ∧ (match x with | .tup _ => False | _ => True) ∧ ∀ (ms : List Int) (p : Addr), ms.Perm ns → ms.Pairwise (· ≤ ·) → S p = none → Q (.ref p) (upS S p (.lst (ms.map T.int)))
  | _ => False
theorem c_sortI : CallR X (.builtin "sorted") (LC X.K rSortI) := by
  intro pins s σ H xs us Q I rx ⟨ts, S, Q0, r, hs, q, im⟩
  match ts, q with
  | [t], ⟨ns, e, hl, hx, q⟩ =>
    obtain ⟨v, rfl, r1⟩ := r.one
    obtain ⟨p, ys, rfl, h, r2⟩ := items_sq hs r1 e
    have ey := r2.intsV
    subst ey
    have h' : SqL X.K H p (ns.map V.int) := by
      rcases h with h | h
      · exact h
      · cases t with
        | tup _ => exact hx.elim
        | fl us =>
          cases r1 with
          | @fl _ xs _ h1 h2 =>
            cases e
            rw [← h2.intsV]
            exact h1.sq
        | ref a =>
          cases r1
          simp only [itemsT] at e
          cases eS : S p with
          | none => rw [eS] at e; cases e
          | some o =>
            rw [eS] at e
            cases o with
            | ot x => cases e
            | ins C fs => cases e
            | dct kvs => cases e
            | dtt kvs => cases e
            | lst ws =>
              cases e
              obtain ⟨zs, g1, g2⟩ := hs p _ eS
              rw [← g2.intsV]
              exact .inl (.inl g1)
        | non => cases e
        | bl _ => cases e
        | pt _ => cases e
        | int _ => cases e
        | str _ => cases e
    refine cr_sorted pins s σ H _ us Q I rx ⟨p, ns, rfl, h', hl, fun ms l g1 g2 g3 => ?_⟩
    obtain ⟨e3, s3⟩ := hs.newL g3 (Reps.ints (K := X.K) ms)
    exact im _ _ (q ms l g1 g2 (hs.free g3)) _ _ e3 s3 (.ref l)
/-! ### isinstance of a built-in class -/
def tyT (S : Sta) : T → Option String
  | .non => some "NoneType"
  | .bl _ => some "bool"
  | .int _ => some "int"
  | .str _ => some "str"
  | .tup _ => some "tuple"
  | .fl _ => some "list"
  | .ref p => match S p with
    | some (.lst _) => some "list"
    | _ => none
  | .pt _ => none
theorem ty_rep {K : PySem.W.Frag} {H : Hp} {S : Sta} {t : T} {v : V} {n : String} (hs : St K S H) (r : Rep K H t v) (e : tyT S t = some n) : TyX K H v (.type n) := by
  cases r with
  | non => cases e; exact .base .non
  | bl b => cases e; exact .base (.bl b)
  | int i => cases e; exact .base (.int i)
  | str x => cases e; exact .base (.str x)
  | pt h0 h1 h2 => cases e
  | tup h1 h2 =>
    cases e
    exact .base (.tup h1)
  | fl h1 h2 =>
    cases e
    rcases h1 with ⟨o, h⟩ | ⟨o, its, n, h, hc, _⟩
    · exact .base (.frz h)
    · exact .kList h hc
  | ref a =>
    simp only [tyT] at e
    cases eS : S a with
    | none => rw [eS] at e; cases e
    | some o =>
      rw [eS] at e
      cases o with
      | ot x => cases e
      | ins C fs => cases e
      | dct kvs => cases e
      | dtt kvs => cases e
      | lst ws =>
        cases e
        obtain ⟨xs, h1, _⟩ := hs a _ eS
        exact .base (.lst h1)
/-- the answer for a class of the five -/
def isB (n c : String) : Bool := n == c || (n == "bool" && c == "int")
def kinds : List String := ["NoneType", "bool", "int", "str", "tuple", "list"]
theorem kit_all : (kinds.all fun n => ["bool", "int", "str", "tuple", "list", "dict"].all fun c => decide (kitB n c = some (isB n c))) = true := by decide +kernel
theorem kit_one {K : PySem.W.Frag} {n c : String} (hn : n ∈ kinds) (hc : c ∈ ["bool", "int", "str", "tuple", "list", "dict"]) : PySem.W.kitOne K (.type n) (.type c) = some (isB n c) := by
  have h := List.all_eq_true.mp kit_all n hn
  have h2 := List.all_eq_true.mp h c hc
  exact kit_ty (of_decide_eq_true h2)
theorem ty_kinds {S : Sta} {t : T} {n : String} (e : tyT S t = some n) : n ∈ kinds := by
  cases t with
  | ref p =>
    simp only [tyT] at e
    split at e
    · cases e; decide
    · cases e
  | pt _ => cases e
  | _ => cases e; decide
def rIsi (c : String) (xs : List T) (S : Sta) (Q : T → Sta → Prop) : Prop := match xs with
  | [x, _] => ∃ n, tyT S x = some n ∧ Q (.bl (isB n c)) S
  | _ => False
def wIsi (c : String) (t : WE) (σ : Sl) (S : Sta) (Q : T → Sta → Prop) : Prop := t σ S fun x S1 => ∃ n, tyT S1 x = some n ∧ Q (.bl (isB n c)) S1
theorem j_isi {c : Str} {cs : String} {p p2 pos : Pos} (hg : Gl X "isinstance") (hm : X.mg "isinstance" = none) (hv : bootBuiltins "isinstance" = some (.builtin "isinstance")) (ha : JE B X a ta)
    (hgc : Gl X c) (hmc : X.mg c = none) (hvc : bootBuiltins c = some (.type cs)) (hc : cs ∈ ["bool", "int", "str", "tuple", "list", "dict"]) (hnc : c ≠ "__name__" := by decide) (hdc : (c == ("__debug__" : Str)) = false := by decide)
    (hs2 : starEach [.Name c p2] X.env = (false, eval (.Name c p2) X.env) :: starEach [] X.env := by rfl)
    (he : starEach [a, .Name c p2] X.env = (false, eval a X.env) :: starEach [.Name c p2] X.env := by rfl) (hpl : (backTo pos (starEach [.Name c p2] X.env)).any (·.1) = false := by rfl) :
    JE B X (.Call (.Name "isinstance" p) [a, .Name c p2] [] pos) (wIsi cs ta) := by
  have hb : PE X (.Name c p2) (tC (.ty cs)) := pe_bltn hgc hmc hvc (show Value.type cs = Value.type cs from rfl) hnc hdc
  refine pe_imp (pe_callB call_isi hg hm hv (pa_cons ha (pa_cons hb pa_nil hs2) he) (by decide) (by decide) he hpl) fun σ H Q ⟨st, S, Q0, he, hr, hs, h, im⟩ => ?_
  refine ⟨st, S, _, he, hr, hs, h, fun x S1 h1 H1 v e1 s1 r1 => ?_⟩
  obtain ⟨n, e, q⟩ := h1
  exact ⟨v, .ty cs, .type n, .type cs, isB n cs, rfl, .ty cs, ty_rep s1 r1 e, kit_one (ty_kinds e) hc, im _ _ q H1 _ e1 s1 (.bl _)⟩
end
end Wp

set_option Elab.async false
set_option linter.all false
set_option maxRecDepth 100000
/-! statements, loops, defs -/
namespace Wp
open PySem PySem.Spec PyProof.Rows L2
theorem finS_ext {K : PySem.W.Frag} {H H1 : Hp} {Q : L2.St → Hp → Prop} {t : Sl} {S : Sta} (e : Ext H H1) (h : finS K H Q t S) : finS K H1 Q t S := fun H' v e' s r => h H' v (e.trans e') s r
theorem ImD.ext {K : PySem.W.Frag} {H H1 : Hp} {D0 : WEnds} {D : Ends} (e : Ext H H1) (h : ImD D0 (finD K H D)) : ImD D0 (finD K H1 D) :=
  ⟨fun v S q => finS_ext e (h.nx v S q), fun v S q => fin_ext e (h.rt v S q), fun v S q => finS_ext e (h.bk v S q), fun v S q => finS_ext e (h.ct v S q)⟩
section
variable {B : Hp} {X : Cx} {st : Stmt} {rest : List Stmt} {t u : WS} {e : Expr} {te : WE} {pos : Pos}
/-! ### blocks and small statements -/
def wNext (D : WEnds) (σ : Sl) (S : Sta) : Prop := goS D.nx σ S
def wSeq (t u : WS) (D : WEnds) (σ : Sl) (S : Sta) : Prop := t { D with nx := u D } σ S
theorem jss_nil : JSs B X [] wNext := pss_imp pss_nil fun D σ H ⟨st, S, D0, he, hr, hs, h, im⟩ => im.nx _ _ h H σ (Ext.refl H) hs hr
theorem jss_cons (h1 : JS B X st t) (h2 : JSs B X rest u) : JSs B X (st :: rest) (wSeq t u) := pss_imp (pss_cons h1 h2) fun D σ H ⟨st, S, D0, he, hr, hs, h, im⟩ => by
  refine ⟨st, S, _, he, hr, hs, h, fun st1 S1 h1 H1 σ1 e1 s1 r1 => ?_, im.rt, im.bk, im.ct⟩
  exact ⟨st1, S1, D0, he.trans e1, r1, s1, h1, im.ext e1⟩
theorem jss_one (h1 : JS B X st t) : JSs B X [st] t := pss_one h1
def wBreak (D : WEnds) (σ : Sl) (S : Sta) : Prop := goS D.bk σ S
def wCont (D : WEnds) (σ : Sl) (S : Sta) : Prop := goS D.ct σ S
theorem js_pass : JS B X (.Pass pos) wNext := ps_imp ps_pass fun D σ H ⟨st, S, D0, he, hr, hs, h, im⟩ => im.nx _ _ h H σ (Ext.refl H) hs hr
theorem js_break : JS B X (.Break pos) wBreak := ps_imp ps_break fun D σ H ⟨st, S, D0, he, hr, hs, h, im⟩ => im.bk _ _ h H σ (Ext.refl H) hs hr
theorem js_continue : JS B X (.Continue pos) wCont := ps_imp ps_continue fun D σ H ⟨st, S, D0, he, hr, hs, h, im⟩ => im.ct _ _ h H σ (Ext.refl H) hs hr
theorem js_doc {x j pos'} : JS B X (.Expr (.Constant (.str x) j pos) pos') wNext := ps_imp ps_doc fun D σ H ⟨st, S, D0, he, hr, hs, h, im⟩ => im.nx _ _ h H σ (Ext.refl H) hs hr
def wDrop (te : WE) (D : WEnds) (σ : Sl) (S : Sta) : Prop := te σ S fun _ S1 => goS D.nx σ S1
theorem js_expr (he : JE B X e te) (hs : swapsWith e none pos.line X.env = pure false := by rfl) : JS B X (.Expr e pos) (wDrop te) := ps_imp (ps_expr he hs) fun D σ H ⟨st, S, D0, he, hr, hs, h, im⟩ =>
  ⟨st, S, _, he, hr, hs, h, fun x S1 h1 H1 v e1 s1 r1 => im.nx _ _ h1 H1 σ e1 s1 (hr.mono e1)⟩
def wRet (te : WE) (D : WEnds) (σ : Sl) (S : Sta) : Prop := te σ S D.rt
theorem js_ret (he : JE B X e te) : JS B X (.Return (some e) pos) (wRet te) := ps_imp (ps_ret he) fun D σ H ⟨st, S, D0, he, hr, hs, h, im⟩ => ⟨st, S, _, he, hr, hs, h, im.rt⟩
def wRetN (D : WEnds) (u1 : Sl) (S : Sta) : Prop := D.rt .non S
theorem js_retN : JS B X (.Return none pos) wRetN := ps_imp ps_retN fun D σ H ⟨st, S, D0, he, hr, hs, h, im⟩ => im.rt _ _ h H _ (Ext.refl H) hs .non
def wIfS (c : WT) (t u : WS) (D : WEnds) (σ : Sl) (S : Sta) : Prop := c σ S fun b S1 => wif b (t D σ S1) (u D σ S1)
theorem js_if {c : Expr} {a b : List Stmt} {tc : WT} (hc : JT B X c tc) (ha : JSs B X a t) (hb : JSs B X b u) : JS B X (.If c a b pos) (wIfS tc t u) := ps_imp (ps_if hc ha hb) fun D σ H ⟨st, S, D0, he, hr, hs, h, im⟩ => by
  refine ⟨st, S, _, he, hr, hs, h, fun k S1 h1 H1 e1 s1 => ?_⟩
  cases k with
  | true =>
    rw [if_pos rfl]
    exact ⟨st, S1, D0, he.trans e1, hr.mono e1, s1, (wt h1), im.ext e1⟩
  | false =>
    rw [if_neg Bool.false_ne_true]
    exact ⟨st, S1, D0, he.trans e1, hr.mono e1, s1, (wff h1), im.ext e1⟩
def wNever (u0 : WEnds) (u1 : Sl) (u2 : Sta) : Prop := False
theorem js_never : JS B X st wNever := ps_imp ps_never fun D σ H ⟨st, S, D0, he, hr, hs, h, im⟩ => h
theorem jss_never {sts : List Stmt} : JSs B X sts wNever := pss_imp pss_never fun D σ H ⟨st, S, D0, he, hr, hs, h, im⟩ => h

/-! ### targets; vs: the slots that a target writes -/
abbrev WG := T → Sl → Sta → (Sl → Sta → Prop) → Prop
abbrev WGs := List T → Sl → Sta → (Sl → Sta → Prop) → Prop
def finG (K : PySem.W.Frag) (vs : List Nat) (H : Hp) (σ : L2.St) (Q : L2.St → Hp → Prop) : Sl → Sta → Prop := fun st S => ∀ H' σ', Ext H H' → St K S H' → SlR K H' st σ' → wipe σ' vs = wipe σ vs → Q σ' H'
def LG (X : Cx) (vs : List Nat) (g : WG) : TG := fun v σ H Q => ∃ t st S Q0, Rep X.K H t v ∧ SlR X.K H st σ ∧ St X.K S H ∧ g t st S Q0 ∧ Im2 Q0 (finG X.K vs H σ Q)
def LGs (X : Cx) (vs : List Nat) (g : WGs) : TGs := fun v σ H Q => ∃ t st S Q0, Reps X.K H t v ∧ SlR X.K H st σ ∧ St X.K S H ∧ g t st S Q0 ∧ Im2 Q0 (finG X.K vs H σ Q)
def JG (X : Cx) (tg : Expr) (vs : List Nat) (g : WG) : Prop := PG X tg (LG X vs g)
def JGs (X : Cx) (tg : List Expr) (vs : List Nat) (g : WGs) : Prop := PGs X tg (LGs X vs g)
theorem pg_imp {e : Expr} {t t' : TG} (h : PG X e t) (k : ∀ v σ H Q, t' v σ H Q → t v σ H Q) : PG X e t' := ⟨fun pins s σ H v u Q I r q => h.run pins s σ H v u Q I r (k v σ H Q q)⟩
theorem pgs_imp {e : List Expr} {t t' : TGs} (h : PGs X e t) (k : ∀ v σ H Q, t' v σ H Q → t v σ H Q) : PGs X e t' := ⟨fun pins s σ H v u Q I r q => h.run pins s σ H v u Q I r (k v σ H Q q)⟩
theorem wipe_set_mem {v : Option V} {i : Nat} : ∀ {vs : List Nat} {σ : L2.St}, i ∈ vs → wipe (σ.set i v) vs = wipe σ vs
  | [], _, h => by cases h
  | w :: vs, σ, h => by
    unfold wipe
    by_cases hw : i = w
    · subst hw
      by_cases hm : i ∈ vs
      · rw [wipe_set_mem hm]
      · have z : ∀ {us : List Nat} {τ : L2.St}, i ∉ us → wipe (τ.set i v) us = (wipe τ us).set i v := fun {us τ} hu => by
          induction us generalizing τ with
          | nil => rfl
          | cons u us ih =>
            unfold wipe
            rw [ih (fun q => hu (List.mem_cons_of_mem _ q)), List.set_comm _ _ (fun q => hu (by rw [q]; exact List.mem_cons_self))]
        rw [z hm, List.set_set]
    · rw [wipe_set_mem ((List.mem_cons.mp h).resolve_left hw)]
def gNm (i : Nat) (v : T) (σ : Sl) (S : Sta) (Q : Sl → Sta → Prop) : Prop := Q (σ.set i (some v)) S
theorem jg_name {x : Str} {i : Nat} {vs : List Nat} (hN : X.N.Nodup) (hi : X.N[i]? = some x) (hx : Loc X.env.scope x) (hv : i ∈ vs) (hf : X.fn x = true ∨ X.env.scope.names.lookup x = some .local := by first | exact .inl rfl | exact .inr rfl | assumption) : JG X (.Name x pos) vs (gNm i) :=
  pg_imp (pg_name hN hi hx hf) fun v σ H Q ⟨t, st, S, Q0, rv, hr, hs, h, im⟩ => im _ _ h H _ (Ext.refl H) hs (hr.set rv i) (wipe_set_mem hv)
def gN0 (vs : List T) (σ : Sl) (S : Sta) (Q : Sl → Sta → Prop) : Prop := vs = [] ∧ Q σ S
def gC (t : WG) (u : WGs) (vs : List T) (σ : Sl) (S : Sta) (Q : Sl → Sta → Prop) : Prop := match vs with
  | v :: r => t v σ S fun σ' S' => u r σ' S' Q
  | [] => False
theorem jgs_nil {vs : List Nat} : JGs X [] vs gN0 := pgs_imp pgs_nil fun v σ H Q ⟨t, st, S, Q0, rv, hr, hs, h, im⟩ => by
  obtain ⟨e, h⟩ := h
  subst e
  cases rv
  exact ⟨rfl, im _ _ h H _ (Ext.refl H) hs hr rfl⟩
theorem jgs_cons {es : List Expr} {vs : List Nat} {t : WG} {u : WGs} (h1 : JG X e vs t) (h2 : JGs X es vs u)
    (hs : (assignEach (e :: es) X.env).map (·.2) = assign e X.env :: (assignEach es X.env).map (·.2) := by rfl) : JGs X (e :: es) vs (gC t u) := pgs_imp (pgs_cons h1 h2 hs) fun v σ H Q ⟨ts, st, S, Q0, rv, hr, hs, h, im⟩ => by
  cases ts with
  | nil => exact h.elim
  | cons x ts =>
    cases rv with
    | cons r1 r2 =>
      refine ⟨_, _, rfl, x, st, S, _, r1, hr, hs, h, fun st1 S1 h1 H1 σ1 e1 s1 q1 w1 => ?_⟩
      refine ⟨ts, st1, S1, Q0, Reps.mono e1 _ _ r2, q1, s1, h1, fun st2 S2 h2 H2 σ2 e2 s2 q2 w2 => ?_⟩
      exact im _ _ h2 H2 σ2 (e1.trans e2) s2 q2 (w2.trans w1)
def gTp (n : Nat) (u : WGs) (v : T) (σ : Sl) (S : Sta) (Q : Sl → Sta → Prop) : Prop := match v with
  | .tup ts => ts.length = n ∧ u ts σ S Q
  | _ => False
theorem jg_tup {es : List Expr} {k : Nat} {n : Nat} {vs : List Nat} {u : WGs} (hc : X.calm = true) (h : JGs X es vs u)
    (hn : (assignEach es X.env).length = n := by rfl) (hst : (assignEach es X.env).findIdx? (·.1) = none := by rfl) : JG X (.Tuple es k pos) vs (gTp n u) := pg_imp (pg_tup hc h hn hst) fun v σ H Q ⟨t, st, S, Q0, rv, hr, hs, h, im⟩ => by
  cases t with
  | tup ts =>
    cases rv with
    | @tup a xs _ g10 g2 => exact (fun g1 => by exact ⟨a, xs, rfl, g1, by rw [← g2.length]; exact h.1, ts, st, S, Q0, g2, hr, hs, h.2, im⟩) (sqT_of g10)
  | _ => exact h.elim
/-- o[i] = v -/
def rSet : T → T → T → Sta → (Sta → Prop) → Prop := fun o i v S Q => match o, i with
  | .ref p, .int k => ∃ xs, S p = some (.lst xs) ∧ ∃ j, ixN xs.length k = some j ∧ Q (upS S p (.lst (xs.set j v)))
  | _, _ => False
def L3t (K : PySem.W.Frag) (r : T → T → T → Sta → (Sta → Prop) → Prop) : TSet := fun o i v H Q => ∃ a b c S Q0, Rep K H a o ∧ Rep K H b i ∧ Rep K H c v ∧ St K S H ∧ r a b c S Q0 ∧ ∀ S', Q0 S' → ∀ H', Ext H H' → St K S' H' → Q H'
theorem set_T : PSet X (L3t X.K rSet) := by
  intro pins s σ H o i v ov iv u Q I ro ri rv ⟨a, b, c, S, Q0, ra, rb, rc, hs, q, im⟩
  cases a with
  | ref p =>
    cases b with
    | int k =>
      obtain ⟨xs, e1, j, e2, q⟩ := q
      cases ra
      cases rb
      obtain ⟨ys, h1, h2⟩ := hs p _ e1
      obtain ⟨e3, s3⟩ := hs.setL h1 (h2.set rc j)
      exact set_list pins s σ H _ _ v ov iv u Q I ro ri rv ⟨p, ys, k, j, rfl, rfl, h1, by rw [← h2.length]; exact e2, im _ q _ e3 s3⟩
    | _ => exact q.elim
  | _ => exact q.elim
def gIx (to ti : WE) (v : T) (σ : Sl) (S : Sta) (Q : Sl → Sta → Prop) : Prop := to σ S fun o S1 => ti σ S1 fun i S2 => rSet o i v S2 fun S3 => Q σ S3
/-- only where the entry's Ext is at hand: a statement's target -/
def LG2 (B : Hp) (X : Cx) (g : WG) : TG := fun v σ H Q => ∃ t st S Q0, Ext B H ∧ Rep X.K H t v ∧ SlR X.K H st σ ∧ St X.K S H ∧ g t st S Q0 ∧ Im2 Q0 (finS X.K H Q)
def JG2 (B : Hp) (X : Cx) (tg : Expr) (g : WG) : Prop := PG X tg (LG2 B X g)
theorem JG.two {tg : Expr} {vs : List Nat} {g : WG} (h : JG X tg vs g) : JG2 B X tg g := pg_imp h fun v σ H Q ⟨t, st, S, Q0, he, rv, hr, hs, h, im⟩ => ⟨t, st, S, Q0, rv, hr, hs, h, fun st1 S1 h1 H1 σ1 e1 s1 r1 _ => im _ _ h1 H1 σ1 e1 s1 r1⟩
theorem jg_ix {o i : Expr} {to ti : WE} (ho : JE B X o to) (hi : JE B X i ti)
    (ha : ∀ v, assign (.Subscript o i pos) X.env v = (do
      let ov ← holding [v] (eval o X.env)
      let iv ← holding [v, ov] (eval i X.env)
      standAt pos
      holding [v, ov, iv] (setItem ov iv v)
      release [v, ov, iv] []) := by intro _; rfl) : JG2 B X (.Subscript o i pos) (gIx to ti) := pg_imp (pg_sub ho hi set_T ha) fun v σ H Q ⟨t, st, S, Q0, he, rv, hr, hs, h, im⟩ => by
  refine ⟨st, S, _, he, hr, hs, h, fun x S1 h1 H1 v1 e1 s1 r1 => ?_⟩
  refine ⟨st, S1, _, he.trans e1, hr.mono e1, s1, h1, fun y S2 h2 H2 v2 e2 s2 r2 => ?_⟩
  exact ⟨x, y, t, S2, _, Rep.mono e2 _ _ r1, r2, Rep.mono (e1.trans e2) _ _ rv, s2, h2, fun S3 q H3 e3 s3 => im _ _ q H3 σ (e1.trans (e2.trans e3)) s3 (hr.mono (e1.trans (e2.trans e3)))⟩
def wAsg (te : WE) (g : WG) (D : WEnds) (σ : Sl) (S : Sta) : Prop := te σ S fun x S1 => g x σ S1 (goS D.nx)
theorem js_asg {tg : Expr} {g : WG} (he : JE B X e te) (hg : JG2 B X tg g) (hs : swapsWithSole [tg] e pos.line X.env = pure false := by rfl) (hw : swappedStores [tg] e X.env = pure none := by rfl)
    (h1 : (assignEach [tg] X.env).map (·.2) = [assign tg X.env] := by rfl) : JS B X (.Assign [tg] e pos) (wAsg te g) := ps_imp (ps_asg he hg hs hw h1) fun D σ H ⟨st, S, D0, he, hr, hs, h, im⟩ => by
  refine ⟨st, S, _, he, hr, hs, h, fun x S1 h1 H1 v1 e1 s1 r1 => ?_⟩
  exact ⟨x, st, S1, D0.nx, he.trans e1, r1, hr.mono e1, s1, h1, fun a S2 q => finS_ext e1 (im.nx a S2 q)⟩
def wSet (i : Nat) (te : WE) (D : WEnds) (σ : Sl) (S : Sta) : Prop := te σ S fun x S1 => goS D.nx (σ.set i (some x)) S1
theorem js_set {i : Nat} {x : Str} {pos' : Pos} (hN : X.N.Nodup) (hi : X.N[i]? = some x) (hx : Loc X.env.scope x) (he : JE B X e te) (hs : swapsWith e (some (.Name x pos')) pos.line X.env = pure false := by rfl) (hf : X.fn x = true ∨ X.env.scope.names.lookup x = some .local := by first | exact .inl rfl | exact .inr rfl | assumption) :
    JS B X (.Assign [.Name x pos'] e pos) (wSet i te) := ps_imp (ps_set hN hi hx he hs hf) fun D σ H ⟨st, S, D0, he, hr, hs, h, im⟩ => by
  refine ⟨st, S, _, he, hr, hs, h, fun x S1 h1 H1 v1 e1 s1 r1 => ?_⟩
  exact im.nx _ _ h1 H1 _ e1 s1 ((hr.mono e1).set r1 i)
/-- x op= e, a name -/
def wAug (i : Nat) (r : R3) (te : WE) (D : WEnds) (σ : Sl) (S : Sta) : Prop := ∃ x, σ[i]? = some (some x) ∧ te σ S fun y S1 => r x y S1 fun z S2 => goS D.nx (σ.set i (some z)) S2
theorem js_aug {i : Nat} {x : Str} {op : Operator} {r : R3} {pos' : Pos} (hN : X.N.Nodup) (hi : X.N[i]? = some x) (hx : Loc X.env.scope x) (he : JE B X e te) (ho : OpT X (inplaceOp op) r) (hf : X.fn x = true ∨ X.env.scope.names.lookup x = some .local := by first | exact .inl rfl | exact .inr rfl | assumption) :
    JS B X (.AugAssign (.Name x pos') op e pos) (wAug i r te) := ps_imp (ps_aug (ti := L3 X.K r) hN hi hx he (fun pins s σ H x y v u Q I rx ry q => ho pins s σ H x y v u Q I rx ry q) hf) fun D σ H ⟨st, S, D0, he, hr, hs, h, im⟩ => by
  obtain ⟨y, e1, h⟩ := h
  obtain ⟨v, g1, g2⟩ := hr.2 i y e1
  refine ⟨v, g1, st, S, _, he, hr, hs, h, fun x S1 h1 H1 v1 e1 s1 r1 => ?_⟩
  exact ⟨y, x, S1, _, Rep.mono e1 _ _ g2, r1, s1, h1, fun z S2 q H2 w e2 s2 r2 => im.nx _ _ q H2 _ (e1.trans e2) s2 ((hr.mono (e1.trans e2)).set r2 i)⟩

/-! ### while -/
def wWhile (c : WT) (tb : WS) (D : WEnds) (σ : Sl) (S : Sta) : Prop := ∃ W : Nat → Sl → Sta → Prop, (∃ m, W m σ S) ∧ ∀ m σ S, W m σ S →
  c σ S fun b S1 => wif b (tb { D with nx := fun σ' S' => ∃ m', m' < m ∧ W m' σ' S', ct := fun σ' S' => ∃ m', m' < m ∧ W m' σ' S', bk := D.nx } σ S1) (D.nx σ S1)
theorem js_while {c : Expr} {body : List Stmt} {tc : WT} {tb : WS} (hp : PassesOwn (model X.prog X.w) X.A X.env X.xe) (hc : JT B X c tc) (hb : JSs B X body tb) : JS B X (.While c body [] pos) (wWhile tc tb) :=
  ps_imp (ps_while hp hc hb) fun D σ H ⟨st, S, D0, he, hr, hs, h, im⟩ => by
    obtain ⟨W, ⟨m, w0⟩, turn⟩ := h
    refine ⟨fun m σ' H' => ∃ st' S', Ext H H' ∧ SlR X.K H' st' σ' ∧ St X.K S' H' ∧ W m st' S', ⟨m, st, S, Ext.refl H, hr, hs, w0⟩, fun m σ1 H1 ⟨st1, S1, e1, r1, s1, w1⟩ => ?_⟩
    refine ⟨st1, S1, _, he.trans e1, r1, s1, turn m st1 S1 w1, fun k S2 h2 H2 e2 s2 => ?_⟩
    cases k with
    | true =>
      rw [if_pos rfl]
      have nx : ∀ st3 S3, (∃ m', m' < m ∧ W m' st3 S3) → finS X.K H2 (fun σ' H' => ∃ m', m' < m ∧ ∃ st' S', Ext H H' ∧ SlR X.K H' st' σ' ∧ St X.K S' H' ∧ W m' st' S') st3 S3 := fun st3 S3 ⟨m', hm, w3⟩ H3 σ3 e3 s3 r3 =>
        ⟨m', hm, st3, S3, e1.trans (e2.trans e3), r3, s3, w3⟩
      refine ⟨_, fun σ' H' q => q, st1, S2, _, he.trans (e1.trans e2), r1.mono e2, s2, (wt h2), ⟨nx, fun v S3 q => fin_ext (e1.trans e2) (im.rt v S3 q), fun a S3 q => finS_ext (e1.trans e2) (im.nx a S3 q), nx⟩⟩
    | false =>
      rw [if_neg Bool.false_ne_true]
      exact im.nx _ _ (wff h2) H2 _ (e1.trans e2) s2 (r1.mono e2)

/-! ### what a loop walks: its items, and what must stay true of the state -/
abbrev WI := Sl → Sta → (List T → (Sta → Prop) → Sta → Prop) → Prop
/-- the iterator yields just these -/
def Yields (K : PySem.W.Frag) (xs : List T) (stb : Sta → Prop) (H1 : Hp) (J : It) : Prop :=
  ∀ i S H, Ext H1 H → St K S H → stb S → (i < xs.length → J.go i H) ∧ (xs.length ≤ i → J.stop i H) ∧ ∀ x H', J.yld i H x H' → i < xs.length → Ext H H' ∧ St K S H' ∧ (∀ st σ, SlR K H st σ → SlR K H' st σ) ∧ ∃ t, xs[i]? = some t ∧ Rep K H' t x
def LI (B : Hp) (X : Cx) (w : WI) : TI := fun σ H R => ∃ st S Q0, Ext B H ∧ SlR X.K H st σ ∧ St X.K S H ∧ w st S Q0 ∧ ∀ xs stb S1, Q0 xs stb S1 → ∀ H1, Ext H H1 → St X.K S1 H1 → ∀ J, Yields X.K xs stb H1 J → R J H1
def JI (B : Hp) (X : Cx) (tg iter : Expr) (w : WI) : Prop := PI X tg iter (LI B X w)
theorem pi_imp {tg e : Expr} {t t' : TI} (h : PI X tg e t) (k : ∀ σ H Q, t' σ H Q → t σ H Q) : PI X tg e t' := ⟨fun pins s σ H R I q => h.run pins s σ H R I (k σ H R q)⟩
def iTupW (te : WE) (σ : Sl) (S : Sta) (R : List T → (Sta → Prop) → Sta → Prop) : Prop := te σ S fun x S1 => match x with
  | .tup ts => R ts (fun _ => True) S1
  | _ => False
theorem ji_tup {tg : Expr} (he : JE B X e te) : JI B X tg e (iTupW te) := pi_imp (pi_tup he) fun σ H R ⟨st, S, Q0, he, hr, hs, h, im⟩ => by
  refine ⟨st, S, _, he, hr, hs, h, fun x S1 h1 H1 v1 e1 s1 r1 => ?_⟩
  cases x with
  | tup ts =>
    cases r1 with
    | @tup a xs _ g10 g2 =>
      have g1 := sqT_of (K := X.K) g10
      refine ⟨a, rfl, ⟨xs, g1⟩, im _ _ _ h1 H1 e1 s1 _ fun i S2 H2 e2 s2 _ => ⟨fun hi => ?_, fun hi => ⟨xs, e2.sqT g1, by rw [← g2.length]; exact hi⟩, fun x H' y hi => ?_⟩⟩
      · obtain ⟨v, g3, _⟩ := g2.get (List.getElem?_eq_getElem hi)
        exact ⟨xs, v, e2.sqT g1, g3⟩
      · obtain ⟨eH, y⟩ := y
        subst eH
        obtain ⟨v, g3, g4⟩ := g2.get (List.getElem?_eq_getElem hi)
        have ev : x = v := Option.some.inj ((y xs (e2.sqT g1)).symm.trans g3)
        subst ev
        exact ⟨Ext.refl _, s2, fun _ _ q => q, _, List.getElem?_eq_getElem hi, Rep.mono e2 _ _ g4⟩
  | _ => exact h1.elim
/-- a list: it must stand as it is through the loop -/
def iLstW (te : WE) (σ : Sl) (S : Sta) (R : List T → (Sta → Prop) → Sta → Prop) : Prop := te σ S fun x S1 => match x with
  | .fl ts => R ts (fun _ => True) S1
  | .ref p => ∃ ts, S1 p = some (.lst ts) ∧ R ts (fun S' => S' p = some (.lst ts)) S1
  | _ => False
theorem ji_lst {tg : Expr} (he : JE B X e te) : JI B X tg e (iLstW te) := pi_imp (pi_list he) fun σ H R ⟨st, S, Q0, he, hr, hs, h, im⟩ => by
  refine ⟨st, S, _, he, hr, hs, h, fun x S1 h1 H1 v1 e1 s1 r1 => ?_⟩
  cases x with
  | fl ts =>
    cases r1 with
    | @fl a xs _ g1 g2 =>
      refine ⟨a, rfl, ⟨xs, g1.sq⟩, im _ _ _ h1 H1 e1 s1 _ fun i S2 H2 e2 s2 _ => ⟨fun hi => ?_, fun hi => ⟨xs, (e2.fzL g1).sq, by rw [← g2.length]; exact hi⟩, fun x H' y hi => ?_⟩⟩
      · obtain ⟨v, g3, _⟩ := g2.get (List.getElem?_eq_getElem hi)
        exact ⟨xs, v, (e2.fzL g1).sq, g3⟩
      · obtain ⟨eH, y⟩ := y
        subst eH
        obtain ⟨v, g3, g4⟩ := g2.get (List.getElem?_eq_getElem hi)
        have ev : x = v := Option.some.inj ((y xs ((e2.fzL g1).sq)).symm.trans g3)
        subst ev
        exact ⟨Ext.refl _, s2, fun _ _ q => q, _, List.getElem?_eq_getElem hi, Rep.mono e2 _ _ g4⟩
  | ref p =>
    obtain ⟨ts, eS, h1⟩ := h1
    cases r1
    obtain ⟨xs0, g10, g20⟩ := s1 p _ eS
    refine ⟨p, rfl, ⟨xs0, .inl (.inl g10)⟩, im _ _ _ h1 H1 e1 s1 _ fun i S2 H2 e2 s2 stb => ?_⟩
    obtain ⟨xs, g1, g2⟩ := s2 p _ stb
    refine ⟨fun hi => ?_, fun hi => ⟨xs, .inl (.inl g1), by rw [← g2.length]; exact hi⟩, fun x H' y hi => ?_⟩
    · obtain ⟨v, g3, _⟩ := g2.get (List.getElem?_eq_getElem hi)
      exact ⟨xs, v, .inl (.inl g1), g3⟩
    · obtain ⟨eH, y⟩ := y
      subst eH
      obtain ⟨v, g3, g4⟩ := g2.get (List.getElem?_eq_getElem hi)
      have ev : x = v := Option.some.inj ((y xs (.inl (.inl g1))).symm.trans g3)
      subst ev
      exact ⟨Ext.refl _, s2, fun _ _ q => q, _, List.getElem?_eq_getElem hi, g4⟩
  | _ => exact h1.elim
/-- range -/
def rangeT (lo : Int) (n : Nat) : List T := (List.range n).map fun (i : Nat) => T.int (lo + (i : Int))
theorem range_yields {K : PySem.W.Frag} {H : Hp} (lo : Int) (n : Nat) : Yields K (rangeT lo n) (fun _ => True) H (Itr lo n) := fun i S H1 e1 s1 _ => by
  have hl : (rangeT lo n).length = n := by unfold rangeT; rw [List.length_map, List.length_range]
  refine ⟨fun hi => by rw [hl] at hi; exact hi, fun hi => by rw [hl] at hi; exact hi, fun x H' y hi => ?_⟩
  obtain ⟨eH, ex⟩ := y
  subst eH ex
  rw [hl] at hi
  refine ⟨Ext.refl _, s1, fun _ _ q => q, .int (lo + (i : Int)), ?_, .int _⟩
  unfold rangeT
  rw [List.getElem?_map, List.getElem?_range hi]
  rfl
def iRg1 (ta : WA) (σ : Sl) (S : Sta) (R : List T → (Sta → Prop) → Sta → Prop) : Prop := ta σ S fun xs S1 => match xs with
  | [.int j] => -(2 ^ 62) ≤ j ∧ j < 2 ^ 62 ∧ R (rangeT 0 j.toNat) (fun _ => True) S1
  | _ => False
def iRg2 (ta : WA) (σ : Sl) (S : Sta) (R : List T → (Sta → Prop) → Sta → Prop) : Prop := ta σ S fun xs S1 => match xs with
  | [.int i, .int j] => (-(2 ^ 62) ≤ i ∧ i < 2 ^ 62 ∧ -(2 ^ 62) ≤ j ∧ j < 2 ^ 62) ∧ R (rangeT i (j - i).toNat) (fun _ => True) S1
  | _ => False
theorem ji_rg1 {tg a : Expr} {ta : WA} {p : Pos} (hg : Gl X "range") (hm : X.mg "range" = none) (ha : JA B X [a] ta) (hs : starEach [a] X.env = [(false, eval a X.env)] := by rfl) : JI B X tg (.Call (.Name "range" p) [a] [] pos) (iRg1 ta) :=
  pi_imp (pi_range1 hg hm ha hs) fun σ H R ⟨st, S, Q0, he, hr, hs, h, im⟩ => by
    refine ⟨st, S, _, he, hr, hs, h, fun xs S1 h1 H1 v1 e1 s1 r1 => ?_⟩
    match xs, h1 with
    | [.int j], h1 =>
      obtain ⟨v, rfl, r2⟩ := r1.one
      cases r2
      exact ⟨j, rfl, h1.1, h1.2.1, im _ _ _ h1.2.2 H1 e1 s1 _ (range_yields 0 j.toNat)⟩
theorem ji_rg2 {tg a b : Expr} {ta : WA} {p : Pos} (hg : Gl X "range") (hm : X.mg "range" = none) (ha : JA B X [a, b] ta) (hs : starEach [a, b] X.env = [(false, eval a X.env), (false, eval b X.env)] := by rfl) (hs2 : starEach [b] X.env = [(false, eval b X.env)] := by rfl) : JI B X tg (.Call (.Name "range" p) [a, b] [] pos) (iRg2 ta) :=
  pi_imp (pi_range2 hg hm ha hs hs2) fun σ H R ⟨st, S, Q0, he, hr, hs, h, im⟩ => by
    refine ⟨st, S, _, he, hr, hs, h, fun xs S1 h1 H1 v1 e1 s1 r1 => ?_⟩
    match xs, h1 with
    | [.int i, .int j], h1 =>
      obtain ⟨v, w, rfl, r2, r3⟩ := r1.two
      cases r2
      cases r3
      exact ⟨i, j, rfl, h1.1, im _ _ _ h1.2 H1 e1 s1 _ (range_yields i (j - i).toNat)⟩
/-- .. -/
def loopW (g : WG) (tb : WS) (stb : Sta → Prop) (D : WEnds) : List T → Sl → Sta → Prop
  | [], σ, S => stb S ∧ D.nx σ S
  | x :: xs, σ, S => stb S ∧ g x σ S fun σ2 S2 => tb { D with nx := loopW g tb stb D xs, ct := loopW g tb stb D xs, bk := D.nx } σ2 S2
def wFor (wi : WI) (g : WG) (tb : WS) (D : WEnds) (σ : Sl) (S : Sta) : Prop := wi σ S fun xs stb S1 => loopW g tb stb D xs σ S1
theorem loopW_stb {g : WG} {tb : WS} {stb : Sta → Prop} {D : WEnds} {xs : List T} {σ : Sl} {S : Sta} (h : loopW g tb stb D xs σ S) : stb S := by
  cases xs <;> exact h.1
theorem js_for {tg iter : Expr} {body : List Stmt} {wi : WI} {g : WG} {vs : List Nat} {tb : WS} (hp : PassesOwn (model X.prog X.w) X.A X.env X.xe) (hc : X.calm = true) (hi : JI B X tg iter wi) (hg : JG X tg vs g) (hb : JSs B X body tb)
    (hs : ∀ x, foldedSetIterable iter X.env x = pure x := by intro _; rfl) : JS B X (.For tg iter body [] pos) (wFor wi g tb) := ps_imp (ps_for hp hc hi hg hb hs) fun D σ H ⟨st, S, D0, he, hr, hs, h, im⟩ => by
  refine ⟨st, S, _, he, hr, hs, h, fun xs stb S1 h1 H1 e1 s1 J yl => ?_⟩
  refine ⟨fun i m σ' H' => m = xs.length - i ∧ i ≤ xs.length ∧ ∃ st' S', Ext H1 H' ∧ SlR X.K H' st' σ' ∧ St X.K S' H' ∧ loopW g tb stb D0 (xs.drop i) st' S', ⟨xs.length, by omega, Nat.zero_le _, st, S1, Ext.refl _, hr.mono e1, s1, h1⟩, fun i m σ2 H2 hW => ?_⟩
  obtain ⟨hm, hi, st2, S2, e2, r2, s2, h2⟩ := hW
  obtain ⟨y1, y2, y3⟩ := yl i S2 H2 e2 s2 (loopW_stb h2)
  by_cases hlt : i < xs.length
  · refine .inr ⟨y1 hlt, fun σ' H' => ∃ st' S', Ext H1 H' ∧ SlR X.K H' st' σ' ∧ St X.K S' H' ∧ loopW g tb stb D0 (xs.drop (i + 1)) st' S', fun σ' H' q => ⟨m - 1, by omega, by omega, by omega, q⟩, fun x H3 hy => ?_⟩
    obtain ⟨e3, s3, sl3, t, et, rt⟩ := y3 x H3 hy hlt
    have r3 := sl3 _ _ r2
    rw [List.drop_eq_getElem_cons hlt] at h2
    have et' : xs[i] = t := by rw [List.getElem?_eq_getElem hlt] at et; exact Option.some.inj et
    rw [et'] at h2
    refine ⟨t, st2, S2, _, rt, r3, s3, h2.2, fun st4 S4 h4 H4 σ4 e4 s4 r4 _ => ?_⟩
    have eb : Ext H1 H4 := e2.trans (e3.trans e4)
    have nx : ∀ st5 S5, loopW g tb stb D0 (xs.drop (i + 1)) st5 S5 → finS X.K H4 (fun σ' H' => ∃ st' S', Ext H1 H' ∧ SlR X.K H' st' σ' ∧ St X.K S' H' ∧ loopW g tb stb D0 (xs.drop (i + 1)) st' S') st5 S5 := fun st5 S5 h5 H5 σ5 e5 s5 r5 => ⟨st5, S5, eb.trans e5, r5, s5, h5⟩
    exact ⟨st4, S4, _, he.trans (e1.trans eb), r4, s4, h4, ⟨nx, fun v S5 q => fin_ext (e1.trans eb) (im.rt v S5 q), fun a S5 q => finS_ext (e1.trans eb) (im.nx a S5 q), nx⟩⟩
  · have ei : i = xs.length := by omega
    subst ei
    rw [List.drop_length] at h2
    exact .inl ⟨y2 (Nat.le_refl _), im.nx _ _ h2.2 H2 σ2 (e1.trans e2) s2 r2⟩
end
end Wp

set_option Elab.async false
set_option linter.all false
set_option maxRecDepth 100000
/-! comprehensions, calls, defs, a law's end -/
namespace Wp
open PySem PySem.Spec PyProof.Rows L2
def wipeT (σ : Sl) : List Nat → Sl
  | [] => σ
  | v :: vs => (wipeT σ vs).set v none
theorem SlR.wipe {K : PySem.W.Frag} {H : Hp} {st : Sl} {σ : L2.St} (h : SlR K H st σ) : ∀ vs : List Nat, SlR K H (wipeT st vs) (L2.wipe σ vs)
  | [] => h
  | v :: vs => by
    have ih := SlR.wipe h vs
    unfold wipeT L2.wipe
    refine ⟨by rw [List.length_set, List.length_set]; exact ih.1, fun j u q => ?_⟩
    by_cases hj : v = j
    · subst hj
      by_cases hl : v < (wipeT st vs).length
      · rw [List.getElem?_set_self hl] at q
        cases q
      · rw [List.getElem?_eq_none (by rw [List.length_set]; omega)] at q
        cases q
    · rw [List.getElem?_set_ne hj] at q
      obtain ⟨w, e1, e2⟩ := ih.2 j u q
      exact ⟨w, by rw [List.getElem?_set_ne hj]; exact e1, e2⟩
section
variable {B : Hp} {X : Cx} {pos : Pos}
def wYes (u0 : Sl) (S : Sta) (Q : Bool → Sta → Prop) : Prop := Q true S
def JTs (B : Hp) (X : Cx) (ifs : List Expr) (t : WT) : Prop := PTs X ifs (LT B X t)
theorem pts_imp {ifs : List Expr} {t t' : TT} (h : PTs X ifs t) (k : ∀ σ H Q, t' σ H Q → t σ H Q) : PTs X ifs t' := ⟨fun pins s σ H Q I q => h.run pins s σ H Q I (k σ H Q q)⟩
theorem jts_nil : JTs B X [] wYes := pts_imp pts_nil fun σ H Q ⟨st, S, Q0, he, hr, hs, h, im⟩ => im _ _ h H (Ext.refl H) hs
theorem jts_one {c : Expr} {t : WT} (h : JT B X c t) : JTs B X [c] t := pts_one h
def compW (g : WG) (tt : WT) (te : WE) (stb : Sta → Prop) (σ : Sl) (D : Addr) (Q : T → Sta → Prop) : List T → Sta → Prop
  | [], S => stb S ∧ Q (.ref D) S
  | x :: xs, S => stb S ∧ g x σ S fun σ2 S2 => tt σ2 S2 fun b S3 => wif b (te σ2 S3 fun y S4 => ∃ acc, S4 D = some (.lst acc) ∧ acc.length < sizeLine ∧ compW g tt te stb σ D Q xs (upS S4 D (.lst (acc ++ [y])))) (compW g tt te stb σ D Q xs S3)
def wLc (wi : WI) (g : WG) (tt : WT) (te : WE) (vs : List Nat) (σ : Sl) (S : Sta) (Q : T → Sta → Prop) : Prop := wi σ S fun xs stb S1 => ∀ D, S1 D = none → compW g tt te stb (wipeT σ vs) D Q xs (upS S1 D (.lst []))
theorem compW_stb {g : WG} {tt : WT} {te : WE} {stb : Sta → Prop} {σ : Sl} {D : Addr} {Q : T → Sta → Prop} {xs : List T} {S : Sta} (h : compW g tt te stb σ D Q xs S) : stb S := by
  cases xs <;> exact h.1
theorem le_lc {wi : WI} {g : WG} {tt : WT} {te : WE} {vs : List Nat} {σ : L2.St} {H : Hp} {Q : VK} (h : LE B X (wLc wi g tt te vs) σ H Q) : tLc (LI B X wi) (LG X vs g) (LT B X tt) (LE B X te) vs σ H Q := by
  obtain ⟨st, S, Q0, he, hr, hs, h, im⟩ := h
  refine ⟨st, S, _, he, hr, hs, h, fun xs stb S1 h1 H1 e1 s1 J yl => ?_⟩
  intro D hD
  obtain ⟨eD, sD⟩ := s1.newL (ts := []) hD .nil
  refine ⟨fun i m H' => m = xs.length - i ∧ i ≤ xs.length ∧ ∃ S', Ext H1 H' ∧ St X.K S' H' ∧ compW g tt te stb (wipeT st vs) D Q0 (xs.drop i) S', ⟨xs.length, by omega, Nat.zero_le _, _, eD, sD, h1 D (s1.free hD)⟩, fun i m H2 hW => ?_⟩
  obtain ⟨hm, hi, S2, e2, s2, h2⟩ := hW
  obtain ⟨y1, y2, y3⟩ := yl i S2 H2 e2 s2 (compW_stb h2)
  by_cases hlt : i < xs.length
  · refine .inr ⟨y1 hlt, fun H' => ∃ S', Ext H1 H' ∧ St X.K S' H' ∧ compW g tt te stb (wipeT st vs) D Q0 (xs.drop (i + 1)) S', fun H' q => ⟨m - 1, by omega, by omega, by omega, q⟩, fun x H3 hy => ?_⟩
    obtain ⟨e3, s3, sl3, t, et, rt⟩ := y3 x H3 hy hlt
    have r2 : SlR X.K H2 (wipeT st vs) (L2.wipe σ vs) := ((hr.mono e1).mono e2).wipe vs
    have r3 := sl3 _ _ r2
    rw [List.drop_eq_getElem_cons hlt] at h2
    have et' : xs[i] = t := by rw [List.getElem?_eq_getElem hlt] at et; exact Option.some.inj et
    rw [et'] at h2
    refine ⟨t, wipeT st vs, S2, _, rt, r3, s3, h2.2, fun st4 S4 h4 H4 σ4 e4 s4 r4 w4 => ?_⟩
    have ww : L2.wipe (L2.wipe σ vs) vs = L2.wipe σ vs := by
      have key : ∀ (us ws : List Nat) (τ : L2.St), (∀ i ∈ us, i ∈ ws) → L2.wipe (L2.wipe τ ws) us = L2.wipe τ ws := fun us => by
        induction us with
        | nil => intro ws τ _; rfl
        | cons u us ih =>
          intro ws τ hu
          show (L2.wipe (L2.wipe τ ws) us).set u none = L2.wipe τ ws
          rw [ih ws τ fun i hi => hu i (List.mem_cons_of_mem _ hi)]
          have hmem := hu u List.mem_cons_self
          have set_none : ∀ (ws : List Nat), u ∈ ws → (L2.wipe τ ws).set u none = L2.wipe τ ws := fun ws => by
            induction ws with
            | nil => intro h; cases h
            | cons w ws ih2 =>
              intro h
              show ((L2.wipe τ ws).set w none).set u none = (L2.wipe τ ws).set w none
              by_cases hw : u = w
              · subst hw; rw [List.set_set]
              · rw [List.set_comm _ _ (fun z => hw z.symm), ih2 ((List.mem_cons.mp h).resolve_left hw)]
          exact set_none ws hmem
      exact key vs vs σ fun i hi => hi
    refine ⟨w4.trans ww, ?_⟩
    have eb : Ext H1 H4 := e2.trans (e3.trans e4)
    refine ⟨st4, S4, _, he.trans (e1.trans eb), r4, s4, h4, fun b S5 h5 H5 e5 s5 => ?_⟩
    cases b with
    | true =>
      rw [if_pos rfl]
      refine ⟨st4, S5, _, he.trans (e1.trans (eb.trans e5)), r4.mono e5, s5, (wt h5), fun y S6 h6 H6 v6 e6 s6 r6 => ?_⟩
      obtain ⟨acc, ea, hl, h6⟩ := h6
      obtain ⟨ys, g1, g2⟩ := s6 D _ ea
      obtain ⟨e7, s7⟩ := s6.setL g1 (Reps.append g2 (.cons r6 .nil))
      exact ⟨ys, g1, by rw [← g2.length]; exact hl, _, (eb.trans e5).trans (e6.trans e7), s7, h6⟩
    | false =>
      rw [if_neg Bool.false_ne_true]
      exact ⟨S5, eb.trans e5, s5, (wff h5)⟩
  · have ei : i = xs.length := by omega
    subst ei
    rw [List.drop_length] at h2
    exact .inl ⟨y2 (Nat.le_refl _), im _ _ h2.2 H2 _ (e1.trans e2) s2 (.ref D)⟩
theorem j_lc {elt tg iter : Expr} {ifs : List Expr} {scope : Scope} {own : List (Str × Nat)} {wi : WI} {g : WG} {tt : WT} {te : WE} (hc : X.calm = true) (hN : X.N.Nodup) (hi : JI B X tg iter wi) (ok : BlkOk X.N X.env.scope scope own)
    (hg : ∀ (s : Shared) (H : Hp) (C : Addr) (cl : List (Str × Addr)) (fp : List Addr), JG (X.blk s H scope (compEnvC scope cl C X.env) fp) tg (own.map (·.2)) g) (ht : ∀ (s : Shared) (H : Hp) (C : Addr) (cl : List (Str × Addr)) (fp : List Addr), JTs B (X.blk s H scope (compEnvC scope cl C X.env) fp) ifs tt)
    (he : ∀ (s : Shared) (H : Hp) (C : Addr) (cl : List (Str × Addr)) (fp : List Addr), JE B (X.blk s H scope (compEnvC scope cl C X.env) fp) elt te) (hs : ∀ x, foldedSetIterable iter X.env x = pure x := by intro _; rfl) :
    JE B X (.ListComp elt [⟨tg, iter, ifs, 0⟩] scope pos) (wLc wi g tt te (own.map (·.2))) := pe_imp (pe_lc (g := LG X (own.map fun (p : Str × Nat) => p.2) g) (tt := LT B X tt) (te := LE B X te) hc hN hi ok (fun s H C cl fp => hg s H C cl fp) (fun s H C cl fp => ht s H C cl fp) (fun s H C cl fp => he s H C cl fp) hs) fun σ H Q h => le_lc h
/-- name = [..] on one line -/
theorem js_setLc {i : Nat} {y : Str} {py : Pos} {elt tg iter : Expr} {ifs : List Expr} {scope : Scope} {own : List (Str × Nat)} {spos : Pos} {wi : WI} {g : WG} {tt : WT} {te : WE} (hc : X.calm = true) (hN : X.N.Nodup) (hy : X.N[i]? = some y) (hyl : X.env.scope.names.lookup y = some .local)
    (hsw : swapsWith (.ListComp elt [⟨tg, iter, ifs, 0⟩] scope pos) (some (.Name y py)) spos.line X.env = pure true) (hi : JI B X tg iter wi) (ok : BlkOk X.N X.env.scope scope own)
    (hg : ∀ (s : Shared) (H : Hp) (C : Addr) (cl : List (Str × Addr)) (fp : List Addr), JG (X.blk s H scope (compEnvC scope cl C X.env) fp) tg (own.map (·.2)) g) (ht : ∀ (s : Shared) (H : Hp) (C : Addr) (cl : List (Str × Addr)) (fp : List Addr), JTs B (X.blk s H scope (compEnvC scope cl C X.env) fp) ifs tt)
    (he : ∀ (s : Shared) (H : Hp) (C : Addr) (cl : List (Str × Addr)) (fp : List Addr), JE B (X.blk s H scope (compEnvC scope cl C X.env) fp) elt te) (hs : ∀ x, foldedSetIterable iter X.env x = pure x := by intro _; rfl) :
    JS B X (.Assign [.Name y py] (.ListComp elt [⟨tg, iter, ifs, 0⟩] scope pos) spos) (wSet i (wLc wi g tt te (own.map (·.2)))) := ps_imp (ps_setLc (g := LG X (own.map fun (p : Str × Nat) => p.2) g) (tt := LT B X tt) (te := LE B X te) hc hN hy hyl hsw hi ok (fun s H C cl fp => hg s H C cl fp) (fun s H C cl fp => ht s H C cl fp) (fun s H C cl fp => he s H C cl fp) hs) fun D σ H ⟨st, S, D0, he, hr, hs, h, im⟩ => by
  refine le_lc (Q := fun x H1 => gName i x σ H1 D.nx) ⟨st, S, _, he, hr, hs, h, fun x S1 h1 H1 v e1 s1 r1 => ?_⟩
  exact im.nx _ _ h1 H1 _ e1 s1 ((hr.mono e1).set r1 i)

/-! ### calls of the program's own defs -/
/-- arguments, state, the end, the end by an error (its class) -/
abbrev WSp := List T → Sta → (T → Sta → Prop) → (Addr → Sta → Prop) → Prop
def Lsp (tl : List Addr) (K : PySem.W.Frag) (n : Nat) (w : WSp) : Sp := fun vs H Q E => (∀ P ∈ tl, GxR.TabG H P) ∧ ∃ ts S Q0 E0, ts.length = n ∧ Reps K H ts vs ∧ St K S H ∧ w ts S Q0 E0 ∧ Im2 Q0 (fin K H Q) ∧ ∀ C S' H', E0 C S' → Ext H H' → St K S' H' → E (.ref C) none H'
theorem lsp_len {tl : List Addr} {K : PySem.W.Frag} {n : Nat} {w : WSp} {vs : List V} {H : Hp} {Q : VK} {E : XK} (h : Lsp tl K n w vs H Q E) : vs.length = n := by
  obtain ⟨_, ts, S, Q0, E0, h1, h2, _⟩ := h
  rw [← h2.length, h1]
def wCall (n : Nat) (w : WSp) (t : WA) (σ : Sl) (S : Sta) (Q : T → Sta → Prop) : Prop := t σ S fun ts S1 => ts.length = n ∧ w ts S1 Q fun _ _ => False
variable {k : Nat} {f C : Addr} {fd : FuncData} {ps : List Str} {x m : Str} {p apos : Pos} {e o : Expr} {es : List Expr} {ta : WE} {t : WA} {n : Nat} {w : WSp} {tl : List Addr}
theorem j_call (F : FnOk X.prog X.w X.K X.mg X.base CX0 k f fd ps (Lsp tl X.K n w)) (ht : ∀ P ∈ tl, GxR.TabG B P) (hr : Room k X.A) (hg : Gl X x) (hm : X.mg x = some (.ref f)) (hk : PySem.W.keepIn X.K (.ref f) = true) (hb : Binds X.K fd ps [])
    (ha : JA B X (e :: es) t) (hdb : (x == ("__debug__" : Str)) = false := by decide) (he : starEach (e :: es) X.env = (false, eval e X.env) :: starEach es X.env := by rfl) (hpl : (backTo pos (starEach es X.env)).any (·.1) = false := by rfl) :
    JE B X (.Call (.Name x p) (e :: es) [] pos) (wCall n w t) := pe_imp (pe_call F hr hg hm hk hb .nil pass0 ha hdb he hpl) fun σ H Q ⟨st, S, Q0, he, hr, hs, h, im⟩ => by
  refine ⟨st, S, _, he, hr, hs, h, fun xs S1 h1 H1 vs e1 s1 r1 => ?_⟩
  refine ⟨fun P hP => (he.trans e1).tabs P (ht P hP), xs, S1, Q0, fun _ _ => False, h1.1, by rw [List.append_nil]; exact r1, s1, h1.2, fun z S2 q => fin_ext e1 (im z S2 q), fun C S' H' q => q.elim⟩
theorem j_call0 (F : FnOk X.prog X.w X.K X.mg X.base CX0 k f fd ps (Lsp tl X.K n w)) (ht : ∀ P ∈ tl, GxR.TabG B P) (hr : Room k X.A) (hg : Gl X x) (hm : X.mg x = some (.ref f)) (hk : PySem.W.keepIn X.K (.ref f) = true) (hb : Binds X.K fd ps [])
    (hdb : (x == ("__debug__" : Str)) = false := by decide) :
    JE B X (.Call (.Name x p) [] [] pos) (wCall n w wNil) := pe_imp (pe_call0 F hr hg hm hk hb .nil pass0 hdb) fun σ H Q ⟨st, S, Q0, he, hr, hs, h, im⟩ =>
  ⟨fun P hP => he.tabs P (ht P hP), [], S, Q0, fun _ _ => False, h.1, .nil, hs, h.2, im, fun C S' H' q => q.elim⟩
end
/-! ### a def keeps its promise -/
def startT (N : List Str) (ts : List T) : Sl := ts.map some ++ List.replicate (N.length - ts.length) none
theorem start_rep {K : PySem.W.Frag} {H : Hp} {N : List Str} {ts : List T} {vs : List V} (r : Reps K H ts vs) : SlR K H (startT N ts) (L2.start N vs) := by
  have hl := r.length
  refine ⟨by unfold startT L2.start; simp [hl], fun i t q => ?_⟩
  unfold startT at q
  by_cases hi : i < ts.length
  · rw [List.getElem?_append_left (by simpa using hi), List.getElem?_map] at q
    cases e : ts[i]? with
    | none => rw [e] at q; cases q
    | some t' =>
      rw [e] at q
      cases q
      obtain ⟨v, e1, e2⟩ := r.get e
      refine ⟨v, ?_, e2⟩
      unfold L2.start
      rw [List.getElem?_append_left (by simp; omega), List.getElem?_map, e1]
      rfl
  · rw [List.getElem?_append_right (by simpa using hi), List.getElem?_replicate] at q
    split at q <;> cases q
section
variable {P : Program} {w : World} {K : PySem.W.Frag} {mg : Str → Option Value} {base : Heap}
theorem fnT {x qual : Str} {st : Stmt} {f : Addr} {fd : FuncData} {N ps : List Str} {k : Nat} {sp : WSp} {tl : List Addr} {t : WS} (F : Fun K x qual st f fd) (S : FnScope N ps (defScope st))
    (hb : ∀ (cdv : Value) (A : Around) (outer : List Env) (s : Shared) (H : Hp) (E : XK), Room k (A.deeper (envOfC qual (defScope st) s.heap.objs.size f cdv)) → cdv = fd.code → (∀ P ∈ tl, GxR.TabG H P) → JSs H (cxOf CX0 P w K mg base N qual (defScope st) f cdv A outer s H E).nox (defBody st) t)
    (hw : ∀ ts S Q E, ts.length = ps.length → sp ts S Q E → t { nx := fun _ S' => Q .non S', rt := Q } (startT N ts) S) : FnOk P w K mg base CX0 (k + 1) f fd ps (Lsp tl K ps.length sp) := by
  obtain ⟨oc, od, kV, doc, pm, an, cdv, ct, osl, rfl, lk, hcd⟩ := F.ex
  refine fn_of lk hcd S (fun vs H Q E h => lsp_len h) fun A outer s H vs Q E hr h => ?_
  obtain ⟨hT, ts, S0, Q0, E0, h1, h2, h3, h4, im, _⟩ := h
  refine ⟨_, PSs.nox (hb cdv A outer s H E hr rfl hT), ?_⟩
  exact ⟨startT N ts, S0, _, Ext.refl H, start_rep h2, h3, hw ts S0 Q0 E0 h1 h4, ⟨fun a S1 q H1 σ1 e1 s1 r1 => im _ _ q H1 _ e1 s1 .non, im, fun _ _ q => q.elim, fun _ _ q => q.elim⟩⟩
/-- another promise, less asked -/
theorem fn_imp {k : Nat} {f : Addr} {fd : FuncData} {ps : List Str} {n : Nat} {sp sp' : WSp} {tl : List Addr} (F : FnOk P w K mg base CX0 k f fd ps (Lsp tl K n sp)) (h : ∀ ts S Q E, sp' ts S Q E → sp ts S Q E) : FnOk P w K mg base CX0 k f fd ps (Lsp tl K n sp') :=
  F.imp fun vs H Q E ⟨hT, ts, S, Q0, E0, h1, h2, h3, h4, h5⟩ => ⟨hT, ts, S, Q0, E0, h1, h2, h3, h _ _ _ _ h4, h5⟩
end
/-- a law's promise: over a list of ints of at most 63, True -/
def spLaw : WSp := fun ts S Q _ => ∃ ns : List Int, ts = [.fl (ns.map .int)] ∧ ns.length ≤ 63 ∧ (∀ a, S a = none) ∧ ∀ S', Q (.bl true) S'
theorem law_sp (K : PySem.W.Frag) (H : Hp) (a : Addr) (ns : List Int) (hl : ns.length ≤ 63) (ho : Only H) (hs : SqL K H a (ns.map V.int)) : Lsp [] K 1 spLaw [.ref a] H (fun v _ => v = .bl true) fun _ _ _ => False := by
  have hf : FzL K H a (ns.map V.int) := by
    rcases hs with (h | ⟨o, h⟩) | h
    · rcases ho a with z | ⟨ob, xs, z⟩
      · rw [h] at z; cases z
      · rw [h] at z; cases z
    · exact .inl ⟨o, h⟩
    · exact .inr h
  refine ⟨fun _ z => (by cases z), [.fl (ns.map .int)], fun _ => none, fun v _ => v = .bl true, fun _ _ => False, rfl, .cons (.fl hf (Reps.ints ns)) .nil, (fun b o q => by cases q), ⟨ns, rfl, hl, fun _ => rfl, fun _ => rfl⟩, fun v S e H' u _ _ r => ?_, fun _ _ _ q => q.elim⟩
  subst e
  cases r
  rfl
end Wp

set_option Elab.async false
set_option linter.all false
set_option maxRecDepth 100000
/-! a def of the text, called; sequences walked -/
namespace Wp
open PySem PySem.Spec PyProof.Rows L2
def DefT (K : PySem.W.Frag) (mg : Str → Option Value) (x : Str) (st : Stmt) (ps : List Str) : Prop := ∃ f fd, Fun K x x st f fd ∧ mg x = some (.ref f) ∧ Binds K fd ps []
def Cal (P : Program) (w : World) (K : PySem.W.Frag) (mg : Str → Option Value) (base : Heap) (tl : List Addr) (k : Nat) (x : Str) (ps : List Str) (s : WSp) : Prop :=
  ∃ f fd, FnOk P w K mg base CX0 k f fd ps (Lsp tl K ps.length s) ∧ mg x = some (.ref f) ∧ PySem.W.keepIn K (.ref f) = true ∧ Binds K fd ps []
section
variable {P : Program} {w : World} {K : PySem.W.Frag} {mg : Str → Option Value} {base : Heap} {k j : Nat} {x : Str} {st : Stmt} {ps : List Str} {s s' : WSp} {tl : List Addr}
theorem DefT.cal (D : DefT K mg x st ps) (h : ∀ f fd, Fun K x x st f fd → FnOk P w K mg base CX0 k f fd ps (Lsp tl K ps.length s)) : Cal P w K mg base tl k x ps s := by
  obtain ⟨f, fd, F, m, b⟩ := D
  exact ⟨f, fd, h f fd F, m, F.kp, b⟩
theorem Cal.mono (c : Cal P w K mg base tl j x ps s) (h : j ≤ k) : Cal P w K mg base tl k x ps s := by
  obtain ⟨f, fd, F, m, kp, b⟩ := c
  exact ⟨f, fd, F.mono h, m, kp, b⟩
theorem Cal.imp (c : Cal P w K mg base tl k x ps s) (h : ∀ ts S Q E, s' ts S Q E → s ts S Q E) : Cal P w K mg base tl k x ps s' := by
  obtain ⟨f, fd, F, m, kp, b⟩ := c
  exact ⟨f, fd, fn_imp F h, m, kp, b⟩
theorem defT_mk {f : Addr} {oc : Value} {od an : Option Addr} {osl : Array (Option Value)} {kV doc pm cdv ct : Value} (hm : mg x = some (.ref f)) (l : K.lookup f = some ⟨oc, od, .func (PySem.W.fnOf x x (defArgs st) (defBody st) (defScope st) .none kV doc pm an cdv ct), osl⟩)
    (c : PySem.W.codeIn K cdv x = true) (k : PySem.W.keepIn K (.ref f) = true)
    (h : ∀ (kV doc pm : Value) (an : Option Addr) (cdv ct : Value) (us : List Value), us.length = ps.length → bindArgs (PySem.W.fnOf x x (defArgs st) (defBody st) (defScope st) .none kV doc pm an cdv ct) ⟨us, []⟩ = pure (ps.zip us)) : DefT K mg x st ps :=
  ⟨f, _, fun_mk l c k, hm, (fun_mk l c k).binds h⟩
end
section
variable {B : Hp} {X : Cx} {x : Str} {p pos : Pos} {e : Expr} {es : List Expr} {t : WA} {te : WE} {k : Nat} {ps : List Str} {s : WSp} {tl : List Addr}
theorem j_c (c : Cal X.prog X.w X.K X.mg X.base tl k x ps s) (ht : ∀ P ∈ tl, GxR.TabG B P) (hr : Room k X.A) (hg : Gl X x) (ha : JA B X (e :: es) t) (hdb : (x == ("__debug__" : Str)) = false := by decide)
    (he : starEach (e :: es) X.env = (false, eval e X.env) :: starEach es X.env := by rfl) (hpl : (backTo pos (starEach es X.env)).any (·.1) = false := by rfl) : JE B X (.Call (.Name x p) (e :: es) [] pos) (wCall ps.length s t) := by
  obtain ⟨f, fd, F, m, kp, b⟩ := c
  exact j_call F ht hr hg m kp b ha hdb he hpl
theorem j_c0 (c : Cal X.prog X.w X.K X.mg X.base tl k x ps s) (ht : ∀ P ∈ tl, GxR.TabG B P) (hr : Room k X.A) (hg : Gl X x) (hdb : (x == ("__debug__" : Str)) = false := by decide) : JE B X (.Call (.Name x p) [] [] pos) (wCall ps.length s wNil) := by
  obtain ⟨f, fd, F, m, kp, b⟩ := c
  exact j_call0 F ht hr hg m kp b hdb
theorem j_cI {i : Int} (hg : Gl X x) (h : ∃ t, X.mg x = some (.int i t)) (hd : (x == ("__debug__" : Str)) = false := by decide) : JE B X (.Name x pos) (wC (.int i)) := by
  obtain ⟨t, h⟩ := h
  exact j_globI hg h hd
theorem j_cS {i : Str} (hg : Gl X x) (h : ∃ t, X.mg x = some (.str i t)) (hd : (x == ("__debug__" : Str)) = false := by decide) : JE B X (.Name x pos) (wC (.str i)) := by
  obtain ⟨t, h⟩ := h
  exact j_globS hg h hd
/-- a list or a tuple, walked -/
def iSeqW (te : WE) (σ : Sl) (S : Sta) (R : List T → (Sta → Prop) → Sta → Prop) : Prop := te σ S fun x S1 => match x with
  | .tup ts => R ts (fun _ => True) S1
  | .fl ts => R ts (fun _ => True) S1
  | .ref p => ∃ ts, S1 p = some (.lst ts) ∧ R ts (fun S' => S' p = some (.lst ts)) S1
  | _ => False
/-- the two sources told apart where the value has come -/
theorem pi_both {tg l : Expr} {tl : TE} (hl : PE X l tl) : PI X tg l fun σ H R => tl σ H fun x H1 => ∃ a, x = .ref a ∧ ((∃ xs, SqL X.K H1 a xs) ∧ R (Itl X.K a) H1 ∨ (∃ xs, SqT X.K H1 a xs) ∧ R (Itt X.K a) H1) := by
  refine ⟨fun pins s σ H R I h => ?_⟩
  refine thn (hl.run pins s σ H _ I h) fun v s1 ⟨x, H1, I1, r1, q1⟩ => ?_
  obtain ⟨a, e, q1⟩ := q1
  subst e
  cases r1
  rcases q1 with ⟨⟨xs, hq⟩, q⟩ | ⟨⟨xs, hq⟩, q⟩
  · obtain ⟨its, rv, p, hz⟩ := I1.list hq
    refine wpAny_pyIter_list p.isList ?_
    refine ⟨s1.heap.objs.size, [s1.heap.objs.size], _, _, H1, rfl, I1.kept (t' := s1.toks) fun b o e => Heap.get?_push_of_some _ e, turn_list a _, ⟨_, Heap.get?_push_size _ rfl, rfl, rfl⟩, fun b hb => ?_, q⟩
    have e : b = s1.heap.objs.size := by simpa using hb
    subst e
    exact I1.fpOk (Nat.le_refl _) (I1.hok.fresh (Nat.le_refl _))
  · obtain ⟨its, rv, p, hz⟩ := I1.tuple hq
    refine wpAny_pyIter_tuple (show s1.heap.IsTuple a its.toArray from p) ?_
    refine ⟨s1.heap.objs.size, [s1.heap.objs.size], _, _, H1, rfl, I1.kept (t' := s1.toks) fun b o e => Heap.get?_push_of_some _ e, turn_tuple a _, ⟨_, Heap.get?_push_size _ rfl, rfl, rfl⟩, fun b hb => ?_, q⟩
    have e : b = s1.heap.objs.size := by simpa using hb
    subst e
    exact I1.fpOk (Nat.le_refl _) (I1.hok.fresh (Nat.le_refl _))
theorem ji_seq {tg : Expr} (he : JE B X e te) : JI B X tg e (iSeqW te) := pi_imp (pi_both he) fun σ H R ⟨st, S, Q0, he, hr, hs, h, im⟩ => by
  refine ⟨st, S, _, he, hr, hs, h, fun x S1 h1 H1 v1 e1 s1 r1 => ?_⟩
  cases x with
  | tup ts =>
    cases r1 with
    | @tup a xs _ g10 g2 =>
      have g1 := sqT_of (K := X.K) g10
      refine ⟨a, rfl, .inr ⟨⟨xs, g1⟩, im _ _ _ h1 H1 e1 s1 _ fun i S2 H2 e2 s2 _ => ⟨fun hi => ?_, fun hi => ⟨xs, e2.sqT g1, by rw [← g2.length]; exact hi⟩, fun x H' y hi => ?_⟩⟩⟩
      · obtain ⟨v, g3, _⟩ := g2.get (List.getElem?_eq_getElem hi)
        exact ⟨xs, v, e2.sqT g1, g3⟩
      · obtain ⟨eH, y⟩ := y
        subst eH
        obtain ⟨v, g3, g4⟩ := g2.get (List.getElem?_eq_getElem hi)
        have ev : x = v := Option.some.inj ((y xs (e2.sqT g1)).symm.trans g3)
        subst ev
        exact ⟨Ext.refl _, s2, fun _ _ q => q, _, List.getElem?_eq_getElem hi, Rep.mono e2 _ _ g4⟩
  | fl ts =>
    cases r1 with
    | @fl a xs _ g1 g2 =>
      refine ⟨a, rfl, .inl ⟨⟨xs, g1.sq⟩, im _ _ _ h1 H1 e1 s1 _ fun i S2 H2 e2 s2 _ => ⟨fun hi => ?_, fun hi => ⟨xs, (e2.fzL g1).sq, by rw [← g2.length]; exact hi⟩, fun x H' y hi => ?_⟩⟩⟩
      · obtain ⟨v, g3, _⟩ := g2.get (List.getElem?_eq_getElem hi)
        exact ⟨xs, v, (e2.fzL g1).sq, g3⟩
      · obtain ⟨eH, y⟩ := y
        subst eH
        obtain ⟨v, g3, g4⟩ := g2.get (List.getElem?_eq_getElem hi)
        have ev : x = v := Option.some.inj ((y xs ((e2.fzL g1).sq)).symm.trans g3)
        subst ev
        exact ⟨Ext.refl _, s2, fun _ _ q => q, _, List.getElem?_eq_getElem hi, Rep.mono e2 _ _ g4⟩
  | ref p =>
    obtain ⟨ts, eS, h1⟩ := h1
    cases r1
    obtain ⟨xs0, g10, g20⟩ := s1 p _ eS
    refine ⟨p, rfl, .inl ⟨⟨xs0, .inl (.inl g10)⟩, im _ _ _ h1 H1 e1 s1 _ fun i S2 H2 e2 s2 stb => ?_⟩⟩
    obtain ⟨xs, g1, g2⟩ := s2 p _ stb
    refine ⟨fun hi => ?_, fun hi => ⟨xs, .inl (.inl g1), by rw [← g2.length]; exact hi⟩, fun x H' y hi => ?_⟩
    · obtain ⟨v, g3, _⟩ := g2.get (List.getElem?_eq_getElem hi)
      exact ⟨xs, v, .inl (.inl g1), g3⟩
    · obtain ⟨eH, y⟩ := y
      subst eH
      obtain ⟨v, g3, g4⟩ := g2.get (List.getElem?_eq_getElem hi)
      have ev : x = v := Option.some.inj ((y xs (.inl (.inl g1))).symm.trans g3)
      subst ev
      exact ⟨Ext.refl _, s2, fun _ _ q => q, _, List.getElem?_eq_getElem hi, g4⟩
  | _ => exact h1.elim
end
/-! ### a law's last lines -/
theorem law_walk {l : PySem.W.OpenLaw} {k : Nat} {q : Program} {loose : List Str} {XP : (Str → Option Value) → Heap → Prop} {YP : World → Heap → Prop} {d : DefRec} {K : Params → PySem.W.Frag} {x : Str}
    (hn : l.most = some 63) (hdf : d.params.defaults = []) (hr : Room k callerA)
    (hY : ∀ (w : World) (h : Heap), YP w h → (K w.params).In h)
    (F : ∀ (w : World) (mg : Str → Option Value) (fa : Addr) (h : Heap), (K w.params).In h → h.Ns mainGlobals mg → mg d.name = some (.ref fa) →
      ∃ fd : FuncData, (∀ (s : Shared) (u : Value), BindsTo s fd ⟨[u], []⟩ [(x, u)]) ∧
        ∀ base : Heap, (K w.params).In base → base.Ns mainGlobals mg → FnOk l.prog w (K w.params) mg base CX0 k fa fd [x] (Lsp [] (K w.params) 1 spLaw)) :
    PySem.W.WalkO q loose XP YP l.row.toRowW d [] (fun f vs => PySem.call f vs) :=
  L2.walk_ofK (CX := CX0) (sp := fun K => Lsp [] K 1 spLaw) hn (by decide) hdf hr hY F (fun K H a ns hl ho hs => law_sp K H a ns hl ho hs) fun H s e s' h => h
end Wp

set_option Elab.async false
set_option linter.all false
set_option maxRecDepth 100000
/-! more built-ins, methods of lists -/
namespace Wp
open PySem PySem.Spec PyProof.Rows L2
section
variable {B : Hp} {X : Cx} {a b : Expr} {ta tb : WE} {pos : Pos}
/-- list(range(n)) -/
def wLstRg (ta : WE) (σ : Sl) (S : Sta) (Q : T → Sta → Prop) : Prop := ta σ S fun x S1 => match x with
  | .int n => (n ≤ 2 ^ 24 ∧ -(2 ^ 62) ≤ n) ∧ ∀ p, S1 p = none → Q (.ref p) (upS S1 p (.lst (rangeT 0 n.toNat)))
  | _ => False
theorem rangeT_rep {K : PySem.W.Frag} {H : Hp} (lo : Int) : ∀ (l : List Nat), Reps K H (l.map fun (i : Nat) => T.int (lo + (i : Int))) (l.map fun (i : Nat) => V.int (lo + (i : Nat)))
  | [] => .nil
  | i :: l => .cons (.int _) (rangeT_rep lo l)
theorem j_listRg1 {p p2 pos2 : Pos} (hg : Gl X "list") (hm : X.mg "list" = none) (hg2 : Gl X "range") (hm2 : X.mg "range" = none) (hc : X.calm = true) (ha : JE B X a ta) (na : starEach [a] X.env = (false, eval a X.env) :: starEach [] X.env := by rfl)
    (na2 : starEach [.Call (.Name "range" p2) [a] [] pos2] X.env = (false, eval (.Call (.Name "range" p2) [a] [] pos2) X.env) :: starEach [] X.env := by rfl) : JE B X (.Call (.Name "list" p) [.Call (.Name "range" p2) [a] [] pos2] [] pos) (wLstRg ta) :=
  pe_imp (pe_listRg hc hg hm (prg_1 hg2 hm2 ha na) na2) fun σ H Q ⟨st, S, Q0, he, hr, hs, h, im⟩ => by
    refine ⟨st, S, _, he, hr, hs, h, fun x S1 h1 H1 v e1 s1 r1 => ?_⟩
    cases x with
    | int n =>
      cases r1
      refine ⟨n, rfl, ⟨by omega, by omega, by have := h1.1.2; omega, by have := h1.1.1; omega, by have := h1.1.1; omega⟩, fun q hq => ?_⟩
      have rr : Reps X.K H1 (rangeT 0 n.toNat) (rgV 0 n) := by
        unfold rangeT rgV
        rw [show (n - 0).toNat = n.toNat by rw [Int.sub_zero]]
        exact rangeT_rep 0 _
      obtain ⟨e2, s2⟩ := s1.newL hq rr
      exact im _ _ (h1.2 q (s1.free hq)) _ _ (e1.trans e2) s2 (.ref q)
    | _ => exact h1.elim
/-- is of bools -/
def rBIs (neg : Bool) (x : T) (y : T) (S : Sta) (Q : T → Sta → Prop) : Prop := match x, y with
  | .bl a, .bl b => Q (.bl (neg != (a == b))) S
  | _, _ => False
theorem o_isB : OpT X (compareOp .Is) (rBIs false) := by
  intro pins s σ H x y v u Q I rx ry ⟨a, b, S, Q0, ra, rb, hs, q, im⟩
  match a, b, q with
  | .bl a, .bl b, q =>
    cases ra
    cases rb
    refine op_isBl pins s σ H _ _ v u Q I rx ry ⟨a, b, rfl, rfl, ?_⟩
    have e : decide (a = b) = (false != (a == b)) := by cases a <;> cases b <;> rfl
    rw [e]
    exact im _ _ q H _ (Ext.refl H) hs (.bl _)
theorem o_notB : OpT X (compareOp .IsNot) (rBIs true) := by
  intro pins s σ H x y v u Q I rx ry ⟨a, b, S, Q0, ra, rb, hs, q, im⟩
  match a, b, q with
  | .bl a, .bl b, q =>
    cases ra
    cases rb
    refine op_notBl pins s σ H _ _ v u Q I rx ry ⟨a, b, rfl, rfl, ?_⟩
    have e : (!decide (a = b)) = (true != (a == b)) := by cases a <;> cases b <;> rfl
    rw [e]
    exact im _ _ q H _ (Ext.refl H) hs (.bl _)
/-! ### methods of a list that may change -/
abbrev RM3 := T → List T → Sta → (T → Sta → Prop) → Prop
def LM (K : PySem.W.Frag) (r : RM3) : V → List V → Hp → VK → Prop := fun x xs H Q => ∃ t ts S Q0, Rep K H t x ∧ Reps K H ts xs ∧ St K S H ∧ r t ts S Q0 ∧ Im2 Q0 (fin K H Q)
def wMt (r : RM3) (to : WE) (t : WA) (σ : Sl) (S : Sta) (Q : T → Sta → Prop) : Prop := to σ S fun x S1 => match x with
  | .ref p => (∃ xs, S1 p = some (.lst xs)) ∧ t σ S1 fun ts S2 => r (.ref p) ts S2 Q
  | _ => False
variable {o e : Expr} {es : List Expr} {to : WE} {t : WA} {name : Str} {apos cpos : Pos} {id : String} {r : RM3}
theorem j_mtL (slot : Slot "list" name id) (hty : typeOf (.builtin id) = pure (.type "method_descriptor")) (hm : MtR X id (LM X.K r)) (ho : JE B X o to) (ha : JA B X (e :: es) t)
    (hbase : attributeBase o name X.env (eval o X.env) = eval o X.env := by rfl)
    (hfew : ((backTo cpos (starEach (e :: es) X.env)).all (fun x => !x.1) && (backToKw cpos (keywordEach [] X.env)).all (fun x => x.1.isSome)
      && decide ((e :: es).length + ([] : List Keyword).length + (if ([] : List Keyword).isEmpty then 0 else 1) < 30)) = true := by rfl)
    (hline : (apos.endLine == cpos.line) = true := by rfl) (hs : starEach (e :: es) X.env = (false, eval e X.env) :: starEach es X.env := by rfl) (hplain : (backTo cpos (starEach es X.env)).any (·.1) = false := by rfl) :
    JE B X (.Call (.Attribute o name apos) (e :: es) [] cpos) (wMt r to t) := pe_imp (pe_bm PySem.F.plainAttrs_list slot hty hm ho ha hbase hfew hline hs hplain) fun σ H Q ⟨st, S, Q0, he, hr, hs, h, im⟩ => by
  refine ⟨st, S, _, he, hr, hs, h, fun x S1 h1 H1 v e1 s1 r1 => ?_⟩
  cases x with
  | ref p =>
   obtain ⟨⟨xs, e2⟩, h1⟩ := h1
   cases r1
   obtain ⟨ys, g1, g2⟩ := s1 p _ e2
   refine ⟨.inl ⟨rfl, ys, .inl (.inl g1)⟩, st, S1, _, he.trans e1, hr.mono e1, s1, h1, fun ts S2 h2 H2 vs e3 s3 r3 => ?_⟩
   exact ⟨_, ts, S2, Q0, .ref p, r3, s3, h2, fun z S4 q => fin_ext (e1.trans e3) (im z S4 q)⟩
  | _ => exact h1.elim
theorem j_mtL0 (slot : Slot "list" name id) (hty : typeOf (.builtin id) = pure (.type "method_descriptor")) (hm : MtR X id (LM X.K r)) (ho : JE B X o to)
    (hbase : attributeBase o name X.env (eval o X.env) = eval o X.env := by rfl) (hline : (apos.endLine == cpos.line) = true := by rfl) :
    JE B X (.Call (.Attribute o name apos) [] [] cpos) (wMt r to wNil) := pe_imp (pe_bm0 PySem.F.plainAttrs_list slot hty hm ho hbase hline) fun σ H Q ⟨st, S, Q0, he, hr, hs, h, im⟩ => by
  refine ⟨st, S, _, he, hr, hs, h, fun x S1 h1 H1 v e1 s1 r1 => ?_⟩
  cases x with
  | ref p =>
   obtain ⟨⟨xs, e2⟩, h1⟩ := h1
   cases r1
   obtain ⟨ys, g1, g2⟩ := s1 p _ e2
   refine ⟨.inl ⟨rfl, ys, .inl (.inl g1)⟩, ?_⟩
   exact ⟨_, [], S1, Q0, .ref p, .nil, s1, h1, fun z S4 q => fin_ext e1 (im z S4 q)⟩
  | _ => exact h1.elim
def rAppendT (x : Wp.T) (ts : List Wp.T) (S : Sta) (Q : Wp.T → Sta → Prop) : Prop := match x, ts with
  | .ref p, [t] => ∃ xs, S p = some (.lst xs) ∧ xs.length < sizeLine ∧ Q .non (upS S p (.lst (xs ++ [t])))
  | _, _ => False
theorem m_append : MtR X "list.append" (LM X.K rAppendT) := by
  intro pins s σ H x xs v us Q I rx rxs ⟨t, ts, S, Q0, rt, rts, hs, q, im⟩
  match t, ts, q with
  | .ref p, [y], ⟨zs, e, hl, q⟩ =>
    cases rt
    obtain ⟨w, rfl, rw'⟩ := rts.one
    obtain ⟨ys, g1, g2⟩ := hs p _ e
    obtain ⟨e2, s2⟩ := hs.setL g1 (Reps.append g2 (.cons rw' .nil))
    exact mt_append pins s σ H _ _ v us Q I rx rxs ⟨p, ys, w, rfl, rfl, g1, by rw [← g2.length]; exact hl, im _ _ q _ _ e2 s2 .non⟩
def rExtendT (x : Wp.T) (ts : List Wp.T) (S : Sta) (Q : Wp.T → Sta → Prop) : Prop := match x, ts with
  | .ref p, [.ref p2] => ∃ xs, S p = some (.lst xs) ∧ ∃ ys, S p2 = some (.lst ys) ∧ xs.length + ys.length ≤ sizeLine ∧ Q .non (upS S p (.lst (xs ++ ys)))
  | _, _ => False
theorem m_extend : MtR X "list.extend" (LM X.K rExtendT) := by
  intro pins s σ H x xs v us Q I rx rxs ⟨t, ts, S, Q0, rt, rts, hs, q, im⟩
  match t, ts, q with
  | .ref p, [.ref p2], ⟨zs, e, ws, e', hl, q⟩ =>
    cases rt
    obtain ⟨w, rfl, rw'⟩ := rts.one
    cases rw'
    obtain ⟨ys, g1, g2⟩ := hs p _ e
    obtain ⟨vs, g3, g4⟩ := hs p2 _ e'
    obtain ⟨e2, s2⟩ := hs.setL g1 (Reps.append g2 g4)
    exact mt_extend pins s σ H _ _ v us Q I rx rxs ⟨p, p2, ys, vs, rfl, rfl, g1, g3, by rw [← g2.length, ← g4.length]; exact hl, im _ _ q _ _ e2 s2 .non⟩
def rReverseT (x : Wp.T) (ts : List Wp.T) (S : Sta) (Q : Wp.T → Sta → Prop) : Prop := match x, ts with
  | .ref p, [] => ∃ xs, S p = some (.lst xs) ∧ Q .non (upS S p (.lst xs.reverse))
  | _, _ => False
theorem m_reverse : MtR X "list.reverse" (LM X.K rReverseT) := by
  intro pins s σ H x xs v us Q I rx rxs ⟨t, ts, S, Q0, rt, rts, hs, q, im⟩
  match t, ts, q with
  | .ref p, [], ⟨zs, e, q⟩ =>
    cases rt
    cases rts
    obtain ⟨ys, g1, g2⟩ := hs p _ e
    obtain ⟨e2, s2⟩ := hs.setL g1 g2.reverse
    exact mt_reverse pins s σ H _ _ v us Q I rx rxs ⟨p, ys, rfl, rfl, g1, im _ _ q _ _ e2 s2 .non⟩
/-- xs.index(x), x in it, flat -/
def rIndexT (x : Wp.T) (ts : List Wp.T) (S : Sta) (Q : Wp.T → Sta → Prop) : Prop := match x, ts with
  | .ref p, [y] => ∃ xs, S p = some (.lst xs) ∧ flatT y = true ∧ xs.all flatT = true ∧ ∃ (j : Nat) (z : Wp.T), xs[j]? = some z ∧ eqF z y = true ∧ (∀ (m : Nat) (z' : Wp.T), m < j → xs[m]? = some z' → eqF z' y = false) ∧ Q (.int (j : Nat)) S
  | _, _ => False
theorem m_index : MtR X "list.index" (LM X.K rIndexT) := by
  intro pins s σ H x xs v us Q I rx rxs ⟨t, ts, S, Q0, rt, rts, hs, q, im⟩
  match t, ts, q with
  | .ref p, [y], ⟨zs, e, f1, f2, j, z, ej, ez, hno, q⟩ =>
    cases rt
    obtain ⟨w, rfl, rw'⟩ := rts.one
    obtain ⟨ys, g1, g2⟩ := hs p _ e
    obtain ⟨zv, g3, g4⟩ := g2.get ej
    have fz : flatT z = true := List.all_eq_true.mp f2 z (List.mem_of_getElem? ej)
    refine mt_index pins s σ H _ _ v us Q I rx rxs ⟨p, ys, w, j, zv, rfl, rfl, .inl (.inl g1), flat_rep rw' f1, flats_rep g2 f2, g3, by rw [eqF_rep g4 rw' fz f1]; exact ez, fun m z' hm hz' => ?_, im _ _ q _ _ (Ext.refl H) hs (.int _)⟩
    obtain ⟨zt, g5, g6⟩ := g2.getV hz'
    rw [eqF_rep g6 rw' (List.all_eq_true.mp f2 zt (List.mem_of_getElem? g5)) f1]
    exact hno m zt hm g5
/-! ### sum of ints, ord, divmod -/
def rSumI (xs : List T) (S : Sta) (Q : T → Sta → Prop) : Prop := match xs with
  | [.ref p] => ∃ ns : List Int, S p = some (.lst (ns.map .int)) ∧ Q (.int ns.sum) S
  | _ => False
theorem c_sumI (hc : X.calm = true) : CallR X (.builtin "sum") (LC X.K rSumI) := by
  intro pins s σ H xs us Q I rx ⟨ts, S, Q0, r, hs, q, im⟩
  match ts, q with
  | [.ref p], ⟨ns, e, q⟩ =>
    obtain ⟨v, rfl, r1⟩ := r.one
    cases r1
    obtain ⟨ys, g1, g2⟩ := hs p _ e
    have ey := g2.intsV
    subst ey
    exact cr_sum hc pins s σ H _ us Q I rx ⟨p, ns, rfl, .inl (.inl g1), im _ _ q _ _ (Ext.refl H) hs (.int _)⟩
def rOrd (xs : List T) (S : Sta) (Q : T → Sta → Prop) : Prop := match xs with
  | [.str z] => z.length = 1 ∧ Q (.int (z.cps.getD 0 0 : Nat)) S
  | _ => False
theorem c_ord : CallR X (.builtin "ord") (LC X.K rOrd) := by
  intro pins s σ H xs us Q I rx ⟨ts, S, Q0, r, hs, q, im⟩
  match ts, q with
  | [.str z], q =>
    obtain ⟨v, rfl, r1⟩ := r.one
    cases r1
    exact call_ord pins s σ H _ us Q I rx ⟨z, rfl, q.1, im _ _ q.2 _ _ (Ext.refl H) hs (.int _)⟩
def rDivmod (xs : List T) (S : Sta) (Q : T → Sta → Prop) : Prop := match xs with
  | [.int i, .int j] => (0 < j ∧ j < 1073741824) ∧ Q (.tup [.int (i / j), .int (i % j)]) S
  | _ => False
theorem c_divmod : CallR X (.builtin "divmod") (LC X.K rDivmod) := by
  intro pins s σ H xs us Q I rx ⟨ts, S, Q0, r, hs, q, im⟩
  match ts, q with
  | [.int i, .int j], q =>
    obtain ⟨v, w, rfl, r1, r2⟩ := r.two
    cases r1
    cases r2
    exact call_divmod pins s σ H _ us Q I rx ⟨i, j, rfl, q.1, fun p hp => im _ _ q.2 _ _ (Ext.new hp) (hs.new hp _) (.tup upd_same (.cons (.int _) (.cons (.int _) .nil)))⟩
end
end Wp

set_option Elab.async false
set_option linter.all false
set_option maxRecDepth 100000
/-! lemmas for the reading's simplification -/
namespace Wp
open PySem PySem.Spec PyProof.Rows L2
theorem cmul_l {i j : Int} (h1 : -(2 ^ 64) < i) (h2 : i < 2 ^ 64) : CMul i j = True := eq_true (.inl ⟨h1, h2⟩)
theorem cmul_r {i j : Int} (h1 : -(2 ^ 64) < j) (h2 : j < 2 ^ 64) : CMul i j = True := eq_true (.inr ⟨h1, h2⟩)
theorem ex_some {α : Type} {a : α} {P : α → Prop} : (∃ v, some (some a) = some (some v) ∧ P v) = P a := by
  apply propext
  constructor
  · rintro ⟨v, e, h⟩; cases e; exact h
  · intro h; exact ⟨a, rfl, h⟩
theorem ex_some1 {α : Type} {a : α} {P : α → Prop} : (∃ v, some a = some v ∧ P v) = P a := by
  apply propext
  constructor
  · rintro ⟨v, e, h⟩; cases e; exact h
  · intro h; exact ⟨a, rfl, h⟩
theorem ex_eq {α : Type} {a : α} {P : α → Prop} : (∃ v, a = v ∧ P v) = P a := by
  apply propext
  constructor
  · rintro ⟨v, e, h⟩; cases e; exact h
  · intro h; exact ⟨a, rfl, h⟩
theorem cpow_lit {i j : Int} (h1 : 0 ≤ j) (h2 : j ≤ 1000000) (h3 : i.natAbs < 2 ^ 64) : CPow i j = True := eq_true ⟨h1, h2, h3⟩
theorem size_le {n : Nat} (h : n ≤ 10000000) : (n ≤ sizeLine) = True := eq_true (Nat.le_trans h (by rw [sizeLine_eq]; decide))
theorem size_lt {n : Nat} (h : n < 10000000) : (n < sizeLine) = True := eq_true (Nat.lt_of_lt_of_le h (by rw [sizeLine_eq]; decide))
theorem itemsT_ref {S : Sta} {p : Addr} {ts : List T} (h : S p = some (.lst ts)) : itemsT S (.ref p) = some ts := by simp only [itemsT, h]
theorem tyT_ref {S : Sta} {p : Addr} {ts : List T} (h : S p = some (.lst ts)) : tyT S (.ref p) = some "list" := by simp only [tyT, h]
theorem atI_zero {α : Type} {x : α} {xs : List α} : atI (x :: xs) 0 = some x := atI_nat (j := 0) rfl
theorem atI_lit {α : Type} {xs : List α} {j : Nat} : atI xs ((j : Nat) : Int) = xs[j]? := by
  unfold atI ixN
  by_cases h : j < xs.length
  · rw [if_pos (by omega), if_pos (by omega)]
    simp
  · rw [if_pos (by omega), if_neg (by omega)]
    simp
    omega
theorem atI_0 {α : Type} {xs : List α} : atI xs 0 = xs[0]? := atI_lit (j := 0)
theorem atI_1 {α : Type} {xs : List α} : atI xs 1 = xs[1]? := atI_lit (j := 1)
theorem atI_2 {α : Type} {xs : List α} : atI xs 2 = xs[2]? := atI_lit (j := 2)
theorem atI_3 {α : Type} {xs : List α} : atI xs 3 = xs[3]? := atI_lit (j := 3)
theorem atI_4 {α : Type} {xs : List α} : atI xs 4 = xs[4]? := atI_lit (j := 4)
theorem atI_5 {α : Type} {xs : List α} : atI xs 5 = xs[5]? := atI_lit (j := 5)
theorem atI_6 {α : Type} {xs : List α} : atI xs 6 = xs[6]? := atI_lit (j := 6)
/-- an item at an open place in bounds -/
theorem atI_in {α : Type} {xs : List α} {i : Int} (h0 : 0 ≤ i) (h1 : i < xs.length) : ∃ x, atI xs i = some x ∧ x ∈ xs := by
  obtain ⟨n, rfl⟩ : ∃ n : Nat, i = n := ⟨i.toNat, by omega⟩
  rw [atI_lit]
  have h : n < xs.length := by omega
  exact ⟨xs[n], List.getElem?_eq_getElem h, List.getElem_mem h⟩
theorem ixN_lit {n j : Nat} (h : j < n) : ixN n ((j : Nat) : Int) = some j := by
  unfold ixN
  rw [if_pos (by omega), if_pos (by omega)]
  simp
theorem ixN_0 {n : Nat} : ixN (n + 1) 0 = some 0 := ixN_lit (j := 0) (by omega)
theorem ixN_1 {n : Nat} : ixN (n + 2) 1 = some 1 := ixN_lit (j := 1) (by omega)
theorem ixN_2 {n : Nat} : ixN (n + 3) 2 = some 2 := ixN_lit (j := 2) (by omega)
theorem rangeT_mem {n : Nat} {t : T} (h : t ∈ rangeT 0 n) : ∃ i : Nat, i < n ∧ t = .int i := by
  unfold rangeT at h
  obtain ⟨i, hi, e⟩ := List.mem_map.mp h
  exact ⟨i, List.mem_range.mp hi, by rw [← e, Int.zero_add]⟩
theorem eqvAll_ints : ∀ (ns ms : List Int), PyData.eqvAll (ns.map PyData.int) (ms.map PyData.int) = (ns == ms)
  | [], [] => by simp only [List.map_nil, PyData.eqvAll]; rfl
  | [], m :: ms => by simp only [List.map_nil, List.map_cons, PyData.eqvAll]; rfl
  | n :: ns, [] => by simp only [List.map_nil, List.map_cons, PyData.eqvAll]; rfl
  | n :: ns, m :: ms => by
    simp only [List.map_cons, PyData.eqvAll, PyData.eqv, eqvAll_ints ns ms]
    rfl
theorem toDs_ints : ∀ ns : List Int, toDs (ns.map T.int) = some (ns.map PyData.int)
  | [] => by simp only [List.map_nil, toDs]
  | n :: ns => by simp only [List.map_cons, toDs, toD, toDs_ints ns]
theorem layAll_ints : ∀ ns : List Int, PyData.canLayAll0 (ns.map PyData.int) = true
  | [] => by simp only [List.map_nil, PyData.canLayAll0]
  | n :: ns => by simp only [List.map_cons, PyData.canLayAll0, PyData.canLay0, layAll_ints ns, Bool.and_self]
theorem depAll_ints : ∀ ns : List Int, PyData.depthAll (ns.map PyData.int) ≤ 1
  | [] => by simp only [List.map_nil, PyData.depthAll]; omega
  | n :: ns => by
    have := depAll_ints ns
    simp only [List.map_cons, PyData.depthAll, PyData.depth]
    omega
theorem shaped_ints (ns : List Int) : SeqAt.shaped (.list (ns.map PyData.int)) = true := by
  have h := depAll_ints ns
  unfold SeqAt.shaped
  rw [Bool.and_eq_true]
  refine ⟨by simp only [PyData.canLay0]; exact layAll_ints ns, decide_eq_true ?_⟩
  simp only [PyData.depth]
  omega
theorem shaped_int (i : Int) : SeqAt.shaped (.int i) = true := by
  unfold SeqAt.shaped
  rw [Bool.and_eq_true]
  refine ⟨by simp only [PyData.canLay0], decide_eq_true ?_⟩
  simp only [PyData.depth]
  omega
theorem shaped_bool (i : Bool) : SeqAt.shaped (.bool i) = true := by
  unfold SeqAt.shaped
  rw [Bool.and_eq_true]
  refine ⟨by simp only [PyData.canLay0], decide_eq_true ?_⟩
  simp only [PyData.depth]
  omega
theorem shaped_none : SeqAt.shaped .none = true := by
  unfold SeqAt.shaped
  rw [Bool.and_eq_true]
  refine ⟨by simp only [PyData.canLay0], decide_eq_true ?_⟩
  simp only [PyData.depth]
  omega
theorem shaped_str {x : Str} (h : PyData.strOk x = true) : SeqAt.shaped (.str x) = true := by
  unfold SeqAt.shaped
  rw [Bool.and_eq_true]
  refine ⟨by simp only [PyData.canLay0]; exact h, decide_eq_true ?_⟩
  simp only [PyData.depth]
  omega
/-- == of scalars -/
def scalT : T → Bool
  | .non => true
  | .bl _ => true
  | .int _ => true
  | .str x => PyData.strOk x
  | _ => false
theorem rEq_scal {neg : Bool} {x y : T} {S : Sta} {Q : T → Sta → Prop} (hx : scalT x = true) (hy : scalT y = true) (q : Q (.bl (neg != eqF x y)) S) : rEq neg x y S Q := by
  cases x with
  | non => cases y with
    | non => exact ⟨_, rfl, _, rfl, shaped_none, shaped_none, by simpa only [PyData.eqv, eqF] using q⟩
    | bl b => exact ⟨_, rfl, _, rfl, shaped_none, shaped_bool b, by simpa only [PyData.eqv, eqF] using q⟩
    | int b => exact ⟨_, rfl, _, rfl, shaped_none, shaped_int b, by simpa only [PyData.eqv, eqF] using q⟩
    | str b => exact ⟨_, rfl, _, rfl, shaped_none, shaped_str hy, by simpa only [PyData.eqv, eqF] using q⟩
    | _ => cases hy
  | bl a => cases y with
    | non => exact ⟨_, rfl, _, rfl, shaped_bool a, shaped_none, by simpa only [PyData.eqv, eqF] using q⟩
    | bl b => exact ⟨_, rfl, _, rfl, shaped_bool a, shaped_bool b, by simpa only [PyData.eqv, eqF] using q⟩
    | int b => exact ⟨_, rfl, _, rfl, shaped_bool a, shaped_int b, by simpa only [PyData.eqv, eqF] using q⟩
    | str b => exact ⟨_, rfl, _, rfl, shaped_bool a, shaped_str hy, by simpa only [PyData.eqv, eqF] using q⟩
    | _ => cases hy
  | int a => cases y with
    | non => exact ⟨_, rfl, _, rfl, shaped_int a, shaped_none, by simpa only [PyData.eqv, eqF] using q⟩
    | bl b => exact ⟨_, rfl, _, rfl, shaped_int a, shaped_bool b, by simpa only [PyData.eqv, eqF] using q⟩
    | int b => exact ⟨_, rfl, _, rfl, shaped_int a, shaped_int b, by simpa only [PyData.eqv, eqF] using q⟩
    | str b => exact ⟨_, rfl, _, rfl, shaped_int a, shaped_str hy, by simpa only [PyData.eqv, eqF] using q⟩
    | _ => cases hy
  | str a => cases y with
    | non => exact ⟨_, rfl, _, rfl, shaped_str hx, shaped_none, by simpa only [PyData.eqv, eqF] using q⟩
    | bl b => exact ⟨_, rfl, _, rfl, shaped_str hx, shaped_bool b, by simpa only [PyData.eqv, eqF] using q⟩
    | int b => exact ⟨_, rfl, _, rfl, shaped_str hx, shaped_int b, by simpa only [PyData.eqv, eqF] using q⟩
    | str b => exact ⟨_, rfl, _, rfl, shaped_str hx, shaped_str hy, by simpa only [PyData.eqv, eqF] using q⟩
    | _ => cases hy
  | _ => cases hx
theorem rEq_ints {neg : Bool} {a b : T} {S : Sta} {ns ms : List Int} {Q : T → Sta → Prop} (ha : dd S a = some (.list (ns.map .int))) (hb : dd S b = some (.list (ms.map .int))) (q : Q (.bl (neg != (ns == ms))) S) : rEq neg a b S Q :=
  ⟨_, ha, _, hb, shaped_ints ns, shaped_ints ms, by simpa only [PyData.eqv, eqvAll_ints] using q⟩
theorem dd_ints {S : Sta} {p : Addr} {ns : List Int} (h : S p = some (.lst (ns.map T.int))) : dd S (.ref p) = some (.list (ns.map .int)) := by
  simp only [dd, h, toDs_ints, Option.map_some]
theorem eqF_int {i j : Int} : eqF (.int i) (.int j) = (i == j) := rfl
theorem rEq_int {neg : Bool} {i j : Int} {S : Sta} {Q : T → Sta → Prop} : rEq neg (.int i) (.int j) S Q = Q (.bl (neg != (i == j))) S := by
  apply propext
  constructor
  · rintro ⟨d, e1, e, e2, _, _, q⟩
    cases e1
    cases e2
    simpa only [PyData.eqv] using q
  · intro q
    exact rEq_scal rfl rfl q
theorem ex_lst {a : List T} {P : List T → Prop} : (∃ v, some (O.lst a) = some (O.lst v) ∧ P v) = P a := by
  apply propext
  constructor
  · rintro ⟨v, e, h⟩; cases e; exact h
  · intro h; exact ⟨a, rfl, h⟩
theorem ex_lst0 {a : List T} : (∃ v, some (O.lst a) = some (O.lst v)) = True := eq_true ⟨a, rfl⟩
end Wp
namespace Wp
open PySem PySem.Spec PyProof.Rows L2
/-- a comprehension whose elements change nothing -/
theorem compW_pure {te : WE} {i : Nat} {σ : Sl} {D : Addr} {Q : T → Sta → Prop} {stb : Sta → Prop} (f : T → T) (hst : ∀ S, stb S) : ∀ (xs acc : List T) (S : Sta),
    (∀ x ∈ xs, ∀ (acc' : List T) (R : T → Sta → Prop), R (f x) (upS S D (.lst acc')) → te (σ.set i (some x)) (upS S D (.lst acc')) R) → acc.length + xs.length ≤ 1000000 → Q (.ref D) (upS S D (.lst (acc ++ xs.map f))) → compW (gNm i) wYes te stb σ D Q xs (upS S D (.lst acc))
  | [], acc, S, _, _, q => by
    rw [List.map_nil, List.append_nil] at q
    exact ⟨hst _, q⟩
  | x :: xs, acc, S, h, hl, q => by
    refine ⟨hst _, wif_t (h x List.mem_cons_self acc _ ?_)⟩
    refine ⟨acc, upS_same, ?_, ?_⟩
    · rw [List.length_cons] at hl
      exact Nat.lt_of_lt_of_le (show acc.length < 10000000 by omega) (by rw [sizeLine_eq]; decide)
    · rw [upS_upS]
      refine compW_pure f hst xs (acc ++ [f x]) S (fun y hy acc' R r => h y (List.mem_cons_of_mem _ hy) acc' R r) ?_ ?_
      · rw [List.length_append, List.length_cons, List.length_nil]
        rw [List.length_cons] at hl
        omega
      · rw [List.append_assoc]
        exact q
theorem rangeT_len {n : Nat} : (rangeT 0 n).length = n := by unfold rangeT; rw [List.length_map, List.length_range]
theorem rangeT_map {n : Nat} (f : T → T) : (rangeT 0 n).map f = (List.range n).map fun (j : Nat) => f (.int j) := by
  unfold rangeT
  rw [List.map_map]
  refine List.map_congr_left fun j _ => ?_
  show f (.int (0 + (j : Int))) = _
  rw [Int.zero_add]
end Wp
namespace Wp
theorem isB_0 : isB "NoneType" "bool" = false := by decide
theorem isB_1 : isB "NoneType" "int" = false := by decide
theorem isB_2 : isB "NoneType" "str" = false := by decide
theorem isB_3 : isB "NoneType" "tuple" = false := by decide
theorem isB_4 : isB "NoneType" "list" = false := by decide
theorem isB_5 : isB "NoneType" "dict" = false := by decide
theorem isB_6 : isB "bool" "bool" = true := by decide
theorem isB_7 : isB "bool" "int" = true := by decide
theorem isB_8 : isB "bool" "str" = false := by decide
theorem isB_9 : isB "bool" "tuple" = false := by decide
theorem isB_10 : isB "bool" "list" = false := by decide
theorem isB_11 : isB "bool" "dict" = false := by decide
theorem isB_12 : isB "int" "bool" = false := by decide
theorem isB_13 : isB "int" "int" = true := by decide
theorem isB_14 : isB "int" "str" = false := by decide
theorem isB_15 : isB "int" "tuple" = false := by decide
theorem isB_16 : isB "int" "list" = false := by decide
theorem isB_17 : isB "int" "dict" = false := by decide
theorem isB_18 : isB "str" "bool" = false := by decide
theorem isB_19 : isB "str" "int" = false := by decide
theorem isB_20 : isB "str" "str" = true := by decide
theorem isB_21 : isB "str" "tuple" = false := by decide
theorem isB_22 : isB "str" "list" = false := by decide
theorem isB_23 : isB "str" "dict" = false := by decide
theorem isB_24 : isB "tuple" "bool" = false := by decide
theorem isB_25 : isB "tuple" "int" = false := by decide
theorem isB_26 : isB "tuple" "str" = false := by decide
theorem isB_27 : isB "tuple" "tuple" = true := by decide
theorem isB_28 : isB "tuple" "list" = false := by decide
theorem isB_29 : isB "tuple" "dict" = false := by decide
theorem isB_30 : isB "list" "bool" = false := by decide
theorem isB_31 : isB "list" "int" = false := by decide
theorem isB_32 : isB "list" "str" = false := by decide
theorem isB_33 : isB "list" "tuple" = false := by decide
theorem isB_34 : isB "list" "list" = true := by decide
theorem isB_35 : isB "list" "dict" = false := by decide
end Wp
namespace Wp
theorem goS_i {f : Sl → Sta → Prop} {σ : Sl} {S : Sta} (h : f σ S) : goS f σ S := h
end Wp
namespace Wp
theorem rangeT_ints {n : Nat} : rangeT 0 n = ((List.range n).map fun (j : Nat) => (j : Int)).map T.int := by
  unfold rangeT
  rw [List.map_map]
  refine List.map_congr_left fun j _ => ?_
  show T.int (0 + (j : Int)) = _
  rw [Int.zero_add]
  rfl
end Wp

set_option Elab.async false
set_option linter.all false
set_option maxRecDepth 100000
set_option maxHeartbeats 1000000
/-! all, any of a generator expression whose element is any expression -/
namespace Wp
open PySem PySem.Spec PyProof.Rows L2 GxR
/-- the context of a generator expression's frame -/
abbrev gblk (X : Cx) (A : Around) (s : Shared) (H : Hp) (cenv : Env) (fp : List Addr) (pn : List (Addr × Obj)) : Cx :=
  { X with A := A, s_0 := s, H_0 := H, env := cenv, outer := X.stack, stack := cenv :: X.stack, ex := fp, fn := fun _ => false, pn := pn, xe := fun _ _ => False }
theorem ne_of_none_left {H : Hp} {a b : Addr} {u : HO} (h : H a = none) (h' : H b = some u) : a ≠ b := by
  intro e; subst e; rw [h] at h'; cases h'
section
variable {X : Cx} {pins : List (Addr × Obj)} {σ : L2.St} {H : Hp} {s : Shared}
theorem inv_same {s' : Shared} (I : Inv X pins σ H s) (h1 : s'.heap = s.heap) (h2 : s'.os = s.os) (h3 : AllBare s'.gens) : Inv X pins σ H s' := by
  obtain ⟨hh, g, d, t, o⟩ := s'
  have e1 : hh = s.heap := h1
  have e2 : o = s.os := h2
  subst e1 e2
  exact ⟨I.ok, I.os, h3, I.base, I.loc, I.cell, I.free, I.freeC, I.pin, I.hok, I.len⟩
theorem gen_start {scope : Scope} {own : List (Str × Nat)} {fp : List Addr} {code : Value} {A : Around} {a : Addr} {go : Obj} {h5 : Heap} {gens5 : Array GenState} {tk : Nat} {m : Str → Option Value} (I : Inv X pins σ H s) (ok : BlkOk X.N X.env.scope scope own) (hN : X.N.Nodup)
    (hfp : ∀ b ∈ fp, FpOk X pins H b ∧ b < s.heap.objs.size) (nc : ∀ y ∈ scope.names, y.2 ≠ .cell) (hA : A.handled = X.A.handled)
    (hF : A.frames = some (genEnv scope (cloFrom X.env.cells scope.names []) s.heap.objs.size code builtinsNs X.env :: X.stack))
    (hn : h5.Ns s.heap.objs.size m) (hk : ∀ b o, s.heap.get? b = some o → h5.get? b = some o) (ha : h5.get? a = some go) (haC : s.heap.objs.size < a) (hgo : ∀ v, go.data ≠ .cell v) (hb : AllBare gens5) :
    Inv (gblk X A s H (genEnv scope (cloFrom X.env.cells scope.names []) s.heap.objs.size code builtinsNs X.env) fp [(a, go)]) [] (L2.wipe σ (own.map (·.2))) H { s with heap := h5, gens := gens5, toks := tk } := by
  have hfree : ∀ y ∈ scope.names, y.2 = .free → ∃ c, X.env.cells.lookup y.1 = some c := fun y hy e => by
    rcases ok.free y hy e with k | k
    · exact I.ok.has _ (.inl k)
    · exact I.ok.has _ (.inr k)
  have cm : ∀ {y c}, (y, c) ∈ cloFrom X.env.cells scope.names [] → X.env.cells.lookup y = some c ∧ c < s.heap.objs.size := fun {y c} hm => by
    rcases cloFrom_mem hm with hm | ⟨h1, rfl⟩
    · cases hm
    · obtain ⟨c, hc⟩ := hfree _ h1 rfl
      rw [hc]
      obtain ⟨w, z⟩ := I.cell _ _ hc
      exact ⟨rfl, z.lt⟩
  have mem : ∀ {y c}, (cloFrom X.env.cells scope.names []).lookup y = some c → X.env.cells.lookup y = some c ∧ c < s.heap.objs.size := fun {y c} e => cm (PySem.mem_of_lookup e)
  have look : ∀ {y}, scope.names.lookup y = some .free → ∃ c, (cloFrom X.env.cells scope.names []).lookup y = some c ∧ X.env.cells.lookup y = some c := fun {y} hl => by
    have hy : (y, NameKind.free) ∈ scope.names := PySem.mem_of_lookup hl
    obtain ⟨c', e'⟩ := mem_lookup (cloFrom_has (cells := X.env.cells) (acc := []) hy)
    exact ⟨c', e', (mem e').1⟩
  have nofr : ∀ b, s.heap.objs.size ≤ b → b ∉ frs X.stack := fun b hb hm => by
    rcases List.mem_cons.mp (I.stkSub b hm) with z | z
    · have := I.lt
      rw [z] at hb
      exact absurd (Nat.lt_of_lt_of_le this hb) (Nat.lt_irrefl _)
    · exact I.nofs hb z
  refine ⟨⟨I.ok.mod, ok.kind, I.ok.glob, rfl, Nat.le_refl _, fun y z c e1 e2 => I.ok.inj y z c (mem e1).1 (mem e2).1, fun y hy => ?_, fun y c z e => (by cases z), fun h => hA.trans (I.ok.hd h), hF, .inr ⟨rfl, rfl⟩, fun b hb => ⟨Nat.ne_of_lt (hfp b hb).2, fun y c e z => ?_⟩,
      I.bs, Nat.le_trans I.ok.bsz I.sz, fun b o e hb => ?_, fun b hb z => ?_, I.stack, I.stkFree⟩,
    rfl, hb, Un.kept hk, ⟨m, hn, fun i y av e1 e2 e3 => ?_⟩, fun y c e => ?_, I.hok.fresh (Nat.le_refl _), fun y c e => I.freeC y c (mem e).1, fun p hp => ?_, I.hok.kept hk, by rw [wipe_length]; exact I.len⟩
  · rcases hy with hy | hy
    · exact absurd rfl (nc _ (PySem.mem_of_lookup (show scope.names.lookup y = some .cell from hy)))
    · obtain ⟨c, h1, _⟩ := look hy
      exact ⟨c, h1⟩
  · exact (hfp b hb).1.2.2.2.2.1 y c (mem e).1 z
  · rcases (hfp b hb).1.2.2.2.1 with z | z
    · exact I.ok.noex b o e z
    · exact absurd (Nat.lt_of_lt_of_le (Heap.lt_size e) (Nat.le_trans I.ok.bsz z)) (Nat.lt_irrefl _)
  · rcases List.mem_cons.mp (I.stkSub b z) with z | z
    · exact (hfp b hb).1.2.1 z
    · exact (hfp b hb).1.2.2.1 z
  · obtain ⟨e2, hne⟩ := wipe_some e2
    have hfr : scope.names.lookup y = some .free := by
      have no : ∀ k, scope.names.lookup y = some k → ¬ (k = .local ∨ k = .cell) := fun k hk hh => by
        rcases ok.own _ (PySem.mem_of_lookup hk) hh with e' | e'
        · obtain ⟨p, hp, hpy⟩ := List.mem_map.mp e'
          have e3 := ok.ix p hp
          have : p.1 = y := hpy
          rw [this] at e3
          exact hne (List.mem_map.mpr ⟨p, hp, nodup_ix hN e3 e1⟩)
        · exact e' (List.mem_of_getElem? e1)
      rcases (show Vis scope y from e3) with e3 | e3 | e3
      · exact absurd (.inl rfl) (no _ e3)
      · exact absurd (.inr rfl) (no _ e3)
      · exact e3
    obtain ⟨m0, _, hl⟩ := I.loc
    have hvis : Vis X.env.scope y := (ok.free _ (PySem.mem_of_lookup hfr) rfl).elim (fun k => .inr (.inl k)) (fun k => .inr (.inr k))
    obtain ⟨w, r, q⟩ := hl i y av e1 e2 hvis
    refine ⟨w, r, .inr ⟨.inr hfr, ?_⟩⟩
    obtain ⟨c, h1, h2⟩ := look hfr
    rcases q with ⟨k, _⟩ | ⟨_, c', e', z⟩
    · have k : X.env.scope.names.lookup y = some .local := k
      rcases ok.free _ (PySem.mem_of_lookup hfr) rfl with k' | k' <;> rw [show X.env.scope.names.lookup y = _ from k'] at k <;> cases k
    · rw [h2] at e'; cases e'
      exact ⟨c, h1, z.keeps hk⟩
  · obtain ⟨w, z⟩ := I.cell y c (mem e).1
    exact ⟨w, z.keeps hk⟩
  · have e : p = (a, go) := by simpa using hp
    subst e
    exact ⟨ha, I.hok.fresh (Nat.le_of_lt haC), Nat.ne_of_gt haC, nofr _ (Nat.le_of_lt haC), hgo⟩
end
/-! ### the generator's own loop -/
def gR (X : Cx) (σ : L2.St) (g : Nat) (Q : VK) (sa : Bool) : GenEnd := fun n s₀ r s₁ => r = .ok .next ∧ (g < s₁.gens.size ∧ ∃ H', Inv X [] σ H' s₁ ∧ Q (.bl (!sa)) H')
def gY (X : Cx) (g : Nat) (Q : VK) (sa : Bool) : Protocol := fun n s₀ v s kap => ∃ b : Bool, v = .bool b ∧ g < s.gens.size ∧ ∃ H' σ', Inv X [] σ' H' s ∧ (b = sa → Q (.bl sa) H') ∧
  (b ≠ sa → ∀ s'' : Shared, s''.heap = s.heap → s''.os = s.os → AllBare s''.gens → g < s''.gens.size → kap (.send .none) s'')
/-- a turn of the reading -/
def TurnG (J : It) (gT : TG) (te : TE) (vs : List Nat) (σ : L2.St) (Q : VK) (sa : Bool) (W : Nat → Nat → Hp → Prop) : Prop := ∀ i m H, W i m H →
  (J.stop i H ∧ Q (.bl (!sa)) H) ∨ (J.go i H ∧ ∃ Nx : Hp → Prop, (∀ H', Nx H' → ∃ m', m' < m ∧ W (i + 1) m' H') ∧ ∀ x H', J.yld i H x H' → gT x (L2.wipe σ vs) H' fun σ2 H2 => L2.wipe σ2 vs = L2.wipe σ vs ∧
    te σ2 H2 fun y H4 => ∃ b : Bool, y = .bl b ∧ (b = sa → Q (.bl sa) H4) ∧ (b ≠ sa → Nx H4))
theorem seg_gl {X : Cx} {A₁ : Around} {tg iter elt : Expr} {scope : Scope} {gpos : Pos} {it : Addr} {g : Nat} {fp : List Addr} {tn : Nat → Heap → Prop} {J : It} {W : Nat → Nat → Hp → Prop} {vs : List Nat} {σ : L2.St} {Q : VK} {sa : Bool} {gT : TG} {te : TE}
    (hA : X.A = A₁.over (.compLoop (.GeneratorExp elt [⟨tg, iter, [], 0⟩] scope gpos) 0 (.ref it) .none X.env) []) (hex : X.ex = fp) (hxe : X.xe = fun _ _ => False) (hc : X.calm = true) (T : Turn X.prog X.w X.K tg J fp it tn) (hco : X.env.scope.isCoroutine = false) (pg : PG X tg gT) (pe : PE X elt te)
    (nop : ∀ b ∈ fp, ∀ p ∈ X.pn, p.1 ≠ b)
    (turn : TurnG J gT te vs σ Q sa W) :
    ∀ (n m i : Nat) (s₀ s : Shared) (H' : Hp), m < n → Inv X [] (L2.wipe σ vs) H' s → tn i s.heap → (∀ b ∈ fp, H' b = none) → W i m H' → g < s.gens.size →
      Seg (model X.prog X.w) A₁ (gR X (L2.wipe σ vs) g Q sa) (gY X g Q sa) n s₀ (.compLoop (.GeneratorExp elt [⟨tg, iter, [], 0⟩] scope gpos) 0 (.ref it) .none X.env)
        ((model X.prog X.w).den (.compLoop (.GeneratorExp elt [⟨tg, iter, [], 0⟩] scope gpos) 0 (.ref it) .none X.env)) [] s := by
  have stat : ∀ {σ' : L2.St} {H' : Hp} {s' : Shared}, Inv X [] σ' H' s' → (∀ b ∈ fp, H' b = none) → ∀ b ∈ fp, FpOk X [] H' b := fun {σ' H' s'} I' hn b hb =>
    ⟨hn b hb, (I'.ok.exf b (by rw [hex]; exact hb)).1, I'.ok.exfs b (by rw [hex]; exact hb), .inl (by rw [hex]; exact hb), fun x c e => (I'.ok.exf b (by rw [hex]; exact hb)).2 x c e, fun p hp => nop b hb p (by simpa using hp)⟩
  intro n
  induction n with
  | zero => intro m i s₀ s H' hm; exact absurd hm (Nat.not_lt_zero _)
  | succ n ih =>
    intro m i s₀ s H5 hm I5 st5 n5 w5 hg
    show Seg _ A₁ _ _ (n + 1) s₀ _ ((compTurn (.GeneratorExp elt [⟨tg, iter, [], 0⟩] scope gpos) 0 (.ref it) .none X.env).onRaise (leaving X.env)) [] s
    rw [compTurn_gen, Sem.onRaise_eq_wrap]
    refine seg_bind_wrap (wpAny_standAt ?_)
    refine seg_bind_wrap ?_
    rw [← hA]
    rcases turn i m H5 w5 with ⟨stop, qq⟩ | ⟨go, Nx, hNx, step⟩
    · refine GenW.wpAny_gsz hg (thnF (T.done X rfl rfl rfl hc i [] s _ H5 (fun _ _ => False) I5 (stat I5 n5) st5 stop) fun r s6 ⟨hr, I6⟩ g6 => ?_)
      subst hr
      exact seg_end (.ok .next) ⟨rfl, g6, H5, I6, qq⟩
    · refine GenW.wpAny_gsz hg (thnF (T.item X rfl rfl rfl hc i [] s _ H5 (fun _ _ => False) I5 (stat I5 n5) st5 go) fun r s6 ⟨u, hr, h6⟩ g6 => ?_)
      subst hr
      refine seg_bind_wrap ?_
      rw [← hA]
      refine GenW.wpAny_gsz g6 (thnF h6 fun _ s7 ⟨x, H7, I7, r7, y7, st7, n7⟩ g7 => ?_)
      have I7' := I7.pinned (stat I7 n7) (T.obj _ _ st7)
      refine seg_bind_wrap ?_
      rw [← hA]
      have pg7 := pg.run _ s7 _ H7 x u _ I7' r7 (step x H7 y7)
      have pe7 := pe.run
      rw [hxe] at pg7 pe7
      refine GenW.wpAny_gsz g7 (thnF pg7 fun _ s8 ⟨σ8, H8, I8, hw8, q8⟩ g8 => ?_)
      refine seg_bind_wrap ?_
      simp only [List.forIn_nil]
      refine wpAny_pure ?_
      simp only [if_true]
      have hy : ∀ v, yieldOut X.env v = yieldValue v := fun v => by simp only [yieldOut, hco, Bool.false_eq_true, if_false]
      simp only [hy]
      rw [Sem.bind_eq_wrap', Sem.bind_eq_wrap', Sem.wrap_wrap, Sem.wrap_wrap]
      refine seg_wrap ?_
      rw [← hA]
      refine GenW.wpAny_gsz g8 (thnF (pe7 _ s8 σ8 H8 _ I8 q8) fun y s9 ⟨yv, H9, I9, r9, b, eb, q1, q2⟩ g9 => ?_)
      subst eb
      have ey : y = Value.bool b := r9
      subst ey
      refine seg_at (seg_yield rfl rfl rfl ⟨b, rfl, g9, H9, σ8, I9.unpinned, q1, fun hb s'' e1 e2 e3 e4 => ?_⟩)
      obtain ⟨m', hm', w'⟩ := hNx H9 (q2 hb)
      have pin' : ∀ b ∈ fp, ∀ o, s7.heap.get? b = some o → s9.heap.get? b = some o ∧ H9 b = none := fun b hb o e =>
        let z := I9.pin (b, o) (List.mem_append_right _ (List.mem_append_right _ (mem_pinsAt hb e)))
        ⟨z.1, z.2.1⟩
      have hl : (L2.wipe σ vs).length = σ8.length := by rw [← hw8, wipe_length]
      have I10 : Inv X [] (L2.wipe σ vs) H9 s'' := inv_same ((I9.unpinned (pins := [])).weak hl (fun j v e => by rw [← hw8] at e; exact (wipe_some e).1)) e1 e2 e3
      refine seg_again rfl (ih m' (i + 1) s'' s'' H9 (by omega) I10 (T.keep _ _ _ st7 fun b hb o e => by rw [e1]; exact (pin' b hb o e).1) (fun b hb => ?_) w' e4)
      obtain ⟨o, e, _⟩ := T.obj _ _ st7 b hb
      exact (pin' b hb o e).2
/-! ### woken by pyNext; the consumers -/
def GReady (P : Program) (w : World) (A₁ : Around) (R : GenEnd) (Y : Protocol) (a : Addr) (g n : Nat) (s : Shared) : Prop := s.heap.IsGen a g ∧ s.heap.NoLimit ∧ AllBare s.gens ∧ ∃ gs, s.gens[g]? = some gs ∧
  ∀ s'' : Shared, s''.heap = s.heap → s''.os = s.os → AllBare s''.gens → g < s''.gens.size → gs.Goes (model P w) A₁ R Y n (.send .none) s''
section
variable {X : Cx} {A : Around} {σb : L2.St} {g : Nat} {a : Addr} {go : Obj} {Q : VK} {sa : Bool}
theorem next_g {n : Nat} {s : Shared} {E : Value → Shared → Prop} {Qn : Option Value → Shared → Prop} (hh : A.handled = none) (hroom : A.depth < recursionLimit) (hpn : X.pn = [(a, go)]) (hgo : ∃ nm qn, go.cls = .type "generator" ∧ go.data = .fields #[.int g 0, nm, qn] ∧ go.slots = #[])
    (hr : GReady X.prog X.w A.in1 (gR X σb g Q sa) (gY X g Q sa) a g n s)
    (h1 : ∀ b s' n', b ≠ sa → n = n' + 1 → GReady X.prog X.w A.in1 (gR X σb g Q sa) (gY X g Q sa) a g n' s' → Qn (some (.bool b)) s')
    (h2 : ∀ s' H' σ', Inv X [] σ' H' s' → Q (.bl sa) H' → Qn (some (.bool sa)) s') (h3 : ∀ s' H' σ', Inv X [] σ' H' s' → Q (.bl (!sa)) H' → Qn none s') : wpAny (model X.prog X.w) A (pyNext (.ref a)) Qn E s := by
  obtain ⟨hg, hl, hb, gs, hgs, hgo2⟩ := hr
  have hgl : g < s.gens.size := (Array.getElem?_eq_some_iff.mp hgs).1
  refine wpAny_pyNext_genexpQ (P := fun n s₀ s₁ => g < s₁.gens.size ∧ ∃ H', Inv X [] σb H' s₁ ∧ Q (.bl (!sa)) H') hh hl hroom hg hgs (hgo2 _ rfl rfl (allBare_setGen hb rfl) (by rw [GenW.setGen_size]; exact hgl)) (fun v s₁ gs' hbare hv => ?_) (fun s₁ hp h' hk => ?_)
  · obtain ⟨b, rfl, hg1, H', σ', I, q1, q2⟩ := hv
    by_cases e : b = sa
    · subst e
      exact h2 _ H' σ' (inv_same I rfl rfl (allBare_setGen I.bare hbare)) (q1 rfl)
    · cases n with
      | zero => exact (q2 e s₁ rfl rfl I.bare hg1 : False).elim
      | succ m =>
        obtain ⟨nm, qn, z1, z2, z3⟩ := hgo
        refine h1 b _ m e rfl ⟨⟨go, nm, qn, (I.pin (a, go) (by rw [hpn]; simp)).1, z1, z2, z3⟩, I.nolimit, allBare_setGen I.bare hbare, gs', setGen_at hg1, fun s'' e1 e2 e3 e4 => q2 e s'' e1 e2 e3 e4⟩
  · obtain ⟨hg1, H', I, q⟩ := hp
    exact h3 _ H' σb (inv_same (I.kept (t' := s₁.toks) hk) rfl rfl (allBare_setGen I.bare rfl)) q
variable {R : Result → Shared → Prop}
theorem all_g (hh : A.handled = none) (hroom : A.depth < recursionLimit) (hpn : X.pn = [(a, go)]) (hgo : ∃ nm qn, go.cls = .type "generator" ∧ go.data = .fields #[.int g 0, nm, qn] ∧ go.slots = #[])
    (hR : ∀ b s' H' σ', Inv X [] σ' H' s' → Q (.bl b) H' → R (.ok (.ret (.bool b))) s') :
    ∀ (n : Nat) (s : Shared), GReady X.prog X.w A.in1.in1 (gR X σb g Q false) (gY X g Q false) a g n s → codeAny (model X.prog X.w) A (.builtin "all.loop" ⟨[.ref a], []⟩) R s := by
  intro n
  induction n with
  | zero =>
    intro s hr
    refine codeAny_builtin F.entry_all_loop ?_
    rw [Around.under_plainId F.plain_all_loop _]
    show wpAny _ A.in1 (pyNext (.ref a) >>= _) _ _ s
    refine wpAny_bind (next_g (A := A.in1) hh hroom hpn hgo hr (fun b s' n' _ z _ => (by cases z)) (fun s' H' σ' I q => ?_) fun s' H' σ' I q => ?_)
    · refine wpAny_bind (wpAny_holding (wpAny_truthy_bool ?_))
      refine wpAny_bind (wpAny_letGo ?_)
      simp only [Bool.false_eq_true, if_false]
      exact wpAny_bind (wpAny_rule (wpAny_pure (hR false _ H' σ' I q)))
    · exact wpAny_bind (wpAny_rule (wpAny_pure (hR true _ H' σ' I q)))
  | succ n ih =>
    intro s hr
    refine codeAny_builtin F.entry_all_loop ?_
    rw [Around.under_plainId F.plain_all_loop _]
    show wpAny _ A.in1 (pyNext (.ref a) >>= _) _ _ s
    refine wpAny_bind (next_g (A := A.in1) hh hroom hpn hgo hr (fun b s' n' hb z hr' => ?_) (fun s' H' σ' I q => ?_) fun s' H' σ' I q => ?_)
    · cases z
      have eb : b = true := by cases b; exact absurd rfl hb; rfl
      subst eb
      refine wpAny_bind (wpAny_holding (wpAny_truthy_bool ?_))
      refine wpAny_bind (wpAny_letGo ?_)
      simp only [if_true]
      exact wpAny_pure ⟨plainId_quiet F.plain_all_loop _, ih _ hr'⟩
    · refine wpAny_bind (wpAny_holding (wpAny_truthy_bool ?_))
      refine wpAny_bind (wpAny_letGo ?_)
      simp only [Bool.false_eq_true, if_false]
      exact wpAny_bind (wpAny_rule (wpAny_pure (hR false _ H' σ' I q)))
    · exact wpAny_bind (wpAny_rule (wpAny_pure (hR true _ H' σ' I q)))
theorem any_g (hh : A.handled = none) (hroom : A.depth < recursionLimit) (hpn : X.pn = [(a, go)]) (hgo : ∃ nm qn, go.cls = .type "generator" ∧ go.data = .fields #[.int g 0, nm, qn] ∧ go.slots = #[])
    (hR : ∀ b s' H' σ', Inv X [] σ' H' s' → Q (.bl b) H' → R (.ok (.ret (.bool b))) s') :
    ∀ (n : Nat) (s : Shared), GReady X.prog X.w A.in1.in1 (gR X σb g Q true) (gY X g Q true) a g n s → codeAny (model X.prog X.w) A (.builtin "any.loop" ⟨[.ref a], []⟩) R s := by
  intro n
  induction n with
  | zero =>
    intro s hr
    refine codeAny_builtin F.entry_any_loop ?_
    rw [Around.under_plainId F.plain_any_loop _]
    show wpAny _ A.in1 (pyNext (.ref a) >>= _) _ _ s
    refine wpAny_bind (next_g (A := A.in1) hh hroom hpn hgo hr (fun b s' n' _ z _ => (by cases z)) (fun s' H' σ' I q => ?_) fun s' H' σ' I q => ?_)
    · refine wpAny_bind (wpAny_holding (wpAny_truthy_bool ?_))
      refine wpAny_bind (wpAny_letGo ?_)
      simp only [if_true]
      exact wpAny_bind (wpAny_rule (wpAny_pure (hR true _ H' σ' I q)))
    · exact wpAny_bind (wpAny_rule (wpAny_pure (hR false _ H' σ' I q)))
  | succ n ih =>
    intro s hr
    refine codeAny_builtin F.entry_any_loop ?_
    rw [Around.under_plainId F.plain_any_loop _]
    show wpAny _ A.in1 (pyNext (.ref a) >>= _) _ _ s
    refine wpAny_bind (next_g (A := A.in1) hh hroom hpn hgo hr (fun b s' n' hb z hr' => ?_) (fun s' H' σ' I q => ?_) fun s' H' σ' I q => ?_)
    · cases z
      have eb : b = false := by cases b; rfl; exact absurd rfl hb
      subst eb
      refine wpAny_bind (wpAny_holding (wpAny_truthy_bool ?_))
      refine wpAny_bind (wpAny_letGo ?_)
      simp only [Bool.false_eq_true, if_false]
      exact wpAny_pure ⟨plainId_quiet F.plain_any_loop _, ih _ hr'⟩
    · refine wpAny_bind (wpAny_holding (wpAny_truthy_bool ?_))
      refine wpAny_bind (wpAny_letGo ?_)
      simp only [if_true]
      exact wpAny_bind (wpAny_rule (wpAny_pure (hR true _ H' σ' I q)))
    · exact wpAny_bind (wpAny_rule (wpAny_pure (hR false _ H' σ' I q)))
end
/-! ### made -/
theorem over_gen {A : Around} {elt : Expr} {gs : List Comprehension} {sc : Scope} {p : Pos} {v u : Value} {env : Env} : A.over (.compLoop (.GeneratorExp elt gs sc p) 0 v u env) [] = A.deeper env := by
  first
    | rfl
    | (obtain ⟨hd, d, fr, gs, u⟩ := A; simp [Around.over, Around.deeper, marksOver, frameCount, unitsOf, envsOf, guardsOf, pushEnvs, pushGuards, Code.envs, Code.env?, Code.isFrame, Code.guards, Code.isGuard, Code.weight, Code.frames, Code.isCreation, Code.isCaller, Code.cUnits])
theorem seg_gs {X : Cx} {A₁ : Around} {tg iter elt : Expr} {scope : Scope} {gpos : Pos} {it : Addr} {g : Nat} {fp : List Addr} {tn : Nat → Heap → Prop} {J : It} {W : Nat → Nat → Hp → Prop} {vs : List Nat} {σ : L2.St} {Q : VK} {sa : Bool} {gT : TG} {te : TE}
    (hA : X.A = A₁.over (.compLoop (.GeneratorExp elt [⟨tg, iter, [], 0⟩] scope gpos) 0 (.ref it) .none X.env) []) (hex : X.ex = fp) (hxe : X.xe = fun _ _ => False) (hc : X.calm = true) (T : Turn X.prog X.w X.K tg J fp it tn) (hco : X.env.scope.isCoroutine = false) (pg : PG X tg gT) (pe : PE X elt te)
    (nop : ∀ b ∈ fp, ∀ p ∈ X.pn, p.1 ≠ b)
    (turn : TurnG J gT te vs σ Q sa W) (n m : Nat) (s : Shared) (H' : Hp) (hm : m < n) (I : Inv X [] (L2.wipe σ vs) H' s) (st : tn 0 s.heap) (hn : ∀ b ∈ fp, H' b = none) (w : W 0 m H') (hg : g < s.gens.size) :
      Seg (model X.prog X.w) A₁ (gR X (L2.wipe σ vs) g Q sa) (gY X g Q sa) n s (.compStart (.GeneratorExp elt [⟨tg, iter, [], 0⟩] scope gpos) 0 (.ref it) .none X.env)
        ((model X.prog X.w).den (.compStart (.GeneratorExp elt [⟨tg, iter, [], 0⟩] scope gpos) 0 (.ref it) .none X.env)) [] s := by
  have loop := seg_gl hA hex hxe hc T hco pg pe nop turn n m 0 s s H' hm I st hn w hg
  show Seg _ A₁ _ _ _ s _ ((compStart (.GeneratorExp elt [⟨tg, iter, [], 0⟩] scope gpos) 0 (.ref it) .none X.env).onRaise (leaving X.env)) [] s
  unfold compStart
  rw [Sem.onRaise_eq_wrap]
  show Seg _ A₁ _ _ _ s _ ((ask >>= _).wrap _ _ _ _) [] s
  refine seg_bind_wrap (wpAny_askSetting ?_)
  split
  · exact seg_again rfl loop
  · first
      | exact seg_bind_wrap (wpAny_rule (seg_bind_wrap (wpAny_standAt (seg_bind_wrap (T.self _ 0 s _ _ st (seg_again rfl loop))))))
      | (refine seg_bind_wrap (wpAny_rule ?_); show Seg _ A₁ _ _ _ s _ ((standAt iter.pos >>= _).wrap _ _ _ _) [] s; exact seg_bind_wrap (wpAny_standAt (seg_bind_wrap (T.self _ 0 s _ _ st (seg_again rfl loop)))))

def tAG (P : Addr) (sa : Bool) (wi : TI) (gT : TG) (te : TE) (vs : List Nat) : TE := fun σ H Q => wi σ H fun J H1 => TabG H1 P ∧ ∀ H2, Tabbed P H1 H2 → ∃ W : Nat → Nat → Hp → Prop, (∃ m, W 0 m H2) ∧ TurnG J gT te vs σ Q sa W
section
variable {X : Cx} {pins : List (Addr × Obj)} {σ : L2.St} {H : Hp} {s : Shared}
theorem gen_core {c P : Addr} {elt tg iter : Expr} {gpos : Pos} {scope : Scope} {own : List (Str × Nat)} {sa : Bool} {wi : TI} {gT : TG} {te : TE} {k : Nat} {Q : VK} {Q' : Value → Shared → Prop}
    (hr : Room (k + 1) X.A) (hc : X.calm = true) (hN : X.N.Nodup) (TB : TabB X.base X.mg c P) (hcode : X.env.code = .ref c) (ok : BlkOk X.N X.env.scope scope own) (nc : ∀ y ∈ scope.names, y.2 ≠ .cell) (hco : scope.isCoroutine = false) (dot : scope.names.lookup (".0" : Str) = some NameKind.local)
    (hi : PI X tg iter wi) (hs : ∀ v, genFold iter X.env v = pure v)
    (hg : ∀ (A : Around) (s : Shared) (H : Hp) (C : Addr) (code : Value) (fp : List Addr) (pn : List (Addr × Obj)), Room k A → PG (gblk X A s H (genEnv scope (cloFrom X.env.cells scope.names []) C code builtinsNs X.env) fp pn) tg gT)
    (he : ∀ (A : Around) (s : Shared) (H : Hp) (C : Addr) (code : Value) (fp : List Addr) (pn : List (Addr × Obj)), Room k A → PE (gblk X A s H (genEnv scope (cloFrom X.env.cells scope.names []) C code builtinsNs X.env) fp pn) elt te)
    (I : Inv X pins σ H s) (h : tAG P sa wi gT te (own.map (·.2)) σ H Q)
    (hQ : ∀ (Xb : Cx) (σb : L2.St) (a : Addr) (g : Nat) (go : Obj) (n : Nat) (s5 : Shared), Xb.prog = X.prog → Xb.w = X.w → Xb.pn = [(a, go)] → (∃ nm qn, go.cls = .type "generator" ∧ go.data = .fields #[.int g 0, nm, qn] ∧ go.slots = #[]) →
      GReady X.prog X.w X.A.in1.in1 (gR Xb σb g Q sa) (gY Xb g Q sa) a g n s5 → (∀ s' H' σ', Inv Xb [] σ' H' s' → Inv X pins σ H' s') → Q' (.ref a) s5) :
    wpAny (model X.prog X.w) X.A (eval (.GeneratorExp elt [⟨tg, iter, [], 0⟩] scope gpos) X.env) Q' X.xe s := by
  have hfree : ∀ y ∈ scope.names, y.2 = .free → ∃ c, X.env.cells.lookup y.1 = some c := fun y hy e => by
    rcases ok.free y hy e with k | k
    · exact I.ok.has _ (.inl k)
    · exact I.ok.has _ (.inr k)
  refine wpAny_GeneratorExp_make hco (closure_ok hfree) nc dot ok.kind (by have := hr.dp; omega) (thn (hi.run pins s σ H _ I h) fun xv s1 hx => thn hx fun itv s2 h2 => ?_) hs
  obtain ⟨it, fp, tn, J, H2, e, I2, T, st2, f2, hTab, q⟩ := h2
  subst e
  obtain ⟨ps, hP, ht⟩ := hTab
  have hPs : s2.heap.get? P = some { cls := .none, data := .fields ps } := I2.hok P _ hP
  have cd : PySem.W.CodeHd s2.heap c P := TB.code.keeps fun b u e => I2.bk b u e
  refine ⟨I2.nolimit, ?_⟩
  have cont : ∀ (code : Value) (h3 : Heap) (tk : Nat) (ps' : Array Value), Heap.ExtBut P s2.heap h3 → s2.heap.objs.size ≤ h3.objs.size → h3.get? P = some { cls := .none, data := .fields ps' } → (∃ more, ps' = ps ++ more) → TriplesOk ps'.toList →
      wpAny (model X.prog X.w) X.A (builtinsFor X.env.globals X.env.builtins) (fun bi s₄ =>
        ∀ h', h'.Ns s₄.heap.objs.size (fun y => if y = ".0" then some (.ref it) else none) → Heap.SameBut s₄.heap.objs.size (s₄.heap.push { cls := .type "frame", data := .dict #[] }) h' →
          Q' (.ref h'.objs.size) { s₄ with
            gens := s₄.gens.push (.fresh (.compStart (.GeneratorExp elt [⟨tg, iter, [], 0⟩] scope gpos) 0 (.ref it) .none (genEnv scope (cloFrom X.env.cells scope.names []) s₄.heap.objs.size code bi X.env))),
            toks := s₄.toks + 1 + 1 + 1,
            heap := h'.push { cls := .type "generator", data := .fields #[.int s₄.gens.size 0, .str "<genexpr>" (s₄.toks + 1), .str (X.env.qual ++ "<genexpr>") (s₄.toks + 1 + 1)] } }) X.xe { s2 with heap := h3, toks := tk } := by
    intro code h3 tk ps' hx hsz hP3 hmore ht3
    obtain ⟨bm, ob, e1, e2, e3, e4, e5, e6, e7, e8⟩ := TB.bm
    have keep3 : ∀ b u, b ≠ P → s2.heap.get? b = some u → h3.get? b = some u := fun b u hb e => hx b u hb e
    refine wpAny_builtinsFor (m := X.mg) (by rw [I2.ok.glob]; exact (I2.mod.glob.keeps I2.bk).extBut hx TB.gP) e1 e2 (keep3 _ _ e4 (I2.bk _ _ e5)) e6 e7 e8 ?_
    intro h' hn' hs'
    obtain ⟨more, em⟩ := hmore
    have I3 := inv_tab (more := more) (h' := h3) (g' := s2.gens) (d' := s2.drawn) (t' := tk) I2 hP keep3 (by rw [← em]; exact hP3) I2.bare
    have hT3 : Tabbed P H2 (upd H2 P (.tbl (ps ++ more))) := ⟨⟨ps ++ more, upd_same, by rw [← em]; exact ht3⟩, fun b hb => upd_ne hb⟩
    obtain ⟨W, ⟨m0, w0⟩, turn⟩ := q _ hT3
    generalize hH3 : upd H2 P (.tbl (ps ++ more)) = H3 at I3 w0 hT3
    have szf : ∀ b ∈ fp, b < s2.heap.objs.size := fun b hb => by
      obtain ⟨o, e, _⟩ := T.obj _ _ st2 b hb
      exact Heap.lt_size e
    have fneP : ∀ b ∈ fp, b ≠ P := fun b hb => ne_of_none_left (f2 b hb).1 hP
    have f3 : ∀ b ∈ fp, FpOk X pins H3 b ∧ b < h3.objs.size := fun b hb => by
      refine ⟨⟨?_, (f2 b hb).2⟩, Nat.lt_of_lt_of_le (szf b hb) hsz⟩
      rw [← hH3, upd_ne (fneP b hb)]
      exact (f2 b hb).1
    have hsz' : h'.objs.size = h3.objs.size + 1 := by rw [hs'.1, Heap.size_push]
    have keep5 : ∀ (o5 : Obj) b o, h3.get? b = some o → (h'.push o5).get? b = some o := fun o5 b o e => Heap.get?_push_of_some _ (hs'.extBut b o (Nat.ne_of_lt (Heap.lt_size e)) (Heap.get?_push_of_some _ e))
    have st5 : ∀ (o5 : Obj), tn 0 (h'.push o5) := fun o5 => T.keep _ _ _ st2 fun b hb o e => keep5 o5 b o (keep3 b o (fneP b hb) e)
    have hroom : Room k (X.A.in1.in1.deeper (genEnv scope (cloFrom X.env.cells scope.names []) h3.objs.size code builtinsNs X.env)) := ⟨hr.hd, by have := hr.dp; show X.A.depth + 1 + 3 * k + 5 < _; omega, by have := hr.un; show X.A.units + 1 + 1 + 3 + 16 * k + 200 < _; omega⟩
    generalize hgo : ({ cls := .type "generator", data := .fields #[.int s2.gens.size 0, .str "<genexpr>" (tk + 1), .str (X.env.qual ++ "<genexpr>") (tk + 1 + 1)] } : Obj) = go
    have hfr : go.isFreed = false := by rw [← hgo]; rfl
    have hgd : ∃ nm qn, go.cls = .type "generator" ∧ go.data = .fields #[.int s2.gens.size 0, nm, qn] ∧ go.slots = #[] := by rw [← hgo]; exact ⟨_, _, rfl, rfl, rfl⟩
    have I5 := gen_start (A := X.A.in1.in1.deeper (genEnv scope (cloFrom X.env.cells scope.names []) h3.objs.size code builtinsNs X.env)) (code := code) (a := h'.objs.size) (go := go) (h5 := h'.push go) (tk := tk + 1 + 1 + 1)
      (gens5 := s2.gens.push (.fresh (.compStart (.GeneratorExp elt [⟨tg, iter, [], 0⟩] scope gpos) 0 (.ref it) .none (genEnv scope (cloFrom X.env.cells scope.names []) h3.objs.size code builtinsNs X.env))))
      I3 ok hN f3 nc rfl (Around.frames_deeper (A := X.A.in1.in1) I.ok.frames) (hn'.push _) (keep5 go) (Heap.get?_push_size _ hfr) (show h3.objs.size < h'.objs.size by rw [hsz']; exact Nat.lt_succ_self _) (fun v e => by obtain ⟨_, _, _, z, _⟩ := hgd; rw [z] at e; cases e) (I2.bare.push rfl)
    refine hQ (gblk X (X.A.in1.in1.deeper (genEnv scope (cloFrom X.env.cells scope.names []) h3.objs.size code builtinsNs X.env)) { s2 with heap := h3, toks := tk } H3 (genEnv scope (cloFrom X.env.cells scope.names []) h3.objs.size code builtinsNs X.env) fp [(h'.objs.size, go)])
      (L2.wipe σ (own.map (·.2))) h'.objs.size s2.gens.size go (m0 + 1) _ rfl rfl rfl hgd ⟨?_, I5.nolimit, I5.bare, _, Array.getElem?_push_size .., fun s'' z1 z2 z3 z4 => ⟨rfl, ?_⟩⟩ fun s' H' σ' I6 => ?_
    · obtain ⟨nm, qn, z1, z2, z3⟩ := hgd
      exact ⟨go, nm, qn, Heap.get?_push_size _ hfr, z1, z2, z3⟩
    · refine seg_gs (X := gblk X (X.A.in1.in1.deeper (genEnv scope (cloFrom X.env.cells scope.names []) h3.objs.size code builtinsNs X.env)) { s2 with heap := h3, toks := tk } H3 (genEnv scope (cloFrom X.env.cells scope.names []) h3.objs.size code builtinsNs X.env) fp [(h'.objs.size, go)]) (tn := tn) (J := J) (W := W) (gT := gT) (te := te) over_gen.symm rfl rfl hc T hco (hg _ _ _ _ _ _ _ hroom) (he _ _ _ _ _ _ _ hroom) (fun b hb p hp => ?_) turn (m0 + 1) m0 s'' H3 (Nat.lt_succ_self _) (inv_same I5 z1 z2 z3) (by rw [z1]; exact st5 go) (fun b hb => (f3 b hb).1.1) w0 z4
      have e : p = (h'.objs.size, go) := by simpa using hp
      subst e
      have h1 : b < h'.objs.size := by rw [hsz']; exact Nat.lt_succ_of_lt (f3 b hb).2
      exact Nat.ne_of_gt h1
    · exact I3.call' (ch := fp) I6.os I6.base I6.hok I6.bare fun b hb => ⟨(f3 b hb).1.2.2.2.1, (f3 b hb).1.2.1, (f3 b hb).1.2.2.2.2.1, (f3 b hb).1.2.2.2.2.2⟩
  cases hf : codeAmong gpos ps.toList with
  | none =>
    refine wpAny_genexprCodeX hcode (cd.code hPs ht) (cd.tab hPs) hf fun c' h' tk hx hge hlt hco' _ htab' _ => ?_
    obtain ⟨o1, vs, f1, tf, fl, tg, inF, tx, tt, op, _, _, _, _, _, _, _, _, _, htr, _⟩ := hco'
    exact cont _ h' tk _ hx (Nat.le_trans hge (Nat.le_of_lt hlt)) htab'.2 ⟨_, rfl⟩ htr
  | some cv =>
    refine wpAny_genexprCode_hit hcode (cd.code hPs ht) hf ?_
    exact cont cv s2.heap s2.toks ps (Heap.ExtBut.refl _ _) (Nat.le_refl _) hPs ⟨#[], by simp⟩ ht
theorem pe_ag {nm : Str} {c P : Addr} {elt tg iter : Expr} {p pos gpos : Pos} {scope : Scope} {own : List (Str × Nat)} {sa : Bool} {wi : TI} {gT : TG} {te : TE} {k : Nat}
    (hr : Room (k + 1) X.A) (hc : X.calm = true) (hN : X.N.Nodup) (TB : TabB X.base X.mg c P) (hcode : X.env.code = .ref c) (ok : BlkOk X.N X.env.scope scope own) (nc : ∀ y ∈ scope.names, y.2 ≠ .cell) (hco : scope.isCoroutine = false) (dot : scope.names.lookup (".0" : Str) = some NameKind.local)
    (hi : PI X tg iter wi) (hs : ∀ v, genFold iter X.env v = pure v)
    (hg : ∀ (A : Around) (s : Shared) (H : Hp) (C : Addr) (code : Value) (fp : List Addr) (pn : List (Addr × Obj)), Room k A → PG (gblk X A s H (genEnv scope (cloFrom X.env.cells scope.names []) C code builtinsNs X.env) fp pn) tg gT)
    (he : ∀ (A : Around) (s : Shared) (H : Hp) (C : Addr) (code : Value) (fp : List Addr) (pn : List (Addr × Obj)), Room k A → PE (gblk X A s H (genEnv scope (cloFrom X.env.cells scope.names []) C code builtinsNs X.env) fp pn) elt te)
    (hx : Gl X nm) (hm : X.mg nm = none) (hw : (nm = "all" ∧ sa = false) ∨ (nm = "any" ∧ sa = true))
    (hst : starEach [.GeneratorExp elt [⟨tg, iter, [], 0⟩] scope gpos] X.env = (false, eval (.GeneratorExp elt [⟨tg, iter, [], 0⟩] scope gpos) X.env) :: starEach [] X.env := by rfl) :
    PE X (.Call (.Name nm p) [.GeneratorExp elt [⟨tg, iter, [], 0⟩] scope gpos] [] pos) (tAG P sa wi gT te (own.map (·.2))) := by
  refine ⟨fun pins s σ H Q I h => ?_⟩
  rcases hw with ⟨rfl, rfl⟩ | ⟨rfl, rfl⟩
  · refine wpAny_Call_Name_kw (ld_blt I hx hm boot_all ?_)
    refine PyProof.Rows.callWith_builtin1 ?_ hst (by rfl)
    rw [hst]
    show wpAny _ _ (spliced ((false, eval (.GeneratorExp elt [⟨tg, iter, [], 0⟩] scope gpos) X.env) :: backTo pos (starEach [] X.env))) _ _ s
    refine Calls.spliced_cons (gen_core hr hc hN TB hcode ok nc hco dot hi hs hg he I h fun Xb σb a g go n s5 q1 q2 hpn hgo hG hI => ?_)
    refine Calls.spliced_nil ?_
    refine call_function_tree F.kind_all F.plain_all F.entry_all (F.args_all1 _) ?_
    unfold Builtin.«all»
    refine wpAny_bind (m := oneArg "all" _) (wpAny_pure ?_)
    refine wpAny_bind (wpAny_pyIter_gen hG.1 ?_)
    rw [← q1, ← q2] at hG ⊢
    exact wpAny_pure ⟨plainId_quiet F.plain_all_loop _, all_g (X := Xb) hr.hd (by have := hr.dp; omega) hpn hgo (fun b s' H' σ' I' q => ⟨.bl b, H', hI s' H' σ' I', rfl, q⟩) n s5 hG⟩
  · refine wpAny_Call_Name_kw (ld_blt I hx hm boot_any ?_)
    refine PyProof.Rows.callWith_builtin1 ?_ hst (by rfl)
    rw [hst]
    show wpAny _ _ (spliced ((false, eval (.GeneratorExp elt [⟨tg, iter, [], 0⟩] scope gpos) X.env) :: backTo pos (starEach [] X.env))) _ _ s
    refine Calls.spliced_cons (gen_core hr hc hN TB hcode ok nc hco dot hi hs hg he I h fun Xb σb a g go n s5 q1 q2 hpn hgo hG hI => ?_)
    refine Calls.spliced_nil ?_
    refine call_function_tree F.kind_any F.plain_any F.entry_any (F.args_any1 _) ?_
    unfold Builtin.«any»
    refine wpAny_bind (m := oneArg "any" _) (wpAny_pure ?_)
    refine wpAny_bind (wpAny_pyIter_gen hG.1 ?_)
    rw [← q1, ← q2] at hG ⊢
    exact wpAny_pure ⟨plainId_quiet F.plain_any_loop _, any_g (X := Xb) hr.hd (by have := hr.dp; omega) hpn hgo (fun b s' H' σ' I' q => ⟨.bl b, H', hI s' H' σ' I', rfl, q⟩) n s5 hG⟩
end
end Wp

set_option Elab.async false
set_option linter.all false
set_option maxRecDepth 100000
set_option maxHeartbeats 1000000
/-! all, any over trees; the end of a law whose defs hold generator expressions -/
namespace Wp
open PySem PySem.Spec PyProof.Rows L2 GxR
theorem tabbed_ext {P : Addr} {H1 H2 : Hp} (h : TabG H1 P) (t : Tabbed P H1 H2) : Ext H1 H2 := by
  obtain ⟨ps, e, ht⟩ := h
  refine ⟨fun b xs q => ?_, fun b o u q => ?_, fun b ⟨qs, q, z⟩ => ?_⟩
  · rw [t.2 b (fun z => by rw [z, e] at q; cases q)]; exact q
  · rw [t.2 b (fun z => by rw [z, e] at q; cases q)]; exact q
  · by_cases hb : b = P
    · rw [hb]; exact t.1
    · exact ⟨qs, by rw [t.2 b hb]; exact q, z⟩
theorem tabbed_st {K : PySem.W.Frag} {S : Sta} {P : Addr} {H1 H2 : Hp} (h : TabG H1 P) (t : Tabbed P H1 H2) (s : St K S H1) : St K S H2 :=
  s.keep (tabbed_ext h t) fun a o q => t.2 a fun z => by
    obtain ⟨ps, e, _⟩ := h
    obtain ⟨u, hu, hs⟩ := s.has q
    rw [z, e] at hu
    cases hu
    exact hs
section
variable {B : Hp} {X : Cx}
def allW (g : WG) (te : WE) (stb : Sta → Prop) (σ : Sl) (Q : T → Sta → Prop) : List T → Sta → Prop
  | [], S => stb S ∧ Q (.bl true) S
  | x :: xs, S => stb S ∧ g x σ S fun σ2 S2 => te σ2 S2 fun y S3 => match y with
    | .bl b => wif b (allW g te stb σ Q xs S3) (Q (.bl false) S3)
    | _ => False
def anyW (g : WG) (te : WE) (stb : Sta → Prop) (σ : Sl) (Q : T → Sta → Prop) : List T → Sta → Prop
  | [], S => stb S ∧ Q (.bl false) S
  | x :: xs, S => stb S ∧ g x σ S fun σ2 S2 => te σ2 S2 fun y S3 => match y with
    | .bl b => wif b (Q (.bl true) S3) (anyW g te stb σ Q xs S3)
    | _ => False
def agW (sa : Bool) : WG → WE → (Sta → Prop) → Sl → (T → Sta → Prop) → List T → Sta → Prop := match sa with
  | false => allW
  | true => anyW
def wAll (wi : WI) (g : WG) (te : WE) (vs : List Nat) (σ : Sl) (S : Sta) (Q : T → Sta → Prop) : Prop := wi σ S fun xs stb S1 => allW g te stb (wipeT σ vs) Q xs S1
def wAny (wi : WI) (g : WG) (te : WE) (vs : List Nat) (σ : Sl) (S : Sta) (Q : T → Sta → Prop) : Prop := wi σ S fun xs stb S1 => anyW g te stb (wipeT σ vs) Q xs S1
def wAg (sa : Bool) (wi : WI) (g : WG) (te : WE) (vs : List Nat) (σ : Sl) (S : Sta) (Q : T → Sta → Prop) : Prop := wi σ S fun xs stb S1 => agW sa g te stb (wipeT σ vs) Q xs S1
theorem agW_stb {sa : Bool} {g : WG} {te : WE} {stb : Sta → Prop} {σ : Sl} {Q : T → Sta → Prop} {xs : List T} {S : Sta} (h : agW sa g te stb σ Q xs S) : stb S := by
  cases sa <;> cases xs <;> exact h.1
theorem agW_nil {sa : Bool} {g : WG} {te : WE} {stb : Sta → Prop} {σ : Sl} {Q : T → Sta → Prop} {S : Sta} (h : agW sa g te stb σ Q [] S) : Q (.bl (!sa)) S := by
  cases sa <;> exact h.2
theorem agW_cons {sa : Bool} {g : WG} {te : WE} {stb : Sta → Prop} {σ : Sl} {Q : T → Sta → Prop} {x : T} {xs : List T} {S : Sta} (h : agW sa g te stb σ Q (x :: xs) S) :
    ∃ F : Bool → Sta → Prop, (∀ b S3, F b S3 → (b = sa → Q (.bl sa) S3) ∧ (b ≠ sa → agW sa g te stb σ Q xs S3)) ∧ g x σ S fun σ2 S2 => te σ2 S2 fun y S3 => match y with
      | .bl b => F b S3
      | _ => False := by
  cases sa with
  | false => exact ⟨fun b S3 => wif b (allW g te stb σ Q xs S3) (Q (.bl false) S3), fun b S3 z => by cases b <;> exact ⟨fun e => (by first | exact wt z | exact wff z | cases e), fun e => (by first | exact wt z | exact wff z | exact absurd rfl e)⟩, h.2⟩
  | true => exact ⟨fun b S3 => wif b (Q (.bl true) S3) (anyW g te stb σ Q xs S3), fun b S3 z => by cases b <;> exact ⟨fun e => (by first | exact wt z | exact wff z | cases e), fun e => (by first | exact wt z | exact wff z | exact absurd rfl e)⟩, h.2⟩
theorem wipe_wipe (σ : L2.St) (vs : List Nat) : L2.wipe (L2.wipe σ vs) vs = L2.wipe σ vs := by
  have key : ∀ (us ws : List Nat) (τ : L2.St), (∀ i ∈ us, i ∈ ws) → L2.wipe (L2.wipe τ ws) us = L2.wipe τ ws := fun us => by
    induction us with
    | nil => intro ws τ _; rfl
    | cons u us ih =>
      intro ws τ hu
      show (L2.wipe (L2.wipe τ ws) us).set u none = L2.wipe τ ws
      rw [ih ws τ fun i hi => hu i (List.mem_cons_of_mem _ hi)]
      have hmem := hu u List.mem_cons_self
      have set_none : ∀ (ws : List Nat), u ∈ ws → (L2.wipe τ ws).set u none = L2.wipe τ ws := fun ws => by
        induction ws with
        | nil => intro h; cases h
        | cons w ws ih2 =>
          intro h
          show ((L2.wipe τ ws).set w none).set u none = (L2.wipe τ ws).set w none
          by_cases hw : u = w
          · subst hw; rw [List.set_set]
          · rw [List.set_comm _ _ (fun z => hw z.symm), ih2 ((List.mem_cons.mp h).resolve_left hw)]
      exact set_none ws hmem
  exact key vs vs σ fun i hi => hi
theorem le_ag {P : Addr} {sa : Bool} {wi : WI} {g : WG} {te : WE} {vs : List Nat} {σ : L2.St} {H : Hp} {Q : VK} (hB : TabG B P) (h : LE B X (wAg sa wi g te vs) σ H Q) : tAG P sa (LI B X wi) (LG X vs g) (LE B X te) vs σ H Q := by
  obtain ⟨st, S, Q0, he, hr, hs, h, im⟩ := h
  refine ⟨st, S, _, he, hr, hs, h, fun xs stb S1 h1 H1 e1 s1 J yl => ?_⟩
  have hP1 : TabG H1 P := (he.trans e1).tabs P hB
  refine ⟨hP1, fun HT hT => ?_⟩
  have eT := tabbed_ext hP1 hT
  refine ⟨fun i m H' => m = xs.length - i ∧ i ≤ xs.length ∧ ∃ S', Ext H1 H' ∧ St X.K S' H' ∧ agW sa g te stb (wipeT st vs) Q0 (xs.drop i) S', ⟨xs.length, by omega, Nat.zero_le _, _, eT, tabbed_st hP1 hT s1, h1⟩, fun i m H2 hW => ?_⟩
  obtain ⟨hm, hi, S2, e2, s2, h2⟩ := hW
  obtain ⟨y1, y2, y3⟩ := yl i S2 H2 e2 s2 (agW_stb h2)
  by_cases hlt : i < xs.length
  · refine .inr ⟨y1 hlt, fun H' => ∃ S', Ext H1 H' ∧ St X.K S' H' ∧ agW sa g te stb (wipeT st vs) Q0 (xs.drop (i + 1)) S', fun H' q => ⟨m - 1, by omega, by omega, by omega, q⟩, fun x H3 hy => ?_⟩
    obtain ⟨e3, s3, sl3, t, et, rt⟩ := y3 x H3 hy hlt
    have r3 := sl3 _ _ (((hr.mono e1).mono e2).wipe vs)
    rw [List.drop_eq_getElem_cons hlt] at h2
    have et' : xs[i] = t := by rw [List.getElem?_eq_getElem hlt] at et; exact Option.some.inj et
    rw [et'] at h2
    obtain ⟨F, hF, h2⟩ := agW_cons h2
    refine ⟨t, wipeT st vs, S2, _, rt, r3, s3, h2, fun st4 S4 h4 H4 σ4 e4 s4 r4 w4 => ⟨w4.trans (wipe_wipe σ vs), ?_⟩⟩
    have eb : Ext H1 H4 := e2.trans (e3.trans e4)
    refine ⟨st4, S4, _, he.trans (e1.trans eb), r4, s4, h4, fun y S6 h6 H6 v6 e6 s6 r6 => ?_⟩
    cases y with
    | bl b =>
      cases r6
      have z := hF b S6 h6
      exact ⟨b, rfl, fun hb => im _ _ (z.1 hb) H6 _ (e1.trans (eb.trans e6)) s6 (.bl _), fun hb => ⟨S6, eb.trans e6, s6, z.2 hb⟩⟩
    | _ => exact h6.elim
  · have ei : i = xs.length := by omega
    subst ei
    rw [List.drop_length] at h2
    exact .inl ⟨y2 (Nat.le_refl _), im _ _ (agW_nil h2) H2 _ (e1.trans e2) s2 (.bl _)⟩
/-- the table of a def with a generator expression -/
structure Tab1 (base : Heap) (mg : Str → Option Value) (tl : List Addr) (fd : FuncData) (c P : Addr) : Prop where
  code : fd.code = .ref c
  tab : TabB base mg c P
  mem : P ∈ tl
theorem j_ag {nm : Str} {c P : Addr} {elt tg iter : Expr} {p pos gpos : Pos} {scope : Scope} {own : List (Str × Nat)} {sa : Bool} {wi : WI} {g : WG} {te : WE} {k : Nat}
    (hr : Room (k + 1) X.A) (hc : X.calm = true) (hN : X.N.Nodup) (TB : TabB X.base X.mg c P) (hcode : X.env.code = .ref c) (hB : TabG B P) (ok : BlkOk X.N X.env.scope scope own) (nc : ∀ y ∈ scope.names, y.2 ≠ .cell) (hco : scope.isCoroutine = false) (dot : scope.names.lookup (".0" : Str) = some NameKind.local)
    (hi : JI B X tg iter wi) (hs : ∀ v, genFold iter X.env v = pure v)
    (hg : ∀ (A : Around) (s : Shared) (H : Hp) (C : Addr) (code : Value) (fp : List Addr) (pn : List (Addr × Obj)), Room k A → JG (gblk X A s H (genEnv scope (cloFrom X.env.cells scope.names []) C code builtinsNs X.env) fp pn) tg (own.map (·.2)) g)
    (he : ∀ (A : Around) (s : Shared) (H : Hp) (C : Addr) (code : Value) (fp : List Addr) (pn : List (Addr × Obj)), Room k A → JE B (gblk X A s H (genEnv scope (cloFrom X.env.cells scope.names []) C code builtinsNs X.env) fp pn) elt te)
    (hx : Gl X nm) (hm : X.mg nm = none) (hw : (nm = "all" ∧ sa = false) ∨ (nm = "any" ∧ sa = true))
    (hst : starEach [.GeneratorExp elt [⟨tg, iter, [], 0⟩] scope gpos] X.env = (false, eval (.GeneratorExp elt [⟨tg, iter, [], 0⟩] scope gpos) X.env) :: starEach [] X.env := by rfl) :
    JE B X (.Call (.Name nm p) [.GeneratorExp elt [⟨tg, iter, [], 0⟩] scope gpos] [] pos) (wAg sa wi g te (own.map (·.2))) :=
  pe_imp (pe_ag (gT := LG X (own.map fun (p : Str × Nat) => p.2) g) (te := LE B X te) hr hc hN TB hcode ok nc hco dot hi hs (fun A s H C code fp pn h => hg A s H C code fp pn h) (fun A s H C code fp pn h => he A s H C code fp pn h) hx hm hw hst) fun σ H Q h => le_ag hB h
theorem j_all {c P : Addr} {fd : FuncData} {tl : List Addr} {elt tg iter : Expr} {p pos gpos : Pos} {scope : Scope} {own : List (Str × Nat)} {wi : WI} {g : WG} {te : WE} {k : Nat}
    (hr : Room (k + 1) X.A) (t1 : Tab1 X.base X.mg tl fd c P) (hcd : X.env.code = fd.code) (ht : ∀ P ∈ tl, TabG B P) (hc : X.calm = true) (hN : X.N.Nodup) (ok : BlkOk X.N X.env.scope scope own) (nc : ∀ y ∈ scope.names, y.2 ≠ .cell)
    (hi : JI B X tg iter wi) (hs : ∀ v, genFold iter X.env v = pure v)
    (hg : ∀ (A : Around) (s : Shared) (H : Hp) (C : Addr) (code : Value) (fp : List Addr) (pn : List (Addr × Obj)), Room k A → JG (gblk X A s H (genEnv scope (cloFrom X.env.cells scope.names []) C code builtinsNs X.env) fp pn) tg (own.map (·.2)) g)
    (he : ∀ (A : Around) (s : Shared) (H : Hp) (C : Addr) (code : Value) (fp : List Addr) (pn : List (Addr × Obj)), Room k A → JE B (gblk X A s H (genEnv scope (cloFrom X.env.cells scope.names []) C code builtinsNs X.env) fp pn) elt te)
    (hx : Gl X "all") (hm : X.mg "all" = none) (hco : scope.isCoroutine = false := by rfl) (dot : scope.names.lookup (".0" : Str) = some NameKind.local := by rfl) :
    JE B X (.Call (.Name "all" p) [.GeneratorExp elt [⟨tg, iter, [], 0⟩] scope gpos] [] pos) (wAll wi g te (own.map (·.2))) :=
  j_ag (sa := false) hr hc hN t1.tab (hcd.trans t1.code) (ht P t1.mem) ok nc hco dot hi hs hg he hx hm (.inl ⟨rfl, rfl⟩)
theorem j_any {c P : Addr} {fd : FuncData} {tl : List Addr} {elt tg iter : Expr} {p pos gpos : Pos} {scope : Scope} {own : List (Str × Nat)} {wi : WI} {g : WG} {te : WE} {k : Nat}
    (hr : Room (k + 1) X.A) (t1 : Tab1 X.base X.mg tl fd c P) (hcd : X.env.code = fd.code) (ht : ∀ P ∈ tl, TabG B P) (hc : X.calm = true) (hN : X.N.Nodup) (ok : BlkOk X.N X.env.scope scope own) (nc : ∀ y ∈ scope.names, y.2 ≠ .cell)
    (hi : JI B X tg iter wi) (hs : ∀ v, genFold iter X.env v = pure v)
    (hg : ∀ (A : Around) (s : Shared) (H : Hp) (C : Addr) (code : Value) (fp : List Addr) (pn : List (Addr × Obj)), Room k A → JG (gblk X A s H (genEnv scope (cloFrom X.env.cells scope.names []) C code builtinsNs X.env) fp pn) tg (own.map (·.2)) g)
    (he : ∀ (A : Around) (s : Shared) (H : Hp) (C : Addr) (code : Value) (fp : List Addr) (pn : List (Addr × Obj)), Room k A → JE B (gblk X A s H (genEnv scope (cloFrom X.env.cells scope.names []) C code builtinsNs X.env) fp pn) elt te)
    (hx : Gl X "any") (hm : X.mg "any" = none) (hco : scope.isCoroutine = false := by rfl) (dot : scope.names.lookup (".0" : Str) = some NameKind.local := by rfl) :
    JE B X (.Call (.Name "any" p) [.GeneratorExp elt [⟨tg, iter, [], 0⟩] scope gpos] [] pos) (wAny wi g te (own.map (·.2))) :=
  j_ag (sa := true) hr hc hN t1.tab (hcd.trans t1.code) (ht P t1.mem) ok nc hco dot hi hs hg he hx hm (.inr ⟨rfl, rfl⟩)
end
end Wp
namespace Wp
open PySem PySem.Spec PyProof.Rows L2 GxR
/-! ### the end -/
/-- a def's code and its table, in what is known -/
structure TabK (K : PySem.W.Frag) (fd : FuncData) (c P : Addr) : Prop where
  code : fd.code = .ref c
  at_ : ∃ (e : Value) (dd : Option Addr) (vs : Array Value) (sl : Array (Option Value)), K.lookup c = some ⟨e, dd, .fields vs, sl⟩ ∧ vs[11]? = some (.ref P)
  no : K.lookup P = none
def DefG (K : PySem.W.Frag) (mg : Str → Option Value) (x : Str) (st : Stmt) (ps : List Str) : Prop := ∃ f fd c P, Fun K x x st f fd ∧ mg x = some (.ref f) ∧ Binds K fd ps [] ∧ TabK K fd c P
theorem defG_mk {K : PySem.W.Frag} {mg : Str → Option Value} {x : Str} {st : Stmt} {ps : List Str} {f cc PP : Addr} {oc : Value} {od an : Option Addr} {osl : Array (Option Value)} {kV doc pm cdv ct : Value} {e : Value} {dd : Option Addr} {vs : Array Value} {sl : Array (Option Value)}
    (hm : mg x = some (.ref f)) (l : K.lookup f = some ⟨oc, od, .func (PySem.W.fnOf x x (defArgs st) (defBody st) (defScope st) .none kV doc pm an cdv ct), osl⟩)
    (c : PySem.W.codeIn K cdv x = true) (k : PySem.W.keepIn K (.ref f) = true) (x1 : cdv = .ref cc) (x2 : K.lookup cc = some ⟨e, dd, .fields vs, sl⟩) (x3 : vs[11]? = some (.ref PP)) (x4 : (K.lookup PP).isNone = true)
    (h : ∀ (kV doc pm : Value) (an : Option Addr) (cdv ct : Value) (us : List Value), us.length = ps.length → bindArgs (PySem.W.fnOf x x (defArgs st) (defBody st) (defScope st) .none kV doc pm an cdv ct) ⟨us, []⟩ = pure (ps.zip us)) : DefG K mg x st ps :=
  ⟨f, _, cc, PP, fun_mk l c k, hm, (fun_mk l c k).binds h, x1, ⟨e, dd, vs, sl, x2, x3⟩, by simpa using x4⟩
/-- the empty tables at the head -/
def TabsE (K : PySem.W.Frag) (mg : Str → Option Value) (h : Heap) (names : List Str) : Prop := ∀ x ∈ names, ∀ f fd c P, mg x = some (.ref f) → (∃ oc od osl, K.lookup f = some ⟨oc, od, .func fd, osl⟩) → TabK K fd c P → h.get? P = some { cls := .none, data := .fields #[] } ∧ PySem.W.CodeHd h c P
theorem fn_frz {P : Program} {w : World} {K : PySem.W.Frag} {mg : Str → Option Value} {base : Heap} {k : Nat} {f : Addr} {fd : FuncData} {ps : List Str} {sp : Sp} (F : FnOk P w K mg base CX0 k f fd ps sp) :
    FnOk P w K mg base CX0 k f fd ps (fun vs H Q E => sp vs H Q E ∨ ∃ a xs, H a = some (.lst xs) ∧ ∀ o, sp vs (upd H a (.frz o (.lst xs))) Q E) := by
  refine ⟨fun vs H Q E h => ?_, fun A outer s H args us vs Q E hr e0 hb hv h => ?_⟩
  · rcases h with h | ⟨a, xs, _, h⟩
    · exact F.len _ _ _ _ h
    · exact F.len _ _ _ _ (h { cls := .none, data := .fields #[] })
  · rcases h with h | ⟨a, xs, ha, h⟩
    · exact F.run A outer s H args us vs Q E hr e0 hb hv h
    · obtain ⟨hz, its, n, rv, ho⟩ := e0.hok a _ ha
      generalize hob : ({ cls := .type "list", data := .seq its.toArray n } : Obj) = ob at ho
      have ne : ∀ {b : Addr} {u : HO}, H b = some u → u ≠ .lst xs → b ≠ a := fun {b u} e d z => by
        rw [z, ha] at e
        exact d (Option.some.inj e).symm
      have nn : ∀ {b : Addr}, H b = none → b ≠ a := fun {b} e z => by rw [z, ha] at e; cases e
      have at_ : ∀ {b : Addr}, b ≠ a → upd H a (.frz ob (.lst xs)) b = H b := fun {b} hb => upd_ne hb
      have hok' : HOk P w (upd H a (.frz ob (.lst xs))) s.heap := fun b u e => by
        by_cases hb : b = a
        · subst hb
          rw [upd_same] at e
          cases e
          exact ⟨ho, hz, its, n, rv, by rw [hob]; exact ho⟩
        · rw [at_ hb] at e
          exact (e0.hok b u e).stay (fun c v _ q => q) (fun c q => by rw [at_ (ne q (fun z => by cases z))]; exact q) fun c ys q => by rw [at_ (ne q (fun z => by cases z))]; exact q
      have e0' : Env0 P w K mg base A outer s (upd H a (.frz ob (.lst xs))) := ⟨e0.frames, e0.mod, fun b o e => ⟨(e0.bs b o e).1, by rw [at_ (nn (e0.bs b o e).2)]; exact (e0.bs b o e).2⟩, e0.bsz, e0.funs, fun b hb => by rw [at_ (nn (e0.frf b hb))]; exact e0.frf b hb, hok', e0.bare⟩
      refine codeAny_mono (F.run A outer s _ args us vs Q E hr e0' hb hv (h ob)) fun r s' hR => ?_
      cases r with
      | error e => exact hR
      | ok fl =>
        cases fl with
        | next => exact hR
        | brk => exact hR
        | cont => exact hR
        | ret u =>
          obtain ⟨v, H2, os, bare, un, hok2, rl, q⟩ := hR
          refine ⟨v, H2, os, bare, ⟨fun b o e n hb hx => un.keep b o e (by rw [at_ (nn n)]; exact n) hb hx, fun b o e n hb hx => un.slot b o e (by rw [at_ (nn n)]; exact n) hb hx, fun b o e n hx => un.free b o e (by rw [at_ (nn n)]; exact n) hx, un.there,
            fun b ys e => un.tups b ys (by rw [at_ (ne e (fun z => by cases z))]; exact e), fun b o ys e => un.frzs b o ys (by rw [at_ (ne e (fun z => by cases z))]; exact e), fun b qs e => un.tbls b qs (by rw [at_ (ne e (fun z => by cases z))]; exact e)⟩, hok2, rl, q⟩
theorem law_spT {tl : List Addr} (K : PySem.W.Frag) (H : Hp) (a : Addr) (ns : List Int) (hl : ns.length ≤ 63) (hT : ∀ P ∈ tl, TabG H P) (hf : FzL K H a (ns.map V.int)) : Lsp tl K 1 spLaw [.ref a] H (fun v _ => v = .bl true) fun _ _ _ => False := by
  refine ⟨hT, [.fl (ns.map .int)], fun _ => none, fun v _ => v = .bl true, fun _ _ => False, rfl, .cons (.fl hf (Reps.ints ns)) .nil, (fun b o q => by cases q), ⟨ns, rfl, hl, fun _ => rfl, fun _ => rfl⟩, fun v S e H' u _ _ r => ?_, fun _ _ _ q => q.elim⟩
  subst e
  cases r
  rfl
theorem law_spF {cs : List (Addr × Addr)} (K : PySem.W.Frag) (H : Hp) (a : Addr) (ns : List Int) (hl : ns.length ≤ 63) (hT : ∀ p ∈ cs, H p.2 = some (.tbl #[])) (hs : SqL K H a (ns.map V.int)) :
    (fun vs H Q E => Lsp (cs.map (·.2)) K 1 spLaw vs H Q E ∨ ∃ a xs, H a = some (.lst xs) ∧ ∀ o, Lsp (cs.map (·.2)) K 1 spLaw vs (upd H a (.frz o (.lst xs))) Q E) [.ref a] H (fun v _ => v = .bl true) fun _ _ _ => False := by
  have tg : ∀ P ∈ cs.map (·.2), TabG H P := fun P hP => by
    obtain ⟨p, hp, e⟩ := List.mem_map.mp hP
    subst e
    exact ⟨#[], hT p hp, by first | trivial | simp [TriplesOk]⟩
  rcases hs with (h | ⟨o, h⟩) | h
  · refine .inr ⟨a, _, h, fun o => law_spT K _ a ns hl (fun P hP => ?_) (.inl ⟨o, upd_same⟩)⟩
    obtain ⟨ps, e, t⟩ := tg P hP
    exact ⟨ps, by rw [upd_ne (fun z => by rw [z, h] at e; cases e)]; exact e, t⟩
  · exact .inl (law_spT K H a ns hl tg (.inl ⟨o, h⟩))
  · exact .inl (law_spT K H a ns hl tg (.inr h))
/-- the end: cs, the codes and tables of the defs that hold generator expressions -/
theorem law_walkT {l : PySem.W.OpenLaw} {k : Nat} {q : Program} {loose : List Str} {XP : (Str → Option Value) → Heap → Prop} {YP : World → Heap → Prop} {d : DefRec} {K : Params → PySem.W.Frag} {x : Str} (names : List Str)
    (hn : l.most = some 63) (hdf : d.params.defaults = []) (hr : Room k callerA) (hrec : (names.all fun x => (recsOf q).any fun e => e.name == x) = true)
    (hY : ∀ (w : World) (h : Heap), YP w h → (K w.params).In h)
    (F : ∀ (w : World) (mg : Str → Option Value) (fa : Addr) (h : Heap), (K w.params).In h → h.Ns mainGlobals mg → mg d.name = some (.ref fa) → TabsE (K w.params) mg h names →
      ∃ (fd : FuncData) (cs : List (Addr × Addr)), (∀ (s : Shared) (u : Value), BindsTo s fd ⟨[u], []⟩ [(x, u)]) ∧ (∀ p ∈ cs, h.get? p.2 = some { cls := .none, data := .fields #[] }) ∧ (∀ p ∈ cs, (K w.params).lookup p.2 = none) ∧ (∀ p ∈ cs, PySem.W.CodeHd h p.1 p.2) ∧
        ∀ base : Heap, (K w.params).In base → base.Ns mainGlobals mg → (∀ p ∈ cs, TabB base mg p.1 p.2) → FnOk l.prog w (K w.params) mg base CX0 k fa fd [x] (Lsp (cs.map (·.2)) (K w.params) 1 spLaw)) :
    PySem.W.WalkO q loose XP YP l.row.toRowW d [] (fun f vs => PySem.call f vs) := by
  refine Att.attach_callB hn hdf fun w s₀ s₁ mg mb fa o pm cd doc a vs ns G Y ho hd hcd hmg hobj hints hlen hbits hg => ?_
  have KX := hY w _ Y
  have tabs : TabsE (K w.params) mg s₁.heap names := fun x hx f fd c P k1 ⟨oc, od, osl, k2⟩ t => by
    obtain ⟨dL, hm, hn1⟩ := List.any_eq_true.mp (List.all_eq_true.mp hrec x hx)
    have hn2 : dL.name = x := beq_iff_eq.mp hn1
    obtain ⟨a', o', fd', c', P', h1, h2, h3, h4, h5, h6⟩ := G.T.tab dL hm
    rw [hn2, k1] at h1
    cases h1
    have g1 := KX _ _ k2
    rw [g1] at h2
    cases h2
    cases h3
    rw [t.code] at h4
    cases h4
    obtain ⟨e, dd, vs, sl, q1, q2⟩ := t.at_
    have hP := h6.2
    have hcd := PySem.W.CodeHd.of h5 h6
    obtain ⟨⟨oc2, vc, e1, _, e3, e4⟩, _⟩ := h6
    have g2 := KX _ _ q1
    rw [g2] at e1
    cases e1
    cases e3
    rw [q2] at e4
    cases e4
    exact ⟨hP, hcd⟩
  obtain ⟨fd, cs, hb, hT, nT, C, hF⟩ := F w mg fa _ KX G.T.g hmg tabs
  exact LamX.law_callTs KX G.T.g G.T.b G.T.builtins G.T.nolimit hg hT nT C G.T.bmain hobj hints (Nat.le_trans hlen (by decide)) hr (fun base hb hg2 hTB => fn_frz (hF base hb hg2 fun p hp => let z := hTB p hp; ⟨z.1, z.2, z.3⟩)) hb (fun H hH hS => law_spF (K w.params) H a ns hlen hH hS) fun H e s' h => h
end Wp

set_option Elab.async false
set_option linter.all false
set_option maxRecDepth 100000
set_option maxHeartbeats 1000000
/-! texts walked; sep.join of a list of texts -/
namespace Wp
open PySem PySem.Spec PyProof.Rows L2
section
variable {B : Hp} {X : Cx} {te : WE} {e : Expr}
/-- a text, sign by sign -/
def signsT (x : Str) : List T := x.cps.toList.map fun c => T.str ⟨#[c]⟩
def iStrW (te : WE) (σ : Sl) (S : Sta) (R : List T → (Sta → Prop) → Sta → Prop) : Prop := te σ S fun x S1 => match x with
  | .str x => R (signsT x) (fun _ => True) S1
  | _ => False
theorem ji_str {tg : Expr} (he : JE B X e te) : JI B X tg e (iStrW te) := pi_imp (pi_str he) fun σ H R ⟨st, S, Q0, he, hr, hs, h, im⟩ => by
  refine ⟨st, S, _, he, hr, hs, h, fun x S1 h1 H1 v1 e1 s1 r1 => ?_⟩
  cases x with
  | str x =>
    cases r1
    have hl : (signsT x).length = x.cps.size := by unfold signsT; rw [List.length_map, Array.length_toList]
    refine ⟨x, rfl, im _ _ _ h1 H1 e1 s1 _ fun i S2 H2 e2 s2 _ => ⟨fun hi => by rw [hl] at hi; exact hi, fun hi => by rw [hl] at hi; exact hi, fun y H' hy hi => ?_⟩⟩
    obtain ⟨eH, c, ec, ev⟩ := hy
    subst eH ev
    refine ⟨Ext.refl _, s2, fun _ _ q => q, .str ⟨#[c]⟩, ?_, .str _⟩
    unfold signsT
    rw [List.getElem?_map, Array.getElem?_toList, ec]
    rfl
  | _ => exact h1.elim
/-- the three sources told apart where the value has come -/
theorem pi_three {tg l : Expr} {tl : TE} (hl : PE X l tl) : PI X tg l fun σ H R => tl σ H fun x H1 => (∃ a, x = .ref a ∧ ((∃ xs, SqL X.K H1 a xs) ∧ R (Itl X.K a) H1 ∨ (∃ xs, SqT X.K H1 a xs) ∧ R (Itt X.K a) H1)) ∨ ∃ z, x = .str z ∧ R (Its z) H1 := by
  refine ⟨fun pins s σ H R I h => ?_⟩
  refine thn (hl.run pins s σ H _ I h) fun v s1 ⟨x, H1, I1, r1, q1⟩ => ?_
  rcases q1 with ⟨a, e, q1⟩ | ⟨z, e, q⟩
  · subst e
    cases r1
    rcases q1 with ⟨⟨xs, hq⟩, q⟩ | ⟨⟨xs, hq⟩, q⟩
    · obtain ⟨its, rv, p, hz⟩ := I1.list hq
      refine wpAny_pyIter_list p.isList ?_
      refine ⟨s1.heap.objs.size, [s1.heap.objs.size], _, _, H1, rfl, I1.kept (t' := s1.toks) fun b o e => Heap.get?_push_of_some _ e, turn_list a _, ⟨_, Heap.get?_push_size _ rfl, rfl, rfl⟩, fun b hb => ?_, q⟩
      have e : b = s1.heap.objs.size := by simpa using hb
      subst e
      exact I1.fpOk (Nat.le_refl _) (I1.hok.fresh (Nat.le_refl _))
    · obtain ⟨its, rv, p, hz⟩ := I1.tuple hq
      refine wpAny_pyIter_tuple (show s1.heap.IsTuple a its.toArray from p) ?_
      refine ⟨s1.heap.objs.size, [s1.heap.objs.size], _, _, H1, rfl, I1.kept (t' := s1.toks) fun b o e => Heap.get?_push_of_some _ e, turn_tuple a _, ⟨_, Heap.get?_push_size _ rfl, rfl, rfl⟩, fun b hb => ?_, q⟩
      have e : b = s1.heap.objs.size := by simpa using hb
      subst e
      exact I1.fpOk (Nat.le_refl _) (I1.hok.fresh (Nat.le_refl _))
  · subst e
    obtain ⟨t, rfl⟩ := r1
    cases ha : z.cps.all (· < 128)
    · exact wpAny_pyIter_wide ha (pi_one (tk := s1.toks) I1 _ (turn_str _ z t "str_iterator" (.inr rfl)) ⟨_, Heap.get?_push_size _ rfl, rfl, rfl⟩ q)
    · exact wpAny_pyIter_ascii ha (pi_one (tk := s1.toks) I1 _ (turn_str _ z t "str_ascii_iterator" (.inl rfl)) ⟨_, Heap.get?_push_size _ rfl, rfl, rfl⟩ q)
def iAnyW (te : WE) (σ : Sl) (S : Sta) (R : List T → (Sta → Prop) → Sta → Prop) : Prop := te σ S fun x S1 => match x with
  | .tup ts => R ts (fun _ => True) S1
  | .fl ts => R ts (fun _ => True) S1
  | .ref p => ∃ ts, S1 p = some (.lst ts) ∧ R ts (fun S' => S' p = some (.lst ts)) S1
  | .str z => R (signsT z) (fun _ => True) S1
  | _ => False
theorem ji_any {tg : Expr} (he : JE B X e te) : JI B X tg e (iAnyW te) := pi_imp (pi_three he) fun σ H R ⟨st, S, Q0, he, hr, hs, h, im⟩ => by
  refine ⟨st, S, _, he, hr, hs, h, fun x S1 h1 H1 v1 e1 s1 r1 => ?_⟩
  cases x with
  | tup ts =>
    cases r1 with
    | @tup a xs _ g10 g2 =>
      have g1 := sqT_of (K := X.K) g10
      refine .inl ⟨a, rfl, .inr ⟨⟨xs, g1⟩, im _ _ _ h1 H1 e1 s1 _ fun i S2 H2 e2 s2 _ => ⟨fun hi => ?_, fun hi => ⟨xs, e2.sqT g1, by rw [← g2.length]; exact hi⟩, fun x H' y hi => ?_⟩⟩⟩
      · obtain ⟨v, g3, _⟩ := g2.get (List.getElem?_eq_getElem hi)
        exact ⟨xs, v, e2.sqT g1, g3⟩
      · obtain ⟨eH, y⟩ := y
        subst eH
        obtain ⟨v, g3, g4⟩ := g2.get (List.getElem?_eq_getElem hi)
        have ev : x = v := Option.some.inj ((y xs (e2.sqT g1)).symm.trans g3)
        subst ev
        exact ⟨Ext.refl _, s2, fun _ _ q => q, _, List.getElem?_eq_getElem hi, Rep.mono e2 _ _ g4⟩
  | fl ts =>
    cases r1 with
    | @fl a xs _ g1 g2 =>
      refine .inl ⟨a, rfl, .inl ⟨⟨xs, g1.sq⟩, im _ _ _ h1 H1 e1 s1 _ fun i S2 H2 e2 s2 _ => ⟨fun hi => ?_, fun hi => ⟨xs, (e2.fzL g1).sq, by rw [← g2.length]; exact hi⟩, fun x H' y hi => ?_⟩⟩⟩
      · obtain ⟨v, g3, _⟩ := g2.get (List.getElem?_eq_getElem hi)
        exact ⟨xs, v, (e2.fzL g1).sq, g3⟩
      · obtain ⟨eH, y⟩ := y
        subst eH
        obtain ⟨v, g3, g4⟩ := g2.get (List.getElem?_eq_getElem hi)
        have ev : x = v := Option.some.inj ((y xs ((e2.fzL g1).sq)).symm.trans g3)
        subst ev
        exact ⟨Ext.refl _, s2, fun _ _ q => q, _, List.getElem?_eq_getElem hi, Rep.mono e2 _ _ g4⟩
  | ref p =>
    obtain ⟨ts, eS, h1⟩ := h1
    cases r1
    obtain ⟨xs0, g10, g20⟩ := s1 p _ eS
    refine .inl ⟨p, rfl, .inl ⟨⟨xs0, .inl (.inl g10)⟩, im _ _ _ h1 H1 e1 s1 _ fun i S2 H2 e2 s2 stb => ?_⟩⟩
    obtain ⟨xs, g1, g2⟩ := s2 p _ stb
    refine ⟨fun hi => ?_, fun hi => ⟨xs, .inl (.inl g1), by rw [← g2.length]; exact hi⟩, fun x H' y hi => ?_⟩
    · obtain ⟨v, g3, _⟩ := g2.get (List.getElem?_eq_getElem hi)
      exact ⟨xs, v, .inl (.inl g1), g3⟩
    · obtain ⟨eH, y⟩ := y
      subst eH
      obtain ⟨v, g3, g4⟩ := g2.get (List.getElem?_eq_getElem hi)
      have ev : x = v := Option.some.inj ((y xs (.inl (.inl g1))).symm.trans g3)
      subst ev
      exact ⟨Ext.refl _, s2, fun _ _ q => q, _, List.getElem?_eq_getElem hi, g4⟩
  | str x =>
    cases r1
    have hl : (signsT x).length = x.cps.size := by unfold signsT; rw [List.length_map, Array.length_toList]
    refine .inr ⟨x, rfl, im _ _ _ h1 H1 e1 s1 _ fun i S2 H2 e2 s2 _ => ⟨fun hi => by rw [hl] at hi; exact hi, fun hi => by rw [hl] at hi; exact hi, fun y H' hy hi => ?_⟩⟩
    obtain ⟨eH, c, ec, ev⟩ := hy
    subst eH ev
    refine ⟨Ext.refl _, s2, fun _ _ q => q, .str ⟨#[c]⟩, ?_, .str _⟩
    unfold signsT
    rw [List.getElem?_map, Array.getElem?_toList, ec]
    rfl
  | _ => exact h1.elim
/-- sep.join(..) of a list or a tuple of texts -/
def wJoin (to te : WE) (σ : Sl) (S : Sta) (Q : T → Sta → Prop) : Prop := to σ S fun x S1 => match x with
  | .str a => te σ S1 fun y S2 => ∃ ys : List Str, itemsT S2 y = some (ys.map T.str) ∧ (ys.map (·.length)).sum + ys.length * a.length ≤ 16777216 ∧ Q (.str (Txt.join a ys)) S2
  | _ => False
theorem j_join {o : Expr} {to : WE} {apos pos : Pos} (ho : JE B X o to) (he : JE B X e te) (hs : starEach [e] X.env = [(false, eval e X.env)] := by rfl) (hbase : attributeBase o "join" X.env (eval o X.env) = eval o X.env := by rfl) (hline : (apos.endLine == pos.line) = true := by rfl) :
    JE B X (.Call (.Attribute o "join" apos) [e] [] pos) (wJoin to te) := pe_imp (pe_join ho he hs hbase hline) fun σ H Q ⟨st, S, Q0, he, hr, hs, h, im⟩ => by
  refine ⟨st, S, _, he, hr, hs, h, fun x S1 h1 H1 v1 e1 s1 r1 => ?_⟩
  cases x with
  | str a =>
    cases r1
    refine ⟨⟨a, rfl⟩, st, S1, _, he.trans e1, hr.mono e1, s1, h1, fun y S2 h2 H2 v2 e2 s2 r2 => ?_⟩
    obtain ⟨ys, hy, hz, q⟩ := h2
    obtain ⟨p, xs, rfl, hp, r3⟩ := items_sq s2 r2 hy
    have ex := r3.strsV
    subst ex
    exact ⟨a, p, ys, rfl, rfl, hp.imp id sqT_of, hz, im _ _ q H2 _ (e1.trans e2) s2 (.str _)⟩
  | _ => exact h1.elim
end
end Wp

set_option Elab.async false
set_option linter.all false
set_option maxRecDepth 100000
set_option maxHeartbeats 1000000
/-! enumerate(list or tuple, start=k) -/
namespace Wp
open PySem PySem.Spec PyProof.Rows L2
section
variable {M : Model} {A : Around} {E : Value → Shared → Prop} {s : Shared} {env : Env}
theorem callWith_typeKw {pos : Pos} {T : String} {e : Expr} {rest : List Expr} {kws : List Keyword} {Q : Value → Shared → Prop}
    (h : wpAny M A (spliced (backTo pos (starEach (e :: rest) env))) (fun vs s₁ => wpAny M A (evalAll ((backToKw pos (keywordEach kws env)).map (·.2)))
      (fun kvs s₂ => wpAny M A (call (.type T) vs (((backToKw pos (keywordEach kws env)).filterMap (·.1)).zip kvs)) Q E s₂) E s₁) E s)
    (he : backTo pos (starEach (e :: rest) env) = (false, eval e env) :: backTo pos (starEach rest env) := by rfl)
    (hplain : (backTo pos (starEach (e :: rest) env)).any (·.1) = false := by rfl)
    (hall : (backToKw pos (keywordEach kws env)).all (·.1.isSome) = true := by rfl)
    (hkw : (backToKw pos (keywordEach kws env)).any (·.1.isNone) = false := by rfl) :
    wpAny M A (callWith pos (.type T) [] (backTo pos (starEach (e :: rest) env)) (backToKw pos (keywordEach kws env))) Q E s := by
  have hev : wpAny M A (evalArgs (.type T) true (backTo pos (starEach (e :: rest) env)) (backToKw pos (keywordEach kws env))) (fun a s₁ => wpAny M A (call (.type T) ([] ++ a.pos) a.kw) Q E s₁) E s := by
    rw [he] at h ⊢
    exact evalArgs_kwB hall h
  unfold callWith
  refine wpAny_bind (wpAny_holding (wpAny_mono hev (fun a s₁ h₁ => wpAny_bind (wpAny_standAt ?_)) fun _ _ x => x))
  simp only [hplain, hkw, Bool.or_false]
  refine wpAny_bind (wpAny_pure ?_)
  exact wpAny_bind (wpAny_mono h₁ (fun r s₂ hr => wpAny_bind (wpAny_holding (wpAny_point (wpAny_pure hr)))) fun _ _ x => x)
end
/-- the n items in new pairs, counted from k -/
def IteS (Sq : Hp → List V → Prop) (k : Int) (n : Nat) : It :=
  ⟨fun i H => ∃ (xs : List V) (x : V), Sq H xs ∧ xs.length = n ∧ xs[i]? = some x, fun i H v H' => ∃ T x, v = .ref T ∧ H T = none ∧ H' = upd H T (.tup [.int (k + (i : Nat)), x]) ∧ ∀ xs, Sq H xs → xs[i]? = some x, fun i H => ∃ xs : List V, Sq H xs ∧ xs.length = n ∧ n ≤ i⟩
/-- what the counting asks of the walked thing -/
structure Src (P : Program) (w : World) (K : PySem.W.Frag) (Sq : Hp → List V → Prop) (it : Addr) (St : Nat → Heap → Prop) : Prop where
  obj : ∀ i h, St i h → ∃ o : Obj, h.get? it = some o ∧ ∀ v, o.data ≠ .cell v
  keep : ∀ i (h h' : Heap), St i h → (∀ o, h.get? it = some o → h'.get? it = some o) → St i h'
  inj : ∀ (X : Cx) pins σ H s xs ys, X.prog = P → X.w = w → X.K = K → Inv X pins σ H s → Sq H xs → Sq H ys → xs = ys
  draws : ∀ (X : Cx) pins σ H s xs, X.prog = P → X.w = w → X.K = K → Inv X pins σ H s → Sq H xs → X.A.handled = none → (∃ i, St i s.heap) →
    ∃ (its : List Value) (a : Addr) (St2 : Nat → Heap → Prop), Vals xs its ∧ Draws P w X.A.in1 it [it, a] its.length (fun i v => its[i]? = some v) St2 ∧ (∃ o : Obj, s.heap.get? a = some o ∧ o.cls ≠ .type "enumerate") ∧
      (∀ i, St i s.heap → St2 i s.heap) ∧ ∀ i h, St2 i h → St i h
theorem turn_enumS {P : Program} {w : World} {K : PySem.W.Frag} {Sq : Hp → List V → Prop} {St : Nat → Heap → Prop} {elts : List Expr} {kk : Nat} {tpos : Pos} (e it : Addr) (k : Int) (n : Nat) (D : Src P w K Sq it St) :
    Turn P w K (.Tuple elts kk tpos) (IteS Sq k n) [e, it] e (fun i h => (∃ old, IsEnum h e it (k + ((i : Nat) : Int)) old) ∧ St i h ∧ e ≠ it ∧ i ≤ n) where
  mem := by simp
  obj := fun i h st b hb => by
    obtain ⟨⟨old, he⟩, hit, _⟩ := st
    have e' : b = e ∨ b = it := by simpa using hb
    rcases e' with z | z
    · rw [z]; exact ⟨_, he, fun v q => nomatch q⟩
    · rw [z]; exact D.obj i h hit
  keep := fun i h h' st k => let ⟨⟨old, he⟩, hi, hne⟩ := st; ⟨⟨old, k e (by simp) _ he⟩, D.keep i h h' hi fun o q => k it (by simp) o q, hne⟩
  item := by
    intro X hP hw hK hc i pins s σ H E I hf st hg
    obtain ⟨⟨old, he⟩, hit, hne, hin⟩ := st
    obtain ⟨xs, x, hq, hn, hx⟩ := hg
    obtain ⟨its, a, St2, rv, DD, ⟨oa, hoa, hna⟩, s1, s2⟩ := D.draws X pins σ H s xs hP hw hK I hq (I.ok.hd hc) ⟨i, hit⟩
    subst hP hw hK
    obtain ⟨u, hu, ru⟩ := rv.get hx
    have hel : e < s.heap.objs.size := Heap.lt_size he
    have hil : it < s.heap.objs.size := by obtain ⟨_, q, _⟩ := D.obj i _ hit; exact Heap.lt_size q
    have hea : e ≠ a := fun z => by
      have he' : s.heap.get? e = some _ := he
      rw [z, hoa] at he'
      exact hna (congrArg Obj.cls (Option.some.inj he'))
    have hil2 : i < its.length := (List.getElem?_eq_some_iff.mp hu).1
    have hlen := rv.length
    refine wpAny_pyNext_enum_itemC DD he (s1 i hit) hil2 hne (by simp [hne, hea]) fun x' h' tk px ho hit' hT hsz hk => ?_
    have ex : x' = u := Option.some.inj (px.symm.trans hu)
    subst ex
    refine ⟨_, rfl, wpAny_letOwnedTupleGo_enum (s := { s with heap := h', toks := tk + 1 }) ho fun h'' he' sb => ?_⟩
    have hT2 : h''.get? s.heap.objs.size = some { cls := .type "tuple", data := .seq #[.int (k + (i : Nat)) tk, x'] } := (sb.2 _ (Nat.ne_of_gt hel)).trans hT
    have new : ObjOk X.prog X.w (upd H s.heap.objs.size (.tup [.int (k + (i : Nat)), x])) h'' s.heap.objs.size (.tup [.int (k + (i : Nat)), x]) :=
      ⟨by show 2 ≤ sizeLine; decide, [.int (k + (i : Nat)) tk, x'], .cons ⟨_, rfl⟩ (.cons ru .nil), ⟨_, hT2, rfl, _, rfl⟩⟩
    have I1 : Inv X pins σ (upd H s.heap.objs.size (.tup [.int (k + (i : Nat)), x])) { s with heap := h'', toks := tk + 1 } :=
      I.turnedNew (ch := [e, it]) (fun b ob hb q => (sb.2 b (fun z => hb (by simp [z]))).trans (hk b ob (fun z => hb (by simp [z])) (fun z => hb (by simp [z])) q)) hf (Nat.le_refl _) new
    refine ⟨.ref s.heap.objs.size, _, I1, rfl, ⟨_, x, rfl, I.hok.fresh (Nat.le_refl _), rfl, fun ys hy => by rw [D.inj X pins σ H s _ _ rfl rfl rfl I hy hq]; exact hx⟩, ⟨⟨x', ?_⟩, D.keep _ _ _ (s2 _ _ hit') (fun o q => (sb.2 it (Ne.symm hne)).trans q), hne, by omega⟩, fun b hb => ?_⟩
    · have e1 : k + ((i + 1 : Nat) : Int) = k + (i : Int) + 1 := by omega
      rw [e1]; exact he'
    · have hb' : b < s.heap.objs.size := by
        have e' : b = e ∨ b = it := by simpa using hb
        rcases e' with z | z
        · rw [z]; exact hel
        · rw [z]; exact hil
      rw [upd_ne (Nat.ne_of_lt hb')]
      exact (hf b hb).1
  done := by
    intro X hP hw hK hc i pins s σ H E I hf st hg
    obtain ⟨⟨old, he⟩, hit, hne, hin⟩ := st
    obtain ⟨xs, hq, hn, hx⟩ := hg
    obtain ⟨its, a, St2, rv, DD, ⟨oa, hoa, hna⟩, s1, s2⟩ := D.draws X pins σ H s xs hP hw hK I hq (I.ok.hd hc) ⟨i, hit⟩
    subst hP hw hK
    obtain ⟨f0, f1, f2, f3, f4, f5⟩ := hf it (by simp)
    have hlen := rv.length
    have ei : i = its.length := by omega
    exact wpAny_pyNext_enum_endD DD he (by rw [← ei]; exact s1 i hit) fun h' eb => ⟨rfl, I.turned (t' := s.toks) (fun b o hb q => eb b o hb q) f0 f1 f3 f4 f5⟩
  self := fun A i s Q E st h => let ⟨⟨_, he⟩, _⟩ := st; wpAny_pyIter_enum he h
theorem src_list {P : Program} {w : World} {K : PySem.W.Frag} (a it : Addr) (hne : a ≠ it) : Src P w K (fun H xs => SqL K H a xs) it (fun i h => h.IsListIter it a i) where
  obj := fun i h st => by
    obtain ⟨o, ho, hc, hd⟩ := st
    exact ⟨o, ho, fun v q => by rw [hd] at q; cases q⟩
  keep := fun i h h' st k => st.at k
  inj := fun X pins σ H s xs ys hP hw hK I h1 h2 => by
    subst hK
    exact I.list_inj h1 h2
  draws := fun X pins σ H s xs hP hw hK I hq hh _ => by
    subst hP hw hK
    obtain ⟨its, rv, p, hz⟩ := I.list hq
    have D := Draws.list (prog := X.prog) (w := X.w) (A := X.A.in1) hh it a hne its.toArray
    refine ⟨its, a, fun i h => h.IsListIter it a i ∧ h.IsList a its.toArray, rv, by simpa using D, ?_, fun i st => ⟨st, p.isList⟩, fun i h st => st.1⟩
    obtain ⟨o, n, e, c, _⟩ := p
    exact ⟨o, e, by rw [c]; decide⟩
theorem src_tup {P : Program} {w : World} {K : PySem.W.Frag} (a it : Addr) (hne : a ≠ it) : Src P w K (fun H xs => SqT K H a xs) it (fun i h => h.IsTupleIter it a i) where
  obj := fun i h st => by
    obtain ⟨o, ho, hc, hd⟩ := st
    exact ⟨o, ho, fun v q => by rw [hd] at q; cases q⟩
  keep := fun i h h' st k => st.at k
  inj := fun X pins σ H s xs ys hP hw hK I h1 h2 => by
    subst hK
    exact I.tuple_inj h1 h2
  draws := fun X pins σ H s xs hP hw hK I hq hh _ => by
    subst hP hw hK
    obtain ⟨its, rv, p, hz⟩ := I.tuple hq
    have D := Draws.tuple (prog := X.prog) (w := X.w) (A := X.A.in1) hh it a hne its.toArray
    refine ⟨its, a, fun i h => h.IsTupleIter it a i ∧ h.IsTuple a its.toArray, rv, by simpa using D, ?_, fun i st => ⟨st, p⟩, fun i h st => st.1⟩
    obtain ⟨o, e, c, _⟩ := p
    exact ⟨o, e, by rw [c]; decide⟩
section
variable {B : Hp} {X : Cx} {te tk : WE} {e ke : Expr}
theorem pi_enumS {te : TE} {tk : TE} {p pos tpos kp : Pos} {elts : List Expr} {kk : Nat} (hg : Gl X "enumerate") (hm : X.mg "enumerate" = none) (ha : PE X e te) (hk : PE X ke tk)
    (hs : starEach [e] X.env = (false, eval e X.env) :: starEach [] X.env := by rfl) (he : backTo pos (starEach [e] X.env) = (false, eval e X.env) :: backTo pos (starEach [] X.env) := by rfl) :
    PI X (.Tuple elts kk tpos) (.Call (.Name "enumerate" p) [e] [⟨some "start", ke, kp⟩] pos) fun σ H R => te σ H fun x H1 => tk σ H1 fun z H2 => ∃ a k, x = .ref a ∧ z = .int k ∧ (-(2 ^ 63) ≤ k ∧ k < 2 ^ 63) ∧
      ((∃ xs : List V, SqL X.K H2 a xs ∧ R (IteS (fun H xs => SqL X.K H a xs) k xs.length) H2) ∨ ∃ xs : List V, SqT X.K H2 a xs ∧ R (IteS (fun H xs => SqT X.K H a xs) k xs.length) H2) := by
  refine ⟨fun pins s σ H R I h => ?_⟩
  refine wpAny_Call_Name_kw (ld_blt I hg hm boot_enumerate ?_)
  have pa := pa_cons ha pa_nil hs
  have pk := pk_cons (nm := some "start") (kpos := kp) hk (pk_nil (X := X))
  let G : V → V → Hp → Prop := fun x z H2 => ∃ a k, x = .ref a ∧ z = .int k ∧ (-(2 ^ 63) ≤ k ∧ k < 2 ^ 63) ∧
      ((∃ xs : List V, SqL X.K H2 a xs ∧ R (IteS (fun H xs => SqL X.K H a xs) k xs.length) H2) ∨ ∃ xs : List V, SqT X.K H2 a xs ∧ R (IteS (fun H xs => SqT X.K H a xs) k xs.length) H2)
  have h1 : tCons te tNil σ H (fun vs H1 => match vs with
      | [x] => tk σ H1 fun z H2 => G x z H2
      | _ => False) := h
  refine callWith_typeKw (T := "enumerate") (thn (pa.run pos pins s σ H _ I h1) fun us s1 ⟨vs, H1, I1, r1, q1⟩ => ?_) he (by rw [he]; rfl)
  match vs, r1, q1 with
  | [x], r1, q1 =>
  have h2 : tCons tk tNil σ H1 (fun zs H2 => match zs with
      | [z] => G x z H2
      | _ => False) := q1
  refine thn (pk.run pos pins s1 σ H1 _ I1 h2) fun ws s2 ⟨zs, H2, I2, r2, q2⟩ => ?_
  match zs, r2, q2 with
  | [z], r2, q2 =>
    obtain ⟨a, k, rfl, rfl, ⟨hk0, hk1⟩, q⟩ := q2
    cases r1 with
    | cons r rr =>
    cases rr
    cases r
    cases r2 with
    | cons r rr =>
    cases rr
    obtain ⟨t, rfl⟩ := r
    rcases q with ⟨xs, hq, q⟩ | ⟨xs, hq, q⟩
    · obtain ⟨its, rv, p', hz⟩ := I2.list hq
      have lt_a : a < s2.heap.objs.size := by obtain ⟨o, n, e, _⟩ := p'; exact Heap.lt_size e
      refine enum_begins_start (begins_list a its.toArray) p'.isList hk0 hk1 fun h' he hit hsz hkp => wpAny_pyIter_enum he ?_
      have I3 : Inv X pins σ H2 { s2 with heap := h' } := I2.kept (t' := s2.toks) hkp
      refine ⟨s2.heap.objs.size + 1, [s2.heap.objs.size + 1, s2.heap.objs.size], _, _, H2, rfl, I3, turn_enumS (s2.heap.objs.size + 1) s2.heap.objs.size k xs.length (src_list a _ (Nat.ne_of_lt lt_a)), ⟨⟨.none, by simpa using he⟩, ⟨_, hit, rfl, rfl⟩, Nat.succ_ne_self _, Nat.zero_le _⟩, fun b hb => ?_, q⟩
      have e' : b = s2.heap.objs.size + 1 ∨ b = s2.heap.objs.size := by simpa using hb
      have hle : s2.heap.objs.size ≤ b := by
        rcases e' with z | z
        · rw [z]; exact Nat.le_add_right _ _
        · rw [z]; exact Nat.le_refl _
      exact I2.fpOk hle (I2.hok.fresh hle)
    · obtain ⟨its, rv, p', hz⟩ := I2.tuple hq
      have lt_a : a < s2.heap.objs.size := by obtain ⟨o, e, _⟩ := p'; exact Heap.lt_size e
      refine enum_begins_start (begins_tuple a its.toArray) p' hk0 hk1 fun h' he hit hsz hkp => wpAny_pyIter_enum he ?_
      have I3 : Inv X pins σ H2 { s2 with heap := h' } := I2.kept (t' := s2.toks) hkp
      refine ⟨s2.heap.objs.size + 1, [s2.heap.objs.size + 1, s2.heap.objs.size], _, _, H2, rfl, I3, turn_enumS (s2.heap.objs.size + 1) s2.heap.objs.size k xs.length (src_tup a _ (Nat.ne_of_lt lt_a)), ⟨⟨.none, by simpa using he⟩, ⟨_, hit, rfl, rfl⟩, Nat.succ_ne_self _, Nat.zero_le _⟩, fun b hb => ?_, q⟩
      have e' : b = s2.heap.objs.size + 1 ∨ b = s2.heap.objs.size := by simpa using hb
      have hle : s2.heap.objs.size ≤ b := by
        rcases e' with z | z
        · rw [z]; exact Nat.le_add_right _ _
        · rw [z]; exact Nat.le_refl _
      exact I2.fpOk hle (I2.hok.fresh hle)
/-- enumerate(.., start=k) of a list that stands, or a tuple -/
def pairsT (k : Int) (ts : List T) : List T := ts.mapIdx fun i t => T.tup [.int (k + (i : Int)), t]
def iEnuW (te tk : WE) (σ : Sl) (S : Sta) (R : List T → (Sta → Prop) → Sta → Prop) : Prop := te σ S fun x S1 => tk σ S1 fun z S2 => match z with
  | .int k => (-(2 ^ 63) ≤ k ∧ k < 2 ^ 63) ∧ match x with
    | .tup ts => R (pairsT k ts) (fun _ => True) S2
    | .fl ts => R (pairsT k ts) (fun _ => True) S2
    | .ref p => ∃ ts, S2 p = some (.lst ts) ∧ R (pairsT k ts) (fun S' => S' p = some (.lst ts)) S2
    | _ => False
  | _ => False
theorem pairs_at {k : Int} {ts : List T} {i : Nat} {t : T} (h : ts[i]? = some t) : (pairsT k ts)[i]? = some (T.tup [.int (k + (i : Int)), t]) := by
  unfold pairsT
  rw [List.getElem?_mapIdx, h]
  rfl
theorem pairs_len {k : Int} {ts : List T} : (pairsT k ts).length = ts.length := by unfold pairsT; rw [List.length_mapIdx]
theorem yields_enu {K : PySem.W.Frag} {H1 : Hp} {Sq : Hp → List V → Prop} {k : Int} {ts : List T} {n : Nat} {stb : Sta → Prop} (hn : n = ts.length)
    (hq : ∀ S H, Ext H1 H → St K S H → stb S → ∃ xs, Sq H xs ∧ Reps K H ts xs) : Yields K (pairsT k ts) stb H1 (IteS Sq k n) := fun i S H2 e2 s2 sb => by
  obtain ⟨xs, hs, r⟩ := hq S H2 e2 s2 sb
  rw [pairs_len]
  refine ⟨fun hi => ?_, fun hi => ⟨xs, hs, by rw [hn]; exact r.length.symm, by rw [hn]; exact hi⟩, fun x H' hy hi => ?_⟩
  · obtain ⟨v, g3, _⟩ := r.get (List.getElem?_eq_getElem hi)
    exact ⟨xs, v, hs, by rw [hn]; exact r.length.symm, g3⟩
  · obtain ⟨p, v, rfl, hp, rfl, hv⟩ := hy
    have ev := hv xs hs
    obtain ⟨t, et, rt⟩ := r.getV ev
    have ex : Ext H2 (upd H2 p (.tup [.int (k + (i : Nat)), v])) := Ext.new hp
    exact ⟨ex, s2.new hp _, fun st σ q => q.mono ex, _, pairs_at et, .tup upd_same (.cons (.int _) (.cons (Rep.mono ex _ _ rt) .nil))⟩
theorem ji_enu {p pos tpos kp : Pos} {elts : List Expr} {kk : Nat} (hg : Gl X "enumerate") (hm : X.mg "enumerate" = none) (ha : JE B X e te) (hk : JE B X ke tk)
    (hs : starEach [e] X.env = (false, eval e X.env) :: starEach [] X.env := by rfl) (he : backTo pos (starEach [e] X.env) = (false, eval e X.env) :: backTo pos (starEach [] X.env) := by rfl) :
    JI B X (.Tuple elts kk tpos) (.Call (.Name "enumerate" p) [e] [⟨some "start", ke, kp⟩] pos) (iEnuW te tk) := pi_imp (pi_enumS hg hm ha hk hs he) fun σ H R ⟨st, S, Q0, he, hr, hs, h, im⟩ => by
  refine ⟨st, S, _, he, hr, hs, h, fun x S1 h1 H1 v1 e1 s1 r1 => ?_⟩
  refine ⟨st, S1, _, he.trans e1, hr.mono e1, s1, h1, fun z S2 h2 H2 v2 e2 s2 r2 => ?_⟩
  cases z with
  | int k =>
    cases r2
    obtain ⟨hk, h2⟩ := h2
    cases x with
    | tup ts =>
      cases r1 with
      | @tup a xs _ g10 g2 =>
        have g1 := sqT_of (K := X.K) g10
        exact ⟨a, k, rfl, rfl, hk, .inr ⟨xs, e2.sqT g1, im _ _ _ h2 H2 (e1.trans e2) s2 _ (yields_enu g2.length.symm fun S H e s _ => ⟨xs, (e2.trans e).sqT g1, Reps.mono (e2.trans e) _ _ g2⟩)⟩⟩
    | fl ts =>
      cases r1 with
      | @fl a xs _ g1 g2 =>
        exact ⟨a, k, rfl, rfl, hk, .inl ⟨xs, (e2.fzL g1).sq, im _ _ _ h2 H2 (e1.trans e2) s2 _ (yields_enu g2.length.symm fun S H e s _ => ⟨xs, ((e2.trans e).fzL g1).sq, Reps.mono (e2.trans e) _ _ g2⟩)⟩⟩
    | ref p =>
      cases r1
      obtain ⟨ts, eS, h2⟩ := h2
      obtain ⟨xs, g1, g2⟩ := s2 p _ eS
      refine ⟨p, k, rfl, rfl, hk, .inl ⟨xs, .inl (.inl g1), im _ _ _ h2 H2 (e1.trans e2) s2 _ (yields_enu g2.length.symm fun S H e s sb => ?_)⟩⟩
      obtain ⟨ys, g3, g4⟩ := s p _ sb
      exact ⟨ys, .inl (.inl g3), g4⟩
    | _ => exact h2.elim
  | _ => exact h2.elim
end
end Wp

set_option Elab.async false
set_option linter.all false
set_option maxRecDepth 100000
/-! bags, draws, what stays: for all laws -/
namespace Wp
open PySem PySem.Spec PyProof.Rows L2
local macro_rules | `(tactic| walk_at "go") => `(tactic| (with_reducible refine goS_i ?_))
local macro_rules | `(tactic| walk_at "wp") => `(tactic| simp (disch := omega) only [wSeq, wNext, wSet, wVar, wC, wOp, wRet, wIfS, wTest, wCall, wCons, wNil, wTup, wLst, wAsg, gTp, gC, gNm, gN0, gIx, rSet, Wp.rAdd, rMul, rMod, Wp.rSub, rFdiv, rPow, rInt, Wp.rIx, rLt, rLe, rCmp, rGeI, rGtI, wCB, rLen, rLen1, rInt1, rMax2, rMin2, rTupOf, rListOf,
  wIsi, rBIs, rIsN, isNon, wMt, rAppendT, rExtendT, rReverseT, wNot, wOr, wAnd, wAndV, wOrV, wNotV, wFor, iRg1, iRg2, iAnyW, wAll, wChain, wSl, wNoPart, wPart, rSl, wNeg, rNeg, wLc, wYes, wDrop, wipeT, wAug, List.map, List.set_cons_zero, List.set_cons_succ, List.getElem?_cons_zero, List.getElem?_cons_succ, List.length_cons, List.length_nil, List.cons_append, List.nil_append, List.replicate, Wp.startT,
  true_and, and_true, wif_true, wif_false, ex_some, ex_some1, ex_eq, ex_lst, ex_lst0, rEq_int, Bool.false_bne, Bool.true_bne, Int.reduceLT, Int.reduceLE, Int.reduceAdd, Nat.reduceAdd, eq_self, ite_true, ite_false, beq_self_eq_true, Bool.not_true, Bool.not_false, isB_0, isB_1, isB_2, isB_3, isB_4, isB_5, isB_6, isB_7, isB_8, isB_9, isB_10, isB_11, isB_12, isB_13, isB_14, isB_15, isB_16, isB_17, isB_18, isB_19, isB_20, isB_21, isB_22, isB_23, isB_24, isB_25, isB_26, isB_27, isB_28, isB_29, isB_30, isB_31, isB_32, isB_33, isB_34, isB_35, cmul_l, cmul_r, cpow_lit, size_le, size_lt, atI_0, atI_1, atI_2, atI_3, atI_4, atI_5, atI_6, ixN_0, ixN_1, ixN_2, itemsT, tyT, reduceIte, upS, upS_upS, *])
local macro_rules | `(tactic| walk_at "run") => `(tactic| repeat (first | walk_at "wp" | walk_at "go"))
local macro_rules | `(tactic| walk_at "wq") => `(tactic| simp (disch := omega) only [wSeq, wNext, wSet, wVar, wC, wOp, wRet, wIfS, wTest, wCall, wCons, wNil, wTup, wLst, wAsg, gTp, gC, gNm, gN0, gIx, rSet, Wp.rAdd, rMul, rMod, Wp.rSub, rFdiv, rPow, rInt, Wp.rIx, rLt, rLe, rCmp, rGeI, rGtI, wCB, rLen, rLen1, rInt1, rMax2, rMin2, rTupOf, rListOf,
  wIsi, rBIs, rIsN, isNon, wMt, rAppendT, rExtendT, rReverseT, wNot, wOr, wAnd, wAndV, wOrV, wNotV, wFor, iRg1, iRg2, iAnyW, wAll, wChain, wSl, wNoPart, wPart, rSl, wNeg, rNeg, wLc, wYes, wDrop, wipeT, wAug, List.map, List.set_cons_zero, List.set_cons_succ, List.getElem?_cons_zero, List.getElem?_cons_succ, List.length_cons, List.length_nil, List.cons_append, List.nil_append, List.replicate, Wp.startT,
  true_and, and_true, wif_true, wif_false, ex_some, ex_some1, ex_eq, ex_lst, ex_lst0, rEq_int, Bool.false_bne, Bool.true_bne, Int.reduceLT, Int.reduceLE, Int.reduceAdd, Nat.reduceAdd, eq_self, ite_true, ite_false, beq_self_eq_true, Bool.not_true, Bool.not_false, isB_0, isB_1, isB_2, isB_3, isB_4, isB_5, isB_6, isB_7, isB_8, isB_9, isB_10, isB_11, isB_12, isB_13, isB_14, isB_15, isB_16, isB_17, isB_18, isB_19, isB_20, isB_21, isB_22, isB_23, isB_24, isB_25, isB_26, isB_27, isB_28, isB_29, isB_30, isB_31, isB_32, isB_33, isB_34, isB_35, cmul_l, cmul_r, cpow_lit, size_le, size_lt, atI_0, atI_1, atI_2, atI_3, atI_4, atI_5, atI_6, ixN_0, ixN_1, ixN_2, itemsT, tyT, reduceIte, *])
local macro_rules | `(tactic| walk_at "r2") => `(tactic| repeat (first | walk_at "wq" | walk_at "go"))
local macro_rules | `(tactic| walk_at "w0") => `(tactic| simp (disch := omega) only [wSeq, wNext, wSet, wVar, wC, wOp, wRet, wIfS, wTest, wCall, wCons, wNil, wTup, wLst, wAsg, gTp, gC, gNm, gN0, gIx, rSet, Wp.rAdd, rMul, rMod, Wp.rSub, rFdiv, rPow, rInt, Wp.rIx, rLt, rLe, rCmp, rGeI, rGtI, wCB, rLen, rLen1, rInt1, rMax2, rMin2, rTupOf, rListOf,
  wIsi, rBIs, rIsN, isNon, wMt, rAppendT, rExtendT, rReverseT, wNot, wOr, wAnd, wAndV, wOrV, wNotV, wFor, iRg1, iRg2, iAnyW, wAll, wChain, wSl, wNoPart, wPart, rSl, wNeg, rNeg, wLc, wYes, wDrop, wipeT, wAug, List.map, List.set_cons_zero, List.set_cons_succ, List.getElem?_cons_zero, List.getElem?_cons_succ, List.length_cons, List.length_nil, List.cons_append, List.nil_append, List.replicate, Wp.startT,
  true_and, and_true, wif_true, wif_false, ex_some, ex_some1, ex_eq, ex_lst, ex_lst0, rEq_int, Bool.false_bne, Bool.true_bne, Int.reduceLT, Int.reduceLE, Int.reduceAdd, Nat.reduceAdd, eq_self, ite_true, ite_false, beq_self_eq_true, Bool.not_true, Bool.not_false, isB_0, isB_1, isB_2, isB_3, isB_4, isB_5, isB_6, isB_7, isB_8, isB_9, isB_10, isB_11, isB_12, isB_13, isB_14, isB_15, isB_16, isB_17, isB_18, isB_19, isB_20, isB_21, isB_22, isB_23, isB_24, isB_25, isB_26, isB_27, isB_28, isB_29, isB_30, isB_31, isB_32, isB_33, isB_34, isB_35, cmul_l, cmul_r, cpow_lit, size_le, size_lt, atI_0, atI_1, atI_2, atI_3, atI_4, atI_5, atI_6, ixN_0, ixN_1, ixN_2, itemsT, tyT, reduceIte])
local macro_rules | `(tactic| walk_at "r0") => `(tactic| repeat (first | walk_at "w0" | walk_at "go"))
def Gr (S S' : Sta) : Prop := ∀ a o, S a = some o → S' a = some o
theorem Gr.refl (S : Sta) : Gr S S := fun _ _ h => h
theorem Gr.trans {S S1 S2 : Sta} (a : Gr S S1) (b : Gr S1 S2) : Gr S S2 := fun x o h => b x o (a x o h)
theorem gr_new {S : Sta} {q : Addr} {o : O} (h : S q = none) : Gr S (upS S q o) := fun a u e => by
  rw [upS_ne (fun z => by rw [z, h] at e; cases e)]; exact e
theorem al_ {S : Sta} {q : Addr} {o : O} (h : S q = none) : ∃ S1 : Sta, upS S q o = S1 ∧ Gr S S1 ∧ S1 q = some o := ⟨_, rfl, gr_new h, upS_same⟩
/-- the two kinds of a law's bag -/
def IsBag : Option Addr → Sta → Addr → Prop
  | none, S, p => ∃ a b c : Int, S p = some (.lst [.int a, .int b, .int c])
  | some q, S, p => ∃ (a b c d : Int) (ns : List Int), S p = some (.lst [.int a, .int b, .int c, .int d, .ref q]) ∧ q ≠ p ∧ S q = some (.lst (ns.map T.int)) ∧ 0 ≤ c
theorem IsBag.has {k : Option Addr} {S : Sta} {p : Addr} (h : IsBag k S p) : ∃ xs, S p = some (.lst xs) := by
  cases k with
  | none => obtain ⟨a, b, c, e⟩ := h; exact ⟨_, e⟩
  | some q => obtain ⟨a, b, c, d, ns, e, _⟩ := h; exact ⟨_, e⟩
/-- all stays but the bag at p -/
structure Grb (k : Option Addr) (p : Addr) (S S' : Sta) : Prop where
  keep : ∀ a o, S a = some o → a ≠ p → S' a = some o
  bag : IsBag k S' p
theorem IsBag.gr {k : Option Addr} {p : Addr} {S S' : Sta} (h : IsBag k S p) (g : Gr S S') : IsBag k S' p := by
  cases k with
  | none => obtain ⟨a, b, c, e⟩ := h; exact ⟨a, b, c, g _ _ e⟩
  | some q => obtain ⟨a, b, c, d, ns, e, n, e2, z⟩ := h; exact ⟨a, b, c, d, ns, g _ _ e, n, g _ _ e2, z⟩
theorem Grb.trans {k : Option Addr} {p : Addr} {S S1 S2 : Sta} (a : Grb k p S S1) (b : Grb k p S1 S2) : Grb k p S S2 := ⟨fun x o h n => b.keep x o (a.keep x o h n) n, b.bag⟩
theorem Grb.refl {k : Option Addr} {p : Addr} {S : Sta} (h : IsBag k S p) : Grb k p S S := ⟨fun _ _ h _ => h, h⟩
theorem Grb.gr {k : Option Addr} {p : Addr} {S S1 S2 : Sta} (a : Grb k p S S1) (g : Gr S1 S2) : Grb k p S S2 := ⟨fun x o h n => g _ _ (a.keep x o h n), a.bag.gr g⟩
theorem Gr.grb {k : Option Addr} {p : Addr} {S S1 : Sta} (h : IsBag k S p) (g : Gr S S1) : Grb k p S S1 := ⟨fun x o e _ => g _ _ e, h.gr g⟩
theorem new_ne {k : Option Addr} {S : Sta} {p q : Addr} (h : IsBag k S p) (hq : S q = none) : q ≠ p := fun e => by
  obtain ⟨xs, z⟩ := h.has
  rw [e, z] at hq; cases hq
theorem Grb.new {k : Option Addr} {p q : Addr} {S S1 S2 : Sta} {o : O} (h : IsBag k S p) (hq : S q = none) (e : S1 q = some o) (g : Grb k p S1 S2) : S2 q = some o := g.keep q o e (new_ne h hq)
/-- not of the bag -/
def Off (k : Option Addr) (p D : Addr) : Prop := D ≠ p ∧ ∀ q, k = some q → D ≠ q
theorem IsBag.free {k : Option Addr} {S : Sta} {p D : Addr} (h : IsBag k S p) (e : S D = none) : Off k p D := by
  refine ⟨new_ne h e, fun q hq => ?_⟩
  subst hq
  obtain ⟨a, b, c, d, ns, h1, h2, h3, h4⟩ := h
  intro z
  rw [z, h3] at e
  cases e
theorem IsBag.up {k : Option Addr} {S : Sta} {p D : Addr} {o : O} (h : IsBag k S p) (n : Off k p D) : IsBag k (upS S D o) p := by
  cases k with
  | none =>
    obtain ⟨a, b, c, e⟩ := h
    exact ⟨a, b, c, by rw [upS_ne n.1.symm]; exact e⟩
  | some q =>
    obtain ⟨a, b, c, d, ns, h1, h2, h3, h4⟩ := h
    exact ⟨a, b, c, d, ns, by rw [upS_ne n.1.symm]; exact h1, h2, by rw [upS_ne (n.2 q rfl).symm]; exact h3, h4⟩
/-- what was made since may be written -/
theorem Grb.up {k : Option Addr} {p D : Addr} {S S' : Sta} {o : O} (g : Grb k p S S') (hb : IsBag k S p) (hD : S D = none) : Grb k p S (upS S' D o) :=
  ⟨fun a u e n => by rw [upS_ne (fun z => by rw [z, hD] at e; cases e)]; exact g.keep a u e n, g.bag.up (hb.free hD)⟩
theorem le_sz {n : Nat} (h : n ≤ 1000000) : n ≤ sizeLine := Nat.le_trans h (by rw [sizeLine_eq]; decide)
theorem lt_sz {n : Nat} (h : n ≤ 1000000) : n < sizeLine := Nat.lt_of_le_of_lt h (by rw [sizeLine_eq]; decide)
def b_bag3 : WS :=
  (wSeq (wSet 2 (wC (.int 0)))
    (wSeq (wIfS (wTest (wOp rLt (wVar 1) (wCB rLen (wCons (wVar 0) wNil)))) (wSet 2 (wCB rInt1 (wCons (wOp rIx (wVar 0) (wVar 1)) wNil))) wNext)
    (wSeq (wIfS (wTest (wOp rGeI (wVar 2) (wOp rPow (wC (.int 10)) (wC (.int 18))))) (wRet (wLst (wCons (wVar 2) (wCons (wVar 2) (wCons (wVar 1) wNil))))) wNext)
    (wRet (wLst (wCons (wC (.int 0)) (wCons (wVar 2) (wCons (wVar 1) wNil))))))))
def b_draw3 : WS :=
  (wSeq (wIfS (wTest (wOp (rEq false) (wOp rIx (wVar 0) (wC (.int 0))) (wC (.int 0)))) (wSeq (wSet 2 (wOp rMod (wCB rInt1 (wCons (wOp rAdd (wOp rAdd (wOp rMul (wOp rIx (wVar 0) (wC (.int 1))) (wC (.int 48271))) (wOp rMul (wOp rIx (wVar 0) (wC (.int 2))) (wC (.int 69621)))) (wC (.int 11))) wNil)) (wC (.int 2147483647))))
    (wSeq (wAsg (wOp rAdd (wOp rMul (wVar 2) (wC (.int 2147483629))) (wOp rMod (wCB rInt1 (wCons (wOp rAdd (wOp rMul (wVar 2) (wVar 2)) (wOp rMul (wOp rIx (wVar 0) (wC (.int 2))) (wC (.int 16807)))) wNil)) (wC (.int 2147483629)))) (gIx (wVar 0) (wC (.int 0))))
    (wAsg (wVar 2) (gIx (wVar 0) (wC (.int 1)))))) wNext)
    (wSeq (wSet 3 (wOp rIx (wVar 0) (wC (.int 0))))
    (wSeq (wAsg (wOp rFdiv (wVar 3) (wVar 1)) (gIx (wVar 0) (wC (.int 0))))
    (wRet (wOp rMod (wCB rInt1 (wCons (wVar 3) wNil)) (wVar 1))))))
def b_bag5 : WS :=
  (wRet (wLst (wCons (wC (.int 0)) (wCons (wC (.int 7)) (wCons (wC (.int 0)) (wCons (wC (.int 0)) (wCons (wCB rListOf (wCons (wVar 0) wNil)) wNil)))))))
def b_draw5 : WS :=
  (wSeq (wIfS (wTest (wOp (rEq false) (wOp rIx (wVar 0) (wC (.int 0))) (wC (.int 0)))) (wSeq (wSet 2 (wCB rInt1 (wCons (wOp rIx (wVar 0) (wC (.int 3))) wNil)))
    (wSeq (wSet 3 (wOp rIx (wVar 0) (wC (.int 4))))
    (wSeq (wIfS (wTest (wOp rLt (wOp rIx (wVar 0) (wC (.int 2))) (wCB rLen (wCons (wVar 3) wNil)))) (wSet 2 (wCB rInt1 (wCons (wOp rIx (wVar 3) (wOp rIx (wVar 0) (wC (.int 2)))) wNil))) wNext)
    (wSeq (wAsg (wOp rAdd (wOp rIx (wVar 0) (wC (.int 2))) (wC (.int 1))) (gIx (wVar 0) (wC (.int 2))))
    (wSeq (wSet 4 (wOp rMod (wCB rInt1 (wCons (wOp rAdd (wOp rAdd (wOp rAdd (wOp rMul (wOp rIx (wVar 0) (wC (.int 1))) (wC (.int 48271))) (wOp rMul (wVar 2) (wC (.int 69621)))) (wOp rMul (wOp rIx (wVar 0) (wC (.int 2))) (wC (.int 16807)))) (wC (.int 11))) wNil)) (wC (.int 2147483647))))
    (wSeq (wAsg (wOp rAdd (wOp rMul (wVar 4) (wC (.int 2147483629))) (wOp rMod (wCB rInt1 (wCons (wOp rAdd (wOp rMul (wVar 4) (wVar 4)) (wVar 2)) wNil)) (wC (.int 2147483629)))) (gIx (wVar 0) (wC (.int 0))))
    (wSeq (wIfS (wTest (wOp rGeI (wVar 2) (wOp rPow (wC (.int 10)) (wC (.int 18))))) (wAsg (wVar 2) (gIx (wVar 0) (wC (.int 0)))) wNext)
    (wAsg (wVar 4) (gIx (wVar 0) (wC (.int 1))))))))))) wNext)
    (wSeq (wSet 5 (wOp rIx (wVar 0) (wC (.int 0))))
    (wSeq (wAsg (wOp rFdiv (wVar 5) (wVar 1)) (gIx (wVar 0) (wC (.int 0))))
    (wRet (wOp rMod (wCB rInt1 (wCons (wVar 5) wNil)) (wVar 1))))))
def spBag3 : WSp := fun ts S Q _ => match ts with
  | [.fl us, .int k] => ∃ ns : List Int, us = ns.map T.int ∧ 0 ≤ k ∧ ns.length ≤ 1000 ∧ ∀ (p : Addr) S', S p = none → Gr S S' → IsBag none S' p → Q (.ref p) S'
  | _ => False
theorem hw_bag3 : ∀ ts S Q E, ts.length = 2 → spBag3 ts S Q E → b_bag3 { nx := fun _ S' => Q .non S', rt := Q } (Wp.startT ["script", "k", "cell"] ts) S := by
  intro ts S Q E _ h
  match ts, h with
  | [.fl us, .int k], ⟨ns, e, h0, hl, h⟩ =>
    subst e
    have fin : ∀ (a b c : Int) (p : Addr), S p = none → Q (.ref p) (upS S p (.lst [.int a, .int b, .int c])) := fun a b c p hp => h p _ hp (gr_new hp) ⟨a, b, c, upS_same⟩
    clear h
    unfold b_bag3
    walk_at "r0"
    refine if_dec (fun hk => ?_) (fun hk => ?_)
    · obtain ⟨x, hx, hm⟩ := atI_in (xs := ns.map T.int) h0 hk
      obtain ⟨n, _, rfl⟩ := List.mem_map.mp hm
      walk_at "r0"
      simp only [hx]
      walk_at "r0"
      refine if_dec (fun _ => ?_) (fun _ => ?_)
      · walk_at "r0"
        exact fun p hp => fin _ _ _ p hp
      · walk_at "r0"
        exact fun p hp => fin _ _ _ p hp
    · walk_at "r0"
      refine if_dec (fun _ => ?_) (fun _ => ?_)
      · walk_at "r0"
        exact fun p hp => fin _ _ _ p hp
      · walk_at "r0"
        exact fun p hp => fin _ _ _ p hp
def spDraw (f : Bool) : WSp := fun ts S Q _ => match ts with
  | [.ref p, .int m] => ∃ k, k.isSome = f ∧ IsBag k S p ∧ 0 < m ∧ m < 2 ^ 62 ∧ ∀ (r : Int) (S' : Sta), 0 ≤ r → r < m → Grb k p S S' → Q (.int r) S'
  | _ => False
theorem hw_draw3 : ∀ ts S Q E, ts.length = 2 → spDraw false ts S Q E → b_draw3 { nx := fun _ S' => Q .non S', rt := Q } (Wp.startT ["bag", "many", "seed", "rest"] ts) S := by
  intro ts S Q E _ h
  match ts, h with
  | [.ref p, .int m], ⟨none, _, ⟨a, b, c, hS⟩, h0, h1, h⟩ =>
    have fin : ∀ (r a b c : Int), 0 ≤ r → r < m → Q (.int r) (upS S p (.lst [.int a, .int b, .int c])) := fun r a b c g1 g2 => h r _ g1 g2 ⟨fun x o e n => by rw [upS_ne n]; exact e, _, _, _, upS_same⟩
    clear h
    unfold b_draw3
    walk_at "run"
    refine if_bool (fun _ => ?_) (fun _ => ?_)
    · walk_at "run"
      exact fin _ _ _ _ (Int.emod_nonneg _ (by omega)) (Int.emod_lt_of_pos _ h0)
    · walk_at "run"
      exact fin _ _ _ _ (Int.emod_nonneg _ (by omega)) (Int.emod_lt_of_pos _ h0)
def spBag5 : WSp := fun ts S Q _ => match ts with
  | [.fl us] => ∃ ns : List Int, us = ns.map T.int ∧ ∀ (p : Addr) S', S p = none → Gr S S' → (∃ q, IsBag (some q) S' p) → Q (.ref p) S'
  | _ => False
theorem hw_bag5 : ∀ ts S Q E, ts.length = 1 → spBag5 ts S Q E → b_bag5 { nx := fun _ S' => Q .non S', rt := Q } (Wp.startT ["script"] ts) S := by
  intro ts S Q E _ h
  match ts, h with
  | [.fl us], ⟨ns, e, h⟩ =>
    subst e
    unfold b_bag5
    walk_at "r0"
    intro q hq p hp
    have hqp : q ≠ p := fun e => by rw [e, upS_same] at hp; cases hp
    rw [upS_ne hqp.symm] at hp
    refine h p _ hp ((gr_new hq).trans (gr_new (by rw [upS_ne hqp.symm]; exact hp))) ⟨q, 0, 7, 0, 0, ns, upS_same, hqp, by rw [upS_ne hqp, upS_same], by omega⟩
theorem hw_draw5 : ∀ ts S Q E, ts.length = 2 → spDraw true ts S Q E → b_draw5 { nx := fun _ S' => Q .non S', rt := Q } (Wp.startT ["bag", "many", "cell", "cells", "seed", "rest"] ts) S := by
  intro ts S Q E _ h
  match ts, h with
  | [.ref p, .int m], ⟨some q, _, ⟨a, b, c, d, ns, hS, hqp, hq, hc⟩, h0, h1, h⟩ =>
    have fin : ∀ (r a b c d : Int), 0 ≤ r → r < m → 0 ≤ c → Q (.int r) (upS S p (.lst [.int a, .int b, .int c, .int d, .ref q])) := fun r a b c d g1 g2 g3 => h r _ g1 g2 ⟨fun x o e n => by rw [upS_ne n]; exact e, _, _, _, _, ns, upS_same, hqp, by rw [upS_ne hqp]; exact hq, g3⟩
    clear h
    have at3 : atI [T.int a, T.int b, T.int c, T.int d, T.ref q] 3 = some (.int d) := by rw [atI_3]; rfl
    unfold b_draw5
    have it : ∀ o, itemsT (upS S p o) (.ref q) = some (ns.map T.int) := fun o => itemsT_ref (by rw [upS_ne hqp]; exact hq)
    have it0 : itemsT S (.ref q) = some (ns.map T.int) := itemsT_ref hq
    walk_at "run"
    refine if_bool (fun _ => ?_) (fun _ => ?_)
    · walk_at "run"
      refine if_dec (fun hk => ?_) (fun hk => ?_)
      · obtain ⟨x, hx, hm⟩ := atI_in (xs := ns.map T.int) hc hk
        obtain ⟨n, _, rfl⟩ := List.mem_map.mp hm
        walk_at "run"
        refine if_dec (fun _ => ?_) (fun _ => ?_)
        · walk_at "run"
          exact fin _ _ _ _ _ (Int.emod_nonneg _ (by omega)) (Int.emod_lt_of_pos _ h0) (by omega)
        · walk_at "run"
          exact fin _ _ _ _ _ (Int.emod_nonneg _ (by omega)) (Int.emod_lt_of_pos _ h0) (by omega)
      · walk_at "run"
        refine if_dec (fun _ => ?_) (fun _ => ?_)
        · walk_at "run"
          exact fin _ _ _ _ _ (Int.emod_nonneg _ (by omega)) (Int.emod_lt_of_pos _ h0) (by omega)
        · walk_at "run"
          exact fin _ _ _ _ _ (Int.emod_nonneg _ (by omega)) (Int.emod_lt_of_pos _ h0) (by omega)
    · walk_at "run"
      exact fin _ _ _ _ _ (Int.emod_nonneg _ (by omega)) (Int.emod_lt_of_pos _ h0) (by omega)
end Wp

set_option Elab.async false
set_option linter.all false
set_option maxRecDepth 100000
/-! loops and comprehensions by an invariant over the turn -/
namespace Wp
open PySem PySem.Spec PyProof.Rows L2
theorem loop_inv_at {g : WG} {tb : WS} {stb : Sta → Prop} {D : WEnds} (xs : List T) (Inv : Nat → Sl → Sta → Prop) (hstb : ∀ i σ S, Inv i σ S → stb S)
    (step : ∀ i x σ S (LP : Sl → Sta → Prop), xs[i]? = some x → Inv i σ S → (∀ σ' S', Inv (i + 1) σ' S' → LP σ' S') → g x σ S fun σ2 S2 => tb { D with nx := LP, ct := LP, bk := D.nx } σ2 S2)
    (done : ∀ σ S, Inv xs.length σ S → D.nx σ S) : ∀ (n i : Nat), n + i = xs.length → ∀ σ S, Inv i σ S → loopW g tb stb D (xs.drop i) σ S
  | 0, i, hn, σ, S, h => by
    rw [show xs.drop i = [] by rw [List.drop_eq_nil_iff]; omega]
    exact ⟨hstb _ _ _ h, done σ S (by rw [← hn, Nat.zero_add]; exact h)⟩
  | n + 1, i, hn, σ, S, h => by
    have hi : i < xs.length := by omega
    rw [List.drop_eq_getElem_cons hi]
    exact ⟨hstb _ _ _ h, step i xs[i] σ S _ (List.getElem?_eq_getElem hi) h fun σ' S' h' => loop_inv_at xs Inv hstb step done n (i + 1) (by omega) σ' S' h'⟩
theorem loop_inv {g : WG} {tb : WS} {stb : Sta → Prop} {D : WEnds} {xs : List T} {σ : Sl} {S : Sta} (Inv : Nat → Sl → Sta → Prop) (h0 : Inv 0 σ S) (hstb : ∀ i σ S, Inv i σ S → stb S)
    (step : ∀ i x σ S (LP : Sl → Sta → Prop), xs[i]? = some x → Inv i σ S → (∀ σ' S', Inv (i + 1) σ' S' → LP σ' S') → g x σ S fun σ2 S2 => tb { D with nx := LP, ct := LP, bk := D.nx } σ2 S2)
    (done : ∀ σ S, Inv xs.length σ S → D.nx σ S) : loopW g tb stb D xs σ S := by
  have := loop_inv_at xs Inv hstb step done xs.length 0 (by omega) σ S h0
  rwa [List.drop_zero] at this
theorem comp_inv_at {g : WG} {tt : WT} {te : WE} {stb : Sta → Prop} {σ : Sl} {D : Addr} {Q : T → Sta → Prop} (xs : List T) (Inv : Nat → Sta → Prop) (hstb : ∀ i S, Inv i S → stb S)
    (step : ∀ i x S (LP : Sta → Prop), xs[i]? = some x → Inv i S → (∀ S', Inv (i + 1) S' → LP S') → g x σ S fun σ2 S2 => tt σ2 S2 fun b S3 => wif b (te σ2 S3 fun y S4 => ∃ acc, S4 D = some (.lst acc) ∧ acc.length < sizeLine ∧ LP (upS S4 D (.lst (acc ++ [y])))) (LP S3))
    (done : ∀ S, Inv xs.length S → Q (.ref D) S) : ∀ (n i : Nat), n + i = xs.length → ∀ S, Inv i S → compW g tt te stb σ D Q (xs.drop i) S
  | 0, i, hn, S, h => by
    rw [show xs.drop i = [] by rw [List.drop_eq_nil_iff]; omega]
    exact ⟨hstb _ _ h, done S (by rw [← hn, Nat.zero_add]; exact h)⟩
  | n + 1, i, hn, S, h => by
    have hi : i < xs.length := by omega
    rw [List.drop_eq_getElem_cons hi]
    exact ⟨hstb _ _ h, step i xs[i] S _ (List.getElem?_eq_getElem hi) h fun S' h' => comp_inv_at xs Inv hstb step done n (i + 1) (by omega) S' h'⟩
theorem comp_inv {g : WG} {tt : WT} {te : WE} {stb : Sta → Prop} {σ : Sl} {D : Addr} {Q : T → Sta → Prop} {xs : List T} {S : Sta} (Inv : Nat → Sta → Prop) (h0 : Inv 0 S) (hstb : ∀ i S, Inv i S → stb S)
    (step : ∀ i x S (LP : Sta → Prop), xs[i]? = some x → Inv i S → (∀ S', Inv (i + 1) S' → LP S') → g x σ S fun σ2 S2 => tt σ2 S2 fun b S3 => wif b (te σ2 S3 fun y S4 => ∃ acc, S4 D = some (.lst acc) ∧ acc.length < sizeLine ∧ LP (upS S4 D (.lst (acc ++ [y])))) (LP S3))
    (done : ∀ S, Inv xs.length S → Q (.ref D) S) : compW g tt te stb σ D Q xs S := by
  have := comp_inv_at xs Inv hstb step done xs.length 0 (by omega) S h0
  rwa [List.drop_zero] at this
/-- a comprehension without a test whose element is f of the item; what stands stays, a bag may change -/
theorem comp_map {g : WG} {te : WE} {stb : Sta → Prop} {σ : Sl} {D : Addr} {Q : T → Sta → Prop} {xs : List T} {S0 : Sta} (Rel : Sta → Sta → Prop) (f : Nat → T) (hS0 : S0 D = some (.lst [])) (hl : xs.length ≤ 1000000)
    (r0 : Rel S0 S0) (hstb : ∀ S, Rel S0 S → stb S)
    (up : ∀ S acc o, Rel S0 S → S D = some (.lst acc) → Rel S0 (upS S D o))
    (step : ∀ i x S acc (R : T → Sta → Prop), xs[i]? = some x → Rel S0 S → S D = some (.lst acc) → (∀ S', Rel S0 S' → S' D = some (.lst acc) → R (f i) S') → g x σ S fun σ2 S2 => te σ2 S2 R)
    (done : ∀ S, Rel S0 S → S D = some (.lst ((List.range xs.length).map f)) → Q (.ref D) S) : compW g wYes te stb σ D Q xs S0 :=
  comp_inv (fun i S => Rel S0 S ∧ S D = some (.lst ((List.range i).map f))) ⟨r0, hS0⟩ (fun i S h => hstb S h.1) (fun i x S LP hx h nx => by
    have hi : i < xs.length := (List.getElem?_eq_some_iff.mp hx).1
    have hh := step i x S _ (fun y S4 => ∃ acc, S4 D = some (.lst acc) ∧ acc.length < sizeLine ∧ LP (upS S4 D (.lst (acc ++ [y])))) hx h.1 h.2 fun S' r e => by
      refine ⟨_, e, ?_, nx _ ⟨up S' _ _ r e, ?_⟩⟩
      · rw [List.length_map, List.length_range]; exact lt_sz (by omega)
      · rw [upS_same, List.range_succ, List.map_append]; rfl
    exact (by
      show g x σ S fun σ2 S2 => wif true (te σ2 S2 _) _
      simp only [wif_true]
      exact hh)) fun S h => done S h.1 h.2
theorem all_inv_at {g : WG} {te : WE} {stb : Sta → Prop} {σ : Sl} {Q : T → Sta → Prop} (xs : List T) (f : T → Bool) (S : Sta) (hstb : stb S) (q : Q (.bl (xs.all f)) S)
    (step : ∀ x (R : T → Sta → Prop), x ∈ xs → R (.bl (f x)) S → g x σ S fun σ2 S2 => te σ2 S2 R) : allW g te stb σ Q xs S := by
  induction xs with
  | nil => exact ⟨hstb, q⟩
  | cons x xs ih =>
    refine ⟨hstb, step x _ List.mem_cons_self ?_⟩
    rw [List.all_cons] at q
    show wif (f x) _ _
    refine if_bool (fun h => ?_) (fun h => ?_)
    · rw [h, Bool.true_and] at q
      exact ih q fun y R hy => step y R (List.mem_cons_of_mem _ hy)
    · rw [h, Bool.false_and] at q
      exact q
theorem range_at {lo : Int} {n i : Nat} {x : T} (h : (rangeT lo n)[i]? = some x) : i < n ∧ x = .int (lo + (i : Int)) := by
  unfold rangeT at h
  rw [List.getElem?_map] at h
  cases e : (List.range n)[i]? with
  | none => rw [e] at h; cases h
  | some j =>
    obtain ⟨hi, ej⟩ := List.getElem?_eq_some_iff.mp e
    rw [List.length_range] at hi
    rw [List.getElem_range] at ej
    subst ej
    rw [e] at h
    cases h
    exact ⟨hi, rfl⟩
theorem rangeT_length {lo : Int} {n : Nat} : (rangeT lo n).length = n := by unfold rangeT; rw [List.length_map, List.length_range]
theorem map_at {α β : Type} {f : α → β} {xs : List α} {i : Nat} {y : β} (h : (xs.map f)[i]? = some y) : ∃ x, xs[i]? = some x ∧ y = f x := by
  rw [List.getElem?_map] at h
  cases e : xs[i]? with
  | none => rw [e] at h; cases h
  | some x => rw [e] at h; cases h; exact ⟨x, rfl, rfl⟩
end Wp

set_option Elab.async false
set_option linter.all false
set_option maxRecDepth 100000
/-! == over data without bools -/
namespace Wp
open PySem PySem.Spec PyProof.Rows L2
mutual
/-- data: no bools, no things that change -/
def nbT : T → Bool
  | .non => true
  | .bl _ => false
  | .int _ => true
  | .str x => PyData.strOk x
  | .tup ts => nbTs ts
  | .fl ts => nbTs ts
  | .ref _ => false
  | .pt _ => false
def nbTs : List T → Bool
  | [] => true
  | t :: ts => nbT t && nbTs ts
end
mutual
def dpT : T → Nat
  | .tup ts => dpTs ts + 1
  | .fl ts => dpTs ts + 1
  | _ => 0
def dpTs : List T → Nat
  | [] => 0
  | t :: ts => max (dpT t) (dpTs ts)
end
mutual
theorem nb_toD : ∀ t : T, nbT t = true → ∃ d, toD t = some d ∧ d.canLay0 = true ∧ d.depth ≤ dpT t + 1
  | .non, _ => ⟨.none, by simp only [toD], by simp only [PyData.canLay0], by simp only [PyData.depth]; omega⟩
  | .bl _, h => by simp [nbT] at h
  | .int i, _ => ⟨.int i, by simp only [toD], by simp only [PyData.canLay0], by simp only [PyData.depth]; omega⟩
  | .str x, h => ⟨.str x, by simp only [toD], by simp only [PyData.canLay0]; simpa only [nbT] using h, by simp only [PyData.depth]; omega⟩
  | .tup ts, h => by
    obtain ⟨ds, e1, e2, e3⟩ := nb_toDs ts (by simpa only [nbT] using h)
    exact ⟨.tuple ds, by simp only [toD, e1, Option.map_some], by simpa only [PyData.canLay0] using e2, by simp only [PyData.depth, dpT]; omega⟩
  | .fl ts, h => by
    obtain ⟨ds, e1, e2, e3⟩ := nb_toDs ts (by simpa only [nbT] using h)
    exact ⟨.list ds, by simp only [toD, e1, Option.map_some], by simpa only [PyData.canLay0] using e2, by simp only [PyData.depth, dpT]; omega⟩
  | .ref _, h => by simp [nbT] at h
  | .pt _, h => by simp [nbT] at h
theorem nb_toDs : ∀ ts : List T, nbTs ts = true → ∃ ds, toDs ts = some ds ∧ PyData.canLayAll0 ds = true ∧ PyData.depthAll ds ≤ dpTs ts + 1
  | [], _ => ⟨[], by simp only [toDs], by simp only [PyData.canLayAll0], by simp only [PyData.depthAll]; omega⟩
  | t :: ts, h => by
    simp only [nbTs, Bool.and_eq_true] at h
    obtain ⟨d, e1, e2, e3⟩ := nb_toD t h.1
    obtain ⟨ds, g1, g2, g3⟩ := nb_toDs ts h.2
    exact ⟨d :: ds, by simp only [toDs, e1, g1], by simp only [PyData.canLayAll0, e2, g2, Bool.and_self], by simp only [PyData.depthAll, dpTs]; omega⟩
end
mutual
theorem nb_eqv : ∀ (x y : T) (d e : PyData), nbT x = true → nbT y = true → toD x = some d → toD y = some e → (PyData.eqv d e = true ↔ x = y)
  | .non, y, d, e, hx, hy, ex, ey => by
    simp only [toD, Option.some.injEq] at ex; subst ex
    cases y <;> simp only [nbT] at hy <;> simp only [toD, Option.some.injEq, Option.map_eq_some_iff, reduceCtorEq] at ey <;> first
      | (subst ey; simp [PyData.eqv]; done)
      | (obtain ⟨es, _, rfl⟩ := ey; simp [PyData.eqv]; done)
      | (simp at hy; done)
  | .bl _, y, d, e, hx, hy, ex, ey => by simp [nbT] at hx
  | .int i, y, d, e, hx, hy, ex, ey => by
    simp only [toD, Option.some.injEq] at ex; subst ex
    cases y <;> simp only [nbT] at hy <;> simp only [toD, Option.some.injEq, Option.map_eq_some_iff, reduceCtorEq] at ey <;> first
      | (subst ey; simp [PyData.eqv]; done)
      | (obtain ⟨es, _, rfl⟩ := ey; simp [PyData.eqv]; done)
      | (simp at hy; done)
  | .str z, y, d, e, hx, hy, ex, ey => by
    simp only [toD, Option.some.injEq] at ex; subst ex
    cases y <;> simp only [nbT] at hy <;> simp only [toD, Option.some.injEq, Option.map_eq_some_iff, reduceCtorEq] at ey <;> first
      | (subst ey; simp [PyData.eqv]; done)
      | (obtain ⟨es, _, rfl⟩ := ey; simp [PyData.eqv]; done)
      | (simp at hy; done)
  | .tup ts, y, d, e, hx, hy, ex, ey => by
    simp only [toD, Option.map_eq_some_iff] at ex
    obtain ⟨ds, e1, rfl⟩ := ex
    cases y <;> simp only [nbT] at hy <;> simp only [toD, Option.some.injEq, Option.map_eq_some_iff, reduceCtorEq] at ey <;> first
      | (subst ey; simp [PyData.eqv]; done)
      | (obtain ⟨es, e2, rfl⟩ := ey; simp only [PyData.eqv, nb_eqvs ts _ ds es (by simpa only [nbT] using hx) (by simpa only [nbT] using hy) e1 e2, T.tup.injEq]; done)
      | (obtain ⟨es, _, rfl⟩ := ey; simp [PyData.eqv]; done)
      | (simp at hy; done)
  | .fl ts, y, d, e, hx, hy, ex, ey => by
    simp only [toD, Option.map_eq_some_iff] at ex
    obtain ⟨ds, e1, rfl⟩ := ex
    cases y <;> simp only [nbT] at hy <;> simp only [toD, Option.some.injEq, Option.map_eq_some_iff, reduceCtorEq] at ey <;> first
      | (subst ey; simp [PyData.eqv]; done)
      | (obtain ⟨es, e2, rfl⟩ := ey; simp only [PyData.eqv, nb_eqvs ts _ ds es (by simpa only [nbT] using hx) (by simpa only [nbT] using hy) e1 e2, T.fl.injEq]; done)
      | (obtain ⟨es, _, rfl⟩ := ey; simp [PyData.eqv]; done)
      | (simp at hy; done)
  | .ref _, y, d, e, hx, hy, ex, ey => by simp [nbT] at hx
  | .pt _, y, d, e, hx, hy, ex, ey => by simp [nbT] at hx
theorem nb_eqvs : ∀ (xs ys : List T) (ds es : List PyData), nbTs xs = true → nbTs ys = true → toDs xs = some ds → toDs ys = some es → (PyData.eqvAll ds es = true ↔ xs = ys)
  | [], [], ds, es, _, _, e1, e2 => by simp only [toDs, Option.some.injEq] at e1 e2; subst e1 e2; simp [PyData.eqvAll]
  | [], y :: ys, ds, es, _, hy, e1, e2 => by
    obtain ⟨es', g1, _, _⟩ := nb_toDs (y :: ys) hy
    simp only [toDs, Option.some.injEq] at e1
    subst e1
    cases es with
    | nil => simp only [toDs] at e2; split at e2 <;> cases e2
    | cons _ _ => simp [PyData.eqvAll]
  | x :: xs, [], ds, es, hx, _, e1, e2 => by
    simp only [toDs, Option.some.injEq] at e2
    subst e2
    cases ds with
    | nil => simp only [toDs] at e1; split at e1 <;> cases e1
    | cons _ _ => simp [PyData.eqvAll]
  | x :: xs, y :: ys, ds, es, hx, hy, e1, e2 => by
    simp only [nbTs, Bool.and_eq_true] at hx hy
    obtain ⟨d, a1, _, _⟩ := nb_toD x hx.1
    obtain ⟨ds', a2, _, _⟩ := nb_toDs xs hx.2
    obtain ⟨e, b1, _, _⟩ := nb_toD y hy.1
    obtain ⟨es', b2, _, _⟩ := nb_toDs ys hy.2
    simp only [toDs, a1, a2, Option.some.injEq] at e1
    simp only [toDs, b1, b2, Option.some.injEq] at e2
    subst e1 e2
    rw [PyData.eqvAll, Bool.and_eq_true, nb_eqv x y d e hx.1 hy.1 a1 b1, nb_eqvs xs ys ds' es' hx.2 hy.2 a2 b2, List.cons.injEq]
end
/-- a value as it stands: a list by its items -/
def see (S : Sta) : T → T
  | .ref p => match S p with
    | some (.lst ts) => .fl ts
    | _ => .ref p
  | t => t
theorem see_ref {S : Sta} {p : Addr} {ts : List T} (h : S p = some (.lst ts)) : see S (.ref p) = .fl ts := by simp only [see, h]
theorem dd_see {S : Sta} {t : T} : dd S t = toD (see S t) := by
  cases t with
  | ref p =>
    simp only [dd, see]
    cases e : S p with
    | none => simp only [toD]
    | some o => cases o <;> simp only [toD]
  | _ => rfl
/-- == -/
theorem rEq_nb {neg : Bool} {x y : T} {S : Sta} {Q : T → Sta → Prop} {x' y' : T} (ex : see S x = x') (ey : see S y = y') (hx : nbT x' = true) (hy : nbT y' = true) (dx : dpT x' ≤ 60) (dy : dpT y' ≤ 60) (h1 : x' = y' → Q (.bl (!neg)) S) (h2 : x' ≠ y' → Q (.bl neg) S) : Wp.rEq neg x y S Q := by
  subst ex ey
  obtain ⟨d, a1, a2, a3⟩ := nb_toD _ hx
  obtain ⟨e, b1, b2, b3⟩ := nb_toD _ hy
  refine ⟨d, by rw [dd_see]; exact a1, e, by rw [dd_see]; exact b1, ?_, ?_, ?_⟩
  · unfold SeqAt.shaped; rw [a2, Bool.true_and]; exact decide_eq_true (by omega)
  · unfold SeqAt.shaped; rw [b2, Bool.true_and]; exact decide_eq_true (by omega)
  · have k := nb_eqv _ _ d e hx hy a1 b1
    by_cases h : see S x = see S y
    · rw [k.mpr h]
      have := h1 h
      cases neg <;> exact this
    · have z : PyData.eqv d e = false := by
        cases q : PyData.eqv d e with
        | false => rfl
        | true => exact absurd (k.mp q) h
      rw [z]
      have := h2 h
      cases neg <;> exact this
theorem nb_ints (ns : List Int) : nbTs (ns.map T.int) = true := by
  induction ns with
  | nil => rfl
  | cons n ns ih => simp only [List.map_cons, nbTs, nbT, ih, Bool.and_self]
theorem dp_ints (ns : List Int) : dpTs (ns.map T.int) = 0 := by
  induction ns with
  | nil => rfl
  | cons n ns ih => simp only [List.map_cons, dpTs, dpT, ih, Nat.max_self]
theorem ints_inj {ns ms : List Int} : ns.map T.int = ms.map T.int ↔ ns = ms := by
  constructor
  · intro h
    induction ns generalizing ms with
    | nil => cases ms with
      | nil => rfl
      | cons m ms => simp at h
    | cons n ns ih => cases ms with
      | nil => simp at h
      | cons m ms =>
        simp only [List.map_cons, List.cons.injEq, T.int.injEq] at h
        rw [h.1, ih h.2]
  · intro h; rw [h]
end Wp
namespace Wp
open PySem PySem.Spec PyProof.Rows L2
theorem sIx_nat {n d : Nat} (i : Nat) : HT.sIx n d (some (i : Int)) = min i n := by
  unfold HT.sIx
  simp
  omega
theorem sIx_none {n d : Nat} : HT.sIx n d none = d := rfl
theorem cutT_to (xs : List T) (i : Nat) : cutT xs none (some (i : Int)) = xs.take i := by
  unfold cutT
  rw [sIx_nat, sIx_none, List.drop_zero, Nat.sub_zero]
  by_cases h : i ≤ xs.length
  · rw [Nat.min_eq_left h]
  · rw [Nat.min_eq_right (by omega), List.take_of_length_le (Nat.le_refl _), List.take_of_length_le (by omega)]
theorem cutT_from (xs : List T) (i : Nat) : cutT xs (some (i : Int)) none = xs.drop i := by
  unfold cutT
  rw [sIx_nat, sIx_none]
  by_cases h : i ≤ xs.length
  · rw [Nat.min_eq_left h, List.take_of_length_le (by rw [List.length_drop]; omega)]
  · rw [Nat.min_eq_right (by omega), Nat.sub_self, List.take_zero, List.drop_eq_nil_of_le (by omega)]
theorem cutT_both (xs : List T) (i j : Nat) : cutT xs (some (i : Int)) (some (j : Int)) = (xs.drop i).take (j - i) := by
  unfold cutT
  rw [sIx_nat, sIx_nat]
  by_cases h : i ≤ xs.length
  · rw [Nat.min_eq_left h]
    by_cases h2 : j ≤ xs.length
    · rw [Nat.min_eq_left h2]
    · rw [Nat.min_eq_right (by omega), List.take_of_length_le (by rw [List.length_drop]; omega), List.take_of_length_le (by rw [List.length_drop]; omega)]
  · rw [Nat.min_eq_right (show xs.length ≤ i by omega), List.drop_eq_nil_of_le (show xs.length ≤ i by omega), List.drop_length]
    simp
theorem ex_map_ints {ns : List Int} {P : List Int → Prop} : (∃ ds, ns.map T.int = ds.map T.int ∧ P ds) = P ns := by
  apply propext
  constructor
  · rintro ⟨ds, e, h⟩; rw [ints_inj.mp e]; exact h
  · intro h; exact ⟨ns, rfl, h⟩
end Wp

set_option Elab.async false
set_option linter.all false
set_option maxRecDepth 100000
set_option maxHeartbeats 1000000
/-! objects: attributes, methods, new instances; errors -/
namespace Wp
open PySem PySem.Spec PyProof.Rows L2
def putFT (f : Str) (v : T) : List (Str × T) → List (Str × T)
  | [] => [(f, v)]
  | (g, x) :: r => if g = f then (g, v) :: r else (g, x) :: putFT f v r
theorem KRep.put {K : PySem.W.Frag} {H : Hp} {f : Str} {t : T} {v : V} (r : Rep K H t v) : ∀ {fs : List (Str × T)} {gs : List (Str × V)}, FRep K H fs gs → FRep K H (putFT f t fs) (putF f v gs)
  | _, _, .nil => .cons r .nil
  | _, _, .cons (f := g) h1 h2 => by
    unfold putFT putF
    split
    · exact .cons r h2
    · exact .cons h1 (KRep.put r h2)
theorem KRep.look {K : PySem.W.Frag} {H : Hp} {f : Str} {t : T} : ∀ {fs : List (Str × T)} {gs : List (Str × V)}, FRep K H fs gs → fs.lookup f = some t → ∃ v, gs.lookup f = some v ∧ Rep K H t v
  | _, _, .nil, e => by cases e
  | _, _, .cons (f := g) h1 h2, e => by
    rw [List.lookup_cons] at e ⊢
    split at e
    · cases e; exact ⟨_, rfl, h1⟩
    · exact KRep.look h2 e
theorem KRep.lookN {K : PySem.W.Frag} {H : Hp} {f : Str} : ∀ {fs : List (Str × T)} {gs : List (Str × V)}, FRep K H fs gs → fs.lookup f = none → gs.lookup f = none
  | _, _, .nil, e => rfl
  | _, _, .cons (f := g) h1 h2, e => by
    rw [List.lookup_cons] at e ⊢
    split at e
    · cases e
    · exact KRep.lookN h2 e
section
variable {B : Hp} {X : Cx} {C : Addr} {f : Str} {o e value : Expr} {to te : WE} {pos pos' tpos : Pos}
/-- o.f -/
def wFld (C : Addr) (f : Str) (to : WE) (σ : Sl) (S : Sta) (Q : T → Sta → Prop) : Prop := to σ S fun x S1 => match x with
  | .ref p => ∃ fs, S1 p = some (.ins C fs) ∧ ∃ v, fs.lookup f = some v ∧ Q v S1
  | _ => False
theorem j_fld (c : Cls X.K C) (n : NoAttr X.K C f) (ho : JE B X o to) (hb : attributeBase o f X.env (eval o X.env) = eval o X.env := by rfl) : JE B X (.Attribute o f pos) (wFld C f to) :=
  pe_imp (pe_fld ho hb) fun σ H Q ⟨st, S, Q0, he, hr, hs, h, im⟩ => by
    refine ⟨st, S, _, he, hr, hs, h, fun x S1 h1 H1 v e1 s1 r1 => ?_⟩
    cases x with
    | ref p =>
      obtain ⟨fs, e2, y, e3, q⟩ := h1
      cases r1
      obtain ⟨dx, gs, e4, r4⟩ := s1 p _ e2
      obtain ⟨w, e5, r5⟩ := r4.look e3
      exact ⟨p, C, dx, gs, w, rfl, e4, c, n, e5, im _ _ q H1 w e1 s1 r5⟩
    | _ => exact h1.elim
/-- o.f = e -/
def wFSet (C : Addr) (f : Str) (to te : WE) (D : WEnds) (σ : Sl) (S : Sta) : Prop := te σ S fun y S1 => to σ S1 fun x S2 => match x with
  | .ref p => ∃ fs, S2 p = some (.ins C fs) ∧ fs.length < 1000 ∧ goS D.nx σ (upS S2 p (.ins C (putFT f y fs)))
  | _ => False
theorem insW {K : PySem.W.Frag} {S : Sta} {H : Hp} {p C dx : Addr} {fs : List (Str × T)} {gs : List (Str × V)} {f : Str} {y : T} {v : V} (hs : St K S H) (e : H p = some (.ins C dx gs)) (r : FRep K H fs gs) (ry : Rep K H y v) :
    Ext H (upd H p (.ins C dx (putF f v gs))) ∧ St K (upS S p (.ins C (putFT f y fs))) (upd H p (.ins C dx (putF f v gs))) :=
  hs.setO e trivial fun ex => ⟨dx, _, upd_same, (r.put ry).mono ex⟩
theorem js_fset (c : Cls X.K C) (n : NoAttr X.K C f) (ho : JE B X o to) (hv : JE B X value te) (hs : swapsWith value (some (.Attribute o f pos')) pos.line X.env = pure false := by rfl) : JS B X (.Assign [.Attribute o f pos'] value pos) (wFSet C f to te) :=
  ps_imp (ps_fld ho hv hs) fun D σ H ⟨st, S, D0, he, hr, hs, h, im⟩ => by
    refine ⟨st, S, _, he, hr, hs, h, fun y S1 h1 H1 v e1 s1 r1 => ?_⟩
    refine ⟨st, S1, _, he.trans e1, hr.mono e1, s1, h1, fun x S2 h2 H2 u e2 s2 r2 => ?_⟩
    cases x with
    | ref p =>
      obtain ⟨fs, e3, hl, q⟩ := h2
      cases r2
      obtain ⟨dx, gs, e4, r4⟩ := s2 p _ e3
      have ry := Rep.mono e2 _ _ r1
      obtain ⟨e5, s5⟩ := insW (f := f) s2 e4 r4 ry
      refine ⟨p, C, dx, gs, rfl, e4, c, n, by rw [← r4.length]; exact hl, ?_⟩
      exact im.nx _ _ q _ σ ((e1.trans e2).trans e5) s5 (hr.mono ((e1.trans e2).trans e5))
    | _ => exact h2.elim
/-- o.f op= e -/
def wFAug (C : Addr) (f : Str) (r : R3) (to te : WE) (D : WEnds) (σ : Sl) (S : Sta) : Prop := to σ S fun x S1 => match x with
  | .ref p => ∃ fs, S1 p = some (.ins C fs) ∧ ∃ v, fs.lookup f = some v ∧ te σ S1 fun y S2 => r v y S2 fun z S3 => ∃ fs', S3 p = some (.ins C fs') ∧ fs'.length < 1000 ∧ goS D.nx σ (upS S3 p (.ins C (putFT f z fs')))
  | _ => False
theorem js_faug {op : Operator} {r : R3} (c : Cls X.K C) (n : NoAttr X.K C f) (ho : JE B X o to) (hv : JE B X value te) (hop : OpT X (inplaceOp op) r) : JS B X (.AugAssign (.Attribute o f tpos) op value pos) (wFAug C f r to te) :=
  ps_imp (ps_fldaug (rd := L3 X.K r) ho hv (fun pins s σ H x y u v Q I ru rv h => hop pins s σ H x y u v Q I ru rv h)) fun D σ H ⟨st, S, D0, he, hr, hs, h, im⟩ => by
    refine ⟨st, S, _, he, hr, hs, h, fun x S1 h1 H1 v e1 s1 r1 => ?_⟩
    cases x with
    | ref p =>
      obtain ⟨fs, e2, y, e3, q⟩ := h1
      cases r1
      obtain ⟨dx, gs, e4, r4⟩ := s1 p _ e2
      obtain ⟨w, e5, r5⟩ := r4.look e3
      refine ⟨p, C, dx, gs, w, rfl, e4, c, n, e5, st, S1, _, he.trans e1, hr.mono e1, s1, q, fun z S2 q2 H2 u e6 s6 r6 => ?_⟩
      refine ⟨y, z, S2, _, Rep.mono e6 _ _ r5, r6, s6, q2, fun z2 S3 q3 H3 u3 e7 s7 r7 => ?_⟩
      obtain ⟨fs', e8, hl, q4⟩ := q3
      obtain ⟨dx', gs', e9, r9⟩ := s7 p _ e8
      obtain ⟨e10, s10⟩ := insW (f := f) s7 e9 r9 r7
      refine ⟨dx', gs', e9, by rw [← r9.length]; exact hl, ?_⟩
      have ee := e1.trans (e6.trans (e7.trans e10))
      exact im.nx _ _ q4 _ σ ee s10 (hr.mono ee)
    | _ => exact h1.elim
end
/-! ### methods, new instances -/
section
variable {B : Hp} {X : Cx} {C : Addr} {m x : Str} {o e : Expr} {es : List Expr} {to : WE} {t : WA} {p pos apos : Pos} {k : Nat} {ps : List Str} {s : WSp} {tl : List Addr}
/-- a class's method -/
def CalM (P : Program) (w : World) (K : PySem.W.Frag) (mg : Str → Option Value) (base : Heap) (tl : List Addr) (k : Nat) (C : Addr) (m : Str) (ps : List Str) (s : WSp) : Prop :=
  ∃ f fd, FnOk P w K mg base CX0 k f fd ps (Lsp tl K ps.length s) ∧ Meth K C m f ∧ Binds K fd ps []
theorem CalM.mono {P : Program} {w : World} {K : PySem.W.Frag} {mg : Str → Option Value} {base : Heap} {j : Nat} (c : CalM P w K mg base tl j C m ps s) (h : j ≤ k) : CalM P w K mg base tl k C m ps s := by
  obtain ⟨f, fd, F, m, b⟩ := c
  exact ⟨f, fd, F.mono h, m, b⟩
theorem CalM.imp {P : Program} {w : World} {K : PySem.W.Frag} {mg : Str → Option Value} {base : Heap} {s' : WSp} (c : CalM P w K mg base tl k C m ps s) (h : ∀ ts S Q E, s' ts S Q E → s ts S Q E) : CalM P w K mg base tl k C m ps s' := by
  obtain ⟨f, fd, F, m, b⟩ := c
  exact ⟨f, fd, fn_imp F h, m, b⟩
def wMeth (C : Addr) (m : Str) (n : Nat) (w : WSp) (to : WE) (t : WA) (σ : Sl) (S : Sta) (Q : T → Sta → Prop) : Prop := to σ S fun x S1 => match x with
  | .ref p => ∃ fs, S1 p = some (.ins C fs) ∧ fs.lookup m = none ∧ t σ S1 fun ts S2 => ts.length + 1 = n ∧ w (.ref p :: ts) S2 Q fun _ _ => False
  | _ => False
theorem j_meth (c : CalM X.prog X.w X.K X.mg X.base tl k C m ps s) (cl : Cls X.K C) (ht : ∀ P ∈ tl, GxR.TabG B P) (hr : Room k X.A) (ho : JE B X o to) (ha : JA B X (e :: es) t)
    (hst : starEach (e :: es) X.env = (false, eval e X.env) :: starEach es X.env := by rfl) (hpl : (backTo pos (starEach es X.env)).any (·.1) = false := by rfl) {pl : Sem Bool}
    (hte : eval (.Call (.Attribute o m apos) (e :: es) [] pos) X.env = (do
      let ov ← eval o X.env
      standAt apos.atName
      let (f, first) ← holding [ov] (getMethod ov m pl)
      callWith pos f first (backTo pos (starEach (e :: es) X.env)) (backToKw pos (keywordEach [] X.env))) := by rfl) :
    JE B X (.Call (.Attribute o m apos) (e :: es) [] pos) (wMeth C m ps.length s to t) := by
  obtain ⟨f, fd, F, hm, b⟩ := c
  refine pe_imp (pe_meth (pl := pl) ho cl hm F hr b .nil pass0 ha hst hpl hte) fun σ H Q ⟨st, S, Q0, he, hr, hs, h, im⟩ => ?_
  refine ⟨st, S, _, he, hr, hs, h, fun x S1 h1 H1 v e1 s1 r1 => ?_⟩
  cases x with
  | ref p =>
    obtain ⟨fs, e2, hl, q⟩ := h1
    cases r1
    obtain ⟨dx, gs, e4, r4⟩ := s1 p _ e2
    refine ⟨p, dx, gs, rfl, e4, r4.lookN hl, st, S1, _, he.trans e1, hr.mono e1, s1, q, fun ts S2 h2 H2 vs e6 s6 r6 => ?_⟩
    refine ⟨fun P hP => (he.trans (e1.trans e6)).tabs P (ht P hP), .ref p :: ts, S2, Q0, fun _ _ => False, by rw [List.length_cons]; exact h2.1, by rw [List.append_nil]; exact .cons (.ref p) r6, s6, h2.2, fun z S3 q => fin_ext (e1.trans e6) (im z S3 q), fun C S' H' q => q.elim⟩
  | _ => exact h1.elim
theorem j_meth0 (c : CalM X.prog X.w X.K X.mg X.base tl k C m ps s) (cl : Cls X.K C) (ht : ∀ P ∈ tl, GxR.TabG B P) (hr : Room k X.A) (ho : JE B X o to) {pl : Sem Bool}
    (hte : eval (.Call (.Attribute o m apos) [] [] pos) X.env = (do
      let ov ← eval o X.env
      standAt apos.atName
      let (f, first) ← holding [ov] (getMethod ov m pl)
      callWith pos f first (backTo pos (starEach [] X.env)) (backToKw pos (keywordEach [] X.env))) := by rfl) :
    JE B X (.Call (.Attribute o m apos) [] [] pos) (wMeth C m ps.length s to wNil) := by
  obtain ⟨f, fd, F, hm, b⟩ := c
  refine pe_imp (pe_meth0 (pl := pl) ho cl hm F hr b .nil pass0 hte) fun σ H Q ⟨st, S, Q0, he, hr, hs, h, im⟩ => ?_
  refine ⟨st, S, _, he, hr, hs, h, fun x S1 h1 H1 v e1 s1 r1 => ?_⟩
  cases x with
  | ref p =>
    obtain ⟨fs, e2, hl, h2⟩ := h1
    cases r1
    obtain ⟨dx, gs, e4, r4⟩ := s1 p _ e2
    refine ⟨p, dx, gs, rfl, e4, r4.lookN hl, fun P hP => (he.trans e1).tabs P (ht P hP), [.ref p], S1, Q0, fun _ _ => False, h2.1, .cons (.ref p) .nil, s1, h2.2, fun z S3 q => fin_ext e1 (im z S3 q), fun C S' H' q => q.elim⟩
  | _ => exact h1.elim
/-- a class and its __init__ -/
def CalI (P : Program) (w : World) (K : PySem.W.Frag) (mg : Str → Option Value) (base : Heap) (tl : List Addr) (k : Nat) (C : Addr) (x : Str) (ps : List Str) (s : WSp) : Prop :=
  ∃ f fd, FnOk P w K mg base CX0 k f fd ps (Lsp tl K ps.length s) ∧ Mk K C f ∧ mg x = some (.ref C) ∧ Binds K fd ps []
theorem CalI.mono {P : Program} {w : World} {K : PySem.W.Frag} {mg : Str → Option Value} {base : Heap} {j : Nat} (c : CalI P w K mg base tl j C x ps s) (h : j ≤ k) : CalI P w K mg base tl k C x ps s := by
  obtain ⟨f, fd, F, m, b⟩ := c
  exact ⟨f, fd, F.mono h, m, b⟩
def wMake (C : Addr) (n : Nat) (w : WSp) (t : WA) (σ : Sl) (S : Sta) (Q : T → Sta → Prop) : Prop := t σ S fun ts S1 => ts.length + 1 = n ∧ ∀ p, S1 p = none → w (.ref p :: ts) (upS S1 p (.ins C [])) (fun v S2 => v = .non ∧ Q (.ref p) S2) fun _ _ => False
theorem make_le {B H1 : Hp} {n : Nat} {S1 : Sta} {ts : List T} {vs : List V} {Q0 : T → Sta → Prop} {Q : VK} (he : Ext B H1) (hs : St X.K S1 H1) (r : Reps X.K H1 ts vs) (ht : ∀ P ∈ tl, GxR.TabG B P) (im : Im2 Q0 (fin X.K H1 Q))
    (h : ts.length + 1 = n ∧ ∀ p, S1 p = none → s (.ref p :: ts) (upS S1 p (.ins C [])) (fun v S2 => v = .non ∧ Q0 (.ref p) S2) fun _ _ => False) : ∀ x dx, H1 x = none → H1 dx = none → dx ≠ x →
      Lsp tl X.K n s (.ref x :: (vs ++ [])) (upd (upd H1 dx (.own x)) x (.ins C dx [])) (fun v H2 => v = .non ∧ Q (.ref x) H2) E0 := fun x dx hx hd hne => by
  have e1 := Ext.new (o := HO.own x) hd
  have s1 := hs.new hd (.own x)
  have hx1 : upd H1 dx (.own x) x = none := by rw [upd_ne hne.symm]; exact hx
  obtain ⟨e2, s2⟩ := s1.newO (u' := .ins C dx []) (o' := .ins C []) hx1 fun ex => ⟨dx, [], upd_same, .nil⟩
  have ee := e1.trans e2
  refine ⟨fun P hP => (he.trans ee).tabs P (ht P hP), .ref x :: ts, _, _, fun _ _ => False, by rw [List.length_cons]; exact h.1, by rw [List.append_nil]; exact .cons (.ref x) (Reps.mono ee _ _ r), s2, h.2 x (s1.free hx1), fun z S3 q H3 v e3 s3 r3 => ?_, fun C S' H' q => q.elim⟩
  obtain ⟨ez, q⟩ := q
  subst ez
  cases r3
  exact ⟨rfl, im _ _ q H3 _ (ee.trans e3) s3 (.ref x)⟩
theorem j_make (c : CalI X.prog X.w X.K X.mg X.base tl k C x ps s) (ht : ∀ P ∈ tl, GxR.TabG B P) (hr : Room (k + 1) X.A) (hg : Gl X x) (ha : JA B X (e :: es) t) (hdb : (x == ("__debug__" : Str)) = false := by decide)
    (he : starEach (e :: es) X.env = (false, eval e X.env) :: starEach es X.env := by rfl) (hpl : (backTo pos (starEach es X.env)).any (·.1) = false := by rfl) : JE B X (.Call (.Name x p) (e :: es) [] pos) (wMake C ps.length s t) := by
  obtain ⟨f, fd, F, M, hm, b⟩ := c
  refine pe_imp (pe_make M F hr hg hm b .nil pass0 ha hdb he hpl) fun σ H Q ⟨st, S, Q0, he, hr, hs, h, im⟩ => ?_
  refine ⟨st, S, _, he, hr, hs, h, fun ts S1 h1 H1 vs e1 s1 r1 => ?_⟩
  exact make_le (he.trans e1) s1 r1 ht (fun z S3 q => fin_ext e1 (im z S3 q)) h1
theorem j_make0 (c : CalI X.prog X.w X.K X.mg X.base tl k C x ps s) (ht : ∀ P ∈ tl, GxR.TabG B P) (hr : Room (k + 1) X.A) (hg : Gl X x) (hdb : (x == ("__debug__" : Str)) = false := by decide) : JE B X (.Call (.Name x p) [] [] pos) (wMake C ps.length s wNil) := by
  obtain ⟨f, fd, F, M, hm, b⟩ := c
  refine pe_imp (pe_make0 M F hr hg hm b .nil pass0 hdb) fun σ H Q ⟨st, S, Q0, he, hr, hs, h, im⟩ => ?_
  exact make_le (vs := []) he hs .nil ht im h
end
/-- a method of the text -/
def DefM (K : PySem.W.Frag) (C : Addr) (m qual : Str) (st : Stmt) (ps : List Str) : Prop := ∃ f fd, Fun K m qual st f fd ∧ Meth K C m f ∧ Binds K fd ps []
def DefI (K : PySem.W.Frag) (mg : Str → Option Value) (C : Addr) (x qual : Str) (st : Stmt) (ps : List Str) : Prop := ∃ f fd, Fun K "__init__" qual st f fd ∧ Mk K C f ∧ mg x = some (.ref C) ∧ Binds K fd ps []
section
variable {P : Program} {w : World} {K : PySem.W.Frag} {mg : Str → Option Value} {base : Heap} {k : Nat} {C : Addr} {m x qual : Str} {st : Stmt} {ps : List Str} {s : WSp} {tl : List Addr}
theorem DefM.cal (D : DefM K C m qual st ps) (h : ∀ f fd, Fun K m qual st f fd → FnOk P w K mg base CX0 k f fd ps (Lsp tl K ps.length s)) : CalM P w K mg base tl k C m ps s := by
  obtain ⟨f, fd, F, m, b⟩ := D
  exact ⟨f, fd, h f fd F, m, b⟩
theorem DefI.cal (D : DefI K mg C x qual st ps) (h : ∀ f fd, Fun K "__init__" qual st f fd → FnOk P w K mg base CX0 k f fd ps (Lsp tl K ps.length s)) : CalI P w K mg base tl k C x ps s := by
  obtain ⟨f, fd, F, M, m, b⟩ := D
  exact ⟨f, fd, h f fd F, M, m, b⟩
theorem defM_mk {f : Addr} {oc : Value} {od an : Option Addr} {osl : Array (Option Value)} {kV doc pm cdv ct : Value} (a : PySem.W.findIn K (.ref C) m = some (some (.ref f))) (i : PySem.W.isFn K (.ref f) = true)
    (l : K.lookup f = some ⟨oc, od, .func (PySem.W.fnOf m qual (defArgs st) (defBody st) (defScope st) .none kV doc pm an cdv ct), osl⟩) (c : PySem.W.codeIn K cdv qual = true) (k : PySem.W.keepIn K (.ref f) = true)
    (h : ∀ (kV doc pm : Value) (an : Option Addr) (cdv ct : Value) (us : List Value), us.length = ps.length → bindArgs (PySem.W.fnOf m qual (defArgs st) (defBody st) (defScope st) .none kV doc pm an cdv ct) ⟨us, []⟩ = pure (ps.zip us)) : DefM K C m qual st ps :=
  ⟨f, _, fun_mk l c k, ⟨a, i, k⟩, (fun_mk l c k).binds h⟩
theorem defI_mk {f : Addr} {oc : Value} {od an : Option Addr} {osl : Array (Option Value)} {kV doc pm cdv ct : Value} (a : PySem.W.findIn K (.ref C) "__init__" = some (some (.ref f))) (i : PySem.W.isFn K (.ref f) = true) (mk : PySem.W.makesIn K C = true) (kc : PySem.W.keepIn K (.ref C) = true) (hm : mg x = some (.ref C))
    (l : K.lookup f = some ⟨oc, od, .func (PySem.W.fnOf "__init__" qual (defArgs st) (defBody st) (defScope st) .none kV doc pm an cdv ct), osl⟩) (c : PySem.W.codeIn K cdv qual = true) (k : PySem.W.keepIn K (.ref f) = true)
    (h : ∀ (kV doc pm : Value) (an : Option Addr) (cdv ct : Value) (us : List Value), us.length = ps.length → bindArgs (PySem.W.fnOf "__init__" qual (defArgs st) (defBody st) (defScope st) .none kV doc pm an cdv ct) ⟨us, []⟩ = pure (ps.zip us)) : DefI K mg C x qual st ps :=
  ⟨f, _, fun_mk l c k, ⟨mk, a, i, kc⟩, hm, (fun_mk l c k).binds h⟩
end
end Wp

set_option Elab.async false
set_option linter.all false
set_option maxRecDepth 100000
/-! dicts whose keys are tuples, nested ones too -/
namespace Wp
open PySem PySem.Spec PyProof.Rows L2
abbrev NK := NestedKey
/-! ### keys -/
mutual
def nkT : T → Option NK
  | .non => some .none
  | .int i => some (.num i)
  | .tup ts => (nkTs ts).map .tup
  | _ => none
def nkTs : List T → Option (List NK)
  | [] => some []
  | t :: ts => (nkT t).bind fun k => (nkTs ts).map fun ks => k :: ks
end
mutual
theorem nkT_tk : ∀ (t : T) (k : NK), nkT t = some k → t = tk k ∧ freeK k = true
  | .non, k, h => by cases h; exact ⟨rfl, rfl⟩
  | .int i, k, h => by cases h; exact ⟨rfl, rfl⟩
  | .tup ts, k, h => by
    rw [nkT, Option.map_eq_some_iff] at h
    obtain ⟨ks, e, rfl⟩ := h
    obtain ⟨e1, e2⟩ := nkTs_tk ts ks e
    exact ⟨by rw [tk, e1], by rw [freeK, e2]⟩
  | .bl _, _, h => by cases h
  | .str _, _, h => by cases h
  | .fl _, _, h => by cases h
  | .ref _, _, h => by cases h
  | .pt _, _, h => by cases h
theorem nkTs_tk : ∀ (ts : List T) (ks : List NK), nkTs ts = some ks → ts = tks ks ∧ freeKs ks = true
  | [], ks, h => by cases h; exact ⟨rfl, rfl⟩
  | t :: ts, ks, h => by
    rw [nkTs, Option.bind_eq_some_iff] at h
    obtain ⟨k, e1, h⟩ := h
    rw [Option.map_eq_some_iff] at h
    obtain ⟨ks', e2, rfl⟩ := h
    obtain ⟨a1, a2⟩ := nkT_tk t k e1
    obtain ⟨b1, b2⟩ := nkTs_tk ts ks' e2
    exact ⟨by rw [tks, ← a1, ← b1], by rw [freeKs, a2, b2]; rfl⟩
end
mutual
theorem nkT_of : ∀ (k : NK), freeK k = true → nkT (tk k) = some k
  | .none, _ => rfl
  | .num _, _ => rfl
  | .text _, h => by cases h
  | .tup ks, h => by
    rw [freeK] at h
    rw [tk, nkT, nkTs_of ks h]; rfl
theorem nkTs_of : ∀ (ks : List NK), freeKs ks = true → nkTs (tks ks) = some ks
  | [], _ => rfl
  | k :: ks, h => by
    rw [freeKs, Bool.and_eq_true] at h
    rw [tks, nkTs, nkT_of k h.1, nkTs_of ks h.2]; rfl
end
def isTupK : NK → Bool
  | .tup _ => true
  | _ => false
/-- the key that a tree is -/
def keyN (y : T) : Option NK := (nkT y).bind fun k => if isTupK k && decide (k.depth ≤ 8) then some k else none
theorem keyN_tk {y : T} {k : NK} (h : keyN y = some k) : y = tk k ∧ fineK k = true ∧ isTupK k = true := by
  unfold keyN at h
  obtain ⟨k', e, h⟩ := Option.bind_eq_some_iff.mp h
  split at h
  · rename_i c
    cases h
    obtain ⟨a, b⟩ := nkT_tk _ _ e
    rw [Bool.and_eq_true] at c
    exact ⟨a, by unfold fineK; rw [b, c.2]; rfl, c.1⟩
  · cases h
theorem keyN_of {k : NK} (h : fineK k = true) (ht : isTupK k = true) : keyN (tk k) = some k := by
  unfold fineK at h
  rw [Bool.and_eq_true] at h
  unfold keyN
  rw [nkT_of k h.1]
  show (if (isTupK k && decide (k.depth ≤ 8)) = true then some k else none) = some k
  rw [if_pos (by rw [ht, h.2]; rfl)]
mutual
theorem hash_free (w w' : World) : ∀ k : NK, freeK k = true → k.hash w = k.hash w'
  | .none, _ => rfl
  | .num _, _ => rfl
  | .text _, h => by cases h
  | .tup ks, h => by
    rw [freeK] at h
    rw [NestedKey.hash, NestedKey.hash, hashes_free w w' ks h]
theorem hashes_free (w w' : World) : ∀ ks : List NK, freeKs ks = true → NestedKey.hashes w ks = NestedKey.hashes w' ks
  | [], _ => rfl
  | k :: ks, h => by
    rw [freeKs, Bool.and_eq_true] at h
    rw [NestedKey.hashes, NestedKey.hashes, hash_free w w' k h.1, hashes_free w w' ks h.2]
end
section
variable {P : Program} {w : World} {K : PySem.W.Frag} {H : Hp} {h : Heap}
mutual
theorem is_nk (ok : HOk P w H h) : ∀ (k : NK) (v : V) (u : Value), Rep K H (tk k) v → RelV v u → NestedIs h k u
  | .none, _, _, r, q => by
    rw [tk] at r
    cases r
    cases q
    exact .none
  | .num i, _, _, r, q => by
    rw [tk] at r
    cases r
    obtain ⟨t, rfl⟩ := q
    exact .int i t
  | .text x, _, _, r, q => by
    rw [tk] at r
    cases r
    obtain ⟨t, rfl⟩ := q
    exact .text x t
  | .tup ks, _, _, r, q => by
    rw [tk] at r
    cases r with
    | @tup a xs _ e1 r =>
      cases q
      obtain ⟨_, its, rv, o, h1, h2, n, h3⟩ := (show ObjOk P w H h a (.tup xs) from ok a _ e1)
      exact .tup h1 h2 h3 (by simpa using is_nks ok ks xs its r rv)
theorem is_nks (ok : HOk P w H h) : ∀ (ks : List NK) (vs : List V) (us : List Value), Reps K H (tks ks) vs → Vals vs us → NestedAll h ks us
  | [], _, _, r, q => by
    rw [tks] at r
    cases r
    cases q
    exact .nil
  | k :: ks, _, _, r, q => by
    rw [tks] at r
    cases r with
    | cons r1 r2 =>
      cases q with
      | cons q1 q2 => exact .cons (is_nk ok k _ _ r1 q1) (is_nks ok ks _ _ r2 q2)
end
end
/-! ### the dict as a list -/
def valN (kvs : List (NK × T)) (k : NK) : Option T := (kvs.find? fun p => decide (p.1 = k)).map (·.2)
def putN (kvs : List (NK × T)) (k : NK) (t : T) : List (NK × T) := match valN kvs k with
  | some _ => kvs.map fun p => if p.1 = k then (p.1, t) else p
  | none => kvs ++ [(k, t)]
def dropN (kvs : List (NK × T)) (k : NK) : List (NK × T) := kvs.filter fun p => decide (p.1 ≠ k)
/-- the list against what stands in the dict -/
abbrev NV (K : PySem.W.Frag) (H : Hp) : List (NK × T) → List (NK × Addr × Value) → Prop := Paired fun p q => p.1 = q.1 ∧ fineK p.1 = true ∧ Rep K H (tk p.1) (.ref q.2.1) ∧ ∃ v, Rep K H p.2 v ∧ RelV v q.2.2
section
variable {K : PySem.W.Frag} {H H' : Hp}
theorem NV.mono (e : Ext H H') {kvs : List (NK × T)} {ys : List (NK × Addr × Value)} (r : NV K H kvs ys) : NV K H' kvs ys := Paired.mapP r fun a b ⟨z1, z2, z3, v, z4, z5⟩ => ⟨z1, z2, Rep.mono e _ _ z3, v, Rep.mono e _ _ z4, z5⟩
theorem NV.of {xs : List (NK × Addr × V)} : ∀ {kvs : List (NK × T)} {ys : List (NK × Addr × Value)}, NRep K H kvs xs → Paired (fun (p : NK × Addr × V) (q : NK × Addr × Value) => p.1 = q.1 ∧ p.2.1 = q.2.1 ∧ RelV p.2.2 q.2.2) xs ys → NV K H kvs ys := by
  induction xs with
  | nil => intro kvs ys r q; cases r; cases q; exact .nil
  | cons x xs ih =>
    intro kvs ys r q
    cases r with
    | cons r1 r2 =>
      cases q with
      | cons q1 q2 =>
        obtain ⟨a1, a2, a3, a4⟩ := r1
        obtain ⟨b1, b2, b3⟩ := q1
        exact .cons ⟨a1.trans b1, a2, by rw [← b2]; exact a3, _, a4, b3⟩ (ih r2 q2)
theorem NV.un : ∀ {kvs : List (NK × T)} {ys : List (NK × Addr × Value)}, NV K H kvs ys → ∃ xs, NRep K H kvs xs ∧ Paired (fun (p : NK × Addr × V) (q : NK × Addr × Value) => p.1 = q.1 ∧ p.2.1 = q.2.1 ∧ RelV p.2.2 q.2.2) xs ys
  | _, _, .nil => ⟨[], .nil, .nil⟩
  | _, _, .cons (a := a) (b := b) ⟨z1, z2, z3, v, z4, z5⟩ r => by
    obtain ⟨xs, h1, h2⟩ := NV.un r
    exact ⟨(a.1, b.2.1, v) :: xs, .cons ⟨rfl, z2, z3, z4⟩ h1, .cons ⟨z1, rfl, z5⟩ h2⟩
/-- what is found -/
def NvO (K : PySem.W.Frag) (H : Hp) : Option T → Option (Addr × Value) → Prop
  | some t, some p => ∃ v, Rep K H t v ∧ RelV v p.2
  | none, none => True
  | _, _ => False
theorem atKey_cons {x : NK × Addr × Value} {xs : List (NK × Addr × Value)} {k : NK} : atKey (x :: xs) k = if x.1 = k then some x.2 else atKey xs k := by
  unfold atKey
  rw [List.find?_cons]
  by_cases h : x.1 = k
  · rw [if_pos h, decide_eq_true h]; rfl
  · rw [if_neg h, decide_eq_false h]
theorem valN_cons {x : NK × T} {xs : List (NK × T)} {k : NK} : valN (x :: xs) k = if x.1 = k then some x.2 else valN xs k := by
  unfold valN
  rw [List.find?_cons]
  by_cases h : x.1 = k
  · rw [if_pos h, decide_eq_true h]; rfl
  · rw [if_neg h, decide_eq_false h]
theorem NV.val (k : NK) : ∀ {kvs : List (NK × T)} {ys : List (NK × Addr × Value)}, NV K H kvs ys → NvO K H (valN kvs k) (atKey ys k)
  | _, _, .nil => trivial
  | _, _, .cons (a := a) (b := b) ⟨z1, z2, z3, v, z4, z5⟩ r => by
    rw [atKey_cons, valN_cons, ← z1]
    by_cases h : a.1 = k
    · rw [if_pos h, if_pos h]; exact ⟨v, z4, z5⟩
    · rw [if_neg h, if_neg h]; exact NV.val k r
theorem NvO.some {o : Option T} {o' : Option (Addr × Value)} (h : NvO K H o o') : o'.isSome = o.isSome := by
  cases o <;> cases o' <;> first | rfl | exact h.elim
theorem NV.put {k : NK} {b : Addr} {t : T} {v : V} {u : Value} (hk : fineK k = true) (rk : Rep K H (tk k) (.ref b)) (rt : Rep K H t v) (ru : RelV v u) {kvs : List (NK × T)} {ys : List (NK × Addr × Value)} (r : NV K H kvs ys) : NV K H (putN kvs k t) (storedH ys k b u) := by
  have q := r.val k
  unfold putN
  cases e : valN kvs k with
  | none =>
    rw [e] at q
    cases e2 : atKey ys k with
    | some _ => rw [e2] at q; exact q.elim
    | none =>
      rw [storedH_new e2]
      exact r.snoc ⟨rfl, hk, rk, v, rt, ru⟩
  | some _ =>
    rw [e] at q
    cases e2 : atKey ys k with
    | none => rw [e2] at q; exact q.elim
    | some p =>
      rw [storedH_old e2]
      clear q e e2
      induction r with
      | nil => exact .nil
      | @cons a b' l1 l2 z r ih =>
        obtain ⟨z1, z2, z3, w, z4, z5⟩ := z
        refine .cons ?_ ih
        unfold putAt
        dsimp only
        by_cases h : a.1 = k
        · rw [if_pos h, if_pos (by rw [← z1]; exact h)]
          exact ⟨z1, z2, z3, v, rt, ru⟩
        · rw [if_neg h, if_neg (by rw [← z1]; exact h)]
          exact ⟨z1, z2, z3, w, z4, z5⟩
theorem NV.drop (k : NK) : ∀ {kvs : List (NK × T)} {ys : List (NK × Addr × Value)}, NV K H kvs ys → NV K H (dropN kvs k) (withoutH ys k)
  | _, _, .nil => .nil
  | _, _, .cons (a := a) (b := b) (l₁ := l1) (l₂ := l2) z r => by
    have ih := NV.drop k r
    unfold dropN withoutH
    rw [List.filter_cons, List.filter_cons, ← z.1]
    by_cases h : a.1 = k
    · rw [decide_eq_false (fun n => n h)]; exact ih
    · rw [decide_eq_true h]; exact .cons z ih
theorem length_putN (kvs : List (NK × T)) (k : NK) (t : T) : (putN kvs k t).length ≤ kvs.length + 1 := by
  unfold putN
  split
  · rw [List.length_map]; omega
  · rw [List.length_append, List.length_singleton]; omega
end
section
variable {P : Program} {w : World} {K : PySem.W.Frag} {S : Sta} {H : Hp} {h : Heap} {a : Addr} {kvs : List (NK × T)}
theorem NV.is (ok : HOk P w H h) : ∀ {kvs : List (NK × T)} {ys : List (NK × Addr × Value)}, NV K H kvs ys → ∀ x ∈ ys, (nestedKind P w).is h x.1 x.2.1
  | _, _, .nil, _, hx => by cases hx
  | _, _, .cons (a := a) (b := b) ⟨z1, z2, z3, _⟩ r, x, hx => by
    rcases List.mem_cons.mp hx with rfl | hx
    · rw [← z1]
      unfold fineK at z2
      rw [Bool.and_eq_true] at z2
      exact ⟨is_nk ok _ _ _ z3 rfl, of_decide_eq_true z2.2⟩
    · exact NV.is ok r x hx
theorem nd_rd (ok : HOk P w H h) (hs : St K S H) (e : S a = some (.ot (.dnt kvs))) : ∃ ys, NV K H kvs ys ∧ h.DictOfH (nestedKind P w) a ys ∧ ys.length ≤ sizeLine ∧ (a == sysModules) = false := by
  obtain ⟨xs, e1, r⟩ := hs a _ e
  obtain ⟨⟨w', ys, pr, nd, z, hd, o, es, ep, h1, h2, h3, h4⟩, _⟩ := (show ObjOk P w H h a (nO a xs) from ok a _ e1)
  have nv : NV K H kvs ys := NV.of r pr
  refine ⟨ys, nv, ⟨o, es, ep, h1, h2, h3, ?_, nv.is ok, nd⟩, z, hd⟩
  rw [h4]
  refine List.map_congr_left fun x hx => ?_
  unfold entryOfKey
  have : freeK x.1 = true := by
    obtain ⟨p, q⟩ := Paired.right nv x hx
    have := q.2.1
    unfold fineK at this
    rw [Bool.and_eq_true] at this
    rw [← q.1]; exact this.1
  rw [hash_free w' w _ this]
  rfl
/-- .. and back -/
theorem nd_ok {H' : Hp} {h' : Heap} {ys : List (NK × Addr × Value)} {xs : List (NK × Addr × V)} (pr : Paired (fun (p : NK × Addr × V) (q : NK × Addr × Value) => p.1 = q.1 ∧ p.2.1 = q.2.1 ∧ RelV p.2.2 q.2.2) xs ys) (d : h'.DictOfH (nestedKind P w) a ys) (z : ys.length ≤ sizeLine) (hd : (a == sysModules) = false) : ObjOk P w H' h' a (nO a xs) := by
  obtain ⟨o, es, ep, h1, h2, h3, h4, h5, h6⟩ := d
  refine ⟨⟨w, ys, pr, h6, z, hd, o, es, ep, h1, h2, h3, h4⟩, ⟨o, h1⟩, fun g1 g2 ⟨w', ys', a1, a2, a3, a4, o', es', ep', b1, b2, b3, b4⟩ k => ⟨w', ys', a1, a2, a3, a4, o', es', ep', k _ b1, b2, b3, b4⟩⟩
end
section
variable {X : Cx} {pins : List (Addr × Obj)} {σ : L2.St} {S : Sta} {H : Hp} {s : Shared} {a : Addr} {kvs : List (NK × T)} {k : NK} {y t : T} {v yv : V} {u r : Value} {E : Value → Shared → Prop}
theorem nd_room (hu : X.A.units + 65 < cLine) : (nestedKind X.prog X.w).room X.A.in1 := by
  show X.A.units + 1 + 8 < cLine
  omega
/-- a key at hand -/
theorem nd_key (I : Inv X pins σ H s) (ry : Rep X.K H y yv) (ru : RelV yv u) (e : keyN y = some k) : ∃ b, yv = .ref b ∧ u = .ref b ∧ fineK k = true ∧ Rep X.K H (tk k) (.ref b) ∧ (nestedKind X.prog X.w).is s.heap k b := by
  obtain ⟨rfl, hf, ht⟩ := keyN_tk e
  cases k with
  | tup ks =>
    have ry' := ry
    rw [tk] at ry'
    cases ry' with
    | @tup b xs _ e1 r =>
      cases ru
      refine ⟨b, rfl, rfl, hf, ry, is_nk I.hok _ _ _ ry rfl, ?_⟩
      unfold fineK at hf
      rw [Bool.and_eq_true] at hf
      exact of_decide_eq_true hf.2
  | none => cases ht
  | num _ => cases ht
  | text _ => cases ht
theorem nd_dict (I : Inv X pins σ H s) (hs : St X.K S H) (e : S a = some (.ot (.dnt kvs))) : s.TypeIs (.ref a) "dict" := by
  obtain ⟨ys, _, d, _⟩ := nd_rd I.hok hs e
  exact d.typeIs
theorem nd_getItem {Q : Value → Shared → Prop} (hu : X.A.units + 65 < cLine) (I : Inv X pins σ H s) (hs : St X.K S H) (e : S a = some (.ot (.dnt kvs))) (ry : Rep X.K H y yv) (ru : RelV yv u) (ek : keyN y = some k) (ev : valN kvs k = some t)
    (h : ∀ v w' s', Inv X pins σ H s' → Rep X.K H t v → RelV v w' → Q w' s') : wpAny (model X.prog X.w) X.A (getItem (.ref a) u) Q E s := by
  obtain ⟨b, rfl, rfl, hf, rk, hk⟩ := nd_key I ry ru ek
  obtain ⟨ys, nv, d, z, hd⟩ := nd_rd I.hok hs e
  have q := nv.val k
  rw [ev] at q
  cases e2 : atKey ys k with
  | none => rw [e2] at q; exact q.elim
  | some p =>
    rw [e2] at q
    obtain ⟨v, r1, r2⟩ := q
    exact wpAny_getItem_heap (nd_room hu) hk d e2 (h v _ _ (I.tok _) r1 r2)
theorem nd_in {Q : Value → Shared → Prop} (hu : X.A.units + 65 < cLine) (I : Inv X pins σ H s) (hs : St X.K S H) (e : S a = some (.ot (.dnt kvs))) (ry : Rep X.K H y yv) (ru : RelV yv u) (ek : keyN y = some k)
    (h : ∀ s', Inv X pins σ H s' → Q (.bool (valN kvs k).isSome) s') : wpAny (model X.prog X.w) X.A (compareOp .In u (.ref a)) Q E s := by
  obtain ⟨b, rfl, rfl, hf, rk, hk⟩ := nd_key I ry ru ek
  obtain ⟨ys, nv, d, z, hd⟩ := nd_rd I.hok hs e
  refine wpAny_in_heap (nd_room hu) hk hd d ?_
  rw [(nv.val k).some]
  exact h _ (I.tok _)
theorem nd_notIn {Q : Value → Shared → Prop} (hu : X.A.units + 65 < cLine) (I : Inv X pins σ H s) (hs : St X.K S H) (e : S a = some (.ot (.dnt kvs))) (ry : Rep X.K H y yv) (ru : RelV yv u) (ek : keyN y = some k)
    (h : ∀ s', Inv X pins σ H s' → Q (.bool (!(valN kvs k).isSome)) s') : wpAny (model X.prog X.w) X.A (compareOp .NotIn u (.ref a)) Q E s := by
  obtain ⟨b, rfl, rfl, hf, rk, hk⟩ := nd_key I ry ru ek
  obtain ⟨ys, nv, d, z, hd⟩ := nd_rd I.hok hs e
  refine wpAny_notIn_heap (nd_room hu) hk hd d ?_
  rw [(nv.val k).some]
  exact h _ (I.tok _)
/-- a dict is written over -/
theorem nd_write {h' : Heap} {t' : Nat} {kvs' : List (NK × T)} {ys' : List (NK × Addr × Value)} (I : Inv X pins σ H s) (hs : St X.K S H) (e : S a = some (.ot (.dnt kvs))) (nv : NV X.K H kvs' ys') (z : ys'.length ≤ sizeLine) (d : h'.DictOfH (nestedKind X.prog X.w) a ys') (sb : Heap.SameBut a s.heap h') :
    ∃ H', Inv X pins σ H' { s with heap := h', toks := t' } ∧ Ext H H' ∧ St X.K (upS S a (.ot (.dnt kvs'))) H' := by
  obtain ⟨xs', r1, r2⟩ := nv.un
  obtain ⟨xs, e1, _⟩ := hs a _ e
  obtain ⟨_, _, _, _, hd⟩ := nd_rd I.hok hs e
  have he : ∃ q, h'.get? a = some q := by obtain ⟨q, _, _, hq, _⟩ := d; exact ⟨q, hq⟩
  obtain ⟨ex, st⟩ := hs.setO (u' := nO a xs') (o' := .ot (.dnt kvs')) e1 trivial fun ex => ⟨xs', upd_same, r1.mono ex⟩
  exact ⟨_, d_write (t' := t') I (by rw [e1]; exact True.intro) sb he (nd_ok r2 d z hd), ex, st⟩
theorem nd_setItem {Q : Unit → Shared → Prop} (hu : X.A.units + 65 < cLine) (I : Inv X pins σ H s) (hs : St X.K S H) (e : S a = some (.ot (.dnt kvs))) (ry : Rep X.K H y yv) (ru : RelV yv u) (ek : keyN y = some k) (hl : kvs.length < sizeLine) (rt : Rep X.K H t v) (rv : RelV v r)
    (h : ∀ H' s', Inv X pins σ H' s' → Ext H H' → St X.K (upS S a (.ot (.dnt (putN kvs k t)))) H' → Q () s') : wpAny (model X.prog X.w) X.A (setItem (.ref a) u r) Q E s := by
  obtain ⟨b, rfl, rfl, hf, rk, hk⟩ := nd_key I ry ru ek
  obtain ⟨ys, nv, d, z, hd⟩ := nd_rd I.hok hs e
  refine wpAny_setItem_heap (hsz := z) (nd_room hu) hk d fun h' d' sb => ?_
  have nv' := nv.put hf rk rt rv
  have lz : (storedH ys k b r).length ≤ sizeLine := by rw [← Paired.length nv']; have := length_putN kvs k t; omega
  obtain ⟨H', I', ex, st⟩ := nd_write (t' := s.toks + (nestedKind X.prog X.w).draws k) I hs e nv' lz d' sb
  exact h H' _ I' ex st
theorem nd_delItem {Q : Unit → Shared → Prop} (hu : X.A.units + 65 < cLine) (I : Inv X pins σ H s) (hs : St X.K S H) (e : S a = some (.ot (.dnt kvs))) (ry : Rep X.K H y yv) (ru : RelV yv u) (ek : keyN y = some k) (ev : (valN kvs k).isSome = true)
    (h : ∀ H' s', Inv X pins σ H' s' → Ext H H' → St X.K (upS S a (.ot (.dnt (dropN kvs k)))) H' → Q () s') : wpAny (model X.prog X.w) X.A (delItem (.ref a) u) Q E s := by
  obtain ⟨b, rfl, rfl, hf, rk, hk⟩ := nd_key I ry ru ek
  obtain ⟨ys, nv, d, z, hd⟩ := nd_rd I.hok hs e
  have q := (nv.val k).some
  rw [ev] at q
  obtain ⟨p, hp⟩ := Option.isSome_iff_exists.mp q
  refine wpAny_delItem_heap (hsz := z) (nd_room hu) hk hd d hp fun h' d' sb => ?_
  obtain ⟨H', I', ex, st⟩ := nd_write (t' := s.toks + (nestedKind X.prog X.w).draws k) I hs e (nv.drop k) (Nat.le_trans (withoutH_length ys k) z) d' sb
  exact h H' _ I' ex st
/-- d.pop(k[, x]), there -/
theorem nd_pop {more : List Value} {Q : Value → Shared → Prop} (hu : X.A.units + 65 < cLine) (I : Inv X pins σ H s) (hs : St X.K S H) (e : S a = some (.ot (.dnt kvs))) (ry : Rep X.K H y yv) (ru : RelV yv u) (ek : keyN y = some k) (ev : valN kvs k = some t) (hm : more = [] ∨ ∃ x, more = [x])
    (h : ∀ v w' H' s', Inv X pins σ H' s' → Ext H H' → St X.K (upS S a (.ot (.dnt (dropN kvs k)))) H' → Rep X.K H t v → RelV v w' → Q w' s') : wpAny (model X.prog X.w) X.A (call (.builtin "dict.pop") (.ref a :: u :: more)) Q E s := by
  obtain ⟨b, rfl, rfl, hf, rk, hk⟩ := nd_key I ry ru ek
  obtain ⟨ys, nv, d, z, hd⟩ := nd_rd I.hok hs e
  have q := nv.val k
  rw [ev] at q
  have ha : argsOk "dict.pop" ⟨.ref a :: .ref b :: more, []⟩ := by
    rcases hm with q | ⟨x, q⟩
    · subst q; exact PySem.F.args_dict_pop_2 _ _
    · subst q; exact PySem.F.args_dict_pop_3 _ _ _
  cases e2 : atKey ys k with
  | none => rw [e2] at q; exact q.elim
  | some p =>
    rw [e2] at q
    obtain ⟨v, r1, r2⟩ := q
    refine call_pop_heap (hsz := z) hm ha (nd_room hu) hk hd d e2 fun h' d' sb => ?_
    obtain ⟨H', I', ex, st⟩ := nd_write (t' := s.toks + (nestedKind X.prog X.w).draws k) I hs e (nv.drop k) (Nat.le_trans (withoutH_length ys k) z) d' sb
    exact h v _ H' _ I' ex st r1 r2
/-- d.pop(k, x), not there -/
theorem nd_popD {Q : Value → Shared → Prop} (hu : X.A.units + 65 < cLine) (I : Inv X pins σ H s) (hs : St X.K S H) (e : S a = some (.ot (.dnt kvs))) (ry : Rep X.K H y yv) (ru : RelV yv u) (ek : keyN y = some k) (ev : valN kvs k = none)
    (h : ∀ s', Inv X pins σ H s' → Q r s') : wpAny (model X.prog X.w) X.A (call (.builtin "dict.pop") [.ref a, u, r]) Q E s := by
  obtain ⟨b, rfl, rfl, hf, rk, hk⟩ := nd_key I ry ru ek
  obtain ⟨ys, nv, d, z, hd⟩ := nd_rd I.hok hs e
  have q := (nv.val k).some
  rw [ev] at q
  exact call_pop_default_heap (hsz := z) (nd_room hu) hk hd d (Option.not_isSome_iff_eq_none.mp (by rw [q]; exact Bool.false_ne_true)) fun tk => h _ (I.tok _)
/-- d.setdefault(k, x) -/
theorem nd_setdefault {Q : Value → Shared → Prop} (hu : X.A.units + 65 < cLine) (I : Inv X pins σ H s) (hs : St X.K S H) (e : S a = some (.ot (.dnt kvs))) (ry : Rep X.K H y yv) (ru : RelV yv u) (ek : keyN y = some k) (hl : kvs.length < sizeLine) (rt : Rep X.K H t v) (rv : RelV v r)
    (h1 : ∀ t0 v w' s', valN kvs k = some t0 → Inv X pins σ H s' → Rep X.K H t0 v → RelV v w' → Q w' s')
    (h2 : valN kvs k = none → ∀ H' s', Inv X pins σ H' s' → Ext H H' → St X.K (upS S a (.ot (.dnt (putN kvs k t)))) H' → Q r s') : wpAny (model X.prog X.w) X.A (call (.builtin "dict.setdefault") [.ref a, u, r]) Q E s := by
  obtain ⟨b, rfl, rfl, hf, rk, hk⟩ := nd_key I ry ru ek
  obtain ⟨ys, nv, d, z, hd⟩ := nd_rd I.hok hs e
  have q := nv.val k
  refine call_setdefault_heap (hsz := z) (nd_room hu) hk hd d (fun p hp => ?_) fun hn h' d' sb => ?_
  · rw [hp] at q
    cases e2 : valN kvs k with
    | none => rw [e2] at q; exact q.elim
    | some t0 =>
      rw [e2] at q
      obtain ⟨v0, r1, r2⟩ := q
      exact h1 t0 v0 _ _ e2 (I.tok _) r1 r2
  · rw [hn] at q
    cases e2 : valN kvs k with
    | some t0 => rw [e2] at q; exact q.elim
    | none =>
      have nv' := nv.put hf rk rt rv
      have lz : (storedH ys k b r).length ≤ sizeLine := by rw [← Paired.length nv']; have := length_putN kvs k t; omega
      obtain ⟨H', I', ex, st⟩ := nd_write (t' := s.toks + (nestedKind X.prog X.w).draws k) I hs e nv' lz d' sb
      exact h2 e2 H' _ I' ex st
end
end Wp

set_option Elab.async false
set_option linter.all false
set_option maxRecDepth 100000
set_option maxHeartbeats 1000000
/-! dicts -/
namespace Wp
open PySem PySem.Spec PyProof.Rows L2
section
variable {κ : Type} [DecidableEq κ]
def valT (kvs : List (κ × T)) (k : κ) : Option T := (kvs.find? fun kv => decide (kv.1 = k)).map (·.2)
def putT (kvs : List (κ × T)) (k : κ) (v : T) : List (κ × T) :=
  if (kvs.any fun kv => decide (kv.1 = k)) = true then kvs.map (fun kv => if kv.1 = k then (kv.1, v) else kv) else kvs ++ [(k, v)]
def dropT (kvs : List (κ × T)) (k : κ) : List (κ × T) := kvs.filter fun kv => decide (kv.1 ≠ k)
/-- two options that stand for each other -/
def RepO (K : PySem.W.Frag) (H : Hp) : Option T → Option V → Prop
  | some t, some v => Rep K H t v
  | none, none => True
  | _, _ => False
theorem KRep.val {K : PySem.W.Frag} {H : Hp} (k : κ) : ∀ {kvs : List (κ × T)} {vs : List (κ × V)}, KRep K H kvs vs → RepO K H (valT kvs k) (valV vs k)
  | _, _, .nil => trivial
  | _, _, .cons (f := g) (t := t) (v := v) (fs := fs) (gs := gs) h1 h2 => by
    unfold valT valV
    rw [List.find?_cons, List.find?_cons]
    by_cases e : g = k
    · have e1 : decide (((g, t) : κ × T).1 = k) = true := decide_eq_true e
      have e2 : decide (((g, v) : κ × V).1 = k) = true := decide_eq_true e
      rw [e1]
      exact h1
    · have e1 : decide (((g, t) : κ × T).1 = k) = false := decide_eq_false e
      have e2 : decide (((g, v) : κ × V).1 = k) = false := decide_eq_false e
      rw [e1]
      exact KRep.val k h2
theorem KRep.any {K : PySem.W.Frag} {H : Hp} (k : κ) : ∀ {kvs : List (κ × T)} {vs : List (κ × V)}, KRep K H kvs vs → (kvs.any fun kv => decide (kv.1 = k)) = vs.any fun kv => decide (kv.1 = k)
  | _, _, .nil => rfl
  | _, _, .cons h1 h2 => by rw [List.any_cons, List.any_cons, KRep.any k h2]
theorem KRep.repl {K : PySem.W.Frag} {H : Hp} (k : κ) {t : T} {v : V} (r : Rep K H t v) : ∀ {kvs : List (κ × T)} {vs : List (κ × V)}, KRep K H kvs vs → KRep K H (kvs.map fun kv => if kv.1 = k then (kv.1, t) else kv) (vs.map fun kv => if kv.1 = k then (kv.1, v) else kv)
  | _, _, .nil => .nil
  | _, _, .cons (f := g) h1 h2 => by
    rw [List.map_cons, List.map_cons]
    by_cases e : g = k
    · simp only [e, if_true]; exact .cons r (KRep.repl k r h2)
    · simp only [e, if_false]; exact .cons h1 (KRep.repl k r h2)
theorem KRep.app {K : PySem.W.Frag} {H : Hp} : ∀ {a b : List (κ × T)} {c d : List (κ × V)}, KRep K H a c → KRep K H b d → KRep K H (a ++ b) (c ++ d)
  | _, _, _, _, .nil, h => h
  | _, _, _, _, .cons h1 h2, h => .cons h1 (KRep.app h2 h)
theorem KRep.putd {K : PySem.W.Frag} {H : Hp} (k : κ) {t : T} {v : V} (r : Rep K H t v) {kvs : List (κ × T)} {vs : List (κ × V)} (h : KRep K H kvs vs) : KRep K H (putT kvs k t) (putK vs k v) := by
  unfold putT putK
  rw [h.any k]
  split
  · exact h.repl k r
  · exact h.app (.cons r .nil)
theorem KRep.drop {K : PySem.W.Frag} {H : Hp} (k : κ) : ∀ {kvs : List (κ × T)} {vs : List (κ × V)}, KRep K H kvs vs → KRep K H (dropT kvs k) (dropK vs k)
  | _, _, .nil => .nil
  | _, _, .cons (f := g) (t := t) (v := v) (fs := fs) (gs := gs) h1 h2 => by
    have ih := KRep.drop k h2
    unfold dropT dropK at ih ⊢
    rw [List.filter_cons, List.filter_cons]
    by_cases e : g ≠ k
    · have e1 : decide (((g, t) : κ × T).1 ≠ k) = true := decide_eq_true e
      have e2 : decide (((g, v) : κ × V).1 ≠ k) = true := decide_eq_true e
      rw [if_pos e1, if_pos e2]
      exact .cons h1 ih
    · have e1 : ¬ decide (((g, t) : κ × T).1 ≠ k) = true := by simpa using e
      have e2 : ¬ decide (((g, v) : κ × V).1 ≠ k) = true := by simpa using e
      rw [if_neg e1, if_neg e2]
      exact ih
theorem KRep.keys {K : PySem.W.Frag} {H : Hp} : ∀ {kvs : List (κ × T)} {vs : List (κ × V)}, KRep K H kvs vs → kvs.map (·.1) = vs.map (·.1)
  | _, _, .nil => rfl
  | _, _, .cons h1 h2 => by rw [List.map_cons, List.map_cons, KRep.keys h2]
/-! what a dict holds -/
theorem valT_nil {k : κ} : valT ([] : List (κ × T)) k = none := rfl
theorem valT_cons {k j : κ} {v : T} {r : List (κ × T)} : valT ((j, v) :: r) k = if j = k then some v else valT r k := by
  unfold valT
  rw [List.find?_cons]
  by_cases e : j = k
  · rw [if_pos e, show decide (((j, v) : κ × T).1 = k) = true from decide_eq_true e]; rfl
  · rw [if_neg e, show decide (((j, v) : κ × T).1 = k) = false from decide_eq_false e]
theorem valT_any (k : κ) : ∀ kvs : List (κ × T), (kvs.any fun kv => decide (kv.1 = k)) = (valT kvs k).isSome
  | [] => rfl
  | (j, v) :: r => by
    rw [List.any_cons, valT_cons, valT_any k r]
    by_cases e : j = k
    · rw [if_pos e, show decide (((j, v) : κ × T).1 = k) = true from decide_eq_true e]; rfl
    · rw [if_neg e, show decide (((j, v) : κ × T).1 = k) = false from decide_eq_false e, Bool.false_or]
theorem valT_map (k j : κ) (y : T) : ∀ kvs : List (κ × T), valT (kvs.map fun kv => if kv.1 = k then (kv.1, y) else kv) j = (valT kvs j).map fun x => if j = k then y else x
  | [] => rfl
  | (i, v) :: r => by
    rw [List.map_cons]
    by_cases e : i = k
    · simp only [e, if_true]
      rw [valT_cons, valT_cons, valT_map k j y r]
      by_cases e2 : k = j
      · simp [e2]
      · rw [if_neg e2, if_neg e2]
    · simp only [e, if_false]
      rw [valT_cons, valT_cons, valT_map k j y r]
      by_cases e2 : i = j
      · rw [if_pos e2, if_pos e2, Option.map_some, if_neg (fun z => e (e2.trans z))]
      · rw [if_neg e2, if_neg e2]
theorem valT_snoc (k j : κ) (y : T) : ∀ kvs : List (κ × T), valT kvs k = none → valT (kvs ++ [(k, y)]) j = if j = k then some y else valT kvs j
  | [], _ => by
    rw [List.nil_append, valT_cons, valT_nil]
    by_cases e : k = j
    · rw [if_pos e, if_pos e.symm]
    · rw [if_neg e, if_neg (fun z => e z.symm)]
  | (i, v) :: r, h => by
    rw [valT_cons] at h
    by_cases e : i = k
    · rw [if_pos e] at h; cases h
    · rw [if_neg e] at h
      rw [List.cons_append, valT_cons, valT_cons, valT_snoc k j y r h]
      by_cases e2 : i = j
      · rw [if_pos e2, if_pos e2, if_neg (fun z => e (e2.trans z))]
      · rw [if_neg e2, if_neg e2]
theorem valT_put (kvs : List (κ × T)) (k j : κ) (y : T) : valT (putT kvs k y) j = if j = k then some y else valT kvs j := by
  unfold putT
  rw [valT_any]
  split
  · rename_i h
    rw [valT_map]
    by_cases e : j = k
    · subst e
      obtain ⟨x, hx⟩ := Option.isSome_iff_exists.mp h
      rw [hx, if_pos rfl, Option.map_some, if_pos rfl]
    · rw [if_neg e]
      cases valT kvs j <;> simp [e]
  · rename_i h
    exact valT_snoc k j y kvs (by simpa using h)
theorem valT_drop (k j : κ) : ∀ kvs : List (κ × T), valT (dropT kvs k) j = if j = k then none else valT kvs j
  | [] => by simp [dropT, valT_nil]
  | (i, v) :: r => by
    have ih := valT_drop k j r
    unfold dropT at ih ⊢
    rw [List.filter_cons]
    by_cases e : i = k
    · rw [if_neg (by simp [e]), ih, valT_cons]
      by_cases e2 : j = k
      · rw [if_pos e2, if_pos e2]
      · rw [if_neg e2, if_neg e2, if_neg (fun z => e2 (z.symm.trans e))]
    · rw [if_pos (by simp [e]), valT_cons, valT_cons, ih]
      by_cases e2 : i = j
      · rw [if_pos e2, if_pos e2, if_neg (fun z => e (e2.trans z))]
      · rw [if_neg e2, if_neg e2]
theorem length_putT (kvs : List (κ × T)) (k : κ) (v : T) : (putT kvs k v).length ≤ kvs.length + 1 := by
  unfold putT
  split
  · rw [List.length_map]; omega
  · rw [List.length_append]; exact Nat.le_refl _
theorem length_dropT (kvs : List (κ × T)) (k : κ) : (dropT kvs k).length ≤ kvs.length := List.length_filter_le _ _
theorem keys_putT (kvs : List (κ × T)) (k : κ) (v : T) : (putT kvs k v).map (·.1) = if (valT kvs k).isSome = true then kvs.map (·.1) else kvs.map (·.1) ++ [k] := by
  unfold putT
  rw [valT_any]
  split
  · rw [List.map_map]
    refine List.map_congr_left fun p _ => ?_
    simp only [Function.comp]
    split <;> rfl
  · rw [List.map_append]; rfl
theorem valT_mem {kvs : List (κ × T)} {k : κ} : (valT kvs k).isSome = true ↔ k ∈ kvs.map (·.1) := by
  rw [← valT_any]
  simp only [List.any_eq_true, decide_eq_true_eq, List.mem_map]
theorem nodup_putT {kvs : List (κ × T)} {k : κ} {v : T} (h : (kvs.map (·.1)).Nodup) : ((putT kvs k v).map (·.1)).Nodup := by
  rw [keys_putT]
  split
  · exact h
  · rename_i hn
    rw [valT_mem] at hn
    rw [List.nodup_append]
    exact ⟨h, List.nodup_cons.mpr ⟨(by simp), List.nodup_nil⟩, fun a ha b hb => by rw [List.mem_singleton.mp hb]; intro e; subst e; exact hn ha⟩
theorem nodup_dropT {kvs : List (κ × T)} {k : κ} (h : (kvs.map (·.1)).Nodup) : ((dropT kvs k).map (·.1)).Nodup := by
  unfold dropT
  exact (List.filter_sublist.map _).nodup h
end
/-! ### keys -/
def keyT : T → Option Key
  | .int i => some (.inl i)
  | .str x => some (.inr x)
  | _ => none
def keysL : List T → Option (List Key)
  | [] => some []
  | t :: ts => match keyT t, keysL ts with
    | some k, some ks => some (k :: ks)
    | _, _ => none
def keysT : T → Option (List Key)
  | .tup ts => keysL ts
  | _ => none
theorem keyT_rep {K : PySem.W.Frag} {H : Hp} {t : T} {v : V} {k : Key} (r : Rep K H t v) (e : keyT t = some k) : v = kV k := by
  cases t <;> simp only [keyT, Option.some.injEq, reduceCtorEq] at e <;> subst e <;> cases r <;> rfl
theorem keysL_rep {K : PySem.W.Frag} {H : Hp} : ∀ {ts : List T} {vs : List V} {ks : List Key}, Reps K H ts vs → keysL ts = some ks → vs = ks.map kV
  | [], _, _, r, e => by cases r; simp only [keysL, Option.some.injEq] at e; subst e; rfl
  | t :: ts, _, ks, r, e => by
    cases r with
    | cons h1 h2 =>
      simp only [keysL] at e
      cases e1 : keyT t with
      | none => rw [e1] at e; cases e
      | some k =>
        cases e2 : keysL ts with
        | none => rw [e1, e2] at e; cases e
        | some ks' =>
          rw [e1, e2] at e
          cases e
          rw [keyT_rep h1 e1, keysL_rep h2 e2]
          rfl
theorem keysT_rep {K : PySem.W.Frag} {H : Hp} {t : T} {v : V} {ks : List Key} (r : Rep K H t v) (e : keysT t = some ks) : ∃ b, v = .ref b ∧ H b = some (.tup (ks.map kV)) := by
  cases t with
  | tup ts =>
    cases r with
    | @tup a xs _ g1 g2 => exact ⟨a, rfl, by rw [← keysL_rep g2 e]; exact g1⟩
  | _ => cases e
/-- what the dict at p holds at y -/
def getD (S : Sta) (p : Addr) (y : T) : Option (Option T) := match S p with
  | some (.dct kvs) => (keyT y).map (valT kvs)
  | some (.dtt kvs) => (keysT y).map (valT kvs)
  | _ => none
/-- the state behind d[y] = v -/
def putD (S : Sta) (p : Addr) (y v : T) : Option O := match S p with
  | some (.dct kvs) => if kvs.length < sizeLine then (keyT y).map fun k => .dct (putT kvs k v) else none
  | some (.dtt kvs) => if kvs.length < sizeLine then (keysT y).map fun k => .dtt (putT kvs k v) else none
  | _ => none
theorem getD_rep {K : PySem.W.Frag} {S : Sta} {H : Hp} {p : Addr} {y : T} {w : V} {o : Option T} (hs : St K S H) (r : Rep K H y w) (e : getD S p y = some o) : ∃ o', DGet H p w o' ∧ RepO K H o o' := by
  unfold getD at e
  cases eS : S p with
  | none => rw [eS] at e; cases e
  | some u =>
    rw [eS] at e
    cases u with
    | ot _ => cases e
    | lst _ => cases e
    | ins _ _ => cases e
    | dct kvs =>
      obtain ⟨vs, h1, h2⟩ := hs p _ eS
      simp only [Option.map_eq_some_iff] at e
      obtain ⟨k, ek, rfl⟩ := e
      rw [keyT_rep r ek]
      exact ⟨_, .k h1, h2.val k⟩
    | dtt kvs =>
      obtain ⟨vs, h1, h2⟩ := hs p _ eS
      simp only [Option.map_eq_some_iff] at e
      obtain ⟨k, ek, rfl⟩ := e
      obtain ⟨b, rfl, hb⟩ := keysT_rep r ek
      exact ⟨_, .t h1 hb, h2.val k⟩
theorem putD_rep {K : PySem.W.Frag} {S : Sta} {H : Hp} {p : Addr} {y v : T} {w z : V} {o : O} (hs : St K S H) (r : Rep K H y w) (rv : Rep K H v z) (e : putD S p y v = some o) : ∃ H', DPut H p w z H' ∧ Ext H H' ∧ St K (upS S p o) H' := by
  unfold putD at e
  cases eS : S p with
  | none => rw [eS] at e; cases e
  | some u =>
    rw [eS] at e
    cases u with
    | ot _ => cases e
    | lst _ => cases e
    | ins _ _ => cases e
    | dct kvs =>
      obtain ⟨vs, h1, h2⟩ := hs p _ eS
      simp only at e
      split at e
      · rename_i hl
        simp only [Option.map_eq_some_iff] at e
        obtain ⟨k, ek, rfl⟩ := e
        rw [keyT_rep r ek]
        obtain ⟨e3, s3⟩ := hs.setO (u' := .dK (putK vs k z)) (o' := .dct (putT kvs k v)) h1 trivial fun ex => ⟨_, upd_same, (h2.putd k rv).mono ex⟩
        exact ⟨_, .k h1 (by rw [← h2.length]; exact hl), e3, s3⟩
      · cases e
    | dtt kvs =>
      obtain ⟨vs, h1, h2⟩ := hs p _ eS
      simp only at e
      split at e
      · rename_i hl
        simp only [Option.map_eq_some_iff] at e
        obtain ⟨k, ek, rfl⟩ := e
        obtain ⟨b, rfl, hb⟩ := keysT_rep r ek
        obtain ⟨e3, s3⟩ := hs.setO (u' := .dT (putK vs k z)) (o' := .dtt (putT kvs k v)) h1 trivial fun ex => ⟨_, upd_same, (h2.putd k rv).mono ex⟩
        exact ⟨_, .t h1 hb (by rw [← h2.length]; exact hl), e3, s3⟩
      · cases e
theorem itemsT_ref' {S : Sta} {p : Addr} {ts : List T} (h : S p = some (.lst ts)) : itemsT S (.ref p) = some ts := by simp only [itemsT, h]
def isDT (S : Sta) (p : Addr) : Prop := match S p with
  | some (.dct _) => True
  | some (.dtt _) => True
  | _ => False
theorem isDT_rep {K : PySem.W.Frag} {S : Sta} {H : Hp} {p : Addr} (hs : St K S H) (e : isDT S p) : IsD H p := by
  unfold isDT at e
  cases eS : S p with
  | none => rw [eS] at e; cases e
  | some u =>
    rw [eS] at e
    cases u with
    | ot _ => cases e
    | lst _ => cases e
    | ins _ _ => cases e
    | dct kvs => obtain ⟨vs, h1, h2⟩ := hs p _ eS; exact .inl ⟨vs, .inl h1⟩
    | dtt kvs => obtain ⟨vs, h1, h2⟩ := hs p _ eS; exact .inr ⟨vs, .inl h1⟩
/-! ### o[i], in, o[i] = v, len: of dicts, too -/
section
variable {B : Hp} {X : Cx} {a b o i e value : Expr} {ta tb to te : WE} {pos pos' tpos cpos apos : Pos}
theorem ix_D (hu : X.A.units + 1 < cLine) : IxR X (fun x y H Q => ∃ a v, x = .ref a ∧ DGet H a y (some v) ∧ Q v H) := by
  intro value slice pins s σ H x y v u Q I rx ry ⟨a, z, ex, g, q⟩ hs
  subst ex
  obtain rfl : v = Value.ref a := rx
  have hT := dict_typeIs I g
  unfold subscriptTail
  refine wpAny_bind ?_
  rw [getitemInPython_of_ne hT.not_modules]
  refine wpAny_bind (wpAny_specialOf hT PySem.F.slot_dict_getitem.lookup ?_)
  have h₂ : wpAny (model X.prog X.w) X.A (getItem (.ref a) u) (EP X pins σ Q) X.xe s := d_getItem hu I g ry fun w' s3 I3 rw' => ⟨z, H, I3, rw', q⟩
  have fin : wpAny (model X.prog X.w) X.A (subscripted slice false (.ref a) u) (fun r s₃ => wpAny (model X.prog X.w) X.A (letTemporaryGo value (.ref a) r >>= fun _ => pure r) (EP X pins σ Q) X.xe s₃) X.xe s := by
    rw [hs]
    exact wpAny_operating (wpAny_mono h₂ (fun r s₃ h₃ => wpAny_bind (wpAny_letTemporaryGo (wpAny_pure h₃))) fun _ _ x => x)
  first
    | exact wpAny_pure (wpAny_bind fin)
    | exact wpAny_bind (wpAny_pure (wpAny_bind fin))
    | exact wpAny_bind fin
def isD (S : Sta) (p : Addr) : Bool := match S p with
  | some (.dct _) => true
  | some (.dtt _) => true
  | _ => false
theorem ix_N (hu : X.A.units + 65 < cLine) : IxR X (L3 X.K fun x y S Q => ∃ p kvs k v, x = .ref p ∧ S p = some (.ot (.dnt kvs)) ∧ keyN y = some k ∧ valN kvs k = some v ∧ Q v S) := by
  intro value slice pins s σ H x y v u Q I rx ry ⟨a, b, S, Q0, ra, rb, hs', ⟨p, kvs, k, z, ea, e, ek, ev, q⟩, im⟩ hs
  subst ea
  cases ra
  obtain rfl : v = Value.ref p := rx
  have hT := nd_dict I hs' e
  unfold subscriptTail
  refine wpAny_bind ?_
  rw [getitemInPython_of_ne hT.not_modules]
  refine wpAny_bind (wpAny_specialOf hT PySem.F.slot_dict_getitem.lookup ?_)
  have h₂ : wpAny (model X.prog X.w) X.A (getItem (.ref p) u) (EP X pins σ Q) X.xe s := nd_getItem hu I hs' e rb ry ek ev fun w w' s3 I3 r1 r2 => ⟨w, H, I3, r2, im _ _ q H w (Ext.refl H) hs' r1⟩
  have fin : wpAny (model X.prog X.w) X.A (subscripted slice false (.ref p) u) (fun r s₃ => wpAny (model X.prog X.w) X.A (letTemporaryGo value (.ref p) r >>= fun _ => pure r) (EP X pins σ Q) X.xe s₃) X.xe s := by
    rw [hs]
    exact wpAny_operating (wpAny_mono h₂ (fun r s₃ h₃ => wpAny_bind (wpAny_letTemporaryGo (wpAny_pure h₃))) fun _ _ x => x)
  first
    | exact wpAny_pure (wpAny_bind fin)
    | exact wpAny_bind (wpAny_pure (wpAny_bind fin))
    | exact wpAny_bind fin
def rIxM (x : T) (y : T) (S : Sta) (Q : T → Sta → Prop) : Prop := match x with
  | .ref p => match S p with
    | some (.ot (.dnt kvs)) => ∃ k, keyN y = some k ∧ ∃ v, valN kvs k = some v ∧ Q v S
    | some (.dct kvs) => ∃ k, keyT y = some k ∧ ∃ v, valT kvs k = some v ∧ Q v S
    | some (.dtt kvs) => ∃ k, keysT y = some k ∧ ∃ v, valT kvs k = some v ∧ Q v S
    | _ => Wp.rIx (.ref p) y S Q
  | x => Wp.rIx x y S Q
theorem ix_M (hu : X.A.units + 65 < cLine) : IxR X (L3 X.K rIxM) := by
  intro value slice pins s σ H x y v u Q I rx ry ⟨a, b, S, Q0, ra, rb, hs, q, im⟩ hsub
  have go : rIx a b S Q0 → _ := fun q => ix_T value slice pins s σ H x y v u Q I rx ry ⟨a, b, S, Q0, ra, rb, hs, q, im⟩ hsub
  have gd : ∀ p z, a = .ref p → getD S p b = some (some z) → Q0 z S → wpAny (model X.prog X.w) X.A (subscriptTail value slice v u) (EP X pins σ Q) X.xe s := fun p z ea eg q0 => by
    subst ea
    cases ra
    obtain ⟨o', g, r⟩ := getD_rep hs rb eg
    cases o' with
    | none => exact r.elim
    | some w => exact ix_D (by omega) value slice pins s σ H _ y v u Q I rx ry ⟨p, w, rfl, g, im _ _ q0 H w (Ext.refl H) hs r⟩ hsub
  cases a with
  | ref p =>
    unfold rIxM at q
    cases eS : S p with
    | none => simp only [eS] at q; exact go q
    | some u =>
      cases u with
      | lst ts => simp only [eS] at q; exact go q
      | ot xx =>
        cases xx with
        | dnt kvs =>
          simp only [eS] at q
          obtain ⟨k, ek, z, ez, q⟩ := q
          exact ix_N hu value slice pins s σ H x y v u Q I rx ry ⟨.ref p, b, S, Q0, ra, rb, hs, ⟨p, kvs, k, z, rfl, eS, ek, ez, q⟩, im⟩ hsub
      | ins C fs => simp only [eS] at q; exact go q
      | dct kvs =>
        simp only [eS] at q
        obtain ⟨k, ek, z, ez, q⟩ := q
        exact gd p z rfl (by unfold getD; rw [eS, ek]; simp only [Option.map_some, ez]) q
      | dtt kvs =>
        simp only [eS] at q
        obtain ⟨k, ek, z, ez, q⟩ := q
        exact gd p z rfl (by unfold getD; rw [eS, ek]; simp only [Option.map_some, ez]) q
  | non => exact go q
  | bl _ => exact go q
  | int _ => exact go q
  | str _ => exact go q
  | tup _ => exact go q
  | fl _ => exact go q
  | pt _ => exact go q
/-- what o[i] is -/
def ixA (S : Sta) (x y : T) : Option T := match x with
  | .ref p => match S p with
    | some (.lst ts) => match y with
      | .int i => atI ts i
      | _ => none
    | some (.dct kvs) => (keyT y).bind (valT kvs)
    | some (.dtt kvs) => (keysT y).bind (valT kvs)
    | some (.ot (.dnt kvs)) => (keyN y).bind (valN kvs)
    | _ => none
  | .tup ts => match y with
    | .int i => atI ts i
    | _ => none
  | .fl ts => match y with
    | .int i => atI ts i
    | _ => none
  | .str s => match y with
    | .int i => if s.length ≤ sizeLine then (atI s.cps.toList i).map fun c => .str ⟨#[c]⟩ else none
    | _ => none
  | _ => none
def rIxA (x : T) (y : T) (S : Sta) (Q : T → Sta → Prop) : Prop := ∃ v, ixA S x y = some v ∧ Q v S
theorem rIxA_M {x y : T} {S : Sta} {Q : T → Sta → Prop} (h : rIxA x y S Q) : rIxM x y S Q := by
  obtain ⟨v, e, q⟩ := h
  unfold ixA at e
  cases x with
  | ref p =>
    unfold rIxM
    simp only at e ⊢
    cases eS : S p with
    | none => rw [eS] at e; cases e
    | some u =>
      rw [eS] at e
      cases u with
      | lst ts =>
        cases y with
        | int i => exact ⟨ts, itemsT_ref' eS, v, e, q⟩
        | _ => cases e
      | ot x =>
        cases x with
        | dnt kvs =>
          obtain ⟨k, ek, ev⟩ := Option.bind_eq_some_iff.mp e
          exact ⟨k, ek, v, ev, q⟩
      | ins C fs => cases e
      | dct kvs =>
        obtain ⟨k, ek, ev⟩ := Option.bind_eq_some_iff.mp e
        exact ⟨k, ek, v, ev, q⟩
      | dtt kvs =>
        obtain ⟨k, ek, ev⟩ := Option.bind_eq_some_iff.mp e
        exact ⟨k, ek, v, ev, q⟩
  | tup ts => cases y with
    | int i => exact ⟨ts, rfl, v, e, q⟩
    | _ => cases e
  | fl ts => cases y with
    | int i => exact ⟨ts, rfl, v, e, q⟩
    | _ => cases e
  | str s => cases y with
    | int i =>
      simp only at e
      split at e
      · rename_i hl
        simp only [Option.map_eq_some_iff] at e
        obtain ⟨c, ec, rfl⟩ := e
        exact ⟨hl, c, ec, q⟩
      · cases e
    | _ => cases e
  | _ => cases e
theorem L3_mono {K : PySem.W.Frag} {r r' : R3} (h : ∀ x y S Q, r x y S Q → r' x y S Q) {x y : V} {H : Hp} {Q : VK} : L3 K r x y H Q → L3 K r' x y H Q := fun ⟨a, b, S, Q0, ra, rb, hs, q, im⟩ => ⟨a, b, S, Q0, ra, rb, hs, h _ _ _ _ q, im⟩
theorem ix_A (hu : X.A.units + 65 < cLine) : IxR X (L3 X.K rIxA) := fun value slice pins s σ H x y v u Q I rx ry q hs => ix_M hu value slice pins s σ H x y v u Q I rx ry (L3_mono (fun _ _ _ _ => rIxA_M) q) hs
theorem j_ixA (hu : X.A.units + 65 < cLine) (ha : JE B X a ta) (hb : JE B X b tb) (hs : PlainIx b) : JE B X (.Subscript a b pos) (wOp rIxA ta tb) := pe_imp (pe_ix (ix_A hu) ha hb hs) fun _ _ _ h => le_op h
/-- in, not in -/
def rInM (neg : Bool) (x : T) (y : T) (S : Sta) (Q : T → Sta → Prop) : Prop := match y with
  | .ref p => match S p with
    | some (.ot (.dnt kvs)) => ∃ k, keyN x = some k ∧ Q (.bl (neg != (valN kvs k).isSome)) S
    | some (.dct kvs) => ∃ k, keyT x = some k ∧ Q (.bl (neg != (valT kvs k).isSome)) S
    | some (.dtt kvs) => ∃ k, keysT x = some k ∧ Q (.bl (neg != (valT kvs k).isSome)) S
    | _ => Wp.rIn neg x (.ref p) S Q
  | y => Wp.rIn neg x y S Q
theorem RepO.some {K : PySem.W.Frag} {H : Hp} {o : Option T} {o' : Option V} (r : RepO K H o o') : o'.isSome = o.isSome := by
  cases o <;> cases o' <;> first | rfl | exact r.elim
theorem o_inM (hu : X.A.units + 65 < cLine) : OpT X (compareOp .In) (rInM false) := by
  intro pins s σ H x y v u Q I rx ry ⟨a, b, S, Q0, ra, rb, hs, q, im⟩
  have go : rIn false a b S Q0 → _ := fun q => o_in pins s σ H x y v u Q I rx ry ⟨a, b, S, Q0, ra, rb, hs, q, im⟩
  have gd : ∀ p z, b = .ref p → getD S p a = some z → Q0 (.bl (false != z.isSome)) S → wpAny (model X.prog X.w) X.A (compareOp .In v u) (EP X pins σ Q) X.xe s := fun p z eb eg q0 => by
    subst eb
    cases rb
    obtain ⟨o', g, r⟩ := getD_rep hs ra eg
    obtain rfl : u = Value.ref p := ry
    refine d_in (by omega) I g rx fun s3 I3 => ⟨.bl o'.isSome, H, I3, rfl, ?_⟩
    rw [r.some]
    rw [Bool.false_bne] at q0
    exact im _ _ q0 H _ (Ext.refl H) hs (.bl _)
  cases b with
  | ref p =>
    unfold rInM at q
    cases eS : S p with
    | none => simp only [eS] at q; exact go q
    | some u =>
      cases u with
      | lst ts => simp only [eS] at q; exact go q
      | ot xx =>
        cases xx with
        | dnt kvs =>
          simp only [eS] at q
          obtain ⟨k, ek, q⟩ := q
          cases rb
          obtain rfl : u = Value.ref p := ry
          rw [Bool.false_bne] at q
          exact nd_in hu I hs eS ra rx ek fun s3 I3 => ⟨.bl ((valN kvs k).isSome), H, I3, rfl, im _ _ q H _ (Ext.refl H) hs (.bl _)⟩
      | ins C fs => simp only [eS] at q; exact go q
      | dct kvs =>
        simp only [eS] at q
        obtain ⟨k, ek, q⟩ := q
        exact gd p _ rfl (by unfold getD; rw [eS, ek]; rfl) q
      | dtt kvs =>
        simp only [eS] at q
        obtain ⟨k, ek, q⟩ := q
        exact gd p _ rfl (by unfold getD; rw [eS, ek]; rfl) q
  | non => exact go q
  | bl _ => exact go q
  | int _ => exact go q
  | str _ => exact go q
  | tup _ => exact go q
  | fl _ => exact go q
  | pt _ => exact go q
theorem o_notInM (hu : X.A.units + 65 < cLine) : OpT X (compareOp .NotIn) (rInM true) := by
  intro pins s σ H x y v u Q I rx ry ⟨a, b, S, Q0, ra, rb, hs, q, im⟩
  have go : rIn true a b S Q0 → _ := fun q => o_notIn pins s σ H x y v u Q I rx ry ⟨a, b, S, Q0, ra, rb, hs, q, im⟩
  have gd : ∀ p z, b = .ref p → getD S p a = some z → Q0 (.bl (true != z.isSome)) S → wpAny (model X.prog X.w) X.A (compareOp .NotIn v u) (EP X pins σ Q) X.xe s := fun p z eb eg q0 => by
    subst eb
    cases rb
    obtain ⟨o', g, r⟩ := getD_rep hs ra eg
    obtain rfl : u = Value.ref p := ry
    refine d_notIn (by omega) I g rx fun s3 I3 => ⟨.bl (!o'.isSome), H, I3, rfl, ?_⟩
    rw [r.some]
    rw [Bool.true_bne] at q0
    exact im _ _ q0 H _ (Ext.refl H) hs (.bl _)
  cases b with
  | ref p =>
    unfold rInM at q
    cases eS : S p with
    | none => simp only [eS] at q; exact go q
    | some u =>
      cases u with
      | lst ts => simp only [eS] at q; exact go q
      | ot xx =>
        cases xx with
        | dnt kvs =>
          simp only [eS] at q
          obtain ⟨k, ek, q⟩ := q
          cases rb
          obtain rfl : u = Value.ref p := ry
          rw [Bool.true_bne] at q
          exact nd_notIn hu I hs eS ra rx ek fun s3 I3 => ⟨.bl (!(valN kvs k).isSome), H, I3, rfl, im _ _ q H _ (Ext.refl H) hs (.bl _)⟩
      | ins C fs => simp only [eS] at q; exact go q
      | dct kvs =>
        simp only [eS] at q
        obtain ⟨k, ek, q⟩ := q
        exact gd p _ rfl (by unfold getD; rw [eS, ek]; rfl) q
      | dtt kvs =>
        simp only [eS] at q
        obtain ⟨k, ek, q⟩ := q
        exact gd p _ rfl (by unfold getD; rw [eS, ek]; rfl) q
  | non => exact go q
  | bl _ => exact go q
  | int _ => exact go q
  | str _ => exact go q
  | tup _ => exact go q
  | fl _ => exact go q
  | pt _ => exact go q
/-- is x in y -/
def inA (S : Sta) (x y : T) : Option Bool := match y with
  | .ref p => match S p with
    | some (.lst ts) => if flatT x && ts.all flatT then some (inF x ts) else none
    | some (.dct kvs) => (keyT x).map fun k => (valT kvs k).isSome
    | some (.dtt kvs) => (keysT x).map fun k => (valT kvs k).isSome
    | some (.ot (.dnt kvs)) => (keyN x).map fun k => (valN kvs k).isSome
    | _ => none
  | .tup ts => if flatT x && ts.all flatT then some (inF x ts) else none
  | .fl ts => if flatT x && ts.all flatT then some (inF x ts) else none
  | _ => none
def rInA (neg : Bool) (x : T) (y : T) (S : Sta) (Q : T → Sta → Prop) : Prop := ∃ b, inA S x y = some b ∧ Q (.bl (neg != b)) S
theorem rInA_M {neg : Bool} {x y : T} {S : Sta} {Q : T → Sta → Prop} (h : rInA neg x y S Q) : rInM neg x y S Q := by
  obtain ⟨b, e, q⟩ := h
  have seq : ∀ ts : List T, itemsT S y = some ts → (if flatT x && ts.all flatT then some (inF x ts) else none) = some b → Wp.rIn neg x y S Q := fun ts ei e => by
    split at e
    · rename_i h
      rw [Bool.and_eq_true] at h
      cases e
      exact ⟨ts, ei, h.1, h.2, q⟩
    · cases e
  unfold inA at e
  cases y with
  | ref p =>
    unfold rInM
    simp only at e ⊢
    cases eS : S p with
    | none => rw [eS] at e; cases e
    | some u =>
      rw [eS] at e
      cases u with
      | lst ts => exact seq ts (itemsT_ref' eS) e
      | ot x =>
        cases x with
        | dnt kvs =>
          simp only [Option.map_eq_some_iff] at e
          obtain ⟨k, ek, rfl⟩ := e
          exact ⟨k, ek, q⟩
      | ins C fs => cases e
      | dct kvs =>
        simp only [Option.map_eq_some_iff] at e
        obtain ⟨k, ek, rfl⟩ := e
        exact ⟨k, ek, q⟩
      | dtt kvs =>
        simp only [Option.map_eq_some_iff] at e
        obtain ⟨k, ek, rfl⟩ := e
        exact ⟨k, ek, q⟩
  | tup ts => exact seq ts rfl e
  | fl ts => exact seq ts rfl e
  | _ => cases e
theorem o_inA (hu : X.A.units + 65 < cLine) : OpT X (compareOp .In) (rInA false) := fun pins s σ H x y v u Q I rx ry q => o_inM hu pins s σ H x y v u Q I rx ry (L3_mono (fun _ _ _ _ => rInA_M) q)
theorem o_notInA (hu : X.A.units + 65 < cLine) : OpT X (compareOp .NotIn) (rInA true) := fun pins s σ H x y v u Q I rx ry q => o_notInM hu pins s σ H x y v u Q I rx ry (L3_mono (fun _ _ _ _ => rInA_M) q)
/-- o[i] = v -/
def rSetM : T → T → T → Sta → (Sta → Prop) → Prop := fun o i v S Q => match o with
  | .ref p => match S p with
    | some (.dct kvs) => ∃ k, keyT i = some k ∧ kvs.length < sizeLine ∧ Q (upS S p (.dct (putT kvs k v)))
    | some (.dtt kvs) => ∃ k, keysT i = some k ∧ kvs.length < sizeLine ∧ Q (upS S p (.dtt (putT kvs k v)))
    | some (.ot (.dnt kvs)) => ∃ k, keyN i = some k ∧ kvs.length < sizeLine ∧ Q (upS S p (.ot (.dnt (putN kvs k v))))
    | _ => rSet (.ref p) i v S Q
  | _ => False
theorem set_M (hu : X.A.units + 65 < cLine) : PSet X (L3t X.K rSetM) := by
  intro pins s σ H o i v ov iv u Q I ro ri rv ⟨a, b, c, S, Q0, ra, rb, rc, hs, q, im⟩
  cases a with
  | ref p =>
    have go : rSet (.ref p) b c S Q0 → _ := fun q => set_T pins s σ H o i v ov iv u Q I ro ri rv ⟨.ref p, b, c, S, Q0, ra, rb, rc, hs, q, im⟩
    have gd : ∀ z, putD S p b c = some z → Q0 (upS S p z) → wpAny (model X.prog X.w) X.A (setItem ov iv u) (fun _ s' => ∃ H', Inv X pins σ H' s' ∧ Q H') X.xe s := fun z eg q0 => by
      cases ra
      obtain ⟨H', g, e, s3⟩ := putD_rep hs rb rc eg
      obtain rfl : ov = Value.ref p := ro
      exact d_setItem (by omega) I g ri rv fun s4 I4 => ⟨H', I4, im _ q0 H' e s3⟩
    unfold rSetM at q
    cases eS : S p with
    | none => simp only [eS] at q; exact go q
    | some u =>
      cases u with
      | lst ts => simp only [eS] at q; exact go q
      | ot xx =>
        cases xx with
        | dnt kvs =>
          simp only [eS] at q
          obtain ⟨k, ek, hl, q⟩ := q
          cases ra
          obtain rfl : ov = Value.ref p := ro
          exact nd_setItem hu I hs eS rb ri ek hl rc rv fun H' s' I' ex st => ⟨H', I', im _ q H' ex st⟩
      | ins C fs => simp only [eS] at q; exact go q
      | dct kvs =>
        simp only [eS] at q
        obtain ⟨k, ek, hl, q⟩ := q
        exact gd _ (by unfold putD; simp only [eS, ek, if_pos hl]; rfl) q
      | dtt kvs =>
        simp only [eS] at q
        obtain ⟨k, ek, hl, q⟩ := q
        exact gd _ (by unfold putD; simp only [eS, ek, if_pos hl]; rfl) q
  | _ => exact q.elim
/-- the thing at o behind o[i] = v -/
def setA (S : Sta) (p : Addr) (i v : T) : Option O := match S p with
  | some (.lst ts) => match i with
    | .int k => (ixN ts.length k).map fun j => .lst (ts.set j v)
    | _ => none
  | some (.dct kvs) => if kvs.length < sizeLine then (keyT i).map fun k => .dct (putT kvs k v) else none
  | some (.dtt kvs) => if kvs.length < sizeLine then (keysT i).map fun k => .dtt (putT kvs k v) else none
  | some (.ot (.dnt kvs)) => if kvs.length < sizeLine then (keyN i).map fun k => .ot (.dnt (putN kvs k v)) else none
  | _ => none
def rSetA : T → T → T → Sta → (Sta → Prop) → Prop := fun o i v S Q => match o with
  | .ref p => ∃ u, setA S p i v = some u ∧ Q (upS S p u)
  | _ => False
theorem rSetA_M {o i v : T} {S : Sta} {Q : Sta → Prop} (h : rSetA o i v S Q) : rSetM o i v S Q := by
  unfold rSetA at h
  cases o with
  | ref p =>
    obtain ⟨u, e, q⟩ := h
    unfold setA at e
    unfold rSetM
    simp only
    cases eS : S p with
    | none => rw [eS] at e; cases e
    | some w =>
      rw [eS] at e
      cases w with
      | lst ts =>
        cases i with
        | int k =>
          simp only [Option.map_eq_some_iff] at e
          obtain ⟨j, ej, rfl⟩ := e
          exact ⟨ts, eS, j, ej, q⟩
        | _ => cases e
      | ot x =>
        cases x with
        | dnt kvs =>
          simp only at e
          split at e
          · rename_i hl
            simp only [Option.map_eq_some_iff] at e
            obtain ⟨k, ek, rfl⟩ := e
            exact ⟨k, ek, hl, q⟩
          · cases e
      | ins C fs => cases e
      | dct kvs =>
        simp only at e
        split at e
        · rename_i hl
          simp only [Option.map_eq_some_iff] at e
          obtain ⟨k, ek, rfl⟩ := e
          exact ⟨k, ek, hl, q⟩
        · cases e
      | dtt kvs =>
        simp only at e
        split at e
        · rename_i hl
          simp only [Option.map_eq_some_iff] at e
          obtain ⟨k, ek, rfl⟩ := e
          exact ⟨k, ek, hl, q⟩
        · cases e
  | _ => exact h.elim
theorem set_A (hu : X.A.units + 65 < cLine) : PSet X (L3t X.K rSetA) := fun pins s σ H o i v ov iv u Q I ro ri rv ⟨a, b, c, S, Q0, ra, rb, rc, hs, q, im⟩ => set_M hu pins s σ H o i v ov iv u Q I ro ri rv ⟨a, b, c, S, Q0, ra, rb, rc, hs, rSetA_M q, im⟩
def gIxA (to ti : WE) (v : T) (σ : Sl) (S : Sta) (Q : Sl → Sta → Prop) : Prop := to σ S fun o S1 => ti σ S1 fun i S2 => rSetA o i v S2 fun S3 => Q σ S3
theorem jg_ixA {ti : WE} (hu : X.A.units + 65 < cLine) (ho : JE B X o to) (hi : JE B X i ti)
    (ha : ∀ v, assign (.Subscript o i pos) X.env v = (do
      let ov ← holding [v] (eval o X.env)
      let iv ← holding [v, ov] (eval i X.env)
      standAt pos
      holding [v, ov, iv] (setItem ov iv v)
      release [v, ov, iv] []) := by intro _; rfl) : JG2 B X (.Subscript o i pos) (gIxA to ti) := pg_imp (pg_sub ho hi (set_A hu) ha) fun v σ H Q ⟨t, st, S, Q0, he, rv, hr, hs, h, im⟩ => by
  refine ⟨st, S, _, he, hr, hs, h, fun x S1 h1 H1 v1 e1 s1 r1 => ?_⟩
  refine ⟨st, S1, _, he.trans e1, hr.mono e1, s1, h1, fun y S2 h2 H2 v2 e2 s2 r2 => ?_⟩
  exact ⟨x, y, t, S2, _, Rep.mono e2 _ _ r1, r2, Rep.mono (e1.trans e2) _ _ rv, s2, h2, fun S3 q H3 e3 s3 => im _ _ q H3 σ (e1.trans (e2.trans e3)) s3 (hr.mono (e1.trans (e2.trans e3)))⟩
/-- {} -/
def wDNew (u0 : Sl) (S : Sta) (Q : T → Sta → Prop) : Prop := ∀ p, S p = none → Q (.ref p) (upS S p (.dct []))
def wDNewT (u0 : Sl) (S : Sta) (Q : T → Sta → Prop) : Prop := ∀ p, S p = none → Q (.ref p) (upS S p (.dtt []))
theorem j_dnew : JE B X (.Dict [] [] pos) wDNew := pe_imp pe_dnewK fun σ H Q ⟨st, S, Q0, he, hr, hs, h, im⟩ => fun p hp => by
  obtain ⟨e1, s1⟩ := hs.newO (u' := .dK []) (o' := .dct []) hp fun ex => ⟨[], upd_same, .nil⟩
  exact im _ _ (h p (hs.free hp)) _ _ e1 s1 (.ref p)
theorem j_dnewT : JE B X (.Dict [] [] pos) wDNewT := pe_imp pe_dnewT fun σ H Q ⟨st, S, Q0, he, hr, hs, h, im⟩ => fun p hp => by
  obtain ⟨e1, s1⟩ := hs.newO (u' := .dT []) (o' := .dtt []) hp fun ex => ⟨[], upd_same, .nil⟩
  exact im _ _ (h p (hs.free hp)) _ _ e1 s1 (.ref p)
/-- d.get(y), d.get(y, x) -/
def rGet1 (p : Addr) (y : T) (S : Sta) (Q : T → Sta → Prop) : Prop := ∃ o, Wp.getD S p y = some o ∧ Q (o.getD .non) S
def rGet2 (p : Addr) (y z : T) (S : Sta) (Q : T → Sta → Prop) : Prop := ∃ o, Wp.getD S p y = some o ∧ Q (o.getD z) S
theorem RepO.getD {K : PySem.W.Frag} {H : Hp} {o : Option T} {o' : Option V} {t : T} {v : V} (r : RepO K H o o') (rt : Rep K H t v) : Rep K H (o.getD t) (o'.getD v) := by
  cases o <;> cases o' <;> first | exact rt | exact r | exact r.elim
def wGet1 (to te : WE) (σ : Sl) (S : Sta) (Q : T → Sta → Prop) : Prop := to σ S fun x S1 => match x with
  | .ref p => isDT S1 p ∧ te σ S1 fun y S2 => rGet1 p y S2 Q
  | _ => False
def wGet2 (to te tz : WE) (σ : Sl) (S : Sta) (Q : T → Sta → Prop) : Prop := to σ S fun x S1 => match x with
  | .ref p => isDT S1 p ∧ te σ S1 fun y S2 => tz σ S2 fun z S3 => rGet2 p y z S3 Q
  | _ => False
theorem j_get1 (hu : X.A.units + 65 < cLine) (ho : JE B X o to) (he : JE B X e te) (m : M1 X o "get" apos e cpos := by exact ⟨rfl, rfl, rfl, rfl⟩) : JE B X (.Call (.Attribute o "get" apos) [e] [] cpos) (wGet1 to te) :=
  pe_imp (pe_dget1 (by omega) ho he m) fun σ H Q ⟨st, S, Q0, he, hr, hs, h, im⟩ => by
    refine ⟨st, S, _, he, hr, hs, h, fun x S1 h1 H1 v e1 s1 r1 => ?_⟩
    cases x with
    | ref p =>
      obtain ⟨hd, h1⟩ := h1
      cases r1
      refine ⟨p, rfl, isDT_rep s1 hd, st, S1, _, he.trans e1, hr.mono e1, s1, h1, fun y S2 h2 H2 w e2 s2 r2 => ?_⟩
      obtain ⟨o, eo, q⟩ := h2
      obtain ⟨o', g, r⟩ := getD_rep s2 r2 eo
      exact ⟨o', g, im _ _ q H2 _ (e1.trans e2) s2 (r.getD .non)⟩
    | _ => exact h1.elim
theorem j_get2 {f : Expr} {tf : WE} (hu : X.A.units + 65 < cLine) (ho : JE B X o to) (he : JE B X e te) (hf : JE B X f tf) (m : M2 X o "get" apos e f cpos := by exact ⟨rfl, rfl, rfl, rfl⟩) : JE B X (.Call (.Attribute o "get" apos) [e, f] [] cpos) (wGet2 to te tf) :=
  pe_imp (pe_dget2 (by omega) ho he hf m) fun σ H Q ⟨st, S, Q0, he, hr, hs, h, im⟩ => by
    refine ⟨st, S, _, he, hr, hs, h, fun x S1 h1 H1 v e1 s1 r1 => ?_⟩
    cases x with
    | ref p =>
      obtain ⟨hd, h1⟩ := h1
      cases r1
      refine ⟨p, rfl, isDT_rep s1 hd, st, S1, _, he.trans e1, hr.mono e1, s1, h1, fun y S2 h2 H2 w e2 s2 r2 => ?_⟩
      refine ⟨st, S2, _, he.trans (e1.trans e2), hr.mono (e1.trans e2), s2, h2, fun z S3 h3 H3 w3 e3 s3 r3 => ?_⟩
      obtain ⟨o, eo, q⟩ := h3
      obtain ⟨o', g, r⟩ := getD_rep s3 (Rep.mono e3 _ _ r2) eo
      exact ⟨o', g, im _ _ q H3 _ (e1.trans (e2.trans e3)) s3 (r.getD r3)⟩
    | _ => exact h1.elim
/-- d.pop(k), there; d.pop(k, x): keys that are ints and texts -/
def wPop1 (to te : WE) (σ : Sl) (S : Sta) (Q : T → Sta → Prop) : Prop := to σ S fun x S1 => match x with
  | .ref p => isDT S1 p ∧ te σ S1 fun y S2 => match S2 p with
    | some (.dct kvs) => ∃ k, keyT y = some k ∧ ∃ v, valT kvs k = some v ∧ Q v (upS S2 p (.dct (dropT kvs k)))
    | _ => False
  | _ => False
def wPop2 (to te tz : WE) (σ : Sl) (S : Sta) (Q : T → Sta → Prop) : Prop := to σ S fun x S1 => match x with
  | .ref p => isDT S1 p ∧ te σ S1 fun y S2 => tz σ S2 fun z S3 => match S3 p with
    | some (.dct kvs) => ∃ k, keyT y = some k ∧ match valT kvs k with
      | some v => Q v (upS S3 p (.dct (dropT kvs k)))
      | none => Q z S3
    | _ => False
  | _ => False
theorem dropW {K : PySem.W.Frag} {S : Sta} {H : Hp} {p : Addr} {kvs : List (Key × T)} {vs : List (Key × V)} (hs : St K S H) (h1 : H p = some (.dK vs)) (h2 : KRep K H kvs vs) (k : Key) :
    Ext H (upd H p (.dK (dropK vs k))) ∧ St K (upS S p (.dct (dropT kvs k))) (upd H p (.dK (dropK vs k))) := hs.setO h1 trivial fun ex => ⟨_, upd_same, (h2.drop k).mono ex⟩
theorem j_pop1 (ho : JE B X o to) (he : JE B X e te) (m : M1 X o "pop" apos e cpos := by exact ⟨rfl, rfl, rfl, rfl⟩) : JE B X (.Call (.Attribute o "pop" apos) [e] [] cpos) (wPop1 to te) :=
  pe_imp (pe_dpop1 ho he m) fun σ H Q ⟨st, S, Q0, he, hr, hs, h, im⟩ => by
    refine ⟨st, S, _, he, hr, hs, h, fun x S1 h1 H1 v e1 s1 r1 => ?_⟩
    cases x with
    | ref p =>
      obtain ⟨hd, h1⟩ := h1
      cases r1
      refine ⟨p, rfl, isDT_rep s1 hd, st, S1, _, he.trans e1, hr.mono e1, s1, h1, fun y S2 h2 H2 w e2 s2 r2 => ?_⟩
      cases eS : S2 p with
      | none => simp only [eS] at h2
      | some u =>
        cases u with
        | lst ts => simp only [eS] at h2
        | ot x => simp only [eS] at h2
        | ins C fs => simp only [eS] at h2
        | dtt kvs => simp only [eS] at h2
        | dct kvs =>
          simp only [eS] at h2
          obtain ⟨k, ek, z, ez, q⟩ := h2
          obtain ⟨vs, g1, g2⟩ := s2 p _ eS
          have rv := g2.val k
          rw [ez] at rv
          cases ev : valV vs k with
          | none => rw [ev] at rv; exact rv.elim
          | some w3 =>
            rw [ev] at rv
            obtain ⟨e3, s3⟩ := dropW s2 g1 g2 k
            exact ⟨vs, k, w3, g1, keyT_rep r2 ek, ev, im _ _ q _ w3 (e1.trans (e2.trans e3)) s3 (Rep.mono e3 _ _ rv)⟩
    | _ => exact h1.elim
theorem j_pop2 {f : Expr} {tf : WE} (ho : JE B X o to) (he : JE B X e te) (hf : JE B X f tf) (m : M2 X o "pop" apos e f cpos := by exact ⟨rfl, rfl, rfl, rfl⟩) : JE B X (.Call (.Attribute o "pop" apos) [e, f] [] cpos) (wPop2 to te tf) :=
  pe_imp (pe_dpop2 ho he hf m) fun σ H Q ⟨st, S, Q0, he, hr, hs, h, im⟩ => by
    refine ⟨st, S, _, he, hr, hs, h, fun x S1 h1 H1 v e1 s1 r1 => ?_⟩
    cases x with
    | ref p =>
      obtain ⟨hd, h1⟩ := h1
      cases r1
      refine ⟨p, rfl, isDT_rep s1 hd, st, S1, _, he.trans e1, hr.mono e1, s1, h1, fun y S2 h2 H2 w e2 s2 r2 => ?_⟩
      refine ⟨st, S2, _, he.trans (e1.trans e2), hr.mono (e1.trans e2), s2, h2, fun z S3 h3 H3 w3 e3 s3 r3 => ?_⟩
      cases eS : S3 p with
      | none => simp only [eS] at h3
      | some u =>
        cases u with
        | lst ts => simp only [eS] at h3
        | ot x => simp only [eS] at h3
        | ins C fs => simp only [eS] at h3
        | dtt kvs => simp only [eS] at h3
        | dct kvs =>
          simp only [eS] at h3
          obtain ⟨k, ek, q⟩ := h3
          obtain ⟨vs, g1, g2⟩ := s3 p _ eS
          have rv := g2.val k
          refine ⟨vs, k, g1, keyT_rep (Rep.mono e3 _ _ r2) ek, fun v3 ev => ?_, fun ev => ?_⟩
          · rw [ev] at rv
            cases ez : valT kvs k with
            | none => rw [ez] at rv; exact rv.elim
            | some t3 =>
              rw [ez] at rv
              simp only [ez] at q
              obtain ⟨e4, s4⟩ := dropW s3 g1 g2 k
              exact im _ _ q _ v3 (e1.trans (e2.trans (e3.trans e4))) s4 (Rep.mono e4 _ _ rv)
          · rw [ev] at rv
            cases ez : valT kvs k with
            | some t3 => rw [ez] at rv; exact rv.elim
            | none =>
              simp only [ez] at q
              exact im _ _ q _ w3 (e1.trans (e2.trans e3)) s3 r3
    | _ => exact h1.elim
/-- del d[k] -/
def wDel (to ti : WE) (D : WEnds) (σ : Sl) (S : Sta) : Prop := to σ S fun x S1 => ti σ S1 fun y S2 => match x with
  | .ref p => match S2 p with
    | some (.dct kvs) => ∃ k, keyT y = some k ∧ (valT kvs k).isSome = true ∧ goS D.nx σ (upS S2 p (.dct (dropT kvs k)))
    | _ => False
  | _ => False
theorem js_del {ti : WE} (ho : JE B X o to) (hi : JE B X i ti) : JS B X (.Delete [.Subscript o i tpos] pos) (wDel to ti) := ps_imp (ps_ddel ho hi) fun D σ H ⟨st, S, D0, he, hr, hs, h, im⟩ => by
  refine ⟨st, S, _, he, hr, hs, h, fun x S1 h1 H1 v1 e1 s1 r1 => ?_⟩
  refine ⟨st, S1, _, he.trans e1, hr.mono e1, s1, h1, fun y S2 h2 H2 v2 e2 s2 r2 => ?_⟩
  cases x with
  | ref p =>
    cases r1
    simp only at h2
    cases eS : S2 p with
    | none => simp only [eS] at h2
    | some u =>
      cases u with
      | lst ts => simp only [eS] at h2
      | ot x => simp only [eS] at h2
      | ins C fs => simp only [eS] at h2
      | dtt kvs => simp only [eS] at h2
      | dct kvs =>
        simp only [eS] at h2
        obtain ⟨k, ek, hk, q⟩ := h2
        obtain ⟨vs, g1, g2⟩ := s2 p _ eS
        obtain ⟨e3, s3⟩ := dropW s2 g1 g2 k
        have rv := g2.val k
        refine ⟨p, vs, k, rfl, g1, keyT_rep r2 ek, by rw [rv.some]; exact hk, ?_⟩
        exact im.nx _ _ q _ σ (e1.trans (e2.trans e3)) s3 (hr.mono (e1.trans (e2.trans e3)))
  | _ => exact h2.elim
/-- sorted(d), keys that are ints, below 64 -/
def rSortD (xs : List T) (S : Sta) (Q : T → Sta → Prop) : Prop := match xs with
  | [.ref p] => ∃ (kvs : List (Key × T)) (ks : List Int), S p = some (.dct kvs) ∧ kvs.map (·.1) = ks.map Sum.inl ∧ ks.length < 64 ∧ ∀ (ys : List Int) (q : Addr), ys.Perm ks → ys.Pairwise (· ≤ ·) → S q = none → Q (.ref q) (upS S q (.lst (ys.map T.int)))
  | _ => False
theorem c_sortD (hc : X.calm = true) : CallR X (.builtin "sorted") (LC X.K rSortD) := by
  intro pins s σ H xs us Q I rx ⟨ts, S, Q0, r, hs, q, im⟩
  match ts, q with
  | [.ref p], ⟨kvs, ks, e, ek, hl, q⟩ =>
    obtain ⟨v, rfl, r1⟩ := r.one
    cases r1
    obtain ⟨vs, g1, g2⟩ := hs p _ e
    refine call_sortedDI hc pins s σ H _ us Q I rx ⟨p, vs, ks, rfl, .inl g1, by rw [← g2.keys]; exact ek, hl, fun ys l h1 h2 h3 => ?_⟩
    obtain ⟨e3, s3⟩ := hs.newL h3 (Reps.ints (K := X.K) ys)
    exact im _ _ (q ys l h1 h2 (hs.free h3)) _ _ e3 s3 (.ref l)
/-- max(xs), a list of ints -/
def rMaxL (xs : List T) (S : Sta) (Q : T → Sta → Prop) : Prop := match xs with
  | [.ref p] => ∃ ns : List Int, S p = some (.lst (ns.map T.int)) ∧ 0 < ns.length ∧ ∀ m, m ∈ ns → (∀ y, y ∈ ns → y ≤ m) → Q (.int m) S
  | _ => False
theorem c_maxL (hc : X.calm = true) : CallR X (.builtin "max") (LC X.K rMaxL) := by
  intro pins s σ H xs us Q I rx ⟨ts, S, Q0, r, hs, q, im⟩
  match ts, q with
  | [.ref p], ⟨ns, e, hl, q⟩ =>
    obtain ⟨v, rfl, r1⟩ := r.one
    cases r1
    obtain ⟨ys, g1, g2⟩ := hs p _ e
    have ey := g2.intsV
    subst ey
    exact cr_max hc pins s σ H _ us Q I rx ⟨p, ns, rfl, .inl (.inl g1), hl, fun m h1 h2 => im _ _ (q m h1 h2) _ _ (Ext.refl H) hs (.int _)⟩
/-- xs.pop(i) -/
def rPopL (x : T) (ts : List T) (S : Sta) (Q : T → Sta → Prop) : Prop := match x, ts with
  | .ref p, [.int i] => ∃ xs, S p = some (.lst xs) ∧ 0 ≤ i ∧ i < 2 ^ 62 ∧ ∃ y, xs[i.toNat]? = some y ∧ Q y (upS S p (.lst (xs.eraseIdx i.toNat)))
  | _, _ => False
theorem Reps.eraseIdx {K : PySem.W.Frag} {H : Hp} : ∀ {ts : List T} {vs : List V} (i : Nat), Reps K H ts vs → Reps K H (ts.eraseIdx i) (vs.eraseIdx i)
  | [], _, _, h => by cases h; exact .nil
  | t :: ts, _, 0, h => by
    cases h with
    | cons h1 h2 => exact h2
  | t :: ts, _, i + 1, h => by
    cases h with
    | cons h1 h2 => exact .cons h1 (Reps.eraseIdx i h2)
theorem m_popL : MtR X "list.pop" (LM X.K rPopL) := by
  intro pins s σ H x xs v us Q I rx rxs ⟨t, ts, S, Q0, rt, rts, hs, q, im⟩
  match t, ts, q with
  | .ref p, [.int i], ⟨zs, e, h0, h1, y, ey, q⟩ =>
    cases rt
    obtain ⟨w, rfl, rw'⟩ := rts.one
    cases rw'
    obtain ⟨ys, g1, g2⟩ := hs p _ e
    obtain ⟨z, g3, g4⟩ := g2.get ey
    obtain ⟨e2, s2⟩ := hs.setL g1 (g2.eraseIdx i.toNat)
    have hl : i.toNat < ys.length := (List.getElem?_eq_some_iff.mp g3).1
    exact mt_popAt pins s σ H _ _ v us Q I rx rxs ⟨p, ys, i, i.toNat, z, rfl, rfl, g1, by omega, by omega, seqIndex_of h0 (by omega), g3, im _ _ q _ _ e2 s2 (Rep.mono e2 _ _ g4)⟩
/-- len(d) -/
def rLenM (xs : List T) (S : Sta) (Q : T → Sta → Prop) : Prop := match xs with
  | [.ref p] => match S p with
    | some (.dct kvs) => Q (.int kvs.length) S
    | _ => rLen [.ref p] S Q
  | xs => rLen xs S Q
theorem c_lenM : CallR X (.builtin "len") (LC X.K rLenM) := by
  intro pins s σ H xs us Q I rx ⟨ts, S, Q0, r, hs, q, im⟩
  have go : rLen ts S Q0 → _ := fun q => c_len pins s σ H xs us Q I rx ⟨ts, S, Q0, r, hs, q, im⟩
  match ts, q with
  | [.ref p], q =>
    unfold rLenM at q
    cases eS : S p with
    | none => simp only [eS] at q; exact go q
    | some u =>
      cases u with
      | lst ts => simp only [eS] at q; exact go q
      | ot x => simp only [eS] at q; exact go q
      | ins C fs => simp only [eS] at q; exact go q
      | dtt kvs => simp only [eS] at q; exact go q
      | dct kvs =>
        simp only [eS] at q
        obtain ⟨v, rfl, r1⟩ := r.one
        cases r1
        obtain ⟨vs, g1, g2⟩ := hs p _ eS
        refine call_lenD pins s σ H _ us Q I rx ?_
        first
          | exact ⟨p, vs, rfl, g1, by rw [← g2.length]; exact im _ _ q H _ (Ext.refl H) hs (.int _)⟩
          | exact ⟨p, vs, rfl, .inl g1, by rw [← g2.length]; exact im _ _ q H _ (Ext.refl H) hs (.int _)⟩
  | [], q => exact go q
  | [.non], q => exact go q
  | [.bl _], q => exact go q
  | [.int _], q => exact go q
  | [.str _], q => exact go q
  | [.tup _], q => exact go q
  | [.fl _], q => exact go q
  | [.pt _], q => exact go q
  | a :: b :: c, q => exact go (by cases a <;> exact q)
def lenA (S : Sta) (x : T) : Option Int := match x with
  | .ref p => match S p with
    | some (.lst ts) => some ts.length
    | some (.dct kvs) => some kvs.length
    | _ => none
  | .tup ts => some ts.length
  | .fl ts => some ts.length
  | .str z => if z.length ≤ sizeLine then some z.length else none
  | _ => none
def rLenA (xs : List T) (S : Sta) (Q : T → Sta → Prop) : Prop := match xs with
  | [x] => ∃ n, lenA S x = some n ∧ Q (.int n) S
  | _ => False
theorem rLenA_M {xs : List T} {S : Sta} {Q : T → Sta → Prop} (h : rLenA xs S Q) : rLenM xs S Q := by
  match xs, h with
  | [x], ⟨n, e, q⟩ =>
    unfold lenA at e
    cases x with
    | ref p =>
      unfold rLenM
      simp only at e ⊢
      cases eS : S p with
      | none => rw [eS] at e; cases e
      | some w =>
        rw [eS] at e
        cases w with
        | lst ts => cases e; exact ⟨ts, itemsT_ref' eS, q⟩
        | ot x => cases e
        | ins C fs => cases e
        | dct kvs => cases e; exact q
        | dtt kvs => cases e
    | tup ts => cases e; exact ⟨ts, rfl, q⟩
    | fl ts => cases e; exact ⟨ts, rfl, q⟩
    | str z =>
      simp only at e
      split at e
      · rename_i hl; cases e; exact ⟨hl, q⟩
      · cases e
    | _ => cases e
theorem c_lenA : CallR X (.builtin "len") (LC X.K rLenA) := fun pins s σ H xs us Q I rx ⟨ts, S, Q0, r, hs, q, im⟩ => c_lenM pins s σ H xs us Q I rx ⟨ts, S, Q0, r, hs, rLenA_M q, im⟩
end
end Wp

set_option Elab.async false
set_option linter.all false
set_option maxRecDepth 100000
/-! the bags again, over the readings that know dicts -/
namespace Wp
open PySem PySem.Spec PyProof.Rows L2
theorem nodup_filter {α : Type} [DecidableEq α] (k : α) : ∀ ks : List α, ks.Nodup → ks.length ≤ (ks.filter fun x => decide (x ≠ k)).length + 1
  | [], _ => Nat.zero_le _
  | x :: ks, h => by
    obtain ⟨h1, h2⟩ := List.nodup_cons.mp h
    rw [List.filter_cons]
    by_cases e : x = k
    · subst e
      have e2 : ks.filter (fun y => decide (y ≠ x)) = ks := List.filter_eq_self.mpr fun y hy => decide_eq_true fun (e : y = x) => h1 (by rw [← e]; exact hy)
      rw [if_neg (by simp), e2]
      exact Nat.le_refl _
    · rw [if_pos (by simpa using e), List.length_cons, List.length_cons]
      have := nodup_filter k ks h2
      omega
/-- distinct keys of a range -/
theorem nodup_keys : ∀ (n : Nat) (ks : List Key), ks.Nodup → (∀ k ∈ ks, ∃ b : Int, k = .inl b ∧ 0 ≤ b ∧ b < (n : Int)) → ks.length ≤ n
  | 0, ks, _, h => by
    cases ks with
    | nil => exact Nat.le_refl _
    | cons k ks => obtain ⟨b, _, h0, h1⟩ := h k List.mem_cons_self; omega
  | n + 1, ks, hn, h => by
    refine Nat.le_trans (nodup_filter (Sum.inl (n : Int) : Key) ks hn) (Nat.succ_le_succ (nodup_keys n _ (hn.filter _) fun k hk => ?_))
    rw [List.mem_filter, decide_eq_true_eq] at hk
    obtain ⟨b, rfl, h0, h1⟩ := h k hk.1
    refine ⟨b, rfl, h0, ?_⟩
    have : b ≠ (n : Int) := fun e => hk.2 (by rw [e])
    omega
theorem ex_ins {C : Addr} {a : List (Str × T)} {P : List (Str × T) → Prop} : (∃ v, some (O.ins C a) = some (O.ins C v) ∧ P v) = P a := by
  apply propext
  constructor
  · rintro ⟨v, e, h⟩; cases e; exact h
  · intro h; exact ⟨a, rfl, h⟩
theorem ex_dct {a : List (Key × T)} {P : List (Key × T) → Prop} : (∃ v, some (O.dct a) = some (O.dct v) ∧ P v) = P a := by
  apply propext
  constructor
  · rintro ⟨v, e, h⟩; cases e; exact h
  · intro h; exact ⟨a, rfl, h⟩
local macro_rules | `(tactic| walk_at "go") => `(tactic| (with_reducible refine goS_i ?_))
local macro_rules | `(tactic| walk_at "wp") => `(tactic| simp (disch := omega) only [Wp.wSeq, Wp.wNext, Wp.wSet, Wp.wVar, Wp.wC, Wp.wOp, Wp.wRet, Wp.wIfS, Wp.wTest, Wp.wCall, Wp.wCons, Wp.wNil, Wp.wTup, Wp.wLst, Wp.wAsg, Wp.gTp, Wp.gC, Wp.gNm, Wp.gN0, Wp.gIx, Wp.rSet, Wp.rAdd, Wp.rMul, Wp.rMod, Wp.rSub, Wp.rFdiv, Wp.rPow, Wp.rInt, Wp.rIx, Wp.rLt, Wp.rLe, Wp.rCmp, Wp.rGeI, Wp.rGtI, Wp.wCB, Wp.rLen, Wp.rLen1, Wp.rInt1, Wp.rMax2, Wp.rMin2, Wp.rTupOf, Wp.rListOf,
  Wp.wIsi, Wp.rBIs, Wp.rIsN, Wp.isNon, Wp.wMt, Wp.rAppendT, Wp.rExtendT, Wp.rReverseT, Wp.wNot, Wp.wOr, Wp.wAnd, Wp.wAndV, Wp.wOrV, Wp.wNotV, Wp.wFor, Wp.iRg1, Wp.iRg2, Wp.iAnyW, Wp.wAll, Wp.wChain, Wp.wSl, Wp.wNoPart, Wp.wPart, Wp.rSl, Wp.wNeg, Wp.rNeg, Wp.wLc, Wp.wYes, Wp.wDrop, Wp.wipeT, Wp.wAug, List.map, List.set_cons_zero, List.set_cons_succ, List.getElem?_cons_zero, List.getElem?_cons_succ, List.length_cons, List.length_nil, List.cons_append, List.nil_append, List.replicate, Wp.startT,
  true_and, and_true, Wp.wif_true, Wp.wif_false, Wp.ex_some, Wp.ex_some1, Wp.ex_eq, Wp.ex_lst, Wp.ex_lst0, Wp.rEq_int, Bool.false_bne, Bool.true_bne, Int.reduceLT, Int.reduceLE, Int.reduceAdd, Nat.reduceAdd, Nat.reduceSub, eq_self, ite_true, ite_false, beq_self_eq_true, Bool.not_true, Bool.not_false, Wp.isB_0, Wp.isB_1, Wp.isB_2, Wp.isB_3, Wp.isB_4, Wp.isB_5, Wp.isB_6, Wp.isB_7, Wp.isB_8, Wp.isB_9, Wp.isB_10, Wp.isB_11, Wp.isB_12, Wp.isB_13, Wp.isB_14, Wp.isB_15, Wp.isB_16, Wp.isB_17, Wp.isB_18, Wp.isB_19, Wp.isB_20, Wp.isB_21, Wp.isB_22, Wp.isB_23, Wp.isB_24, Wp.isB_25, Wp.isB_26, Wp.isB_27, Wp.isB_28, Wp.isB_29, Wp.isB_30, Wp.isB_31, Wp.isB_32, Wp.isB_33, Wp.isB_34, Wp.isB_35, Wp.cmul_l, Wp.cmul_r, Wp.cpow_lit, Wp.size_le, Wp.size_lt, Wp.atI_0, Wp.atI_1, Wp.atI_2, Wp.atI_3, Wp.atI_4, Wp.atI_5, Wp.atI_6, Wp.ixN_0, Wp.ixN_1, Wp.ixN_2, Wp.itemsT, Wp.tyT, reduceIte, Wp.wFld, Wp.wFSet, Wp.wFAug, Wp.wMeth, Wp.wMake, Wp.rIxA, Wp.rInA, Wp.rSetA, Wp.ixA, Wp.inA, Wp.setA, Wp.lenA, Wp.getD, Option.map_some, Option.bind_some, Option.getD_some,  Wp.gIxA, Wp.wDNew, Wp.wDNewT, Wp.rLenA, Wp.rSortD, Wp.rMaxL, Wp.rPopL, Wp.rGet1, Wp.rGet2, Wp.wGet1, Wp.wGet2, Wp.wPop1, Wp.wPop2, Wp.wDel, Wp.isDT, Wp.keyT, Wp.keysT, Wp.keysL, Wp.ex_ins, Wp.ex_dct, Wp.upS, Wp.upS_upS, *])
local macro_rules | `(tactic| walk_at "run") => `(tactic| repeat (first | walk_at "wp" | walk_at "go"))
local macro_rules | `(tactic| walk_at "wq") => `(tactic| simp (disch := omega) only [Wp.wSeq, Wp.wNext, Wp.wSet, Wp.wVar, Wp.wC, Wp.wOp, Wp.wRet, Wp.wIfS, Wp.wTest, Wp.wCall, Wp.wCons, Wp.wNil, Wp.wTup, Wp.wLst, Wp.wAsg, Wp.gTp, Wp.gC, Wp.gNm, Wp.gN0, Wp.gIx, Wp.rSet, Wp.rAdd, Wp.rMul, Wp.rMod, Wp.rSub, Wp.rFdiv, Wp.rPow, Wp.rInt, Wp.rIx, Wp.rLt, Wp.rLe, Wp.rCmp, Wp.rGeI, Wp.rGtI, Wp.wCB, Wp.rLen, Wp.rLen1, Wp.rInt1, Wp.rMax2, Wp.rMin2, Wp.rTupOf, Wp.rListOf,
  Wp.wIsi, Wp.rBIs, Wp.rIsN, Wp.isNon, Wp.wMt, Wp.rAppendT, Wp.rExtendT, Wp.rReverseT, Wp.wNot, Wp.wOr, Wp.wAnd, Wp.wAndV, Wp.wOrV, Wp.wNotV, Wp.wFor, Wp.iRg1, Wp.iRg2, Wp.iAnyW, Wp.wAll, Wp.wChain, Wp.wSl, Wp.wNoPart, Wp.wPart, Wp.rSl, Wp.wNeg, Wp.rNeg, Wp.wLc, Wp.wYes, Wp.wDrop, Wp.wipeT, Wp.wAug, List.map, List.set_cons_zero, List.set_cons_succ, List.getElem?_cons_zero, List.getElem?_cons_succ, List.length_cons, List.length_nil, List.cons_append, List.nil_append, List.replicate, Wp.startT,
  true_and, and_true, Wp.wif_true, Wp.wif_false, Wp.ex_some, Wp.ex_some1, Wp.ex_eq, Wp.ex_lst, Wp.ex_lst0, Wp.rEq_int, Bool.false_bne, Bool.true_bne, Int.reduceLT, Int.reduceLE, Int.reduceAdd, Nat.reduceAdd, Nat.reduceSub, eq_self, ite_true, ite_false, beq_self_eq_true, Bool.not_true, Bool.not_false, Wp.isB_0, Wp.isB_1, Wp.isB_2, Wp.isB_3, Wp.isB_4, Wp.isB_5, Wp.isB_6, Wp.isB_7, Wp.isB_8, Wp.isB_9, Wp.isB_10, Wp.isB_11, Wp.isB_12, Wp.isB_13, Wp.isB_14, Wp.isB_15, Wp.isB_16, Wp.isB_17, Wp.isB_18, Wp.isB_19, Wp.isB_20, Wp.isB_21, Wp.isB_22, Wp.isB_23, Wp.isB_24, Wp.isB_25, Wp.isB_26, Wp.isB_27, Wp.isB_28, Wp.isB_29, Wp.isB_30, Wp.isB_31, Wp.isB_32, Wp.isB_33, Wp.isB_34, Wp.isB_35, Wp.cmul_l, Wp.cmul_r, Wp.cpow_lit, Wp.size_le, Wp.size_lt, Wp.atI_0, Wp.atI_1, Wp.atI_2, Wp.atI_3, Wp.atI_4, Wp.atI_5, Wp.atI_6, Wp.ixN_0, Wp.ixN_1, Wp.ixN_2, Wp.itemsT, Wp.tyT, reduceIte, Wp.wFld, Wp.wFSet, Wp.wFAug, Wp.wMeth, Wp.wMake, Wp.rIxA, Wp.rInA, Wp.rSetA, Wp.ixA, Wp.inA, Wp.setA, Wp.lenA, Wp.getD, Option.map_some, Option.bind_some, Option.getD_some,  Wp.gIxA, Wp.wDNew, Wp.wDNewT, Wp.rLenA, Wp.rSortD, Wp.rMaxL, Wp.rPopL, Wp.rGet1, Wp.rGet2, Wp.wGet1, Wp.wGet2, Wp.wPop1, Wp.wPop2, Wp.wDel, Wp.isDT, Wp.keyT, Wp.keysT, Wp.keysL, Wp.ex_ins, Wp.ex_dct, *])
local macro_rules | `(tactic| walk_at "r2") => `(tactic| repeat (first | walk_at "wq" | walk_at "go"))
local macro_rules | `(tactic| walk_at "w0") => `(tactic| simp (disch := omega) only [Wp.wSeq, Wp.wNext, Wp.wSet, Wp.wVar, Wp.wC, Wp.wOp, Wp.wRet, Wp.wIfS, Wp.wTest, Wp.wCall, Wp.wCons, Wp.wNil, Wp.wTup, Wp.wLst, Wp.wAsg, Wp.gTp, Wp.gC, Wp.gNm, Wp.gN0, Wp.gIx, Wp.rSet, Wp.rAdd, Wp.rMul, Wp.rMod, Wp.rSub, Wp.rFdiv, Wp.rPow, Wp.rInt, Wp.rIx, Wp.rLt, Wp.rLe, Wp.rCmp, Wp.rGeI, Wp.rGtI, Wp.wCB, Wp.rLen, Wp.rLen1, Wp.rInt1, Wp.rMax2, Wp.rMin2, Wp.rTupOf, Wp.rListOf,
  Wp.wIsi, Wp.rBIs, Wp.rIsN, Wp.isNon, Wp.wMt, Wp.rAppendT, Wp.rExtendT, Wp.rReverseT, Wp.wNot, Wp.wOr, Wp.wAnd, Wp.wAndV, Wp.wOrV, Wp.wNotV, Wp.wFor, Wp.iRg1, Wp.iRg2, Wp.iAnyW, Wp.wAll, Wp.wChain, Wp.wSl, Wp.wNoPart, Wp.wPart, Wp.rSl, Wp.wNeg, Wp.rNeg, Wp.wLc, Wp.wYes, Wp.wDrop, Wp.wipeT, Wp.wAug, List.map, List.set_cons_zero, List.set_cons_succ, List.getElem?_cons_zero, List.getElem?_cons_succ, List.length_cons, List.length_nil, List.cons_append, List.nil_append, List.replicate, Wp.startT,
  true_and, and_true, Wp.wif_true, Wp.wif_false, Wp.ex_some, Wp.ex_some1, Wp.ex_eq, Wp.ex_lst, Wp.ex_lst0, Wp.rEq_int, Bool.false_bne, Bool.true_bne, Int.reduceLT, Int.reduceLE, Int.reduceAdd, Nat.reduceAdd, Nat.reduceSub, eq_self, ite_true, ite_false, beq_self_eq_true, Bool.not_true, Bool.not_false, Wp.isB_0, Wp.isB_1, Wp.isB_2, Wp.isB_3, Wp.isB_4, Wp.isB_5, Wp.isB_6, Wp.isB_7, Wp.isB_8, Wp.isB_9, Wp.isB_10, Wp.isB_11, Wp.isB_12, Wp.isB_13, Wp.isB_14, Wp.isB_15, Wp.isB_16, Wp.isB_17, Wp.isB_18, Wp.isB_19, Wp.isB_20, Wp.isB_21, Wp.isB_22, Wp.isB_23, Wp.isB_24, Wp.isB_25, Wp.isB_26, Wp.isB_27, Wp.isB_28, Wp.isB_29, Wp.isB_30, Wp.isB_31, Wp.isB_32, Wp.isB_33, Wp.isB_34, Wp.isB_35, Wp.cmul_l, Wp.cmul_r, Wp.cpow_lit, Wp.size_le, Wp.size_lt, Wp.atI_0, Wp.atI_1, Wp.atI_2, Wp.atI_3, Wp.atI_4, Wp.atI_5, Wp.atI_6, Wp.ixN_0, Wp.ixN_1, Wp.ixN_2, Wp.itemsT, Wp.tyT, reduceIte, Wp.wFld, Wp.wFSet, Wp.wFAug, Wp.wMeth, Wp.wMake, Wp.rIxA, Wp.rInA, Wp.rSetA, Wp.ixA, Wp.inA, Wp.setA, Wp.lenA, Wp.getD, Option.map_some, Option.bind_some, Option.getD_some,  Wp.gIxA, Wp.wDNew, Wp.wDNewT, Wp.rLenA, Wp.rSortD, Wp.rMaxL, Wp.rPopL, Wp.rGet1, Wp.rGet2, Wp.wGet1, Wp.wGet2, Wp.wPop1, Wp.wPop2, Wp.wDel, Wp.isDT, Wp.keyT, Wp.keysT, Wp.keysL, Wp.ex_ins, Wp.ex_dct])
local macro_rules | `(tactic| walk_at "r0") => `(tactic| repeat (first | walk_at "w0" | walk_at "go"))
def b_bag3A : WS :=
  (wSeq (wSet 2 (wC (.int 0)))
    (wSeq (wIfS (wTest (wOp rLt (wVar 1) (wCB rLenA (wCons (wVar 0) wNil)))) (wSet 2 (wCB rInt1 (wCons (wOp rIxA (wVar 0) (wVar 1)) wNil))) wNext)
    (wSeq (wIfS (wTest (wOp rGeI (wVar 2) (wOp rPow (wC (.int 10)) (wC (.int 18))))) (wRet (wLst (wCons (wVar 2) (wCons (wVar 2) (wCons (wVar 1) wNil))))) wNext)
    (wRet (wLst (wCons (wC (.int 0)) (wCons (wVar 2) (wCons (wVar 1) wNil))))))))
def b_draw3A : WS :=
  (wSeq (wIfS (wTest (wOp (rEq false) (wOp rIxA (wVar 0) (wC (.int 0))) (wC (.int 0)))) (wSeq (wSet 2 (wOp rMod (wCB rInt1 (wCons (wOp rAdd (wOp rAdd (wOp rMul (wOp rIxA (wVar 0) (wC (.int 1))) (wC (.int 48271))) (wOp rMul (wOp rIxA (wVar 0) (wC (.int 2))) (wC (.int 69621)))) (wC (.int 11))) wNil)) (wC (.int 2147483647))))
    (wSeq (wAsg (wOp rAdd (wOp rMul (wVar 2) (wC (.int 2147483629))) (wOp rMod (wCB rInt1 (wCons (wOp rAdd (wOp rMul (wVar 2) (wVar 2)) (wOp rMul (wOp rIxA (wVar 0) (wC (.int 2))) (wC (.int 16807)))) wNil)) (wC (.int 2147483629)))) (gIxA (wVar 0) (wC (.int 0))))
    (wAsg (wVar 2) (gIxA (wVar 0) (wC (.int 1)))))) wNext)
    (wSeq (wSet 3 (wOp rIxA (wVar 0) (wC (.int 0))))
    (wSeq (wAsg (wOp rFdiv (wVar 3) (wVar 1)) (gIxA (wVar 0) (wC (.int 0))))
    (wRet (wOp rMod (wCB rInt1 (wCons (wVar 3) wNil)) (wVar 1))))))
def b_bag5A : WS :=
  (wRet (wLst (wCons (wC (.int 0)) (wCons (wC (.int 7)) (wCons (wC (.int 0)) (wCons (wC (.int 0)) (wCons (wCB rListOf (wCons (wVar 0) wNil)) wNil)))))))
def b_draw5A : WS :=
  (wSeq (wIfS (wTest (wOp (rEq false) (wOp rIxA (wVar 0) (wC (.int 0))) (wC (.int 0)))) (wSeq (wSet 2 (wCB rInt1 (wCons (wOp rIxA (wVar 0) (wC (.int 3))) wNil)))
    (wSeq (wSet 3 (wOp rIxA (wVar 0) (wC (.int 4))))
    (wSeq (wIfS (wTest (wOp rLt (wOp rIxA (wVar 0) (wC (.int 2))) (wCB rLenA (wCons (wVar 3) wNil)))) (wSet 2 (wCB rInt1 (wCons (wOp rIxA (wVar 3) (wOp rIxA (wVar 0) (wC (.int 2)))) wNil))) wNext)
    (wSeq (wAsg (wOp rAdd (wOp rIxA (wVar 0) (wC (.int 2))) (wC (.int 1))) (gIxA (wVar 0) (wC (.int 2))))
    (wSeq (wSet 4 (wOp rMod (wCB rInt1 (wCons (wOp rAdd (wOp rAdd (wOp rAdd (wOp rMul (wOp rIxA (wVar 0) (wC (.int 1))) (wC (.int 48271))) (wOp rMul (wVar 2) (wC (.int 69621)))) (wOp rMul (wOp rIxA (wVar 0) (wC (.int 2))) (wC (.int 16807)))) (wC (.int 11))) wNil)) (wC (.int 2147483647))))
    (wSeq (wAsg (wOp rAdd (wOp rMul (wVar 4) (wC (.int 2147483629))) (wOp rMod (wCB rInt1 (wCons (wOp rAdd (wOp rMul (wVar 4) (wVar 4)) (wVar 2)) wNil)) (wC (.int 2147483629)))) (gIxA (wVar 0) (wC (.int 0))))
    (wSeq (wIfS (wTest (wOp rGeI (wVar 2) (wOp rPow (wC (.int 10)) (wC (.int 18))))) (wAsg (wVar 2) (gIxA (wVar 0) (wC (.int 0)))) wNext)
    (wAsg (wVar 4) (gIxA (wVar 0) (wC (.int 1))))))))))) wNext)
    (wSeq (wSet 5 (wOp rIxA (wVar 0) (wC (.int 0))))
    (wSeq (wAsg (wOp rFdiv (wVar 5) (wVar 1)) (gIxA (wVar 0) (wC (.int 0))))
    (wRet (wOp rMod (wCB rInt1 (wCons (wVar 5) wNil)) (wVar 1))))))
theorem hw_bag3A : ∀ ts S Q E, ts.length = 2 → spBag3 ts S Q E → b_bag3A { nx := fun _ S' => Q .non S', rt := Q } (Wp.startT ["script", "k", "cell"] ts) S := by
  intro ts S Q E _ h
  match ts, h with
  | [.fl us, .int k], ⟨ns, e, h0, hl, h⟩ =>
    subst e
    have fin : ∀ (a b c : Int) (p : Addr), S p = none → Q (.ref p) (upS S p (.lst [.int a, .int b, .int c])) := fun a b c p hp => h p _ hp (gr_new hp) ⟨a, b, c, upS_same⟩
    clear h
    unfold b_bag3A
    walk_at "r0"
    refine if_dec (fun hk => ?_) (fun hk => ?_)
    · obtain ⟨x, hx, hm⟩ := atI_in (xs := ns.map T.int) h0 hk
      obtain ⟨n, _, rfl⟩ := List.mem_map.mp hm
      walk_at "r0"
      simp only [hx]
      walk_at "r0"
      refine if_dec (fun _ => ?_) (fun _ => ?_)
      · walk_at "r0"
        exact fun p hp => fin _ _ _ p hp
      · walk_at "r0"
        exact fun p hp => fin _ _ _ p hp
    · walk_at "r0"
      refine if_dec (fun _ => ?_) (fun _ => ?_)
      · walk_at "r0"
        exact fun p hp => fin _ _ _ p hp
      · walk_at "r0"
        exact fun p hp => fin _ _ _ p hp
theorem hw_draw3A : ∀ ts S Q E, ts.length = 2 → spDraw false ts S Q E → b_draw3A { nx := fun _ S' => Q .non S', rt := Q } (Wp.startT ["bag", "many", "seed", "rest"] ts) S := by
  intro ts S Q E _ h
  match ts, h with
  | [.ref p, .int m], ⟨none, _, ⟨a, b, c, hS⟩, h0, h1, h⟩ =>
    have fin : ∀ (r a b c : Int), 0 ≤ r → r < m → Q (.int r) (upS S p (.lst [.int a, .int b, .int c])) := fun r a b c g1 g2 => h r _ g1 g2 ⟨fun x o e n => by rw [upS_ne n]; exact e, _, _, _, upS_same⟩
    clear h
    unfold b_draw3A
    walk_at "run"
    refine if_bool (fun _ => ?_) (fun _ => ?_)
    · walk_at "run"
      exact fin _ _ _ _ (Int.emod_nonneg _ (by omega)) (Int.emod_lt_of_pos _ h0)
    · walk_at "run"
      exact fin _ _ _ _ (Int.emod_nonneg _ (by omega)) (Int.emod_lt_of_pos _ h0)
theorem hw_bag5A : ∀ ts S Q E, ts.length = 1 → spBag5 ts S Q E → b_bag5A { nx := fun _ S' => Q .non S', rt := Q } (Wp.startT ["script"] ts) S := by
  intro ts S Q E _ h
  match ts, h with
  | [.fl us], ⟨ns, e, h⟩ =>
    subst e
    unfold b_bag5A
    walk_at "r0"
    intro q hq p hp
    have hqp : q ≠ p := fun e => by rw [e, upS_same] at hp; cases hp
    rw [upS_ne hqp.symm] at hp
    refine h p _ hp ((gr_new hq).trans (gr_new (by rw [upS_ne hqp.symm]; exact hp))) ⟨q, 0, 7, 0, 0, ns, upS_same, hqp, by rw [upS_ne hqp, upS_same], by omega⟩
theorem hw_draw5A : ∀ ts S Q E, ts.length = 2 → spDraw true ts S Q E → b_draw5A { nx := fun _ S' => Q .non S', rt := Q } (Wp.startT ["bag", "many", "cell", "cells", "seed", "rest"] ts) S := by
  intro ts S Q E _ h
  match ts, h with
  | [.ref p, .int m], ⟨some q, _, ⟨a, b, c, d, ns, hS, hqp, hq, hc⟩, h0, h1, h⟩ =>
    have fin : ∀ (r a b c d : Int), 0 ≤ r → r < m → 0 ≤ c → Q (.int r) (upS S p (.lst [.int a, .int b, .int c, .int d, .ref q])) := fun r a b c d g1 g2 g3 => h r _ g1 g2 ⟨fun x o e n => by rw [upS_ne n]; exact e, _, _, _, _, ns, upS_same, hqp, by rw [upS_ne hqp]; exact hq, g3⟩
    clear h
    have at3 : atI [T.int a, T.int b, T.int c, T.int d, T.ref q] 3 = some (.int d) := by rw [atI_3]; rfl
    unfold b_draw5A
    have it : ∀ o, itemsT (upS S p o) (.ref q) = some (ns.map T.int) := fun o => itemsT_ref (by rw [upS_ne hqp]; exact hq)
    have it0 : itemsT S (.ref q) = some (ns.map T.int) := itemsT_ref hq
    walk_at "run"
    refine if_bool (fun _ => ?_) (fun _ => ?_)
    · walk_at "run"
      refine if_dec (fun hk => ?_) (fun hk => ?_)
      · obtain ⟨x, hx, hm⟩ := atI_in (xs := ns.map T.int) hc hk
        obtain ⟨n, _, rfl⟩ := List.mem_map.mp hm
        walk_at "run"
        refine if_dec (fun _ => ?_) (fun _ => ?_)
        · walk_at "run"
          exact fin _ _ _ _ _ (Int.emod_nonneg _ (by omega)) (Int.emod_lt_of_pos _ h0) (by omega)
        · walk_at "run"
          exact fin _ _ _ _ _ (Int.emod_nonneg _ (by omega)) (Int.emod_lt_of_pos _ h0) (by omega)
      · walk_at "run"
        refine if_dec (fun _ => ?_) (fun _ => ?_)
        · walk_at "run"
          exact fin _ _ _ _ _ (Int.emod_nonneg _ (by omega)) (Int.emod_lt_of_pos _ h0) (by omega)
        · walk_at "run"
          exact fin _ _ _ _ _ (Int.emod_nonneg _ (by omega)) (Int.emod_lt_of_pos _ h0) (by omega)
    · walk_at "run"
      exact fin _ _ _ _ _ (Int.emod_nonneg _ (by omega)) (Int.emod_lt_of_pos _ h0) (by omega)
end Wp

set_option Elab.async false
set_option linter.all false
set_option maxRecDepth 100000
/-! comprehensions with a test; lists without repetition -/
namespace Wp
open PySem PySem.Spec PyProof.Rows L2
theorem comp_filt_at {α : Type} {g : WG} {tt : WT} {te : WE} {stb : Sta → Prop} {σ : Sl} {D : Addr} {Q : T → Sta → Prop} {S0 : Sta} (tr : α → T) (p : α → Bool) (f : α → T) (hstb : ∀ acc, stb (upS S0 D (.lst acc))) : ∀ (xs : List α) (acc : List T), acc.length + xs.length ≤ 1000000 →
    (∀ x ∈ xs, ∀ (acc : List T) (A : Sta → Prop) (R : T → Sta → Prop), (p x = true → R (f x) (upS S0 D (.lst acc))) → (p x = false → A (upS S0 D (.lst acc))) → g (tr x) σ (upS S0 D (.lst acc)) fun σ2 S2 => tt σ2 S2 fun b S3 => wif b (te σ2 S3 R) (A S3)) →
    Q (.ref D) (upS S0 D (.lst (acc ++ (xs.filter p).map f))) → compW g tt te stb σ D Q (xs.map tr) (upS S0 D (.lst acc))
  | [], acc, _, _, q => ⟨hstb acc, by simpa using q⟩
  | x :: xs, acc, hl, step, q => by
    rw [List.length_cons] at hl
    refine ⟨hstb acc, step x List.mem_cons_self acc _ _ (fun hp => ⟨acc, upS_same, lt_sz (by omega), ?_⟩) (fun hp => ?_)⟩
    · rw [upS_upS]
      refine comp_filt_at tr p f hstb xs (acc ++ [f x]) (by rw [List.length_append, List.length_cons, List.length_nil]; omega) (fun y hy => step y (List.mem_cons_of_mem _ hy)) ?_
      rw [List.filter_cons, if_pos hp, List.map_cons] at q
      rw [List.append_assoc]
      exact q
    · refine comp_filt_at tr p f hstb xs acc (by omega) (fun y hy => step y (List.mem_cons_of_mem _ hy)) ?_
      rw [List.filter_cons, if_neg (by rw [hp]; exact Bool.false_ne_true)] at q
      exact q
theorem comp_filt {α : Type} {g : WG} {tt : WT} {te : WE} {stb : Sta → Prop} {σ : Sl} {D : Addr} {Q : T → Sta → Prop} {S0 : Sta} {xs : List α} (tr : α → T) (p : α → Bool) (f : α → T) (hl : xs.length ≤ 1000000) (hstb : ∀ acc, stb (upS S0 D (.lst acc)))
    (step : ∀ x ∈ xs, ∀ (acc : List T) (A : Sta → Prop) (R : T → Sta → Prop), (p x = true → R (f x) (upS S0 D (.lst acc))) → (p x = false → A (upS S0 D (.lst acc))) → g (tr x) σ (upS S0 D (.lst acc)) fun σ2 S2 => tt σ2 S2 fun b S3 => wif b (te σ2 S3 R) (A S3))
    (q : Q (.ref D) (upS S0 D (.lst ((xs.filter p).map f)))) : compW g tt te stb σ D Q (xs.map tr) (upS S0 D (.lst [])) :=
  comp_filt_at tr p f hstb xs [] (by simpa using hl) step (by rw [List.nil_append]; exact q)
/-- without a test -/
theorem comp_each {α : Type} {g : WG} {te : WE} {stb : Sta → Prop} {σ : Sl} {D : Addr} {Q : T → Sta → Prop} {S0 : Sta} {xs : List α} (tr : α → T) (f : α → T) (hl : xs.length ≤ 1000000) (hstb : ∀ acc, stb (upS S0 D (.lst acc)))
    (step : ∀ x ∈ xs, ∀ (acc : List T) (R : T → Sta → Prop), R (f x) (upS S0 D (.lst acc)) → g (tr x) σ (upS S0 D (.lst acc)) fun σ2 S2 => te σ2 S2 R)
    (q : Q (.ref D) (upS S0 D (.lst (xs.map f)))) : compW g wYes te stb σ D Q (xs.map tr) (upS S0 D (.lst [])) :=
  comp_filt tr (fun _ => true) f hl hstb (fun x hx acc A R h1 _ => by
    have := step x hx acc R (h1 rfl)
    show g (tr x) σ _ fun σ2 S2 => wif true (te σ2 S2 R) _
    simp only [wif_true]
    exact this) (by rw [List.filter_eq_self.mpr (fun _ _ => rfl)]; exact q)
@[elab_as_elim] theorem snoc_ind {α : Type} {motive : List α → Prop} (nil : motive []) (app : ∀ xs x, motive xs → motive (xs ++ [x])) (l : List α) : motive l := by
  rw [← List.reverse_reverse l]
  induction l.reverse with
  | nil => exact nil
  | cons x xs ih => rw [List.reverse_cons]; exact app _ _ ih
theorem nodup_of_map {α β : Type} (f : α → β) {xs : List α} (h : (xs.map f).Nodup) : xs.Nodup := List.Pairwise.of_map f (fun a b h e => h (by rw [e])) h
theorem perm_of_nodup {α : Type} [BEq α] [LawfulBEq α] {xs ys : List α} (hx : xs.Nodup) (hy : ys.Nodup) (h : ∀ a, a ∈ xs ↔ a ∈ ys) : xs.Perm ys := by
  rw [List.perm_iff_count]
  intro a
  have h1 := List.nodup_iff_count.mp hx a
  have h2 := List.nodup_iff_count.mp hy a
  by_cases m : a ∈ xs
  · have m2 := (h a).mp m
    have p1 := List.count_pos_iff.mpr m
    have p2 := List.count_pos_iff.mpr m2
    omega
  · have m2 := fun z => m ((h a).mpr z)
    rw [List.count_eq_zero.mpr m, List.count_eq_zero.mpr m2]
/-- a list that is sorted and has just these items -/
theorem sorted_is {xs ys : List Int} (hp : ys.Perm xs) (hs : ys.Pairwise (· ≤ ·)) {zs : List Int} (hn : xs.Nodup) (hz : zs.Pairwise (· < ·)) (h : ∀ a, a ∈ xs ↔ a ∈ zs) : ys = zs := by
  have hzn : zs.Nodup := hz.imp fun h => by omega
  exact PySem.W.ksm_same (hp.trans (perm_of_nodup hn hzn h)) hs (hz.imp fun h => by omega)
end Wp

set_option Elab.async false
set_option linter.all false
set_option maxRecDepth 100000
/-! written dicts of tuples of texts; zip of such a tuple and a tuple; displays of dicts; > of texts -/
namespace Wp
open PySem PySem.Spec PyProof.Rows L2
/-- a written tuple of texts -/
def KTup (K : PySem.W.Frag) (a : Addr) (zs : List Str) : Prop :=
  ∃ (o : Obj) (its : Array Value) (n : Nat), K.lookup a = some o ∧ o.cls = .type "tuple" ∧ o.data = .seq its n ∧ its.size ≤ sizeLine ∧ Vals (zs.map V.str) its.toList
theorem KTup.sqT {K : PySem.W.Frag} {H : Hp} {a : Addr} {zs : List Str} (h : KTup K a zs) : SqT K H a (zs.map V.str) := .inr h
def tblGet : List (Str × List Str) → Str → Option (List Str)
  | [], _ => none
  | (z, zs) :: r, x => if z = x then some zs else tblGet r x
def TblOk (K : PySem.W.Frag) (P : Params) : List DictEntry → List (Str × List Str) → Prop
  | [], [] => True
  | e :: r, (z, zs) :: t => (∃ tk, e.key = .str z tk ∧ e.hash = PyData.keyHash P z) ∧ (∃ a, e.val = .ref a ∧ KTup K a zs) ∧ TblOk K P r t
  | _, _ => False
/-- a written dict at d -/
structure WDict (K : PySem.W.Frag) (P : Params) (d : Addr) (tbl : List (Str × List Str)) : Prop where
  ex : ∃ es n, K.lookup d = some ⟨.type "dict", none, .dict es n, #[]⟩ ∧ TblOk K P es.toList tbl
  low : (d == sysModules) = false
theorem tbl_find {K : PySem.W.Frag} {P : Params} (x : Str) : ∀ {l : List DictEntry} {t : List (Str × List Str)}, TblOk K P l t →
    match tblGet t x with
    | none => (l.find? fun e => nkIs (some (.inr x)) e.key) = none
    | some zs => ∃ e a, (l.find? fun e => nkIs (some (.inr x)) e.key) = some e ∧ e.val = .ref a ∧ KTup K a zs
  | [], [], _ => rfl
  | e :: r, (z, zs) :: t, ⟨⟨tk, ek, _⟩, ⟨a, ev, kt⟩, h⟩ => by
    have ih := tbl_find x h
    have hk : nkIs (some (.inr x)) e.key = decide (z = x) := by
      rw [ek]
      show Value.isStrOf x (.str z tk) = decide (z = x)
      unfold Value.isStrOf
      by_cases c : z = x
      · subst c; simp
      · simp only [c, decide_false]
        first | exact beq_eq_false_iff_ne.mpr c | exact beq_eq_false_iff_ne.mpr (fun y => c y.symm)
    unfold tblGet
    by_cases c : z = x
    · rw [if_pos c]
      exact ⟨e, a, by rw [List.find?_cons, hk, decide_eq_true c], ev, kt⟩
    · rw [if_neg c, List.find?_cons, hk, decide_eq_false c]
      exact ih
theorem tbl_none {K : PySem.W.Frag} {P : Params} : ∀ {l : List DictEntry} {t : List (Str × List Str)}, TblOk K P l t → (l.find? fun e => nkIs none e.key) = none
  | [], [], _ => rfl
  | e :: r, (z, zs) :: t, ⟨⟨tk, ek, _⟩, _, h⟩ => by
    have hk : nkIs none e.key = false := by rw [ek]; rfl
    rw [List.find?_cons, hk]
    exact tbl_none h
theorem tbl_keys {K : PySem.W.Frag} {P : Params} : ∀ {l : List DictEntry} {t : List (Str × List Str)}, TblOk K P l t → ∀ e ∈ l, ∃ z tk, e.key = .str z tk ∧ e.hash = PyData.keyHash P z
  | e :: r, (z, zs) :: t, ⟨⟨tk, ek, eh⟩, _, h⟩, f, hf => by
    rcases List.mem_cons.mp hf with q | q
    · rw [q]; exact ⟨z, tk, ek, eh⟩
    · exact tbl_keys h f q
section
variable {X : Cx} {B : Hp} {pins : List (Addr × Obj)} {σ : L2.St} {H : Hp} {s : Shared} {d : Addr} {tbl : List (Str × List Str)}
theorem wd_map (D : WDict X.K X.w.params d tbl) (I : Inv X pins σ H s) : ∃ (es : Array DictEntry) (n : Nat), s.heap.get? d = some ⟨.type "dict", none, .dict es n, #[]⟩ ∧ TblOk X.K X.w.params es.toList tbl ∧
    s.heap.MapOf (noneKind X.prog X.w) d (fun k => findBy (noneKind X.prog X.w).is es k) := by
  obtain ⟨es, n, hl, ht⟩ := D.ex
  have hg := I.kIn _ _ hl
  refine ⟨es, n, hg, ht, ⟨_, es, n, hg, ⟨rfl, rfl, rfl⟩, rfl, fun e he => ?_, fun _ => rfl⟩⟩
  obtain ⟨z, tk, e1, e2⟩ := tbl_keys ht e (Array.mem_toList_iff.mpr he)
  exact ⟨some (.inr z), by rw [e1]; exact keyIs_str z tk, by rw [e2]; rfl⟩
theorem wd_find (es : Array DictEntry) (k : Option Key) : findBy (noneKind X.prog X.w).is es k = (es.toList.find? fun e => nkIs k e.key).map (·.val) := by
  unfold findBy
  rw [← Array.find?_toList]
  rfl
end
/-- TABLE.get(e), TABLE written -/
def wKGet (K : PySem.W.Frag) (tbl : List (Str × List Str)) (te : WE) (σ : Sl) (S : Sta) (Q : T → Sta → Prop) : Prop := te σ S fun y S1 => match y with
  | .str z => match tblGet tbl z with
    | none => Q .non S1
    | some zs => ∀ a, KTup K a zs → Q (.ref a) S1
  | .non => Q .non S1
  | _ => False
/-- TABLE[e], TABLE written -/
def wKIx (K : PySem.W.Frag) (tbl : List (Str × List Str)) (te : WE) (σ : Sl) (S : Sta) (Q : T → Sta → Prop) : Prop := te σ S fun y S1 => match y with
  | .str z => ∃ zs, tblGet tbl z = some zs ∧ ∀ a, KTup K a zs → Q (.ref a) S1
  | _ => False
section
variable {X : Cx} {B : Hp} {e : Expr} {te : WE} {tbl : List (Str × List Str)} {x : Str} {p apos pos cpos : Pos}
/-- the name of a written dict -/
def GWD (K : PySem.W.Frag) (P : Params) (mg : Str → Option Value) (x : Str) (tbl : List (Str × List Str)) : Prop := ∃ d, mg x = some (.ref d) ∧ WDict K P d tbl
theorem pe_gref {d : Addr} (hg : Gl X x) (hm : X.mg x = some (.ref d)) (hd : (x == ("__debug__" : Str)) = false := by decide) : PE X (.Name x p) (tC (.ref d)) := pe_glob (v := .ref d) hg hm rfl hd
theorem j_kget (g : GWD X.K X.w.params X.mg x tbl) (hg : Gl X x) (he : JE B X e te) (hd : (x == ("__debug__" : Str)) = false := by decide) (m : M1 X (.Name x p) "get" apos e cpos := by exact ⟨rfl, rfl, rfl, rfl⟩) :
    JE B X (.Call (.Attribute (.Name x p) "get" apos) [e] [] cpos) (wKGet X.K tbl te) := by
  obtain ⟨d, hm, D⟩ := g
  refine ⟨fun pins s σ H Q I ⟨st, S, Q0, hb, hr, hs, h, im⟩ => ?_⟩
  refine wpAny_Call_method m.base m.few m.line PySem.F.plainAttrs_dict PySem.F.slot_dict_get PySem.F.type_dict_get (thn ((pe_gref hg hm hd).run pins s σ H (fun v H' => v = .ref d ∧ H' = H) I ⟨rfl, rfl⟩) fun u s1 ⟨x', H1, I1, rx, ex, eH⟩ => ?_)
  subst ex eH
  obtain rfl : u = Value.ref d := rx
  obtain ⟨es, n, hget, ht, hmap⟩ := wd_map D I1
  refine ⟨hmap.typeIs, fun b q => ?_, ?_⟩
  · cases q
    exact ⟨_, hget, rfl⟩
  rw [m.trees]
  refine Calls.callWith_builtin rfl (Calls.evalArgs_plain (Calls.spliced_cons (thn (he.run pins s1 σ H1 (fun v H2 => ∃ t S2, Ext H1 H2 ∧ St X.K S2 H2 ∧ Rep X.K H2 t v ∧ (match t with
    | .str z => match tblGet tbl z with
      | none => Q0 .non S2
      | some zs => ∀ a, KTup X.K a zs → Q0 (.ref a) S2
    | .non => Q0 .non S2
    | _ => False)) I1 ⟨st, S, _, hb, hr, hs, h, fun y S2 h2 H2 v e2 s2 r2 => ⟨y, S2, e2, s2, r2, h2⟩⟩) fun iv s2 ⟨y, H2, I2, ry, t, S2, e2, s2', rt, q2⟩ => Calls.spliced_nil ?_)))
  obtain ⟨es, n, hget, ht, hmap⟩ := wd_map D I2
  have go : ∀ (k : Option Key) (v : V) (t' : T), (noneKind X.prog X.w).is k iv = true → RelV v ((findBy (noneKind X.prog X.w).is es k).getD .none) → Rep X.K H2 t' v → Q0 t' S2 → wpAny (model X.prog X.w) X.A (call (.builtin "dict.get") [.ref d, iv]) (EP X pins σ Q) X.xe s2 := fun k v t' hk rv rt' q => by
    refine call_meetsIn PySem.F.slot_dict_get hmap.typeIs PySem.F.entry_dict_get (PySem.F.args_dict_get_2 _ _) (meets_dict_get (noneKind X.prog X.w) d hk D.low) ⟨_, hmap, ?_⟩
    exact ⟨v, H2, I2.tok _, rv, im _ _ q H2 _ e2 s2' rt'⟩
  cases t with
  | str z =>
    cases rt
    obtain ⟨tk, rfl⟩ := (show ∃ t, iv = Value.str z t from ry)
    have hf := tbl_find z ht
    cases hz : tblGet tbl z with
    | none =>
      simp only [hz] at hf q2
      refine go (some (.inr z)) .non .non (keyIs_str z tk) ?_ .non q2
      rw [wd_find, hf]
      rfl
    | some zs =>
      simp only [hz] at hf q2
      obtain ⟨en, a, e1, e3, kt⟩ := hf
      refine go (some (.inr z)) (.ref a) (.ref a) (keyIs_str z tk) ?_ (.ref a) (q2 a kt)
      rw [wd_find, e1]
      simp only [Option.map_some, Option.getD_some, e3]
      rfl
  | non =>
    cases rt
    obtain rfl : iv = Value.none := ry
    refine go none .non .non rfl ?_ .non q2
    rw [wd_find, tbl_none ht]
    rfl
  | _ => exact q2.elim
end

section
variable {X : Cx} {B : Hp} {e : Expr} {te : WE} {tbl : List (Str × List Str)} {x : Str} {p apos pos cpos : Pos}
theorem j_kix (g : GWD X.K X.w.params X.mg x tbl) (hg : Gl X x) (he : JE B X e te) (hs0 : PlainIx e) (hd : (x == ("__debug__" : Str)) = false := by decide) :
    JE B X (.Subscript (.Name x p) e pos) (wKIx X.K tbl te) := by
  obtain ⟨d, hm, D⟩ := g
  refine ⟨fun pins s σ H Q I ⟨st, S, Q0, hb, hr, hs, h, im⟩ => ?_⟩
  refine Subscript_ (binT (pe_gref hg hm hd) he I (R := fun x y H2 => x = V.ref d ∧ ∃ t S2, Ext H H2 ∧ St X.K S2 H2 ∧ Rep X.K H2 t y ∧ (match t with
    | .str z => ∃ zs, tblGet tbl z = some zs ∧ ∀ a, KTup X.K a zs → Q0 (.ref a) S2
    | _ => False)) (show LE B X te σ H _ from ⟨st, S, _, hb, hr, hs, h, fun y S2 h2 H2 v e2 s2 r2 => ⟨rfl, y, S2, e2, s2, r2, h2⟩⟩) fun v u s2 x y H2 I2 rx ry q => ?_)
  obtain ⟨ex, t, S2, e2, s2', rt, q2⟩ := q
  subst ex
  obtain rfl : v = Value.ref d := rx
  obtain ⟨es, n, hget, ht, hmap⟩ := wd_map D I2
  cases t with
  | str z =>
    cases rt
    obtain ⟨tk, rfl⟩ := (show ∃ t, u = Value.str z t from ry)
    obtain ⟨zs, hz, q2⟩ := q2
    have hf := tbl_find z ht
    simp only [hz] at hf
    obtain ⟨en, a, e1, e3, kt⟩ := hf
    refine tail_any hmap.typeIs slot_dict_getitem.lookup (wpAny_getItem_of (knd := noneKind X.prog X.w) (k := some (.inr z)) (keyIs_str z tk) hmap (v := .ref a) ?_ ⟨.ref a, H2, I2.tok _, rfl, im _ _ (q2 a kt) H2 _ e2 s2' (.ref a)⟩) (hs0 _ _)
    rw [wd_find, e1]
    simp only [Option.map_some, e3]
  | _ => exact q2.elim
/-- len of a written tuple -/
def rLenK (K : PySem.W.Frag) (xs : List T) (S : Sta) (Q : T → Sta → Prop) : Prop := match xs with
  | [.ref a] => ∃ zs, KTup K a zs ∧ Q (.int zs.length) S
  | _ => False
theorem c_lenK : CallR X (.builtin "len") (LC X.K (rLenK X.K)) := by
  intro pins s σ H xs us Q I rx ⟨ts, S, Q0, r, hs, q, im⟩
  match ts, q with
  | [.ref a], ⟨zs, kt, q⟩ =>
    obtain ⟨v, rfl, r1⟩ := r.one
    cases r1
    refine call_len_seq pins s σ H _ us Q I rx ⟨a, zs.map V.str, rfl, .inr kt.sqT, ?_⟩
    rw [List.length_map]
    exact im _ _ q H _ (Ext.refl H) hs (.int _)
/-- zip(TUPLE, tuple), the first written -/
def zipT (zs : List Str) (ps : List T) : List T := List.zipWith (fun z p => T.tup [.str z, p]) zs ps
def iZipK (K : PySem.W.Frag) (ta : WA) (σ : Sl) (S : Sta) (R : List T → (Sta → Prop) → Sta → Prop) : Prop := ta σ S fun xs S1 => match xs with
  | [.ref a, .tup ps] => ∃ zs, KTup K a zs ∧ R (zipT zs ps) (fun _ => True) S1
  | _ => False
theorem zip_at {zs : List Str} {ps : List T} {i : Nat} {z : Str} {p : T} (h1 : zs[i]? = some z) (h2 : ps[i]? = some p) : (zipT zs ps)[i]? = some (T.tup [.str z, p]) := by
  unfold zipT
  rw [List.getElem?_zipWith, h1, h2]
theorem yields_zip {K : PySem.W.Frag} {H1 : Hp} {zs : List Str} {ps : List T} {ys : List V} {a b : Addr} (hn : True) (kt : KTup K a zs) (hq : ∀ H, Ext H1 H → SqT K H b ys ∧ Reps K H ps ys) : Yields K (zipT zs ps) (fun _ => True) H1 (RZ.ItzT K a b) := fun i S H2 e2 s2 _ => by
  obtain ⟨hb, r⟩ := hq H2 e2
  have hl : (zipT zs ps).length = min zs.length ps.length := by unfold zipT; rw [List.length_zipWith]
  have hlr := r.length
  rw [hl]
  refine ⟨fun hi => ?_, fun hi => ⟨zs.map V.str, ys, kt.sqT, hb, by rw [List.length_map]; omega⟩, fun x H' hy hi => ?_⟩
  · obtain ⟨v, g3, _⟩ := r.get (List.getElem?_eq_getElem (show i < ps.length by omega))
    refine ⟨zs.map V.str, ys, V.str (zs[i]'(by omega)), v, kt.sqT, hb, ?_, g3⟩
    rw [List.getElem?_map, List.getElem?_eq_getElem (show i < zs.length by omega)] <;> rfl
  · obtain ⟨T0, x0, y0, rfl, hp, rfl, h1, h2⟩ := hy
    have ev := h2 ys hb
    obtain ⟨t, et, rt⟩ := r.getV ev
    have ex0 := h1 _ kt.sqT
    rw [List.getElem?_map, List.getElem?_eq_getElem (show i < zs.length by omega)] at ex0
    cases ex0
    have ex : Ext H2 (upd H2 T0 (.tup [V.str (zs[i]'(by omega)), y0])) := Ext.new hp
    exact ⟨ex, s2.new hp _, fun st σ q => q.mono ex, _, zip_at (List.getElem?_eq_getElem (by omega)) et, .tup upd_same (.cons (.str _) (.cons (Rep.mono ex _ _ rt) .nil))⟩
theorem ji_zipK {e2 : Expr} {ta : WA} {tpos : Pos} {elts : List Expr} {kk : Nat} (hg : Gl X "zip") (hm : X.mg "zip" = none) (ha : JA B X [e, e2] ta)
    (hs : starEach [e, e2] X.env = (false, eval e X.env) :: starEach [e2] X.env := by rfl) (hpl : (backTo pos (starEach [e2] X.env)).any (·.1) = false := by rfl) :
    JI B X (.Tuple elts kk tpos) (.Call (.Name "zip" p) [e, e2] [] pos) (iZipK X.K ta) := pi_imp (RZ.pi_zipA hg hm ha hs hpl) fun σ H R ⟨st, S, Q0, he, hr, hs, h, im⟩ => by
  refine ⟨st, S, _, he, hr, hs, h, fun xs S1 h1 H1 vs e1 s1 r1 => ?_⟩
  match xs, h1 with
  | [.ref a, .tup ps], ⟨zs, kt, h1⟩ =>
    obtain ⟨v, w, rfl, ra, rb⟩ := r1.two
    cases ra
    cases rb with
    | @tup b ys _ g10 g2 =>
      refine ⟨a, b, zs.map V.str, ys, rfl, .inr ⟨kt.sqT, sqT_of g10, im _ _ _ h1 H1 e1 s1 _ (yields_zip trivial kt fun H3 e3 => ⟨e3.sqT (sqT_of g10), Reps.mono e3 _ _ g2⟩)⟩⟩
end
/-! ### displays of dicts -/
abbrev WP := Sl → Sta → (List (T × T) → Sta → Prop) → Prop
def wPNil (u0 : Sl) (S : Sta) (Q : List (T × T) → Sta → Prop) : Prop := Q [] S
def wPCons (tk tv : WE) (tr : WP) (σ : Sl) (S : Sta) (Q : List (T × T) → Sta → Prop) : Prop := tk σ S fun x S1 => tv σ S1 fun y S2 => tr σ S2 fun ps S3 => Q ((x, y) :: ps) S3
def PRep (K : PySem.W.Frag) (H : Hp) : List (T × T) → List (V × V) → Prop
  | [], [] => True
  | (a, b) :: r, (x, y) :: t => Rep K H a x ∧ Rep K H b y ∧ PRep K H r t
  | _, _ => False
theorem PRep.mono {K : PySem.W.Frag} {H H' : Hp} (e : Ext H H') : ∀ {ps : List (T × T)} {vs : List (V × V)}, PRep K H ps vs → PRep K H' ps vs
  | [], [], _ => trivial
  | (a, b) :: r, (x, y) :: t, ⟨h1, h2, h3⟩ => ⟨Rep.mono e _ _ h1, Rep.mono e _ _ h2, PRep.mono e h3⟩
def finP (K : PySem.W.Frag) (H : Hp) (Q : List (V × V) → Hp → Prop) : List (T × T) → Sta → Prop := fun ps S => ∀ H' vs, Ext H H' → St K S H' → PRep K H' ps vs → Q vs H'
def JP (B : Hp) (X : Cx) (pos : Pos) (keys : List (Option Expr)) (values : List Expr) (t : WP) : Prop :=
  ∃ trs, PPs X pos keys values trs ∧ ∀ σ H Q, (∃ st S Q0, Ext B H ∧ SlR X.K H st σ ∧ St X.K S H ∧ t st S Q0 ∧ ∀ ps S', Q0 ps S' → finP X.K H Q ps S') → tPairs trs σ H Q
section
variable {X : Cx} {B : Hp} {pos : Pos} {k v : Expr} {ks : List (Option Expr)} {vs : List Expr} {tk tv : WE} {tr : WP}
theorem jp_nil : JP B X pos [] [] wPNil := ⟨[], pps_nil, fun σ H Q ⟨st, S, Q0, he, hr, hs, h, im⟩ => im _ _ h H [] (Ext.refl H) hs trivial⟩
theorem jp_cons (hk : JE B X k tk) (hv : JE B X v tv) (hr : JP B X pos ks vs tr) : JP B X pos (some k :: ks) (v :: vs) (wPCons tk tv tr) := by
  obtain ⟨trs, hp, h0⟩ := hr
  refine ⟨_, pps_cons hk hv hp, fun σ H Q ⟨st, S, Q0, he, hr, hs, h, im⟩ => ?_⟩
  refine ⟨st, S, _, he, hr, hs, h, fun x S1 h1 H1 u1 e1 s1 r1 => ?_⟩
  refine ⟨st, S1, _, he.trans e1, hr.mono e1, s1, h1, fun y S2 h2 H2 u2 e2 s2 r2 => ?_⟩
  refine h0 σ H2 _ ⟨st, S2, _, (he.trans e1).trans e2, (hr.mono e1).mono e2, s2, h2, fun ps S3 h3 H3 us e3 s3 r3 => ?_⟩
  exact im _ _ h3 H3 _ ((e1.trans e2).trans e3) s3 ⟨Rep.mono (e2.trans e3) _ _ r1, Rep.mono e3 _ _ r2, r3⟩
def mergeT (kvs more : List (Key × T)) : List (Key × T) := more.foldl (fun acc kv => putT acc kv.1 kv.2) kvs
theorem KRep.merge {K : PySem.W.Frag} {H : Hp} : ∀ {more : List (Key × T)} {ms : List (Key × V)} {kvs : List (Key × T)} {us : List (Key × V)}, KRep K H more ms → KRep K H kvs us → KRep K H (mergeT kvs more) (mergeK us ms)
  | [], _, _, _, h, g => by cases h; exact g
  | (f, t) :: more, _, kvs, us, h, g => by
    cases h with
    | @cons _ _ v _ gs r h1 => exact (KRep.merge (more := more) (ms := gs) (kvs := putT kvs f t) (us := putK us f v) h1 (KRep.putd f r g))
/-- keys of the pairs -/
def keysP : List (T × T) → Option (List (Key × T))
  | [] => some []
  | (a, b) :: r => match keyT a with
    | some k => (keysP r).map fun l => (k, b) :: l
    | none => none
theorem keysP_rep {K : PySem.W.Frag} {H : Hp} : ∀ {ps : List (T × T)} {us : List (V × V)} {l : List (Key × T)}, PRep K H ps us → keysP ps = some l → ∃ ms, KRep K H l ms ∧ us = ms.map (fun kv => (kV kv.1, kv.2)) ∧ ms.length = ps.length
  | [], [], _, _, e => by cases e; exact ⟨[], .nil, rfl, rfl⟩
  | (a, b) :: r, (x, y) :: t, l, ⟨h1, h2, h3⟩, e => by
    unfold keysP at e
    cases ek : keyT a with
    | none => rw [ek] at e; cases e
    | some k =>
      rw [ek] at e
      simp only at e
      cases el : keysP r with
      | none => rw [el] at e; cases e
      | some l' =>
        rw [el] at e
        cases e
        obtain ⟨ms, g1, g2, g3⟩ := keysP_rep h3 el
        exact ⟨(k, y) :: ms, .cons h2 g1, by rw [keyT_rep h1 ek, g2]; rfl, by rw [List.length_cons, List.length_cons, g3]⟩
def wDisp (t : WP) (σ : Sl) (S : Sta) (Q : T → Sta → Prop) : Prop := ∀ p, S p = none → t σ (upS S p (.dct [])) fun ps S2 => S2 p = some (.dct []) ∧ ps.length ≤ 15 ∧ ∃ l, keysP ps = some l ∧ Q (.ref p) (upS S2 p (.dct (mergeT [] l)))
theorem j_disp (h : JP B X pos ks vs tr) (hall : ks.all (·.isSome) = true) (hl : ks.length = vs.length) (h0 : ks ≠ []) (h15 : ks.length ≤ 15 := by decide) : JE B X (.Dict ks vs pos) (wDisp tr) := by
  obtain ⟨trs, hp, h1⟩ := h
  refine pe_imp (pe_disp hp hall hl h0 h15) fun σ H Q ⟨st, S, Q0, he, hr, hs, h, im⟩ => fun p hpn => ?_
  obtain ⟨e1, s1⟩ := hs.newO (o' := .dct []) hpn fun ex => ⟨[], upd_same, .nil⟩
  refine h1 σ _ _ ⟨st, _, _, he.trans e1, hr.mono e1, s1, h p (hs.free hpn), fun ps S2 h2 H2 us e2 s2 r2 => ?_⟩
  obtain ⟨eS, hlen, l, el, q⟩ := h2
  obtain ⟨xs, g1, g2⟩ := s2 p _ eS
  cases g2
  obtain ⟨ms, m1, m2, m3⟩ := keysP_rep r2 el
  refine ⟨g1, ms, m2, by omega, ?_⟩
  obtain ⟨e3, s3⟩ := s2.setO (o' := .dct (mergeT [] l)) g1 trivial fun ex => ⟨mergeK [] ms, upd_same, KRep.mono ex (KRep.merge m1 .nil)⟩
  exact im _ _ q _ _ ((e1.trans e2).trans e3) s3 (.ref p)
end
/-! ### a > b, texts too -/
def rGt : R3 := rCmp (fun i j => decide (j < i)) fun a b => decide (b < a)
theorem o_gtA {X : Cx} : OpT X (compareOp .Gt) rGt := by
  intro pins s σ H x y v u Q I rx ry ⟨a, b, S, Q0, ra, rb, hs, q, im⟩
  cases a with
  | int i =>
    cases b with
    | int j =>
      cases ra
      cases rb
      exact op_gt pins s σ H _ _ v u Q I rx ry ⟨i, j, rfl, rfl, im _ _ q H _ (Ext.refl H) hs (.bl _)⟩
    | _ => exact q.elim
  | str i =>
    cases b with
    | str j =>
      cases ra
      cases rb
      exact op_gt_str pins s σ H _ _ v u Q I rx ry ⟨i, j, rfl, rfl, im _ _ q H _ (Ext.refl H) hs (.bl _)⟩
    | _ => exact q.elim
  | _ => exact q.elim
end Wp

set_option Elab.async false
set_option linter.all false
set_option maxRecDepth 100000
set_option maxHeartbeats 4000000
/-! tuple * 0, tuple * 1 -/
namespace Wp
open PySem PySem.Spec PyProof.Rows L2
theorem tuple_mul1 (l : Addr) (items : Array Value) (n : Nat) (dd : Option Addr) (sl : Array (Option Value)) (x : Int) (u : Tok) (c0 : (decide (x < -(2 ^ 63)) || decide (x ≥ 2 ^ 63)) = false) (c1 : (items.isEmpty || x == 1) = true) :
    Meets (Builtin.«tuple.__mul__» ⟨[.ref l, .int x u], []⟩) (fun _ R s => s.heap.get? l = some { cls := .type "tuple", dict := dd, data := .seq items n, slots := sl } ∧ R (.ok (.ret (Value.ref l))) s) :=
  .of_wp fun prog w A R s h => by
    obtain ⟨hp, g, d, tk, os⟩ := s
    obtain ⟨hl, h⟩ := h
    have f1 := AutoSeq1.idx_int
    wp_walk using wpAny_loadPart' hl
    repeat (first
      | (refine wpAny_ite_false (decide_eq_false (by rw [c0]; exact Bool.false_ne_true)) ?_; wp_walk using wpAny_loadPart' hl)
      | (refine wpAny_ite_true (decide_eq_true c1) ?_; wp_walk using wpAny_loadPart' hl))
    exact ⟨_, rfl, h⟩
theorem tuple_mul0 (l : Addr) (items : Array Value) (n : Nat) (dd : Option Addr) (sl : Array (Option Value)) (x : Int) (u : Tok) (c0 : (decide (x < -(2 ^ 63)) || decide (x ≥ 2 ^ 63)) = false) (c1 : (items.isEmpty || x == 1) = false) (c2 : (decide (x ≤ 0) || items.isEmpty) = true) :
    Meets (Builtin.«tuple.__mul__» ⟨[.ref l, .int x u], []⟩) (fun _ R s => s.heap.get? l = some { cls := .type "tuple", dict := dd, data := .seq items n, slots := sl } ∧
      R (.ok (.ret (Value.ref s.heap.objs.size))) { s with heap := s.heap.push { cls := Value.type "tuple", data := Data.seq #[] }, toks := s.toks }) :=
  .of_wp fun prog w A R s h => by
    obtain ⟨hp, g, d, tk, os⟩ := s
    obtain ⟨hl, h⟩ := h
    have f1 := AutoSeq1.idx_int
    wp_walk using wpAny_loadPart' hl
    repeat (first
      | (refine wpAny_ite_false (decide_eq_false (by rw [c0]; exact Bool.false_ne_true)) ?_; wp_walk using wpAny_loadPart' hl)
      | (refine wpAny_ite_false (decide_eq_false (by rw [c1]; exact Bool.false_ne_true)) ?_; wp_walk using wpAny_loadPart' hl)
      | (refine wpAny_ite_true (decide_eq_true c2) ?_; wp_walk using wpAny_loadPart' hl))
    exact ⟨_, rfl, h⟩
/-- products: of numbers; of a tuple and 0 or 1 -/
def rMulA (x : T) (y : T) (S : Sta) (Q : T → Sta → Prop) : Prop := match x, y with
  | .int i, .int j => CMul i j ∧ Q (.int (i * j)) S
  | .tup ts, .int k => (k = 0 ∨ k = 1) ∧ ts.length ≤ 1000000 ∧ Q (.tup (if k = 1 then ts else [])) S
  | _, _ => False
section
variable {X : Cx}
theorem o_mulA : OpT X (binaryOp .Mult) rMulA := by
  intro pins s σ H x y v u Q I rx ry ⟨a, b, S, Q0, ra, rb, hs, q, im⟩
  cases a with
  | int i =>
    cases b with
    | int j =>
      exact o_mul pins s σ H x y v u Q I rx ry ⟨.int i, .int j, S, Q0, ra, rb, hs, ⟨q.1, q.2⟩, im⟩
    | _ => exact q.elim
  | tup ts =>
    cases b with
    | int k =>
      cases rb
      cases ra with
      | @tup l xs _ h1 h2 =>
        obtain ⟨hk, hz, q⟩ := q
        cases rx
        obtain ⟨t, rfl⟩ := ry
        obtain ⟨its, r, ⟨⟨cls, dd, data, sl⟩, ho, hc, n, hd⟩, hs2⟩ := I.tuple (sqT_of (K := X.K) h1)
        simp only at hc hd
        subst hc hd
        have c0 : (decide (k < -(2 ^ 63)) || decide (k ≥ 2 ^ 63)) = false := by
          rw [decide_eq_false (by omega), decide_eq_false (by omega)] <;> rfl
        by_cases c1 : (its.toArray.isEmpty || k == 1) = true
        · have hts : (if k = 1 then ts else []) = ts := by
            by_cases e : k = 1
            · rw [if_pos e]
            · rw [if_neg e]
              have e2 : its.toArray.isEmpty = true := by
                rcases Bool.or_eq_true _ _ ▸ c1 with z | z
                · exact z
                · exact absurd (by simpa using z) e
              have e3 : its = [] := by
                cases its with
                | nil => rfl
                | cons a b => cases e2
              have e4 := r.length
              rw [e3] at e4
              have e5 := h2.length
              exact (List.eq_nil_of_length_eq_zero (e5.trans e4)).symm
          rw [hts] at q
          refine wpAny_binaryOp_repeat_ref (T := "tuple") (U := "int") (by decide) ⟨_, ho, rfl⟩ (fun s' => typeIs_int s' k t) noFill_tuple_mul F.fills_int_mul F.slot_int_rmul repeat_tuple F.slot_int_index.lookup
            (call_meets F.slot_int_rmul (typeIs_int s k t) F.entry_int_rmul (F.args_int_rmul_2 _ _) (int_rmul_tuple k t l its.toArray n dd sl)
              ⟨ho, rfl, ⟨_, ho, rfl⟩, call_meets F.slot_tuple_mul ⟨_, ho, rfl⟩ F.entry_tuple_mul (F.args_tuple_mul_2 _ _) (tuple_mul1 l its.toArray n dd sl k t c0 c1) ⟨ho, ?_⟩⟩)
          exact ⟨.ref l, H, I, rfl, im _ _ q H _ (Ext.refl H) hs (.tup h1 h2)⟩
        · have c1 : (its.toArray.isEmpty || k == 1) = false := by simpa using c1
          have hk0 : k = 0 := by
            rcases hk with e | e
            · exact e
            · rw [e] at c1; simp at c1
          subst hk0
          rw [if_neg (by decide)] at q
          refine wpAny_binaryOp_repeat_ref (T := "tuple") (U := "int") (by decide) ⟨_, ho, rfl⟩ (fun s' => typeIs_int s' 0 t) noFill_tuple_mul F.fills_int_mul F.slot_int_rmul repeat_tuple F.slot_int_index.lookup
            (call_meets F.slot_int_rmul (typeIs_int s 0 t) F.entry_int_rmul (F.args_int_rmul_2 _ _) (int_rmul_tuple 0 t l its.toArray n dd sl)
              ⟨ho, rfl, ⟨_, ho, rfl⟩, call_meets F.slot_tuple_mul ⟨_, ho, rfl⟩ F.entry_tuple_mul (F.args_tuple_mul_2 _ _) (tuple_mul0 l its.toArray n dd sl 0 t c0 c1 (by rw [decide_eq_true (by decide), Bool.true_or])) ⟨ho, ?_⟩⟩)
          have hp : H s.heap.objs.size = none := I.hok.fresh (Nat.le_refl _)
          refine ⟨.ref s.heap.objs.size, _, I.laid (t' := s.toks) (o := .tup []) (fun b ob q => Heap.get?_push_of_some _ q) (Nat.le_refl _) ?_, rfl, im _ _ q _ _ (Ext.new hp) (hs.new hp _) (.tup upd_same .nil)⟩
          exact ⟨by rw [sizeLine_eq]; decide, _, .nil, IsTup.new _ _⟩
    | _ => exact q.elim
  | _ => exact q.elim
end
end Wp

set_option Elab.async false
set_option linter.all false
set_option maxRecDepth 100000
set_option maxHeartbeats 4000000
/-! lists of lists: ==, and x[::-1] -/
namespace Wp
open PySem PySem.Spec PyProof.Rows L2
section
variable {B : Hp} {X : Cx} {a b : Expr} {ta tb : WE} {pos : Pos}
def rRev (x : T) (S : Sta) (Q : T → Sta → Prop) : Prop := match x with
  | .ref p => ∃ ts, S p = some (.lst ts) ∧ ∀ q, S q = none → Q (.ref q) (upS S q (.lst ts.reverse))
  | _ => False
def wRev (t : WE) (σ : Sl) (S : Sta) (Q : T → Sta → Prop) : Prop := t σ S fun x S1 => rRev x S1 Q
theorem j_rev {k : Nat} {p1 p2 p3 : Pos} (ha : JE B X a ta) : JE B X (.Subscript a (.Slice none none (some (.UnaryOp .USub (.Constant (.int 1) k p1) p2)) p3) pos) (wRev ta) :=
  pe_imp (pe_revL ha) fun σ H Q ⟨st, S, Q0, he, hr, hs, h, im⟩ => by
    refine ⟨st, S, _, he, hr, hs, h, fun x S1 h1 H1 v e1 s1 r1 => ?_⟩
    cases x with
    | ref p =>
      obtain ⟨ts, e, q⟩ := h1
      cases r1
      obtain ⟨xs, g1, g2⟩ := s1 p _ e
      refine ⟨p, xs, rfl, .inl (.inl g1), fun p' hp' => ?_⟩
      obtain ⟨e3, s3⟩ := s1.newL hp' g2.reverse
      exact im _ _ (q p' (s1.free hp')) _ _ (e1.trans e3) s3 (.ref p')
    | _ => exact h1.elim
def see2 (S : Sta) : T → T
  | .ref p => match S p with
    | some (.lst ts) => .fl (ts.map (see S))
    | _ => .ref p
  | t => t
theorem see2_ref {S : Sta} {p : Addr} {ts : List T} (h : S p = some (.lst ts)) : see2 S (.ref p) = .fl (ts.map (see S)) := by simp only [see2, h]
theorem sees_dp {K : PySem.W.Frag} {H : Hp} {S : Sta} (hs : St K S H) : ∀ (ts : List T) (vs : List V) (ds : List PyData), Reps K H ts vs → toDs (ts.map (see S)) = some ds → DpAll K H vs ds
  | [], _, _, r, e => by cases r; simp only [List.map_nil, toDs, Option.some.injEq] at e; subst e; exact .nil
  | t :: ts, _, ds, r, e => by
    cases r with
    | cons h1 h2 =>
      simp only [List.map_cons, toDs] at e
      cases e1 : toD (see S t) with
      | none => rw [e1] at e; cases e
      | some d =>
        cases e2 : toDs (ts.map (see S)) with
        | none => rw [e1, e2] at e; cases e
        | some es =>
          rw [e1, e2] at e
          cases e
          exact .cons (dd_dp hs h1 (by rw [dd_see]; exact e1)) (sees_dp hs ts _ es h2 e2)
theorem see2_dp {K : PySem.W.Frag} {H : Hp} {S : Sta} {t : T} {v : V} {d : PyData} (hs : St K S H) (r : Rep K H t v) (e : toD (see2 S t) = some d) : Dp K H v d := by
  cases t with
  | ref p =>
    cases r
    simp only [see2] at e
    cases q : S p with
    | none => rw [q] at e; simp only [toD] at e; cases e
    | some o =>
      rw [q] at e
      cases o with
      | ot x => simp only [toD] at e; cases e
      | ins C fs => simp only [toD] at e; cases e
      | dct kvs => simp only [toD] at e; cases e
      | dtt kvs => simp only [toD] at e; cases e
      | lst ts =>
        simp only [toD, Option.map_eq_some_iff] at e
        obtain ⟨ds, e1, e2⟩ := e
        subst e2
        obtain ⟨xs, h1, h2⟩ := hs p _ q
        exact .lst (.inl (.inl h1)) (sees_dp hs ts _ ds h2 e1)
  | non => exact Rep.dp _ _ _ r e
  | bl b => exact Rep.dp _ _ _ r e
  | int b => exact Rep.dp _ _ _ r e
  | str b => exact Rep.dp _ _ _ r e
  | tup b => exact Rep.dp _ _ _ r e
  | fl b => exact Rep.dp _ _ _ r e
  | pt b => exact Rep.dp _ _ _ r e
def rEq2 (neg : Bool) (x : T) (y : T) (S : Sta) (Q : T → Sta → Prop) : Prop := ∃ d, toD (see2 S x) = some d ∧ ∃ e, toD (see2 S y) = some e ∧ SeqAt.shaped d = true ∧ SeqAt.shaped e = true ∧ Q (.bl (neg != PyData.eqv d e)) S
theorem o_eq2 (hu : X.A.units + 64 < cLine) : OpT X (compareOp .Eq) (rEq2 false) := by
  intro pins s σ H x y v u Q I rx ry ⟨a, b, S, Q0, ra, rb, hs, ⟨d, h1, e, h2, h3, h4, q⟩, im⟩
  refine op_eqD hu pins s σ H _ _ v u Q I rx ry ⟨d, e, see2_dp hs ra h1, see2_dp hs rb h2, h3, h4, ?_⟩
  rw [Bool.false_bne] at q
  exact im _ _ q H _ (Ext.refl H) hs (.bl _)
theorem o_ne2 (hu : X.A.units + 64 < cLine) : OpT X (compareOp .NotEq) (rEq2 true) := by
  intro pins s σ H x y v u Q I rx ry ⟨a, b, S, Q0, ra, rb, hs, ⟨d, h1, e, h2, h3, h4, q⟩, im⟩
  refine op_neD hu pins s σ H _ _ v u Q I rx ry ⟨d, e, see2_dp hs ra h1, see2_dp hs rb h2, h3, h4, ?_⟩
  rw [Bool.true_bne] at q
  exact im _ _ q H _ (Ext.refl H) hs (.bl _)
theorem rEq2_same {neg : Bool} {x y : T} {S : Sta} {Q : T → Sta → Prop} {z : T} (ex : see2 S x = z) (ey : see2 S y = z) (hz : nbT z = true) (dz : dpT z ≤ 60) (h : Q (.bl neg) S) : rEq2 (!neg) x y S Q := by
  obtain ⟨d, a1, a2, a3⟩ := nb_toD _ hz
  have sh : SeqAt.shaped d = true := by unfold SeqAt.shaped; rw [a2, Bool.true_and]; exact decide_eq_true (by omega)
  refine ⟨d, by rw [ex]; exact a1, d, by rw [ey]; exact a1, sh, sh, ?_⟩
  rw [(nb_eqv _ _ d d hz hz a1 a1).mpr rfl]
  cases neg <;> exact h
end
end Wp

set_option Elab.async false
set_option linter.all false
set_option maxRecDepth 100000
set_option maxHeartbeats 4000000
/-! sorted(d.items()) of a dict of whole numbers by whole numbers -/
namespace Wp
open PySem PySem.Spec PyProof.Rows L2
/-- what the pair at an address is, told by the places of the addresses -/
theorem place : ∀ (bs : List Addr) (es : List (Int × Int)), bs.Nodup → ∃ f : Addr → Int × Int, ∀ z ∈ bs.zip es, f z.1 = z.2
  | [], _, _ => ⟨fun _ => (0, 0), fun z hz => by simp at hz⟩
  | _ :: _, [], _ => ⟨fun _ => (0, 0), fun z hz => by simp at hz⟩
  | b :: bs, e :: es, nd => by
    rw [List.nodup_cons] at nd
    obtain ⟨f, hf⟩ := place bs es nd.2
    refine ⟨fun x => if x = b then e else f x, fun z hz => ?_⟩
    rw [List.zip_cons_cons] at hz
    rcases List.mem_cons.mp hz with q | q
    · subst q; exact if_pos rfl
    · have : z.1 ≠ b := fun w => nd.1 (by rw [← w]; exact (List.of_mem_zip q).1)
      show (if z.1 = b then e else f z.1) = z.2
      rw [if_neg this]
      exact hf z q
/-- a pair as the machine holds it, its object known whole -/
def PairObj (h : Heap) (z : Addr × Int × Int) : Prop := ∃ t u : Tok, h.get? z.1 = some { cls := .type "tuple", data := .seq #[Value.int z.2.1 t, Value.int z.2.2 u] }
section
variable {P : Program} {w : World} {A : Around} {E : Value → Shared → Prop} {s : Shared}
/-- the machine's side: what sorted makes of the view -/
theorem sorted_view {r d : Addr} {es : Array DictEntry} {ep : Nat} {ks : List (Int × Int)} {Q : Value → Shared → Prop} (hh : A.handled = none) (view : s.heap.IsItemsView r d) (raw : DT.Raw s.heap d es ep) (many : es.size = ks.length) (fits : ks.length ≤ sizeLine)
    (ent : ∀ (j : Nat) (e : DictEntry), es.toList[j]? = some e → ∃ (k : Int × Int) (t u : Tok), ks[j]? = some k ∧ e.key = .int k.1 t ∧ e.val = .int k.2 u)
    (h : ∀ (hp : Heap) (tk : Nat) (l : Addr) (zs : List (Addr × Int × Int)), (∀ b o, s.heap.get? b = some o → hp.get? b = some o) → s.heap.objs.size ≤ l → (∃ c, hp.get? l = some { cls := .type "list", data := .seq (zs.map fun z => Value.ref z.1).toArray c }) →
      (zs.map (·.2)).Perm ks → (zs.map (·.2)).Pairwise (fun e f => e.1 ≤ f.1) → (zs.map (·.1)).Nodup → (∀ z ∈ zs, s.heap.objs.size ≤ z.1 ∧ z.1 ≠ l ∧ PairObj hp z) → Q (.ref l) { s with heap := hp, toks := tk }) :
    wpAny (model P w) A (call (.builtin "sorted") [.ref r]) Q E s := by
  refine DT.sortedI hh view raw (many ▸ fits) fun h1 tk bs old big len made => ?_
  have len : bs.length = ks.length := len.trans many
  have nd : bs.Nodup := made.rise.imp Nat.ne_of_lt
  obtain ⟨f, hf⟩ := place bs ks nd
  have objs : ∀ z ∈ bs.zip ks, PairObj h1 z := fun z hz => by
    obtain ⟨j, hj⟩ := List.mem_iff_getElem?.mp hz
    obtain ⟨j1, j2⟩ := List.getElem?_zip_eq_some.mp hj
    obtain ⟨e, he, hg⟩ := made.pairs j _ j1
    obtain ⟨k, t, u, a, b, c⟩ := ent j e (by rw [Array.getElem?_toList]; exact he)
    obtain rfl : k = z.2 := Option.some.inj (a.symm.trans j2)
    exact ⟨t, u, by rw [hg, b, c]⟩
  have below : ∀ {b : Addr} {o : Obj}, h1.get? b = some o → b ≠ h1.objs.size := fun q => Nat.ne_of_lt (Heap.lt_size q)
  obtain ⟨h2, e2⟩ : ∃ h2, h1.push { cls := .type "list", data := .seq (bs.map Value.ref).toArray } = h2 := ⟨_, rfl⟩
  have lay : h2.get? h1.objs.size = some (seqObj "list" (bs.map Value.ref).toArray 0) := by rw [← e2]; exact Heap.get?_push_size _ rfl
  have grown : ∀ {b : Addr} {o : Obj}, h1.get? b = some o → h2.get? b = some o := fun q => by rw [← e2]; exact Heap.get?_push_of_some _ q
  rw [e2]
  have inz : ∀ v ∈ bs.map Value.ref, ∃ z ∈ bs.zip ks, v = .ref z.1 := fun v hv => by
    obtain ⟨b, hb, rfl⟩ := List.mem_map.mp hv
    obtain ⟨j, hj⟩ := List.mem_iff_getElem?.mp hb
    have hl : j < ks.length := by rw [← len]; exact (List.getElem?_eq_some_iff.mp hj).1
    exact ⟨(b, ks[j]), List.mem_of_getElem? (List.getElem?_zip_eq_some.mpr ⟨hj, List.getElem?_eq_getElem hl⟩), rfl⟩
  let g : Value → Int × Int := fun v => match v with
    | Value.ref b => f b
    | _ => ((0 : Int), (0 : Int))
  refine wpAny_call_entry PyProof.Rows.slot_list_sort ⟨_, lay, rfl⟩ PyProof.Rows.entry_list_sort
    (SrtO.list_sort_ord (s := { s with heap := h2, toks := tk }) (vs := bs.map Value.ref) (SrtO.swo_lex g) lay (by rw [List.length_map, len]; exact fits) (fun two => SrtO.pairs_sortableO (by omega) (fun v hv => ?_) fun o q => ?_) fun out srt stb => ⟨.none, rfl, ?_⟩) (PyProof.Rows.args_list_sort _)
  · obtain ⟨z, hz, rfl⟩ := inz v hv
    obtain ⟨t, u, q⟩ := objs z hz
    rw [show g (Value.ref z.1) = z.2 from hf z hz]
    exact ⟨z.1, _, t, u, 0, rfl, grown q, rfl, rfl⟩
  · obtain rfl : o = seqObj "list" (bs.map Value.ref).toArray 0 := Option.some.inj (q.symm.trans lay)
    exact fun c => absurd (Value.type.inj c) (by decide)
  · have firsts : (bs.zip ks).map (fun z => Value.ref z.1) = bs.map Value.ref := by
      rw [show (fun z : Addr × Int × Int => Value.ref z.1) = Value.ref ∘ Prod.fst from rfl, ← List.map_map, List.map_fst_zip (Nat.le_of_eq len)]
    obtain ⟨zs, perm, rfl⟩ := perm_lift (fun z : Addr × Int × Int => Value.ref z.1) stb.perm (bs.zip ks) firsts
    have hz : ∀ z ∈ zs, z ∈ bs.zip ks := fun z q => perm.mem_iff.mp q
    have kept : ∀ {b : Addr} {o : Obj}, h1.get? b = some o → (sortedHeap h2 h1.objs.size (bs.map Value.ref) (zs.map fun z => Value.ref z.1).toArray).get? b = some o := fun q => (PyProof.Rows.sortedHeap_old (below q) (Heap.lt_size (grown q))).trans (grown q)
    refine h _ tk h1.objs.size zs (fun b o q => kept (old b o q)) (Nat.le_of_lt big) ?_ ?_ ?_ ?_ fun z q => ?_
    · obtain ⟨c, q⟩ := PyProof.Rows.sortedHeap_at (vs := bs.map Value.ref) (out := (zs.map fun z => Value.ref z.1).toArray) lay
      exact ⟨c, q⟩
    · have q := perm.map (·.2)
      rwa [List.map_snd_zip (Nat.le_of_eq len.symm)] at q
    · have q : (zs.map fun z => Value.ref z.1).Pairwise fun x y => SrtO.lexB (g y) (g x) = false := srt
      rw [List.pairwise_map] at q ⊢
      refine q.imp_of_mem fun {x y} hx hy q => ?_
      have q : SrtO.lexB (f y.1) (f x.1) = false := q
      rw [hf x (hz x hx), hf y (hz y hy)] at q
      have := SrtO.lexB_no.mp q
      omega
    · refine (perm.map (·.1)).nodup_iff.mpr ?_
      rw [List.map_fst_zip (Nat.le_of_eq len)]
      exact nd
    · obtain ⟨t, u, e⟩ := objs z (hz z q)
      exact ⟨Nat.le_of_lt (made.above _ (List.of_mem_zip (hz z q)).1), below e, t, u, kept e⟩
end
/-- the entries of such a dict, one by one -/
theorem ents_at : ∀ {es : List DictEntry} {vs : List (Key × Value)} {ks : List (Int × Int)} {P : Program} {w : World}, KV (ks.map fun e => ((Sum.inl e.1 : Key), V.int e.2)) vs → Pairs (mixKind P w) es vs → es.length = ks.length ∧ ∀ (j : Nat) (e : DictEntry), es[j]? = some e → ∃ (k : Int × Int) (t u : Tok), ks[j]? = some k ∧ e.key = .int k.1 t ∧ e.val = .int k.2 u
  | _, _, [], _, _, r, p => by
    cases r
    cases p
    exact ⟨rfl, fun j e h => by simp at h⟩
  | _, _, k :: ks, P, w, r, p => by
    cases r with
    | cons h t =>
      cases p with
      | cons h1 h2 t2 =>
        obtain ⟨l, g⟩ := ents_at t t2
        refine ⟨by rw [List.length_cons, List.length_cons, l], fun j e he => ?_⟩
        cases j with
        | zero =>
          simp only [List.getElem?_cons_zero, Option.some.injEq] at he
          subst he
          obtain ⟨e1, e2⟩ := h
          have e1 : Sum.inl k.1 = _ := e1
          rw [← e1] at h1
          rcases keyIs_shape (k := Sum.inl k.1) h1 with ⟨i, t', a1, a2⟩ | ⟨x, t', a1, a2⟩
          · have a1 := Sum.inl.inj a1
            subst a1
            obtain ⟨u, e2⟩ := e2
            exact ⟨k, t', u, rfl, a2, by rw [h2]; exact e2⟩
          · exact nomatch a1
        | succ j => exact g j e (by simpa using he)
/-- the view d.items() of a dict with keys of any kind -/
def rItemsI : V → List V → Hp → VK → Prop := fun x xs H Q => ∃ (a : Addr) (kvs : List (Key × V)), x = .ref a ∧ xs = [] ∧ Rd H a (.dK kvs) ∧ ∀ p, H p = none → Q (.ref p) (upd H p (DX.itemsO p a))
def rSortDI : List V → Hp → VK → Prop := fun vs H Q => ∃ (p a : Addr) (ks : List (Int × Int)), vs = [.ref p] ∧ H p = some (DX.itemsO p a) ∧ Rd H a (.dK (ks.map fun e => ((Sum.inl e.1 : Key), V.int e.2))) ∧
  ∀ (H' : Hp) (l : Addr) (zs : List (Addr × Int × Int)), (∀ b o, H b = some o → H' b = some o) → (zs.map (·.2)).Perm ks → (zs.map (·.2)).Pairwise (fun e f => e.1 ≤ f.1) → H' l = some (.lst (zs.map fun z => V.ref z.1)) →
    (∀ z ∈ zs, H' z.1 = some (.tup [.int z.2.1, .int z.2.2])) → Q (.ref l) H'
section
variable {X : Cx}
theorem m_itemsI : MtR X "dict.items" rItemsI := fun pins s σ H x xs v us Q I rx rxs ⟨a, kvs, ex, exs, ha, q⟩ => by
  subst ex exs
  obtain rfl : v = Value.ref a := rx
  cases rxs
  obtain ⟨_, top, _, _, o, es, ep, ho, hx, hdat, _⟩ := dk_rd I.hok ha
  have new : H s.heap.objs.size = none := I.hok.fresh (Nat.le_refl _)
  exact DT.callItems (es := es) (ep := ep) top ⟨o, ho, hx, hdat⟩ ⟨.ref _, _, I.laid (t' := s.toks) (fun _ _ e => Heap.get?_push_of_some _ e) (Nat.le_refl _) (DX.itemsO_ok (Heap.get?_push_size _ rfl)), rfl, q _ new⟩
theorem c_sortDI (hc : X.calm = true) : CallR X (.builtin "sorted") rSortDI := fun pins s σ H xs us Q I r ⟨p, a, ks, ex, hp, ha, q⟩ => by
  subst ex
  obtain rfl := Vals.ref1 r
  obtain ⟨short, _, vs, rel, o, es, ep, ho, hx, hdat, _, hP, _⟩ := dk_rd I.hok ha
  rw [List.length_map] at short
  obtain ⟨many, ent⟩ := ents_at rel hP
  have view : s.heap.IsItemsView p a := (show ObjOk X.prog X.w H s.heap p (DX.itemsO p a) from I.hok p _ hp).1
  refine sorted_view (ks := ks) (I.ok.hd hc) view ⟨o, ho, hx, hdat⟩ (by rw [← many]; exact Array.length_toList.symm) short ent fun hp tk l zs keep hl ⟨c, lst⟩ perm srt nd fresh => ?_
  have free : ∀ b, s.heap.objs.size ≤ b → H b = none := fun b z => I.hok.fresh z
  have J : Inv X pins σ (upd H l (.lst (zs.map fun z => V.ref z.1))) { s with heap := hp, toks := tk } :=
    I.laid (t' := tk) keep hl ⟨by rw [List.length_map]; have := perm.length_eq; rw [List.length_map] at this; omega, zs.map fun z => Value.ref z.1, c, vals_maps (fun z : Addr × Int × Int => V.ref z.1) (fun z => Value.ref z.1) zs fun _ _ => rfl, lst⟩
  obtain ⟨H2, J2, up, tups⟩ := DX.takeT (P := fun b vs => ∃ z ∈ zs, z.1 = b ∧ vs = [V.int z.2.1, V.int z.2.2]) I (zs.map (·.1)) _ J nd fun b hb => by
    obtain ⟨z, hz, rfl⟩ := List.mem_map.mp hb
    obtain ⟨z1, z2, t, u, z3⟩ := fresh z hz
    exact ⟨z1, by rw [upd_ne z2]; exact free _ z1, _, ⟨z, hz, rfl, rfl⟩, fun H3 => ⟨by rw [sizeLine_eq]; show 2 ≤ 16777216; omega, [Value.int z.2.1 t, Value.int z.2.2 u], .cons ⟨t, rfl⟩ (.cons ⟨u, rfl⟩ .nil), _, z3, rfl, 0, rfl⟩⟩
  refine ⟨.ref l, H2, J2, rfl, q H2 l zs (fun b o e => up b o ?_) perm srt (up _ _ upd_same) fun z hz => ?_⟩
  · rw [upd_ne fun z => by rw [z, free l hl] at e; cases e]
    exact e
  · obtain ⟨vs, ⟨y, hy, e1, e2⟩, e3⟩ := tups z.1 (List.mem_map.mpr ⟨z, hz, rfl⟩)
    have : y = z := by
      obtain ⟨i, hi⟩ := List.mem_iff_getElem?.mp hy
      obtain ⟨j, hj⟩ := List.mem_iff_getElem?.mp hz
      have hij : i = j := (List.getElem?_inj (by rw [List.length_map]; exact (List.getElem?_eq_some_iff.mp hi).1) nd).mp (by rw [List.getElem?_map, List.getElem?_map, hi, hj, Option.map_some, Option.map_some, e1])
      rw [hij, hj] at hi
      exact (Option.some.inj hi).symm
    rw [e3, e2, this]
end
end Wp

set_option Elab.async false
set_option linter.all false
set_option maxRecDepth 100000
set_option maxHeartbeats 4000000
/-! a tuple that is known to have no dict of its own, and dict(x) of a tuple of pairs -/
namespace Wp
open PySem PySem.Spec PyProof.Rows L2
/-- a tuple, the whole object known -/
def TupX (H : Hp) (a : Addr) (xs : List V) : Prop := ∃ o, o.dict = none ∧ H a = some (.frz o (.tup xs))
/-- what the pairs at these addresses hold: the key, the key's value, the value -/
theorem held {X : Cx} {pins : List (Addr × Obj)} {σ : L2.St} {H : Hp} {s : Shared} (I : Inv X pins σ H s) : ∀ (ps : List Addr) (kvs : List (Key × V)), Paired (fun p kv => SqT X.K H p [kV kv.1, kv.2]) ps kvs →
    ∃ zs : List (Key × Value × Value), KV kvs (zs.map fun z => (z.1, z.2.2)) ∧ zs.length = ps.length ∧ ∀ (j : Nat) (z : Key × Value × Value), zs[j]? = some z → ∃ b, ps[j]? = some b ∧ IsTup s.heap b #[z.2.1, z.2.2] ∧ keyIs z.1 z.2.1 = true
  | [], _, h => by cases h; exact ⟨[], .nil, rfl, fun j z e => by simp at e⟩
  | b :: ps, _, h => by
    cases h with
    | @cons _ kv _ kvs h1 h2 =>
      obtain ⟨zs, r, l, g⟩ := held I ps kvs h2
      obtain ⟨_, vals, tup, _⟩ := I.tuple h1
      obtain ⟨k, v, e, rk, rv⟩ := vals2 vals
      subst e
      refine ⟨(kv.1, k, v) :: zs, .cons ⟨rfl, rv⟩ r, by rw [List.length_cons, List.length_cons, l], fun j z q => ?_⟩
      match j, q with
      | 0, q =>
        obtain rfl : (kv.1, k, v) = z := Option.some.inj q
        exact ⟨b, rfl, tup, kV_is (P := X.prog) (w := X.w) rk⟩
      | j + 1, q => exact g j z q
section
variable {X : Cx}
theorem c_tupX : CallR X (.type "tuple") (fun xs H Q => ∃ p ys, xs = [.ref p] ∧ SqL X.K H p ys ∧ ∀ l o, o.dict = none → H l = none → Q (.ref l) (upd H l (.frz o (.tup ys)))) := fun pins s σ H xs us Q I r ⟨p, ys, ex, hq, q⟩ => by
  subst ex
  obtain rfl := Vals.ref1 r
  obtain ⟨its, vals, pl, short⟩ := I.list hq
  refine call_tuple_list pl.isList (fun h1 keep => ?_) (by have := vals.length; simp only [List.size_toArray]; omega)
  have J : Inv X pins σ H { s with heap := h1 } := I.kept (t' := s.toks) keep
  refine ⟨.ref _, _, J.laid (t' := s.toks) (o := .frz { cls := .type "tuple", data := .seq its.toArray } (.tup ys)) (fun _ _ e => Heap.get?_push_of_some _ e) (Nat.le_refl _) ⟨Heap.get?_push_size _ rfl, short, its, vals, IsTup.new _ _⟩, rfl, ?_⟩
  exact q _ _ rfl (J.hok.fresh (Nat.le_refl _))
/-- dict(x) of a tuple of pairs -/
theorem c_dictPT (hc : X.calm = true) : CallR X (.type "dict") (fun xs H Q => ∃ (a : Addr) (ps : List Addr) (kvs : List (Key × V)), xs = [.ref a] ∧ TupX H a (ps.map V.ref) ∧ Paired (fun p kv => SqT X.K H p [kV kv.1, kv.2]) ps kvs ∧
    ∀ p, H p = none → Q (.ref p) (upd H p (.dK (mergeK [] kvs)))) := fun pins s σ H xs us Q I r ⟨a, ps, kvs, ex, ⟨o, plain, ha⟩, pairs, q⟩ => by
  subst ex
  obtain rfl := Vals.ref1 r
  obtain ⟨ho, short, its, vals, ⟨o2, ho2, cls, n, dat⟩⟩ := (show ObjOk X.prog X.w H s.heap a (.frz o (.tup (ps.map V.ref))) from I.hok a _ ha)
  obtain rfl : o = o2 := Option.some.inj (ho.symm.trans ho2)
  obtain rfl := refs_at vals
  obtain ⟨zs, rel, many, at_⟩ := held I ps kvs pairs
  rw [List.length_map] at short
  have item : ∀ (j : Nat) (k v : Value), (zs.map (·.2))[j]? = some (k, v) → ∃ z b, zs[j]? = some z ∧ z.2 = (k, v) ∧ ps[j]? = some b ∧ IsTup s.heap b #[k, v] ∧ keyIs z.1 k = true := fun j k v e => by
    rw [List.getElem?_map, Option.map_eq_some_iff] at e
    obtain ⟨z, e1, e2⟩ := e
    obtain ⟨b, g1, g2, g3⟩ := at_ j z e1
    rw [e2] at g2 g3
    exact ⟨z, b, e1, e2, g1, g2, g3⟩
  refine PySem.call_dict_pairs (knd := mixKind X.prog X.w) (kvs := zs.map fun z => (z.1, z.2.2)) (PySem.PairArg.tuple a (ps.map Value.ref).toArray (fun j => ps.getD j 0) (zs.map (·.2))) (I.ok.hd hc)
    ⟨⟨o, n, ho, cls, plain, dat⟩, by simp [many], fun j k v e => ?_⟩ ⟨by simp, fun j k v e => ?_⟩ (by rw [List.length_map, many]; exact short) fun hp tk dict keep => ?_
  · obtain ⟨z, b, _, _, g, tup, _⟩ := item j k v e
    have gb : ps.getD j 0 = b := by simp [g, List.getD_eq_getElem?_getD]
    exact ⟨by simp [g, gb], .inl (by show s.heap.IsTuple (ps.getD j 0) #[k, v]; rw [gb]; exact tup)⟩
  · obtain ⟨z, b, e1, e2, _, _, key⟩ := item j k v e
    exact ⟨z.1, by rw [List.getElem?_map, e1, Option.map_some, e2], key⟩
  · have size : (mergeK [] kvs).length ≤ sizeLine := by
      have g1 := length_mergeK kvs []
      have g2 := rel.length
      rw [List.length_map] at g2
      rw [List.length_nil] at g1
      omega
    refine ⟨.ref _, _, I.laid (t' := tk) (o := .dK (mergeK [] kvs)) (fun b o e => keep b o (fun z => nomatch z) e) (Nat.le_refl _) ⟨size, beq_eq_false_iff_ne.mpr (Nat.ne_of_gt I.big), _, KV.merge rel .nil, dict⟩, rfl, ?_⟩
    exact q _ (I.hok.fresh (Nat.le_refl _))
end
end Wp

set_option Elab.async false
set_option linter.all false
set_option maxRecDepth 100000
set_option maxHeartbeats 4000000
/-! the picture of a dict of whole numbers: tuple(sorted(d.items())), and back: dict(x) -/
namespace Wp
open PySem PySem.Spec PyProof.Rows L2
/-- entries of whole numbers -/
def entI (e : Int × Int) : Key × T := (Sum.inl e.1, .int e.2)
def prI (e : Int × Int) : T := .tup [.int e.1, .int e.2]
theorem entI_rep {K : PySem.W.Frag} {H : Hp} : ∀ {ks : List (Int × Int)} {xs : List (Key × V)}, KRep K H (ks.map entI) xs → xs = ks.map fun e => ((Sum.inl e.1 : Key), V.int e.2)
  | [], _, h => by cases h; rfl
  | k :: ks, _, h => by
    cases h with
    | cons h1 h2 =>
      cases h1
      rw [entI_rep h2]
      rfl
theorem entI_of {K : PySem.W.Frag} {H : Hp} : ∀ (ks : List (Int × Int)), KRep K H (ks.map entI) (ks.map fun e => ((Sum.inl e.1 : Key), V.int e.2))
  | [] => .nil
  | k :: ks => .cons (.int _) (entI_of ks)
theorem prI_reps {K : PySem.W.Frag} {H : Hp} : ∀ (zs : List (Addr × Int × Int)), (∀ z ∈ zs, H z.1 = some (.tup [.int z.2.1, .int z.2.2])) → Reps K H ((zs.map (·.2)).map prI) (zs.map fun z => V.ref z.1)
  | [], _ => .nil
  | z :: zs, h => .cons (.tup (h z (List.mem_cons_self ..)) (.cons (.int _) (.cons (.int _) .nil))) (prI_reps zs fun y hy => h y (List.mem_cons_of_mem _ hy))
theorem prI_of {K : PySem.W.Frag} {H : Hp} : ∀ {ks : List (Int × Int)} {vs : List V}, Reps K H (ks.map prI) vs → ∃ ps : List Addr, vs = ps.map V.ref ∧ Paired (fun p (kv : Key × V) => SqT K H p [kV kv.1, kv.2]) ps (ks.map fun e => ((Sum.inl e.1 : Key), V.int e.2))
  | [], _, h => by cases h; exact ⟨[], rfl, .nil⟩
  | k :: ks, _, h => by
    cases h with
    | cons h1 h2 =>
      obtain ⟨ps, rfl, q⟩ := prI_of h2
      cases h1 with
      | tup a b =>
        cases b with
        | cons b1 b2 =>
          cases b1
          cases b2 with
          | cons c1 c2 =>
            cases c1
            cases c2
            exact ⟨_ :: ps, rfl, .cons (sqT_of a) q⟩
section
variable {B : Hp} {X : Cx} {o : Expr} {to : WE}
def wSrtIt (to : WE) (σ : Sl) (S : Sta) (Q : T → Sta → Prop) : Prop := to σ S fun x S1 => match x with
  | .ref p => ∃ ks : List (Int × Int), S1 p = some (.dct (ks.map entI)) ∧ ∀ zs : List (Int × Int), zs.Perm ks → zs.Pairwise (fun e f => e.1 ≤ f.1) → Q (.pt (zs.map prI)) S1
  | _ => False
theorem j_srtIt {p1 p2 p3 p4 p5 p6 : Pos} (hc : X.calm = true) (g1 : Gl X "tuple") (m1 : X.mg "tuple" = none) (g2 : Gl X "sorted") (m2 : X.mg "sorted" = none) (ho : JE B X o to)
    (hbase : attributeBase o "items" X.env (eval o X.env) = eval o X.env := by rfl) (hline : (p5.endLine == p6.line) = true := by rfl) :
    JE B X (.Call (.Name "tuple" p1) [.Call (.Name "sorted" p2) [.Call (.Attribute o "items" p5) [] [] p6] [] p4] [] p3) (wSrtIt to) :=
  pe_imp (pe_callTy c_tupX g1 m1 rfl (pa_cons (pe_callB (c_sortDI hc) g2 m2 rfl (pa_cons (pe_bm0 PySem.F.plainAttrs_dict PySem.F.slot_dict_items PySem.F.type_dict_items m_itemsI ho hbase hline) pa_nil) (by decide) (by decide)) pa_nil) (by decide) (by decide)) fun σ H Q ⟨st, S, Q0, he, hr, hs, h, im⟩ => by
    refine ⟨st, S, _, he, hr, hs, h, fun x S1 h1 H1 v e1 s1 r1 => ?_⟩
    cases x with
    | ref p =>
      obtain ⟨ks, eS, q⟩ := h1
      cases r1
      obtain ⟨xs, d1, d2⟩ := s1 p _ eS
      obtain rfl := entI_rep d2
      refine ⟨.inr (.inr (.inl ⟨rfl, .inl ⟨_, d1⟩⟩)), p, _, rfl, rfl, .inl d1, fun w hw => ?_⟩
      have wp : p ≠ w := fun e => by rw [e, hw] at d1; cases d1
      refine ⟨w, p, ks, rfl, upd_same, .inl (by rw [upd_ne wp]; exact d1), fun H2 l zs keep perm srt hl ht => ?_⟩
      refine ⟨l, _, rfl, .inl (.inl hl), fun l2 ob plain hn => ?_⟩
      have ex2 : Ext H1 H2 := by
        have e2 : Ext H1 (upd H1 w (DX.itemsO w p)) := Ext.new hw
        exact ⟨fun b ys e => keep _ _ (e2.tups b ys e), fun b ob u e => keep _ _ (e2.frzs b ob u e), fun b hb => by
          obtain ⟨ps, e, t⟩ := e2.tabs b hb
          exact ⟨ps, keep _ _ e, t⟩⟩
      have ex3 : Ext H1 (upd H2 l2 (.frz ob (.tup (zs.map fun z => V.ref z.1)))) := ex2.trans (Ext.new hn)
      have old : ∀ a u, S1 a = some u → (upd H2 l2 (.frz ob (.tup (zs.map fun z => V.ref z.1)))) a = H1 a := fun a u e => by
        obtain ⟨u', hu, _⟩ := s1.has e
        have aw : a ≠ w := fun z => by rw [z, hw] at hu; cases hu
        have h2 : H2 a = some u' := keep a u' (by rw [upd_ne aw]; exact hu)
        rw [upd_ne (ne_of_none h2 hn), h2, hu]
      refine im _ _ (q (zs.map (·.2)) perm srt) _ _ (e1.trans ex3) (s1.keep ex3 old) (.pt plain upd_same ?_)
      exact Reps.mono (Ext.new hn) _ _ (prI_reps zs ht)
    | _ => exact h1.elim
/-- dict(x) of such a tuple, no key twice -/
def rDictP (xs : List T) (S : Sta) (Q : T → Sta → Prop) : Prop := match xs with
  | [.pt ts] => ∃ ks : List (Int × Int), ts = ks.map prI ∧ (ks.map (·.1)).Nodup ∧ ∀ p, S p = none → Q (.ref p) (upS S p (.dct (ks.map entI)))
  | _ => False
theorem mergeK_app : ∀ (kvs acc : List (Key × V)), ((acc ++ kvs).map (·.1)).Nodup → mergeK acc kvs = acc ++ kvs
  | [], acc, _ => by rw [List.append_nil]; rfl
  | kv :: kvs, acc, h => by
    have no : acc.any (fun z => decide (z.1 = kv.1)) = false := by
      rw [List.any_eq_false]
      intro z hz
      rw [List.map_append, List.map_cons, List.nodup_append] at h
      have := h.2.2 z.1 (List.mem_map.mpr ⟨z, hz, rfl⟩) kv.1 (List.mem_cons_self ..)
      simpa using this
    have e : putK acc kv.1 kv.2 = acc ++ [kv] := by
      unfold putK
      simp [no]
    have := mergeK_app kvs (acc ++ [kv]) (by rw [List.append_assoc]; exact h)
    rw [List.append_assoc] at this
    show mergeK (putK acc kv.1 kv.2) kvs = _
    rw [e]
    exact this
theorem c_dictP (hc : X.calm = true) : CallR X (.type "dict") (LC X.K rDictP) := by
  intro pins s σ H xs us Q I rx ⟨ts, S, Q0, r, hs, q, im⟩
  match ts, q with
  | [.pt ts], ⟨ks, e, nd, q⟩ =>
    subst e
    obtain ⟨v, rfl, r1⟩ := r.one
    cases r1 with
    | @pt a ob vs _ plain ha hr =>
      obtain ⟨ps, rfl, pr⟩ := prI_of hr
      refine c_dictPT hc pins s σ H _ us Q I rx ⟨a, ps, _, rfl, ⟨ob, plain, ha⟩, pr, fun p hp => ?_⟩
      have nd2 : (List.map (fun x : Key × V => x.1) ([] ++ ks.map fun e : Int × Int => ((Sum.inl e.1 : Key), V.int e.2))).Nodup := by
        rw [List.nil_append, List.map_map]
        have e : ((fun x : Key × V => x.1) ∘ fun e : Int × Int => ((Sum.inl e.1 : Key), V.int e.2)) = (Sum.inl ∘ fun e : Int × Int => e.1) := rfl
        rw [e, ← List.map_map]
        exact List.Pairwise.map _ (fun a b h e => h (Sum.inl.inj e)) nd
      rw [mergeK_app _ [] nd2, List.nil_append]
      obtain ⟨e3, s3⟩ := hs.newO (u' := .dK (ks.map fun e : Int × Int => ((Sum.inl e.1 : Key), V.int e.2))) (o' := .dct (ks.map entI)) hp fun ex => ⟨_, upd_same, entI_of ks⟩
      exact im _ _ (q p (hs.free hp)) _ _ e3 s3 (.ref p)
end
/-! equal data: of bools and plain tuples, too -/
mutual
def okT : T → Bool
  | .str x => PyData.strOk x
  | .tup ts => okTs ts
  | .fl ts => okTs ts
  | .pt ts => okTs ts
  | .ref _ => false
  | _ => true
def okTs : List T → Bool
  | [] => true
  | t :: ts => okT t && okTs ts
end
mutual
def dqT : T → Nat
  | .tup ts => dqTs ts + 1
  | .fl ts => dqTs ts + 1
  | .pt ts => dqTs ts + 1
  | _ => 0
def dqTs : List T → Nat
  | [] => 0
  | t :: ts => max (dqT t) (dqTs ts)
end
mutual
theorem ok_toD : ∀ t : T, okT t = true → ∃ d, toD t = some d ∧ d.canLay0 = true ∧ d.depth ≤ dqT t + 1 ∧ PyData.eqv d d = true
  | .non, _ => ⟨.none, by simp only [toD], by simp only [PyData.canLay0], by simp only [PyData.depth]; omega, by simp [PyData.eqv]⟩
  | .bl b, h => ⟨.bool b, by simp only [toD], by simp only [PyData.canLay0], by simp only [PyData.depth]; omega, by simp [PyData.eqv]⟩
  | .int i, _ => ⟨.int i, by simp only [toD], by simp only [PyData.canLay0], by simp only [PyData.depth]; omega, by simp [PyData.eqv]⟩
  | .str x, h => ⟨.str x, by simp only [toD], by simp only [PyData.canLay0]; simpa only [okT] using h, by simp only [PyData.depth]; omega, by simp [PyData.eqv]⟩
  | .tup ts, h => by
    obtain ⟨ds, e1, e2, e3, e4⟩ := ok_toDs ts (by simpa only [okT] using h)
    exact ⟨.tuple ds, by simp only [toD, e1, Option.map_some], by simpa only [PyData.canLay0] using e2, by simp only [PyData.depth, dqT]; omega, by simpa only [PyData.eqv] using e4⟩
  | .fl ts, h => by
    obtain ⟨ds, e1, e2, e3, e4⟩ := ok_toDs ts (by simpa only [okT] using h)
    exact ⟨.list ds, by simp only [toD, e1, Option.map_some], by simpa only [PyData.canLay0] using e2, by simp only [PyData.depth, dqT]; omega, by simpa only [PyData.eqv] using e4⟩
  | .pt ts, h => by
    obtain ⟨ds, e1, e2, e3, e4⟩ := ok_toDs ts (by simpa only [okT] using h)
    exact ⟨.tuple ds, by simp only [toD, e1, Option.map_some], by simpa only [PyData.canLay0] using e2, by simp only [PyData.depth, dqT]; omega, by simpa only [PyData.eqv] using e4⟩
  | .ref _, h => by simp [okT] at h
theorem ok_toDs : ∀ ts : List T, okTs ts = true → ∃ ds, toDs ts = some ds ∧ PyData.canLayAll0 ds = true ∧ PyData.depthAll ds ≤ dqTs ts + 1 ∧ PyData.eqvAll ds ds = true
  | [], _ => ⟨[], by simp only [toDs], by simp only [PyData.canLayAll0], by simp only [PyData.depthAll]; omega, by simp [PyData.eqvAll]⟩
  | t :: ts, h => by
    simp only [okTs, Bool.and_eq_true] at h
    obtain ⟨d, e1, e2, e3, e4⟩ := ok_toD t h.1
    obtain ⟨ds, g1, g2, g3, g4⟩ := ok_toDs ts h.2
    exact ⟨d :: ds, by simp only [toDs, e1, g1], by simp only [PyData.canLayAll0, e2, g2, Bool.and_self], by simp only [PyData.depthAll, dqTs]; omega, by simp only [PyData.eqvAll, e4, g4, Bool.and_self]⟩
end
theorem rEq_okS {neg : Bool} {x y : T} {S : Sta} {Q : T → Sta → Prop} {z : T} (ex : see S x = z) (ey : see S y = z) (hz : okT z = true) (dz : dqT z ≤ 60) (h : Q (.bl (!neg)) S) : rEq neg x y S Q := by
  obtain ⟨d, a1, a2, a3, a4⟩ := ok_toD _ hz
  have sh : SeqAt.shaped d = true := by unfold SeqAt.shaped; rw [a2, Bool.true_and]; exact decide_eq_true (by omega)
  refine ⟨d, by rw [dd_see, ex]; exact a1, d, by rw [dd_see, ey]; exact a1, sh, sh, ?_⟩
  rw [a4]
  cases neg <;> exact h
theorem rEq2_okS {neg : Bool} {x y : T} {S : Sta} {Q : T → Sta → Prop} {z : T} (ex : see2 S x = z) (ey : see2 S y = z) (hz : okT z = true) (dz : dqT z ≤ 60) (h : Q (.bl (!neg)) S) : rEq2 neg x y S Q := by
  obtain ⟨d, a1, a2, a3, a4⟩ := ok_toD _ hz
  have sh : SeqAt.shaped d = true := by unfold SeqAt.shaped; rw [a2, Bool.true_and]; exact decide_eq_true (by omega)
  refine ⟨d, by rw [ex]; exact a1, d, by rw [ey]; exact a1, sh, sh, ?_⟩
  rw [a4]
  cases neg <;> exact h
/-! range with a step -/
def rangeC (lo c : Int) (n : Nat) : List T := (List.range n).map fun (i : Nat) => T.int (lo + (i : Int) * c)
theorem rangeC_yields {K : PySem.W.Frag} {H : Hp} (lo c : Int) (n : Nat) : Yields K (rangeC lo c n) (fun _ => True) H (Itc lo c n) := fun i S H1 e1 s1 _ => by
  have hl : (rangeC lo c n).length = n := by unfold rangeC; rw [List.length_map, List.length_range]
  refine ⟨fun hi => by rw [hl] at hi; exact hi, fun hi => by rw [hl] at hi; exact hi, fun x H' y hi => ?_⟩
  obtain ⟨eH, ex⟩ := y
  subst eH ex
  rw [hl] at hi
  refine ⟨Ext.refl _, s1, fun _ _ q => q, .int (lo + (i : Int) * c), ?_, .int _⟩
  unfold rangeC
  rw [List.getElem?_map, List.getElem?_range hi]
  rfl
def iRg3 (ta : WA) (σ : Sl) (S : Sta) (R : List T → (Sta → Prop) → Sta → Prop) : Prop := ta σ S fun xs S1 => match xs with
  | [.int i, .int j, .int c] => (0 ≤ i ∧ i < j ∧ j < 2 ^ 30 ∧ 0 < c ∧ c < 2 ^ 30) ∧ R (rangeC i c ((j - i - 1) / c + 1).toNat) (fun _ => True) S1
  | _ => False
theorem rgC_of {i j c : Int} (h : 0 ≤ i ∧ i < j ∧ j < 2 ^ 30 ∧ 0 < c ∧ c < 2 ^ 30) : RgC i j c ((j - i - 1) / c + 1).toNat := by
  obtain ⟨h0, h1, h2, h3, h4⟩ := h
  have e : Builtin.Range.rangeSize i j c = (j - i - 1) / c + 1 := by
    unfold Builtin.Range.rangeSize
    rw [if_pos h3, if_pos h1]
  have d0 : 0 ≤ (j - i - 1) / c := Int.ediv_nonneg (by omega) (by omega)
  have d1 : (j - i - 1) / c ≤ j - i - 1 := Int.ediv_le_self _ (by omega)
  refine ⟨by omega, by omega, ?_, by rw [e]; omega⟩
  unfold Builtin.Range.small
  rw [e, if_pos h3]
  simp only [Builtin.Range.rangeFitsLong, Bool.and_eq_true, Bool.or_eq_true, decide_eq_true_eq, beq_iff_eq]
  omega
theorem ji_rg3 {B : Hp} {X : Cx} {tg a b c : Expr} {ta : WA} {p pos : Pos} (hg : Gl X "range") (hm : X.mg "range" = none) (ha : JA B X [a, b, c] ta) (hs : starEach [a, b, c] X.env = (false, eval a X.env) :: starEach [b, c] X.env := by rfl) (hs2 : ((backTo pos (starEach [b, c] X.env)).any fun x => x.fst) = false := by rfl) : JI B X tg (.Call (.Name "range" p) [a, b, c] [] pos) (iRg3 ta) :=
  pi_imp (pi_range3 hg hm ha hs hs2) fun σ H R ⟨st, S, Q0, he, hr, hs, h, im⟩ => by
    refine ⟨st, S, _, he, hr, hs, h, fun xs S1 h1 H1 v1 e1 s1 r1 => ?_⟩
    match xs, h1 with
    | [.int i, .int j, .int c], h1 =>
      cases r1 with
      | cons a1 r1 =>
      cases r1 with
      | cons a2 r1 =>
      cases r1 with
      | cons a3 r1 =>
      cases r1
      cases a1
      cases a2
      cases a3
      exact ⟨i, j, c, _, rfl, rgC_of h1.1, im _ _ _ h1.2 H1 e1 s1 _ (rangeC_yields i c _)⟩
/-! x += y over whole numbers -/
def rAddI (x y : T) (S : Sta) (Q : T → Sta → Prop) : Prop := match x, y with
  | .int i, .int j => Q (.int (i + j)) S
  | _, _ => False
theorem io_add {X : Cx} : OpT X (inplaceOp .Add) rAddI := by
  intro pins s σ H x y v u Q I rx ry ⟨a, b, S, Q0, ra, rb, hs, q, im⟩
  match a, b, q with
  | .int i, .int j, q =>
    cases ra
    cases rb
    exact iop_add pins s σ H _ _ v u Q I rx ry ⟨i, j, rfl, rfl, im _ _ q H _ (Ext.refl H) hs (.int _)⟩
/-! xs.extend(t) of a tuple -/
theorem mt_extT {X : Cx} : MtR X "list.extend" (fun x vs H Q => ∃ (l b : Addr) (xs zs : List V), x = .ref l ∧ vs = [.ref b] ∧ H l = some (.lst xs) ∧ SqT X.K H b zs ∧ xs.length + zs.length ≤ sizeLine ∧ Q .non (upd H l (.lst (xs ++ zs)))) := fun pins s σ H x vs v us Q I rx rxs ⟨l, b, xs, zs, ex, evs, hl, hb, hz, q⟩ => by
  subst ex evs
  obtain rfl : v = Value.ref l := rx
  obtain rfl := Vals.ref1 rxs
  obtain ⟨_, its, n, vals, len, lay⟩ := I.lstM hl
  obtain ⟨its2, vals2, ⟨o2, ho2, cls2, n2, dat2⟩, _⟩ := I.tuple hb
  have l1 := vals.length
  have l2 := vals2.length
  refine wpAny_call_entry PySem.F.slot_list_extend ⟨_, lay, rfl⟩ PySem.F.entry_list_extend ?_ (PySem.F.args_list_extend_2 _ _)
  unfold Builtin.«list.extend» selfAndOne
  refine wpAny_bind ?_
  refine wpAny_pure ?_
  show wpAny _ _ (Builtin.List.listExtendWith (.ref l) (.ref b) .none) _ _ _
  unfold Builtin.List.listExtendWith
  refine wpAny_bind ?_
  refine wpAny_typeOf (T := "tuple") ⟨o2, ho2, cls2⟩ ?_
  rw [if_pos (by simp)]
  refine wpAny_bind ?_
  refine listItems_at ho2 dat2 ?_
  refine wpAny_bind ?_
  refine listItems_at lay rfl ?_
  rw [if_neg (extend_door (by simp; omega))]
  refine wpAny_bind ?_
  refine listUpdate_at lay rfl ?_ (by simp; omega) (by simp; omega)
  refine wpAny_pure ?_
  refine ⟨.none, rfl, .non, upd H l (.lst (xs ++ zs)), ?_, rfl, q⟩
  refine I.lstUpd (its' := its ++ its2) (n' := if its2 = [] then n else n + 1) hl lay ?_ (Vals.append vals vals2) (by rw [List.length_append]; exact hz) _
  by_cases e0 : its2 = []
  · simp [Obj.mapSeq, e0]
  · simp [Obj.mapSeq, e0]
def rExtT (x : Wp.T) (ts : List Wp.T) (S : Sta) (Q : Wp.T → Sta → Prop) : Prop := match x, ts with
  | .ref p, [.tup ys] => ∃ xs, S p = some (.lst xs) ∧ xs.length + ys.length ≤ sizeLine ∧ Q .non (upS S p (.lst (xs ++ ys)))
  | _, _ => False
theorem m_extT {X : Cx} : MtR X "list.extend" (LM X.K rExtT) := by
  intro pins s σ H x xs v us Q I rx rxs ⟨t, ts, S, Q0, rt, rts, hs, q, im⟩
  match t, ts, q with
  | .ref p, [.tup ws], ⟨zs, e, hl, q⟩ =>
    cases rt
    obtain ⟨w, rfl, rw'⟩ := rts.one
    cases rw' with
    | tup h1 h2 =>
      obtain ⟨ys, g1, g2⟩ := hs p _ e
      obtain ⟨e2, s2⟩ := hs.setL g1 (Reps.append g2 h2)
      exact mt_extT pins s σ H _ _ v us Q I rx rxs ⟨p, _, ys, _, rfl, rfl, g1, sqT_of h1, by rw [← g2.length, ← h2.length]; exact hl, im _ _ q _ _ e2 s2 .non⟩
/-! the truth of a whole number -/
def wTestI (t : WE) (σ : Sl) (S : Sta) (Q : Bool → Sta → Prop) : Prop := t σ S fun x S1 => match x with
  | .bl c => Q c S1
  | .int i => Q (i != 0) S1
  | _ => False
theorem jt_valI {B : Hp} {X : Cx} {e : Expr} {t : WE} (h : JE B X e t) (he : ∀ whole, isTrue e X.env whole = (do let v ← whole; standAt e.pos; holding [v] (truthy v)) := by intro _; rfl) : JT B X e (wTestI t) :=
  pt_imp (pt_truth h he) fun σ H Q ⟨st, S, Q0, he, hr, hs, h, im⟩ => by
    refine ⟨st, S, _, he, hr, hs, h, fun x S1 h1 H1 v e1 s1 r1 => ?_⟩
    cases x with
    | bl c =>
      cases r1
      exact ⟨c, rfl, im _ _ h1 H1 e1 s1⟩
    | int i =>
      cases r1
      exact ⟨i != 0, rfl, im _ _ h1 H1 e1 s1⟩
    | _ => exact h1.elim
end Wp

set_option Elab.async false
set_option linter.all false
set_option maxRecDepth 100000
set_option maxHeartbeats 4000000
/-! x in a list of data of any depth -/
namespace Wp
open PySem PySem.Spec PyProof.Rows L2
theorem hu65 {k : Nat} {A : Around} (h : Room k A) : A.units + 65 < cLine := by have := h.un; omega
section
variable {X : Cx}
def rInDt (neg : Bool) (x : T) (y : T) (S : Sta) (Q : T → Sta → Prop) : Prop := ∃ d ds, toD (see S x) = some d ∧ toD (see S y) = some (.list ds) ∧ SeqAt.shaped d = true ∧ SeqAt.shaped (.list ds) = true ∧ Q (.bl (neg != ds.any fun z => PyData.eqv z d)) S
theorem o_inDt (hu : X.A.units + 65 < cLine) : OpT X (compareOp .In) (rInDt false) := by
  intro pins s σ H x y v u Q I rx ry ⟨a, b, S, Q0, ra, rb, hs, ⟨d, ds, h1, h2, h3, h4, q⟩, im⟩
  refine op_inD hu pins s σ H _ _ v u Q I rx ry ⟨d, ds, dd_dp hs ra (by rw [dd_see]; exact h1), dd_dp hs rb (by rw [dd_see]; exact h2), h3, h4, ?_⟩
  rw [Bool.false_bne] at q
  exact im _ _ q H _ (Ext.refl H) hs (.bl _)
theorem o_notInDt (hu : X.A.units + 65 < cLine) : OpT X (compareOp .NotIn) (rInDt true) := by
  intro pins s σ H x y v u Q I rx ry ⟨a, b, S, Q0, ra, rb, hs, ⟨d, ds, h1, h2, h3, h4, q⟩, im⟩
  refine op_notInD hu pins s σ H _ _ v u Q I rx ry ⟨d, ds, dd_dp hs ra (by rw [dd_see]; exact h1), dd_dp hs rb (by rw [dd_see]; exact h2), h3, h4, ?_⟩
  rw [Bool.true_bne] at q
  exact im _ _ q H _ (Ext.refl H) hs (.bl _)
end
/-- whether it is there or not -/
theorem rInDt_any {neg : Bool} {x y : T} {ts : List T} {S : Sta} {Q : T → Sta → Prop} (ey : see S y = .fl ts) (hx : okT (see S x) = true) (hy : okTs ts = true) (dx : dqT (see S x) ≤ 50) (dy : dqTs ts ≤ 50) (h : ∀ b, Q (.bl b) S) : rInDt neg x y S Q := by
  obtain ⟨d, a1, a2, a3, a4⟩ := ok_toD _ hx
  obtain ⟨ds, b1, b2, b3, b4⟩ := ok_toDs _ hy
  refine ⟨d, ds, a1, by rw [ey]; simp only [toD, b1, Option.map_some], ?_, ?_, h _⟩
  · unfold SeqAt.shaped; rw [a2, Bool.true_and]; exact decide_eq_true (by omega)
  · unfold SeqAt.shaped
    rw [show (PyData.list ds).canLay0 = true by simp only [PyData.canLay0]; exact b2, Bool.true_and]
    refine decide_eq_true ?_
    simp only [PyData.depth]
    omega
end Wp

set_option Elab.async false
set_option linter.all false
set_option maxRecDepth 100000
set_option maxHeartbeats 4000000
/-! sorted(d) of a dict of whole numbers, of any size -/
namespace Wp
open PySem PySem.Calls PySem.Spec PyProof.Rows L2
theorem ints_of : ∀ (us : List Value) (ks : List Int), us.length = ks.length → (∀ (j : Nat) v, us[j]? = some v → ∃ i t, ks[j]? = some i ∧ v = Value.int i t) → IntsAre us ks
  | [], [], _, _ => .nil
  | [], _ :: _, h, _ => by simp at h
  | _ :: _, [], h, _ => by simp at h
  | u :: us, k :: ks, h, g => by
    obtain ⟨i, t, a, rfl⟩ := g 0 u rfl
    obtain rfl : k = i := Option.some.inj a
    exact .cons k t (ints_of us ks (Nat.succ.inj h) fun j v e => g (j + 1) v e)
/-- what was collected: the keys -/
theorem keys_ints {P : Program} {w : World} {acc : Array Value} {vs : List (Key × Value)} {ks : List Int} (h : vs.map (·.1) = ks.map Sum.inl) (it : ItemsOf (fun i v => ∃ k x, vs[i]? = some (k, x) ∧ (mixKind P w).is k v = true) acc vs.length) : IntsAre acc.toList ks := by
  have lk : vs.length = ks.length := by have := congrArg List.length h; rwa [List.length_map, List.length_map] at this
  refine ints_of _ _ (by rw [Array.length_toList, it.1, lk]) fun j v e => ?_
  obtain ⟨k, x, e1, e2⟩ := it.2 j v (by rw [← Array.getElem?_toList]; exact e)
  have e3 : (vs.map (·.1))[j]? = some k := by rw [List.getElem?_map, e1]; rfl
  rw [h, List.getElem?_map] at e3
  cases hk : ks[j]? with
  | none => rw [hk] at e3; cases e3
  | some i =>
    rw [hk] at e3
    obtain rfl : Sum.inl i = k := Option.some.inj e3
    rcases keyIs_shape (k := Sum.inl i) e2 with ⟨i', t, a1, a2⟩ | ⟨x, t, a1, a2⟩
    · exact ⟨i, t, rfl, by rw [a2, Sum.inl.inj a1]⟩
    · exact nomatch a1
/-- the items of a source, gathered into a heap that has grown -/
theorem gather {prog : Program} {w : World} {A : Around} {E : Value → Shared → Prop} {s : Shared} {T : String} {r d : Addr} {n : Nat} {P : Nat → Value → Prop} {OK : Heap → Prop} {R : List Value → Shared → Prop}
    (K : W.KdlSrc prog w T r d n P OK) (hh : A.handled = none) (hok : OK s.heap) (few : n ≤ sizeLine)
    (h : ∀ (g : Heap) (tk : Nat) (acc : Array Value), (∀ b o, s.heap.get? b = some o → g.get? b = some o) → s.heap.objs.size < g.objs.size → ItemsOf P acc n → R acc.toList { s with heap := g, toks := tk }) :
    wpAny (model prog w) A (collect (.ref r)) R E s := by
  let D := fun (q : Result) (s' : Shared) => ∃ (g : Heap) (tk : Nat) (acc : Array Value) (c : Nat), q = .ok (.ret (.ref s.heap.objs.size)) ∧ s' = { s with heap := g, toks := tk } ∧
    (∀ b o, s.heap.get? b = some o → g.get? b = some o) ∧ g.get? s.heap.objs.size = some { cls := .type "list", dict := none, data := .seq acc c, slots := #[] } ∧ ItemsOf P acc n
  have mid := W.kdl_extend (A := A) (s := { s with heap := s.heap.push { cls := .type "list", data := .seq ([] : List Value).toArray } }) (R := D)
    K hh (K.keep _ _ hok fun b _ o e => Heap.get?_push_of_some _ e) s.heap.objs.size (Nat.ne_of_gt (K.there _ hok).1) (Nat.ne_of_gt (K.there _ hok).2) (.ref s.heap.objs.size) 0 (Heap.get?_push_size _ rfl)
    (fun g tk acc c old at' it => ⟨g, tk, acc, c, rfl, rfl, fun b o e => old b o (Nat.ne_of_lt (Heap.lt_size e)) (Heap.get?_push_of_some _ e), at', it⟩) few
  have out : ∀ (g : Heap) (tk : Nat) (acc : Array Value) (c : Nat), (∀ b o, s.heap.get? b = some o → g.get? b = some o) → g.get? s.heap.objs.size = some { cls := .type "list", dict := none, data := .seq acc c, slots := #[] } → ItemsOf P acc n → R acc.toList { s with heap := g, toks := tk } :=
    fun g tk acc c old at' it => h g tk acc old (Heap.lt_size at') it
  unfold collect
  refine wpAny_bind (wpAny_runValue (codeAny_builtin entry_proto_collect' ?_))
  rw [Around.under_plainId PySem.F.plain_proto_collect _]
  refine wpAny_bind (wpAny_newObj_type (wpAny_pure ⟨plainId_quiet PySem.F.plain_list_iadd _, codeAny_builtin entry_list_iadd' ?_⟩))
  rw [Around.under_plainId PySem.F.plain_list_iadd _]
  refine wpAny_mono mid (fun f s' x => ?_) fun e s' x => ?_
  · cases f with
    | done f =>
      obtain ⟨g, tk, acc, c, e, rfl, old, at', it⟩ := x
      cases e
      exact wpAny_bind (wpAny_load at' (wpAny_pure (out g tk acc c old at' it)))
    | again c =>
      refine ⟨x.1, codeAny_mono x.2 fun q s₂ y => ?_⟩
      obtain ⟨g, tk, acc, c, rfl, rfl, old, at', it⟩ := y
      exact wpAny_bind (wpAny_load at' (wpAny_pure (out g tk acc c old at' it)))
  · obtain ⟨_, _, _, _, e', _⟩ := x
    cases e'
theorem c_sortDK {X : Cx} (hc : X.calm = true) : CallR X (.builtin "sorted") (fun us H Q => ∃ (a : Addr) (ks : List Int) (xs : List (Key × V)), us = [.ref a] ∧ Rd H a (.dK xs) ∧ xs.map (·.1) = ks.map Sum.inl ∧ ∀ (ys : List Int) (p : Addr), ys.Perm ks → ys.Pairwise (· ≤ ·) → H p = none → Q (.ref p) (upd H p (.lst (ys.map V.int)))) := fun pins s σ H us vs' Q I r ⟨a, ks, xs, ex, ha, ek, q⟩ => by
  subst ex
  obtain rfl := Vals.ref1 r
  obtain ⟨short, top, vs, rel, o, es, ep, ho, hx, hdat, hk, hP, nd⟩ := dk_rd I.hok ha
  have ev : vs.map (·.1) = ks.map Sum.inl := by rw [← ek]; exact (KV.keys rel).symm
  have lv : vs.length = xs.length := by have := congrArg List.length (KV.keys rel); rw [List.length_map, List.length_map] at this; exact this.symm
  have lk : ks.length = xs.length := by have := congrArg List.length ek; rw [List.length_map, List.length_map] at this; exact this.symm
  refine Calls.call_function_entry (id := "sorted") rfl rfl PyProof.Rows.entry_sorted (by rfl) ?_
  unfold Builtin.sorted
  refine wpAny_bind ?_
  show wpAny _ _ (pure ()) _ _ _
  refine wpAny_pure ?_
  refine wpAny_bind ?_
  refine gather (W.kdl_dict (kvs := vs) (ep := ep) top) (I.ok.hd hc) ⟨o, es, ho, hx, hdat, hk, hP, nd⟩ (by omega) fun h1 tk acc keep big items => ?_
  have ia := keys_ints ev items
  have la : acc.toList.length ≤ sizeLine := by rw [Array.length_toList, items.1]; omega
  have grow1 : s.heap.objs.size ≤ h1.objs.size := Nat.le_of_lt big
  refine wpAny_bind ?_
  refine wpAny_newList ?_ la
  have below : ∀ {b : Addr} {o : Obj}, h1.get? b = some o → b ≠ h1.objs.size := fun q => Nat.ne_of_lt (Heap.lt_size q)
  obtain ⟨h2, e2⟩ : ∃ h2, h1.push { cls := .type "list", data := .seq acc.toList.toArray } = h2 := ⟨_, rfl⟩
  have lay : h2.get? h1.objs.size = some (seqObj "list" acc.toList.toArray 0) := by rw [← e2]; exact Heap.get?_push_size _ rfl
  have grown : ∀ {b : Addr} {o : Obj}, h1.get? b = some o → h2.get? b = some o := fun q => by rw [← e2]; exact Heap.get?_push_of_some _ q
  show wpAny _ _ _ _ _ { s with heap := h1.push { cls := .type "list", data := .seq acc.toList.toArray }, toks := tk }
  rw [e2]
  refine wpAny_bind (wpAny_holding ?_)
  refine wpAny_call_entry PyProof.Rows.slot_list_sort ⟨_, lay, rfl⟩ PyProof.Rows.entry_list_sort
    (SrtO.list_sort_ord (s := { s with heap := h2, toks := tk }) SrtO.swo_int lay la (fun two => SrtO.ints_sortable ia two) fun out srt stb => ⟨.none, rfl, ?_⟩) (PyProof.Rows.args_list_sort _)
  obtain ⟨k1, k2, k3⟩ := SrtO.ints_out ia srt stb
  obtain ⟨c, he'⟩ := PyProof.Rows.sortedHeap_at (vs := acc.toList) (out := out.toArray) lay
  have kept : ∀ {b : Addr} {o : Obj}, h1.get? b = some o → (sortedHeap h2 h1.objs.size acc.toList out.toArray).get? b = some o := fun q => (PyProof.Rows.sortedHeap_old (below q) (Heap.lt_size (grown q))).trans (grown q)
  have hlen : ((out.map SrtO.iv).map V.int).length ≤ sizeLine := by
    rw [List.length_map, k2.length_eq]
    omega
  refine wpAny_pure ?_
  exact ⟨.ref _, rfl, .ref _, upd H h1.objs.size (.lst ((out.map SrtO.iv).map V.int)), I.laid (t' := tk) (fun b o q => kept (keep b o q)) grow1 ⟨hlen, out, c, vals_of_ints k1, he'⟩, rfl, q _ _ k2 k3 (I.hok.fresh grow1)⟩
/-- sorted(d), keys that are ints, any number of them -/
def rSortDA (xs : List T) (S : Sta) (Q : T → Sta → Prop) : Prop := match xs with
  | [.ref p] => ∃ (kvs : List (Key × T)) (ks : List Int), S p = some (.dct kvs) ∧ kvs.map (·.1) = ks.map Sum.inl ∧ ∀ (ys : List Int) (q : Addr), ys.Perm ks → ys.Pairwise (· ≤ ·) → S q = none → Q (.ref q) (upS S q (.lst (ys.map T.int)))
  | _ => False
theorem c_sortDA {X : Cx} (hc : X.calm = true) : CallR X (.builtin "sorted") (LC X.K rSortDA) := by
  intro pins s σ H xs us Q I rx ⟨ts, S, Q0, r, hs, q, im⟩
  match ts, q with
  | [.ref p], ⟨kvs, ks, e, ek, q⟩ =>
    obtain ⟨v, rfl, r1⟩ := r.one
    cases r1
    obtain ⟨vs, g1, g2⟩ := hs p _ e
    refine c_sortDK hc pins s σ H _ us Q I rx ⟨p, ks, vs, rfl, .inl g1, by rw [← g2.keys]; exact ek, fun ys l h1 h2 h3 => ?_⟩
    obtain ⟨e3, s3⟩ := hs.newL h3 (Reps.ints (K := X.K) ys)
    exact im _ _ (q ys l h1 h2 (hs.free h3)) _ _ e3 s3 (.ref l)
end Wp

set_option Elab.async false
set_option linter.all false
set_option maxRecDepth 100000
set_option maxHeartbeats 4000000
/-! errors that are meant: own classes, raised, let through by calls, caught -/
namespace Wp
open PySem PySem.Spec PyProof.Rows L2
/-- what is wished where an error comes up: its class, the slots there, the state -/
abbrev EW := Addr → Sl → Sta → Prop
def xOf (K : PySem.W.Frag) (B : Hp) (E : EW) : WX := fun cls d σ H => ∃ C st S, cls = .ref C ∧ d = none ∧ Ext B H ∧ SlR K H st σ ∧ St K S H ∧ E C st S
section
variable {X : Cx} {k : Nat} {f C : Addr} {fd : FuncData} {ps : List Str} {sp : Sp} {E : L2.St → XK} {x m : Str} {p pos apos : Pos} {e o : Expr} {es : List Expr} {ta : TE} {t : TA} {CX : CXT}
def uMeth (C : Addr) (m : Str) (sp : Sp) (E : L2.St → XK) (ta : TE) (t : TA) : TE := fun σ H Q => ta σ H fun x H1 =>
  ∃ a dx fs, x = .ref a ∧ H1 a = some (.ins C dx fs) ∧ fs.lookup m = none ∧ t σ H1 fun vs H2 => sp (x :: vs) H2 Q (E σ)
theorem pe_um {pl : Sem Bool} (ho : PE X o ta) (c : Cls X.K C) (hm : Meth X.K C m f) (F : FnOk X.prog X.w X.K X.mg X.base CX k f fd ps sp) (hr : Room k X.A) (hb : Binds X.K fd ps [])
    (hx : ∀ σ, PassesAt CX X σ (E σ)) (ha : PA X (e :: es) t) (hst : starEach (e :: es) X.env = (false, eval e X.env) :: starEach es X.env := by rfl) (hpl : (backTo pos (starEach es X.env)).any (·.1) = false := by rfl)
    (ht : eval (.Call (.Attribute o m apos) (e :: es) [] pos) X.env = (do
      let v ← eval o X.env
      standAt apos.atName
      let (g, one) ← holding [v] (getMethod v m pl)
      callWith pos g one (backTo pos (starEach (e :: es) X.env)) (backToKw pos (keywordEach [] X.env))) := by rfl) :
    PE X (.Call (.Attribute o m apos) (e :: es) [] pos) (uMeth C m sp E ta t) := ⟨fun pins s σ H Q I h => by
  refine PySem.W.methodCall_KW (pl := pl) (thn (ho.run pins s σ H _ I h) fun u s1 ⟨y, H1, I1, ry, a, dx, fs, ey, ea, l, q⟩ => ?_) ht
  subst ey
  obtain rfl : u = Value.ref a := ry
  refine getmeth_ok I1 ea c hm l ?_
  refine PySem.W.callWith_K (first := [.ref a]) (h₀ := X.base) I.ok.mod.kin hm.kp (thn (ha.run pos pins s1 σ H1 _ I1 q) fun us s2 ⟨vs, H2, I2, r, q2⟩ => ⟨I2.kIn, ?_⟩) hst hpl
  exact run_fnS (us := .ref a :: us) (vs := .ref a :: vs) F hr hb (hx σ) I2 (.cons rfl r) q2⟩
theorem pe_um0 {pl : Sem Bool} (ho : PE X o ta) (c : Cls X.K C) (hm : Meth X.K C m f) (F : FnOk X.prog X.w X.K X.mg X.base CX k f fd ps sp) (hr : Room k X.A) (hb : Binds X.K fd ps [])
    (hx : ∀ σ, PassesAt CX X σ (E σ))
    (ht : eval (.Call (.Attribute o m apos) [] [] pos) X.env = (do
      let v ← eval o X.env
      standAt apos.atName
      let (g, one) ← holding [v] (getMethod v m pl)
      callWith pos g one (backTo pos (starEach [] X.env)) (backToKw pos (keywordEach [] X.env))) := by rfl) :
    PE X (.Call (.Attribute o m apos) [] [] pos) (uMeth C m sp E ta tNil) := ⟨fun pins s σ H Q I h => by
  refine PySem.W.methodCall_KW (pl := pl) (thn (ho.run pins s σ H _ I h) fun u s1 ⟨y, H1, I1, ry, a, dx, fs, ey, ea, l, q⟩ => ?_) ht
  subst ey
  obtain rfl : u = Value.ref a := ry
  refine getmeth_ok I1 ea c hm l ?_
  exact PySem.W.callWith_K0 (first := [.ref a]) I1.kIn hm.kp (run_fnS (us := [.ref a]) (vs := [.ref a]) F hr hb (hx σ) I1 (.cons rfl .nil) q)⟩
/-- X(): an own error without a text -/
theorem pmk_bare {bmB : List Value} {B newId initId : String} (F : ExcBaseFacts B newId initId bmB) (q : PySem.W.excIn X.K C bmB newId = true) (gC : X.mg x = some (.ref C)) (kC : PySem.W.keepIn X.K (.ref C) = true) (r : Raises X (.ref C)) (hg : Gl X x)
    (hdb : (x == ("__debug__" : Str)) = false := by decide) : PMk X (.Call (.Name x p) [] [] pos) (fun _ H Q => Q (.ref C) none H) := by
  intro pins s σ H Q I h
  refine wpAny_Call_Name_kw (ld_glob I hg gC ?_ hdb)
  refine PySem.W.callWith_K0 I.kIn kC ?_
  show wpAny _ _ (call (.ref C) []) _ _ _
  obtain ⟨bm, N, nm, qn, bs, hdct, sn, sub, ab, col, dd, k0, k1, k2, k3, k5, mN, hC, hN, hni, T⟩ := exc_obj I.kIn q
  refine wpAny_call_exc_subT F T hC hN hni (fun h' e hm => ?_) (by show 0 ≤ sizeLine; omega)
  exact mk_of I hm r h (I.hok.gone hm.new)
end
/-! ### the readings -/
def wCallX (E : EW) (n : Nat) (w : WSp) (t : WA) (σ : Sl) (S : Sta) (Q : T → Sta → Prop) : Prop := t σ S fun ts S1 => ts.length = n ∧ w ts S1 Q fun C S2 => E C σ S2
def wMethX (E : EW) (C : Addr) (m : Str) (n : Nat) (w : WSp) (to : WE) (t : WA) (σ : Sl) (S : Sta) (Q : T → Sta → Prop) : Prop := to σ S fun x S1 => match x with
  | .ref p => ∃ fs, S1 p = some (.ins C fs) ∧ fs.lookup m = none ∧ t σ S1 fun ts S2 => ts.length + 1 = n ∧ w (.ref p :: ts) S2 Q fun C S2 => E C σ S2
  | _ => False
def wRaise (E : EW) (C : Addr) (D : WEnds) (σ : Sl) (S : Sta) : Prop := E C σ S
/-- try: t, except C0: u -/
def wTry (C0 : Addr) (t : EW → WS) (u : WS) (D : WEnds) (σ : Sl) (S : Sta) : Prop := t (fun C st S' => C = C0 ∧ u D st S') D σ S
def CalX (P : Program) (w : World) (K : PySem.W.Frag) (mg : Str → Option Value) (base : Heap) (tl : List Addr) (k : Nat) (x : Str) (ps : List Str) (s : WSp) : Prop :=
  ∃ f fd, FnOk P w K mg base (L2.CX P w) k f fd ps (Lsp tl K ps.length s) ∧ mg x = some (.ref f) ∧ PySem.W.keepIn K (.ref f) = true ∧ Binds K fd ps []
def CalMX (P : Program) (w : World) (K : PySem.W.Frag) (mg : Str → Option Value) (base : Heap) (tl : List Addr) (k : Nat) (C : Addr) (m : Str) (ps : List Str) (s : WSp) : Prop :=
  ∃ f fd, FnOk P w K mg base (L2.CX P w) k f fd ps (Lsp tl K ps.length s) ∧ Meth K C m f ∧ Binds K fd ps []
section
variable {P : Program} {w : World} {K : PySem.W.Frag} {mg : Str → Option Value} {base : Heap} {k j : Nat} {C : Addr} {m x qual : Str} {st : Stmt} {ps : List Str} {s : WSp} {tl : List Addr}
theorem CalX.mono (c : CalX P w K mg base tl j x ps s) (h : j ≤ k) : CalX P w K mg base tl k x ps s := by
  obtain ⟨f, fd, F, m, kp, b⟩ := c
  exact ⟨f, fd, F.mono h, m, kp, b⟩
theorem CalMX.mono (c : CalMX P w K mg base tl j C m ps s) (h : j ≤ k) : CalMX P w K mg base tl k C m ps s := by
  obtain ⟨f, fd, F, m, b⟩ := c
  exact ⟨f, fd, F.mono h, m, b⟩
theorem DefT.calX (D : DefT K mg x st ps) (h : ∀ f fd, Fun K x x st f fd → FnOk P w K mg base (L2.CX P w) k f fd ps (Lsp tl K ps.length s)) : CalX P w K mg base tl k x ps s := by
  obtain ⟨f, fd, F, m, b⟩ := D
  exact ⟨f, fd, h f fd F, m, F.kp, b⟩
theorem DefM.calX (D : DefM K C m qual st ps) (h : ∀ f fd, Fun K m qual st f fd → FnOk P w K mg base (L2.CX P w) k f fd ps (Lsp tl K ps.length s)) : CalMX P w K mg base tl k C m ps s := by
  obtain ⟨f, fd, F, m, b⟩ := D
  exact ⟨f, fd, h f fd F, m, b⟩
end
/-- an own error class, as the top has left it -/
structure ErrC (K : PySem.W.Frag) (mg : Str → Option Value) (x : Str) (C : Addr) : Prop where
  g : mg x = some (.ref C)
  x : PySem.W.excIn K C [.type "ValueError", .type "Exception", .type "BaseException", .type "object"] "ValueError.__new__" = true
  k : PySem.W.keepIn K (.ref C) = true
  b : PySem.W.subIn K (.ref C) (.type "BaseException") = some true
  t : PySem.W.typeIn K (.ref C) = some (.type "type")
  s : PySem.W.exmOne K (.ref C) (.ref C) = some true
theorem exm_own {K : PySem.W.Frag} {C : Addr} (b : PySem.W.subIn K (.ref C) (.type "BaseException") = some true) (i : PySem.W.isClsIn K C = true) (t : PySem.W.typeIn K (.ref C) = some (.type "type")) (s : PySem.W.subIn K (.ref C) (.ref C) = some true) :
    PySem.W.exmOne K (.ref C) (.ref C) = some true := by
  have i : (PySem.W.clsIn K C).isSome = true := i
  have b' : (PySem.W.subIn K (.ref C) (.type "BaseException") == some true) = true := by rw [b]; rfl
  have i' : ((PySem.W.clsIn K C).isSome && PySem.W.typeIn K (.ref C) == some (.type "type")) = true := by rw [i, t]; rfl
  unfold PySem.W.exmOne PySem.W.kitCls
  rw [if_pos b']
  exact (if_pos i').trans s
section
variable {B : Hp} {X : Cx} {C : Addr} {m x : Str} {o e : Expr} {es : List Expr} {to : WE} {t : WA} {p pos pos' np apos : Pos} {k : Nat} {ps : List Str} {s : WSp} {tl : List Addr} {E : EW}
theorem j_callX (c : CalX X.prog X.w X.K X.mg X.base tl k x ps s) (tk : Takes X (xOf X.K B E)) (ht : ∀ P ∈ tl, GxR.TabG B P) (hr : Room k X.A) (hg : Gl X x) (ha : JA B X (e :: es) t) (hdb : (x == ("__debug__" : Str)) = false := by decide)
    (hst : starEach (e :: es) X.env = (false, eval e X.env) :: starEach es X.env := by rfl) (hpl : (backTo pos (starEach es X.env)).any (·.1) = false := by rfl) : JE B X (.Call (.Name x p) (e :: es) [] pos) (wCallX E ps.length s t) := by
  obtain ⟨f, fd, F, hm, kp, b⟩ := c
  refine pe_imp (pe_callS F hr hg hm kp b (fun σ => passAt tk σ) ha hdb hst hpl) fun σ H Q ⟨st, S, Q0, he, hr, hs, h, im⟩ => ?_
  refine ⟨st, S, _, he, hr, hs, h, fun xs S1 h1 H1 vs e1 s1 r1 => ?_⟩
  exact ⟨fun P hP => (he.trans e1).tabs P (ht P hP), xs, S1, Q0, _, h1.1, r1, s1, h1.2, fun z S2 q => fin_ext e1 (im z S2 q), fun C S' H' q e2 s2 => ⟨C, st, S', rfl, rfl, he.trans (e1.trans e2), hr.mono (e1.trans e2), s2, q⟩⟩
theorem j_methX (c : CalMX X.prog X.w X.K X.mg X.base tl k C m ps s) (cl : Cls X.K C) (tk : Takes X (xOf X.K B E)) (ht : ∀ P ∈ tl, GxR.TabG B P) (hr : Room k X.A) (ho : JE B X o to) (ha : JA B X (e :: es) t)
    (hst : starEach (e :: es) X.env = (false, eval e X.env) :: starEach es X.env := by rfl) (hpl : (backTo pos (starEach es X.env)).any (·.1) = false := by rfl) {pl : Sem Bool}
    (hte : eval (.Call (.Attribute o m apos) (e :: es) [] pos) X.env = (do
      let v ← eval o X.env
      standAt apos.atName
      let (g, one) ← holding [v] (getMethod v m pl)
      callWith pos g one (backTo pos (starEach (e :: es) X.env)) (backToKw pos (keywordEach [] X.env))) := by rfl) :
    JE B X (.Call (.Attribute o m apos) (e :: es) [] pos) (wMethX E C m ps.length s to t) := by
  obtain ⟨f, fd, F, hm, b⟩ := c
  refine pe_imp (pe_um (pl := pl) ho cl hm F hr b (fun σ => passAt tk σ) ha hst hpl hte) fun σ H Q ⟨st, S, Q0, he, hr, hs, h, im⟩ => ?_
  refine ⟨st, S, _, he, hr, hs, h, fun x S1 h1 H1 v e1 s1 r1 => ?_⟩
  cases x with
  | ref p =>
    obtain ⟨fs, e2, hl, q⟩ := h1
    cases r1
    obtain ⟨dx, gs, e4, r4⟩ := s1 p _ e2
    refine ⟨p, dx, gs, rfl, e4, r4.lookN hl, st, S1, _, he.trans e1, hr.mono e1, s1, q, fun ts S2 h2 H2 vs e6 s6 r6 => ?_⟩
    exact ⟨fun P hP => (he.trans (e1.trans e6)).tabs P (ht P hP), .ref p :: ts, S2, Q0, _, by rw [List.length_cons]; exact h2.1, .cons (.ref p) r6, s6, h2.2, fun z S3 q => fin_ext (e1.trans e6) (im z S3 q),
      fun C S' H' q e7 s7 => ⟨C, st, S', rfl, rfl, he.trans (e1.trans (e6.trans e7)), hr.mono (e1.trans (e6.trans e7)), s7, q⟩⟩
  | _ => exact h1.elim
theorem j_methX0 (c : CalMX X.prog X.w X.K X.mg X.base tl k C m ps s) (cl : Cls X.K C) (tk : Takes X (xOf X.K B E)) (ht : ∀ P ∈ tl, GxR.TabG B P) (hr : Room k X.A) (ho : JE B X o to) {pl : Sem Bool}
    (hte : eval (.Call (.Attribute o m apos) [] [] pos) X.env = (do
      let v ← eval o X.env
      standAt apos.atName
      let (g, one) ← holding [v] (getMethod v m pl)
      callWith pos g one (backTo pos (starEach [] X.env)) (backToKw pos (keywordEach [] X.env))) := by rfl) :
    JE B X (.Call (.Attribute o m apos) [] [] pos) (wMethX E C m ps.length s to wNil) := by
  obtain ⟨f, fd, F, hm, b⟩ := c
  refine pe_imp (pe_um0 (pl := pl) ho cl hm F hr b (fun σ => passAt tk σ) hte) fun σ H Q ⟨st, S, Q0, he, hr, hs, h, im⟩ => ?_
  refine ⟨st, S, _, he, hr, hs, h, fun x S1 h1 H1 v e1 s1 r1 => ?_⟩
  cases x with
  | ref p =>
    obtain ⟨fs, e2, hl, h2⟩ := h1
    cases r1
    obtain ⟨dx, gs, e4, r4⟩ := s1 p _ e2
    exact ⟨p, dx, gs, rfl, e4, r4.lookN hl, fun P hP => (he.trans e1).tabs P (ht P hP), [.ref p], S1, Q0, _, h2.1, .cons (.ref p) .nil, s1, h2.2, fun z S3 q => fin_ext e1 (im z S3 q),
      fun C S' H' q e7 s7 => ⟨C, st, S', rfl, rfl, he.trans (e1.trans e7), hr.mono (e1.trans e7), s7, q⟩⟩
  | _ => exact h1.elim
theorem js_raise (hc : X.calm = true) (tk : Takes X (xOf X.K B E)) (c : ErrC X.K X.mg x C) (hg : Gl X x) (hdb : (x == ("__debug__" : Str)) = false := by decide) : JS B X (.Raise (some (.Call (.Name x p) [] [] pos)) none pos') (wRaise E C) :=
  ps_imp (ps_raise hc tk (pmk_bare PySem.F.excBase_ValueError c.x c.g c.k (raises_own c.b c.t) hg hdb)) fun D σ H ⟨st, S, D0, he, hr, hs, h, im⟩ => ⟨C, st, S, rfl, rfl, he, hr, hs, h⟩
theorem js_try {C0 : Addr} {body suite : List Stmt} {b₀ : Stmt} {tb : EW → WS} {u : WS} (hs : X.stack = X.env :: X.outer) (hf : X.env.frame = some X.env.locals) (c : ErrC X.K X.mg x C0) (hg : Gl X x)
    (hb : ∀ (B' : Hp) (E : EW) (pn : List (Addr × Obj)) (xe : Value → Shared → Prop), Ext B B' → Takes (X.tr pn xe) (xOf X.K B' E) → PassesOwn (model X.prog X.w) X.A X.env xe → JSs B' (X.tr pn xe) body (tb E))
    (hu : ∀ (B' : Hp) (a : Addr) (pn : List (Addr × Obj)), Ext B B' → JSs B' (X.suite a pn) (b₀ :: suite) u) (hdb : (x == ("__debug__" : Str)) = false := by decide) :
    JS B X (.Try body [.ExceptHandler (some (.Name x np)) none (b₀ :: suite) pos'] [] [] pos) (wTry C0 tb u) := by
  refine ps_imp (ps_try_only (tb := fun W D σ H => ∃ B' E, Ext B B' ∧ (∀ cls d σ' H', xOf X.K B' E cls d σ' H' → W cls d σ' H') ∧ LS B' X (tb E) D σ H) (ts := fun _ _ _ => fun D σ H => ∃ B', Ext B B' ∧ LS B' X u D σ H) (Wout := fun _ _ _ _ => False) hs hf ⟨hg, hdb, .inl c.g⟩ takes0
    (fun W pn xe tk hp => ⟨fun pins s σ H D I ⟨B', E, eb, hi, h⟩ => (hb B' E pn xe eb (tk.imp hi) hp).run pins s σ H D I h⟩) (fun a oe cls d pn _ _ => ⟨fun pins s σ H D I ⟨B', eb, h⟩ => (hu B' a _ eb).run pins s σ H D I h⟩)) ?_
  rintro D σ H ⟨st, S, D0, he, hr, hs, h, im⟩
  refine ⟨H, _, he, ?_, st, S, D0, Ext.refl H, hr, hs, h, im⟩
  rintro cls d σ' H' ⟨C1, st1, S1, rfl, rfl, e1, r1, s1, rfl, q⟩
  refine ⟨true, c.s, fun _ a _ => ⟨H', he.trans e1, st1, S1, D0, Ext.refl H', r1, s1, q, im.ext e1⟩, fun z => by cases z⟩
end
/-- a def that may let an error out -/
theorem fnTX {P : Program} {w : World} {K : PySem.W.Frag} {mg : Str → Option Value} {base : Heap} {x qual : Str} {st : Stmt} {f : Addr} {fd : FuncData} {N ps : List Str} {k : Nat} {sp : WSp} {tl : List Addr} {t : EW → WS} (F : Fun K x qual st f fd) (S : FnScope N ps (defScope st))
    (hb : ∀ (cdv : Value) (A : Around) (outer : List Env) (s : Shared) (H : Hp) (E : XK) (EX : EW), Room k (A.deeper (envOfC qual (defScope st) s.heap.objs.size f cdv)) → cdv = fd.code → (∀ P ∈ tl, GxR.TabG H P) → Takes (cxOf (L2.CX P w) P w K mg base N qual (defScope st) f cdv A outer s H E) (xOf K H EX) →
      JSs H (cxOf (L2.CX P w) P w K mg base N qual (defScope st) f cdv A outer s H E) (defBody st) (t EX))
    (hw : ∀ ts S Q E, ts.length = ps.length → sp ts S Q E → t (fun C _ S' => E C S') { nx := fun _ S' => Q .non S', rt := Q } (startT N ts) S) : FnOk P w K mg base (L2.CX P w) (k + 1) f fd ps (Lsp tl K ps.length sp) := by
  obtain ⟨oc, od, kV, doc, pm, an, cdv, ct, osl, rfl, lk, hcd⟩ := F.ex
  refine fn_of lk hcd S (fun vs H Q E h => lsp_len h) fun A outer s H vs Q E hr h => ?_
  obtain ⟨hT, ts, S0, Q0, E0, h1, h2, h3, h4, im, ix⟩ := h
  refine ⟨_, hb cdv A outer s H E (fun C _ S' => E0 C S') hr rfl hT (Takes.imp (takes_of rfl rfl rfl rfl) ?_), ?_⟩
  · rintro cls d σ H' ⟨C1, st1, S1, rfl, rfl, e1, r1, s1, q⟩
    exact ix _ _ _ q e1 s1
  · exact ⟨startT N ts, S0, _, Ext.refl H, start_rep h2, h3, hw ts S0 Q0 E0 h1 h4, ⟨fun a S1 q H1 σ1 e1 s1 r1 => im _ _ q H1 _ e1 s1 .non, im, fun _ _ q => q.elim, fun _ _ q => q.elim⟩⟩
end Wp

set_option Elab.async false
set_option linter.all false
set_option maxRecDepth 100000
set_option maxHeartbeats 4000000
/-! a def that may let an error out, called where it lets none out -/
namespace Wp
open PySem PySem.Spec PyProof.Rows L2
section
variable {B : Hp} {X : Cx} {C : Addr} {m x : Str} {o e : Expr} {es : List Expr} {to : WE} {t : WA} {p pos apos : Pos} {k : Nat} {ps : List Str} {s : WSp} {tl : List Addr}
theorem j_callN (c : CalX X.prog X.w X.K X.mg X.base tl k x ps s) (ht : ∀ P ∈ tl, GxR.TabG B P) (hr : Room k X.A) (hg : Gl X x) (ha : JA B X (e :: es) t) (hdb : (x == ("__debug__" : Str)) = false := by decide)
    (hst : starEach (e :: es) X.env = (false, eval e X.env) :: starEach es X.env := by rfl) (hpl : (backTo pos (starEach es X.env)).any (·.1) = false := by rfl) : JE B X (.Call (.Name x p) (e :: es) [] pos) (wCall ps.length s t) := by
  obtain ⟨f, fd, F, hm, kp, b⟩ := c
  refine pe_imp (pe_call F hr hg hm kp b .nil passL ha hdb hst hpl) fun σ H Q ⟨st, S, Q0, he, hr, hs, h, im⟩ => ?_
  refine ⟨st, S, _, he, hr, hs, h, fun xs S1 h1 H1 vs e1 s1 r1 => ?_⟩
  exact ⟨fun P hP => (he.trans e1).tabs P (ht P hP), xs, S1, Q0, fun _ _ => False, h1.1, by rw [List.append_nil]; exact r1, s1, h1.2, fun z S2 q => fin_ext e1 (im z S2 q), fun C S' H' q => q.elim⟩
end
end Wp

set_option Elab.async false
set_option linter.all false
set_option maxRecDepth 100000
set_option maxHeartbeats 4000000
/-! products: of numbers; of a list and a number -/
namespace Wp
open PySem PySem.Spec PyProof.Rows L2
def rMulB (x : T) (y : T) (S : Sta) (Q : T → Sta → Prop) : Prop := match x, y with
  | .int i, .int j => CMul i j ∧ Q (.int (i * j)) S
  | .ref p, .int k => ∃ xs, S p = some (.lst xs) ∧ -(2 ^ 63) ≤ k ∧ k < 2 ^ 63 ∧ xs.length * k.toNat ≤ sizeLine ∧ ∀ r, S r = none → Q (.ref r) (upS S r (.lst (List.replicate k.toNat xs).flatten))
  | _, _ => False
theorem Reps.rep {K : PySem.W.Frag} {H : Hp} {ts : List T} {vs : List V} (h : Reps K H ts vs) : ∀ k : Nat, Reps K H (List.replicate k ts).flatten (List.replicate k vs).flatten
  | 0 => .nil
  | k + 1 => by
    rw [List.replicate_succ, List.replicate_succ, List.flatten_cons, List.flatten_cons]
    exact Reps.append h (Reps.rep h k)
theorem o_mulB {X : Cx} : OpT X (binaryOp .Mult) rMulB := by
  intro pins s σ H x y v u Q I rx ry ⟨a, b, S, Q0, ra, rb, hs, q, im⟩
  cases a with
  | int i =>
    cases b with
    | int j =>
      exact o_mul pins s σ H x y v u Q I rx ry ⟨.int i, .int j, S, Q0, ra, rb, hs, ⟨q.1, q.2⟩, im⟩
    | _ => exact q.elim
  | ref p =>
    cases b with
    | int k =>
      cases ra
      cases rb
      obtain ⟨ts, e1, k0, k1, hz, q⟩ := q
      obtain ⟨xs, h1, r1⟩ := hs p _ e1
      refine op_rep pins s σ H _ _ v u Q I rx ry ⟨p, k, xs, rfl, rfl, h1, k0, k1, by rw [← r1.length]; exact hz, fun r hr => ?_⟩
      obtain ⟨e3, s3⟩ := hs.newL hr (Reps.rep r1 k.toNat)
      exact im _ _ (q r (hs.free hr)) _ _ e3 s3 (.ref r)
    | _ => exact q.elim
  | _ => exact q.elim
end Wp

set_option Elab.async false
set_option linter.all false
set_option maxRecDepth 100000
set_option maxHeartbeats 4000000
/-! a list comprehension whose element may let an error of an own class out -/
namespace Wp
open PySem PySem.Spec PyProof.Rows L2
/-- the block's end: a value, or an error that its own environment passes on -/
def postX (M : Model) (A : Around) (E : Value → Shared → Prop) (use : Option (Value → Sem Unit)) (Q : Value → Shared → Prop) (acc : Value) (ce : Env) : Result → Shared → Prop
  | .ok f, t => compPost M A E use Q acc ce.locals (.ok f) t
  | .error x, t => ∃ m, t.heap.Ns ce.locals m ∧ ∀ h', Heap.SameBut ce.locals t.heap h' → wpAny M A (passOn "comprehension.variables-let-go" x ce : Sem Value) (fun _ _ => False) E { t with heap := h' }
theorem comp_exit {M : Model} {A : Around} {E : Value → Shared → Prop} {s : Shared} {env : Env} {e : Expr} {scope : Scope} {pos : Pos} {newAcc first : Sem Value} {g : Comprehension} {gs : List Comprehension} {cl : List (Str × Addr)} {use : Option (Value → Sem Unit)} {Q : Value → Shared → Prop}
    (c1 : clausesOf e = g :: gs) (c2 : ∀ x, foldedSetIterable g.iter env x = pure x) (c3 : closureFor scope env = pure cl) (kd : scope.kind = .function) (nm : ∀ x ∈ scope.names, x.2 = .local → scope.names.lookup x.1 = some .local)
    (h : wpAny M A first (fun x t1 => wpAny M A (pyIter x) (fun it t2 => wpAny M A newAcc (fun acc t3 => wpAny M A (newFunctionEnv scope env.globals cl [] env.qual none .none (some env)) (fun ce t4 =>
        codeAny M A (.compStart e 0 it acc { ce with scope := relabel scope env }) (postX M A E use Q acc { ce with scope := relabel scope env }) t4) E t3) E t2) E t1) E s) :
    wpAny M A (comprehension e scope env pos newAcc false first use) Q E s := by
  unfold comprehension
  rw [c3, c1]
  refine wpAny_bind (wpAny_mono h (fun x t1 h1 => wpAny_bind (wpAny_standAt (wpAny_bind (wpAny_of_eq (c2 x) (wpAny_bind (wpAny_holding (wpAny_mono h1 (fun it t2 h2 =>
    wpAny_standIf (wpAny_bind (wpAny_mono h2 (fun acc t3 h3 => wpAny_bind (wpAny_pure (wpAny_bind (wpAny_mono h3 (fun ce t4 h4 => ?_) fun _ _ z => z)))) fun _ _ z => z)))
      fun _ _ z => z))))))) fun _ _ z => z)
  dsimp only
  have lv : ∀ x ∈ (scope.names.filter fun x => (x.2 == .local || x.2 == .cell) && x.1 != (".0" : Str)).reverse, x.2 = .local → Env.kindOf { ce with scope := relabel scope env } x.1 = some .local := fun x hx hl =>
    lookup_relabel_local (nm x (List.mem_filter.mp (List.mem_reverse.mp hx)).1 hl)
  refine wpAny_holding (wpAny_bind (wpAny_attempt (wpAny_holding (wpAny_run (codeAny_mono h4 fun r t5 hr => ?_)))))
  cases r with
  | ok f =>
    cases use with
    | none =>
      obtain ⟨m, hn, hr⟩ := hr
      exact wpAny_bind (wpAny_holding (wpAny_comp_letGo (cenv := { ce with scope := relabel scope env }) kd _ t5 m lv hn fun h' m' _ sb => wpAny_pure (hr h' sb)))
    | some u =>
      refine wpAny_bind (wpAny_rule (wpAny_bind (wpAny_holding (wpAny_mono hr (fun _ t6 hr2 => ?_) fun _ _ z => z))))
      obtain ⟨m, hn, hr2⟩ := hr2
      refine wpAny_bind (wpAny_comp_letGo (cenv := { ce with scope := relabel scope env }) kd _ t6 m (fun x hx hl => ?_) hn fun h' m' _ sb => wpAny_pure (hr2 h' sb))
      rcases List.mem_append.mp hx with z | z
      · exact lv x (List.mem_of_mem_drop z) hl
      · exact lv x (List.mem_of_mem_take z) hl
  | error x =>
    obtain ⟨m, hn, hr⟩ := hr
    exact wpAny_bind (wpAny_holding (wpAny_comp_letGo (cenv := { ce with scope := relabel scope env }) kd _ t5 m lv hn fun h' m' _ sb => wpAny_mono (hr h' sb) (fun _ _ f => f.elim) fun _ _ y => y))
theorem noteFrame_of {x : Value} {env ce : Env} (h : ce.frame = env.frame) : noteFrame x ce = noteFrame x env := by
  unfold noteFrame PySem.frameOf
  rw [h]
/-- one object more is pinned -/
abbrev pnX (X : Cx) (C : Addr) (o : Obj) : Cx := { X with pn := X.pn ++ [(C, o)] }
section
variable {X : Cx} {pins : List (Addr × Obj)} {σ : L2.St} {H : Hp} {s : Shared} {C : Addr} {o : Obj}
theorem pn_in (I : Inv X pins σ H s) (e : s.heap.get? C = some o) (f : FpOk X pins H C) (d : ∀ v, o.data ≠ .cell v) : Inv (pnX X C o) pins σ H s := by
  obtain ⟨f0, f1, f2, _⟩ := f
  have k := I.ok
  refine ⟨⟨k.mod, k.kind, k.glob, k.blt, k.above, k.inj, k.has, k.cab, k.hd, k.frames, k.stk, k.exf, k.bs, k.bsz, k.noex, k.exfs, k.funs, k.frf⟩, I.os, I.bare, I.base, I.loc, I.cell, I.free, I.freeC, fun p hp => ?_, I.hok, I.len⟩
  rcases List.mem_append.mp hp with hp | hp
  · rcases List.mem_append.mp hp with hp | hp
    · exact I.pin p (List.mem_append_left _ hp)
    · have hp : p = (C, o) := by simpa using hp
      subst hp
      exact ⟨e, f0, f1, f2, d⟩
  · exact I.pin p (List.mem_append_right _ hp)
theorem pn_out (I : Inv (pnX X C o) pins σ H s) : Inv X [] σ H s ∧ s.heap.get? C = some o ∧ H C = none := by
  have k := I.ok
  refine ⟨⟨⟨k.mod, k.kind, k.glob, k.blt, k.above, k.inj, k.has, k.cab, k.hd, k.frames, k.stk, k.exf, k.bs, k.bsz, k.noex, k.exfs, k.funs, k.frf⟩, I.os, I.bare, I.base, I.loc, I.cell, I.free, I.freeC, fun p hp => ?_, I.hok, I.len⟩, ?_⟩
  · rw [List.append_nil] at hp
    exact I.pin p (List.mem_append_left _ (List.mem_append_left _ hp))
  · have z := I.pin (C, o) (List.mem_append_left _ (List.mem_append_right _ List.mem_cons_self))
    exact ⟨z.1, z.2.1⟩
/-- an error that the block notes and passes on, its variables let go, is in the def's air -/
theorem air_out {W : WX} (hst : X.stack = X.env :: X.outer) (hfr : X.env.frame = some X.env.locals) (tk : Takes X W) {ce : Env} (cf : ce.frame = X.env.frame) (cL : ce.locals = C) {m : Str → Option Value} {es : Array DictEntry} {ep : Nat}
    (od : o.data = .dict es ep) (ok : StrKeys es ∧ ∀ name, nsFind es name = m name) (f : ∀ {H'}, H' C = none → FpOk X [] H' C) {u : Value} {s' : Shared} (x : XE (pnX X C o) W u s') :
    notedBy (model X.prog X.w) X.A ce (fun e t => ∃ m, t.heap.Ns ce.locals m ∧ ∀ h', Heap.SameBut ce.locals t.heap h' → wpAny (model X.prog X.w) X.A (passOn "comprehension.variables-let-go" e ce : Sem Value) (fun _ _ => False) X.xe { t with heap := h' }) u s' := by
  obtain ⟨a, B, sI, pins, σ, H, cls, d, rfl, I, nb, up, sky, na, os, ag, w⟩ := x
  have hA : X.A.frames = some (X.env :: X.outer) := by rw [I.ok.frames]; exact congrArg some hst
  obtain ⟨I0, eC, nC⟩ := pn_out I
  obtain ⟨f0, f1, f2, f3, f4, f5⟩ := f nC
  have nfr : C ∉ frs X.stack := fun z => by
    have h1 := I0.stkSub C z
    rcases List.mem_cons.mp h1 with z | z
    · exact f1 z
    · exact f2 z
  have bC : B.get? C = some o := nb C o eC nfr
  show wpAny _ _ (noteFrame (.ref a) ce) _ _ _
  rw [noteFrame_of cf]
  have fin : ∀ h1, HandSPX.HeldZ B (X.env :: X.outer) a (Zc cls d) X.env.locals h1 → s'.heap.UpToSlots h1 → (fun t => ∃ m, t.heap.Ns ce.locals m ∧ ∀ h', Heap.SameBut ce.locals t.heap h' → wpAny (model X.prog X.w) X.A (passOn "comprehension.variables-let-go" (.ref a) ce : Sem Value) (fun _ _ => False) X.xe { t with heap := h' }) { s' with heap := h1 } := fun h1 hh up1 => by
    refine ⟨m, ⟨o, es, ep, by rw [cL]; exact hh.1 C o bC, od, ok⟩, fun h2 sb => ?_⟩
    rw [cL] at sb
    obtain ⟨g1, g2, g3, oe, vs, T, oT, ts, he, hz, hd, hv, hnT, hTe, hT, hdT, h3⟩ := hh
    have aC : a ≠ C := fun z => by rw [z, bC] at g2; cases g2
    have tC : T ≠ C := fun z => by rw [z, bC] at hnT; cases hnT
    have hid : ∀ {b}, B.get? b = none → (PySem.W.hideAll B [C]).get? b = none := fun {b} e => by
      cases q : (PySem.W.hideAll B [C]).get? b with
      | none => rfl
      | some o' =>
        have z := PySem.W.of_hideAll _ q
        rw [e] at z; cases z
    have hidC : ∀ {b o' : _} {G : Heap}, (PySem.W.hideAll G [C]).get? b = some o' → b ≠ C ∧ G.get? b = some o' := fun {b o' G} q => by
      refine ⟨fun z => ?_, PySem.W.of_hideAll _ q⟩
      rw [z, PySem.W.hideAll_none [C] List.mem_cons_self] at q; cases q
    have frB : ∀ {l : List Env}, h1.FunFrames B l → h2.FunFrames (PySem.W.hideAll B [C]) l := fun {l} q => by
      have q1 : h1.FunFrames (PySem.W.hideAll B [C]) l := funFrames_none q fun L hL => hid (q.mem hL).1
      have : ∀ {l : List Env}, h1.FunFrames B l → h1.FunFrames (PySem.W.hideAll B [C]) l → h2.FunFrames (PySem.W.hideAll B [C]) l := fun {l} => by
        induction l with
        | nil => intro _ _; trivial
        | cons env l ih =>
          rintro ⟨_, ⟨L0, _, hf0, hB0, _, _⟩, r0⟩ ⟨hk, ⟨L, oL, hf, hB, ho, hd⟩, r⟩
          rw [hf] at hf0; cases hf0
          exact ⟨hk, ⟨_, oL, hf, hB, (sb.2 _ fun z => by rw [z, bC] at hB0; cases hB0).trans ho, hd⟩, ih r0 r⟩
      exact this q q1
    have hh2 : HandSPX.HeldZ (PySem.W.hideAll B [C]) (X.env :: X.outer) a (Zc cls d) X.env.locals h2 :=
      ⟨fun b o' q => by
        obtain ⟨n1, q1⟩ := hidC q
        exact (sb.2 b n1).trans (g1 b o' q1), hid g2, frB g3, oe, vs, T, oT, ts, (sb.2 a aC).trans he, hz, hd, hv, hid hnT, hTe, (sb.2 T tC).trans hT, hdT, h3⟩
    have up2 : (PySem.W.hideAll sI.heap [C]).UpToSlots h2 := fun b o' q hnf => by
      obtain ⟨n1, q1⟩ := hidC q
      obtain ⟨sl, e1⟩ := up b o' q1 hnf
      obtain ⟨sl2, e2⟩ := up1 b _ e1 hnf
      exact ⟨sl2, (sb.2 b n1).trans e2⟩
    have I2 : Inv X [] σ H { sI with heap := PySem.W.hideAll sI.heap [C] } :=
      I0.turned (t' := sI.toks) (fun b o' hb e => PySem.W.hideAll_get _ e fun z => hb (by simpa using z)) nC f1 f3 f4 f5
    unfold PySem.passOn
    refine wpAny_bind (wpAny_field (s := { s' with heap := h2 }) ((sb.2 a aC).trans he) hd hv ?_)
    rw [if_neg (show ¬ ((Value.ref T == Value.none) = true) from by simp)]
    refine wpAny_bind ?_
    rw [cf, hfr]
    refine HandSPX.setFlight_onZ (s := { s' with heap := h2 }) hh2 fun h3 hh3 up3 => ?_
    refine wpAny_throw ?_
    refine tk _ _ ⟨a, PySem.W.hideAll B [C], _, [], σ, H, cls, d, rfl, I2, fun b o' q hb => ?_, fun b o' q hnf => ?_, .inr (.inr (by rw [hst]; exact hh3)), na, os, ag, w⟩
    · obtain ⟨n1, q1⟩ := hidC q
      exact PySem.W.hideAll_get _ (nb b o' q1 hb) fun z => n1 (by simpa using z)
    · obtain ⟨sl, e1⟩ := up2 b o' q hnf
      obtain ⟨sl2, e2⟩ := up3 b _ e1 hnf
      exact ⟨sl2, e2⟩
  have sky : Sky B (X.env :: X.outer) a (Zc cls d) X.env.locals s'.heap := by
    have z : Sky B X.stack a (Zc cls d) X.env.locals s'.heap := sky
    rw [hst] at z
    exact z
  rcases sky with ⟨hB, hn, hl, oe, vs, he, hz, hd, h1⟩ | fl | hh
  · exact HandSPX.look_newZ Zc.steady hA hl hfr he hB hn hd h1 hz fin
  · exact HandSPX.looks_onZ Zc.steady hA hfr fl fin
  · exact HandSPX.againZ hfr hh.2.2.2 (fin _ hh (Heap.UpToSlots.refl _))
end

/-- the context of a block with a wish about errors -/
abbrev blkX (X : Cx) (s : Shared) (H : Hp) (scope : Scope) (cenv : Env) (fp : List Addr) (xe : Value → Shared → Prop) : Cx := { X.blk s H scope cenv fp with xe := xe }
section
variable {X : Cx}
theorem lc_coreX {pins : List (Addr × Obj)} {s : Shared} {σ : L2.St} {H : Hp} {Q : VK} {elt tg iter : Expr} {ifs : List Expr} {scope : Scope} {own : List (Str × Nat)} {pos pos' : Pos} {wi : TI} {g : TG} {tt : TT} {te : XK → TE} {W : WX} {use : Option (Value → Sem Unit)} {Qf : Value → Shared → Prop}
    (hst : X.stack = X.env :: X.outer) (hfr : X.env.frame = some X.env.locals) (tk : Takes X W)
    (hc : X.calm = true) (hN : X.N.Nodup) (I : Inv X pins σ H s) (hi : PI X tg iter wi) (ok : BlkOk X.N X.env.scope scope own)
    (hg : ∀ (t : Shared) (G : Hp) (C : Addr) (cl : List (Str × Addr)) (fp : List Addr), PG (X.blk t G scope (compEnvC scope cl C X.env) fp) tg g) (ht : ∀ (t : Shared) (G : Hp) (C : Addr) (cl : List (Str × Addr)) (fp : List Addr), PTs (X.blk t G scope (compEnvC scope cl C X.env) fp) ifs tt)
    (he : ∀ (Z : XK) (t : Shared) (G : Hp) (C : Addr) (cl : List (Str × Addr)) (fp : List Addr) (xe : Value → Shared → Prop), (∀ τ, PassesAt (L2.CX X.prog X.w) (blkX X t G scope (compEnvC scope cl C X.env) fp xe) τ Z) → PE (blkX X t G scope (compEnvC scope cl C X.env) fp xe) elt (te Z)) (hs : ∀ x, foldedSetIterable iter X.env x = pure x)
    (h : tLc wi g tt (te fun cls d G => W cls d σ G) (own.map (·.2)) σ H Q)
    (hR : ∀ D C t m G, Inv X pins σ G t → Q (.ref D) G → t.heap.Ns C m → FpOk X pins G C → compPost (model X.prog X.w) X.A X.xe use Qf (.ref D) C (.ok .next) t) :
    wpAny (model X.prog X.w) X.A (comprehension (.ListComp elt [⟨tg, iter, ifs, 0⟩] scope pos) scope X.env pos' (newList []) false (eval iter X.env) use) Qf X.xe s := by
  have hfree : ∀ y ∈ scope.names, y.2 = .free → ∃ c, X.env.cells.lookup y.1 = some c := fun y hy e => (ok.free y hy e).elim (fun k => I.ok.has _ (.inl k)) fun k => I.ok.has _ (.inr k)
  refine comp_exit (use := use) rfl hs (closure_ok hfree) ok.kind (fun y hy e => by rw [ok.uniq y hy, e]) (thn (hi.run pins s σ H _ I h) fun xv s1 hx => thn hx fun itv s2 h2 => ?_)
  obtain ⟨it, fp, tn, J, H2, e, I2, T, st2, f2, q⟩ := h2
  subst e
  refine wpAny_newObj_type (newEnv_comp ?_) (by show 0 ≤ sizeLine; decide)
  generalize hD : s2.heap.objs.size = D
  have hDn : H2 D = none := I2.hok.fresh (Nat.le_of_eq hD)
  obtain ⟨V, ⟨m0, w0⟩, turn⟩ := q D hDn
  generalize hs3 : ({ s2 with heap := s2.heap.push { cls := .type "list", data := .seq ([] : List Value).toArray } } : Shared) = s3
  have I3 : Inv X pins σ (upd H2 D (.lst [])) s3 := by
    rw [← hs3]
    refine I2.laid (t' := s2.toks) (fun b o e => Heap.get?_push_of_some _ e) (Nat.le_of_eq hD) ⟨Nat.zero_le _, [], 0, .nil, ?_⟩
    rw [← hD]
    exact Heap.get?_push_size _ rfl
  have h3 : s3.heap = s2.heap.push { cls := .type "list", data := .seq ([] : List Value).toArray } := by rw [← hs3]
  have f3 : ∀ b ∈ fp, FpOk X pins (upd H2 D (.lst [])) b ∧ b < s3.heap.objs.size := fun b hb => by
    have hlt : b < s2.heap.objs.size := by
      obtain ⟨o, e, _⟩ := T.obj _ _ st2 b hb
      exact Heap.lt_size e
    refine ⟨⟨?_, (f2 b hb).2⟩, by rw [h3, Heap.size_push]; exact Nat.lt_succ_of_lt hlt⟩
    rw [upd_ne (by rw [← hD]; exact Nat.ne_of_lt hlt)]
    exact (f2 b hb).1
  have st3 : tn 0 s3.heap := T.keep _ _ _ st2 fun b _ o e => by rw [h3]; exact Heap.get?_push_of_some _ e
  have I4 := block_start I3 ok hN f3
  have pg := hg s3 (upd H2 D (.lst [])) s3.heap.objs.size (cellsFrom (s3.heap.objs.size + 1) scope.names (cloFrom X.env.cells scope.names [])) fp
  have pt := ht s3 (upd H2 D (.lst [])) s3.heap.objs.size (cellsFrom (s3.heap.objs.size + 1) scope.names (cloFrom X.env.cells scope.names [])) fp
  have pe := fun xe => he (fun cls d G => W cls d σ G) s3 (upd H2 D (.lst [])) s3.heap.objs.size (cellsFrom (s3.heap.objs.size + 1) scope.names (cloFrom X.env.cells scope.names [])) fp xe
  show codeAny _ _ (.compStart (.ListComp elt [⟨tg, iter, ifs, 0⟩] scope pos) 0 (.ref it) (.ref D) (compEnvC scope (cellsFrom (s3.heap.objs.size + 1) scope.names (cloFrom X.env.cells scope.names [])) s3.heap.objs.size X.env)) (postX (model X.prog X.w) X.A X.xe use Qf (.ref D) (compEnvC scope (cellsFrom (s3.heap.objs.size + 1) scope.names (cloFrom X.env.cells scope.names [])) s3.heap.objs.size X.env)) { s3 with heap := pushCells (s3.heap.push { cls := .type "dict", data := .dict #[] }) scope.names }
  have nfp : ∀ b ∈ fp, (upd H2 D (.lst [])) b = none := fun b hb => (f3 b hb).1.1
  have cF : (compEnvC scope (cellsFrom (s3.heap.objs.size + 1) scope.names (cloFrom X.env.cells scope.names [])) s3.heap.objs.size X.env).frame = X.env.frame := rfl
  generalize hce : compEnvC scope (cellsFrom (s3.heap.objs.size + 1) scope.names (cloFrom X.env.cells scope.names [])) s3.heap.objs.size X.env = ce at I4 pg pt pe cF ⊢
  have cL : ce.locals = s3.heap.objs.size := by subst hce; rfl
  generalize hH3 : upd H2 D (.lst []) = H3 at I3 I4 pg pt pe w0 nfp f3
  generalize hs4 : ({ s3 with heap := pushCells (s3.heap.push { cls := .type "dict", data := .dict #[] }) scope.names } : Shared) = s4 at I4 ⊢
  have st4 : tn 0 s4.heap := T.keep _ _ _ st3 fun b _ o e => by rw [← hs4]; exact pushCells_keeps _ _ _ _ (Heap.get?_push_of_some _ e)
  have stat : ∀ {σ' : L2.St} {H' : Hp} {s' : Shared}, Inv (X.blk s3 H3 scope ce fp) [] σ' H' s' → (∀ b ∈ fp, H' b = none) → ∀ b ∈ fp, FpOk (X.blk s3 H3 scope ce fp) [] H' b := fun {σ' H' s'} I' hn b hb =>
    ⟨hn b hb, (I'.ok.exf b hb).1, I'.ok.exfs b hb, .inl hb, fun x c e => (I'.ok.exf b hb).2 x c e, fun p hp => absurd (show p ∈ ([] : List (Addr × Obj)) ++ [] from hp) (by simp)⟩
  -- back in the def's context
  have home : ∀ {pn : List (Addr × Obj)} {τ : L2.St} {G : Hp} {t : Shared}, Inv (X.blk s3 H3 scope ce fp) pn τ G t → Inv X pins σ G t ∧ G s3.heap.objs.size = none := fun {pn τ G t} I6 => by
    refine ⟨I3.call' (ch := fp) I6.os I6.base I6.hok I6.bare fun b hb => ⟨(f3 b hb).1.2.2.2.1, (f3 b hb).1.2.1, (f3 b hb).1.2.2.2.2.1, (f3 b hb).1.2.2.2.2.2⟩, ?_⟩
    have z : G ce.locals = none := I6.free
    rw [cL] at z
    exact z
  have pe := pe (notedBy (model X.prog X.w) X.A ce fun e t => postX (model X.prog X.w) X.A X.xe use Qf (.ref D) ce (.error e) t) fun τ pn G t u t' I6 c => by
    have I6 : Inv (X.blk s3 H3 scope ce fp) pn τ G t := I6.unwish
    obtain ⟨I7, nC⟩ := home I6
    obtain ⟨m, ⟨o, es, ep, eo, od, ok2⟩, _⟩ := I6.loc
    have eo : t.heap.get? ce.locals = some o := eo
    have fo : ∀ {pn : List (Addr × Obj)} {G' : Hp}, (∀ p ∈ pn, p ∈ pins) → G' ce.locals = none → FpOk X pn G' ce.locals := fun {pn G'} sub n => by
      obtain ⟨a0, a1, a2, a3, a4, a5⟩ := I3.fpOk (b := ce.locals) (H' := G') (by rw [cL]; exact Nat.le_refl _) n
      exact ⟨a0, a1, a2, a3, a4, fun p hp => a5 p ((List.mem_append.mp hp).elim (fun z => List.mem_append_left _ z) fun z => List.mem_append_right _ (sub p z))⟩
    have I8 := pn_in I7 eo (fo (fun _ z => z) (by rw [cL]; exact nC)) fun v z => by rw [od] at z; cases z
    have x : XE (pnX X ce.locals o) W u t' := XE.of_call (X := pnX X ce.locals o) I8 (fun cls d G' hh => hh) c
    exact air_out hst hfr tk cF rfl od ok2 (fun n => fo (fun _ z => by cases z) n) x
  have loop : codeAny (model X.prog X.w) X.A (.compLoop (.ListComp elt [⟨tg, iter, ifs, 0⟩] scope pos) 0 (.ref it) (.ref D) ce) (postX (model X.prog X.w) X.A X.xe use Qf (.ref D) ce) s4 := by
    refine compLoop_any (fun n s' => ∃ i H', Inv (X.blk s3 H3 scope ce fp) [] (wipe σ (own.map (·.2))) H' s' ∧ tn i s'.heap ∧ (∀ b ∈ fp, H' b = none) ∧ V i n H') ?_ m0 ⟨0, H3, I4, st4, nfp, w0⟩
    rintro n s5 ⟨i, H5, I5, st5, n5, w5⟩
    rcases turn i n H5 w5 with ⟨stop, qq⟩ | ⟨go, Nx, hNx, step⟩
    · have td := T.done (X.blk s3 H3 scope ce fp) rfl rfl rfl hc i [] s5 _ H5 (fun _ _ => False) I5 (stat I5 n5) st5 stop
      refine thnF td fun r s6 ⟨hr, I6⟩ => ?_
      subst hr
      obtain ⟨I7, nC⟩ := home I6
      obtain ⟨m, hn, _⟩ := I6.loc
      have hn : s6.heap.Ns ce.locals m := hn
      show compPost _ _ _ _ _ _ ce.locals _ _
      rw [cL] at hn ⊢
      exact hR D s3.heap.objs.size s6 m H5 I7 qq hn (I3.fpOk (Nat.le_refl _) nC)
    · have ti := T.item (X.blk s3 H3 scope ce fp) rfl rfl rfl hc i [] s5 _ H5 (fun _ _ => False) I5 (stat I5 n5) st5 go
      refine thnF ti fun r s6 ⟨u, hr, h6⟩ => ?_
      subst hr
      refine thnF h6 fun _ s7 ⟨x, H7, I7, r7, y7, st7, n7⟩ => ?_
      have I7' := I7.pinned (stat I7 n7) (T.obj _ _ st7)
      refine thnF (pg.run _ s7 _ H7 x u _ I7' r7 (step x H7 y7)) fun _ s8 ⟨σ8, H8, I8, hw8, q8⟩ => ?_
      refine thnF (pt.run _ s8 σ8 H8 _ I8 q8) fun b s9 ⟨H9, I9, q9⟩ => ?_
      have fin : ∀ {s' : Shared} {H' : Hp}, Inv (X.blk s3 H3 scope ce fp) ([] ++ pinsAt fp s7.heap) σ8 H' s' → Nx H' → ∃ m, m < n ∧ ∃ i H', Inv (X.blk s3 H3 scope ce fp) [] (wipe σ (own.map (·.2))) H' s' ∧ tn i s'.heap ∧ (∀ b ∈ fp, H' b = none) ∧ V i m H' := fun {s' H'} I' nx => by
        obtain ⟨m', hm, w'⟩ := hNx H' nx
        have pin' : ∀ b ∈ fp, ∀ o, s7.heap.get? b = some o → s'.heap.get? b = some o ∧ H' b = none := fun b hb o e =>
          let z := I'.pin (b, o) (List.mem_append_right _ (List.mem_append_right _ (mem_pinsAt hb e)))
          ⟨z.1, z.2.1⟩
        have hl : (wipe σ (own.map (·.2))).length = σ8.length := by rw [← hw8, wipe_length]
        refine ⟨m', hm, i + 1, H', (I'.unpinned (pins := [])).weak hl (fun j v e => ?_), T.keep _ _ _ st7 fun b hb o e => (pin' b hb o e).1, fun b hb => ?_, w'⟩
        · rw [← hw8] at e
          exact (wipe_some e).1
        · obtain ⟨o, e, _⟩ := T.obj _ _ st7 b hb
          exact (pin' b hb o e).2
      cases b with
      | false =>
        simp only [Bool.false_eq_true, if_false] at q9 ⊢
        exact fin I9 q9
      | true =>
        simp only [if_true] at q9 ⊢
        refine thn (pe.run _ s9 σ8 H9 _ (I9.wish _) q9) fun z s10 ⟨yv, H10, I10, r10, acc, hD10, hz10, nx⟩ => ?_
        exact app_ok (X := X.blk s3 H3 scope ce fp) I10.unwish hD10 hz10 r10 fun s11 I11 => fin I11 nx
  exact codeAny_compStart_list loop (T.self X.A 0 _ _ _ st4 loop)
/-- as a value -/
theorem pe_lcX {elt tg iter : Expr} {ifs : List Expr} {scope : Scope} {own : List (Str × Nat)} {pos : Pos} {wi : TI} {g : TG} {tt : TT} {te : XK → TE} {W : WX} (hst : X.stack = X.env :: X.outer) (hfr : X.env.frame = some X.env.locals) (tk : Takes X W)
    (hc : X.calm = true) (hN : X.N.Nodup) (hi : PI X tg iter wi) (ok : BlkOk X.N X.env.scope scope own)
    (hg : ∀ (t : Shared) (G : Hp) (C : Addr) (cl : List (Str × Addr)) (fp : List Addr), PG (X.blk t G scope (compEnvC scope cl C X.env) fp) tg g) (ht : ∀ (t : Shared) (G : Hp) (C : Addr) (cl : List (Str × Addr)) (fp : List Addr), PTs (X.blk t G scope (compEnvC scope cl C X.env) fp) ifs tt)
    (he : ∀ (Z : XK) (t : Shared) (G : Hp) (C : Addr) (cl : List (Str × Addr)) (fp : List Addr) (xe : Value → Shared → Prop), (∀ τ, PassesAt (L2.CX X.prog X.w) (blkX X t G scope (compEnvC scope cl C X.env) fp xe) τ Z) → PE (blkX X t G scope (compEnvC scope cl C X.env) fp xe) elt (te Z)) (hs : ∀ x, foldedSetIterable iter X.env x = pure x := by intro _; rfl) :
    PE X (.ListComp elt [⟨tg, iter, ifs, 0⟩] scope pos) (fun σ H Q => tLc wi g tt (te fun cls d G => W cls d σ G) (own.map (·.2)) σ H Q) := by
  refine ⟨fun pins s σ H Q I h => ?_⟩
  rw [eval_ListComp]
  refine lc_coreX hst hfr tk hc hN I hi ok hg ht he hs h fun D C s' m H' I' q hn f => ⟨m, hn, fun h'' sb => ?_⟩
  obtain ⟨f0, f1, f2, f3, f4, f5⟩ := f
  exact ⟨.ref D, H', I'.turned (t' := s'.toks) (fun b o hb e => (sb.2 b hb).trans e) f0 f1 f3 f4 f5, rfl, q⟩
end
/-! ### the readings -/
theorem tLc_mono {wi wi' : TI} {g : TG} {tt tt' : TT} {te te' : TE} {vs : List Nat} (h1 : ∀ σ H R, wi σ H R → wi' σ H R) (h2 : ∀ σ H R, tt σ H R → tt' σ H R) (h3 : ∀ σ H R, te σ H R → te' σ H R)
    (hi : ∀ σ H (R R' : It → Hp → Prop), (∀ J G, R J G → R' J G) → wi' σ H R → wi' σ H R') (hg : ∀ x σ H (R R' : L2.St → Hp → Prop), (∀ τ G, R τ G → R' τ G) → g x σ H R → g x σ H R') (ht : ∀ σ H (R R' : Bool → Hp → Prop), (∀ b G, R b G → R' b G) → tt' σ H R → tt' σ H R')
    {σ : L2.St} {H : Hp} {Q : VK} (h : tLc wi g tt te vs σ H Q) : tLc wi' g tt' te' vs σ H Q := by
  refine hi _ _ _ _ (fun J G k => ?_) (h1 _ _ _ h)
  intro D hD
  obtain ⟨V, v0, turn⟩ := k D hD
  refine ⟨V, v0, fun i m G w => ?_⟩
  rcases turn i m G w with z | ⟨go, Nx, n1, st⟩
  · exact .inl z
  · refine .inr ⟨go, Nx, n1, fun x G' y => hg _ _ _ _ _ (fun τ G2 z => ⟨z.1, ?_⟩) (st x G' y)⟩
    refine ht _ _ _ _ (fun b G3 z3 => ?_) (h2 _ _ _ z.2)
    cases b with
    | true => rw [if_pos rfl] at z3 ⊢; exact h3 _ _ _ z3
    | false => exact z3
def wLcX (E : EW) (wi : WI) (g : WG) (tt : WT) (te : EW → WE) (vs : List Nat) (σ : Sl) (S : Sta) (Q : T → Sta → Prop) : Prop := wLc wi g tt (te fun C _ S' => E C σ S') vs σ S Q
def xOfB (K : PySem.W.Frag) (B : Hp) (E : Addr → Sta → Prop) : XK := fun cls d H => ∃ C S, cls = .ref C ∧ d = none ∧ Ext B H ∧ St K S H ∧ E C S
section
variable {B : Hp} {X : Cx} {pos : Pos}
theorem j_lcX {elt tg iter : Expr} {ifs : List Expr} {scope : Scope} {own : List (Str × Nat)} {wi : WI} {g : WG} {tt : WT} {te : EW → WE} {E : EW} (hst : X.stack = X.env :: X.outer) (hfr : X.env.frame = some X.env.locals) (tk : Takes X (xOf X.K B E))
    (hc : X.calm = true) (hN : X.N.Nodup) (hi : JI B X tg iter wi) (ok : BlkOk X.N X.env.scope scope own)
    (hg : ∀ (t : Shared) (G : Hp) (C : Addr) (cl : List (Str × Addr)) (fp : List Addr), JG (X.blk t G scope (compEnvC scope cl C X.env) fp) tg (own.map (·.2)) g) (ht : ∀ (t : Shared) (G : Hp) (C : Addr) (cl : List (Str × Addr)) (fp : List Addr), JTs B (X.blk t G scope (compEnvC scope cl C X.env) fp) ifs tt)
    (he : ∀ (B' : Hp) (EB : Addr → Sta → Prop) (t : Shared) (G : Hp) (C : Addr) (cl : List (Str × Addr)) (fp : List Addr) (xe : Value → Shared → Prop), Ext B B' → (∀ τ, PassesAt (L2.CX X.prog X.w) (blkX X t G scope (compEnvC scope cl C X.env) fp xe) τ (xOfB X.K B' EB)) → JE B' (blkX X t G scope (compEnvC scope cl C X.env) fp xe) elt (te fun C _ S => EB C S))
    (hs : ∀ x, foldedSetIterable iter X.env x = pure x := by intro _; rfl) :
    JE B X (.ListComp elt [⟨tg, iter, ifs, 0⟩] scope pos) (wLcX E wi g tt te (own.map (·.2))) := by
  refine pe_imp (pe_lcX (g := LG X (own.map fun (p : Str × Nat) => p.2) g) (tt := LT B X tt) (te := fun Z σ H Q => ∃ B' EB, Ext B B' ∧ (∀ cls d G, xOfB X.K B' EB cls d G → Z cls d G) ∧ LE B' X (te fun C _ S => EB C S) σ H Q) hst hfr tk hc hN hi ok (fun s H C cl fp => hg s H C cl fp) (fun s H C cl fp => ht s H C cl fp)
    (fun Z t G C cl fp xe hp => ⟨fun pins s σ H Q I ⟨B', EB, eb, hz, h⟩ => (he B' EB t G C cl fp xe eb fun τ pn H' s' e t' I' c => hp τ pn H' s' e t' I' ?_).run pins s σ H Q I h⟩) hs) fun σ H Q ⟨st, S, Q0, e0, hr, hs, h, im⟩ => ?_
  · obtain ⟨a, Bx, H2, cls, d, q1, q2, q3, q4, q5, q6, q7, q8⟩ := c
    exact ⟨a, Bx, H2, cls, d, q1, q2, q3, q4, q5, q6, q7, hz _ _ _ q8⟩
  · have h : wLc wi g tt (te fun C _ S' => E C st S') (own.map (·.2)) st S Q0 := h
    have k := le_lc (B := H) (X := X) ⟨st, S, Q0, Ext.refl H, hr, hs, h, im⟩
    refine tLc_mono (fun σ' H' R ⟨st', S', Q', e', r⟩ => ⟨st', S', Q', e0.trans e', r⟩) (fun σ' H' R ⟨st', S', Q', e', r⟩ => ⟨st', S', Q', e0.trans e', r⟩) (fun σ' H' R h' => ⟨H, fun C S' => E C st S', e0, fun cls d G ⟨C, S', r1, r2, r3, r4, r5⟩ => ⟨C, st, S', r1, r2, e0.trans r3, hr.mono r3, r4, r5⟩, h'⟩)
      (fun σ' H' R R' k ⟨st', S', Q', e', r1, r2, r3, r4⟩ => ⟨st', S', Q', e', r1, r2, r3, fun xs stb S1 h1 H1 e1 s1 J y => k _ _ (r4 xs stb S1 h1 H1 e1 s1 J y)⟩)
      (fun x σ' H' R R' k ⟨t, st', S', Q', r1, r2, r3, r4, r5⟩ => ⟨t, st', S', Q', r1, r2, r3, r4, fun a S2 q H2 τ z1 z2 z3 z4 => k _ _ (r5 a S2 q H2 τ z1 z2 z3 z4)⟩)
      (fun σ' H' R R' k ⟨st', S', Q', e', r1, r2, r3, r4⟩ => ⟨st', S', Q', e', r1, r2, r3, fun b S2 q H2 z1 z2 => k _ _ (r4 b S2 q H2 z1 z2)⟩) k
end
section
variable {B : Hp} {X : Cx} {C : Addr} {m x : Str} {o e : Expr} {es : List Expr} {to : WE} {t : WA} {p pos pos' np apos : Pos} {k : Nat} {ps : List Str} {s : WSp} {tl : List Addr} {EB : Addr → Sta → Prop}
/-- a call in such an element -/
theorem j_callE (c : CalX X.prog X.w X.K X.mg X.base tl k x ps s) (hp : ∀ τ, PassesAt (L2.CX X.prog X.w) X τ (xOfB X.K B EB)) (ht : ∀ P ∈ tl, GxR.TabG B P) (hr : Room k X.A) (hg : Gl X x) (ha : JA B X (e :: es) t) (hdb : (x == ("__debug__" : Str)) = false := by decide)
    (hst : starEach (e :: es) X.env = (false, eval e X.env) :: starEach es X.env := by rfl) (hpl : (backTo pos (starEach es X.env)).any (·.1) = false := by rfl) : JE B X (.Call (.Name x p) (e :: es) [] pos) (wCallX (fun C _ S => EB C S) ps.length s t) := by
  obtain ⟨f, fd, F, hm, kp, b⟩ := c
  refine pe_imp (pe_callS (E := fun _ => xOfB X.K B EB) F hr hg hm kp b hp ha hdb hst hpl) fun σ H Q ⟨st, S, Q0, he, hr, hs, h, im⟩ => ?_
  refine ⟨st, S, _, he, hr, hs, h, fun xs S1 h1 H1 vs e1 s1 r1 => ?_⟩
  exact ⟨fun P hP => (he.trans e1).tabs P (ht P hP), xs, S1, Q0, _, h1.1, r1, s1, h1.2, fun z S2 q => fin_ext e1 (im z S2 q), fun C S' H' q e2 s2 => ⟨C, S', rfl, rfl, he.trans (e1.trans e2), s2, q⟩⟩
end
end Wp

set_option Elab.async false
set_option linter.all false
set_option maxRecDepth 100000
set_option maxHeartbeats 4000000
/-! sorting data; dicts with nested keys, gathered -/
namespace Wp
open PySem PySem.Calls PySem.Spec PyProof.Rows L2
/-! ### plain data -/
mutual
def encT : T → PyData
  | .non => .none
  | .bl b => .bool b
  | .int i => .int i
  | .str x => .str x
  | .tup ts => .tuple (encTs ts)
  | .fl _ => .none
  | .pt _ => .none
  | .ref _ => .none
def encTs : List T → List PyData
  | [] => []
  | t :: ts => encT t :: encTs ts
end
mutual
def plainD : T → Bool
  | .non => true
  | .bl _ => true
  | .int _ => true
  | .str _ => true
  | .tup ts => plainDs ts
  | .fl _ => false
  | .pt _ => false
  | .ref _ => false
def plainDs : List T → Bool
  | [] => true
  | t :: ts => plainD t && plainDs ts
end
theorem encTs_map : ∀ ts : List T, encTs ts = ts.map encT
  | [] => rfl
  | t :: ts => by rw [encTs, encTs_map ts]; rfl
theorem plainDs_all : ∀ {ts : List T}, plainDs ts = true → ∀ t ∈ ts, plainD t = true
  | [], _, t, h => by cases h
  | a :: ts, h, t, ht => by
    rw [plainDs, Bool.and_eq_true] at h
    rcases List.mem_cons.mp ht with rfl | ht
    · exact h.1
    · exact plainDs_all h.2 t ht
section
variable {P : Program} {w : World} {K : PySem.W.Frag} {H : Hp} {h : Heap}
mutual
theorem rep_reads (ok : HOk P w H h) : ∀ (t : T) (v : V) (u : Value), plainD t = true → Rep K H t v → RelV v u → Reads h u (encT t) []
  | .non, _, _, _, r, q => by cases r; cases q; exact .none
  | .bl b, _, _, _, r, q => by cases r; cases q; exact .bool b
  | .int i, _, _, _, r, q => by cases r; obtain ⟨t, rfl⟩ := q; exact .int i t
  | .str x, _, _, _, r, q => by cases r; obtain ⟨t, rfl⟩ := q; exact .str x t
  | .tup ts, _, _, hp, r, q => by
    rw [plainD] at hp
    cases r with
    | @tup a xs _ e1 r =>
      cases q
      obtain ⟨_, its, rv, o, h1, h2, n, h3⟩ := (show ObjOk P w H h a (.tup xs) from ok a _ e1)
      exact .tuple h1 h2 h3 (by simpa using reps_reads ok ts xs its hp r rv)
  | .fl _, _, _, hp, _, _ => by cases hp
  | .pt _, _, _, hp, _, _ => by cases hp
  | .ref _, _, _, hp, _, _ => by cases hp
theorem reps_reads (ok : HOk P w H h) : ∀ (ts : List T) (vs : List V) (us : List Value), plainDs ts = true → Reps K H ts vs → Vals vs us → ReadsAll h us (encTs ts) []
  | [], _, _, _, r, q => by cases r; cases q; exact .nil
  | t :: ts, _, _, hp, r, q => by
    rw [plainDs, Bool.and_eq_true] at hp
    cases r with
    | cons r1 r2 =>
      cases q with
      | cons q1 q2 => exact ReadsAll.cons (as := []) (bs := []) (rep_reads ok t _ _ hp.1 r1 q1) (reps_reads ok ts _ _ hp.2 r2 q2)
end
/-- a value against a tree -/
def RT (K : PySem.W.Frag) (H : Hp) (u : Value) (t : T) : Prop := ∃ v, Rep K H t v ∧ RelV v u
theorem rt_of : ∀ {ts : List T} {vs : List V} {us : List Value}, Reps K H ts vs → Vals vs us → PySem.W.EachIs (RT K H) us ts
  | [], _, _, r, q => by cases r; cases q; exact .nil
  | t :: ts, _, _, r, q => by
    cases r with
    | cons r1 r2 =>
      cases q with
      | cons q1 q2 => exact .cons ⟨_, r1, q1⟩ (rt_of r2 q2)
theorem rt_un : ∀ {ts : List T} {us : List Value}, PySem.W.EachIs (RT K H) us ts → ∃ vs, Reps K H ts vs ∧ Vals vs us
  | _, _, .nil => ⟨[], .nil, .nil⟩
  | _, _, .cons ⟨v, r1, q1⟩ h => by
    obtain ⟨vs, r2, q2⟩ := rt_un h
    exact ⟨v :: vs, .cons r1 r2, .cons q1 q2⟩
theorem rt_reads (ok : HOk P w H h) {a : Addr} : ∀ {ts : List T} {us : List Value}, plainDs ts = true → PySem.W.EachIs (RT K H) us ts → PySem.W.EachIs (fun v b => ∃ as, Reads h v (encT b) as ∧ a ∉ as) us ts
  | _, _, _, .nil => .nil
  | t :: ts, u :: us, hp, .cons ⟨v, r1, q1⟩ r => by
    rw [plainDs, Bool.and_eq_true] at hp
    exact .cons ⟨[], rep_reads ok t v u hp.1 r1 q1, by simp⟩ (rt_reads ok hp.2 r)
end
/-- the order -/
def leT : T → T → Bool := PySem.W.dataLe false encT
/-- what may be sorted -/
structure Srt (ts : List T) : Prop where
  p : plainDs ts = true
  a : PySem.W.AllAlike (ts.map encT)
  s : PySem.W.Sortable (ts.map encT)
  d : ∀ t ∈ ts, (encT t).depth ≤ 16
/-- sorted(xs), a list of data -/
def rSortT (xs : List T) (S : Sta) (Q : T → Sta → Prop) : Prop := match xs with
  | [.ref p] => ∃ ts, S p = some (.lst ts) ∧ Srt ts ∧ ∀ q, S q = none → Q (.ref q) (upS S q (.lst (ts.mergeSort leT)))
  | _ => False
theorem c_sortT {X : Cx} (hu : X.A.units + 65 < cLine) : CallR X (.builtin "sorted") (LC X.K rSortT) := by
  intro pins s σ H xs us Q I rx ⟨ts, S, Q0, r, hs, q, im⟩
  match ts, q with
  | [.ref p], ⟨ts, e, st, q⟩ =>
    obtain ⟨v, rfl, r1⟩ := r.one
    cases r1
    obtain ⟨ys, g1, g2⟩ := hs p _ e
    obtain rfl := Vals.ref1 rx
    obtain ⟨z, its, n, rv, ho⟩ := I.hok p _ g1
    have er : PySem.W.EachIs (RT X.K H) its ts := rt_of g2 rv
    have hl : s.heap.IsList p its.toArray := ⟨_, ho, rfl, n, rfl⟩
    have lz : ts.length ≤ sizeLine := by rw [g2.length]; exact z
    refine PySem.W.sorted_data (enc := encT) hl er ((rt_reads I.hok (a := 0) st.p er).mono fun _ _ ⟨as, x, _⟩ => ⟨as, x⟩) st.a st.s lz (fun b hb => by have := st.d b hb; omega) fun out lo eo => ?_
    obtain ⟨vs, r2, q2⟩ := rt_un eo
    obtain ⟨c, hc⟩ := sortedAll_at s.heap its out.toArray
    have hn : H (s.heap.objs.size + 1) = none := I.hok.fresh (Nat.le_succ _)
    have lv : vs.length ≤ sizeLine := by rw [← r2.length, List.length_mergeSort]; exact lz
    refine ⟨.ref _, upd H (s.heap.objs.size + 1) (.lst vs), I.laid (t' := s.toks) (fun b o e => sortedAll_old e) (Nat.le_succ _) ⟨lv, out, c, q2, hc⟩, rfl, ?_⟩
    obtain ⟨e3, s3⟩ := hs.newL hn r2
    exact im _ _ (q _ (hs.free hn)) _ _ e3 s3 (.ref _)
/-- what a dict of nested keys holds, as raw entries -/
theorem nd_raw {P : Program} {w : World} {K : PySem.W.Frag} {S : Sta} {H : Hp} {h : Heap} {a : Addr} {kvs : List (NK × T)} (ok : HOk P w H h) (hs : St K S H) (e : S a = some (.ot (.dnt kvs))) :
    ∃ es ep, h.DictRaw a es ep ∧ es.size = kvs.length ∧ es.size ≤ sizeLine ∧ (a == sysModules) = false ∧ ∀ i (hi : i < es.size), ∃ k t, kvs[i]? = some (k, t) ∧ RT K H es[i].key (tk k) ∧ RT K H es[i].val t ∧ fineK k = true := by
  obtain ⟨ys, nv, d, z, hd⟩ := nd_rd ok hs e
  obtain ⟨es, ep, hr, hz, he⟩ := d.raw
  have lk : kvs.length = ys.length := Paired.length nv
  refine ⟨es, ep, hr, by omega, by omega, hd, fun i hi => ?_⟩
  obtain ⟨y, hy, h1, h2, h3⟩ := he i hi
  have hik : i < kvs.length := by omega
  have : ∀ {kvs : List (NK × T)} {ys : List (NK × Addr × Value)} {i : Nat} {y : NK × Addr × Value}, NV K H kvs ys → ys[i]? = some y → ∃ p, kvs[i]? = some p ∧ fineK p.1 = true ∧ Rep K H (tk p.1) (.ref y.2.1) ∧ ∃ v, Rep K H p.2 v ∧ RelV v y.2.2 := by
    intro kvs ys i y r
    induction r generalizing i with
    | nil => intro e; simp at e
    | @cons p q ps qs z r ih =>
      intro e
      cases i with
      | zero =>
        have e : q = y := by simpa using e
        subst e
        exact ⟨p, rfl, z.2.1, z.2.2.1, z.2.2.2⟩
      | succ i => exact ih (by simpa using e)
  obtain ⟨p, e1, e2, e3, v, e4, e5⟩ := this nv hy
  exact ⟨p.1, p.2, e1, ⟨_, e3, by rw [h1]; rfl⟩, ⟨v, e4, by rw [h2]; exact e5⟩, e2⟩
theorem each_of {K : PySem.W.Frag} {H : Hp} {f : NK × T → T} : ∀ {us : List Value} {kvs : List (NK × T)}, us.length = kvs.length → (∀ (i : Nat) (u : Value), us[i]? = some u → ∃ p, kvs[i]? = some p ∧ RT K H u (f p)) → PySem.W.EachIs (RT K H) us (kvs.map f)
  | [], [], _, _ => .nil
  | [], _ :: _, h, _ => by cases h
  | _ :: _, [], h, _ => by cases h
  | u :: us, p :: kvs, h, g => by
    obtain ⟨p', e, r⟩ := g 0 u rfl
    cases e
    exact .cons r (each_of (Nat.succ.inj h) fun i u e => g (i + 1) u e)
/-- sorted(d) -/
def rSortN (xs : List T) (S : Sta) (Q : T → Sta → Prop) : Prop := match xs with
  | [.ref p] => ∃ kvs, S p = some (.ot (.dnt kvs)) ∧ Srt (kvs.map fun p => tk p.1) ∧ ∀ q, S q = none → Q (.ref q) (upS S q (.lst ((kvs.map fun p => tk p.1).mergeSort leT)))
  | _ => False
theorem c_sortN {X : Cx} (hc : X.calm = true) (hu : X.A.units + 65 < cLine) : CallR X (.builtin "sorted") (LC X.K rSortN) := by
  intro pins s σ H xs us Q I rx ⟨ts, S, Q0, r, hs, q, im⟩
  match ts, q with
  | [.ref a], ⟨kvs, e, st, q⟩ =>
    obtain ⟨v, rfl, r1⟩ := r.one
    cases r1
    obtain rfl := Vals.ref1 rx
    obtain ⟨es, ep, hr, hz, few, top, ent⟩ := nd_raw I.hok hs e
    refine Calls.call_function_entry (id := "sorted") rfl rfl PyProof.Rows.entry_sorted (by rfl) ?_
    unfold Builtin.sorted
    refine wpAny_bind ?_
    show wpAny _ _ (pure ()) _ _ _
    refine wpAny_pure ?_
    refine wpAny_bind ?_
    refine gather (PySem.KdlSrc.rawDict (ep := ep) top) (I.ok.hd hc) hr few fun h1 tk' acc keep big items => ?_
    have la : acc.toList.length = es.size := by rw [Array.length_toList, items.1]
    have er : PySem.W.EachIs (RT X.K H) acc.toList (kvs.map fun p => tk p.1) := each_of (by omega) fun i u eu => by
      obtain ⟨hi, rfl⟩ := items.2 i u (by rw [← Array.getElem?_toList]; exact eu)
      obtain ⟨k, t, e1, e2, _, _⟩ := ent i hi
      exact ⟨(k, t), e1, e2⟩
    have grow1 : s.heap.objs.size ≤ h1.objs.size := Nat.le_of_lt big
    refine wpAny_bind ?_
    refine wpAny_newList ?_ (by rw [la]; exact few)
    have below : ∀ {b : Addr} {o : Obj}, h1.get? b = some o → b ≠ h1.objs.size := fun q => Nat.ne_of_lt (Heap.lt_size q)
    obtain ⟨h2, e2⟩ : ∃ h2, h1.push { cls := .type "list", data := .seq acc.toList.toArray } = h2 := ⟨_, rfl⟩
    have lay : h2.get? h1.objs.size = some (seqObj "list" acc.toList.toArray 0) := by rw [← e2]; exact Heap.get?_push_size _ rfl
    have grown : ∀ {b : Addr} {o : Obj}, h1.get? b = some o → h2.get? b = some o := fun q => by rw [← e2]; exact Heap.get?_push_of_some _ q
    show wpAny _ _ _ _ _ { s with heap := h1.push { cls := .type "list", data := .seq acc.toList.toArray }, toks := tk' }
    rw [e2]
    have I1 : Inv X pins σ H { s with heap := h2, toks := tk' } := I.kept (t' := tk') fun b o q => grown (keep b o q)
    have lz : (kvs.map fun p => tk p.1).length ≤ sizeLine := by rw [List.length_map]; omega
    refine wpAny_bind (wpAny_holding ?_)
    refine wpAny_mono (PySem.W.list_sort_data (s := { s with heap := h2, toks := tk' }) (enc := encT) lay er (rt_reads I1.hok st.p er) st.a st.s lz (fun b hb => by have := st.d b hb; show X.A.units + 1 + 1 + _ < _; omega) fun out lo eo => ?_) (fun _ _ x => x) fun _ _ x => x
    obtain ⟨vs, r2, q2⟩ := rt_un eo
    obtain ⟨c, he'⟩ := PyProof.Rows.sortedHeap_at (vs := acc.toList) (out := out.toArray) lay
    have kept : ∀ {b : Addr} {o : Obj}, h1.get? b = some o → (sortedHeap h2 h1.objs.size acc.toList out.toArray).get? b = some o := fun q => (PyProof.Rows.sortedHeap_old (below q) (Heap.lt_size (grown q))).trans (grown q)
    have lv : vs.length ≤ sizeLine := by rw [← r2.length, List.length_mergeSort]; exact lz
    have hn : H h1.objs.size = none := I.hok.fresh grow1
    refine wpAny_pure ?_
    obtain ⟨e3, s3⟩ := hs.newL hn r2
    exact ⟨.ref _, rfl, .ref _, upd H h1.objs.size (.lst vs), I.laid (t' := tk') (fun b o q => kept (keep b o q)) grow1 ⟨lv, out, c, q2, he'⟩, rfl, im _ _ (q _ (hs.free hn)) _ _ e3 s3 (.ref _)⟩
end Wp

set_option Elab.async false
set_option linter.all false
set_option maxRecDepth 100000
set_option maxHeartbeats 4000000
/-! dicts with nested keys: methods, del, {}, what they hold -/
namespace Wp
open PySem PySem.Calls PySem.Spec PyProof.Rows L2
section
variable {X : Cx} {o e i : Expr} {es : List Expr} {ro : TE} {rt : TA} {name : Str} {apos cpos pos tpos : Pos} {id : String} {r : V → List V → Hp → VK → Prop}
theorem nO_type {pins : List (Addr × Obj)} {σ : L2.St} {H : Hp} {s : Shared} {a : Addr} {xs : List (NK × Addr × V)} (I : Inv X pins σ H s) (e : H a = some (nO a xs)) : s.TypeIs (.ref a) "dict" ∧ ∀ b, Value.ref a = .ref b → ∃ ob, s.heap.get? b = some ob ∧ ob.dict = none := by
  obtain ⟨⟨w', ys, pr, nd, z, hd, o, es, ep, h1, h2, h3, h4⟩, _⟩ := (show ObjOk X.prog X.w H s.heap a (nO a xs) from I.hok a _ e)
  refine ⟨⟨o, h1, h2.1⟩, fun b q => ?_⟩
  cases q
  exact ⟨o, h1, h2.2.1⟩
/-- a method of such a dict -/
def tBN (r : V → List V → Hp → VK → Prop) (to : TE) (t : TA) : TE := fun σ H Q => to σ H fun x H1 => ∃ a xs, x = .ref a ∧ H1 a = some (nO a xs) ∧ t σ H1 fun us H2 => r x us H2 Q
theorem pe_bmN (slot : Slot "dict" name id) (hty : typeOf (.builtin id) = pure (.type "method_descriptor")) (hm : MtR X id r) (ho : PE X o ro) (ha : PA X (e :: es) rt)
    (hbase : attributeBase o name X.env (eval o X.env) = eval o X.env := by rfl)
    (hfew : ((backTo cpos (starEach (e :: es) X.env)).all (fun x => !x.1) && (backToKw cpos (keywordEach [] X.env)).all (fun x => x.1.isSome)
      && decide ((e :: es).length + ([] : List Keyword).length + (if ([] : List Keyword).isEmpty then 0 else 1) < 30)) = true := by rfl)
    (hline : (apos.endLine == cpos.line) = true := by rfl) (hs : starEach (e :: es) X.env = (false, eval e X.env) :: starEach es X.env := by rfl) (hplain : (backTo cpos (starEach es X.env)).any (·.1) = false := by rfl) :
    PE X (.Call (.Attribute o name apos) (e :: es) [] cpos) (tBN r ro rt) := by
  refine ⟨fun pins s σ H Q I h => ?_⟩
  refine wpAny_Call_method_late hbase hfew hline rfl (thn (ho.run pins s σ H _ I h) fun v s1 ⟨x, H1, I1, r1, a, xs, ex, ea, q1⟩ => ?_)
  subst ex
  obtain rfl : v = Value.ref a := r1
  obtain ⟨h1, h2⟩ := nO_type I1 ea
  refine ⟨"dict", id, PySem.F.plainAttrs_dict, slot, hty, h1, h2, ?_⟩
  have hA := ha.run cpos pins s1 σ H1 _ I1 q1
  rw [hs] at hA ⊢
  refine Calls.callWith_builtin (by show (false || (backTo cpos (starEach es X.env)).any (·.1)) = false; rw [hplain] <;> rfl) (Calls.evalArgs_plain ?_)
  exact thn hA fun us s2 ⟨vs, H2, I2, r2, q2⟩ => hm pins s2 σ H2 (.ref a) vs _ us Q I2 rfl r2 q2
end
section
variable {B : Hp} {X : Cx} {o e f i : Expr} {es : List Expr} {to ti : WE} {t : WA} {name : Str} {apos cpos pos tpos : Pos} {id : String} {r : RM3}
def wMtN (r : RM3) (to : WE) (t : WA) (σ : Sl) (S : Sta) (Q : T → Sta → Prop) : Prop := to σ S fun x S1 => match x with
  | .ref p => (∃ kvs, S1 p = some (.ot (.dnt kvs))) ∧ t σ S1 fun ts S2 => r (.ref p) ts S2 Q
  | _ => False
theorem j_mtN (slot : Slot "dict" name id) (hty : typeOf (.builtin id) = pure (.type "method_descriptor")) (hm : MtR X id (LM X.K r)) (ho : JE B X o to) (ha : JA B X (e :: es) t)
    (hbase : attributeBase o name X.env (eval o X.env) = eval o X.env := by rfl)
    (hfew : ((backTo cpos (starEach (e :: es) X.env)).all (fun x => !x.1) && (backToKw cpos (keywordEach [] X.env)).all (fun x => x.1.isSome)
      && decide ((e :: es).length + ([] : List Keyword).length + (if ([] : List Keyword).isEmpty then 0 else 1) < 30)) = true := by rfl)
    (hline : (apos.endLine == cpos.line) = true := by rfl) (hs : starEach (e :: es) X.env = (false, eval e X.env) :: starEach es X.env := by rfl) (hplain : (backTo cpos (starEach es X.env)).any (·.1) = false := by rfl) :
    JE B X (.Call (.Attribute o name apos) (e :: es) [] cpos) (wMtN r to t) := pe_imp (pe_bmN slot hty hm ho ha hbase hfew hline hs hplain) fun σ H Q ⟨st, S, Q0, he, hr, hs, h, im⟩ => by
  refine ⟨st, S, _, he, hr, hs, h, fun x S1 h1 H1 v e1 s1 r1 => ?_⟩
  cases x with
  | ref p =>
    obtain ⟨⟨kvs, e2⟩, h1⟩ := h1
    cases r1
    obtain ⟨xs, g1, g2⟩ := s1 p _ e2
    refine ⟨p, xs, rfl, g1, st, S1, _, he.trans e1, hr.mono e1, s1, h1, fun ts S2 h2 H2 vs e3 s3 r3 => ?_⟩
    exact ⟨_, ts, S2, Q0, .ref p, r3, s3, h2, fun z S4 q => fin_ext (e1.trans e3) (im z S4 q)⟩
  | _ => exact h1.elim
/-- d.get(k), d.get(k, x) -/
def rGetN (x : T) (ts : List T) (S : Sta) (Q : T → Sta → Prop) : Prop := match x, ts with
  | .ref p, [y] => ∃ kvs k, S p = some (.ot (.dnt kvs)) ∧ keyN y = some k ∧ Q ((valN kvs k).getD .non) S
  | .ref p, [y, z] => ∃ kvs k, S p = some (.ot (.dnt kvs)) ∧ keyN y = some k ∧ Q ((valN kvs k).getD z) S
  | _, _ => False
theorem NvO.getD {K : PySem.W.Frag} {H : Hp} {a : Option T} {b : Option (Addr × Value)} {t : T} {v : V} {u : Value} (h : NvO K H a b) (r : Rep K H t v) (q : RelV v u) : RT K H ((b.map (·.2)).getD u) (a.getD t) := by
  cases a <;> cases b <;> first | exact h.elim | skip
  · exact ⟨v, r, q⟩
  · exact h
theorem m_getN (hu : X.A.units + 65 < cLine) : MtR X "dict.get" (LM X.K rGetN) := by
  intro pins s σ H x xs v us Q I rx rxs ⟨t, ts, S, Q0, rt, rts, hs, q, im⟩
  match t, ts, q with
  | .ref p, [y], ⟨kvs, k, e, ek, q⟩ =>
    cases rt
    obtain rfl : v = Value.ref p := rx
    obtain ⟨yv, rfl, ry⟩ := rts.one
    obtain ⟨u, rfl, ru⟩ := Vals.one rxs
    obtain ⟨b, rfl, rfl, hf, rk, hk⟩ := nd_key I ry ru ek
    obtain ⟨ys, nv, d, z, hd⟩ := nd_rd I.hok hs e
    obtain ⟨w, r1, r2⟩ := (nv.val k).getD (K := X.K) (H := H) (t := .non) (v := .non) (u := .none) .non rfl
    exact call_meetsIn PySem.F.slot_dict_get d.typeIs PySem.F.entry_dict_get (PySem.F.args_dict_get_2 _ _) (meetsH_dict_get (nestedKind X.prog X.w) p b hd) ⟨nd_room hu, k, ys, hk, d, w, H, I.tok _, r2, im _ _ q H w (Ext.refl H) hs r1⟩
  | .ref p, [y, z], ⟨kvs, k, e, ek, q⟩ =>
    cases rt
    obtain rfl : v = Value.ref p := rx
    obtain ⟨yv, zv, rfl, ry, rz⟩ := rts.two
    obtain ⟨u, u2, rfl, ru, ru2⟩ := Vals.two rxs
    obtain ⟨b, rfl, rfl, hf, rk, hk⟩ := nd_key I ry ru ek
    obtain ⟨ys, nv, d, z', hd⟩ := nd_rd I.hok hs e
    obtain ⟨w, r1, r2⟩ := (nv.val k).getD (K := X.K) (H := H) rz ru2
    exact call_meetsIn PySem.F.slot_dict_get d.typeIs PySem.F.entry_dict_get (PySem.F.args_dict_get_3 _ _ _) (meetsH_dict_get_default (nestedKind X.prog X.w) p b hd u2) ⟨nd_room hu, k, ys, hk, d, w, H, I.tok _, r2, im _ _ q H w (Ext.refl H) hs r1⟩
/-- d.pop(k), there; d.pop(k, x) -/
def rPopN (x : T) (ts : List T) (S : Sta) (Q : T → Sta → Prop) : Prop := match x, ts with
  | .ref p, [y] => ∃ kvs k v, S p = some (.ot (.dnt kvs)) ∧ keyN y = some k ∧ valN kvs k = some v ∧ Q v (upS S p (.ot (.dnt (dropN kvs k))))
  | .ref p, [y, z] => ∃ kvs k, S p = some (.ot (.dnt kvs)) ∧ keyN y = some k ∧ match valN kvs k with
    | some v => Q v (upS S p (.ot (.dnt (dropN kvs k))))
    | none => Q z S
  | _, _ => False
theorem m_popN (hu : X.A.units + 65 < cLine) : MtR X "dict.pop" (LM X.K rPopN) := by
  intro pins s σ H x xs v us Q I rx rxs ⟨t, ts, S, Q0, rt, rts, hs, q, im⟩
  match t, ts, q with
  | .ref p, [y], ⟨kvs, k, w, e, ek, ev, q⟩ =>
    cases rt
    obtain rfl : v = Value.ref p := rx
    obtain ⟨yv, rfl, ry⟩ := rts.one
    obtain ⟨u, rfl, ru⟩ := Vals.one rxs
    exact nd_pop hu I hs e ry ru ek ev (.inl rfl) fun v w' H' s' I' ex st r1 r2 => ⟨v, H', I', r2, im _ _ q H' v ex st (Rep.mono ex _ _ r1)⟩
  | .ref p, [y, z], ⟨kvs, k, e, ek, q⟩ =>
    cases rt
    obtain rfl : v = Value.ref p := rx
    obtain ⟨yv, zv, rfl, ry, rz⟩ := rts.two
    obtain ⟨u, u2, rfl, ru, ru2⟩ := Vals.two rxs
    cases ev : valN kvs k with
    | some w =>
      rw [ev] at q
      exact nd_pop hu I hs e ry ru ek ev (.inr ⟨u2, rfl⟩) fun v w' H' s' I' ex st r1 r2 => ⟨v, H', I', r2, im _ _ q H' v ex st (Rep.mono ex _ _ r1)⟩
    | none =>
      rw [ev] at q
      exact nd_popD hu I hs e ry ru ek ev fun s' I' => ⟨zv, H, I', ru2, im _ _ q H zv (Ext.refl H) hs rz⟩
/-- d.setdefault(k, x) -/
def rSetDefN (x : T) (ts : List T) (S : Sta) (Q : T → Sta → Prop) : Prop := match x, ts with
  | .ref p, [y, z] => ∃ kvs k, S p = some (.ot (.dnt kvs)) ∧ keyN y = some k ∧ kvs.length < sizeLine ∧ match valN kvs k with
    | some v => Q v S
    | none => Q z (upS S p (.ot (.dnt (putN kvs k z))))
  | _, _ => False
theorem m_setdefN (hu : X.A.units + 65 < cLine) : MtR X "dict.setdefault" (LM X.K rSetDefN) := by
  intro pins s σ H x xs v us Q I rx rxs ⟨t, ts, S, Q0, rt, rts, hs, q, im⟩
  match t, ts, q with
  | .ref p, [y, z], ⟨kvs, k, e, ek, hl, q⟩ =>
    cases rt
    obtain rfl : v = Value.ref p := rx
    obtain ⟨yv, zv, rfl, ry, rz⟩ := rts.two
    obtain ⟨u, u2, rfl, ru, ru2⟩ := Vals.two rxs
    refine nd_setdefault hu I hs e ry ru ek hl rz ru2 (fun t0 v w' s' ev I' r1 r2 => ?_) fun ev H' s' I' ex st => ?_
    · rw [ev] at q
      exact ⟨v, H, I', r2, im _ _ q H v (Ext.refl H) hs r1⟩
    · rw [ev] at q
      exact ⟨zv, H', I', ru2, im _ _ q H' zv ex st (Rep.mono ex _ _ rz)⟩
/-- del d[k] -/
def rDelN (x y : T) (S : Sta) (Q : Sta → Prop) : Prop := match x with
  | .ref p => ∃ kvs k, S p = some (.ot (.dnt kvs)) ∧ keyN y = some k ∧ (valN kvs k).isSome = true ∧ Q (upS S p (.ot (.dnt (dropN kvs k))))
  | _ => False
def wDelN (to ti : WE) (D : WEnds) (σ : Sl) (S : Sta) : Prop := to σ S fun x S1 => ti σ S1 fun y S2 => rDelN x y S2 (goS D.nx σ)
theorem js_delN (hu : X.A.units + 65 < cLine) (ho : JE B X o to) (hi : JE B X i ti) : JS B X (.Delete [.Subscript o i tpos] pos) (wDelN to ti) := by
  refine ⟨fun pins s σ H D I ⟨st, S, D0, he, hr, hs, h, im⟩ => ?_⟩
  refine wpAny_Delete (wpAny_deleteEach_cons (wpAny_delete_Subscript (thn (ho.run pins s σ H (fun x H1 => ∃ t S1, Ext H H1 ∧ St X.K S1 H1 ∧ Rep X.K H1 t x ∧ ti st S1 fun y S2 => rDelN t y S2 (goS D0.nx st)) I
    ⟨st, S, _, he, hr, hs, h, fun x S1 h1 H1 v e1 s1 r1 => ⟨x, S1, e1, s1, r1, h1⟩⟩) fun u s1 ⟨x, H1, I1, rx, t, S1, e1, s1', rt, h1⟩ =>
    thn (hi.run pins s1 σ H1 (fun y H2 => ∃ yt S2, Ext H1 H2 ∧ St X.K S2 H2 ∧ Rep X.K H2 yt y ∧ rDelN t yt S2 (goS D0.nx st)) I1 ⟨st, S1, _, he.trans e1, hr.mono e1, s1', h1, fun y S2 h2 H2 v e2 s2 r2 => ⟨y, S2, e2, s2, r2, h2⟩⟩) fun iv s2 ⟨y, H2, I2, ry, yt, S2, e2, s2', r2, h2⟩ => ?_)))
  cases t with
  | ref p =>
    obtain ⟨kvs, k, e, ek, ev, q⟩ := h2
    cases rt
    obtain rfl : u = Value.ref p := rx
    exact nd_delItem hu I2 s2' e r2 ry ek ev fun H' s3 I3 ex st' => wpAny_deleteEach_nil ⟨σ, H', I3, im.nx _ _ q H' σ (e1.trans (e2.trans ex)) st' (hr.mono (e1.trans (e2.trans ex)))⟩
  | _ => exact h2.elim
/-- {} -/
def wDNewN (u0 : Sl) (S : Sta) (Q : T → Sta → Prop) : Prop := ∀ p, S p = none → Q (.ref p) (upS S p (.ot (.dnt [])))
theorem nO_empty {P : Program} {w : World} {H : Hp} (h : Heap) (hb : sysModules < h.objs.size) : ObjOk P w H (h.push { cls := .type "dict", data := .dict #[] }) h.objs.size (nO h.objs.size []) :=
  nd_ok (w := w) (ys := []) .nil (Heap.DictOfH.new h) (Nat.zero_le _) (beq_eq_false_iff_ne.mpr (Ne.symm (Nat.ne_of_lt hb)))
theorem j_dnewN : JE B X (.Dict [] [] pos) wDNewN := ⟨fun pins s σ H Q I ⟨st, S, Q0, he, hr, hs, h, im⟩ => by
  have hn : H s.heap.objs.size = none := I.hok.fresh (Nat.le_refl _)
  obtain ⟨e1, s1⟩ := hs.newO (u' := nO s.heap.objs.size []) (o' := .ot (.dnt [])) hn fun ex => ⟨[], upd_same, .nil⟩
  exact wpAny_Dict_empty ⟨.ref s.heap.objs.size, _, I.laid (a := s.heap.objs.size) (o := nO s.heap.objs.size []) (t' := s.toks) (fun _ _ q => Heap.get?_push_of_some _ q) (Nat.le_refl _) (nO_empty s.heap I.big), rfl, im _ _ (h _ (hs.free hn)) _ _ e1 s1 (.ref _)⟩⟩
end
end Wp

set_option Elab.async false
set_option linter.all false
set_option maxRecDepth 100000
set_option maxHeartbeats 4000000
/-! tuple(d.values()), list(d.values()) -/
namespace Wp
open PySem PySem.Calls PySem.Spec PyProof.Rows L2
section
variable {prog : Program} {w : World} {A : Around} {E : Value → Shared → Prop} {s : Shared}
theorem tuple_src {r d : Addr} {n : Nat} {P : Nat → Value → Prop} {OK : Heap → Prop} {Q : Value → Shared → Prop} (K : PySem.W.KdlSrc prog w "dict_values" r d n P OK) (hh : A.handled = none) (hok : OK s.heap) (few : n ≤ sizeLine)
    (h : ∀ (g : Heap) (tk : Nat) (acc : Array Value), (∀ b o, s.heap.get? b = some o → g.get? b = some o) → s.heap.objs.size < g.objs.size → ItemsOf P acc n → Q (.ref g.objs.size) { s with heap := g.push { cls := .type "tuple", data := .seq acc }, toks := tk }) :
    wpAny (model prog w) A (call (.type "tuple") [.ref r]) Q E s := by
  refine callType_codes (Q₁ := fun obj s₁ => s₁.TypeIs obj "tuple" ∧ Q obj s₁) PySem.F.called_tuple (PySem.F.typeCall_tuple_1 _) PySem.F.entry_object_init ?_ fun obj s₁ h₁ =>
    ⟨h₁.1, PySem.F.args_object_init_2 obj _, object_init_meets PySem.F.called_tuple.init.lookup PySem.F.called_tuple.made (by decide) prog w A.in1 _ s₁ ⟨h₁.1, rfl, h₁.2⟩⟩
  refine codeAny_of_tree ?_
  show wpAny _ _ (do checkBuiltinCall "tuple.__new__" ⟨[.type "tuple", .ref r], []⟩; again (.builtin "tuple.__new__" ⟨[.type "tuple", .ref r], []⟩)) _ _ s
  refine wpAny_bind (wpAny_of_eq (PySem.F.newCall_tuple_1 _) (wpAny_pure ⟨plainId_quiet PySem.F.plain_tuple_new _, codeAny_builtin PySem.F.entry_tuple_new ?_⟩))
  rw [Around.under_plainId PySem.F.plain_tuple_new _]
  have hsub := sub_tuple_self
  have hinit := init_tuple_lookup
  have hmh := madeHere_tuple
  have hTI := K.type _ hok
  have hh2 : A.in1.in1.handled = none := hh
  wp_walk using wpAny_typeOf hTI, gather K hh2 hok few
  intro g tk acc keep big items
  show wpAny _ _ (Builtin.Tuple.tupleExact acc.toList.toArray >>= fun v => ret v) _ _ _
  unfold Builtin.Tuple.tupleExact
  refine wpAny_bind (wpAny_newObj_type ?_ (by show acc.toList.toArray.size ≤ sizeLine; simp only [Array.toArray_toList]; rw [items.1]; exact few))
  refine wpAny_pure ?_
  have e : acc.toList.toArray = acc := by simp
  rw [e]
  exact ⟨⟨_, Heap.get?_push_size _ rfl, rfl⟩, h g tk acc keep big items⟩
end

/-- the values that a dict holds, in their order -/
def valsO : O → Option (List T)
  | .ot (.dnt kvs) => some (kvs.map (·.2))
  | .dct kvs => some (kvs.map (·.2))
  | _ => none
theorem vals_raw {P : Program} {w : World} {K : PySem.W.Frag} {S : Sta} {H : Hp} {h : Heap} {a : Addr} {o : O} {ts : List T} (ok : HOk P w H h) (hs : St K S H) (e : S a = some o) (ev : valsO o = some ts) :
    ∃ es ep, h.DictRaw a es ep ∧ es.size = ts.length ∧ es.size ≤ sizeLine ∧ (a == sysModules) = false ∧ ∀ i (hi : i < es.size), ∃ t, ts[i]? = some t ∧ RT K H es[i].val t := by
  unfold valsO at ev
  split at ev
  · rename_i kvs
    cases ev
    obtain ⟨es, ep, h1, h2, h3, h4, h5⟩ := nd_raw ok hs e
    refine ⟨es, ep, h1, by rw [List.length_map]; exact h2, h3, h4, fun i hi => ?_⟩
    obtain ⟨k, t, e1, e2, e3, _⟩ := h5 i hi
    exact ⟨t, by rw [List.getElem?_map, e1]; rfl, e3⟩
  · rename_i kvs
    cases ev
    obtain ⟨xs, g1, g2⟩ := hs a _ e
    obtain ⟨z, hd, vs, rel, dd⟩ := dk_of ok g1
    obtain ⟨es, ep, r1, r2, r3⟩ := dd.raw
    have l1 : kvs.length = xs.length := g2.length
    have l2 : xs.length = vs.length := rel.length
    refine ⟨es, ep, r1, by rw [List.length_map]; omega, by omega, hd, fun i hi => ?_⟩
    have hk : i < vs.length := by omega
    obtain ⟨_, ev⟩ := r3 i hi (vs[i]).1 (vs[i]).2 (List.getElem?_eq_getElem hk)
    have rl : ∀ {xs : List (Key × V)} {vs : List (Key × Value)} {i : Nat}, KV xs vs → ∀ (h1 : i < xs.length) (h2 : i < vs.length), RelV (xs[i]).2 (vs[i]).2 := by
      intro xs vs i r
      induction r generalizing i with
      | nil => intro h1; simp at h1
      | @cons p q ps qs z r ih =>
        intro h1 h2
        cases i with
        | zero => exact z.2
        | succ i => exact ih (by simpa using h1) (by simpa using h2)
    have rp : ∀ {kvs : List (Key × T)} {xs : List (Key × V)} {i : Nat}, KRep K H kvs xs → ∀ (h1 : i < kvs.length) (h2 : i < xs.length), Rep K H (kvs[i]).2 (xs[i]).2 := by
      intro kvs xs i r
      induction r generalizing i with
      | nil => intro h1; simp at h1
      | @cons f t v fs gs z r ih =>
        intro h1 h2
        cases i with
        | zero => exact z
        | succ i => exact ih (by simpa using h1) (by simpa using h2)
    have a1 : i < kvs.length := by omega
    have a2 : i < xs.length := by omega
    exact ⟨(kvs[i]).2, by rw [List.getElem?_map, List.getElem?_eq_getElem a1]; rfl, (xs[i]).2, rp g2 a1 a2, by rw [ev]; exact rl rel a2 hk⟩
  · cases ev
theorem each_vals {K : PySem.W.Frag} {H : Hp} : ∀ {us : List Value} {ts : List T}, us.length = ts.length → (∀ (i : Nat) (u : Value), us[i]? = some u → ∃ t, ts[i]? = some t ∧ RT K H u t) → PySem.W.EachIs (RT K H) us ts
  | [], [], _, _ => .nil
  | [], _ :: _, h, _ => by cases h
  | _ :: _, [], h, _ => by cases h
  | u :: us, p :: ts, h, g => by
    obtain ⟨p', e, r⟩ := g 0 u rfl
    cases e
    exact .cons r (each_vals (Nat.succ.inj h) fun i u e => g (i + 1) u e)
/-- tuple(d.values()) and list(d.values()) -/
def wTupVals (te : WE) (σ : Sl) (S : Sta) (Q : T → Sta → Prop) : Prop := te σ S fun x S1 => match x with
  | .ref a => ∃ o, S1 a = some o ∧ ∃ ts, valsO o = some ts ∧ Q (.tup ts) S1
  | _ => False
def wLstVals (te : WE) (σ : Sl) (S : Sta) (Q : T → Sta → Prop) : Prop := te σ S fun x S1 => match x with
  | .ref a => ∃ o, S1 a = some o ∧ ∃ ts, valsO o = some ts ∧ ∀ p, S1 p = none → Q (.ref p) (upS S1 p (.lst ts))
  | _ => False
section
variable {B : Hp} {X : Cx} {e : Expr} {te : WE} {p apos cpos pos : Pos}
theorem vals_call {pins : List (Addr × Obj)} {σ : L2.St} {H : Hp} {s : Shared} {S : Sta} {a : Addr} {o : O} {ts : List T} {Q : Value → Shared → Prop} {E : Value → Shared → Prop} (I : Inv X pins σ H s) (hs : St X.K S H) (eo : S a = some o) (ev : valsO o = some ts)
    (h : ∀ es ep, s.heap.DictRaw a es ep → es.size = ts.length → es.size ≤ sizeLine → (∀ i (hi : i < es.size), ∃ t, ts[i]? = some t ∧ RT X.K H es[i].val t) →
      Q (.ref s.heap.objs.size) { s with heap := s.heap.push { cls := .type "dict_values", data := .fields #[.ref a] } }) :
    s.TypeIs (.ref a) "dict" ∧ (∀ b, Value.ref a = .ref b → ∃ ob, s.heap.get? b = some ob ∧ ob.dict = none) ∧ wpAny (model X.prog X.w) X.A (callWith cpos (.builtin "dict.values") [.ref a] [] []) Q E s := by
  obtain ⟨es, ep, r1, r2, r3, r4, r5⟩ := vals_raw I.hok hs eo ev
  refine ⟨r1.typeIs, fun b q => ?_, ?_⟩
  · cases q
    obtain ⟨ob, h1, h2, _⟩ := r1
    exact ⟨ob, h1, h2.2.1⟩
  · exact method_meetsIn PySem.F.slot_dict_values PySem.F.entry_dict_values rfl (PySem.evalArgs_none ⟨rfl, r1.typeIs, PySem.F.args_dict_values_1 _, _, meets_dict_values_raw a r4, ⟨es, ep, r1⟩, h es ep r1 r2 r3 r5⟩)
theorem j_tupVals (hc : X.calm = true) (he : JE B X e te) (hg : Gl X "tuple") (hm : X.mg "tuple" = none) (hbase : attributeBase e "values" X.env (eval e X.env) = eval e X.env := by rfl) (hline : (apos.endLine == cpos.line) = true := by rfl)
    (hs : starEach [.Call (.Attribute e "values" apos) [] [] cpos] X.env = (false, eval (.Call (.Attribute e "values" apos) [] [] cpos) X.env) :: starEach [] X.env := by rfl) :
    JE B X (.Call (.Name "tuple" p) [.Call (.Attribute e "values" apos) [] [] cpos] [] pos) (wTupVals te) := by
  refine ⟨fun pins s σ H Q I ⟨st, S, Q0, eb, hr, hst, h, im⟩ => ?_⟩
  refine wpAny_Call_Name_kw (ld_blt I hg hm (u := .type "tuple") (by rfl) ?_)
  refine PyProof.Rows.callWith_type1 ?_ hs rfl
  rw [hs]
  show wpAny _ _ (spliced ((false, eval (.Call (.Attribute e "values" apos) [] [] cpos) X.env) :: backTo pos (starEach [] X.env))) _ _ s
  refine Calls.spliced_cons ?_
  refine wpAny_Call_method (T := "dict") (id := "dict.values") hbase rfl hline PySem.F.plainAttrs_dict PySem.F.slot_dict_values PySem.F.type_dict_values (thn (he.run pins s σ H (fun x H1 => ∃ a S1 o ts, x = .ref a ∧ Ext H H1 ∧ St X.K S1 H1 ∧ S1 a = some o ∧ valsO o = some ts ∧ Q0 (.tup ts) S1) I
    ⟨st, S, _, eb, hr, hst, h, fun x S1 h1 H1 v e1 s1 r1 => ?_⟩) fun u s1 ⟨x, H1, I1, rx, a, S1, o, ts, ex, e1, hs1, eo, ev, q⟩ => ?_)
  · cases x with
    | ref a =>
      obtain ⟨o, eo, ts, ev, q⟩ := h1
      cases r1
      exact ⟨a, S1, o, ts, rfl, e1, s1, eo, ev, q⟩
    | _ => exact h1.elim
  subst ex
  obtain rfl : u = Value.ref a := rx
  refine vals_call I1 hs1 eo ev fun es ep r1 r2 r3 r5 => ?_
  have I2 : Inv X pins σ H1 { s1 with heap := s1.heap.push { cls := .type "dict_values", data := .fields #[.ref a] } } := I1.kept (t' := s1.toks) fun b ob q => Heap.get?_push_of_some _ q
  refine Calls.spliced_nil ?_
  refine tuple_src (PySem.KdlSrc.rawValues (r := s1.heap.objs.size) (d := a) (es := es) (ep := ep)) (I1.ok.hd hc) ⟨⟨_, Heap.get?_push_size _ rfl, rfl, rfl⟩, r1.push _⟩ r3 fun g tk' acc keep big items => ?_
  have la : acc.toList.length = es.size := by rw [Array.length_toList, items.1]
  have er : PySem.W.EachIs (RT X.K H1) acc.toList ts := each_vals (by omega) fun i u eu => by
    obtain ⟨hi, rfl⟩ := items.2 i u (by rw [← Array.getElem?_toList]; exact eu)
    exact r5 i hi
  obtain ⟨vs, r6, q6⟩ := rt_un er
  have grow : s1.heap.objs.size ≤ g.objs.size := by
    have : s1.heap.objs.size + 1 < g.objs.size := by
      have b := big
      rw [Heap.size_push] at b
      exact b
    omega
  have lv : vs.length ≤ sizeLine := by rw [← r6.length]; omega
  have hn : H1 g.objs.size = none := I1.hok.fresh grow
  refine ⟨.ref _, upd H1 g.objs.size (.tup vs), I1.laid (t' := tk') (fun b o q => Heap.get?_push_of_some _ (keep b o (Heap.get?_push_of_some _ q))) grow ⟨lv, acc.toList, q6, _, Heap.get?_push_size _ rfl, rfl, 0, by simp⟩, rfl, ?_⟩
  exact im _ _ q _ _ (e1.trans (Ext.new hn)) (hs1.new hn _) (.tup upd_same (Reps.mono (Ext.new hn) _ _ r6))
theorem j_lstVals (hc : X.calm = true) (he : JE B X e te) (hg : Gl X "list") (hm : X.mg "list" = none) (hbase : attributeBase e "values" X.env (eval e X.env) = eval e X.env := by rfl) (hline : (apos.endLine == cpos.line) = true := by rfl)
    (hs : starEach [.Call (.Attribute e "values" apos) [] [] cpos] X.env = (false, eval (.Call (.Attribute e "values" apos) [] [] cpos) X.env) :: starEach [] X.env := by rfl) :
    JE B X (.Call (.Name "list" p) [.Call (.Attribute e "values" apos) [] [] cpos] [] pos) (wLstVals te) := by
  refine ⟨fun pins s σ H Q I ⟨st, S, Q0, eb, hr, hst, h, im⟩ => ?_⟩
  refine wpAny_Call_Name_kw (ld_blt I hg hm (u := .type "list") (by rfl) ?_)
  refine PyProof.Rows.callWith_type1 ?_ hs rfl
  rw [hs]
  show wpAny _ _ (spliced ((false, eval (.Call (.Attribute e "values" apos) [] [] cpos) X.env) :: backTo pos (starEach [] X.env))) _ _ s
  refine Calls.spliced_cons ?_
  refine wpAny_Call_method (T := "dict") (id := "dict.values") hbase rfl hline PySem.F.plainAttrs_dict PySem.F.slot_dict_values PySem.F.type_dict_values (thn (he.run pins s σ H (fun x H1 => ∃ a S1 o ts, x = .ref a ∧ Ext H H1 ∧ St X.K S1 H1 ∧ S1 a = some o ∧ valsO o = some ts ∧ ∀ p, S1 p = none → Q0 (.ref p) (upS S1 p (.lst ts))) I
    ⟨st, S, _, eb, hr, hst, h, fun x S1 h1 H1 v e1 s1 r1 => ?_⟩) fun u s1 ⟨x, H1, I1, rx, a, S1, o, ts, ex, e1, hs1, eo, ev, q⟩ => ?_)
  · cases x with
    | ref a =>
      obtain ⟨o, eo, ts, ev, q⟩ := h1
      cases r1
      exact ⟨a, S1, o, ts, rfl, e1, s1, eo, ev, q⟩
    | _ => exact h1.elim
  subst ex
  obtain rfl : u = Value.ref a := rx
  refine vals_call I1 hs1 eo ev fun es ep r1 r2 r3 r5 => ?_
  have I2 : Inv X pins σ H1 { s1 with heap := s1.heap.push { cls := .type "dict_values", data := .fields #[.ref a] } } := I1.kept (t' := s1.toks) fun b ob q => Heap.get?_push_of_some _ q
  refine Calls.spliced_nil ?_
  refine PySem.W.kdl_call (PySem.KdlSrc.rawValues (r := s1.heap.objs.size) (d := a) (es := es) (ep := ep)) (I1.ok.hd hc) ⟨⟨_, Heap.get?_push_size _ rfl, rfl, rfl⟩, r1.push _⟩ r3 fun g tk' acc c keep at' items => ?_
  have la : acc.toList.length = es.size := by rw [Array.length_toList, items.1]
  have er : PySem.W.EachIs (RT X.K H1) acc.toList ts := each_vals (by omega) fun i u eu => by
    obtain ⟨hi, rfl⟩ := items.2 i u (by rw [← Array.getElem?_toList]; exact eu)
    exact r5 i hi
  obtain ⟨vs, r6, q6⟩ := rt_un er
  have grow : s1.heap.objs.size ≤ (s1.heap.push { cls := .type "dict_values", data := .fields #[.ref a] }).objs.size := by rw [Heap.size_push]; exact Nat.le_succ _
  have lv : vs.length ≤ sizeLine := by rw [← r6.length]; omega
  have hn : H1 (s1.heap.push { cls := .type "dict_values", data := .fields #[.ref a] }).objs.size = none := I1.hok.fresh grow
  refine ⟨.ref _, upd H1 (s1.heap.push { cls := .type "dict_values", data := .fields #[.ref a] }).objs.size (.lst vs), I1.laid (t' := tk') (fun b o q => keep b o (Heap.get?_push_of_some _ q)) grow ⟨lv, acc.toList, c, q6, by simpa using at'⟩, rfl, ?_⟩
  obtain ⟨e3, s3⟩ := hs1.newL hn r6
  exact im _ _ (q _ (hs1.free hn)) _ _ (e1.trans e3) s3 (.ref _)
end
end Wp

set_option Elab.async false
set_option linter.all false
set_option maxRecDepth 100000
set_option maxHeartbeats 4000000
/-! x in y, deep data, y a list or a tuple -/
namespace Wp
open PySem PySem.Spec PyProof.Rows L2
section
variable {X : Cx}
def seqD (ds : List PyData) : Option PyData → Bool → Prop
  | some (.list es), _ => es = ds
  | some (.tuple es), _ => es = ds
  | _, _ => False
def rInDu (neg : Bool) (x : T) (y : T) (S : Sta) (Q : T → Sta → Prop) : Prop := ∃ d ds e, toD (see S x) = some d ∧ toD (see S y) = some e ∧ (e = .list ds ∨ e = .tuple ds) ∧ SeqAt.shaped d = true ∧ SeqAt.shaped e = true ∧ Q (.bl (neg != ds.any fun z => PyData.eqv z d)) S
theorem o_inDu (hu : X.A.units + 65 < cLine) : OpT X (compareOp .In) (rInDu false) := by
  intro pins s σ H x y v u Q I rx ry ⟨a, b, S, Q0, ra, rb, hs, ⟨d, ds, e, h1, h2, he, h3, h4, q⟩, im⟩
  obtain ⟨as, r1⟩ := Dp.reads I d x v (dd_dp hs ra (by rw [dd_see]; exact h1)) rx
  obtain ⟨bs, r2⟩ := Dp.reads I e y u (dd_dp hs rb (by rw [dd_see]; exact h2)) ry
  rw [Bool.false_bne] at q
  rcases he with rfl | rfl
  · exact SeqAt.in_list_reads r2 r1 (SeqAt.canLay_of_shaped h4) (SeqAt.canLay_of_shaped h3) (room_in_shaped h3 hu) ⟨.bl _, H, I, rfl, im _ _ q H _ (Ext.refl H) hs (.bl _)⟩
  · exact SeqAt.in_tuple_reads r2 r1 (SeqAt.canLay_of_shaped h4) (SeqAt.canLay_of_shaped h3) (room_in_shaped h3 hu) ⟨.bl _, H, I, rfl, im _ _ q H _ (Ext.refl H) hs (.bl _)⟩
theorem o_notInDu (hu : X.A.units + 65 < cLine) : OpT X (compareOp .NotIn) (rInDu true) := by
  intro pins s σ H x y v u Q I rx ry ⟨a, b, S, Q0, ra, rb, hs, ⟨d, ds, e, h1, h2, he, h3, h4, q⟩, im⟩
  obtain ⟨as, r1⟩ := Dp.reads I d x v (dd_dp hs ra (by rw [dd_see]; exact h1)) rx
  obtain ⟨bs, r2⟩ := Dp.reads I e y u (dd_dp hs rb (by rw [dd_see]; exact h2)) ry
  rw [Bool.true_bne] at q
  rcases he with rfl | rfl
  · exact SeqAt.notIn_list_reads r2 r1 (SeqAt.canLay_of_shaped h4) (SeqAt.canLay_of_shaped h3) (room_in_shaped h3 hu) ⟨.bl _, H, I, rfl, im _ _ q H _ (Ext.refl H) hs (.bl _)⟩
  · exact SeqAt.notIn_tuple_reads r2 r1 (SeqAt.canLay_of_shaped h4) (SeqAt.canLay_of_shaped h3) (room_in_shaped h3 hu) ⟨.bl _, H, I, rfl, im _ _ q H _ (Ext.refl H) hs (.bl _)⟩
end
/-- told by the trees -/
def eqT (a b : T) : Bool := match toD a, toD b with
  | some d, some e => PyData.eqv d e
  | _, _ => false
def seqT (S : Sta) (y : T) : Option (List T) := match see S y with
  | .fl ts => some ts
  | .tup ts => some ts
  | _ => none
theorem rInDu_is {neg : Bool} {x y : T} {ts : List T} {S : Sta} {Q : T → Sta → Prop} (ey : see S y = .fl ts ∨ see S y = .tup ts) (hx : okT (see S x) = true) (hy : okTs ts = true) (dx : dqT (see S x) ≤ 50) (dy : dqTs ts ≤ 50)
    (h : Q (.bl (neg != ts.any fun z => eqT z (see S x))) S) : rInDu neg x y S Q := by
  obtain ⟨d, a1, a2, a3, a4⟩ := ok_toD _ hx
  obtain ⟨ds, b1, b2, b3, b4⟩ := ok_toDs _ hy
  have sd : SeqAt.shaped d = true := by
    unfold SeqAt.shaped; rw [a2, Bool.true_and]; exact decide_eq_true (by omega)
  have an : ∀ (ts : List T) (ds : List PyData), toDs ts = some ds → (ts.any fun z => eqT z (see S x)) = ds.any fun z => PyData.eqv z d := by
    intro ts
    induction ts with
    | nil => intro ds e; simp only [toDs, Option.some.injEq] at e; subst e; rfl
    | cons t ts ih =>
      intro ds e
      simp only [toDs] at e
      split at e
      · rename_i e0 es h1 h2
        cases e
        rw [List.any_cons, List.any_cons, ih _ h2]
        congr 1
        unfold eqT
        rw [h1, a1]
      · cases e
  rw [an ts ds b1] at h
  rcases ey with ey | ey
  · refine ⟨d, ds, _, a1, by rw [ey]; simp only [toD, b1, Option.map_some], .inl rfl, sd, ?_, h⟩
    unfold SeqAt.shaped
    rw [show (PyData.list ds).canLay0 = true by simp only [PyData.canLay0]; exact b2, Bool.true_and]
    refine decide_eq_true ?_
    simp only [PyData.depth]
    omega
  · refine ⟨d, ds, _, a1, by rw [ey]; simp only [toD, b1, Option.map_some], .inr rfl, sd, ?_, h⟩
    unfold SeqAt.shaped
    rw [show (PyData.tuple ds).canLay0 = true by simp only [PyData.canLay0]; exact b2, Bool.true_and]
    refine decide_eq_true ?_
    simp only [PyData.depth]
    omega
end Wp

set_option Elab.async false
set_option linter.all false
set_option maxRecDepth 100000
set_option maxHeartbeats 4000000
/-! what an End keeps, as a value, and what its methods do to it -/
namespace My
open PySem PySem.Spec PyProof.Rows L2 Wp
abbrev Bs := List (Int × Int)
def srtd (l : Bs) : Prop := l.Pairwise fun e f => e.1 < f.1
/-- a new key, in its place -/
def insA (k v : Int) : Bs → Bs
  | [] => [(k, v)]
  | e :: r => if k < e.1 then (k, v) :: e :: r else if e.1 = k then e :: r else e :: insA k v r
def keep1 (g : Int) (l : Bs) (k v : Int) : Bs := if g ≤ k then insA k v l else l
def keepA (g : Int) : Bs → Int → List Int → Bs
  | l, _, [] => l
  | l, o, b :: d => keepA g (keep1 g l o b) (o + 1) d
def drain : Int → Bs → List Int × Bs
  | _, [] => ([], [])
  | g, e :: r => if e.1 = g then (e.2 :: (drain (g + 1) r).1, (drain (g + 1) r).2) else ([], e :: r)
structure EM where
  base : Int
  pend : List Int
  closed : Int
  given : Int
  got : Int
  ended : Int
  ahead : Bs
  fin : Option Int
def EM.new : EM := ⟨0, [], 0, 0, 0, 0, [], none⟩
def EM.known (m : EM) (t : Int) : Int := max m.base (min t (m.base + m.pend.length))
def EM.learn (m : EM) (t : Int) : EM := { m with base := m.known t, pend := m.pend.drop (m.known t - m.base).toNat, given := if m.closed ≠ 0 ∧ m.base + m.pend.length < t then 1 else m.given }
def EM.keep (m : EM) (o : Int) (d : List Int) : EM := { m with ahead := keepA m.got m.ahead o d }
def EM.finI (m : EM) (o : Int) (d : List Int) (l : Int) : EM := { m with fin := if l = 1 then some (o + d.length) else m.fin }
def EM.order (m : EM) : EM := { m with ahead := (drain m.got m.ahead).2, got := m.got + (drain m.got m.ahead).1.length }
def EM.fresh (m : EM) : List Int := (drain m.got m.ahead).1
def EM.endI (m : EM) : EM := { m with ended := if m.fin = some m.got then 1 else m.ended }
def EM.mid (m : EM) (o : Int) (d : List Int) (l t : Int) : EM := ((m.learn t).keep o d).finI o d l
def EM.take (m : EM) (o : Int) (d : List Int) (l t : Int) : EM := (m.mid o d l t).order.endI
def EM.out (m : EM) (o : Int) (d : List Int) (l t : Int) : List Int := (m.mid o d l t).fresh
def EM.write (m : EM) (d : List Int) : EM := if m.closed = 0 then { m with pend := m.pend ++ d } else m
def EM.close (m : EM) : EM := { m with closed := 1 }
def EM.taken (m : EM) : Int := m.got + m.ended
structure Seg where
  o : Int
  d : List Int
  l : Int
  t : Int
def Seg.tr (s : Seg) : T := .tup [.int s.o, .tup (s.d.map T.int), .int s.l, .int s.t]
def EM.segAt (m : EM) (i : Nat) : Seg := ⟨m.base + 8 * (i : Int), ((m.pend.take 32).drop (8 * i)).take 8, if 8 * i + (((m.pend.take 32).drop (8 * i)).take 8).length = m.pend.length then m.closed else 0, m.taken⟩
def EM.due (m : EM) : List Seg := if m.pend = [] then [⟨m.base, [], m.closed, m.taken⟩] else (List.range (((m.pend.take 32).length + 7) / 8)).map m.segAt
def finT : Option Int → T
  | none => .non
  | some k => .int k
def EM.pic (m : EM) : T := .tup [.int m.base, .tup (m.pend.map T.int), .int m.closed, .int m.given, .int m.got, .int m.ended, .pt (m.ahead.map prI), finT m.fin]
/-- what always is -/
structure WF (m : EM) : Prop where
  s : srtd m.ahead
  g : ∀ e ∈ m.ahead, m.got ≤ e.1
  n : m.ahead.length ≤ 100000
  p : m.pend.length ≤ 100000
/-! ### sorted rows -/
theorem srtd.keys {l : Bs} (h : srtd l) : (l.map (·.1)).Nodup := by
  unfold srtd at h
  rw [List.Nodup, List.pairwise_map]
  exact h.imp fun q e => by omega
theorem insA_mem {k v : Int} {e : Int × Int} : ∀ {l : Bs}, e ∈ insA k v l → e = (k, v) ∨ e ∈ l
  | [], h => by simp only [insA, List.mem_singleton] at h; exact .inl h
  | f :: r, h => by
    unfold insA at h
    split at h
    · rcases List.mem_cons.mp h with q | q
      · exact .inl q
      · exact .inr q
    · split at h
      · exact .inr h
      · rcases List.mem_cons.mp h with q | q
        · exact .inr (q ▸ List.mem_cons_self ..)
        · rcases insA_mem q with q | q
          · exact .inl q
          · exact .inr (List.mem_cons_of_mem _ q)
theorem insA_srtd {k v : Int} : ∀ {l : Bs}, srtd l → srtd (insA k v l)
  | [], _ => List.pairwise_singleton ..
  | f :: r, h => by
    have hc := List.pairwise_cons.mp h
    unfold insA
    split
    · rename_i q
      refine List.pairwise_cons.mpr ⟨fun e he => ?_, h⟩
      rcases List.mem_cons.mp he with z | z
      · rw [z]; exact q
      · exact Int.lt_trans q (hc.1 e z)
    · split
      · exact h
      · rename_i q1 q2
        refine List.pairwise_cons.mpr ⟨fun e he => ?_, insA_srtd hc.2⟩
        rcases insA_mem he with z | z
        · rw [z]; show f.1 < k; omega
        · exact hc.1 e z
theorem insA_there {k v : Int} : ∀ {l : Bs}, srtd l → (∃ e ∈ l, e.1 = k) → insA k v l = l
  | [], _, ⟨e, he, _⟩ => by cases he
  | f :: r, h, ⟨e, he, ek⟩ => by
    have hc := List.pairwise_cons.mp h
    unfold insA
    rcases List.mem_cons.mp he with z | z
    · rw [if_neg (by rw [← z]; omega), if_pos (by rw [← z]; exact ek)]
    · have := hc.1 e z
      rw [if_neg (by omega), if_neg (by omega), insA_there hc.2 ⟨e, z, ek⟩]
theorem insA_perm {k v : Int} : ∀ {l : Bs}, (∀ e ∈ l, e.1 ≠ k) → (insA k v l).Perm ((k, v) :: l)
  | [], _ => .refl _
  | f :: r, h => by
    unfold insA
    split
    · exact .refl _
    · rw [if_neg (h f (List.mem_cons_self ..))]
      exact ((insA_perm fun e he => h e (List.mem_cons_of_mem _ he)).cons f).trans (List.Perm.swap ..)
theorem insA_len {k v : Int} (l : Bs) : (insA k v l).length ≤ l.length + 1 := by
  induction l with
  | nil => exact Nat.le_refl _
  | cons f r ih =>
    unfold insA
    split
    · exact Nat.le_refl _
    · split
      · exact Nat.le_succ _
      · rw [List.length_cons, List.length_cons]; omega
theorem keep1_srtd {g : Int} {l : Bs} {k v : Int} (h : srtd l) : srtd (keep1 g l k v) := by
  unfold keep1; split
  · exact insA_srtd h
  · exact h
theorem keep1_ge {g : Int} {l : Bs} {k v : Int} (h : ∀ e ∈ l, g ≤ e.1) : ∀ e ∈ keep1 g l k v, g ≤ e.1 := by
  unfold keep1; split
  · rename_i q
    intro e he
    rcases insA_mem he with z | z
    · rw [z]; exact q
    · exact h e z
  · exact h
theorem keep1_len {g : Int} {l : Bs} {k v : Int} : (keep1 g l k v).length ≤ l.length + 1 := by
  unfold keep1; split
  · exact insA_len l
  · exact Nat.le_succ _
theorem keepA_srtd {g : Int} : ∀ (d : List Int) (l : Bs) (o : Int), srtd l → srtd (keepA g l o d)
  | [], _, _, h => h
  | b :: d, l, o, h => keepA_srtd d (keep1 g l o b) (o + 1) (keep1_srtd h)
theorem keepA_ge {g : Int} : ∀ (d : List Int) (l : Bs) (o : Int), (∀ e ∈ l, g ≤ e.1) → ∀ e ∈ keepA g l o d, g ≤ e.1
  | [], _, _, h => h
  | b :: d, l, o, h => keepA_ge d (keep1 g l o b) (o + 1) (keep1_ge h)
theorem keepA_len {g : Int} : ∀ (d : List Int) (l : Bs) (o : Int), (keepA g l o d).length ≤ l.length + d.length
  | [], _, _ => Nat.le_refl _
  | b :: d, l, o => by
    have h1 := keepA_len (g := g) d (keep1 g l o b) (o + 1)
    have h2 := keep1_len (g := g) (l := l) (k := o) (v := b)
    show (keepA g (keep1 g l o b) (o + 1) d).length ≤ _
    rw [List.length_cons]
    omega
theorem drain_parts : ∀ (l : Bs) (g : Int), srtd l → (∀ e ∈ l, g ≤ e.1) → srtd (drain g l).2 ∧ (∀ e ∈ (drain g l).2, g + (drain g l).1.length < e.1) ∧ (drain g l).2.length + (drain g l).1.length = l.length
  | [], g, _, _ => ⟨List.Pairwise.nil, fun e h => by simp [drain] at h, rfl⟩
  | f :: r, g, h, hg => by
    have hc := List.pairwise_cons.mp h
    unfold drain
    split
    · rename_i q
      obtain ⟨a, b, c⟩ := drain_parts r (g + 1) hc.2 fun e he => by have := hc.1 e he; omega
      refine ⟨a, fun e he => ?_, by simp only [List.length_cons]; omega⟩
      have := b e he
      simp only [List.length_cons]
      omega
    · rename_i q
      have := hg f (List.mem_cons_self ..)
      refine ⟨h, fun e he => ?_, rfl⟩
      simp only [List.length_nil]
      rcases List.mem_cons.mp he with z | z
      · rw [z]; omega
      · have := hc.1 e z; omega
/-! ### the dict that holds such rows, in any order -/
theorem ent_mem {ks : Bs} {k : Int} : (valT (ks.map entI) (.inl k)).isSome = true ↔ ∃ e ∈ ks, e.1 = k := by
  rw [valT_mem, List.map_map, List.mem_map]
  constructor
  · rintro ⟨e, he, q⟩; exact ⟨e, he, Sum.inl.inj q⟩
  · rintro ⟨e, he, q⟩; exact ⟨e, he, congrArg Sum.inl q⟩
theorem ent_not {ks : Bs} {k : Int} (h : ∀ e ∈ ks, e.1 ≠ k) : valT (ks.map entI) (.inl k) = none := by
  cases q : valT (ks.map entI) (.inl k) with
  | none => rfl
  | some v =>
    obtain ⟨e, he, ek⟩ := ent_mem.mp (by rw [q]; rfl)
    exact absurd ek (h e he)
theorem ent_val {k v : Int} : ∀ {ks : Bs}, (ks.map (·.1)).Nodup → (k, v) ∈ ks → valT (ks.map entI) (.inl k) = some (.int v)
  | [], _, h => by cases h
  | f :: r, nd, h => by
    rw [List.map_cons, List.nodup_cons] at nd
    show valT ((Sum.inl f.1, T.int f.2) :: r.map entI) _ = _
    rw [valT_cons]
    rcases List.mem_cons.mp h with z | z
    · rw [← z, if_pos rfl]
    · rw [if_neg (fun e => nd.1 (List.mem_map.mpr ⟨(k, v), z, (Sum.inl.inj e).symm⟩)), ent_val nd.2 z]
theorem ent_put {ks : Bs} {k v : Int} (h : ∀ e ∈ ks, e.1 ≠ k) : putT (ks.map entI) (.inl k) (.int v) = (ks ++ [(k, v)]).map entI := by
  unfold putT
  rw [if_neg, List.map_append]
  · rfl
  · rw [valT_any, ent_not h]
    decide
theorem ent_drop (ks : Bs) (k : Int) : dropT (ks.map entI) (.inl k) = (ks.filter fun e => decide (e.1 ≠ k)).map entI := by
  unfold dropT
  rw [List.filter_map]
  congr 1
  refine List.filter_congr fun e _ => ?_
  show decide ((Sum.inl e.1 : Key) ≠ Sum.inl k) = decide (e.1 ≠ k)
  exact decide_eq_decide.mpr ⟨fun h e => h (congrArg _ e), fun h e => h (Sum.inl.inj e)⟩
theorem perm_srt {ks l zs : Bs} (hl : srtd l) (h : ks.Perm l) (hz : zs.Perm ks) (hs : zs.Pairwise fun e f => e.1 ≤ f.1) : zs = l := by
  have p : zs.Perm l := hz.trans h
  have nd : (zs.map (·.1)).Nodup := (p.map (·.1)).nodup_iff.mpr hl.keys
  have s2 : zs.Pairwise fun e f => e.1 < f.1 := by
    rw [List.Nodup, List.pairwise_map] at nd
    exact (hs.and nd).imp fun ⟨a, b⟩ => by omega
  exact p.eq_of_pairwise (fun a b _ _ h1 h2 => absurd (Int.lt_trans h1 h2) (Int.lt_irrefl _)) s2 hl
end My

set_option Elab.async false
set_option linter.all false
set_option maxRecDepth 100000
set_option maxHeartbeats 4000000
/-! what an End that gets segments of one stream knows of it -/
namespace My
open PySem PySem.Spec PyProof.Rows L2 Wp
theorem srtd_len : ∀ {l : Bs} {lo hi : Int}, srtd l → (∀ e ∈ l, lo ≤ e.1 ∧ e.1 < hi) → l.length ≤ (hi - lo).toNat
  | [], _, _, _, _ => Nat.zero_le _
  | e :: r, lo, hi, h, b => by
    have hc := List.pairwise_cons.mp h
    have b0 := b e (List.mem_cons_self ..)
    have := srtd_len (lo := e.1 + 1) (hi := hi) hc.2 fun x hx => ⟨by have := hc.1 x hx; omega, (b x (List.mem_cons_of_mem _ hx)).2⟩
    rw [List.length_cons]
    omega
theorem srtd_eq {a b : Bs} (ha : srtd a) (hb : srtd b) (h : ∀ e, e ∈ a ↔ e ∈ b) : a = b := by
  have na : a.Nodup := ha.imp fun q e => by subst e; exact absurd q (Int.lt_irrefl _)
  have nb : b.Nodup := hb.imp fun q e => by subst e; exact absurd q (Int.lt_irrefl _)
  have p : a.Perm b := perm_of_nodup na nb h
  exact p.eq_of_pairwise (fun x y _ _ h1 h2 => absurd (Int.lt_trans h1 h2) (Int.lt_irrefl _)) ha hb
/-- the values are those of V -/
def Fits (V : Int → Int) (l : Bs) : Prop := ∀ e ∈ l, e.2 = V e.1
theorem insA_iff {V : Int → Int} {k : Int} {e : Int × Int} {l : Bs} (hs : srtd l) (hf : Fits V l) : e ∈ insA k (V k) l ↔ e ∈ l ∨ e = (k, V k) := by
  by_cases h : ∃ x ∈ l, x.1 = k
  · rw [insA_there hs h]
    obtain ⟨x, hx, xk⟩ := h
    constructor
    · exact .inl
    · rintro (q | q)
      · exact q
      · have := hf x hx
        rw [q, ← xk, ← this]
        exact hx
  · have p := insA_perm (v := V k) fun x hx q => h ⟨x, hx, q⟩
    rw [p.mem_iff, List.mem_cons]
    exact Or.comm
theorem keepA_iff {V : Int → Int} {g : Int} {e : Int × Int} : ∀ (d : List Int) (l : Bs) (o : Int), srtd l → Fits V l → (∀ (i : Nat) (b : Int), d[i]? = some b → b = V (o + i)) →
    (Fits V (keepA g l o d) ∧ (e ∈ keepA g l o d ↔ e ∈ l ∨ ∃ i : Nat, i < d.length ∧ g ≤ o + i ∧ e = (o + i, V (o + i))))
  | [], l, o, hs, hf, _ => ⟨hf, ⟨.inl, fun h => by
    rcases h with h | ⟨i, h, _⟩
    · exact h
    · simp at h⟩⟩
  | b :: d, l, o, hs, hf, hd => by
    have hb : b = V o := by have := hd 0 b rfl; simpa using this
    subst hb
    have hd2 : ∀ (i : Nat) (b : Int), d[i]? = some b → b = V (o + 1 + i) := fun i b h => by
      have := hd (i + 1) b (by simpa using h)
      rw [this]; congr 1; omega
    have hf1 : Fits V (keep1 g l o (V o)) := by
      unfold keep1; split
      · intro x hx
        rcases (insA_iff hs hf).mp hx with q | q
        · exact hf x q
        · rw [q]
      · exact hf
    obtain ⟨a1, a2⟩ := keepA_iff (e := e) d (keep1 g l o (V o)) (o + 1) (keep1_srtd hs) hf1 hd2
    refine ⟨a1, ?_⟩
    show e ∈ keepA g (keep1 g l o (V o)) (o + 1) d ↔ _
    rw [a2]
    have m1 : e ∈ keep1 g l o (V o) ↔ e ∈ l ∨ (g ≤ o ∧ e = (o, V o)) := by
      unfold keep1
      by_cases q : g ≤ o
      · rw [if_pos q, insA_iff hs hf]; simp [q]
      · rw [if_neg q]; simp [q]
    rw [m1]
    constructor
    · rintro ((h | ⟨h1, h2⟩) | ⟨i, h1, h2, h3⟩)
      · exact .inl h
      · exact .inr ⟨0, by simp, by simpa using h1, by simpa using h2⟩
      · exact .inr ⟨i + 1, by simp only [List.length_cons]; omega, by omega, by rw [h3, show o + 1 + (i : Int) = o + ((i + 1 : Nat) : Int) by omega]⟩
    · rintro (h | ⟨i, h1, h2, h3⟩)
      · exact .inl (.inl h)
      · cases i with
        | zero => exact .inl (.inr ⟨by simpa using h2, by simpa using h3⟩)
        | succ i => exact .inr ⟨i, by simp only [List.length_cons] at h1; omega, by omega, by rw [h3, show o + ((i + 1 : Nat) : Int) = o + 1 + (i : Int) by omega]⟩
theorem drain_iff : ∀ (l : Bs) (g : Int) (e : Int × Int), srtd l → (∀ x ∈ l, g ≤ x.1) → (e ∈ (drain g l).2 ↔ e ∈ l ∧ g + (drain g l).1.length ≤ e.1)
  | [], g, e, _, _ => by simp [drain]
  | f :: r, g, e, h, hg => by
    have hc := List.pairwise_cons.mp h
    unfold drain
    split
    · rename_i q
      have := drain_iff r (g + 1) e hc.2 fun x hx => by have := hc.1 x hx; omega
      simp only [List.length_cons, List.mem_cons]
      rw [this]
      constructor
      · rintro ⟨a, b⟩; exact ⟨.inr a, by omega⟩
      · rintro ⟨a | a, b⟩
        · rw [a] at b; omega
        · exact ⟨a, by omega⟩
    · simp only [List.length_nil, Int.natCast_zero, Int.add_zero]
      exact ⟨fun a => ⟨a, hg e a⟩, fun a => a.1⟩
theorem drain_at : ∀ (l : Bs) (g : Int) (i : Nat) (b : Int), (drain g l).1[i]? = some b → (g + i, b) ∈ l
  | [], g, i, b, h => by simp [drain] at h
  | f :: r, g, i, b, h => by
    unfold drain at h
    split at h
    · rename_i q
      cases i with
      | zero =>
        simp only [List.getElem?_cons_zero, Option.some.injEq] at h
        rw [← h, ← q]
        simp
      | succ i =>
        have := drain_at r (g + 1) i b (by simpa using h)
        rw [show g + ((i + 1 : Nat) : Int) = g + 1 + (i : Int) by omega]
        exact List.mem_cons_of_mem _ this
    · simp at h
/-- a row of the stream W -/
structure SegOf (W : List Int) (s : Seg) : Prop where
  o : 0 ≤ s.o
  n : s.o.toNat + s.d.length ≤ W.length
  d : ∀ (i : Nat) (b : Int), s.d[i]? = some b → W[s.o.toNat + i]? = some b
  l : s.l = 1 → s.o.toNat + s.d.length = W.length
def valW (W : List Int) (k : Int) : Int := W.getD k.toNat 0
/-- what is known: the offsets in D, and the end if e -/
structure Rdr (W : List Int) (D : Nat → Prop) (e : Prop) (m : EM) (g : Nat) : Prop where
  got : m.got = g
  gle : g ≤ W.length
  all : ∀ k, k < g → D k
  no : g < W.length → ¬ D g
  s : srtd m.ahead
  mem : ∀ x, x ∈ m.ahead ↔ ∃ k : Nat, k < W.length ∧ g ≤ k ∧ D k ∧ x = ((k : Int), valW W k)
  f1 : e → m.fin = some (W.length : Int)
  f0 : ¬ e → m.fin = none
  e1 : e ∧ g = W.length → m.ended = 1
  e0 : ¬ (e ∧ g = W.length) → m.ended = 0
theorem Rdr.same {W : List Int} {D : Nat → Prop} {e : Prop} {m m' : EM} {g g' : Nat} (h : Rdr W D e m g) (h' : Rdr W D e m' g') : g = g' ∧ m.got = m'.got ∧ m.ahead = m'.ahead ∧ m.fin = m'.fin ∧ m.ended = m'.ended := by
  have eg : g = g' := by
    rcases Nat.lt_trichotomy g g' with q | q | q
    · exact absurd (h'.all g q) (h.no (Nat.lt_of_lt_of_le q h'.gle))
    · exact q
    · exact absurd (h.all g' q) (h'.no (Nat.lt_of_lt_of_le q h.gle))
  subst eg
  refine ⟨rfl, by rw [h.got, h'.got], srtd_eq h.s h'.s fun x => by rw [h.mem, h'.mem], ?_, ?_⟩
  · by_cases q : e
    · rw [h.f1 q, h'.f1 q]
    · rw [h.f0 q, h'.f0 q]
  · by_cases q : e ∧ g = W.length
    · rw [h.e1 q, h'.e1 q]
    · rw [h.e0 q, h'.e0 q]
theorem Rdr.iff {W : List Int} {D D' : Nat → Prop} {e e' : Prop} {m : EM} {g : Nat} (h : Rdr W D e m g) (hD : ∀ k, D k ↔ D' k) (he : e ↔ e') : Rdr W D' e' m g := by
  have : D = D' := funext fun k => propext (hD k)
  have : e = e' := propext he
  subst D' e'
  exact h
theorem Rdr.len {W : List Int} {D : Nat → Prop} {e : Prop} {m : EM} {g : Nat} (h : Rdr W D e m g) : m.ahead.length ≤ W.length := by
  have := srtd_len (lo := 0) (hi := W.length) h.s fun x hx => by
    obtain ⟨k, h1, _, _, h4⟩ := (h.mem x).mp hx
    rw [h4]; exact ⟨Int.natCast_nonneg _, by show (k : Int) < _; omega⟩
  omega
theorem Rdr.wf {W : List Int} {D : Nat → Prop} {e : Prop} {m : EM} {g : Nat} (h : Rdr W D e m g) (hw : W.length ≤ 100000) (hp : m.pend.length ≤ 100000) : WF m :=
  ⟨h.s, fun x hx => by
    obtain ⟨k, h1, h2, _, h4⟩ := (h.mem x).mp hx
    rw [h4, h.got]; show (g : Int) ≤ k; omega, Nat.le_trans h.len hw, hp⟩
theorem Rdr.new (W : List Int) (D : Nat → Prop) (hD : ∀ k, ¬ D k) : Rdr W D False EM.new 0 :=
  ⟨rfl, Nat.zero_le _, fun k h => absurd h (Nat.not_lt_zero _), fun _ => hD 0, List.Pairwise.nil, fun x => ⟨fun h => (by cases h), fun ⟨k, _, _, h, _⟩ => absurd h (hD k)⟩, fun h => h.elim, fun _ => rfl, fun h => h.1.elim, fun _ => rfl⟩
/-- a row comes -/
theorem Rdr.take {W : List Int} {D : Nat → Prop} {e : Prop} {m : EM} {g : Nat} (h : Rdr W D e m g) {s : Seg} (hs : SegOf W s) :
    ∃ g', Rdr W (fun k => D k ∨ (s.o.toNat ≤ k ∧ k < s.o.toNat + s.d.length)) (e ∨ s.l = 1) (m.take s.o s.d s.l s.t) g' ∧ g ≤ g' ∧ m.out s.o s.d s.l s.t = (W.drop g).take (g' - g) := by
  obtain ⟨o, eo⟩ : ∃ o : Nat, s.o = o := ⟨s.o.toNat, (Int.toNat_of_nonneg hs.o).symm⟩
  have eo2 : s.o.toNat = o := by omega
  have n := hs.n
  have dd := hs.d
  have hl := hs.l
  rw [eo2] at n dd hl ⊢
  -- the row of what is kept
  have V0 : Fits (valW W) m.ahead := fun x hx => by
    obtain ⟨k, _, _, _, h4⟩ := (h.mem x).mp hx
    rw [h4]
  have Vd : ∀ (i : Nat) (b : Int), s.d[i]? = some b → b = valW W ((o : Int) + i) := fun i b hb => by
    have := dd i b hb
    unfold valW
    rw [show ((o : Int) + i).toNat = o + i by omega, List.getD_eq_getElem?_getD, this]
    rfl
  obtain ⟨l, el⟩ : ∃ l, keepA m.got m.ahead s.o s.d = l := ⟨_, rfl⟩
  have ls : srtd l := by rw [← el]; exact keepA_srtd _ _ _ h.s
  have lm : ∀ x, x ∈ l ↔ ∃ k : Nat, k < W.length ∧ g ≤ k ∧ (D k ∨ (o ≤ k ∧ k < o + s.d.length)) ∧ x = ((k : Int), valW W k) := fun x => by
    rw [← el, eo, (keepA_iff (V := valW W) (g := m.got) (e := x) s.d m.ahead o h.s V0 Vd).2, h.mem, h.got]
    constructor
    · rintro (⟨k, a, b, c, d⟩ | ⟨i, a, b, c⟩)
      · exact ⟨k, a, b, .inl c, d⟩
      · exact ⟨o + i, by omega, by omega, .inr ⟨by omega, by omega⟩, by rw [c]; simp⟩
    · rintro ⟨k, a, b, c | ⟨c1, c2⟩, d⟩
      · exact .inl ⟨k, a, b, c, d⟩
      · exact .inr ⟨k - o, by omega, by omega, by rw [d, show (o : Int) + ((k - o : Nat) : Int) = k by omega]⟩
  have lg : ∀ x ∈ l, (g : Int) ≤ x.1 := fun x hx => by
    obtain ⟨k, _, b, _, d⟩ := (lm x).mp hx
    rw [d]; show (g : Int) ≤ k; omega
  obtain ⟨fr, ef⟩ : ∃ f, (drain (g : Int) l).1 = f := ⟨_, rfl⟩
  have parts := drain_parts l g ls lg
  rw [ef] at parts
  have frat : ∀ (i : Nat) (b : Int), fr[i]? = some b → (D (g + i) ∨ (o ≤ g + i ∧ g + i < o + s.d.length)) ∧ g + i < W.length ∧ b = valW W ((g + i : Nat) : Int) := fun i b hb => by
    have := drain_at l g i b (by rw [ef]; exact hb)
    obtain ⟨k, a, _, c, d⟩ := (lm _).mp this
    have ek : k = g + i := by have := congrArg Prod.fst d; simp at this; omega
    subst ek
    exact ⟨c, a, by have := congrArg Prod.snd d; simpa using this⟩
  have gle : g + fr.length ≤ W.length := by
    cases z : fr.length with
    | zero => simpa using h.gle
    | succ j =>
      obtain ⟨b, hb⟩ : ∃ b, fr[j]? = some b := ⟨fr[j]'(by omega), List.getElem?_eq_getElem (by omega)⟩
      have := (frat j b hb).2.1
      omega
  -- the End behind it
  have em : (m.take s.o s.d s.l s.t).ahead = (drain (g : Int) l).2 := by
    show (drain m.got (keepA m.got m.ahead s.o s.d)).2 = _
    rw [el, h.got]
  have eg : (m.take s.o s.d s.l s.t).got = ((g + fr.length : Nat) : Int) := by
    show m.got + ((drain m.got (keepA m.got m.ahead s.o s.d)).1.length : Int) = _
    rw [el, h.got, ef]; simp
  have efin : (m.take s.o s.d s.l s.t).fin = if s.l = 1 then some (s.o + s.d.length) else m.fin := rfl
  have eend : (m.take s.o s.d s.l s.t).ended = if (m.take s.o s.d s.l s.t).fin = some (m.take s.o s.d s.l s.t).got then 1 else m.ended := rfl
  have eout : m.out s.o s.d s.l s.t = fr := by
    show (drain m.got (keepA m.got m.ahead s.o s.d)).1 = _
    rw [el, h.got, ef]
  have F1 : e ∨ s.l = 1 → (m.take s.o s.d s.l s.t).fin = some (W.length : Int) := fun q => by
    rw [efin]
    split
    · rename_i q1
      have := hl q1
      rw [eo]; congr 1; omega
    · rename_i q1
      exact h.f1 (q.resolve_right q1)
  have F0 : ¬ (e ∨ s.l = 1) → (m.take s.o s.d s.l s.t).fin = none := fun q => by
    rw [efin, if_neg fun z => q (.inr z)]
    exact h.f0 fun z => q (.inl z)
  refine ⟨g + fr.length, ⟨eg, gle, fun k hk => ?_, fun hk hc => ?_, by rw [em]; exact parts.1, fun x => ?_, F1, F0, fun ⟨q, q2⟩ => ?_, fun q => ?_⟩, Nat.le_add_right _ _, ?_⟩
  · by_cases q : k < g
    · exact .inl (h.all k q)
    · obtain ⟨b, hb⟩ : ∃ b, fr[k - g]? = some b := ⟨fr[k - g]'(by omega), List.getElem?_eq_getElem (by omega)⟩
      have := (frat (k - g) b hb).1
      rwa [show g + (k - g) = k by omega] at this
  · have m1 : (((g + fr.length : Nat) : Int), valW W ((g + fr.length : Nat) : Int)) ∈ l := (lm _).mpr ⟨_, hk, Nat.le_add_right _ _, hc, rfl⟩
    have m2 := (drain_iff l g _ ls lg).mpr ⟨m1, by rw [ef]; simp⟩
    have := parts.2.1 _ m2
    simp at this
  · rw [em, drain_iff l g x ls lg, lm, ef]
    constructor
    · rintro ⟨⟨k, a, b, c, d⟩, q⟩
      rw [d] at q
      exact ⟨k, a, by simp at q; omega, c, d⟩
    · rintro ⟨k, a, b, c, d⟩
      exact ⟨⟨k, a, by omega, c, d⟩, by rw [d]; show (g : Int) + fr.length ≤ k; omega⟩
  · rw [eend, F1 q, eg, if_pos (by rw [q2])]
  · rw [eend]
    by_cases q1 : e ∨ s.l = 1
    · rw [F1 q1, eg, if_neg fun z => q ⟨q1, by have := Option.some.inj z; omega⟩]
      refine h.e0 fun ⟨z1, z2⟩ => q ⟨q1, ?_⟩
      omega
    · rw [F0 q1, if_neg (by simp)]
      exact h.e0 fun ⟨z1, _⟩ => q1 (.inl z1)
  · rw [eout]
    apply List.ext_getElem?
    intro i
    by_cases q : i < fr.length
    · obtain ⟨b, hb⟩ : ∃ b, fr[i]? = some b := ⟨fr[i], List.getElem?_eq_getElem q⟩
      have z := (frat i b hb).2
      rw [hb, List.getElem?_take_of_lt (by omega), List.getElem?_drop, z.2]
      unfold valW
      rw [Int.toNat_natCast, List.getD_eq_getElem?_getD, List.getElem?_eq_getElem z.1]
      rfl
    · rw [List.getElem?_eq_none (by omega), List.getElem?_eq_none (by rw [List.length_take, List.length_drop]; omega)]
end My

set_option Elab.async false
set_option linter.all false
set_option maxRecDepth 100000
set_option maxHeartbeats 4000000
/-! many rows, and the rows that are due -/
namespace My
open PySem PySem.Spec PyProof.Rows L2 Wp
def EM.takeS (m : EM) (s : Seg) : EM := m.take s.o s.d s.l s.t
def EM.outS (m : EM) (s : Seg) : List Int := m.out s.o s.d s.l s.t
def takes : EM → List Seg → EM
  | m, [] => m
  | m, s :: r => takes (m.takeS s) r
def outs : EM → List Seg → List Int
  | _, [] => []
  | m, s :: r => m.outS s ++ outs (m.takeS s) r
theorem takes_rdr {W : List Int} : ∀ (l : List Seg) {D : Nat → Prop} {e : Prop} {m : EM} {g : Nat}, Rdr W D e m g → (∀ s ∈ l, SegOf W s) →
    ∃ g', Rdr W (fun k => D k ∨ ∃ s ∈ l, s.o.toNat ≤ k ∧ k < s.o.toNat + s.d.length) (e ∨ ∃ s ∈ l, s.l = 1) (takes m l) g' ∧ g ≤ g' ∧ outs m l = (W.drop g).take (g' - g)
  | [], D, e, m, g, h, _ => ⟨g, h.iff (fun k => by simp) (by simp), Nat.le_refl _, by simp [outs]⟩
  | s :: r, D, e, m, g, h, hs => by
    obtain ⟨g1, h1, l1, o1⟩ := h.take (hs s (List.mem_cons_self ..))
    obtain ⟨g2, h2, l2, o2⟩ := takes_rdr r h1 fun x hx => hs x (List.mem_cons_of_mem _ hx)
    refine ⟨g2, h2.iff (fun k => ?_) ?_, by omega, ?_⟩
    · simp only [List.mem_cons, exists_eq_or_imp, or_assoc]
    · simp only [List.mem_cons, exists_eq_or_imp, or_assoc]
    · show m.outS s ++ outs (m.takeS s) r = _
      have o1 : m.outS s = (W.drop g).take (g1 - g) := o1
      have o2 : outs (m.takeS s) r = (W.drop g1).take (g2 - g1) := o2
      rw [o1, o2, show W.drop g1 = (W.drop g).drop (g1 - g) by rw [List.drop_drop]; congr 1; omega, show g2 - g = (g1 - g) + (g2 - g1) by omega, ← List.take_add]
/-- what was written: the whole, of which a part is taken -/
structure Wtr (U : List Int) (m : EM) : Prop where
  b0 : 0 ≤ m.base
  b1 : m.base.toNat ≤ U.length
  p : m.pend = U.drop m.base.toNat
theorem Wtr.len {U : List Int} {m : EM} (h : Wtr U m) : m.base + m.pend.length = (U.length : Int) := by
  rw [h.p, List.length_drop]; have := h.b0; have := h.b1; omega
theorem Wtr.new {m : EM} (hp : m.base = 0) (U : List Int) (h : m.pend = U) : Wtr U m := ⟨by omega, by rw [hp]; simp, by rw [hp, h]; simp⟩
theorem Wtr.take {U : List Int} {m : EM} (h : Wtr U m) (s : Seg) : Wtr U (m.takeS s) ∧ (m.takeS s).base = max m.base (min s.t U.length) := by
  have kn : m.known s.t = max m.base (min s.t U.length) := by unfold EM.known; rw [h.len]
  have b0 := h.b0
  have b1 := h.b1
  have eb : (m.takeS s).base = m.known s.t := rfl
  have ep : (m.takeS s).pend = m.pend.drop (m.known s.t - m.base).toNat := rfl
  refine ⟨⟨by rw [eb, kn]; omega, by rw [eb, kn]; omega, ?_⟩, by rw [eb, kn]⟩
  rw [ep, eb, h.p, List.drop_drop]
  congr 1
  rw [kn]
  omega
theorem takeS_closed (m : EM) (s : Seg) : (m.takeS s).closed = m.closed := rfl
theorem takeS_given {m : EM} (h : m.closed = 0) (s : Seg) : (m.takeS s).given = m.given := by
  show (if m.closed ≠ 0 ∧ _ then 1 else m.given) = _
  rw [if_neg fun z => z.1 h]
theorem takes_closed : ∀ (l : List Seg) (m : EM), (takes m l).closed = m.closed
  | [], _ => rfl
  | s :: r, m => (takes_closed r (m.takeS s)).trans rfl
theorem takes_given : ∀ (l : List Seg) (m : EM), m.closed = 0 → (takes m l).given = m.given
  | [], _, _ => rfl
  | s :: r, m, h => (takes_given r (m.takeS s) h).trans (takeS_given h s)
theorem takes_wtr {U : List Int} {t : Int} : ∀ (l : List Seg) {m : EM}, Wtr U m → (∀ s ∈ l, s.t = t) → Wtr U (takes m l) ∧ (takes m l).base = if l = [] then m.base else max m.base (min t U.length)
  | [], m, h, _ => ⟨h, by simp [takes]⟩
  | s :: r, m, h, ht => by
    have e := ht s (List.mem_cons_self ..)
    obtain ⟨a, b⟩ := h.take s
    obtain ⟨c, d⟩ := takes_wtr r a fun x hx => ht x (List.mem_cons_of_mem _ hx)
    refine ⟨c, ?_⟩
    show (takes (m.takeS s) r).base = _
    rw [d, if_neg (List.cons_ne_nil s r), b, e]
    split
    · rfl
    · omega
theorem Wtr.pend {U : List Int} {m : EM} (h : Wtr U m) : m.pend.length ≤ U.length := by rw [h.p, List.length_drop]; omega
theorem Wtr.pend_eq {U : List Int} {m m' : EM} (h : Wtr U m) (h' : Wtr U m') (e : m.base = m'.base) : m.pend = m'.pend := by rw [h.p, h'.p, e]
/-- what is due is of what was written -/
theorem due_seg {U : List Int} {m : EM} (h : Wtr U m) : ∀ s ∈ m.due, SegOf U s ∧ s.t = m.taken ∧ (s.l = 1 → m.closed = 1) ∧ s.d.length ≤ 8 ∧ s.o ≤ U.length := by
  have b0 := h.b0
  have b1 := h.b1
  have hl := h.len
  intro s hs
  unfold EM.due at hs
  split at hs
  · rename_i h0
    rw [List.mem_singleton] at hs
    subst hs
    have : (m.pend.length : Int) = 0 := by rw [h0]; rfl
    exact ⟨⟨b0, b1, fun i b hb => by simp at hb, fun _ => by show m.base.toNat + 0 = _; omega⟩, rfl, fun q => q, by simp, by show m.base ≤ _; omega⟩
  · rename_i h0
    obtain ⟨i, hi, rfl⟩ := List.mem_map.mp hs
    rw [List.mem_range] at hi
    have eo : (m.segAt i).o = m.base + 8 * (i : Int) := rfl
    have ed : (m.segAt i).d = ((m.pend.take 32).drop (8 * i)).take 8 := rfl
    have dl : (m.segAt i).d.length = min 8 (min 32 m.pend.length - 8 * i) := by rw [ed, List.length_take, List.length_drop, List.length_take]
    have el : (m.segAt i).l = if 8 * i + (m.segAt i).d.length = m.pend.length then m.closed else 0 := rfl
    rw [List.length_take] at hi
    refine ⟨⟨by rw [eo]; omega, by rw [dl, eo]; omega, fun j b hb => ?_, fun q => ?_⟩, rfl, fun q => ?_, by rw [dl]; omega, by rw [eo]; omega⟩
    · have hj : j < (m.segAt i).d.length := (List.getElem?_eq_some_iff.mp hb).1
      rw [dl] at hj
      rw [ed, List.getElem?_take_of_lt (by omega), List.getElem?_drop, List.getElem?_take_of_lt (by omega), h.p, List.getElem?_drop] at hb
      rw [← hb, eo]
      congr 1
      omega
    · rw [el] at q
      split at q
      · rename_i q1
        rw [eo]; omega
      · cases q
    · rw [el] at q
      split at q
      · exact q
      · cases q
theorem due_some (m : EM) : m.due ≠ [] := by
  unfold EM.due
  split
  · simp
  · rename_i h0
    have : m.pend.length ≠ 0 := fun z => h0 (List.eq_nil_of_length_eq_zero z)
    intro z
    have := congrArg List.length z
    rw [List.length_map, List.length_range, List.length_take] at this
    simp only [List.length_nil] at this
    omega
/-- equality of all that an End keeps -/
theorem EM.eq_of {m m' : EM} (h1 : m.base = m'.base) (h2 : m.pend = m'.pend) (h3 : m.closed = m'.closed) (h4 : m.given = m'.given) (h5 : m.got = m'.got) (h6 : m.ended = m'.ended) (h7 : m.ahead = m'.ahead) (h8 : m.fin = m'.fin) : m = m' := by
  cases m; cases m'
  simp only at h1 h2 h3 h4 h5 h6 h7 h8
  subst h1 h2 h3 h4 h5 h6 h7 h8
  rfl
theorem Seg.tr_inj {s u : Seg} (h : s.tr = u.tr) : s = u := by
  cases s; cases u
  simp only [Seg.tr, T.tup.injEq, List.cons.injEq, T.int.injEq, and_true] at h
  obtain ⟨h1, h2, h3, h4⟩ := h
  have h2 := ints_inj.mp h2
  subst h1 h2 h3 h4
  rfl
/-- rows told by their trees -/
theorem segs_of {segs : List Seg} : ∀ (ts : List T), (∀ x ∈ ts, x ∈ segs.map Seg.tr) → ∃ l : List Seg, ts = l.map Seg.tr ∧ ∀ s ∈ l, s ∈ segs
  | [], _ => ⟨[], rfl, fun s h => by cases h⟩
  | t :: ts, h => by
    obtain ⟨l, rfl, hl⟩ := segs_of ts fun x hx => h x (List.mem_cons_of_mem _ hx)
    obtain ⟨s, hs, rfl⟩ := List.mem_map.mp (h t (List.mem_cons_self ..))
    refine ⟨s :: l, rfl, fun u hu => ?_⟩
    rcases List.mem_cons.mp hu with z | z
    · rw [z]; exact hs
    · exact hl u z
theorem segs_all {segs l : List Seg} (h : ∀ x, x ∈ l.map Seg.tr ↔ x ∈ segs.map Seg.tr) : ∀ s, s ∈ l ↔ s ∈ segs := by
  have one : ∀ {a b : List Seg}, (∀ x, x ∈ a.map Seg.tr → x ∈ b.map Seg.tr) → ∀ s ∈ a, s ∈ b := fun h s hs => by
    obtain ⟨u, hu, e⟩ := List.mem_map.mp (h _ (List.mem_map.mpr ⟨s, hs, rfl⟩))
    rw [← Seg.tr_inj e]
    exact hu
  exact fun s => ⟨one (fun x => (h x).mp) s, one (fun x => (h x).mpr) s⟩
/-- the same rows, in any order and as often as one likes -/
theorem takes_same {W U : List Int} {D : Nat → Prop} {e : Prop} {m : EM} {g : Nat} {t : Int} {l segs : List Seg} (h : Rdr W D e m g) (u : Wtr U m) (c : m.closed = 0) (hs : ∀ s ∈ segs, SegOf W s ∧ s.t = t) (hl : ∀ s, s ∈ l ↔ s ∈ segs) :
    takes m l = takes m segs ∧ outs m l = outs m segs := by
  have hs1 : ∀ s ∈ segs, SegOf W s := fun s q => (hs s q).1
  have ht1 : ∀ s ∈ segs, s.t = t := fun s q => (hs s q).2
  obtain ⟨g1, a1, b1, c1⟩ := takes_rdr l h fun s q => hs1 s ((hl s).mp q)
  obtain ⟨g2, a2, b2, c2⟩ := takes_rdr segs h hs1
  have a1 := a1.iff (D' := fun k => D k ∨ ∃ s ∈ segs, s.o.toNat ≤ k ∧ k < s.o.toNat + s.d.length) (e' := e ∨ ∃ s ∈ segs, s.l = 1) (fun k => by simp only [hl]) (by simp only [hl])
  obtain ⟨eg, e1, e2, e3, e4⟩ := a1.same a2
  subst eg
  obtain ⟨w1, x1⟩ := takes_wtr l u fun s q => ht1 s ((hl s).mp q)
  obtain ⟨w2, x2⟩ := takes_wtr segs u ht1
  have en : l = [] ↔ segs = [] := by
    constructor
    · intro z
      cases q : segs with
      | nil => rfl
      | cons a r => have := (hl a).mpr (by rw [q]; exact List.mem_cons_self ..); rw [z] at this; cases this
    · intro z
      cases q : l with
      | nil => rfl
      | cons a r => have := (hl a).mp (by rw [q]; exact List.mem_cons_self ..); rw [z] at this; cases this
  have eb : (takes m l).base = (takes m segs).base := by
    rw [x1, x2]
    by_cases z : segs = []
    · rw [if_pos z, if_pos (en.mpr z)]
    · rw [if_neg z, if_neg fun y => z (en.mp y)]
  exact ⟨EM.eq_of eb (w1.pend_eq w2 eb) (by rw [takes_closed, takes_closed]) (by rw [takes_given _ _ c, takes_given _ _ c]) e1 e4 e2 e3, by rw [c1, c2]⟩
end My

set_option Elab.async false
set_option linter.all false
set_option maxRecDepth 100000
set_option maxHeartbeats 4000000
/-! two Ends that send each other rows, some of them lost, some again -/
namespace My
open PySem PySem.Spec PyProof.Rows L2 Wp
structure Side where
  out : List Int
  inn : List Int
  closed : Bool
  known : Int
def Side.take (s : Side) (m : EM) (x : Seg) : Side := { s with inn := s.inn ++ m.outS x, known := max s.known (min x.t s.out.length) }
/-- an End m with its side s; the other one; the rows that are under way to m -/
structure Dir (m mo : EM) (s so : Side) (n : List Seg) : Prop where
  u : Wtr s.out m
  c : m.closed = if s.closed then 1 else 0
  gv : m.given = 0 ∨ (m.given = 1 ∧ s.closed = true ∧ mo.ended = 1)
  r : ∃ D e g, Rdr so.out D e m g ∧ (∀ k, D k → k < so.out.length) ∧ (e → so.closed = true) ∧ s.inn = so.out.take g
  rows : ∀ x ∈ n, SegOf so.out x ∧ (x.l = 1 → so.closed = true) ∧ x.t ≤ mo.taken ∧ x.d.length ≤ 8 ∧ x.o ≤ so.out.length
  lo : s.out.length ≤ 4000
  kb : s.known = m.base
  bg : m.base ≤ mo.got
theorem Rdr.grow {W V : List Int} {D : Nat → Prop} {e : Prop} {m : EM} {g : Nat} (h : Rdr W D e m g) (b : ∀ k, D k → k < W.length) (ne : ¬ e) : Rdr (W ++ V) D e m g := by
  have val : ∀ k : Nat, k < W.length → valW (W ++ V) k = valW W k := fun k hk => by
    unfold valW
    rw [Int.toNat_natCast, List.getD_eq_getElem?_getD, List.getD_eq_getElem?_getD, List.getElem?_append_left hk]
  refine ⟨h.got, by rw [List.length_append]; have := h.gle; omega, h.all, fun _ hd => h.no (b g hd) hd, h.s, fun x => ?_, fun z => absurd z ne, h.f0, fun z => absurd z.1 ne, fun _ => h.e0 fun z => ne z.1⟩
  rw [h.mem]
  constructor
  · rintro ⟨k, a1, a2, a3, a4⟩
    exact ⟨k, by rw [List.length_append]; omega, a2, a3, by rw [a4, val k a1]⟩
  · rintro ⟨k, a1, a2, a3, a4⟩
    exact ⟨k, b k a3, a2, a3, by rw [a4, val k (b k a3)]⟩
theorem Rdr.ended {W : List Int} {D : Nat → Prop} {e : Prop} {m : EM} {g : Nat} (h : Rdr W D e m g) : m.ended = 0 ∨ (m.ended = 1 ∧ e ∧ g = W.length) := by
  by_cases q : e ∧ g = W.length
  · exact .inr ⟨h.e1 q, q⟩
  · exact .inl (h.e0 q)
theorem Rdr.like {W : List Int} {D : Nat → Prop} {e : Prop} {m m' : EM} {g : Nat} (h : Rdr W D e m g) (h1 : m'.got = m.got) (h2 : m'.ahead = m.ahead) (h3 : m'.fin = m.fin) (h4 : m'.ended = m.ended) : Rdr W D e m' g :=
  ⟨by rw [h1]; exact h.got, h.gle, h.all, h.no, by rw [h2]; exact h.s, fun x => by rw [h2]; exact h.mem x, by rw [h3]; exact h.f1, by rw [h3]; exact h.f0, by rw [h4]; exact h.e1, by rw [h4]; exact h.e0⟩
theorem SegOf.grow {W V : List Int} {x : Seg} (h : SegOf W x) (nl : ¬ x.l = 1) : SegOf (W ++ V) x :=
  ⟨h.o, by rw [List.length_append]; have := h.n; omega, fun i b hb => by
    have := h.d i b hb
    rw [List.getElem?_append_left (List.getElem?_eq_some_iff.mp this).1]
    exact this, fun z => absurd z nl⟩
theorem Dir.wf {m mo : EM} {s so : Side} {n : List Seg} (h : Dir m mo s so n) (lo : so.out.length ≤ 4000) : WF m := by
  obtain ⟨D, e, g, r, _⟩ := h.r
  exact r.wf (by omega) (by have := h.u.pend; have := h.lo; omega)
theorem write_eq {m : EM} {d : List Int} (h : m.closed = 0) : m.write d = { m with pend := m.pend ++ d } := if_pos h
/-- bytes are written -/
theorem Dir.write1 {m mo : EM} {s so : Side} {n : List Seg} {d : List Int} (h : Dir m mo s so n) (nc : s.closed = false) (l : (s.out ++ d).length ≤ 4000) : Dir (m.write d) mo { s with out := s.out ++ d } so n := by
  have c0 : m.closed = 0 := by rw [h.c, nc]; rfl
  rw [write_eq c0]
  obtain ⟨D, e, g, r, rb, re, ri⟩ := h.r
  refine ⟨⟨h.u.b0, by have := h.u.b1; show m.base.toNat ≤ (s.out ++ d).length; rw [List.length_append]; omega, ?_⟩, h.c, h.gv, ⟨D, e, g, r.like rfl rfl rfl rfl, rb, re, ri⟩, h.rows, l, h.kb, h.bg⟩
  show m.pend ++ d = (s.out ++ d).drop m.base.toNat
  rw [List.drop_append_of_le_length h.u.b1, h.u.p]
theorem Dir.write2 {m mo : EM} {s so : Side} {n : List Seg} {d : List Int} (h : Dir mo m so s n) (nc : s.closed = false) (c0 : m.closed = 0) : Dir mo (m.write d) so { s with out := s.out ++ d } n := by
  rw [write_eq c0]
  obtain ⟨D, e, g, r, rb, re, ri⟩ := h.r
  have ne : ¬ e := fun z => by have := re z; rw [nc] at this; cases this
  refine ⟨h.u, h.c, h.gv, ⟨D, e, g, r.grow rb ne, fun k hk => by have := rb k hk; show k < (s.out ++ d).length; rw [List.length_append]; omega, re, ?_⟩, fun x hx => ?_, h.lo, h.kb, h.bg⟩
  · show so.inn = (s.out ++ d).take g
    rw [List.take_append_of_le_length r.gle, ri]
  · obtain ⟨a1, a2, a3, a4, a5⟩ := h.rows x hx
    exact ⟨a1.grow fun z => (by have := a2 z; rw [nc] at this; cases this), a2, a3, a4, by show x.o ≤ ((s.out ++ d).length : Int); rw [List.length_append]; omega⟩
/-- closing -/
theorem Dir.close1 {m mo : EM} {s so : Side} {n : List Seg} (h : Dir m mo s so n) : Dir m.close mo { s with closed := true } so n := by
  obtain ⟨D, e, g, r, rb, re, ri⟩ := h.r
  exact ⟨⟨h.u.b0, h.u.b1, h.u.p⟩, rfl, h.gv.imp_right fun ⟨a, _, b⟩ => ⟨a, rfl, b⟩, ⟨D, e, g, r.like rfl rfl rfl rfl, rb, re, ri⟩, h.rows, h.lo, h.kb, h.bg⟩
theorem Dir.close2 {m mo : EM} {s so : Side} {n : List Seg} (h : Dir mo m so s n) : Dir mo m.close so { s with closed := true } n := by
  obtain ⟨D, e, g, r, rb, re, ri⟩ := h.r
  exact ⟨h.u, h.c, h.gv, ⟨D, e, g, r, rb, fun _ => rfl, ri⟩, fun x hx => by
    obtain ⟨a1, a2, a3⟩ := h.rows x hx
    exact ⟨a1, fun _ => rfl, a3⟩, h.lo, h.kb, h.bg⟩
/-- rows are sent -/
theorem Dir.send {m mo : EM} {s so : Side} {n l : List Seg} (h : Dir mo m so s n) (u : Wtr s.out m) (c : m.closed = if s.closed then 1 else 0) (hl : ∀ x ∈ l, x ∈ m.due) : Dir mo m so s (n ++ l) :=
  ⟨h.u, h.c, h.gv, h.r, fun x hx => by
    rcases List.mem_append.mp hx with z | z
    · exact h.rows x z
    · obtain ⟨a, b, d, e, f⟩ := due_seg u x (hl x z)
      refine ⟨a, fun z => ?_, by rw [b]; exact Int.le_refl _, e, f⟩
      have := d z
      rw [c] at this
      cases q : s.closed with
      | true => rfl
      | false => (rw [q] at this; cases this), h.lo, h.kb, h.bg⟩
theorem Dir.less {m mo : EM} {s so : Side} {n l : List Seg} (h : Dir m mo s so n) (hl : ∀ x ∈ l, x ∈ n) : Dir m mo s so l := ⟨h.u, h.c, h.gv, h.r, fun x hx => h.rows x (hl x hx), h.lo, h.kb, h.bg⟩
theorem takeS_ended (m : EM) (x : Seg) : (m.takeS x).ended = 1 ∨ (m.takeS x).ended = m.ended := by
  have : (m.takeS x).ended = if (m.takeS x).fin = some (m.takeS x).got then 1 else m.ended := rfl
  rw [this]
  split
  · exact .inl rfl
  · exact .inr rfl
/-- a row comes -/
theorem Dir.take1 {m mo : EM} {s so : Side} {n no : List Seg} {x : Seg} (h : Dir m mo s so n) (ho : Dir mo m so s no) (hx : x ∈ n) : Dir (m.takeS x) mo (s.take m x) so n := by
  obtain ⟨D, e, g, r, rb, re, ri⟩ := h.r
  obtain ⟨a1, a2, a3, a4, a5⟩ := h.rows x hx
  obtain ⟨g', r', gg, eo⟩ := r.take a1
  obtain ⟨Do, eo', go, ro, _, _, _⟩ := ho.r
  refine ⟨(h.u.take x).1, h.c, ?_, ⟨_, _, g', r', fun k hk => ?_, fun z => z.elim re a2, ?_⟩, h.rows, h.lo, ?_, ?_⟩
  · by_cases q : m.closed ≠ 0 ∧ m.base + m.pend.length < x.t
    · right
      refine ⟨if_pos q, ?_, ?_⟩
      · cases z : s.closed with
        | true => exact z
        | false => exact absurd (by rw [h.c, z]; rfl) q.1
      · have l1 := h.u.len
        have l2 := ro.got
        have l3 := ro.gle
        have l4 : mo.taken = mo.got + mo.ended := rfl
        rcases ro.ended with z | ⟨z, _⟩
        · omega
        · exact z
    · have : (m.takeS x).given = m.given := if_neg q
      rw [this]
      exact h.gv
  · rcases hk with z | ⟨_, z⟩
    · exact rb k z
    · have := a1.n; omega
  · show s.inn ++ m.outS x = so.out.take g'
    have eo : m.outS x = (so.out.drop g).take (g' - g) := eo
    rw [ri, eo, ← List.take_add, show g + (g' - g) = g' by omega]
  · rw [(h.u.take x).2, ← h.kb]
    rfl
  · rw [(h.u.take x).2]
    have l2 := ro.got
    have l3 := ro.gle
    have l4 : mo.taken = mo.got + mo.ended := rfl
    have l5 := h.bg
    rcases ro.ended with z | ⟨z, _, z2⟩ <;> omega
theorem Dir.take2 {m mo : EM} {s so : Side} {n no : List Seg} {x : Seg} (h : Dir m mo s so n) (ho : Dir mo m so s no) (hx : x ∈ n) : Dir mo (m.takeS x) so (s.take m x) no := by
  obtain ⟨D, e, g, r, rb, re, ri⟩ := h.r
  obtain ⟨a1, a2, a3, a4, a5⟩ := h.rows x hx
  obtain ⟨g', r', gg, eo⟩ := r.take a1
  have tk : m.taken ≤ (m.takeS x).taken := by
    have l1 := r.got
    have l2 : (m.takeS x).got = g' := r'.got
    have l4 : m.taken = m.got + m.ended := rfl
    have l5 : (m.takeS x).taken = (m.takeS x).got + (m.takeS x).ended := rfl
    rcases takeS_ended m x with z | z
    · rcases r.ended with y | ⟨y, _⟩ <;> omega
    · omega
  have en : m.ended = 1 → (m.takeS x).ended = 1 := fun z => by
    rcases takeS_ended m x with y | y
    · exact y
    · rw [y]; exact z
  exact ⟨ho.u, ho.c, ho.gv.imp_right fun ⟨a, b, c⟩ => ⟨a, b, en c⟩, ho.r, fun y hy => by
    obtain ⟨b1, b2, b3, b4⟩ := ho.rows y hy
    exact ⟨b1, b2, Int.le_trans b3 tk, b4⟩, ho.lo, ho.kb, Int.le_trans ho.bg (by rw [r.got, show (m.takeS x).got = g' from r'.got]; omega)⟩
/-- what is asked at each step -/
theorem Dir.right {m mo : EM} {s so : Side} {n : List Seg} (h : Dir m mo s so n) :
    so.out.take s.inn.length = s.inn ∧ m.taken = s.inn.length + (if m.ended == 1 then 1 else 0) ∧ ((m.ended == 1) = true → so.closed = true ∧ s.inn.length = so.out.length) ∧ ((m.given == 1) = true → (mo.ended == 1) = true) := by
  obtain ⟨D, e, g, r, rb, re, ri⟩ := h.r
  have lg : s.inn.length = g := by rw [ri, List.length_take]; have := r.gle; omega
  refine ⟨by rw [lg, ri], ?_, fun z => ?_, fun z => ?_⟩
  · show m.got + m.ended = _
    rw [r.got, lg]
    rcases r.ended with y | ⟨y, _⟩ <;> rw [y] <;> rfl
  · rcases r.ended with y | ⟨y, y1, y2⟩
    · rw [y] at z; cases z
    · exact ⟨re y1, by rw [lg, y2]⟩
  · rcases h.gv with y | ⟨y, _, y2⟩
    · rw [y] at z; cases z
    · rw [y2]; rfl
theorem Dir.new (n : List Seg) (hn : n = []) : Dir EM.new EM.new ⟨[], [], false, 0⟩ ⟨[], [], false, 0⟩ n :=
  ⟨Wtr.new rfl [] rfl, rfl, .inl rfl, ⟨fun _ => False, False, 0, Rdr.new [] _ (fun _ h => h), fun _ h => h.elim, fun h => h.elim, rfl⟩, fun x hx => by rw [hn] at hx; (cases hx), by decide, rfl, Int.le_refl _⟩
end My

set_option Elab.async false
set_option linter.all false
set_option maxRecDepth 100000
set_option maxHeartbeats 4000000
/-! an end as a law keeps it that throws nothing away of what has come -/
namespace My
open PySem PySem.Spec PyProof.Rows L2 Wp
abbrev Sn := Int → Option Int
/-- the bytes of a row, put at their places -/
def putS (f : Sn) (o : Int) : List Int → Sn
  | [] => f
  | b :: d => putS (fun k => if k = o then some b else f k) (o + 1) d
/-- what is there from a place on, n bytes at the most -/
def runS (f : Sn) : Nat → Int → List Int
  | 0, _ => []
  | n + 1, g => match f g with
    | none => []
    | some v => v :: runS f n (g + 1)
theorem putS_at {V : Int → Int} : ∀ (d : List Int) (f : Sn) (o : Int), (∀ (i : Nat) (b : Int), d[i]? = some b → b = V (o + i)) →
    ∀ k, putS f o d k = if o ≤ k ∧ k < o + d.length then some (V k) else f k
  | [], f, o, _, k => by
    rw [if_neg (by simp only [List.length_nil]; omega)]
    rfl
  | b :: d, f, o, h, k => by
    have h0 : b = V o := by have := h 0 b rfl; simpa using this
    have ih := putS_at d (fun k => if k = o then some b else f k) (o + 1) (fun i c e => by
      have := h (i + 1) c e
      rw [this, show o + ((i + 1 : Nat) : Int) = o + 1 + (i : Int) by omega]) k
    show putS _ (o + 1) d k = _
    rw [ih]
    simp only [List.length_cons]
    by_cases q : k = o
    · subst q
      rw [if_neg (by omega), if_pos rfl, if_pos (by omega), h0]
    · rw [if_neg q]
      by_cases z : o + 1 ≤ k ∧ k < o + 1 + d.length
      · rw [if_pos z, if_pos (by omega)]
      · rw [if_neg z, if_neg (by omega)]
/-- the rows that wait are those of the dict from g on -/
def Fol (f : Sn) (g : Int) (l : Bs) : Prop := ∀ k v, g ≤ k → (f k = some v ↔ (k, v) ∈ l)
theorem drain_run : ∀ (l : Bs) (f : Sn) (g : Int) (n : Nat), srtd l → (∀ e ∈ l, g ≤ e.1) → Fol f g l → l.length ≤ n → (drain g l).1 = runS f n g
  | [], f, g, n, _, _, h, _ => by
    have hn : f g = none := by
      cases q : f g with
      | none => rfl
      | some v => exact absurd ((h g v (Int.le_refl _)).mp q) (by simp)
    cases n with
    | zero => rfl
    | succ n =>
      show [] = runS f (n + 1) g
      unfold runS
      rw [hn]
  | e :: r, f, g, 0, _, _, _, hl => by simp at hl
  | e :: r, f, g, n + 1, hs, hg, h, hl => by
    have hc := List.pairwise_cons.mp hs
    unfold drain
    by_cases q : e.1 = g
    · rw [if_pos q]
      have fe : f g = some e.2 := (h g e.2 (Int.le_refl _)).mpr (by rw [← q]; exact List.mem_cons_self ..)
      have ih := drain_run r f (g + 1) n hc.2 (fun x hx => by have := hc.1 x hx; omega) (fun k v hk => by
        rw [h k v (by omega), List.mem_cons]
        constructor
        · rintro (z | z)
          · have : k = e.1 := congrArg Prod.fst z
            omega
          · exact z
        · exact .inr) (by rw [List.length_cons] at hl; omega)
      show e.2 :: (drain (g + 1) r).1 = _
      rw [ih]
      show _ = runS f (n + 1) g
      rw [runS, fe]
    · rw [if_neg q]
      have fe : f g = none := by
        cases z : f g with
        | none => rfl
        | some v =>
          exfalso
          have := hg e (List.mem_cons_self ..)
          rcases List.mem_cons.mp ((h g v (Int.le_refl _)).mp z) with w | w
          · exact q (congrArg Prod.fst w).symm
          · have := hc.1 _ w
            have : e.1 < g := this
            omega
      show ([] : List Int) = runS f (n + 1) g
      rw [runS, fe]
theorem drain_fol {l : Bs} {f : Sn} {g : Int} (hs : srtd l) (hg : ∀ e ∈ l, g ≤ e.1) (h : Fol f g l) : Fol f (g + (drain g l).1.length) (drain g l).2 := fun k v hk => by
  rw [h k v (by omega), drain_iff l g (k, v) hs hg]
  exact ⟨fun z => ⟨z, hk⟩, fun z => z.1⟩
theorem keep_fol {V : Int → Int} {l : Bs} {f : Sn} {g o : Int} {d : List Int} (hs : srtd l) (fv : Fits V l) (h : Fol f g l) (hd : ∀ (i : Nat) (b : Int), d[i]? = some b → b = V (o + i)) : Fol (putS f o d) g (keepA g l o d) := fun k v hk => by
  rw [putS_at d f o hd k, (keepA_iff (V := V) (g := g) (e := (k, v)) d l o hs fv hd).2]
  by_cases q : o ≤ k ∧ k < o + d.length
  · rw [if_pos q]
    have e : o + ((k - o).toNat : Int) = k := by omega
    constructor
    · intro z
      refine .inr ⟨(k - o).toNat, by omega, by omega, ?_⟩
      rw [e, Option.some.inj z]
    · rintro (z | ⟨i, _, _, z⟩)
      · have : v = V k := fv (k, v) z
        rw [this]
      · have z1 : k = o + i := congrArg Prod.fst z
        have z2 : v = V (o + i) := congrArg Prod.snd z
        rw [z2, ← z1]
  · rw [if_neg q, h k v hk]
    constructor
    · exact .inl
    · rintro (z | ⟨i, a, _, z⟩)
      · exact z
      · have z1 : k = o + i := congrArg Prod.fst z
        exact absurd (by omega) q
/-- an end as the law keeps it -/
structure SM where
  out : List Int
  closed : Int
  base : Int
  given : Int
  seen : Sn
  got : Int
  ended : Int
  fin : Option Int
def SM.new : SM := ⟨[], 0, 0, 0, fun _ => none, 0, 0, none⟩
def SM.run (s : SM) (x : Seg) : List Int := runS (putS s.seen x.o x.d) 80 s.got
def SM.take (s : SM) (x : Seg) : SM :=
  let g := s.got + (s.run x).length
  let f := if x.l = 1 then some (x.o + x.d.length) else s.fin
  { s with given := if (s.out.length : Int) < x.t then 1 else s.given, base := max s.base (min x.t s.out.length), seen := putS s.seen x.o x.d, got := g, fin := f, ended := if f = some g then 1 else s.ended }
/-- the same end as an End holds it -/
structure Lik (s : SM) (m : EM) : Prop where
  u : Wtr s.out m
  base : m.base = s.base
  closed : m.closed = s.closed
  given : m.given = s.given
  got : m.got = s.got
  ended : m.ended = s.ended
  fin : m.fin = s.fin
  seen : Fol s.seen m.got m.ahead
  near : ∀ e ∈ m.ahead, e.1 < m.got + 32
theorem Lik.new : Lik SM.new EM.new := ⟨Wtr.new rfl [] rfl, rfl, rfl, rfl, rfl, rfl, rfl, fun k v _ => ⟨fun h => (by cases h), fun h => (by cases h)⟩, fun e h => (by cases h)⟩
theorem Lik.take {s : SM} {m : EM} {W : List Int} {D : Nat → Prop} {e : Prop} {g : Nat} {x : Seg} (h : Lik s m) (r : Rdr W D e m g) (hx : SegOf W x) (ht : (s.out.length : Int) < x.t → s.closed ≠ 0) (hn : x.o + x.d.length ≤ m.got + 32) :
    Lik (s.take x) (m.takeS x) ∧ m.outS x = s.run x := by
  have V0 : Fits (valW W) m.ahead := fun y hy => by
    obtain ⟨k, _, _, _, h4⟩ := (r.mem y).mp hy
    rw [h4]
  have Vd : ∀ (i : Nat) (b : Int), x.d[i]? = some b → b = valW W (x.o + i) := fun i b hb => by
    have := hx.d i b hb
    have o0 := hx.o
    unfold valW
    rw [show (x.o + (i : Int)).toNat = x.o.toNat + i by omega, List.getD_eq_getElem?_getD, this]
    rfl
  have ag : ∀ e ∈ m.ahead, m.got ≤ e.1 := fun y hy => by
    obtain ⟨k, _, b, _, d⟩ := (r.mem y).mp hy
    rw [d, r.got]
    show (g : Int) ≤ k
    omega
  obtain ⟨l, el⟩ : ∃ l, keepA m.got m.ahead x.o x.d = l := ⟨_, rfl⟩
  have ls : srtd l := by rw [← el]; exact keepA_srtd _ _ _ r.s
  have lg : ∀ e ∈ l, m.got ≤ e.1 := by rw [← el]; exact keepA_ge _ _ _ ag
  have lf : Fol (putS s.seen x.o x.d) m.got l := by rw [← el]; exact keep_fol r.s V0 h.seen Vd
  have ln : ∀ e ∈ l, e.1 < m.got + 32 := fun y hy => by
    rw [← el] at hy
    rcases (keepA_iff (V := valW W) (g := m.got) (e := y) x.d m.ahead x.o r.s V0 Vd).2.mp hy with z | ⟨i, a, b, c⟩
    · exact h.near y z
    · rw [c]
      show x.o + (i : Int) < _
      omega
  have few : l.length ≤ 80 := by
    have := srtd_len (lo := m.got) (hi := m.got + 32) ls fun y hy => ⟨lg y hy, ln y hy⟩
    omega
  have er : (drain m.got l).1 = s.run x := by
    unfold SM.run
    rw [← h.got]
    exact drain_run l _ m.got 80 ls lg lf few
  have fol := drain_fol ls lg lf
  have eo : m.outS x = s.run x := by
    rw [← er, ← el]
    rfl
  refine ⟨⟨(h.u.take x).1, ?_, h.closed, ?_, ?_, ?_, ?_, ?_, ?_⟩, eo⟩
  · rw [(h.u.take x).2, h.base]
    rfl
  · show (if m.closed ≠ 0 ∧ m.base + m.pend.length < x.t then 1 else m.given) = if (s.out.length : Int) < x.t then 1 else s.given
    rw [h.u.len, h.closed, h.given]
    by_cases q : (s.out.length : Int) < x.t
    · rw [if_pos ⟨ht q, q⟩, if_pos q]
    · rw [if_neg q, if_neg fun z => q z.2]
  · show m.got + (drain m.got (keepA m.got m.ahead x.o x.d)).1.length = s.got + (s.run x).length
    rw [el, er, h.got]
  · show (if (if x.l = 1 then some (x.o + x.d.length) else m.fin) = some (m.got + ((drain m.got (keepA m.got m.ahead x.o x.d)).1.length : Int)) then (1 : Int) else m.ended) = if (if x.l = 1 then some (x.o + x.d.length) else s.fin) = some (s.got + ((s.run x).length : Int)) then 1 else s.ended
    rw [el, er, h.got, h.fin, h.ended]
  · show (if x.l = 1 then some (x.o + (x.d.length : Int)) else m.fin) = if x.l = 1 then some (x.o + (x.d.length : Int)) else s.fin
    rw [h.fin]
  · show Fol (putS s.seen x.o x.d) (m.got + ((drain m.got (keepA m.got m.ahead x.o x.d)).1.length : Int)) (drain m.got (keepA m.got m.ahead x.o x.d)).2
    rw [el]
    exact fol
  · intro y hy
    have hy : y ∈ (drain m.got (keepA m.got m.ahead x.o x.d)).2 := hy
    show y.1 < m.got + ((drain m.got (keepA m.got m.ahead x.o x.d)).1.length : Int) + 32
    rw [el] at hy ⊢
    have := ln y ((drain_iff l m.got y ls lg).mp hy).1
    omega
/-- what is written -/
theorem Lik.write {s : SM} {m : EM} {d : List Int} (h : Lik s m) (c : s.closed = 0) : Lik { s with out := s.out ++ d } (m.write d) := by
  have hc : m.closed = 0 := h.closed.trans c
  rw [write_eq hc]
  have bl : m.base.toNat ≤ s.out.length := h.u.b1
  refine ⟨⟨h.u.b0, ?_, ?_⟩, h.base, h.closed, h.given, h.got, h.ended, h.fin, h.seen, h.near⟩
  · rw [List.length_append]; exact Nat.le_trans bl (Nat.le_add_right _ _)
  · show m.pend ++ d = (s.out ++ d).drop m.base.toNat
    rw [List.drop_append_of_le_length bl, h.u.p]
/-- closed -/
theorem Lik.close {s : SM} {m : EM} (h : Lik s m) : Lik { s with closed := 1 } m.close := ⟨⟨h.u.b0, h.u.b1, h.u.p⟩, h.base, rfl, h.given, h.got, h.ended, h.fin, h.seen, h.near⟩
/-- the kept rows, told from all that came -/
theorem Lik.kept {s : SM} {m : EM} (h : Lik s m) (hs : srtd m.ahead) (hg : ∀ e ∈ m.ahead, m.got ≤ e.1) {zs : List Int} (st : zs.Pairwise (· < ·)) (all : ∀ k, k ∈ zs ↔ (s.seen k).isSome = true) :
    (zs.filter fun k => decide (s.got ≤ k)).map (fun k => (k, (s.seen k).getD 0)) = m.ahead := by
  refine srtd_eq ?_ hs fun e => ?_
  · unfold srtd
    rw [List.pairwise_map]
    exact st.filter _
  · rw [List.mem_map]
    constructor
    · rintro ⟨k, hk, rfl⟩
      rw [List.mem_filter, decide_eq_true_eq, all] at hk
      obtain ⟨v, hv⟩ := Option.isSome_iff_exists.mp hk.1
      rw [hv]
      exact (h.seen k v (by rw [h.got]; exact hk.2)).mp hv
    · intro he
      have ge := hg e he
      have hv := (h.seen e.1 e.2 ge).mpr he
      refine ⟨e.1, ?_, by rw [hv]; rfl⟩
      rw [List.mem_filter, decide_eq_true_eq, all, hv, ← h.got]
      exact ⟨rfl, ge⟩
end My

set_option Elab.async false
set_option linter.all false
set_option maxRecDepth 100000
set_option maxHeartbeats 4000000
/-! things that stand apart from each other -/
namespace My
open PySem PySem.Spec PyProof.Rows L2 Wp
/-- nothing but F may have changed; F' is of F and of new things -/
structure Frm (S S' : Sta) (F F' : List Addr) : Prop where
  k : ∀ x o, S x = some o → x ∉ F → S' x = some o
  n : ∀ x ∈ F', x ∈ F ∨ S x = none
theorem Frm.refl {S : Sta} {F : List Addr} : Frm S S F F := ⟨fun _ _ e _ => e, fun _ h => .inl h⟩
theorem Frm.trans {S S1 S2 : Sta} {F F1 F2 : List Addr} (f : Frm S S1 F F1) (g : Frm S1 S2 F1 F2) : Frm S S2 F F2 := by
  refine ⟨fun x o e nx => g.k x o (f.k x o e nx) fun h1 => ?_, fun x hx => ?_⟩
  · rcases f.n x h1 with h | h
    · exact nx h
    · rw [h] at e; cases e
  · cases e : S x with
    | none => exact .inr rfl
    | some o =>
      rcases g.n x hx with h | h
      · rcases f.n x h with h | h
        · exact .inl h
        · rw [h] at e; cases e
      · refine .inl (Classical.byContradiction fun nx => ?_)
        rw [f.k x o e nx] at h
        cases h
theorem Frm.of_gr {S S' : Sta} {F : List Addr} (g : Gr S S') : Frm S S' F F := ⟨fun x o e _ => g x o e, fun _ h => .inl h⟩
theorem Frm.of_new {S S' : Sta} {F F' : List Addr} (g : Gr S S') (n : ∀ x ∈ F', S x = none) : Frm S S' F F' := ⟨fun x o e _ => g x o e, fun x h => .inr (n x h)⟩
theorem Frm.up {S : Sta} {F : List Addr} {x : Addr} {o : O} (h : x ∈ F) : Frm S (upS S x o) F F := ⟨fun y u e ny => by rw [upS_ne fun z => ny (by rw [z]; exact h)]; exact e, fun _ h => .inl h⟩
structure It where
  F : List Addr
  P : Sta → Prop
structure It.ok (i : It) (S : Sta) : Prop where
  p : i.P S
  h : ∀ x ∈ i.F, ∃ o, S x = some o
  k : ∀ S', (∀ x o, S x = some o → x ∈ i.F → S' x = some o) → i.P S'
theorem It.ok.keep {i : It} {S S' : Sta} (h : i.ok S) (a : ∀ x o, S x = some o → x ∈ i.F → S' x = some o) : i.ok S' :=
  ⟨h.k S' a, fun x hx => by
    obtain ⟨o, e⟩ := h.h x hx
    exact ⟨o, a x o e hx⟩, fun S2 b => h.k S2 fun x o e hx => b x o (a x o e hx) hx⟩
structure Sep (S : Sta) (l : List It) : Prop where
  ok : ∀ (k : Nat) (i : It), l[k]? = some i → i.ok S
  ap : ∀ (j k : Nat) (i i' : It), j ≠ k → l[j]? = some i → l[k]? = some i' → ∀ x ∈ i.F, x ∉ i'.F
theorem Sep.gr {S S' : Sta} {l : List It} (h : Sep S l) (g : Gr S S') : Sep S' l := ⟨fun k i e => (h.ok k i e).keep fun x o e _ => g x o e, h.ap⟩
theorem Sep.set {S S' : Sta} {l : List It} (h : Sep S l) (k : Nat) {i i' : It} (e : l[k]? = some i) (f : Frm S S' i.F i'.F) (ok : i'.ok S') : Sep S' (l.set k i') := by
  have hk : k < l.length := (List.getElem?_eq_some_iff.mp e).1
  have old : ∀ (j : Nat) (u : It), (l.set k i')[j]? = some u → (j = k ∧ u = i') ∨ (j ≠ k ∧ l[j]? = some u) := fun j u hj => by
    by_cases q : j = k
    · subst q
      rw [List.getElem?_set_self hk] at hj
      exact .inl ⟨rfl, (Option.some.inj hj).symm⟩
    · rw [List.getElem?_set_ne (fun z => q z.symm)] at hj
      exact .inr ⟨q, hj⟩
  have far : ∀ (j : Nat) (u : It), j ≠ k → l[j]? = some u → ∀ x ∈ u.F, x ∉ i'.F := fun j u q hj x hx hi => by
    rcases f.n x hi with z | z
    · exact h.ap j k u i q hj e x hx z
    · obtain ⟨o, eo⟩ := (h.ok j u hj).h x hx
      rw [z] at eo; cases eo
  refine ⟨fun j u hj => ?_, fun j j2 u u2 hn hj hj2 x hx hx2 => ?_⟩
  · rcases old j u hj with ⟨rfl, rfl⟩ | ⟨q, hj⟩
    · exact ok
    · exact (h.ok j u hj).keep fun x o eo hx => f.k x o eo (h.ap j k u i q hj e x hx)
  · rcases old j u hj with ⟨q1, r1⟩ | ⟨q1, r1⟩
    · rcases old j2 u2 hj2 with ⟨q2, r2⟩ | ⟨q2, r2⟩
      · exact hn (q1.trans q2.symm)
      · exact far j2 u2 q2 r2 x hx2 (r1 ▸ hx)
    · rcases old j2 u2 hj2 with ⟨q2, r2⟩ | ⟨q2, r2⟩
      · exact far j u q1 r1 x hx (r2 ▸ hx2)
      · exact h.ap j j2 u u2 hn r1 r2 x hx hx2
theorem Sep.add {S S' : Sta} {l : List It} (h : Sep S l) (g : Gr S S') {i : It} (ok : i.ok S') (new : ∀ x ∈ i.F, S x = none) : Sep S' (l ++ [i]) := by
  have old : ∀ (j : Nat) (u : It), (l ++ [i])[j]? = some u → (j = l.length ∧ u = i) ∨ (j < l.length ∧ l[j]? = some u) := fun j u hj => by
    by_cases q : j < l.length
    · rw [List.getElem?_append_left q] at hj
      exact .inr ⟨q, hj⟩
    · rw [List.getElem?_append_right (by omega)] at hj
      have : j - l.length = 0 := by
        have := (List.getElem?_eq_some_iff.mp hj).1
        simp at this; omega
      rw [this] at hj
      exact .inl ⟨by omega, (Option.some.inj hj).symm⟩
  have far : ∀ (j : Nat) (u : It), l[j]? = some u → ∀ x ∈ u.F, x ∉ i.F := fun j u hj x hx hi => by
    obtain ⟨o, eo⟩ := (h.ok j u hj).h x hx
    rw [new x hi] at eo; cases eo
  refine ⟨fun j u hj => ?_, fun j j2 u u2 hn hj hj2 x hx hx2 => ?_⟩
  · rcases old j u hj with ⟨rfl, rfl⟩ | ⟨q, hj⟩
    · exact ok
    · exact (h.ok j u hj).keep fun x o eo _ => g x o eo
  · rcases old j u hj with ⟨q1, r1⟩ | ⟨q1, r1⟩
    · rcases old j2 u2 hj2 with ⟨q2, r2⟩ | ⟨q2, r2⟩
      · exact hn (q1.trans q2.symm)
      · exact far j2 u2 r2 x hx2 (r1 ▸ hx)
    · rcases old j2 u2 hj2 with ⟨q2, r2⟩ | ⟨q2, r2⟩
      · exact far j u r1 x hx (r2 ▸ hx2)
      · exact h.ap j j2 u u2 hn r1 r2 x hx hx2
theorem Sep.nil {S : Sta} : Sep S [] := ⟨fun k i e => by simp at e, fun j k i i' _ e => by simp at e⟩
theorem Sep.take {S : Sta} {l : List It} (h : Sep S l) (n : Nat) : Sep S (l.take n) := by
  have old : ∀ (j : Nat) (u : It), (l.take n)[j]? = some u → l[j]? = some u := fun j u hj => by
    rw [List.getElem?_take] at hj
    split at hj
    · exact hj
    · cases hj
  exact ⟨fun j u hj => h.ok j u (old j u hj), fun j j2 u u2 hn hj hj2 => h.ap j j2 u u2 hn (old j u hj) (old j2 u2 hj2)⟩
theorem set_self {α : Type} {l : List α} {k : Nat} {i : α} (e : l[k]? = some i) : l.set k i = l := by
  apply List.ext_getElem?
  intro j
  by_cases q : j = k
  · subst q; rw [List.getElem?_set_self (List.getElem?_eq_some_iff.mp e).1, e]
  · rw [List.getElem?_set_ne (fun z => q z.symm)]
/-- the law's bag -/
def bagI (p q : Addr) : It := ⟨[p, q], fun S => IsBag (some q) S p⟩
theorem bagI_ok {S : Sta} {p q : Addr} (h : IsBag (some q) S p) : (bagI p q).ok S := by
  obtain ⟨a, b, c, d, ns, h1, h2, h3, h4⟩ := h
  refine ⟨⟨a, b, c, d, ns, h1, h2, h3, h4⟩, fun x hx => ?_, fun S' k => ⟨a, b, c, d, ns, k _ _ h1 (by simp [bagI]), h2, k _ _ h3 (by simp [bagI]), h4⟩⟩
  simp only [bagI, List.mem_cons, List.not_mem_nil, or_false] at hx
  rcases hx with rfl | rfl
  · exact ⟨_, h1⟩
  · exact ⟨_, h3⟩
theorem Sep.draw {S S' : Sta} {l : List It} {k : Nat} {p q : Addr} (h : Sep S l) (e : l[k]? = some (bagI p q)) (g : Grb (some q) p S S') : Sep S' l := by
  have := h.set k e (i' := bagI p q) ⟨fun x o eo nx => g.keep x o eo fun z => nx (by rw [z]; simp [bagI]), fun x hx => .inl hx⟩ (bagI_ok g.bag)
  rwa [set_self e] at this
/-- a list -/
def lstI (r : Addr) (ts : List T) : It := ⟨[r], fun S => S r = some (.lst ts)⟩
theorem lstI_ok {S : Sta} {r : Addr} {ts : List T} (h : S r = some (.lst ts)) : (lstI r ts).ok S := by
  refine ⟨h, fun x hx => ?_, fun S' k => k _ _ h (by simp [lstI])⟩
  simp only [lstI, List.mem_singleton] at hx
  subst hx
  exact ⟨_, h⟩
end My

set_option Elab.async false
set_option linter.all false
set_option maxRecDepth 100000
set_option maxHeartbeats 4000000
namespace My
open PySem PySem.Spec PyProof.Rows L2 Wp
/-! ### the law's own end, in the state -/
theorem valT_zip {κ : Type} [DecidableEq κ] {k : κ} : ∀ (ks : List κ) (vs : List T) (i : Nat), ks.Nodup → ks.length = vs.length → ks[i]? = some k → valT (ks.zip vs) k = vs[i]?
  | [], [], i, _, _, h => by simp at h
  | [], _ :: _, _, _, h, _ => by simp at h
  | _ :: _, [], _, _, h, _ => by simp at h
  | a :: ks, v :: vs, 0, _, _, h => by
    obtain rfl : a = k := Option.some.inj h
    show valT ((a, v) :: ks.zip vs) a = some v
    rw [valT_cons, if_pos rfl]
  | a :: ks, v :: vs, i + 1, nd, hl, h => by
    have n := List.nodup_cons.mp nd
    have h : ks[i]? = some k := h
    have ne : ¬ a = k := fun z => n.1 (by rw [z]; exact List.mem_of_getElem? h)
    show valT ((a, v) :: ks.zip vs) k = vs[i]?
    rw [valT_cons, if_neg ne]
    exact valT_zip ks vs i n.2 (Nat.succ.inj hl) h
theorem putT_zip {κ : Type} [DecidableEq κ] {k : κ} {w : T} : ∀ (ks : List κ) (vs : List T) (i : Nat), ks.Nodup → ks.length = vs.length → ks[i]? = some k → putT (ks.zip vs) k w = ks.zip (vs.set i w) := fun ks vs i nd hl h => by
  have hi := (List.getElem?_eq_some_iff.mp h).1
  have e := valT_zip ks vs i nd hl h
  unfold putT
  rw [if_pos (by rw [valT_any, e, List.getElem?_eq_getElem (by omega)]; rfl)]
  refine List.ext_getElem? fun j => ?_
  rw [List.getElem?_map]
  by_cases q : j < ks.length
  · have e1 : (ks.zip vs)[j]? = some (ks[j], vs[j]'(by omega)) := List.getElem?_zip_eq_some.mpr ⟨List.getElem?_eq_getElem q, List.getElem?_eq_getElem _⟩
    rw [e1, Option.map_some]
    by_cases z : i = j
    · subst z
      have ek : ks[i] = k := Option.some.inj ((List.getElem?_eq_getElem q).symm.trans h)
      have e2 : (ks.zip (vs.set i w))[i]? = some (ks[i], w) := List.getElem?_zip_eq_some.mpr ⟨List.getElem?_eq_getElem q, List.getElem?_set_self (by omega)⟩
      rw [e2]
      show some (if ks[i] = k then (ks[i], w) else _) = _
      rw [if_pos ek]
    · have nk : ¬ ks[j] = k := fun ek => z ((List.getElem?_inj hi nd).mp (by rw [h, List.getElem?_eq_getElem q, ek]))
      have e2 : (ks.zip (vs.set i w))[j]? = some (ks[j], vs[j]'(by omega)) := List.getElem?_zip_eq_some.mpr ⟨List.getElem?_eq_getElem q, by rw [List.getElem?_set_ne z]; exact List.getElem?_eq_getElem _⟩
      rw [e2]
      show some (if ks[j] = k then _ else (ks[j], _)) = _
      rw [if_neg nk]
  · rw [List.getElem?_eq_none (by rw [List.length_zip]; omega), List.getElem?_eq_none (by rw [List.length_zip, List.length_set]; omega)]
    rfl
theorem merge_zip {ks : List Key} {vs : List T} (nd : ks.Nodup) (hl : ks.length = vs.length) : mergeT [] (ks.zip vs) = ks.zip vs := by
  have go : ∀ (more kvs : List (Key × T)), ((kvs ++ more).map (·.1)).Nodup → more.foldl (fun acc kv => putT acc kv.1 kv.2) kvs = kvs ++ more := by
    intro more
    induction more with
    | nil => intro kvs _; exact (List.append_nil _).symm
    | cons e r ih =>
      intro kvs n
      have ne : ¬ (kvs.any fun kv => decide (kv.1 = e.1)) = true := fun z => by
        obtain ⟨x, hx, q⟩ := List.any_eq_true.mp z
        rw [List.map_append, List.map_cons] at n
        exact (List.nodup_append.mp n).2.2 x.1 (List.mem_map.mpr ⟨x, hx, rfl⟩) e.1 (List.mem_cons_self ..) (of_decide_eq_true q)
      show r.foldl _ (putT kvs e.1 e.2) = _
      unfold putT
      rw [if_neg ne]
      have := ih (kvs ++ [(e.1, e.2)]) (by rw [List.append_assoc]; exact n)
      unfold putT at this
      rw [this, List.append_assoc]
      rfl
  have := go (ks.zip vs) [] (by rw [List.nil_append, List.map_fst_zip (Nat.le_of_eq hl)]; exact nd)
  exact this
def kd : List Key := [Sum.inr "out", Sum.inr "closed", Sum.inr "base", Sum.inr "given", Sum.inr "seen", Sum.inr "got", Sum.inr "ended", Sum.inr "end"]
theorem kd_nd : kd.Nodup := by decide +kernel
def sdL (o c b g s t e f : T) : List (Key × T) := kd.zip [o, c, b, g, s, t, e, f]
section
variable {o c b g s t e f v : T}
theorem sdL_len : (sdL o c b g s t e f).length = 8 := rfl
theorem ix_out : valT (sdL o c b g s t e f) (.inr "out") = some o := valT_zip kd _ 0 kd_nd rfl rfl
theorem ix_closed : valT (sdL o c b g s t e f) (.inr "closed") = some c := valT_zip kd _ 1 kd_nd rfl rfl
theorem ix_base : valT (sdL o c b g s t e f) (.inr "base") = some b := valT_zip kd _ 2 kd_nd rfl rfl
theorem ix_given : valT (sdL o c b g s t e f) (.inr "given") = some g := valT_zip kd _ 3 kd_nd rfl rfl
theorem ix_seen : valT (sdL o c b g s t e f) (.inr "seen") = some s := valT_zip kd _ 4 kd_nd rfl rfl
theorem ix_got : valT (sdL o c b g s t e f) (.inr "got") = some t := valT_zip kd _ 5 kd_nd rfl rfl
theorem ix_ended : valT (sdL o c b g s t e f) (.inr "ended") = some e := valT_zip kd _ 6 kd_nd rfl rfl
theorem ix_end : valT (sdL o c b g s t e f) (.inr "end") = some f := valT_zip kd _ 7 kd_nd rfl rfl
theorem st_closed : putT (sdL o c b g s t e f) (.inr "closed") v = sdL o v b g s t e f := putT_zip kd _ 1 kd_nd rfl rfl
theorem st_base : putT (sdL o c b g s t e f) (.inr "base") v = sdL o c v g s t e f := putT_zip kd _ 2 kd_nd rfl rfl
theorem st_given : putT (sdL o c b g s t e f) (.inr "given") v = sdL o c b v s t e f := putT_zip kd _ 3 kd_nd rfl rfl
theorem st_got : putT (sdL o c b g s t e f) (.inr "got") v = sdL o c b g s v e f := putT_zip kd _ 5 kd_nd rfl rfl
theorem st_ended : putT (sdL o c b g s t e f) (.inr "ended") v = sdL o c b g s t v f := putT_zip kd _ 6 kd_nd rfl rfl
theorem st_end : putT (sdL o c b g s t e f) (.inr "end") v = sdL o c b g s t e v := putT_zip kd _ 7 kd_nd rfl rfl
end
/-- the law's own end: its dict, its list of what is written, its dict of what has come -/
structure SdAt (S : Sta) (a lo ls : Addr) (m : SM) : Prop where
  ob : S a = some (.dct (sdL (.ref lo) (.int m.closed) (.int m.base) (.int m.given) (.ref ls) (.int m.got) (.int m.ended) (finT m.fin)))
  ot : S lo = some (.lst (m.out.map T.int))
  sn : ∃ ks : Bs, S ls = some (.dct (ks.map entI)) ∧ (ks.map (·.1)).Nodup ∧ ∀ k v, m.seen k = some v ↔ (k, v) ∈ ks
def SdA (S : Sta) (a : Addr) (F : List Addr) (m : SM) : Prop := ∃ lo ls, F = [a, lo, ls] ∧ a ≠ lo ∧ a ≠ ls ∧ lo ≠ ls ∧ SdAt S a lo ls m
theorem SdA.keep {S S' : Sta} {a : Addr} {F : List Addr} {m : SM} (h : SdA S a F m) (k : ∀ x o, S x = some o → x ∈ F → S' x = some o) : SdA S' a F m := by
  obtain ⟨lp, la, rfl, n1, n2, n3, ⟨e1, e2, ks, e3, p⟩⟩ := h
  exact ⟨lp, la, rfl, n1, n2, n3, ⟨k _ _ e1 (by simp), k _ _ e2 (by simp), ks, k _ _ e3 (by simp), p⟩⟩
theorem SdA.gr {S S' : Sta} {a : Addr} {F : List Addr} {m : SM} (h : SdA S a F m) (g : Gr S S') : SdA S' a F m := h.keep fun x o e _ => g x o e
theorem SdA.here {S : Sta} {a : Addr} {F : List Addr} {m : SM} (h : SdA S a F m) : ∀ x ∈ F, ∃ o, S x = some o := by
  obtain ⟨lp, la, rfl, n1, n2, n3, ⟨e1, e2, ks, e3, p⟩⟩ := h
  intro x hx
  simp only [List.mem_cons, List.not_mem_nil, or_false] at hx
  rcases hx with rfl | rfl | rfl
  · exact ⟨_, e1⟩
  · exact ⟨_, e2⟩
  · exact ⟨_, e3⟩
end My

set_option Elab.async false
set_option linter.all false
set_option maxRecDepth 100000
set_option maxHeartbeats 4000000
/-! a dict of numbers by numbers, written at a place that may be there -/
namespace My
open PySem PySem.Spec PyProof.Rows L2 Wp
theorem putS_snoc : ∀ (d : List Int) (f : Sn) (o b : Int), putS f o (d ++ [b]) = fun k => if k = o + d.length then some b else putS f o d k
  | [], f, o, b => by
    funext k
    show (if k = o then some b else f k) = if k = o + ((0 : Nat) : Int) then some b else f k
    rw [show o + ((0 : Nat) : Int) = o by omega]
  | c :: d, f, o, b => by
    show putS _ (o + 1) (d ++ [b]) = _
    rw [putS_snoc d _ (o + 1) b]
    funext k
    rw [List.length_cons, show o + 1 + (d.length : Int) = o + ((d.length + 1 : Nat) : Int) by omega]
    rfl
def putB (ks : Bs) (k v : Int) : Bs := if (ks.any fun e => decide (e.1 = k)) = true then ks.map (fun e => if e.1 = k then (e.1, v) else e) else ks ++ [(k, v)]
theorem putB_ent (ks : Bs) (k v : Int) : putT (ks.map entI) (.inl k) (.int v) = (putB ks k v).map entI := by
  have a : ((ks.map entI).any fun kv => decide (kv.1 = Sum.inl k)) = ks.any fun e => decide (e.1 = k) := by
    rw [List.any_map]
    congr 1
    funext e
    show decide ((Sum.inl e.1 : Key) = Sum.inl k) = _
    exact decide_eq_decide.mpr ⟨fun z => Sum.inl.inj z, fun z => congrArg _ z⟩
  unfold putT putB
  rw [a]
  split
  · rw [List.map_map, List.map_map]
    refine List.map_congr_left fun e _ => ?_
    show (if (Sum.inl e.1 : Key) = Sum.inl k then _ else _) = entI (if e.1 = k then (e.1, v) else e)
    by_cases q : e.1 = k
    · rw [if_pos (congrArg _ q), if_pos q]; rfl
    · rw [if_neg fun z => q (Sum.inl.inj z), if_neg q]
  · rw [List.map_append]
    rfl
theorem putB_keys {ks : Bs} {k v : Int} (nd : (ks.map (·.1)).Nodup) : ((putB ks k v).map (·.1)).Nodup := by
  unfold putB
  split
  · rw [List.map_map, show ((·.1) ∘ fun e : Int × Int => if e.1 = k then (e.1, v) else e) = (·.1) from funext fun e => by
      show (if e.1 = k then (e.1, v) else e).1 = e.1
      split <;> rfl]
    exact nd
  · rename_i h
    rw [List.map_append, List.nodup_append]
    refine ⟨nd, List.nodup_cons.mpr ⟨by simp, List.nodup_nil⟩, fun a ha b hb z => h ?_⟩
    rw [List.map_singleton, List.mem_singleton] at hb
    obtain ⟨e, he, rfl⟩ := List.mem_map.mp ha
    exact List.any_eq_true.mpr ⟨e, he, decide_eq_true (z.trans hb)⟩
theorem putB_mem {ks : Bs} {k v j w : Int} : (j, w) ∈ putB ks k v ↔ if j = k then w = v else (j, w) ∈ ks := by
  unfold putB
  split
  · rename_i h
    obtain ⟨x, hx, qx⟩ := List.any_eq_true.mp h
    have qx : x.1 = k := of_decide_eq_true qx
    rw [List.mem_map]
    constructor
    · rintro ⟨e, he, q⟩
      by_cases z : e.1 = k
      · rw [if_pos z] at q
        have q1 : e.1 = j := congrArg Prod.fst q
        have q2 : v = w := congrArg Prod.snd q
        rw [if_pos (by omega)]
        exact q2.symm
      · rw [if_neg z] at q
        rw [q] at he z
        rw [if_neg z]
        exact he
    · by_cases z : j = k
      · rw [if_pos z]
        rintro rfl
        exact ⟨x, hx, by rw [if_pos qx, qx, z]⟩
      · rw [if_neg z]
        intro he
        exact ⟨(j, w), he, if_neg z⟩
  · rename_i h
    have no : ∀ e ∈ ks, e.1 ≠ k := fun e he z => h (List.any_eq_true.mpr ⟨e, he, decide_eq_true z⟩)
    rw [List.mem_append, List.mem_singleton]
    by_cases z : j = k
    · rw [if_pos z]
      constructor
      · rintro (q | q)
        · exact absurd z (no _ q)
        · exact congrArg Prod.snd q
      · rintro rfl
        exact .inr (by rw [z])
    · rw [if_neg z]
      constructor
      · rintro (q | q)
        · exact q
        · exact absurd (congrArg Prod.fst q) z
      · exact .inl
/-- the dict for what has come -/
def DicS (S : Sta) (p : Addr) (f : Sn) : Prop := ∃ ks : Bs, S p = some (.dct (ks.map entI)) ∧ (ks.map (·.1)).Nodup ∧ ∀ k v, f k = some v ↔ (k, v) ∈ ks
theorem dic_put {ks : Bs} {f : Sn} {k v : Int} (sn : ∀ k v, f k = some v ↔ (k, v) ∈ ks) : ∀ j w, (fun j => if j = k then some v else f j) j = some w ↔ (j, w) ∈ putB ks k v := fun j w => by
  rw [putB_mem]
  show (if j = k then some v else f j) = some w ↔ _
  by_cases z : j = k
  · rw [if_pos z, if_pos z]
    exact ⟨fun q => (Option.some.inj q).symm, fun q => by rw [q]⟩
  · rw [if_neg z, if_neg z]
    exact sn j w
theorem few_keys {ks : Bs} (nd : (ks.map (·.1)).Nodup) (b : ∀ e ∈ ks, 0 ≤ e.1 ∧ e.1 < 4000) : ks.length ≤ 4000 := by
  have p : (ks.mergeSort fun a b => decide (a.1 ≤ b.1)).Perm ks := List.mergeSort_perm ks _
  have s : (ks.mergeSort fun a b => decide (a.1 ≤ b.1)).Pairwise fun a b => decide (a.1 ≤ b.1) = true := List.pairwise_mergeSort (fun a b c h1 h2 => by simp only [decide_eq_true_eq] at h1 h2 ⊢; omega) (fun a b => by simp only [Bool.or_eq_true, decide_eq_true_eq]; omega) ks
  have n := (p.map (·.1)).nodup_iff.mpr nd
  rw [List.Nodup, List.pairwise_map] at n
  have z := srtd_len (lo := 0) (hi := 4000) (l := ks.mergeSort fun a b => decide (a.1 ≤ b.1)) ((s.and n).imp fun ⟨h1, h2⟩ => by simp only [decide_eq_true_eq] at h1; omega) fun e he => b e (p.mem_iff.mp he)
  rw [p.length_eq] at z
  omega
theorem runS_len : ∀ (n : Nat) (f : Sn) (t : Int), (runS f n t).length ≤ n
  | 0, _, _ => Nat.le_refl _
  | n + 1, f, t => by
    unfold runS
    cases f t with
    | none => exact Nat.zero_le _
    | some v =>
      show (v :: runS f n (t + 1)).length ≤ n + 1
      rw [List.length_cons]
      have := runS_len n f (t + 1)
      omega
theorem runS_step : ∀ (i : Nat) (f : Sn) (t : Int), runS f (i + 1) t = runS f i t ++ (match f (t + (runS f i t).length) with | none => [] | some v => [v])
  | 0, f, t => by
    show runS f (0 + 1) t = [] ++ (match f (t + ((0 : Nat) : Int)) with | none => [] | some v => [v])
    rw [show t + ((0 : Nat) : Int) = t by omega]
    unfold runS
    cases f t <;> rfl
  | i + 1, f, t => by
    cases e : f t with
    | none =>
      have r : ∀ n, runS f (n + 1) t = [] := fun n => by unfold runS; rw [e]
      rw [r (i + 1), r i]
      show [] = [] ++ (match f (t + ((0 : Nat) : Int)) with | none => [] | some v => [v])
      rw [show t + ((0 : Nat) : Int) = t by omega, e]
      rfl
    | some v =>
      have r : ∀ n, runS f (n + 1) t = v :: runS f n (t + 1) := fun n => by rw [runS, e]
      rw [r (i + 1), r i, runS_step i f (t + 1), List.length_cons, List.cons_append, show t + (((runS f i (t + 1)).length + 1 : Nat) : Int) = t + 1 + ((runS f i (t + 1)).length : Int) by omega]
theorem dic_val {ks : Bs} {f : Sn} (nd : (ks.map (·.1)).Nodup) (sn : ∀ k v, f k = some v ↔ (k, v) ∈ ks) (k : Int) : valT (ks.map entI) (.inl k) = (f k).map T.int := by
  cases e : f k with
  | some v => exact ent_val nd ((sn k v).mp e)
  | none =>
    refine ent_not fun x hx z => ?_
    have : f k = some x.2 := (sn k x.2).mpr (by rw [← z]; exact hx)
    rw [e] at this; cases this
end My

set_option Elab.async false
set_option linter.all false
set_option maxRecDepth 100000
set_option maxHeartbeats 4000000
/-! a dict by numbers, told by what it has at each -/
namespace My
open PySem PySem.Spec PyProof.Rows L2 Wp
/-- two rows in ascending order with the same numbers -/
theorem asc_eq : ∀ {xs ys : List Int}, xs.Pairwise (· < ·) → ys.Pairwise (· < ·) → (∀ k, k ∈ xs ↔ k ∈ ys) → xs = ys := fun {xs ys} hx hy h => by
  have nx : xs.Nodup := hx.imp fun q e => by omega
  have ny : ys.Nodup := hy.imp fun q e => by omega
  have p : xs.Perm ys := (List.perm_ext_iff_of_nodup nx ny).mpr h
  exact p.eq_of_pairwise (fun a b _ _ h1 h2 => absurd (Int.lt_trans h1 h2) (Int.lt_irrefl _)) hx hy
theorem asc_of {xs zs : List Int} (p : xs.Perm zs) (h : xs.Pairwise (· ≤ ·)) (n : zs.Nodup) : xs.Pairwise (· < ·) := by
  have n2 : xs.Nodup := p.nodup_iff.mpr n
  exact (h.and n2).imp fun ⟨a, b⟩ => by omega
structure DG (kvs : List (Key × T)) (g : Int → Option T) (zs : List Int) : Prop where
  v : ∀ k : Int, valT kvs (.inl k) = g k
  z : kvs.map (·.1) = zs.map Sum.inl
  n : zs.Nodup
theorem DG.mem {kvs : List (Key × T)} {g : Int → Option T} {zs : List Int} (h : DG kvs g zs) (k : Int) : k ∈ zs ↔ (g k).isSome = true := by
  rw [← h.v k, valT_mem, h.z, List.mem_map]
  constructor
  · intro z; exact ⟨k, z, rfl⟩
  · rintro ⟨j, hj, e⟩; exact (Sum.inl.inj e) ▸ hj
theorem DG.put {kvs : List (Key × T)} {g : Int → Option T} {zs : List Int} (h : DG kvs g zs) (k : Int) (y : T) : ∃ zs', DG (putT kvs (.inl k) y) (fun j => if j = k then some y else g j) zs' ∧ (putT kvs (.inl k) y).length ≤ kvs.length + 1 := by
  have e := keys_putT kvs (.inl k : Key) y
  have ln : (putT kvs (.inl k : Key) y).length = ((putT kvs (.inl k : Key) y).map (·.1)).length := (List.length_map ..).symm
  have vv : ∀ j : Int, valT (putT kvs (.inl k) y) (.inl j) = if j = k then some y else g j := fun j => by
    rw [valT_put, h.v]
    by_cases q : j = k
    · rw [if_pos q, if_pos (congrArg _ q)]
    · rw [if_neg q, if_neg fun z => q (Sum.inl.inj z)]
  by_cases q : (valT kvs (.inl k : Key)).isSome = true
  · rw [if_pos q] at e
    exact ⟨zs, ⟨vv, e.trans h.z, h.n⟩, by rw [ln, e, List.length_map]; omega⟩
  · rw [if_neg q] at e
    refine ⟨zs ++ [k], ⟨vv, by rw [e, h.z, List.map_append]; rfl, ?_⟩, by rw [ln, e, List.length_append, List.length_map]; simp⟩
    rw [List.nodup_append]
    refine ⟨h.n, List.nodup_cons.mpr ⟨by simp, List.nodup_nil⟩, fun a ha b hb z => q ?_⟩
    rw [List.mem_singleton] at hb
    rw [h.v, ← h.mem, ← hb, ← z]
    exact ha
theorem DG.nil : DG [] (fun _ => none) [] := ⟨fun _ => rfl, rfl, List.nodup_nil⟩
/-- the dict at p -/
def DicG (S : Sta) (p : Addr) (g : Int → Option T) (n : Nat) : Prop := ∃ kvs zs, S p = some (.dct kvs) ∧ DG kvs g zs ∧ kvs.length ≤ n
theorem DicG.mono {S : Sta} {p : Addr} {g : Int → Option T} {n m : Nat} (h : DicG S p g n) (l : n ≤ m) : DicG S p g m := by
  obtain ⟨kvs, zs, e, d, k⟩ := h
  exact ⟨kvs, zs, e, d, Nat.le_trans k l⟩
theorem DicG.at_ {S S' : Sta} {p : Addr} {g : Int → Option T} {n : Nat} (h : DicG S p g n) (e : ∀ o, S p = some o → S' p = some o) : DicG S' p g n := by
  obtain ⟨kvs, zs, e1, d, k⟩ := h
  exact ⟨kvs, zs, e _ e1, d, k⟩
theorem DicS.at_ {S S' : Sta} {p : Addr} {f : Sn} (h : DicS S p f) (e : ∀ o, S p = some o → S' p = some o) : DicS S' p f := by
  obtain ⟨ks, e1, d, k⟩ := h
  exact ⟨ks, e _ e1, d, k⟩
/-- the keys of a dict of numbers -/
theorem ent_keys (ks : Bs) : (ks.map entI).map (·.1) = (ks.map (·.1)).map Sum.inl := by rw [List.map_map, List.map_map]; rfl
theorem dic_key {ks : Bs} {f : Sn} (sn : ∀ k v, f k = some v ↔ (k, v) ∈ ks) (k : Int) : k ∈ ks.map (·.1) ↔ (f k).isSome = true := by
  rw [List.mem_map]
  constructor
  · rintro ⟨e, he, rfl⟩
    rw [(sn e.1 e.2).mpr he]; rfl
  · intro z
    obtain ⟨v, hv⟩ := Option.isSome_iff_exists.mp z
    exact ⟨(k, v), (sn k v).mp hv, rfl⟩
/-- its rows in ascending order -/
theorem dic_rows {ks zs : Bs} {f : Sn} (nd : (ks.map (·.1)).Nodup) (sn : ∀ k v, f k = some v ↔ (k, v) ∈ ks) (p : zs.Perm ks) (h : zs.Pairwise fun e f => e.1 ≤ f.1) : (zs.map (·.1)).Pairwise (· < ·) ∧ (∀ k, k ∈ zs.map (·.1) ↔ (f k).isSome = true) ∧ zs = (zs.map (·.1)).map fun k => (k, (f k).getD 0) := by
  have nz : (zs.map (·.1)).Nodup := (p.map (·.1)).nodup_iff.mpr nd
  have hp : (zs.map (·.1)).Pairwise (· ≤ ·) := by rw [List.pairwise_map]; exact h
  refine ⟨(hp.and nz).imp fun ⟨a, b⟩ => by omega, fun k => ?_, ?_⟩
  · rw [(p.map (·.1)).mem_iff]
    exact dic_key sn k
  · rw [List.map_map]
    have : ∀ e ∈ zs, ((fun k => (k, (f k).getD 0)) ∘ fun x : Int × Int => x.1) e = e := fun e he => by
      have := (sn e.1 e.2).mpr (p.mem_iff.mp he)
      show (e.1, (f e.1).getD 0) = e
      rw [this]; rfl
    exact (List.map_congr_left this).symm ▸ (List.map_id' zs).symm
theorem putFT_le (f : Str) (v : T) : ∀ (fs : List (Str × T)), (putFT f v fs).length ≤ fs.length + 1
  | [] => Nat.le_refl _
  | g :: fs => by
    unfold putFT
    split
    · simp only [List.length_cons]; omega
    · have := putFT_le f v fs
      simp only [List.length_cons]; omega
theorem putFT_lt {f : Str} {v : T} {fs : List (Str × T)} {n : Nat} (h : fs.length < n) : (putFT f v fs).length < n + 1 := Nat.lt_of_le_of_lt (putFT_le f v fs) (Nat.succ_lt_succ h)
/-- a comprehension with a test whose parts change nothing -/
theorem compW_sel {tt : WT} {te : WE} {i : Nat} {σ : Sl} {D : Addr} {Q : T → Sta → Prop} {stb : Sta → Prop} {S : Sta} (f : T → T) (c : T → Bool) (hst : ∀ acc, stb (upS S D (.lst acc))) : ∀ (xs acc : List T),
    (∀ x ∈ xs, ∀ (acc' : List T) (R : Bool → Sta → Prop), R (c x) (upS S D (.lst acc')) → tt (σ.set i (some x)) (upS S D (.lst acc')) R) →
    (∀ x ∈ xs, c x = true → ∀ (acc' : List T) (R : T → Sta → Prop), R (f x) (upS S D (.lst acc')) → te (σ.set i (some x)) (upS S D (.lst acc')) R) →
    acc.length + xs.length ≤ 1000000 → Q (.ref D) (upS S D (.lst (acc ++ (xs.filter c).map f))) → compW (gNm i) tt te stb σ D Q xs (upS S D (.lst acc))
  | [], acc, _, _, _, q => by
    rw [List.filter_nil, List.map_nil, List.append_nil] at q
    exact ⟨hst _, q⟩
  | x :: xs, acc, ht, he, hl, q => by
    rw [List.length_cons] at hl
    refine ⟨hst _, ht x List.mem_cons_self acc _ ?_⟩
    by_cases w : c x = true
    · rw [w]
      refine wif_t (he x List.mem_cons_self w acc _ ⟨acc, upS_same, ?_, ?_⟩)
      · exact Nat.lt_of_lt_of_le (show acc.length < 10000000 by omega) (by rw [sizeLine_eq]; decide)
      · rw [upS_upS]
        refine compW_sel f c hst xs (acc ++ [f x]) (fun y hy => ht y (List.mem_cons_of_mem _ hy)) (fun y hy => he y (List.mem_cons_of_mem _ hy)) ?_ ?_
        · rw [List.length_append, List.length_cons, List.length_nil]; omega
        · rw [List.filter_cons, if_pos w, List.map_cons] at q
          rw [List.append_assoc]
          exact q
    · rw [Bool.not_eq_true] at w
      rw [w]
      refine wif_f (compW_sel f c hst xs acc (fun y hy => ht y (List.mem_cons_of_mem _ hy)) (fun y hy => he y (List.mem_cons_of_mem _ hy)) (by omega) ?_)
      rw [List.filter_cons, if_neg (by rw [w]; decide)] at q
      exact q
/-- a comprehension that leaves some out, no matter which -/
theorem compW_any {tt : WT} {te : WE} {i : Nat} {σ : Sl} {D : Addr} {Q : T → Sta → Prop} {stb : Sta → Prop} {S : Sta} (full : Prop) (hst : ∀ acc, stb (upS S D (.lst acc))) : ∀ (xs acc : List T),
    (∀ x ∈ xs, ∀ (acc' : List T) (R : Bool → Sta → Prop), (∀ b, (full → b = true) → R b (upS S D (.lst acc'))) → tt (σ.set i (some x)) (upS S D (.lst acc')) R) →
    (∀ x ∈ xs, ∀ (acc' : List T) (R : T → Sta → Prop), R x (upS S D (.lst acc')) → te (σ.set i (some x)) (upS S D (.lst acc')) R) →
    acc.length + xs.length ≤ 1000000 → (∀ l : List T, (∀ y ∈ l, y ∈ xs) → l.length ≤ xs.length → (full → l.length = xs.length) → Q (.ref D) (upS S D (.lst (acc ++ l)))) → compW (gNm i) tt te stb σ D Q xs (upS S D (.lst acc))
  | [], acc, _, _, _, q => by
    have := q [] (fun y hy => hy) (Nat.le_refl _) (fun _ => rfl)
    rw [List.append_nil] at this
    exact ⟨hst _, this⟩
  | x :: xs, acc, ht, he, hl, q => by
    rw [List.length_cons] at hl
    refine ⟨hst _, ht x List.mem_cons_self acc _ fun b hb => ?_⟩
    cases b
    · refine wif_f (compW_any full hst xs acc (fun y hy => ht y (List.mem_cons_of_mem _ hy)) (fun y hy => he y (List.mem_cons_of_mem _ hy)) (by omega) fun l hm hn hf => q l (fun y hy => List.mem_cons_of_mem _ (hm y hy)) (by rw [List.length_cons]; omega) fun z => (by cases hb z))
    · refine wif_t (he x List.mem_cons_self acc _ ⟨acc, upS_same, ?_, ?_⟩)
      · exact Nat.lt_of_lt_of_le (show acc.length < 10000000 by omega) (by rw [sizeLine_eq]; decide)
      · rw [upS_upS]
        refine compW_any full hst xs (acc ++ [x]) (fun y hy => ht y (List.mem_cons_of_mem _ hy)) (fun y hy => he y (List.mem_cons_of_mem _ hy)) ?_ fun l hm hn hf => ?_
        · rw [List.length_append, List.length_cons, List.length_nil]; omega
        · have := q (x :: l) (fun y hy => ?_) (by rw [List.length_cons, List.length_cons]; omega) (fun z => by rw [List.length_cons, List.length_cons, hf z])
          · rw [List.append_assoc]; exact this
          · rcases List.mem_cons.mp hy with rfl | z
            · exact List.mem_cons_self ..
            · exact List.mem_cons_of_mem _ (hm y z)
end My

set_option Elab.async false
set_option linter.all false
set_option maxRecDepth 100000
set_option maxHeartbeats 4000000
/-! comprehensions over lists that are told by data of one's own -/
namespace Wp
open PySem PySem.Spec PyProof.Rows L2
theorem compW_on {α : Type} {tt : WT} {te : WE} {i : Nat} {σ : Sl} {D : Addr} {Q : T → Sta → Prop} {stb : Sta → Prop} {S : Sta} (g f : α → T) (c : α → Bool) (hst : ∀ acc, stb (upS S D (.lst acc))) : ∀ (xs : List α) (acc : List T),
    (∀ x ∈ xs, ∀ (acc' : List T) (R : Bool → Sta → Prop), R (c x) (upS S D (.lst acc')) → tt (σ.set i (some (g x))) (upS S D (.lst acc')) R) →
    (∀ x ∈ xs, c x = true → ∀ (acc' : List T) (R : T → Sta → Prop), R (f x) (upS S D (.lst acc')) → te (σ.set i (some (g x))) (upS S D (.lst acc')) R) →
    acc.length + xs.length ≤ 1000000 → Q (.ref D) (upS S D (.lst (acc ++ (xs.filter c).map f))) → compW (gNm i) tt te stb σ D Q (xs.map g) (upS S D (.lst acc))
  | [], acc, _, _, _, q => by
    rw [List.filter_nil, List.map_nil, List.append_nil] at q
    exact ⟨hst _, q⟩
  | x :: xs, acc, ht, he, hl, q => by
    rw [List.length_cons] at hl
    rw [List.filter_cons] at q
    refine ⟨hst _, ht x List.mem_cons_self acc _ ?_⟩
    cases w : c x with
    | true =>
      rw [w, if_pos rfl, List.map_cons] at q
      refine wif_t (he x List.mem_cons_self w acc _ ⟨acc, upS_same, ?_, ?_⟩)
      · exact Nat.lt_of_lt_of_le (show acc.length < 10000000 by omega) (by rw [sizeLine_eq]; decide)
      · rw [upS_upS]
        exact compW_on g f c hst xs (acc ++ [f x]) (fun y hy => ht y (List.mem_cons_of_mem _ hy)) (fun y hy => he y (List.mem_cons_of_mem _ hy)) (by rw [List.length_append, List.length_singleton]; omega) (by rw [List.append_assoc]; exact q)
    | false =>
      rw [w, if_neg Bool.false_ne_true] at q
      exact wif_f (compW_on g f c hst xs acc (fun y hy => ht y (List.mem_cons_of_mem _ hy)) (fun y hy => he y (List.mem_cons_of_mem _ hy)) (by omega) q)
end Wp

set_option Elab.async false
set_option linter.all false
set_option maxRecDepth 100000
set_option maxHeartbeats 4000000
/-! a tuple told backwards -/
namespace Wp
open PySem PySem.Spec PyProof.Rows L2
section
variable {prog : Program} {w : World} {A : Around} {E : Value → Shared → Prop} {s : Shared}
theorem back_at (n : Nat) : Builtin.Slice.sliceAdjust none none (-1) (n : Int) = ((n : Int) - 1, -1) := rfl
theorem back_many (n : Nat) : Builtin.Slice.slicePlaces ((n : Int) - 1) (-1) (-1) = n := by
  unfold Builtin.Slice.slicePlaces
  rw [if_neg (by decide), show (- -1 : Int) = 1 from rfl, Int.ediv_one]
  split <;> omega
theorem fmc {α β : Type} {g h : α → Option β} : ∀ {l : List α}, (∀ x ∈ l, g x = h x) → l.filterMap g = l.filterMap h
  | [], _ => rfl
  | a :: l, e => by rw [List.filterMap_cons, List.filterMap_cons, e a List.mem_cons_self, fmc fun x hx => e x (List.mem_cons_of_mem _ hx)]
theorem back_pick (xs : Array Value) : ((List.range xs.size).filterMap fun (k : Nat) => xs[((xs.size : Int) - 1 + (k : Int) * (-1)).toNat]?).toArray = xs.toList.reverse.toArray := by
  refine congrArg List.toArray ?_
  rw [← PySem.W.krv_all xs, ← List.filterMap_reverse, ← PySem.W.krv_range, List.filterMap_map]
  refine fmc fun k hk => ?_
  have := List.mem_range.mp hk
  show xs[((xs.size : Int) - 1 + (k : Int) * (-1)).toNat]? = xs[xs.size - 1 - k]?
  rw [show ((xs.size : Int) - 1 + (k : Int) * (-1)).toNat = xs.size - 1 - k by omega]
theorem back_applied {sl : Addr} {vs : Value} {n : Nat} {Q : Int × Int × Nat → Shared → Prop} (hs : s.heap.IsSliceOf sl .none .none vs) (ps : IsPart vs (some (-1)))
    (h : Q ((n : Int) - 1, -1, n) s) : wpAny (model prog w) A (Builtin.Slice.sliceApplied (.ref sl) (pure (n : Int))) Q E s := by
  obtain ⟨o, e, _, ed⟩ := id hs
  unfold Builtin.Slice.sliceApplied Builtin.Slice.sliceFields
  refine wpAny_bind (wpAny_bind (wpAny_field e ed (x := .none) rfl (wpAny_bind (wpAny_field e ed (x := .none) rfl (wpAny_bind (wpAny_field e ed (x := vs) rfl (wpAny_pure ?_)))))))
  refine wpAny_bind (HT.slicePart_ ps ?_)
  show wpAny _ _ (if ((-1 : Int) == 0) = true then _ else _) _ _ s
  rw [if_neg (by decide)]
  refine wpAny_bind (HT.slicePart_ .none (wpAny_bind (HT.slicePart_ .none (wpAny_bind (wpAny_pure ?_)))))
  show wpAny _ _ (match Builtin.Slice.sliceAdjust none none (-1) (n : Int) with | (lo, hi) => pure (lo, (-1 : Int), Builtin.Slice.slicePlaces lo hi (-1))) _ _ s
  rw [back_at]
  show wpAny _ _ (pure ((n : Int) - 1, (-1 : Int), Builtin.Slice.slicePlaces ((n : Int) - 1) (-1) (-1))) _ _ s
  rw [back_many]
  exact wpAny_pure h
theorem back_tuple {t sl : Addr} {items : Array Value} {vs : Value} {Q : Value → Shared → Prop} (ht : IsTup s.heap t items) (hs : s.heap.IsSliceOf sl .none .none vs) (ps : IsPart vs (some (-1)))
    (h : Q (.ref s.heap.objs.size) { s with heap := s.heap.push { cls := .type "tuple", data := .seq items.toList.reverse.toArray } })
    (hsz : items.size ≤ sizeLine) : wpAny (model prog w) A (getItem (.ref t) (.ref sl)) Q E s := by
  have hz : sizeOk (.seq items.toList.reverse.toArray) := by
    show items.toList.reverse.toArray.size ≤ sizeLine
    rw [List.size_toArray, List.length_reverse, Array.length_toList]; exact hsz
  obtain ⟨o, e, ec, _⟩ := id hs
  have kind : s.TypeIs (.ref sl) "slice" := ⟨o, e, ec⟩
  unfold getItem
  try with_reducible refine wpAny_holding ?_
  first | refine wpAny_bind (wpAny_pure ?_) | skip
  refine wpAny_bind (wpAny_sequenceKey ht.typeIs (by decide) (wpAny_bind (wpAny_callSpecial?_slot (name := Str.ofString "__getitem__") ht.typeIs PyProof.Rows.slot_tuple_getitem (wpAny_call_entry PyProof.Rows.slot_tuple_getitem ht.typeIs entry_tuple_getitem ?_ (args_tuple_getitem _ _)))))
  show wpAny _ _ (Builtin.Tuple.tupleItemsOf (.ref t) >>= _) _ _ s
  refine wpAny_bind (tupleItemsOf_ ht (wpAny_bind (wpAny_typeOf kind ?_)))
  rw [if_pos (by decide)]
  refine wpAny_bind (back_applied (n := items.size) hs ps ?_)
  have no : ¬ ((((items.size : Int) - 1) == 0 && (-1 : Int) == 1 && items.size == items.size) = true) := by
    rw [show ((-1 : Int) == 1) = false from rfl, Bool.and_false, Bool.false_and]; decide
  show wpAny _ _ (if (((items.size : Int) - 1) == 0 && (-1 : Int) == 1 && items.size == items.size) = true then _ else _) _ _ s
  rw [if_neg no, back_pick]
  first
    | exact wpAny_bind (m := Builtin.Tuple.tupleExact _) (wpAny_newObj_type (wpAny_pure ⟨_, rfl, wpAny_pure h⟩) hz)
    | exact wpAny_bind (wpAny_bind (m := Builtin.Tuple.tupleExact _) (wpAny_newObj_type (wpAny_pure (wpAny_pure ⟨_, rfl, wpAny_pure h⟩)) hz))
    | exact wpAny_bind (wpAny_bind (m := Builtin.Tuple.tupleExact _) (wpAny_newObj_type (wpAny_pure ⟨_, rfl, wpAny_pure h⟩) hz))
end
section
variable {B : Hp} {X : Cx} {a : Expr} {ta : WE} {pos : Pos}
def tRevU (K : PySem.W.Frag) (te : TE) : TE := fun σ H Q => te σ H fun x H1 => ∃ a xs, x = .ref a ∧ SqT K H1 a xs ∧ ∀ p, H1 p = none → Q (.ref p) (upd H1 p (.tup xs.reverse))
theorem pe_revU {e : Expr} {te : TE} {k : Nat} {p1 p2 p3 pos : Pos} (he : PE X e te) : PE X (.Subscript e (.Slice none none (some (.UnaryOp .USub (.Constant (.int 1) k p1) p2)) p3) pos) (tRevU X.K te) := by
  refine ⟨fun pins s σ H Q I h => Subscript_ (thn (he.run pins s σ H _ I h) fun v s1 ⟨x, H1, I1, r1, q1⟩ => ?_)⟩
  obtain ⟨a, xs, rfl, hx, q⟩ := q1
  cases r1
  have part : PO X (some (.UnaryOp .USub (.Constant (.int 1) k p1) p2)) (tPart (tUn (rU fun i => .int (-i)) (tC (.int 1)))) := po_some (pe_un un_neg pe_int)
  refine wpAny_Slice (thn (po_none.run pins s1 σ H1 (fun o H2 => o = none ∧ H2 = H1) I1 ⟨rfl, rfl⟩) fun _ s2 ⟨_, H2, I2, pl, e1, e2⟩ => thn (po_none.run pins s2 σ H2 (fun o H3 => o = none ∧ H3 = H2) I2 ⟨rfl, rfl⟩) fun _ s3 ⟨_, H3, I3, pu, e3, e4⟩ => thn (part.run pins s3 σ H3 (fun o H4 => o = some (-1) ∧ H4 = H3) I3 ⟨1, rfl, -1, rfl, rfl, rfl⟩) fun vs s4 ⟨_, H4, I4, ps, e5, e6⟩ => ?_)
  subst e1 e2 e3 e4 e5 e6
  cases pl
  cases pu
  have J : Inv X pins σ H4 { s4 with heap := s4.heap.push { cls := .type "slice", data := .fields #[.none, .none, vs] } } := I4.kept (t' := s4.toks) fun b ob z => Heap.get?_push_of_some _ z
  obtain ⟨its, r, ht, hz⟩ := J.tuple hx
  have hl := r.length
  show wpAny _ X.A (subscriptTail e _ (.ref a) (.ref s4.heap.objs.size)) (EP X pins σ Q) X.xe { s4 with heap := s4.heap.push { cls := .type "slice", data := .fields #[.none, .none, vs] } }
  refine tail_any (ops := [.ref a, .ref s4.heap.objs.size]) ht.typeIs PyProof.Rows.slot_tuple_getitem.lookup (back_tuple ht (Heap.IsSliceOf.new _ .none .none vs) ps ?_ (by rw [List.size_toArray]; omega)) (by with_unfolding_all rfl)
  exact ⟨.ref _, _, J.laid (t' := s4.toks) (o := .tup xs.reverse) (fun b ob z => Heap.get?_push_of_some _ z) (Nat.le_refl _) ⟨by rw [List.length_reverse]; exact hz, _, r.reverse, IsTup.new _ _⟩, rfl, q _ (J.hok.fresh (Nat.le_refl _))⟩
def wRevU (t : WE) (σ : Sl) (S : Sta) (Q : T → Sta → Prop) : Prop := t σ S fun x S1 => ∃ ts, x = .tup ts ∧ Q (.tup ts.reverse) S1
theorem j_revU {k : Nat} {p1 p2 p3 : Pos} (ha : JE B X a ta) : JE B X (.Subscript a (.Slice none none (some (.UnaryOp .USub (.Constant (.int 1) k p1) p2)) p3) pos) (wRevU ta) :=
  pe_imp (pe_revU ha) fun σ H Q ⟨st, S, Q0, he, hr, hs, h, im⟩ => by
    refine ⟨st, S, _, he, hr, hs, h, fun x S1 h1 H1 v e1 s1 r1 => ?_⟩
    obtain ⟨ts, rfl, q⟩ := h1
    cases r1 with
    | @tup p xs _ h1 h2 => exact ⟨p, xs, rfl, sqT_of h1, fun p' hp' => im _ _ q _ _ (e1.trans (Ext.new hp')) (s1.new hp' _) (.tup upd_same (Reps.mono (Ext.new hp') _ _ h2.reverse))⟩
end
end Wp

set_option Elab.async false
set_option linter.all false
set_option maxRecDepth 100000
namespace Gn
open PySem PySem.Spec PyProof.Rows L2 Wp
def topS (i : Nat) : Stmt := PySem.Challenge.pw_heldflows_k57_directories_from_reports.main.body.getD i (.Pass ⟨0, 0, 0, 0⟩)
abbrev st_directory_of : Stmt := topS 1
abbrev N_directory_of : List Str := ["reports", "births", "counting", "report", "row", "name", "directory"]
theorem sc_directory_of : FnScope N_directory_of ["reports", "births"] (defScope st_directory_of) := ⟨rfl, rfl, rfl, by decide +kernel, rfl, by decide +kernel, by decide +kernel⟩
abbrev st__counts_more : Stmt := topS 2
abbrev N__counts_more : List Str := ["row", "other", "epoch", "place"]
theorem sc__counts_more : FnScope N__counts_more ["row", "other"] (defScope st__counts_more) := ⟨rfl, rfl, rfl, by decide +kernel, rfl, by decide +kernel, by decide +kernel⟩
abbrev st__law_bag : Stmt := topS 4
abbrev N__law_bag : List Str := ["script", "k", "cell"]
theorem sc__law_bag : FnScope N__law_bag ["script", "k"] (defScope st__law_bag) := ⟨rfl, rfl, rfl, by decide +kernel, rfl, by decide +kernel, by decide +kernel⟩
abbrev st__law_draw : Stmt := topS 5
abbrev N__law_draw : List Str := ["bag", "many", "seed", "rest"]
theorem sc__law_draw : FnScope N__law_draw ["bag", "many"] (defScope st__law_draw) := ⟨rfl, rfl, rfl, by decide +kernel, rfl, by decide +kernel, by decide +kernel⟩
abbrev st__law_row : Stmt := topS 6
abbrev N__law_row : List Str := ["bag", "flow", "life", "place"]
theorem sc__law_row : FnScope N__law_row ["bag"] (defScope st__law_row) := ⟨rfl, rfl, rfl, by decide +kernel, rfl, by decide +kernel, by decide +kernel⟩
abbrev st__law_due : Stmt := topS 7
abbrev N__law_due : List Str := ["reports", "births", "rows", "report", "row", "found", "flow", "best", "life", "mine", "most", "places"]
theorem sc__law_due : FnScope N__law_due ["reports", "births"] (defScope st__law_due) := ⟨rfl, rfl, rfl, by decide +kernel, rfl, by decide +kernel, by decide +kernel⟩
abbrev st__law_fair : Stmt := topS 8
abbrev N__law_fair : List Str := ["reports", "places", "report", "row"]
theorem sc__law_fair : FnScope N__law_fair ["reports"] (defScope st__law_fair) := ⟨rfl, rfl, rfl, by decide +kernel, rfl, by decide +kernel, by decide +kernel⟩
abbrev st_law : Stmt := topS 9
abbrev N_law : List Str := ["script", "k", "bag", "reports", "j", "turn", "births", "birth", "before", "report", "due", "turned"]
theorem sc_law : FnScope N_law ["script"] (defScope st_law) := ⟨rfl, rfl, rfl, by decide +kernel, rfl, by decide +kernel, by decide +kernel⟩
/-- what the top has left -/
structure Facts (K : PySem.W.Frag) (mg : Str → Option Value) : Prop where
  d_directory_of : DefT K mg "directory_of" st_directory_of ["reports", "births"]
  d__counts_more : DefT K mg "_counts_more" st__counts_more ["row", "other"]
  d__law_bag : DefT K mg "_law_bag" st__law_bag ["script", "k"]
  d__law_draw : DefT K mg "_law_draw" st__law_draw ["bag", "many"]
  d__law_row : DefT K mg "_law_row" st__law_row ["bag"]
  d__law_due : DefT K mg "_law_due" st__law_due ["reports", "births"]
  d__law_fair : DefT K mg "_law_fair" st__law_fair ["reports"]
  d_law : DefT K mg "law" st_law ["script"]
  z_int : mg "int" = none
  z_len : mg "len" = none
  z_max : mg "max" = none
  z_min : mg "min" = none
  z_range : mg "range" = none
  z_sorted : mg "sorted" = none
  z_tuple : mg "tuple" = none
def l1_directory_of (s__counts_more : WSp) : WS :=
  (wSeq (wSet 5 (wSl (wVar 4) wNoPart (wPart (wC (.int 2)))))
    (wIfS (wOr (wTest (wOp (rInA true) (wVar 5) (wVar 2))) (wTest (wCall 2 s__counts_more (wCons (wVar 4) (wCons (wOp rIxA (wVar 2) (wVar 5)) wNil))))) (wAsg (wVar 4) (gIxA (wVar 2) (wVar 5))) wNext))
def l2_directory_of (s__counts_more : WSp) : WS :=
  (wFor (iAnyW (wVar 3)) (gNm 4) (l1_directory_of s__counts_more))
def l3_directory_of (s__counts_more : WSp) : WS :=
  (wIfS (wTest (wOp (rInDu false) (wOp rIxA (wOp rIxA (wVar 2) (wVar 5)) (wC (.int 3))) (wVar 1))) (wAsg (wOp rIxA (wVar 2) (wVar 5)) (gIxA (wVar 6) (wOp rIxA (wVar 5) (wC (.int 0))))) wNext)
def b_directory_of (s__counts_more : WSp) : WS :=
  (wSeq (wSet 2 wDNewN)
    (wSeq (wFor (iAnyW (wVar 0)) (gNm 3) (l2_directory_of s__counts_more))
    (wSeq (wSet 6 wDNewN)
    (wSeq (wFor (iAnyW (wCB rSortN (wCons (wVar 2) wNil))) (gNm 5) (l3_directory_of s__counts_more))
    (wRet (wTupVals (wVar 6)))))))
def b__counts_more : WS :=
  (wSeq (wAsg (wSl (wVar 0) (wPart (wC (.int 2))) wNoPart) (gTp 2 (gC (gNm 2) (gC (gNm 3) gN0))))
    (wRet (wOrV (wOp rGt (wVar 2) (wOp rIxA (wVar 1) (wC (.int 2)))) (wAndV (wOp (rEq false) (wVar 2) (wOp rIxA (wVar 1) (wC (.int 2)))) (wOp (rIsN false) (wVar 3) (wC .non))))))
def b__law_bag : WS :=
  (wSeq (wSet 2 (wC (.int 0)))
    (wSeq (wIfS (wTest (wOp rLt (wVar 1) (wCB rLenA (wCons (wVar 0) wNil)))) (wSet 2 (wCB rInt1 (wCons (wOp rIxA (wVar 0) (wVar 1)) wNil))) wNext)
    (wSeq (wIfS (wTest (wOp rGeI (wVar 2) (wOp rPow (wC (.int 10)) (wC (.int 18))))) (wRet (wLst (wCons (wVar 2) (wCons (wVar 2) (wCons (wVar 1) wNil))))) wNext)
    (wRet (wLst (wCons (wC (.int 0)) (wCons (wVar 2) (wCons (wVar 1) wNil))))))))
def b__law_draw : WS :=
  (wSeq (wIfS (wTest (wOp rLt (wVar 1) (wC (.int 1)))) (wRet (wC (.int 0))) wNext)
    (wSeq (wIfS (wTest (wOp (rEq false) (wOp rIxA (wVar 0) (wC (.int 0))) (wC (.int 0)))) (wSeq (wSet 2 (wOp rMod (wCB rInt1 (wCons (wOp rAdd (wOp rAdd (wOp rMul (wOp rIxA (wVar 0) (wC (.int 1))) (wC (.int 48271))) (wOp rMul (wOp rIxA (wVar 0) (wC (.int 2))) (wC (.int 69621)))) (wC (.int 11))) wNil)) (wC (.int 2147483647))))
    (wSeq (wAsg (wOp rAdd (wOp rMul (wVar 2) (wC (.int 2147483629))) (wOp rMod (wCB rInt1 (wCons (wOp rAdd (wOp rMul (wVar 2) (wVar 2)) (wOp rMul (wOp rIxA (wVar 0) (wC (.int 2))) (wC (.int 16807)))) wNil)) (wC (.int 2147483629)))) (gIxA (wVar 0) (wC (.int 0))))
    (wAsg (wVar 2) (gIxA (wVar 0) (wC (.int 1)))))) wNext)
    (wSeq (wSet 3 (wOp rIxA (wVar 0) (wC (.int 0))))
    (wSeq (wAsg (wOp rFdiv (wVar 3) (wVar 1)) (gIxA (wVar 0) (wC (.int 0))))
    (wRet (wOp rMod (wCB rInt1 (wCons (wVar 3) wNil)) (wVar 1)))))))
def b__law_row (s__law_draw : WSp) : WS :=
  (wSeq (wSet 1 (wTup (wCons (wCall 2 s__law_draw (wCons (wVar 0) (wCons (wC (.int 2)) wNil))) (wCons (wOp rAdd (wC (.int 1)) (wCall 2 s__law_draw (wCons (wVar 0) (wCons (wC (.int 2)) wNil)))) wNil))))
    (wSeq (wSet 2 (wTup (wCons (wCall 2 s__law_draw (wCons (wVar 0) (wCons (wC (.int 2)) wNil))) (wCons (wC (.int 1)) (wCons (wOp rAdd (wC (.int 1)) (wCall 2 s__law_draw (wCons (wVar 0) (wCons (wC (.int 2)) wNil)))) wNil)))))
    (wSeq (wSet 3 (wOp rIxA (wLst (wCons (wC .non) (wCons (wTup (wCons (wC (.int 0)) (wCons (wC (.int 1)) wNil))) (wCons (wTup (wCons (wC (.int 0)) (wCons (wC (.int 2)) wNil))) (wCons (wTup (wCons (wC (.int 1)) (wCons (wC (.int 1)) wNil))) (wCons (wTup (wCons (wC (.int 2)) (wCons (wC (.int 3)) wNil))) wNil)))))) (wCall 2 s__law_draw (wCons (wVar 0) (wCons (wC (.int 5)) wNil)))))
    (wRet (wTup (wCons (wVar 1) (wCons (wVar 2) (wCons (wCall 2 s__law_draw (wCons (wVar 0) (wCons (wC (.int 4)) wNil))) (wCons (wVar 3) wNil)))))))))
def l1__law_due : WE :=
  (wVar 4)
def l2__law_due : WS :=
  (wSet 2 (wOp rAdd (wVar 2) (wLc (iAnyW (wVar 3)) (gNm 4) wYes (l1__law_due) [4])))
def l3__law_due : WT :=
  (wTest (wOp (rEq false) (wOp rIxA (wVar 4) (wC (.int 0))) (wVar 6)))
def l4__law_due : WE :=
  (wOp rIxA (wVar 4) (wC (.int 1)))
def l5__law_due : WT :=
  (wAnd (wTest (wOp (rEq false) (wOp rIxA (wVar 4) (wC (.int 0))) (wVar 6))) (wTest (wOp (rEq false) (wOp rIxA (wVar 4) (wC (.int 1))) (wVar 8))))
def l6__law_due : WE :=
  (wVar 4)
def l7__law_due : WE :=
  (wOp rIxA (wVar 4) (wC (.int 2)))
def l8__law_due : WT :=
  (wTest (wOp (rEq false) (wOp rIxA (wVar 4) (wC (.int 2))) (wVar 10)))
def l9__law_due : WE :=
  (wOp rIxA (wVar 4) (wC (.int 3)))
def l10__law_due : WS :=
  (wSeq (wSet 9 (wLc (iAnyW (wVar 2)) (gNm 4) (l5__law_due) (l6__law_due) [4]))
    (wSeq (wSet 10 (wCB rMaxL (wCons (wLc (iAnyW (wVar 9)) (gNm 4) wYes (l7__law_due) [4]) wNil)))
    (wSeq (wSet 11 (wLc (iAnyW (wVar 9)) (gNm 4) (l8__law_due) (l9__law_due) [4]))
    (wIfS (wAnd (wTest (wOp (rInDu true) (wC .non) (wVar 11))) (wTest (wOp (rInDu false) (wOp rIxA (wVar 11) (wC (.int 0))) (wVar 1)))) (wSet 7 (wTup (wCons (wVar 6) (wCons (wVar 8) (wCons (wVar 10) (wCons (wOp rIxA (wVar 11) (wC (.int 0))) wNil)))))) wNext))))
def l11__law_due : WS :=
  (wSeq (wSet 7 (wC .non))
    (wSeq (wFor (iAnyW (wCB rSortT (wCons (wLc (iAnyW (wVar 2)) (gNm 4) (l3__law_due) (l4__law_due) [4]) wNil))) (gNm 8) (l10__law_due))
    (wIfS (wTest (wOp (rIsN true) (wVar 7) (wC .non))) (wDrop (wMt rAppendT (wVar 5) (wCons (wVar 7) wNil))) wNext)))
def b__law_due : WS :=
  (wSeq (wSet 2 (wLst wNil))
    (wSeq (wFor (iAnyW (wVar 0)) (gNm 3) (l2__law_due))
    (wSeq (wSet 5 (wLst wNil))
    (wSeq (wFor (iAnyW (wLst (wCons (wTup (wCons (wC (.int 0)) (wCons (wC (.int 1)) wNil))) (wCons (wTup (wCons (wC (.int 0)) (wCons (wC (.int 2)) wNil))) (wCons (wTup (wCons (wC (.int 1)) (wCons (wC (.int 1)) wNil))) (wCons (wTup (wCons (wC (.int 1)) (wCons (wC (.int 2)) wNil))) wNil)))))) (gNm 6) (l11__law_due))
    (wRet (wCB rTupOf (wCons (wVar 5) wNil)))))))
def l1__law_fair : WS :=
  (wSeq (wIfS (wAnd (wTest (wOp (rIsN true) (wOp rIxA (wVar 3) (wC (.int 3))) (wC .non))) (wTest (wOp (rEq true) (wMtN rGetN (wVar 1) (wCons (wSl (wVar 3) wNoPart (wPart (wC (.int 3)))) (wCons (wOp rIxA (wVar 3) (wC (.int 3))) wNil))) (wOp rIxA (wVar 3) (wC (.int 3)))))) (wRet (wC (.bl false))) wNext)
    (wIfS (wTest (wOp (rIsN true) (wOp rIxA (wVar 3) (wC (.int 3))) (wC .non))) (wAsg (wOp rIxA (wVar 3) (wC (.int 3))) (gIxA (wVar 1) (wSl (wVar 3) wNoPart (wPart (wC (.int 3)))))) wNext))
def l2__law_fair : WS :=
  (wFor (iAnyW (wVar 2)) (gNm 3) (l1__law_fair))
def b__law_fair : WS :=
  (wSeq (wSet 1 wDNewN)
    (wSeq (wFor (iAnyW (wVar 0)) (gNm 2) (l2__law_fair))
    (wRet (wC (.bl true)))))
def l1_law (s__law_bag s__law_draw s__law_row s__law_fair s__law_due s_directory_of : WSp) : WE :=
  (wCall 1 s__law_row (wCons (wVar 2) wNil))
def l2_law (s__law_bag s__law_draw s__law_row s__law_fair s__law_due s_directory_of : WSp) : WE :=
  (wCB rTupOf (wCons (wLc (iRg1 (wCons (wCall 2 s__law_draw (wCons (wVar 2) (wCons (wC (.int 6)) wNil))) wNil)) (gNm 4) wYes (l1_law s__law_bag s__law_draw s__law_row s__law_fair s__law_due s_directory_of) [4]) wNil))
def l3_law (s__law_bag s__law_draw s__law_row s__law_fair s__law_due s_directory_of : WSp) : WT :=
  (wTest (wOp rGt (wCall 2 s__law_draw (wCons (wVar 2) (wCons (wC (.int 3)) wNil))) (wC (.int 0))))
def l4_law (s__law_bag s__law_draw s__law_row s__law_fair s__law_due s_directory_of : WSp) : WE :=
  (wVar 7)
def l5_law (s__law_bag s__law_draw s__law_row s__law_fair s__law_due s_directory_of : WSp) : WE :=
  (wVar 9)
def l6_law (s__law_bag s__law_draw s__law_row s__law_fair s__law_due s_directory_of : WSp) : WE :=
  (wRevU (wVar 9))
def l7_law (s__law_bag s__law_draw s__law_row s__law_fair s__law_due s_directory_of : WSp) : WS :=
  (wSeq (wSet 2 (wCall 2 s__law_bag (wCons (wVar 0) (wCons (wVar 1) wNil))))
    (wSeq (wSet 3 (wLc (iRg1 (wCons (wCall 2 s__law_draw (wCons (wVar 2) (wCons (wC (.int 5)) wNil))) wNil)) (gNm 5) wYes (l2_law s__law_bag s__law_draw s__law_row s__law_fair s__law_due s_directory_of) [5]))
    (wSeq (wSet 6 (wCB rTupOf (wCons (wLc (iAnyW (wLst (wCons (wTup (wCons (wC (.int 0)) (wCons (wC (.int 2)) wNil))) (wCons (wTup (wCons (wC (.int 1)) (wCons (wC (.int 1)) wNil))) (wCons (wTup (wCons (wC (.int 2)) (wCons (wC (.int 3)) wNil))) wNil))))) (gNm 7) (l3_law s__law_bag s__law_draw s__law_row s__law_fair s__law_due s_directory_of) (l4_law s__law_bag s__law_draw s__law_row s__law_fair s__law_due s_directory_of) [7]) wNil)))
    (wSeq (wIfS (wNot (wTest (wCall 1 s__law_fair (wCons (wVar 3) wNil)))) wCont wNext)
    (wSeq (wSet 8 (wLc (iAnyW (wVar 3)) (gNm 9) wYes (l5_law s__law_bag s__law_draw s__law_row s__law_fair s__law_due s_directory_of) [9]))
    (wSeq (wSet 10 (wCall 2 s__law_due (wCons (wVar 3) (wCons (wVar 6) wNil))))
    (wSeq (wIfS (wOr (wTest (wOp (rEq true) (wCall 2 s_directory_of (wCons (wVar 3) (wCons (wVar 6) wNil))) (wVar 10))) (wTest (wOp (rEq true) (wVar 3) (wVar 8)))) (wRet (wC (.bl false))) wNext)
    (wSeq (wSet 11 (wRev (wLc (iAnyW (wVar 3)) (gNm 9) wYes (l6_law s__law_bag s__law_draw s__law_row s__law_fair s__law_due s_directory_of) [9])))
    (wIfS (wTest (wOp (rEq true) (wCall 2 s_directory_of (wCons (wOp rAdd (wVar 11) (wSl (wVar 11) wNoPart (wPart (wC (.int 1))))) (wCons (wVar 6) wNil))) (wVar 10))) (wRet (wC (.bl false))) wNext)))))))))
def b_law (s__law_bag s__law_draw s__law_row s__law_fair s__law_due s_directory_of : WSp) : WS :=
  (wSeq (wFor (iRg1 (wCons (wCB rMax2 (wCons (wC (.int 1)) (wCons (wCB rMin2 (wCons (wC (.int 12)) (wCons (wCB rLenA (wCons (wVar 0) wNil)) wNil))) wNil))) wNil)) (gNm 1) (l7_law s__law_bag s__law_draw s__law_row s__law_fair s__law_due s_directory_of))
    (wRet (wOp (rEq false) (wCall 2 s_directory_of (wCons (wLst wNil) (wCons (wTup wNil) wNil))) (wTup wNil))))
section
variable {P : Program} {w : World} {K : PySem.W.Frag} {mg : Str → Option Value} {base : Heap}
theorem fn_directory_of (T : Facts K mg) {k : Nat} {f : Addr} {fd : FuncData} {tl : List Addr} {s__counts_more : WSp} {sp : WSp} (F : Fun K "directory_of" "directory_of" st_directory_of f fd) (C__counts_more : Cal P w K mg base tl k "_counts_more" ["row", "other"] s__counts_more)
    (hw : ∀ ts S Q E, ts.length = 2 → sp ts S Q E → b_directory_of s__counts_more { nx := fun _ S' => Q .non S', rt := Q } (startT N_directory_of ts) S) :
    FnOk P w K mg base CX0 (k + 1) f fd ["reports", "births"] (Lsp tl K 2 sp) :=
  fnT F sc_directory_of (fun cdv A outer s H E hr hcd ht => (jss_cons (js_set (i := 2) sc_directory_of.nd rfl (by first | exact .inl rfl | exact .inr rfl) j_dnewN)
    (jss_cons (js_for PassesOwn.never rfl (ji_any (j_var 0)) (jg_name (i := 3) (vs := [3]) sc_directory_of.nd rfl (by first | exact .inl rfl | exact .inr rfl) (by decide))
    (jss_one (js_for PassesOwn.never rfl (ji_any (j_var 3)) (jg_name (i := 4) (vs := [4]) sc_directory_of.nd rfl (by first | exact .inl rfl | exact .inr rfl) (by decide))
    (jss_cons (js_set (i := 5) sc_directory_of.nd rfl (by first | exact .inl rfl | exact .inr rfl) (j_slice (j_var 4) jo_none (jo_some j_int)))
    (jss_one (js_if (JW.jt (jw_or (jt_cmp (o_notInA (hu65 hr)) (j_var 5) (j_var 2) (by rfl)) (jw_or1 (jt_val (j_c C__counts_more ht hr (by rfl) (ja_cons (j_var 4) (ja_cons (j_ixA (hu65 hr) (j_var 2) (j_var 5) (fun _ _ => rfl)) ja_nil))))))) (jss_one (js_asg (j_var 4) (jg_ixA (hu65 hr) (j_var 2) (j_var 5)))) jss_nil))))))
    (jss_cons (js_set (i := 6) sc_directory_of.nd rfl (by first | exact .inl rfl | exact .inr rfl) j_dnewN)
    (jss_cons (js_for PassesOwn.never rfl (ji_any (j_callB (c_sortN rfl (hu65 hr)) (by rfl) T.z_sorted (by rfl) (ja_cons (j_var 2) ja_nil))) (jg_name (i := 5) (vs := [5]) sc_directory_of.nd rfl (by first | exact .inl rfl | exact .inr rfl) (by decide))
    (jss_one (js_if (jt_cmp (o_inDu (hu65 hr)) (j_ixA (hu65 hr) (j_ixA (hu65 hr) (j_var 2) (j_var 5) (fun _ _ => rfl)) j_int (fun _ _ => rfl)) (j_var 1) (by rfl)) (jss_one (js_asg (j_ixA (hu65 hr) (j_var 2) (j_var 5) (fun _ _ => rfl)) (jg_ixA (hu65 hr) (j_var 6) (j_ixA (hu65 hr) (j_var 5) j_int (fun _ _ => rfl))))) jss_nil)))
    (jss_one (js_ret (j_tupVals rfl (j_var 6) (by rfl) T.z_tuple)))))))) hw
theorem fn__counts_more (T : Facts K mg) {k : Nat} {f : Addr} {fd : FuncData} {tl : List Addr}  {sp : WSp} (F : Fun K "_counts_more" "_counts_more" st__counts_more f fd) 
    (hw : ∀ ts S Q E, ts.length = 2 → sp ts S Q E → b__counts_more  { nx := fun _ S' => Q .non S', rt := Q } (startT N__counts_more ts) S) :
    FnOk P w K mg base CX0 (k + 1) f fd ["row", "other"] (Lsp tl K 2 sp) :=
  fnT F sc__counts_more (fun cdv A outer s H E hr hcd ht => (jss_cons (js_asg (j_slice (j_var 0) (jo_some j_int) jo_none) (JG.two (jg_tup rfl (jgs_cons (jg_name (i := 2) (vs := [2, 3]) sc__counts_more.nd rfl (by first | exact .inl rfl | exact .inr rfl) (by decide)) (jgs_cons (jg_name (i := 3) (vs := [2, 3]) sc__counts_more.nd rfl (by first | exact .inl rfl | exact .inr rfl) (by decide)) jgs_nil)))))
    (jss_one (js_ret (j_or (j_cmp o_gtA (j_var 2) (j_ixA (hu65 hr) (j_var 1) j_int (fun _ _ => rfl)) (nomark _)) (j_one (j_and (j_cmp (o_eq hr.units) (j_var 2) (j_ixA (hu65 hr) (j_var 1) j_int (fun _ _ => rfl)) (nomark _)) (j_one (j_cmp o_isN (j_var 3) j_non (nomark _)))))))))) hw
theorem fn__law_bag (T : Facts K mg) {k : Nat} {f : Addr} {fd : FuncData} {tl : List Addr}  {sp : WSp} (F : Fun K "_law_bag" "_law_bag" st__law_bag f fd) 
    (hw : ∀ ts S Q E, ts.length = 2 → sp ts S Q E → b__law_bag  { nx := fun _ S' => Q .non S', rt := Q } (startT N__law_bag ts) S) :
    FnOk P w K mg base CX0 (k + 1) f fd ["script", "k"] (Lsp tl K 2 sp) :=
  fnT F sc__law_bag (fun cdv A outer s H E hr hcd ht => (jss_cons (js_set (i := 2) sc__law_bag.nd rfl (by first | exact .inl rfl | exact .inr rfl) j_int)
    (jss_cons (js_if (jt_cmp o_lt (j_var 1) (j_callB c_lenA (by rfl) T.z_len PySem.boot_len (ja_cons (j_var 0) ja_nil)) (nomark _)) (jss_one (js_set (i := 2) sc__law_bag.nd rfl (by first | exact .inl rfl | exact .inr rfl) (j_callTy c_int (by rfl) T.z_int (by rfl) (ja_cons (j_ixA (hu65 hr) (j_var 0) (j_var 1) (fun _ _ => rfl)) ja_nil)))) jss_nil)
    (jss_cons (js_if (jt_cmp o_ge (j_var 2) (j_op o_pow j_int j_int) (nomark _)) (jss_one (js_ret (j_lst (ja_cons (j_var 2) (ja_cons (j_var 2) (ja_cons (j_var 1) ja_nil)))))) jss_nil)
    (jss_one (js_ret (j_lst (ja_cons j_int (ja_cons (j_var 2) (ja_cons (j_var 1) ja_nil)))))))))) hw
theorem fn__law_draw (T : Facts K mg) {k : Nat} {f : Addr} {fd : FuncData} {tl : List Addr}  {sp : WSp} (F : Fun K "_law_draw" "_law_draw" st__law_draw f fd) 
    (hw : ∀ ts S Q E, ts.length = 2 → sp ts S Q E → b__law_draw  { nx := fun _ S' => Q .non S', rt := Q } (startT N__law_draw ts) S) :
    FnOk P w K mg base CX0 (k + 1) f fd ["bag", "many"] (Lsp tl K 2 sp) :=
  fnT F sc__law_draw (fun cdv A outer s H E hr hcd ht => (jss_cons (js_if (jt_cmp o_lt (j_var 1) j_int (nomark _)) (jss_one (js_ret j_int)) jss_nil)
    (jss_cons (js_if (jt_cmp (o_eq hr.units) (j_ixA (hu65 hr) (j_var 0) j_int (fun _ _ => rfl)) j_int (nomark _)) (jss_cons (js_set (i := 2) sc__law_draw.nd rfl (by first | exact .inl rfl | exact .inr rfl) (j_op o_mod (j_callTy c_int (by rfl) T.z_int (by rfl) (ja_cons (j_op o_add (j_op o_add (j_op o_mul (j_ixA (hu65 hr) (j_var 0) j_int (fun _ _ => rfl)) j_int) (j_op o_mul (j_ixA (hu65 hr) (j_var 0) j_int (fun _ _ => rfl)) j_int)) j_int) ja_nil)) j_int))
    (jss_cons (js_asg (j_op o_add (j_op o_mul (j_var 2) j_int) (j_op o_mod (j_callTy c_int (by rfl) T.z_int (by rfl) (ja_cons (j_op o_add (j_op o_mul (j_var 2) (j_var 2)) (j_op o_mul (j_ixA (hu65 hr) (j_var 0) j_int (fun _ _ => rfl)) j_int)) ja_nil)) j_int)) (jg_ixA (hu65 hr) (j_var 0) j_int))
    (jss_one (js_asg (j_var 2) (jg_ixA (hu65 hr) (j_var 0) j_int))))) jss_nil)
    (jss_cons (js_set (i := 3) sc__law_draw.nd rfl (by first | exact .inl rfl | exact .inr rfl) (j_ixA (hu65 hr) (j_var 0) j_int (fun _ _ => rfl)))
    (jss_cons (js_asg (j_op o_fdiv (j_var 3) (j_var 1)) (jg_ixA (hu65 hr) (j_var 0) j_int))
    (jss_one (js_ret (j_op o_mod (j_callTy c_int (by rfl) T.z_int (by rfl) (ja_cons (j_var 3) ja_nil)) (j_var 1))))))))) hw
theorem fn__law_row (T : Facts K mg) {k : Nat} {f : Addr} {fd : FuncData} {tl : List Addr} {s__law_draw : WSp} {sp : WSp} (F : Fun K "_law_row" "_law_row" st__law_row f fd) (C__law_draw : Cal P w K mg base tl k "_law_draw" ["bag", "many"] s__law_draw)
    (hw : ∀ ts S Q E, ts.length = 1 → sp ts S Q E → b__law_row s__law_draw { nx := fun _ S' => Q .non S', rt := Q } (startT N__law_row ts) S) :
    FnOk P w K mg base CX0 (k + 1) f fd ["bag"] (Lsp tl K 1 sp) :=
  fnT F sc__law_row (fun cdv A outer s H E hr hcd ht => (jss_cons (js_set (i := 1) sc__law_row.nd rfl (by first | exact .inl rfl | exact .inr rfl) (j_tup (ja_cons (j_c C__law_draw ht hr (by rfl) (ja_cons (j_var 0) (ja_cons j_int ja_nil))) (ja_cons (j_op o_add j_int (j_c C__law_draw ht hr (by rfl) (ja_cons (j_var 0) (ja_cons j_int ja_nil)))) ja_nil))))
    (jss_cons (js_set (i := 2) sc__law_row.nd rfl (by first | exact .inl rfl | exact .inr rfl) (j_tup (ja_cons (j_c C__law_draw ht hr (by rfl) (ja_cons (j_var 0) (ja_cons j_int ja_nil))) (ja_cons j_int (ja_cons (j_op o_add j_int (j_c C__law_draw ht hr (by rfl) (ja_cons (j_var 0) (ja_cons j_int ja_nil)))) ja_nil)))))
    (jss_cons (js_set (i := 3) sc__law_row.nd rfl (by first | exact .inl rfl | exact .inr rfl) (j_ixA (hu65 hr) (j_lst (ja_cons j_non (ja_cons (j_tup (ja_cons j_int (ja_cons j_int ja_nil))) (ja_cons (j_tup (ja_cons j_int (ja_cons j_int ja_nil))) (ja_cons (j_tup (ja_cons j_int (ja_cons j_int ja_nil))) (ja_cons (j_tup (ja_cons j_int (ja_cons j_int ja_nil))) ja_nil)))))) (j_c C__law_draw ht hr (by rfl) (ja_cons (j_var 0) (ja_cons j_int ja_nil))) (fun _ _ => rfl)))
    (jss_one (js_ret (j_tup (ja_cons (j_var 1) (ja_cons (j_var 2) (ja_cons (j_c C__law_draw ht hr (by rfl) (ja_cons (j_var 0) (ja_cons j_int ja_nil))) (ja_cons (j_var 3) ja_nil))))))))))) hw
theorem fn__law_due (T : Facts K mg) {k : Nat} {f : Addr} {fd : FuncData} {tl : List Addr}  {sp : WSp} (F : Fun K "_law_due" "_law_due" st__law_due f fd) 
    (hw : ∀ ts S Q E, ts.length = 2 → sp ts S Q E → b__law_due  { nx := fun _ S' => Q .non S', rt := Q } (startT N__law_due ts) S) :
    FnOk P w K mg base CX0 (k + 1) f fd ["reports", "births"] (Lsp tl K 2 sp) :=
  fnT F sc__law_due (fun cdv A outer s H E hr hcd ht => (jss_cons (js_set (i := 2) sc__law_due.nd rfl (by first | exact .inl rfl | exact .inr rfl) (j_lst ja_nil))
    (jss_cons (js_for PassesOwn.never rfl (ji_any (j_var 0)) (jg_name (i := 3) (vs := [3]) sc__law_due.nd rfl (by first | exact .inl rfl | exact .inr rfl) (by decide))
    (jss_one (js_set (i := 2) sc__law_due.nd rfl (by first | exact .inl rfl | exact .inr rfl) (j_op o_add (j_var 2) (j_lc (own := [("row", 4)]) rfl sc__law_due.nd (ji_any (j_var 3)) (blkOk_by (N := N__law_due) (sc := defScope st__law_due) (by decide +kernel)) (fun _ _ _ _ _ => (jg_name (i := 4) (vs := [4]) sc__law_due.nd rfl (by first | exact .inl rfl | exact .inr rfl) (by decide))) (fun _ _ _ _ _ => jts_nil) (fun _ _ _ _ _ => (j_var 4)))))))
    (jss_cons (js_set (i := 5) sc__law_due.nd rfl (by first | exact .inl rfl | exact .inr rfl) (j_lst ja_nil))
    (jss_cons (js_for PassesOwn.never rfl (ji_any (j_lst (ja_cons (j_tup (ja_cons j_int (ja_cons j_int ja_nil))) (ja_cons (j_tup (ja_cons j_int (ja_cons j_int ja_nil))) (ja_cons (j_tup (ja_cons j_int (ja_cons j_int ja_nil))) (ja_cons (j_tup (ja_cons j_int (ja_cons j_int ja_nil))) ja_nil)))))) (jg_name (i := 6) (vs := [6]) sc__law_due.nd rfl (by first | exact .inl rfl | exact .inr rfl) (by decide))
    (jss_cons (js_set (i := 7) sc__law_due.nd rfl (by first | exact .inl rfl | exact .inr rfl) j_non)
    (jss_cons (js_for PassesOwn.never rfl (ji_any (j_callB (c_sortT (hu65 hr)) (by rfl) T.z_sorted (by rfl) (ja_cons (j_lc (own := [("row", 4)]) rfl sc__law_due.nd (ji_any (j_var 2)) (blkOk_by (N := N__law_due) (sc := defScope st__law_due) (by decide +kernel)) (fun _ _ _ _ _ => (jg_name (i := 4) (vs := [4]) sc__law_due.nd rfl (by first | exact .inl rfl | exact .inr rfl) (by decide))) (fun _ _ _ _ _ => (jts_one (jt_cmp (o_eq hr.units) (j_ixA (hu65 hr) (j_var 4) j_int (fun _ _ => rfl)) (j_var 6) (nomark _)))) (fun _ _ _ _ _ => (j_ixA (hu65 hr) (j_var 4) j_int (fun _ _ => rfl)))) ja_nil))) (jg_name (i := 8) (vs := [8]) sc__law_due.nd rfl (by first | exact .inl rfl | exact .inr rfl) (by decide))
    (jss_cons (js_setLc (i := 9) (own := [("row", 4)]) rfl sc__law_due.nd rfl rfl (sw_true rfl rfl rfl (by decide +kernel)) (ji_any (j_var 2)) (blkOk_by (N := N__law_due) (sc := defScope st__law_due) (by decide +kernel)) (fun _ _ _ _ _ => (jg_name (i := 4) (vs := [4]) sc__law_due.nd rfl (by first | exact .inl rfl | exact .inr rfl) (by decide))) (fun _ _ _ _ _ => (jts_one (JW.jt (jw_and (jt_cmp (o_eq hr.units) (j_ixA (hu65 hr) (j_var 4) j_int (fun _ _ => rfl)) (j_var 6) (nomark _)) (jw_and1 (jt_cmp (o_eq hr.units) (j_ixA (hu65 hr) (j_var 4) j_int (fun _ _ => rfl)) (j_var 8) (nomark _))))))) (fun _ _ _ _ _ => (j_var 4)))
    (jss_cons (js_set (i := 10) sc__law_due.nd rfl (by first | exact .inl rfl | exact .inr rfl) (j_callB (c_maxL rfl) (by rfl) T.z_max (by rfl) (ja_cons (j_lc (own := [("row", 4)]) rfl sc__law_due.nd (ji_any (j_var 9)) (blkOk_by (N := N__law_due) (sc := defScope st__law_due) (by decide +kernel)) (fun _ _ _ _ _ => (jg_name (i := 4) (vs := [4]) sc__law_due.nd rfl (by first | exact .inl rfl | exact .inr rfl) (by decide))) (fun _ _ _ _ _ => jts_nil) (fun _ _ _ _ _ => (j_ixA (hu65 hr) (j_var 4) j_int (fun _ _ => rfl)))) ja_nil)))
    (jss_cons (js_setLc (i := 11) (own := [("row", 4)]) rfl sc__law_due.nd rfl rfl (sw_true rfl rfl rfl (by decide +kernel)) (ji_any (j_var 9)) (blkOk_by (N := N__law_due) (sc := defScope st__law_due) (by decide +kernel)) (fun _ _ _ _ _ => (jg_name (i := 4) (vs := [4]) sc__law_due.nd rfl (by first | exact .inl rfl | exact .inr rfl) (by decide))) (fun _ _ _ _ _ => (jts_one (jt_cmp (o_eq hr.units) (j_ixA (hu65 hr) (j_var 4) j_int (fun _ _ => rfl)) (j_var 10) (nomark _)))) (fun _ _ _ _ _ => (j_ixA (hu65 hr) (j_var 4) j_int (fun _ _ => rfl))))
    (jss_one (js_if (JW.jt (jw_and (jt_cmp (o_notInDu (hu65 hr)) j_non (j_var 11) (by rfl)) (jw_and1 (jt_cmp (o_inDu (hu65 hr)) (j_ixA (hu65 hr) (j_var 11) j_int (fun _ _ => rfl)) (j_var 1) (by rfl))))) (jss_one (js_set (i := 7) sc__law_due.nd rfl (by first | exact .inl rfl | exact .inr rfl) (j_tup (ja_cons (j_var 6) (ja_cons (j_var 8) (ja_cons (j_var 10) (ja_cons (j_ixA (hu65 hr) (j_var 11) j_int (fun _ _ => rfl)) ja_nil))))))) jss_nil))))))
    (jss_one (js_if (jt_cmp o_notN (j_var 7) j_non (nomark _)) (jss_one (js_expr (j_mtL PySem.F.slot_list_append PySem.F.type_list_append m_append (j_var 5) (ja_cons (j_var 7) ja_nil)))) jss_nil)))))
    (jss_one (js_ret (j_callTy c_tup (by rfl) T.z_tuple (by rfl) (ja_cons (j_var 5) ja_nil))))))))) hw
theorem fn__law_fair (T : Facts K mg) {k : Nat} {f : Addr} {fd : FuncData} {tl : List Addr}  {sp : WSp} (F : Fun K "_law_fair" "_law_fair" st__law_fair f fd) 
    (hw : ∀ ts S Q E, ts.length = 1 → sp ts S Q E → b__law_fair  { nx := fun _ S' => Q .non S', rt := Q } (startT N__law_fair ts) S) :
    FnOk P w K mg base CX0 (k + 1) f fd ["reports"] (Lsp tl K 1 sp) :=
  fnT F sc__law_fair (fun cdv A outer s H E hr hcd ht => (jss_cons (js_set (i := 1) sc__law_fair.nd rfl (by first | exact .inl rfl | exact .inr rfl) j_dnewN)
    (jss_cons (js_for PassesOwn.never rfl (ji_any (j_var 0)) (jg_name (i := 2) (vs := [2]) sc__law_fair.nd rfl (by first | exact .inl rfl | exact .inr rfl) (by decide))
    (jss_one (js_for PassesOwn.never rfl (ji_any (j_var 2)) (jg_name (i := 3) (vs := [3]) sc__law_fair.nd rfl (by first | exact .inl rfl | exact .inr rfl) (by decide))
    (jss_cons (js_if (JW.jt (jw_and (jt_cmp o_notN (j_ixA (hu65 hr) (j_var 3) j_int (fun _ _ => rfl)) j_non (nomark _)) (jw_and1 (jt_cmp (o_ne hr.units) (j_mtN PySem.F.slot_dict_get PySem.F.type_dict_get (m_getN (hu65 hr)) (j_var 1) (ja_cons (j_slice (j_var 3) jo_none (jo_some j_int)) (ja_cons (j_ixA (hu65 hr) (j_var 3) j_int (fun _ _ => rfl)) ja_nil))) (j_ixA (hu65 hr) (j_var 3) j_int (fun _ _ => rfl)) (nomark _))))) (jss_one (js_ret j_bl)) jss_nil)
    (jss_one (js_if (jt_cmp o_notN (j_ixA (hu65 hr) (j_var 3) j_int (fun _ _ => rfl)) j_non (nomark _)) (jss_one (js_asg (j_ixA (hu65 hr) (j_var 3) j_int (fun _ _ => rfl)) (jg_ixA (hu65 hr) (j_var 1) (j_slice (j_var 3) jo_none (jo_some j_int))))) jss_nil))))))
    (jss_one (js_ret j_bl))))) hw
theorem fn_law (T : Facts K mg) {k : Nat} {f : Addr} {fd : FuncData} {tl : List Addr} {s__law_bag s__law_draw s__law_row s__law_fair s__law_due s_directory_of : WSp} {sp : WSp} (F : Fun K "law" "law" st_law f fd) (C__law_bag : Cal P w K mg base tl k "_law_bag" ["script", "k"] s__law_bag) (C__law_draw : Cal P w K mg base tl k "_law_draw" ["bag", "many"] s__law_draw) (C__law_row : Cal P w K mg base tl k "_law_row" ["bag"] s__law_row) (C__law_fair : Cal P w K mg base tl k "_law_fair" ["reports"] s__law_fair) (C__law_due : Cal P w K mg base tl k "_law_due" ["reports", "births"] s__law_due) (C_directory_of : Cal P w K mg base tl k "directory_of" ["reports", "births"] s_directory_of)
    (hw : ∀ ts S Q E, ts.length = 1 → sp ts S Q E → b_law s__law_bag s__law_draw s__law_row s__law_fair s__law_due s_directory_of { nx := fun _ S' => Q .non S', rt := Q } (startT N_law ts) S) :
    FnOk P w K mg base CX0 (k + 1) f fd ["script"] (Lsp tl K 1 sp) :=
  fnT F sc_law (fun cdv A outer s H E hr hcd ht => (jss_cons (js_for PassesOwn.never rfl (ji_rg1 (by rfl) T.z_range (ja_cons (j_callB (c_max2 rfl) (by rfl) T.z_max (by rfl) (ja_cons j_int (ja_cons (j_callB (c_min2 rfl) (by rfl) T.z_min (by rfl) (ja_cons j_int (ja_cons (j_callB c_lenA (by rfl) T.z_len PySem.boot_len (ja_cons (j_var 0) ja_nil)) ja_nil))) ja_nil))) ja_nil)) (jg_name (i := 1) (vs := [1]) sc_law.nd rfl (by first | exact .inl rfl | exact .inr rfl) (by decide))
    (jss_cons (js_set (i := 2) sc_law.nd rfl (by first | exact .inl rfl | exact .inr rfl) (j_c C__law_bag ht hr (by rfl) (ja_cons (j_var 0) (ja_cons (j_var 1) ja_nil))))
    (jss_cons (js_setLc (i := 3) (own := [("turn", 5)]) rfl sc_law.nd rfl rfl (sw_true rfl rfl rfl (by decide +kernel)) (ji_rg1 (by rfl) T.z_range (ja_cons (j_c C__law_draw ht hr (by rfl) (ja_cons (j_var 2) (ja_cons j_int ja_nil))) ja_nil)) (blkOk_by (N := N_law) (sc := defScope st_law) (by decide +kernel)) (fun _ _ _ _ _ => (jg_name (i := 5) (vs := [5]) sc_law.nd rfl (by first | exact .inl rfl | exact .inr rfl) (by decide))) (fun _ _ _ _ _ => jts_nil) (fun _ _ _ _ _ => (j_callTy c_tup (by rfl) T.z_tuple (by rfl) (ja_cons (j_lc (own := [("j", 4)]) rfl sc_law.nd (ji_rg1 (by rfl) T.z_range (ja_cons (j_c C__law_draw ht hr (by rfl) (ja_cons (j_var 2) (ja_cons j_int ja_nil))) ja_nil)) (by exact blkOk_by (by kernel_rfl)) (fun _ _ _ _ _ => (jg_name (i := 4) (vs := [4]) sc_law.nd rfl (by first | exact .inl rfl | exact .inr rfl) (by decide))) (fun _ _ _ _ _ => jts_nil) (fun _ _ _ _ _ => (j_c C__law_row ht hr (by rfl) (ja_cons (j_var 2) ja_nil)))) ja_nil))))
    (jss_cons (js_set (i := 6) sc_law.nd rfl (by first | exact .inl rfl | exact .inr rfl) (j_callTy c_tup (by rfl) T.z_tuple (by rfl) (ja_cons (j_lc (own := [("birth", 7)]) rfl sc_law.nd (ji_any (j_lst (ja_cons (j_tup (ja_cons j_int (ja_cons j_int ja_nil))) (ja_cons (j_tup (ja_cons j_int (ja_cons j_int ja_nil))) (ja_cons (j_tup (ja_cons j_int (ja_cons j_int ja_nil))) ja_nil))))) (blkOk_by (N := N_law) (sc := defScope st_law) (by decide +kernel)) (fun _ _ _ _ _ => (jg_name (i := 7) (vs := [7]) sc_law.nd rfl (by first | exact .inl rfl | exact .inr rfl) (by decide))) (fun _ _ _ _ _ => (jts_one (jt_cmp o_gtA (j_c C__law_draw ht hr (by rfl) (ja_cons (j_var 2) (ja_cons j_int ja_nil))) j_int (nomark _)))) (fun _ _ _ _ _ => (j_var 7))) ja_nil)))
    (jss_cons (js_if (jt_not (jt_val (j_c C__law_fair ht hr (by rfl) (ja_cons (j_var 3) ja_nil)))) (jss_one js_continue) jss_nil)
    (jss_cons (js_setLc (i := 8) (own := [("report", 9)]) rfl sc_law.nd rfl rfl (sw_true rfl rfl rfl (by decide +kernel)) (ji_any (j_var 3)) (blkOk_by (N := N_law) (sc := defScope st_law) (by decide +kernel)) (fun _ _ _ _ _ => (jg_name (i := 9) (vs := [9]) sc_law.nd rfl (by first | exact .inl rfl | exact .inr rfl) (by decide))) (fun _ _ _ _ _ => jts_nil) (fun _ _ _ _ _ => (j_var 9)))
    (jss_cons (js_set (i := 10) sc_law.nd rfl (by first | exact .inl rfl | exact .inr rfl) (j_c C__law_due ht hr (by rfl) (ja_cons (j_var 3) (ja_cons (j_var 6) ja_nil))))
    (jss_cons (js_if (JW.jt (jw_or (jt_cmp (o_ne hr.units) (j_c C_directory_of ht hr (by rfl) (ja_cons (j_var 3) (ja_cons (j_var 6) ja_nil))) (j_var 10) (nomark _)) (jw_or1 (jt_cmp (o_ne hr.units) (j_var 3) (j_var 8) (nomark _))))) (jss_one (js_ret j_bl)) jss_nil)
    (jss_cons (js_set (i := 11) sc_law.nd rfl (by first | exact .inl rfl | exact .inr rfl) (j_rev (j_lc (own := [("report", 9)]) rfl sc_law.nd (ji_any (j_var 3)) (blkOk_by (N := N_law) (sc := defScope st_law) (by decide +kernel)) (fun _ _ _ _ _ => (jg_name (i := 9) (vs := [9]) sc_law.nd rfl (by first | exact .inl rfl | exact .inr rfl) (by decide))) (fun _ _ _ _ _ => jts_nil) (fun _ _ _ _ _ => (j_revU (j_var 9))))))
    (jss_one (js_if (jt_cmp (o_ne hr.units) (j_c C_directory_of ht hr (by rfl) (ja_cons (j_op o_add (j_var 11) (j_slice (j_var 11) jo_none (jo_some j_int))) (ja_cons (j_var 6) ja_nil))) (j_var 10) (nomark _)) (jss_one (js_ret j_bl)) jss_nil)))))))))))
    (jss_one (js_ret (j_cmp (o_eq hr.units) (j_c C_directory_of ht hr (by rfl) (ja_cons (j_lst ja_nil) (ja_cons (j_tup ja_nil) ja_nil))) (j_tup ja_nil) (nomark _)))))) hw
end
set_option maxHeartbeats 0 in
theorem facts_mk {K : PySem.W.Frag} {h : Heap} {mg : Str → Option Value} (X : K.In h) (G : h.Ns mainGlobals mg)
    {f0 : Addr} {od0 an0 : Option Addr} {sl0 : Array (Option Value)} {oc0 kV0 dc0 pm0 cd0 ct0 : Value}
    (a0 : PySem.W.nsIn K mainGlobals "directory_of" = some (some (.ref f0))) (l0 : K.lookup f0 = some ⟨oc0, od0, .func (PySem.W.fnOf "directory_of" "directory_of" (defArgs st_directory_of) (defBody st_directory_of) (defScope st_directory_of) .none kV0 dc0 pm0 an0 cd0 ct0), sl0⟩) (c0 : PySem.W.codeIn K cd0 "directory_of" = true) (k0 : PySem.W.keepIn K (.ref f0) = true)
    {f1 : Addr} {od1 an1 : Option Addr} {sl1 : Array (Option Value)} {oc1 kV1 dc1 pm1 cd1 ct1 : Value}
    (a1 : PySem.W.nsIn K mainGlobals "_counts_more" = some (some (.ref f1))) (l1 : K.lookup f1 = some ⟨oc1, od1, .func (PySem.W.fnOf "_counts_more" "_counts_more" (defArgs st__counts_more) (defBody st__counts_more) (defScope st__counts_more) .none kV1 dc1 pm1 an1 cd1 ct1), sl1⟩) (c1 : PySem.W.codeIn K cd1 "_counts_more" = true) (k1 : PySem.W.keepIn K (.ref f1) = true)
    {f2 : Addr} {od2 an2 : Option Addr} {sl2 : Array (Option Value)} {oc2 kV2 dc2 pm2 cd2 ct2 : Value}
    (a2 : PySem.W.nsIn K mainGlobals "_law_bag" = some (some (.ref f2))) (l2 : K.lookup f2 = some ⟨oc2, od2, .func (PySem.W.fnOf "_law_bag" "_law_bag" (defArgs st__law_bag) (defBody st__law_bag) (defScope st__law_bag) .none kV2 dc2 pm2 an2 cd2 ct2), sl2⟩) (c2 : PySem.W.codeIn K cd2 "_law_bag" = true) (k2 : PySem.W.keepIn K (.ref f2) = true)
    {f3 : Addr} {od3 an3 : Option Addr} {sl3 : Array (Option Value)} {oc3 kV3 dc3 pm3 cd3 ct3 : Value}
    (a3 : PySem.W.nsIn K mainGlobals "_law_draw" = some (some (.ref f3))) (l3 : K.lookup f3 = some ⟨oc3, od3, .func (PySem.W.fnOf "_law_draw" "_law_draw" (defArgs st__law_draw) (defBody st__law_draw) (defScope st__law_draw) .none kV3 dc3 pm3 an3 cd3 ct3), sl3⟩) (c3 : PySem.W.codeIn K cd3 "_law_draw" = true) (k3 : PySem.W.keepIn K (.ref f3) = true)
    {f4 : Addr} {od4 an4 : Option Addr} {sl4 : Array (Option Value)} {oc4 kV4 dc4 pm4 cd4 ct4 : Value}
    (a4 : PySem.W.nsIn K mainGlobals "_law_row" = some (some (.ref f4))) (l4 : K.lookup f4 = some ⟨oc4, od4, .func (PySem.W.fnOf "_law_row" "_law_row" (defArgs st__law_row) (defBody st__law_row) (defScope st__law_row) .none kV4 dc4 pm4 an4 cd4 ct4), sl4⟩) (c4 : PySem.W.codeIn K cd4 "_law_row" = true) (k4 : PySem.W.keepIn K (.ref f4) = true)
    {f5 : Addr} {od5 an5 : Option Addr} {sl5 : Array (Option Value)} {oc5 kV5 dc5 pm5 cd5 ct5 : Value}
    (a5 : PySem.W.nsIn K mainGlobals "_law_due" = some (some (.ref f5))) (l5 : K.lookup f5 = some ⟨oc5, od5, .func (PySem.W.fnOf "_law_due" "_law_due" (defArgs st__law_due) (defBody st__law_due) (defScope st__law_due) .none kV5 dc5 pm5 an5 cd5 ct5), sl5⟩) (c5 : PySem.W.codeIn K cd5 "_law_due" = true) (k5 : PySem.W.keepIn K (.ref f5) = true)
    {f6 : Addr} {od6 an6 : Option Addr} {sl6 : Array (Option Value)} {oc6 kV6 dc6 pm6 cd6 ct6 : Value}
    (a6 : PySem.W.nsIn K mainGlobals "_law_fair" = some (some (.ref f6))) (l6 : K.lookup f6 = some ⟨oc6, od6, .func (PySem.W.fnOf "_law_fair" "_law_fair" (defArgs st__law_fair) (defBody st__law_fair) (defScope st__law_fair) .none kV6 dc6 pm6 an6 cd6 ct6), sl6⟩) (c6 : PySem.W.codeIn K cd6 "_law_fair" = true) (k6 : PySem.W.keepIn K (.ref f6) = true)
    {f7 : Addr} {od7 an7 : Option Addr} {sl7 : Array (Option Value)} {oc7 kV7 dc7 pm7 cd7 ct7 : Value}
    (a7 : PySem.W.nsIn K mainGlobals "law" = some (some (.ref f7))) (l7 : K.lookup f7 = some ⟨oc7, od7, .func (PySem.W.fnOf "law" "law" (defArgs st_law) (defBody st_law) (defScope st_law) .none kV7 dc7 pm7 an7 cd7 ct7), sl7⟩) (c7 : PySem.W.codeIn K cd7 "law" = true) (k7 : PySem.W.keepIn K (.ref f7) = true)
    (z_int : PySem.W.nsIn K mainGlobals "int" = some none)
    (z_len : PySem.W.nsIn K mainGlobals "len" = some none)
    (z_max : PySem.W.nsIn K mainGlobals "max" = some none)
    (z_min : PySem.W.nsIn K mainGlobals "min" = some none)
    (z_range : PySem.W.nsIn K mainGlobals "range" = some none)
    (z_sorted : PySem.W.nsIn K mainGlobals "sorted" = some none)
    (z_tuple : PySem.W.nsIn K mainGlobals "tuple" = some none) : Facts K mg where
  d_directory_of := defT_mk (PySem.W.mg_of X G a0) l0 c0 k0 fun _ _ _ _ _ _ us hl => match us, hl with | [_, _], _ => rfl
  d__counts_more := defT_mk (PySem.W.mg_of X G a1) l1 c1 k1 fun _ _ _ _ _ _ us hl => match us, hl with | [_, _], _ => rfl
  d__law_bag := defT_mk (PySem.W.mg_of X G a2) l2 c2 k2 fun _ _ _ _ _ _ us hl => match us, hl with | [_, _], _ => rfl
  d__law_draw := defT_mk (PySem.W.mg_of X G a3) l3 c3 k3 fun _ _ _ _ _ _ us hl => match us, hl with | [_, _], _ => rfl
  d__law_row := defT_mk (PySem.W.mg_of X G a4) l4 c4 k4 fun _ _ _ _ _ _ us hl => match us, hl with | [_], _ => rfl
  d__law_due := defT_mk (PySem.W.mg_of X G a5) l5 c5 k5 fun _ _ _ _ _ _ us hl => match us, hl with | [_, _], _ => rfl
  d__law_fair := defT_mk (PySem.W.mg_of X G a6) l6 c6 k6 fun _ _ _ _ _ _ us hl => match us, hl with | [_], _ => rfl
  d_law := defT_mk (PySem.W.mg_of X G a7) l7 c7 k7 fun _ _ _ _ _ _ us hl => match us, hl with | [_], _ => rfl
  z_int := PySem.W.mg_none_of X G z_int
  z_len := PySem.W.mg_none_of X G z_len
  z_max := PySem.W.mg_none_of X G z_max
  z_min := PySem.W.mg_none_of X G z_min
  z_range := PySem.W.mg_none_of X G z_range
  z_sorted := PySem.W.mg_none_of X G z_sorted
  z_tuple := PySem.W.mg_none_of X G z_tuple
end Gn

set_option Elab.async false
set_option linter.all false
set_option maxRecDepth 100000
set_option maxHeartbeats 8000000
namespace My
open PySem PySem.Spec PyProof.Rows L2 Wp Gn
local macro_rules | `(tactic| walk_at "go") => `(tactic| (with_reducible refine goS_i ?_))
local macro_rules | `(tactic| walk_at "wp") => `(tactic| simp (disch := omega) only [Wp.wSeq, Wp.wNext, Wp.wSet, Wp.wVar, Wp.wC, Wp.wOp, Wp.wRet, Wp.wIfS, Wp.wTest, Wp.wCall, Wp.wCons, Wp.wNil, Wp.wTup, Wp.wLst, Wp.wAsg, Wp.gTp, Wp.gC, Wp.gNm, Wp.gN0, Wp.gIx, Wp.rSet, Wp.rAdd, Wp.rMul, Wp.rMod, Wp.rSub, Wp.rFdiv, Wp.rPow, Wp.rInt, Wp.rIx, Wp.rLt, Wp.rLe, Wp.rCmp, Wp.rGeI, Wp.rGtI, Wp.wCB, Wp.rLen, Wp.rLen1, Wp.rInt1, Wp.rMax2, Wp.rMin2, Wp.rTupOf, Wp.rListOf,
  Wp.wIsi, Wp.rBIs, Wp.rIsN, Wp.isNon, Wp.wMt, Wp.rAppendT, Wp.rExtendT, Wp.rReverseT, Wp.wNot, Wp.wOr, Wp.wAnd, Wp.wAndV, Wp.wOrV, Wp.wNotV, Wp.wFor, Wp.iRg1, Wp.iRg2, Wp.iAnyW, Wp.wAll, Wp.wChain, Wp.wSl, Wp.wNoPart, Wp.wPart, Wp.rSl, Wp.wNeg, Wp.rNeg, Wp.wLc, Wp.wYes, Wp.wDrop, Wp.wipeT, Wp.wAug, List.map, List.set_cons_zero, List.set_cons_succ, List.getElem?_cons_zero, List.getElem?_cons_succ, List.length_cons, List.length_nil, List.cons_append, List.nil_append, List.replicate, Wp.startT,
  true_and, and_true, Wp.wif_true, Wp.wif_false, Wp.ex_some, Wp.ex_some1, Wp.ex_eq, Wp.ex_lst, Wp.ex_lst0, Wp.rEq_int, Bool.false_bne, Bool.true_bne, Int.reduceLT, Int.reduceLE, Int.reduceAdd, Nat.reduceAdd, Nat.reduceSub, eq_self, ite_true, ite_false, beq_self_eq_true, Bool.not_true, Bool.not_false, Wp.isB_0, Wp.isB_1, Wp.isB_2, Wp.isB_3, Wp.isB_4, Wp.isB_5, Wp.isB_6, Wp.isB_7, Wp.isB_8, Wp.isB_9, Wp.isB_10, Wp.isB_11, Wp.isB_12, Wp.isB_13, Wp.isB_14, Wp.isB_15, Wp.isB_16, Wp.isB_17, Wp.isB_18, Wp.isB_19, Wp.isB_20, Wp.isB_21, Wp.isB_22, Wp.isB_23, Wp.isB_24, Wp.isB_25, Wp.isB_26, Wp.isB_27, Wp.isB_28, Wp.isB_29, Wp.isB_30, Wp.isB_31, Wp.isB_32, Wp.isB_33, Wp.isB_34, Wp.isB_35, Wp.cmul_l, Wp.cmul_r, Wp.cpow_lit, Wp.size_le, Wp.size_lt, Wp.atI_0, Wp.atI_1, Wp.atI_2, Wp.atI_3, Wp.atI_4, Wp.atI_5, Wp.atI_6, Wp.ixN_0, Wp.ixN_1, Wp.ixN_2, Wp.itemsT, Wp.tyT, reduceIte, Wp.wFld, Wp.wFSet, Wp.wFAug, Wp.wMeth, Wp.wMake, Wp.rIxA, Wp.rInA, Wp.rSetA, Wp.ixA, Wp.inA, Wp.setA, Wp.lenA, Wp.getD, Option.map_some, Option.bind_some, Option.getD_some,  Wp.gIxA, Wp.wDNew, Wp.wDNewT, Wp.rLenA, Wp.rSortD, Wp.rMaxL, Wp.rPopL, Wp.rGet1, Wp.rGet2, Wp.wGet1, Wp.wGet2, Wp.wPop1, Wp.wPop2, Wp.wDel, Wp.isDT, Wp.keyT, Wp.keysT, Wp.keysL, Wp.ex_ins, Wp.ex_dct, Wp.wIf, Wp.rGt, Wp.rAddI, Int.cast_ofNat_Int, Int.reduceBEq, Wp.wMtN, Wp.rGetN, Wp.wTupVals, Wp.rSortN, Wp.rSortT, Wp.wDNewN, Wp.wDelN, Wp.wRevU, Wp.upS, Wp.upS_upS, *])
local macro_rules | `(tactic| walk_at "run") => `(tactic| repeat (first | walk_at "wp" | walk_at "go"))
local macro_rules | `(tactic| walk_at "wq") => `(tactic| simp (disch := omega) only [Wp.wSeq, Wp.wNext, Wp.wSet, Wp.wVar, Wp.wC, Wp.wOp, Wp.wRet, Wp.wIfS, Wp.wTest, Wp.wCall, Wp.wCons, Wp.wNil, Wp.wTup, Wp.wLst, Wp.wAsg, Wp.gTp, Wp.gC, Wp.gNm, Wp.gN0, Wp.gIx, Wp.rSet, Wp.rAdd, Wp.rMul, Wp.rMod, Wp.rSub, Wp.rFdiv, Wp.rPow, Wp.rInt, Wp.rIx, Wp.rLt, Wp.rLe, Wp.rCmp, Wp.rGeI, Wp.rGtI, Wp.wCB, Wp.rLen, Wp.rLen1, Wp.rInt1, Wp.rMax2, Wp.rMin2, Wp.rTupOf, Wp.rListOf,
  Wp.wIsi, Wp.rBIs, Wp.rIsN, Wp.isNon, Wp.wMt, Wp.rAppendT, Wp.rExtendT, Wp.rReverseT, Wp.wNot, Wp.wOr, Wp.wAnd, Wp.wAndV, Wp.wOrV, Wp.wNotV, Wp.wFor, Wp.iRg1, Wp.iRg2, Wp.iAnyW, Wp.wAll, Wp.wChain, Wp.wSl, Wp.wNoPart, Wp.wPart, Wp.rSl, Wp.wNeg, Wp.rNeg, Wp.wLc, Wp.wYes, Wp.wDrop, Wp.wipeT, Wp.wAug, List.map, List.set_cons_zero, List.set_cons_succ, List.getElem?_cons_zero, List.getElem?_cons_succ, List.length_cons, List.length_nil, List.cons_append, List.nil_append, List.replicate, Wp.startT,
  true_and, and_true, Wp.wif_true, Wp.wif_false, Wp.ex_some, Wp.ex_some1, Wp.ex_eq, Wp.ex_lst, Wp.ex_lst0, Wp.rEq_int, Bool.false_bne, Bool.true_bne, Int.reduceLT, Int.reduceLE, Int.reduceAdd, Nat.reduceAdd, Nat.reduceSub, eq_self, ite_true, ite_false, beq_self_eq_true, Bool.not_true, Bool.not_false, Wp.isB_0, Wp.isB_1, Wp.isB_2, Wp.isB_3, Wp.isB_4, Wp.isB_5, Wp.isB_6, Wp.isB_7, Wp.isB_8, Wp.isB_9, Wp.isB_10, Wp.isB_11, Wp.isB_12, Wp.isB_13, Wp.isB_14, Wp.isB_15, Wp.isB_16, Wp.isB_17, Wp.isB_18, Wp.isB_19, Wp.isB_20, Wp.isB_21, Wp.isB_22, Wp.isB_23, Wp.isB_24, Wp.isB_25, Wp.isB_26, Wp.isB_27, Wp.isB_28, Wp.isB_29, Wp.isB_30, Wp.isB_31, Wp.isB_32, Wp.isB_33, Wp.isB_34, Wp.isB_35, Wp.cmul_l, Wp.cmul_r, Wp.cpow_lit, Wp.size_le, Wp.size_lt, Wp.atI_0, Wp.atI_1, Wp.atI_2, Wp.atI_3, Wp.atI_4, Wp.atI_5, Wp.atI_6, Wp.ixN_0, Wp.ixN_1, Wp.ixN_2, Wp.itemsT, Wp.tyT, reduceIte, Wp.wFld, Wp.wFSet, Wp.wFAug, Wp.wMeth, Wp.wMake, Wp.rIxA, Wp.rInA, Wp.rSetA, Wp.ixA, Wp.inA, Wp.setA, Wp.lenA, Wp.getD, Option.map_some, Option.bind_some, Option.getD_some,  Wp.gIxA, Wp.wDNew, Wp.wDNewT, Wp.rLenA, Wp.rSortD, Wp.rMaxL, Wp.rPopL, Wp.rGet1, Wp.rGet2, Wp.wGet1, Wp.wGet2, Wp.wPop1, Wp.wPop2, Wp.wDel, Wp.isDT, Wp.keyT, Wp.keysT, Wp.keysL, Wp.ex_ins, Wp.ex_dct, Wp.wIf, Wp.rGt, Wp.rAddI, Int.cast_ofNat_Int, Int.reduceBEq, Wp.wMtN, Wp.rGetN, Wp.wTupVals, Wp.rSortN, Wp.rSortT, Wp.wDNewN, Wp.wDelN, Wp.wRevU, *])
local macro_rules | `(tactic| walk_at "r2") => `(tactic| repeat (first | walk_at "wq" | walk_at "go"))
local macro_rules | `(tactic| walk_at "w0") => `(tactic| simp (disch := omega) only [Wp.wSeq, Wp.wNext, Wp.wSet, Wp.wVar, Wp.wC, Wp.wOp, Wp.wRet, Wp.wIfS, Wp.wTest, Wp.wCall, Wp.wCons, Wp.wNil, Wp.wTup, Wp.wLst, Wp.wAsg, Wp.gTp, Wp.gC, Wp.gNm, Wp.gN0, Wp.gIx, Wp.rSet, Wp.rAdd, Wp.rMul, Wp.rMod, Wp.rSub, Wp.rFdiv, Wp.rPow, Wp.rInt, Wp.rIx, Wp.rLt, Wp.rLe, Wp.rCmp, Wp.rGeI, Wp.rGtI, Wp.wCB, Wp.rLen, Wp.rLen1, Wp.rInt1, Wp.rMax2, Wp.rMin2, Wp.rTupOf, Wp.rListOf,
  Wp.wIsi, Wp.rBIs, Wp.rIsN, Wp.isNon, Wp.wMt, Wp.rAppendT, Wp.rExtendT, Wp.rReverseT, Wp.wNot, Wp.wOr, Wp.wAnd, Wp.wAndV, Wp.wOrV, Wp.wNotV, Wp.wFor, Wp.iRg1, Wp.iRg2, Wp.iAnyW, Wp.wAll, Wp.wChain, Wp.wSl, Wp.wNoPart, Wp.wPart, Wp.rSl, Wp.wNeg, Wp.rNeg, Wp.wLc, Wp.wYes, Wp.wDrop, Wp.wipeT, Wp.wAug, List.map, List.set_cons_zero, List.set_cons_succ, List.getElem?_cons_zero, List.getElem?_cons_succ, List.length_cons, List.length_nil, List.cons_append, List.nil_append, List.replicate, Wp.startT,
  true_and, and_true, Wp.wif_true, Wp.wif_false, Wp.ex_some, Wp.ex_some1, Wp.ex_eq, Wp.ex_lst, Wp.ex_lst0, Wp.rEq_int, Bool.false_bne, Bool.true_bne, Int.reduceLT, Int.reduceLE, Int.reduceAdd, Nat.reduceAdd, Nat.reduceSub, eq_self, ite_true, ite_false, beq_self_eq_true, Bool.not_true, Bool.not_false, Wp.isB_0, Wp.isB_1, Wp.isB_2, Wp.isB_3, Wp.isB_4, Wp.isB_5, Wp.isB_6, Wp.isB_7, Wp.isB_8, Wp.isB_9, Wp.isB_10, Wp.isB_11, Wp.isB_12, Wp.isB_13, Wp.isB_14, Wp.isB_15, Wp.isB_16, Wp.isB_17, Wp.isB_18, Wp.isB_19, Wp.isB_20, Wp.isB_21, Wp.isB_22, Wp.isB_23, Wp.isB_24, Wp.isB_25, Wp.isB_26, Wp.isB_27, Wp.isB_28, Wp.isB_29, Wp.isB_30, Wp.isB_31, Wp.isB_32, Wp.isB_33, Wp.isB_34, Wp.isB_35, Wp.cmul_l, Wp.cmul_r, Wp.cpow_lit, Wp.size_le, Wp.size_lt, Wp.atI_0, Wp.atI_1, Wp.atI_2, Wp.atI_3, Wp.atI_4, Wp.atI_5, Wp.atI_6, Wp.ixN_0, Wp.ixN_1, Wp.ixN_2, Wp.itemsT, Wp.tyT, reduceIte, Wp.wFld, Wp.wFSet, Wp.wFAug, Wp.wMeth, Wp.wMake, Wp.rIxA, Wp.rInA, Wp.rSetA, Wp.ixA, Wp.inA, Wp.setA, Wp.lenA, Wp.getD, Option.map_some, Option.bind_some, Option.getD_some,  Wp.gIxA, Wp.wDNew, Wp.wDNewT, Wp.rLenA, Wp.rSortD, Wp.rMaxL, Wp.rPopL, Wp.rGet1, Wp.rGet2, Wp.wGet1, Wp.wGet2, Wp.wPop1, Wp.wPop2, Wp.wDel, Wp.isDT, Wp.keyT, Wp.keysT, Wp.keysL, Wp.ex_ins, Wp.ex_dct, Wp.wIf, Wp.rGt, Wp.rAddI, Int.cast_ofNat_Int, Int.reduceBEq, Wp.wMtN, Wp.rGetN, Wp.wTupVals, Wp.rSortN, Wp.rSortT, Wp.wDNewN, Wp.wDelN, Wp.wRevU])
local macro_rules | `(tactic| walk_at "r0") => `(tactic| repeat (first | walk_at "w0" | walk_at "go"))
/-! ### rows, by codes -/
structure Rw where
  f : Nat
  l : Nat
  e : Int
  p : Nat
def flT (i : Nat) : T := .tup [.int ((i / 2 : Nat) : Int), .int ((i % 2 + 1 : Nat) : Int)]
def lfT (i : Nat) : T := .tup [.int ((i / 2 : Nat) : Int), .int 1, .int ((i % 2 + 1 : Nat) : Int)]
def plT : Nat → T
  | 0 => .non
  | 1 => .tup [.int 0, .int 1]
  | 2 => .tup [.int 0, .int 2]
  | 3 => .tup [.int 1, .int 1]
  | _ => .tup [.int 2, .int 3]
def rwT (r : Rw) : T := .tup [flT r.f, lfT r.l, .int r.e, plT r.p]
def flK (i : Nat) : NK := .tup [.num ((i / 2 : Nat) : Int), .num ((i % 2 + 1 : Nat) : Int)]
def lfK (i : Nat) : NK := .tup [.num ((i / 2 : Nat) : Int), .num 1, .num ((i % 2 + 1 : Nat) : Int)]
def rkK (r : Rw) : NK := .tup [flK r.f, lfK r.l]
structure Rw.Ok (r : Rw) : Prop where
  f : r.f < 4
  l : r.l < 4
  p : r.p < 5
def sk (a b : Rw) : Prop := a.f = b.f ∧ a.l = b.l
instance (a b : Rw) : Decidable (sk a b) := by unfold sk; infer_instance
theorem flK_inj : ∀ i < 4, ∀ j < 4, flK i = flK j → i = j := by decide +kernel
theorem lfK_inj : ∀ i < 4, ∀ j < 4, lfK i = lfK j → i = j := by decide +kernel
theorem rkK_iff {a b : Rw} (ha : a.Ok) (hb : b.Ok) : rkK a = rkK b ↔ sk a b := by
  constructor
  · intro h
    unfold rkK at h
    have h := NestedKey.tup.inj h
    have h1 := (List.cons.inj h).1
    have h2 := (List.cons.inj (List.cons.inj h).2).1
    exact ⟨flK_inj _ ha.f _ hb.f h1, lfK_inj _ ha.l _ hb.l h2⟩
  · rintro ⟨h1, h2⟩
    unfold rkK
    rw [h1, h2]
theorem flK_iff {a b : Rw} (ha : a.Ok) (hb : b.Ok) : flK a.f = flK b.f ↔ a.f = b.f := ⟨flK_inj _ ha.f _ hb.f, fun h => by rw [h]⟩
/-! ### the winners -/
/-- a row counts more than another one -/
def more (r o : Rw) : Bool := decide (o.e < r.e) || (r.e == o.e && r.p == 0)
structure Win (rs : List Rw) (v : Rw) : Prop where
  m : v ∈ rs
  e : ∀ r ∈ rs, sk r v → r.e ≤ v.e
  p : ∀ r ∈ rs, sk r v → r.e = v.e → r.p = 0 → v.p = 0
def Fair (rs : List Rw) : Prop := ∀ r ∈ rs, ∀ r' ∈ rs, sk r r' → r.e = r'.e → r.p ≠ 0 → r'.p ≠ 0 → r.p = r'.p
theorem Rw.ext' {a b : Rw} (h1 : a.f = b.f) (h2 : a.l = b.l) (h3 : a.e = b.e) (h4 : a.p = b.p) : a = b := by
  cases a; cases b; simp only at h1 h2 h3 h4; subst h1 h2 h3 h4; rfl
theorem Win.uniq {rs rs' : List Rw} {v v' : Rw} (h : Win rs v) (h' : Win rs' v') (same : ∀ r, r ∈ rs ↔ r ∈ rs') (fair : Fair rs) (k : sk v v') : v = v' := by
  have m' : v' ∈ rs := (same _).mpr h'.m
  have m : v ∈ rs' := (same _).mp h.m
  have e1 := h.e v' m' ⟨k.1.symm, k.2.symm⟩
  have e2 := h'.e v m k
  have ee : v.e = v'.e := by omega
  refine Rw.ext' k.1 k.2 ee ?_
  by_cases z : v.p = 0
  · rw [z, h'.p v m k ee z]
  · by_cases z' : v'.p = 0
    · exact absurd (h.p v' m' ⟨k.1.symm, k.2.symm⟩ ee.symm z') z
    · exact fair v h.m v' m' k ee z z'
theorem Win.congr {rs rs' : List Rw} {v : Rw} (h : Win rs v) (same : ∀ r, r ∈ rs ↔ r ∈ rs') : Win rs' v :=
  ⟨(same _).mp h.m, fun r hr => h.e r ((same _).mpr hr), fun r hr => h.p r ((same _).mpr hr)⟩
/-- what is counted, row by row -/
def cntS (c : List Rw) (r : Rw) : List Rw := match c.find? fun x => decide (sk x r) with
  | none => c ++ [r]
  | some o => if more r o then c.map fun x => if sk x r then r else x else c
structure Cn (rs c : List Rw) : Prop where
  nd : c.Pairwise fun a b => ¬ sk a b
  win : ∀ v ∈ c, Win rs v
  all : ∀ r ∈ rs, ∃ v ∈ c, sk v r
theorem Cn.nil : Cn [] [] := ⟨.nil, fun v h => (by cases h), fun v h => (by cases h)⟩
theorem sk_symm {a b : Rw} (h : sk a b) : sk b a := ⟨h.1.symm, h.2.symm⟩
theorem sk_trans {a b c : Rw} (h : sk a b) (h' : sk b c) : sk a c := ⟨h.1.trans h'.1, h.2.trans h'.2⟩
theorem pair_uniq {α : Type} {R : α → α → Prop} (sym : ∀ a b, R a b → R b a) {c : List α} (h : c.Pairwise fun a b => ¬ R a b) {a b : α} (ha : a ∈ c) (hb : b ∈ c) (k : R a b) : a = b := by
  induction h with
  | nil => cases ha
  | @cons x l hx hl ih =>
    rcases List.mem_cons.mp ha with ea | ha
    · rcases List.mem_cons.mp hb with eb | hb
      · rw [ea, eb]
      · exact absurd (ea ▸ k) (hx b hb)
    · rcases List.mem_cons.mp hb with eb | hb
      · exact absurd (sym _ _ (eb ▸ k)) (hx a ha)
      · exact ih ha hb
theorem Cn.step {rs c : List Rw} (h : Cn rs c) (r : Rw) : Cn (rs ++ [r]) (cntS c r) := by
  have keepW : ∀ v, Win rs v → (sk r v → r.e ≤ v.e ∧ (r.e = v.e → r.p = 0 → v.p = 0)) → Win (rs ++ [r]) v := fun v w k => by
    refine ⟨List.mem_append_left _ w.m, fun x hx s => ?_, fun x hx s => ?_⟩
    · rcases List.mem_append.mp hx with hx | hx
      · exact w.e x hx s
      · have : x = r := by simpa using hx
        subst this; exact (k s).1
    · rcases List.mem_append.mp hx with hx | hx
      · exact w.p x hx s
      · have : x = r := by simpa using hx
        subst this; exact (k s).2
  unfold cntS
  cases e : c.find? fun x => decide (sk x r) with
  | none =>
    have none' : ∀ x ∈ c, ¬ sk x r := fun x hx => by
      have := List.find?_eq_none.mp e x hx
      simpa using this
    refine ⟨List.pairwise_append.mpr ⟨h.nd, List.pairwise_singleton _ _, fun a ha b hb => ?_⟩, fun v hv => ?_, fun x hx => ?_⟩
    · have : b = r := by simpa using hb
      rw [this]; exact none' a ha
    · rcases List.mem_append.mp hv with hv | hv
      · exact keepW v (h.win v hv) fun s => absurd (sk_symm s) (none' v hv)
      · have : v = r := by simpa using hv
        subst this
        refine ⟨List.mem_append_right _ List.mem_cons_self, fun x hx s => ?_, fun x hx s _ z => ?_⟩
        · rcases List.mem_append.mp hx with hx | hx
          · obtain ⟨y, hy, sy⟩ := h.all x hx
            exact absurd (sk_trans sy s) (none' y hy)
          · have : x = v := by simpa using hx
            rw [this]; exact Int.le_refl _
        · rcases List.mem_append.mp hx with hx | hx
          · obtain ⟨y, hy, sy⟩ := h.all x hx
            exact absurd (sk_trans sy s) (none' y hy)
          · have : x = v := by simpa using hx
            rw [← this]; exact z
    · rcases List.mem_append.mp hx with hx | hx
      · obtain ⟨y, hy, sy⟩ := h.all x hx
        exact ⟨y, List.mem_append_left _ hy, sy⟩
      · have : x = r := by simpa using hx
        exact ⟨r, List.mem_append_right _ List.mem_cons_self, by rw [this]; exact ⟨rfl, rfl⟩⟩
  | some o =>
    have ho : o ∈ c := List.mem_of_find?_eq_some e
    have so : sk o r := by simpa using List.find?_some e
    have wo := h.win o ho
    dsimp only
    by_cases hm : more r o = true
    · rw [if_pos hm]
      have hm' : o.e < r.e ∨ (r.e = o.e ∧ r.p = 0) := by
        unfold more at hm
        simpa using hm
      have wr : Win (rs ++ [r]) r := by
        refine ⟨List.mem_append_right _ List.mem_cons_self, fun x hx s => ?_, fun x hx s ee z => ?_⟩
        · rcases List.mem_append.mp hx with hx | hx
          · have := wo.e x hx (sk_trans s (sk_symm so))
            omega
          · have : x = r := by simpa using hx
            rw [this]; exact Int.le_refl _
        · rcases List.mem_append.mp hx with hx | hx
          · have := wo.e x hx (sk_trans s (sk_symm so))
            rcases hm' with q | q
            · omega
            · exact q.2
          · have : x = r := by simpa using hx
            rw [← this]; exact z
      refine ⟨?_, fun v hv => ?_, fun x hx => ?_⟩
      · have key : ∀ a b : Rw, ¬ sk a b → ¬ sk (if sk a r then r else a) (if sk b r then r else b) := fun a b n => by
          by_cases ha : sk a r
          · by_cases hb : sk b r
            · exact absurd (sk_trans ha (sk_symm hb)) n
            · rw [if_pos ha, if_neg hb]; exact fun s => hb (sk_symm s)
          · by_cases hb : sk b r
            · rw [if_neg ha, if_pos hb]; exact ha
            · rw [if_neg ha, if_neg hb]; exact n
        exact List.pairwise_map.mpr (h.nd.imp fun {a b} n => key a b n)
      · obtain ⟨x, hx, rfl⟩ := List.mem_map.mp hv
        by_cases s : sk x r
        · rw [if_pos s]; exact wr
        · rw [if_neg s]; exact keepW x (h.win x hx) fun q => absurd (sk_symm q) s
      · have hy : ∃ y ∈ c, sk y x := by
          rcases List.mem_append.mp hx with hx | hx
          · exact h.all x hx
          · have : x = r := by simpa using hx
            exact ⟨o, ho, by rw [this]; exact so⟩
        obtain ⟨y, hy, sy⟩ := hy
        refine ⟨_, List.mem_map.mpr ⟨y, hy, rfl⟩, ?_⟩
        by_cases s : sk y r
        · rw [if_pos s]; exact sk_trans (sk_symm s) sy
        · rw [if_neg s]; exact sy
    · rw [if_neg hm]
      have hm' : ¬ (o.e < r.e) ∧ ¬ (r.e = o.e ∧ r.p = 0) := by
        unfold more at hm
        simpa using hm
      refine ⟨h.nd, fun v hv => ?_, fun x hx => ?_⟩
      · refine keepW v (h.win v hv) fun s => ?_
        have : v = o := pair_uniq (R := sk) (fun _ _ => sk_symm) h.nd hv ho (sk_trans (sk_symm s) (sk_symm so))
        subst this
        exact ⟨by omega, fun q z => absurd ⟨q, z⟩ hm'.2⟩
      · rcases List.mem_append.mp hx with hx | hx
        · exact h.all x hx
        · have : x = r := by simpa using hx
          exact ⟨o, ho, by rw [this]; exact so⟩
/-! ### what is to come out -/
structure Qu (rs : List Rw) (bs : List Nat) (v : Rw) : Prop where
  w : Win rs v
  b : v.p ∈ bs
structure Be (rs : List Rw) (bs : List Nat) (f : Nat) (v : Rw) : Prop where
  q : Qu rs bs v
  fl : v.f = f
  top : ∀ v', Qu rs bs v' → v'.f = f → v'.l ≤ v.l
def Res (rs : List Rw) (bs : List Nat) (out : List Rw) : Prop := ∃ g : Nat → Option Rw, out = [0, 1, 2, 3].filterMap g ∧ ∀ f, (∀ v, g f = some v → Be rs bs f v) ∧ (g f = none → ∀ v, Qu rs bs v → v.f ≠ f)
theorem Res.uniq {rs rs' : List Rw} {bs : List Nat} {o o' : List Rw} (h : Res rs bs o) (h' : Res rs' bs o') (same : ∀ r, r ∈ rs ↔ r ∈ rs') (fair : Fair rs) : o = o' := by
  obtain ⟨g, rfl, hg⟩ := h
  obtain ⟨g', rfl, hg'⟩ := h'
  have : g = g' := by
    funext f
    obtain ⟨a1, a2⟩ := hg f
    obtain ⟨b1, b2⟩ := hg' f
    have there : ∀ v, Qu rs bs v → Qu rs' bs v := fun v q => ⟨q.w.congr same, q.b⟩
    have back : ∀ v, Qu rs' bs v → Qu rs bs v := fun v q => ⟨q.w.congr fun r => (same r).symm, q.b⟩
    cases e : g f with
    | none =>
      cases e' : g' f with
      | none => rfl
      | some v => exact absurd (b1 v e').fl (a2 e v (back v (b1 v e').q))
    | some v =>
      cases e' : g' f with
      | none => exact absurd (a1 v e).fl (b2 e' v (there v (a1 v e).q))
      | some v' =>
        have x := a1 v e
        have y := b1 v' e'
        have l1 := x.top v' (back _ y.q) y.fl
        have l2 := y.top v (there _ x.q) x.fl
        rw [x.q.w.uniq y.q.w same fair ⟨x.fl.trans y.fl.symm, Nat.le_antisymm l2 l1⟩]
  rw [this]
/-- a list whose flows rise is told by the flows -/
theorem rise_find : ∀ (fs : List Nat) (d : List Rw), fs.Pairwise (· < ·) → d.Pairwise (fun a b => a.f < b.f) → (∀ x ∈ d, x.f ∈ fs) → fs.filterMap (fun f => d.find? fun x => decide (x.f = f)) = d
  | [], d, _, _, h => by
    cases d with
    | nil => rfl
    | cons x d => exact absurd (h x List.mem_cons_self) (by simp)
  | a :: fs, [], hf, _, _ => by
    have ih := rise_find fs [] (List.pairwise_cons.mp hf).2 .nil (fun x hx => by cases hx)
    rw [List.filterMap_cons]
    exact ih
  | a :: fs, x :: d, hf, hd, h => by
    obtain ⟨f1, f2⟩ := List.pairwise_cons.mp hf
    obtain ⟨d1, d2⟩ := List.pairwise_cons.mp hd
    by_cases hx : x.f = a
    · have ih := rise_find fs d f2 d2 fun y hy => by
        have := h y (List.mem_cons_of_mem _ hy)
        rcases List.mem_cons.mp this with z | z
        · have := d1 y hy; omega
        · exact z
      rw [List.filterMap_cons, List.find?_cons, hx, decide_eq_true rfl]
      refine congrArg (x :: ·) ?_
      refine Eq.trans ?_ ih
      have : ∀ gs : List Nat, (∀ g ∈ gs, a < g) → gs.filterMap (fun f => (x :: d).find? fun x => decide (x.f = f)) = gs.filterMap (fun f => d.find? fun x => decide (x.f = f)) := fun gs => by
        induction gs with
        | nil => intro _; rfl
        | cons g gs ig =>
          intro hg
          have g1 := hg g List.mem_cons_self
          rw [List.filterMap_cons, List.filterMap_cons, List.find?_cons, decide_eq_false (show ¬ x.f = g by omega), ig fun y hy => hg y (List.mem_cons_of_mem _ hy)]
      exact this fs f1
    · have ha : a < x.f := by
        rcases List.mem_cons.mp (h x List.mem_cons_self) with z | z
        · exact absurd z hx
        · exact f1 _ z
      have ih := rise_find fs (x :: d) f2 hd fun y hy => by
        rcases List.mem_cons.mp (h y hy) with z | z
        · rcases List.mem_cons.mp hy with rfl | hy
          · exact absurd z hx
          · have := d1 y hy; omega
        · exact z
      have no : (x :: d).find? (fun x => decide (x.f = a)) = none := List.find?_eq_none.mpr fun y hy => by
        have : ¬ y.f = a := by
          rcases List.mem_cons.mp hy with rfl | hy
          · exact hx
          · have := d1 y hy; omega
        simpa using this
      rw [List.filterMap_cons, no]
      exact ih
/-- the directory, name by name -/
def dirS (bs : List Nat) (d : List Rw) (v : Rw) : List Rw := if v.p ∈ bs then (match d.find? fun x => decide (x.f = v.f) with
  | some _ => d.map fun x => if x.f = v.f then v else x
  | none => d ++ [v]) else d
structure Dn (rs : List Rw) (bs : List Nat) (c d : List Rw) : Prop where
  up : d.Pairwise fun a b => a.f < b.f
  mem : ∀ x ∈ d, x ∈ c ∧ x.p ∈ bs
  top : ∀ v ∈ c, v.p ∈ bs → ∃ x ∈ d, x.f = v.f ∧ v.l ≤ x.l
def leR (a b : Rw) : Prop := a.f < b.f ∨ (a.f = b.f ∧ a.l ≤ b.l)
theorem Dn.step {rs : List Rw} {bs : List Nat} {c d : List Rw} (h : Dn rs bs c d) (v : Rw) (hv : ∀ x ∈ c, leR x v) : Dn rs bs (c ++ [v]) (dirS bs d v) := by
  unfold dirS
  by_cases hb : v.p ∈ bs
  · rw [if_pos hb]
    cases e : d.find? fun x => decide (x.f = v.f) with
    | none =>
      have no : ∀ x ∈ d, x.f ≠ v.f := fun x hx => by simpa using List.find?_eq_none.mp e x hx
      refine ⟨List.pairwise_append.mpr ⟨h.up, List.pairwise_singleton _ _, fun a ha b hb => ?_⟩, fun x hx => ?_, fun w hw wb => ?_⟩
      · have : b = v := by simpa using hb
        rw [this]
        have n := no a ha
        rcases hv a (h.mem a ha).1 with q | q
        · exact q
        · exact absurd q.1 n
      · rcases List.mem_append.mp hx with hx | hx
        · exact ⟨List.mem_append_left _ (h.mem x hx).1, (h.mem x hx).2⟩
        · have : x = v := by simpa using hx
          rw [this]; exact ⟨List.mem_append_right _ List.mem_cons_self, hb⟩
      · rcases List.mem_append.mp hw with hw | hw
        · obtain ⟨x, hx, q⟩ := h.top w hw wb
          exact ⟨x, List.mem_append_left _ hx, q⟩
        · have : w = v := by simpa using hw
          exact ⟨v, List.mem_append_right _ List.mem_cons_self, by rw [this], by rw [this]; exact Nat.le_refl _⟩
    | some o =>
      have ho : o ∈ d := List.mem_of_find?_eq_some e
      have fo : o.f = v.f := by simpa using List.find?_some e
      have ff : ∀ x : Rw, (if x.f = v.f then v else x).f = x.f := fun x => by
        by_cases z : x.f = v.f
        · rw [if_pos z, z]
        · rw [if_neg z]
      refine ⟨List.pairwise_map.mpr (h.up.imp fun {a b} q => by rw [ff, ff]; exact q), fun x hx => ?_, fun w hw wb => ?_⟩
      · obtain ⟨y, hy, rfl⟩ := List.mem_map.mp hx
        by_cases z : y.f = v.f
        · rw [if_pos z]; exact ⟨List.mem_append_right _ List.mem_cons_self, hb⟩
        · rw [if_neg z]; exact ⟨List.mem_append_left _ (h.mem y hy).1, (h.mem y hy).2⟩
      · have key : ∀ y ∈ d, y.f = w.f → w.l ≤ y.l ∨ w = v → ∃ x ∈ d.map (fun x => if x.f = v.f then v else x), x.f = w.f ∧ w.l ≤ x.l := fun y hy q1 q2 => by
          refine ⟨_, List.mem_map.mpr ⟨y, hy, rfl⟩, by rw [ff]; exact q1, ?_⟩
          by_cases z : y.f = v.f
          · rw [if_pos z]
            rcases q2 with q2 | rfl
            · rcases hv y (h.mem y hy).1 with q | q
              · omega
              · omega
            · exact Nat.le_refl _
          · rw [if_neg z]
            rcases q2 with q2 | rfl
            · exact q2
            · exact absurd q1 z
        rcases List.mem_append.mp hw with hw | hw
        · obtain ⟨x, hx, q1, q2⟩ := h.top w hw wb
          exact key x hx q1 (.inl q2)
        · have : w = v := by simpa using hw
          exact key o ho (by rw [this]; exact fo) (.inr this)
  · rw [if_neg hb]
    refine ⟨h.up, fun x hx => ⟨List.mem_append_left _ (h.mem x hx).1, (h.mem x hx).2⟩, fun w hw wb => ?_⟩
    rcases List.mem_append.mp hw with hw | hw
    · exact h.top w hw wb
    · have : w = v := by simpa using hw
      rw [this] at wb; exact absurd wb hb
theorem Dn.res {rs : List Rw} {bs : List Nat} {c c' d : List Rw} (fair : Fair rs) (hc : Cn rs c) (perm : ∀ x, x ∈ c' ↔ x ∈ c) (h : Dn rs bs c' d) (ok : ∀ r ∈ rs, r.f < 4) : Res rs bs d := by
  have inC : ∀ v, Win rs v → v ∈ c' := fun v w => by
    obtain ⟨y, hy, sy⟩ := hc.all v w.m
    have : y = v := (hc.win y hy).uniq w (fun _ => Iff.rfl) fair sy
    exact (perm v).mpr (this ▸ hy)
  refine ⟨fun f => d.find? fun x => decide (x.f = f), ?_, fun f => ⟨fun v e => ?_, fun e v q z => ?_⟩⟩
  · refine (rise_find [0, 1, 2, 3] d (by decide) h.up fun x hx => ?_).symm
    have := ok x (hc.win x ((perm x).mp (h.mem x hx).1)).m
    simp only [List.mem_cons, List.not_mem_nil, or_false]
    omega
  · have hv := List.mem_of_find?_eq_some e
    have fv : v.f = f := by simpa using List.find?_some e
    obtain ⟨m1, m2⟩ := h.mem v hv
    refine ⟨⟨hc.win v ((perm v).mp m1), m2⟩, fv, fun v' q' f' => ?_⟩
    obtain ⟨x, hx, e1, e2⟩ := h.top v' (inC v' q'.w) q'.b
    have : x = v := by
      have u := h.up
      have nd : d.Pairwise fun a b => ¬ a.f = b.f := u.imp fun {a b} q => by omega
      exact pair_uniq (R := fun a b : Rw => a.f = b.f) (fun _ _ q => q.symm) nd hx hv (by omega)
    rw [← this]; exact e2
  · obtain ⟨x, hx, e1, e2⟩ := h.top v (inC v q.w) q.b
    have := List.find?_eq_none.mp e x hx
    exact absurd (show x.f = f by omega) (by simpa using this)
end My

set_option Elab.async false
set_option linter.all false
set_option maxRecDepth 100000
set_option maxHeartbeats 8000000
namespace My
open PySem PySem.Spec PyProof.Rows L2 Wp Gn
local macro_rules | `(tactic| walk_at "go") => `(tactic| (with_reducible refine goS_i ?_))
local macro_rules | `(tactic| walk_at "wp") => `(tactic| simp (disch := omega) only [Wp.wSeq, Wp.wNext, Wp.wSet, Wp.wVar, Wp.wC, Wp.wOp, Wp.wRet, Wp.wIfS, Wp.wTest, Wp.wCall, Wp.wCons, Wp.wNil, Wp.wTup, Wp.wLst, Wp.wAsg, Wp.gTp, Wp.gC, Wp.gNm, Wp.gN0, Wp.gIx, Wp.rSet, Wp.rAdd, Wp.rMul, Wp.rMod, Wp.rSub, Wp.rFdiv, Wp.rPow, Wp.rInt, Wp.rIx, Wp.rLt, Wp.rLe, Wp.rCmp, Wp.rGeI, Wp.rGtI, Wp.wCB, Wp.rLen, Wp.rLen1, Wp.rInt1, Wp.rMax2, Wp.rMin2, Wp.rTupOf, Wp.rListOf,
  Wp.wIsi, Wp.rBIs, Wp.rIsN, Wp.isNon, Wp.wMt, Wp.rAppendT, Wp.rExtendT, Wp.rReverseT, Wp.wNot, Wp.wOr, Wp.wAnd, Wp.wAndV, Wp.wOrV, Wp.wNotV, Wp.wFor, Wp.iRg1, Wp.iRg2, Wp.iAnyW, Wp.wAll, Wp.wChain, Wp.wSl, Wp.wNoPart, Wp.wPart, Wp.rSl, Wp.wNeg, Wp.rNeg, Wp.wLc, Wp.wYes, Wp.wDrop, Wp.wipeT, Wp.wAug, List.map, List.set_cons_zero, List.set_cons_succ, List.getElem?_cons_zero, List.getElem?_cons_succ, List.length_cons, List.length_nil, List.cons_append, List.nil_append, List.replicate, Wp.startT,
  true_and, and_true, Wp.wif_true, Wp.wif_false, Wp.ex_some, Wp.ex_some1, Wp.ex_eq, Wp.ex_lst, Wp.ex_lst0, Wp.rEq_int, Bool.false_bne, Bool.true_bne, Int.reduceLT, Int.reduceLE, Int.reduceAdd, Nat.reduceAdd, Nat.reduceSub, eq_self, ite_true, ite_false, beq_self_eq_true, Bool.not_true, Bool.not_false, Wp.isB_0, Wp.isB_1, Wp.isB_2, Wp.isB_3, Wp.isB_4, Wp.isB_5, Wp.isB_6, Wp.isB_7, Wp.isB_8, Wp.isB_9, Wp.isB_10, Wp.isB_11, Wp.isB_12, Wp.isB_13, Wp.isB_14, Wp.isB_15, Wp.isB_16, Wp.isB_17, Wp.isB_18, Wp.isB_19, Wp.isB_20, Wp.isB_21, Wp.isB_22, Wp.isB_23, Wp.isB_24, Wp.isB_25, Wp.isB_26, Wp.isB_27, Wp.isB_28, Wp.isB_29, Wp.isB_30, Wp.isB_31, Wp.isB_32, Wp.isB_33, Wp.isB_34, Wp.isB_35, Wp.cmul_l, Wp.cmul_r, Wp.cpow_lit, Wp.size_le, Wp.size_lt, Wp.atI_0, Wp.atI_1, Wp.atI_2, Wp.atI_3, Wp.atI_4, Wp.atI_5, Wp.atI_6, Wp.ixN_0, Wp.ixN_1, Wp.ixN_2, Wp.itemsT, Wp.tyT, reduceIte, Wp.wFld, Wp.wFSet, Wp.wFAug, Wp.wMeth, Wp.wMake, Wp.rIxA, Wp.rInA, Wp.rSetA, Wp.ixA, Wp.inA, Wp.setA, Wp.lenA, Wp.getD, Option.map_some, Option.bind_some, Option.getD_some,  Wp.gIxA, Wp.wDNew, Wp.wDNewT, Wp.rLenA, Wp.rSortD, Wp.rMaxL, Wp.rPopL, Wp.rGet1, Wp.rGet2, Wp.wGet1, Wp.wGet2, Wp.wPop1, Wp.wPop2, Wp.wDel, Wp.isDT, Wp.keyT, Wp.keysT, Wp.keysL, Wp.ex_ins, Wp.ex_dct, Wp.wIf, Wp.rGt, Wp.rAddI, Int.cast_ofNat_Int, Int.reduceBEq, Wp.wMtN, Wp.rGetN, Wp.wTupVals, Wp.rSortN, Wp.rSortT, Wp.wDNewN, Wp.wDelN, Wp.wRevU, Wp.upS, Wp.upS_upS, *])
local macro_rules | `(tactic| walk_at "run") => `(tactic| repeat (first | walk_at "wp" | walk_at "go"))
local macro_rules | `(tactic| walk_at "wq") => `(tactic| simp (disch := omega) only [Wp.wSeq, Wp.wNext, Wp.wSet, Wp.wVar, Wp.wC, Wp.wOp, Wp.wRet, Wp.wIfS, Wp.wTest, Wp.wCall, Wp.wCons, Wp.wNil, Wp.wTup, Wp.wLst, Wp.wAsg, Wp.gTp, Wp.gC, Wp.gNm, Wp.gN0, Wp.gIx, Wp.rSet, Wp.rAdd, Wp.rMul, Wp.rMod, Wp.rSub, Wp.rFdiv, Wp.rPow, Wp.rInt, Wp.rIx, Wp.rLt, Wp.rLe, Wp.rCmp, Wp.rGeI, Wp.rGtI, Wp.wCB, Wp.rLen, Wp.rLen1, Wp.rInt1, Wp.rMax2, Wp.rMin2, Wp.rTupOf, Wp.rListOf,
  Wp.wIsi, Wp.rBIs, Wp.rIsN, Wp.isNon, Wp.wMt, Wp.rAppendT, Wp.rExtendT, Wp.rReverseT, Wp.wNot, Wp.wOr, Wp.wAnd, Wp.wAndV, Wp.wOrV, Wp.wNotV, Wp.wFor, Wp.iRg1, Wp.iRg2, Wp.iAnyW, Wp.wAll, Wp.wChain, Wp.wSl, Wp.wNoPart, Wp.wPart, Wp.rSl, Wp.wNeg, Wp.rNeg, Wp.wLc, Wp.wYes, Wp.wDrop, Wp.wipeT, Wp.wAug, List.map, List.set_cons_zero, List.set_cons_succ, List.getElem?_cons_zero, List.getElem?_cons_succ, List.length_cons, List.length_nil, List.cons_append, List.nil_append, List.replicate, Wp.startT,
  true_and, and_true, Wp.wif_true, Wp.wif_false, Wp.ex_some, Wp.ex_some1, Wp.ex_eq, Wp.ex_lst, Wp.ex_lst0, Wp.rEq_int, Bool.false_bne, Bool.true_bne, Int.reduceLT, Int.reduceLE, Int.reduceAdd, Nat.reduceAdd, Nat.reduceSub, eq_self, ite_true, ite_false, beq_self_eq_true, Bool.not_true, Bool.not_false, Wp.isB_0, Wp.isB_1, Wp.isB_2, Wp.isB_3, Wp.isB_4, Wp.isB_5, Wp.isB_6, Wp.isB_7, Wp.isB_8, Wp.isB_9, Wp.isB_10, Wp.isB_11, Wp.isB_12, Wp.isB_13, Wp.isB_14, Wp.isB_15, Wp.isB_16, Wp.isB_17, Wp.isB_18, Wp.isB_19, Wp.isB_20, Wp.isB_21, Wp.isB_22, Wp.isB_23, Wp.isB_24, Wp.isB_25, Wp.isB_26, Wp.isB_27, Wp.isB_28, Wp.isB_29, Wp.isB_30, Wp.isB_31, Wp.isB_32, Wp.isB_33, Wp.isB_34, Wp.isB_35, Wp.cmul_l, Wp.cmul_r, Wp.cpow_lit, Wp.size_le, Wp.size_lt, Wp.atI_0, Wp.atI_1, Wp.atI_2, Wp.atI_3, Wp.atI_4, Wp.atI_5, Wp.atI_6, Wp.ixN_0, Wp.ixN_1, Wp.ixN_2, Wp.itemsT, Wp.tyT, reduceIte, Wp.wFld, Wp.wFSet, Wp.wFAug, Wp.wMeth, Wp.wMake, Wp.rIxA, Wp.rInA, Wp.rSetA, Wp.ixA, Wp.inA, Wp.setA, Wp.lenA, Wp.getD, Option.map_some, Option.bind_some, Option.getD_some,  Wp.gIxA, Wp.wDNew, Wp.wDNewT, Wp.rLenA, Wp.rSortD, Wp.rMaxL, Wp.rPopL, Wp.rGet1, Wp.rGet2, Wp.wGet1, Wp.wGet2, Wp.wPop1, Wp.wPop2, Wp.wDel, Wp.isDT, Wp.keyT, Wp.keysT, Wp.keysL, Wp.ex_ins, Wp.ex_dct, Wp.wIf, Wp.rGt, Wp.rAddI, Int.cast_ofNat_Int, Int.reduceBEq, Wp.wMtN, Wp.rGetN, Wp.wTupVals, Wp.rSortN, Wp.rSortT, Wp.wDNewN, Wp.wDelN, Wp.wRevU, *])
local macro_rules | `(tactic| walk_at "r2") => `(tactic| repeat (first | walk_at "wq" | walk_at "go"))
local macro_rules | `(tactic| walk_at "w0") => `(tactic| simp (disch := omega) only [Wp.wSeq, Wp.wNext, Wp.wSet, Wp.wVar, Wp.wC, Wp.wOp, Wp.wRet, Wp.wIfS, Wp.wTest, Wp.wCall, Wp.wCons, Wp.wNil, Wp.wTup, Wp.wLst, Wp.wAsg, Wp.gTp, Wp.gC, Wp.gNm, Wp.gN0, Wp.gIx, Wp.rSet, Wp.rAdd, Wp.rMul, Wp.rMod, Wp.rSub, Wp.rFdiv, Wp.rPow, Wp.rInt, Wp.rIx, Wp.rLt, Wp.rLe, Wp.rCmp, Wp.rGeI, Wp.rGtI, Wp.wCB, Wp.rLen, Wp.rLen1, Wp.rInt1, Wp.rMax2, Wp.rMin2, Wp.rTupOf, Wp.rListOf,
  Wp.wIsi, Wp.rBIs, Wp.rIsN, Wp.isNon, Wp.wMt, Wp.rAppendT, Wp.rExtendT, Wp.rReverseT, Wp.wNot, Wp.wOr, Wp.wAnd, Wp.wAndV, Wp.wOrV, Wp.wNotV, Wp.wFor, Wp.iRg1, Wp.iRg2, Wp.iAnyW, Wp.wAll, Wp.wChain, Wp.wSl, Wp.wNoPart, Wp.wPart, Wp.rSl, Wp.wNeg, Wp.rNeg, Wp.wLc, Wp.wYes, Wp.wDrop, Wp.wipeT, Wp.wAug, List.map, List.set_cons_zero, List.set_cons_succ, List.getElem?_cons_zero, List.getElem?_cons_succ, List.length_cons, List.length_nil, List.cons_append, List.nil_append, List.replicate, Wp.startT,
  true_and, and_true, Wp.wif_true, Wp.wif_false, Wp.ex_some, Wp.ex_some1, Wp.ex_eq, Wp.ex_lst, Wp.ex_lst0, Wp.rEq_int, Bool.false_bne, Bool.true_bne, Int.reduceLT, Int.reduceLE, Int.reduceAdd, Nat.reduceAdd, Nat.reduceSub, eq_self, ite_true, ite_false, beq_self_eq_true, Bool.not_true, Bool.not_false, Wp.isB_0, Wp.isB_1, Wp.isB_2, Wp.isB_3, Wp.isB_4, Wp.isB_5, Wp.isB_6, Wp.isB_7, Wp.isB_8, Wp.isB_9, Wp.isB_10, Wp.isB_11, Wp.isB_12, Wp.isB_13, Wp.isB_14, Wp.isB_15, Wp.isB_16, Wp.isB_17, Wp.isB_18, Wp.isB_19, Wp.isB_20, Wp.isB_21, Wp.isB_22, Wp.isB_23, Wp.isB_24, Wp.isB_25, Wp.isB_26, Wp.isB_27, Wp.isB_28, Wp.isB_29, Wp.isB_30, Wp.isB_31, Wp.isB_32, Wp.isB_33, Wp.isB_34, Wp.isB_35, Wp.cmul_l, Wp.cmul_r, Wp.cpow_lit, Wp.size_le, Wp.size_lt, Wp.atI_0, Wp.atI_1, Wp.atI_2, Wp.atI_3, Wp.atI_4, Wp.atI_5, Wp.atI_6, Wp.ixN_0, Wp.ixN_1, Wp.ixN_2, Wp.itemsT, Wp.tyT, reduceIte, Wp.wFld, Wp.wFSet, Wp.wFAug, Wp.wMeth, Wp.wMake, Wp.rIxA, Wp.rInA, Wp.rSetA, Wp.ixA, Wp.inA, Wp.setA, Wp.lenA, Wp.getD, Option.map_some, Option.bind_some, Option.getD_some,  Wp.gIxA, Wp.wDNew, Wp.wDNewT, Wp.rLenA, Wp.rSortD, Wp.rMaxL, Wp.rPopL, Wp.rGet1, Wp.rGet2, Wp.wGet1, Wp.wGet2, Wp.wPop1, Wp.wPop2, Wp.wDel, Wp.isDT, Wp.keyT, Wp.keysT, Wp.keysL, Wp.ex_ins, Wp.ex_dct, Wp.wIf, Wp.rGt, Wp.rAddI, Int.cast_ofNat_Int, Int.reduceBEq, Wp.wMtN, Wp.rGetN, Wp.wTupVals, Wp.rSortN, Wp.rSortT, Wp.wDNewN, Wp.wDelN, Wp.wRevU])
local macro_rules | `(tactic| walk_at "r0") => `(tactic| repeat (first | walk_at "w0" | walk_at "go"))
def kv (r : Rw) : NK × T := (rkK r, rwT r)
def okL (c : List Rw) : Prop := ∀ r ∈ c, r.Ok
theorem valN_kv {r : Rw} (hr : r.Ok) : ∀ {c : List Rw}, okL c → valN (c.map kv) (rkK r) = (c.find? fun x => decide (sk x r)).map rwT
  | [], _ => rfl
  | x :: c, h => by
    rw [List.map_cons, valN_cons, List.find?_cons]
    have ih := valN_kv hr (c := c) fun y hy => h y (List.mem_cons_of_mem _ hy)
    have hx := h x List.mem_cons_self
    by_cases s : sk x r
    · rw [if_pos (show (kv x).1 = rkK r from (rkK_iff hx hr).mpr s), decide_eq_true s]; rfl
    · rw [if_neg (show ¬ (kv x).1 = rkK r from fun z => s ((rkK_iff hx hr).mp z)), decide_eq_false s]; exact ih
def setL (c : List Rw) (r : Rw) : List Rw := match c.find? fun x => decide (sk x r) with
  | none => c ++ [r]
  | some _ => c.map fun x => if sk x r then r else x
theorem putN_kv {r : Rw} {c : List Rw} (hr : r.Ok) (h : okL c) : putN (c.map kv) (rkK r) (rwT r) = (setL c r).map kv := by
  unfold putN setL
  rw [valN_kv hr h]
  cases c.find? fun x => decide (sk x r) with
  | none => rw [List.map_append]; rfl
  | some o =>
    show (c.map kv).map _ = (c.map _).map kv
    rw [List.map_map, List.map_map]
    refine List.map_congr_left fun x hx => ?_
    show (if (kv x).1 = rkK r then ((kv x).1, rwT r) else kv x) = kv (if sk x r then r else x)
    by_cases s : sk x r
    · rw [if_pos s, if_pos (show (kv x).1 = rkK r from (rkK_iff (h x hx) hr).mpr s)]
      show (rkK x, rwT r) = (rkK r, rwT r)
      rw [(rkK_iff (h x hx) hr).mpr s]
    · rw [if_neg s, if_neg (show ¬ (kv x).1 = rkK r from fun z => s ((rkK_iff (h x hx) hr).mp z))]
theorem okL.set {c : List Rw} {r : Rw} (h : okL c) (hr : r.Ok) : okL (setL c r) := by
  unfold setL
  split
  · intro x hx
    rcases List.mem_append.mp hx with hx | hx
    · exact h x hx
    · have : x = r := by simpa using hx
      rw [this]; exact hr
  · intro x hx
    obtain ⟨y, hy, rfl⟩ := List.mem_map.mp hx
    by_cases s : sk y r
    · rw [if_pos s]; exact hr
    · rw [if_neg s]; exact h y hy
theorem setL_len {c : List Rw} {r : Rw} : (setL c r).length ≤ c.length + 1 := by
  unfold setL
  split
  · rw [List.length_append, List.length_singleton]; omega
  · rw [List.length_map]; omega
theorem keyN_row (r : Rw) : keyN (.tup [flT r.f, lfT r.l]) = some (rkK r) := by
  have : (T.tup [flT r.f, lfT r.l]) = tk (rkK r) := by
    unfold rkK flK lfK flT lfT
    simp only [tk, tks]
  rw [this]
  exact keyN_of rfl rfl
theorem isNon_pl {p : Nat} : isNon (plT p) = (p == 0) := by
  match p with
  | 0 => rfl
  | 1 => rfl
  | 2 => rfl
  | 3 => rfl
  | n + 4 => rfl
def spMore : WSp := fun ts S Q _ => match ts with
  | [a, b] => ∃ r o : Rw, a = rwT r ∧ b = rwT o ∧ Q (.bl (more r o)) S
  | _ => False
theorem hw_more : ∀ ts S Q E, ts.length = 2 → spMore ts S Q E → b__counts_more { nx := fun _ S' => Q .non S', rt := Q } (Wp.startT N__counts_more ts) S := by
  intro ts S Q E _ h
  match ts, h with
  | [_, _], ⟨r, o, rfl, rfl, h⟩ =>
    unfold b__counts_more N__counts_more rwT
    walk_at "r0"
    rw [show cutT [flT r.f, lfT r.l, T.int r.e, plT r.p] (some 2) none = [.int r.e, plT r.p] from rfl]
    refine ⟨rfl, rfl, ?_⟩
    walk_at "r0"
    unfold more at h
    refine if_dec (fun z => ?_) (fun z => ?_)
    · rw [decide_eq_true z] at h; exact h
    · rw [decide_eq_false z, Bool.false_or] at h
      refine if_bool (fun y => ?_) (fun y => ?_)
      · rw [y, Bool.true_and] at h
        show Q (.bl (isNon (plT r.p))) S
        rw [isNon_pl]; exact h
      · rw [y] at h; exact h
/-- counting, in the state -/
def sCnt (S : Sta) (a : Addr) (c : List Rw) : Prop := S a = some (.ot (.dnt (c.map kv)))
theorem cnt_step {a : Addr} {S : Sta} {D : WEnds} {c : List Rw} {r : Rw} {v0 v1 v3 v5 v6 : Option T} (hc : S a = some (.ot (.dnt (c.map kv)))) (ok : okL c) (hr : r.Ok) (hl : c.length ≤ 500)
    (nx : ∀ v5, D.nx [v0, v1, some (.ref a), v3, some (rwT r), v5, v6] (upS S a (.ot (.dnt ((cntS c r).map kv))))) :
    l1_directory_of spMore D [v0, v1, some (.ref a), v3, some (rwT r), v5, v6] S := by
  unfold l1_directory_of
  unfold rwT
  walk_at "r0"
  rw [show cutT [flT r.f, lfT r.l, T.int r.e, plT r.p] none (some 2) = [flT r.f, lfT r.l] from rfl]
  simp only [hc, keyN_row, Option.map_some, Option.bind_some]
  have hz : c.length < sizeLine := by rw [sizeLine_eq]; omega
  have vv := valN_kv hr ok
  have pp := putN_kv hr ok
  have fin : cntS c r = setL c r → ∃ u, (if (c.map kv).length < sizeLine then some (O.ot (.dnt (putN (c.map kv) (rkK r) (T.tup [flT r.f, lfT r.l, T.int r.e, plT r.p])))) else none) = some u ∧ goS D.nx [v0, v1, some (.ref a), v3, some (T.tup [flT r.f, lfT r.l, T.int r.e, plT r.p]), some (.tup [flT r.f, lfT r.l]), v6] (upS S a u) := fun e => by
    rw [if_pos (by rw [List.length_map]; exact hz)]
    refine ⟨_, rfl, goS_i ?_⟩
    have := nx (some (.tup [flT r.f, lfT r.l]))
    rw [e, ← pp] at this
    exact this
  refine ⟨_, rfl, ?_⟩
  rw [vv]
  cases e : c.find? fun x => decide (sk x r) with
  | none =>
    refine wif_t (fin ?_)
    unfold cntS setL
    rw [e]
  | some o =>
    refine wif_f ⟨rwT o, rfl, r, o, rfl, rfl, ?_⟩
    cases em : more r o with
    | true =>
      refine wif_t ?_
      simp only [hc, keyN_row, Option.map_some, Option.bind_some]
      refine fin ?_
      unfold cntS setL
      rw [e]
      simp only [em, if_true]
    | false =>
      refine wif_f (goS_i ?_)
      have := nx (some (.tup [flT r.f, lfT r.l]))
      rw [show cntS c r = c by unfold cntS; rw [e]; simp only [em, Bool.false_eq_true, if_false], upS_self hc] at this
      exact this
end My

set_option Elab.async false
set_option linter.all false
set_option maxRecDepth 100000
set_option maxHeartbeats 8000000
namespace My
open PySem PySem.Spec PyProof.Rows L2 Wp Gn
local macro_rules | `(tactic| walk_at "go") => `(tactic| (with_reducible refine goS_i ?_))
local macro_rules | `(tactic| walk_at "wp") => `(tactic| simp (disch := omega) only [Wp.wSeq, Wp.wNext, Wp.wSet, Wp.wVar, Wp.wC, Wp.wOp, Wp.wRet, Wp.wIfS, Wp.wTest, Wp.wCall, Wp.wCons, Wp.wNil, Wp.wTup, Wp.wLst, Wp.wAsg, Wp.gTp, Wp.gC, Wp.gNm, Wp.gN0, Wp.gIx, Wp.rSet, Wp.rAdd, Wp.rMul, Wp.rMod, Wp.rSub, Wp.rFdiv, Wp.rPow, Wp.rInt, Wp.rIx, Wp.rLt, Wp.rLe, Wp.rCmp, Wp.rGeI, Wp.rGtI, Wp.wCB, Wp.rLen, Wp.rLen1, Wp.rInt1, Wp.rMax2, Wp.rMin2, Wp.rTupOf, Wp.rListOf,
  Wp.wIsi, Wp.rBIs, Wp.rIsN, Wp.isNon, Wp.wMt, Wp.rAppendT, Wp.rExtendT, Wp.rReverseT, Wp.wNot, Wp.wOr, Wp.wAnd, Wp.wAndV, Wp.wOrV, Wp.wNotV, Wp.wFor, Wp.iRg1, Wp.iRg2, Wp.iAnyW, Wp.wAll, Wp.wChain, Wp.wSl, Wp.wNoPart, Wp.wPart, Wp.rSl, Wp.wNeg, Wp.rNeg, Wp.wLc, Wp.wYes, Wp.wDrop, Wp.wipeT, Wp.wAug, List.map, List.set_cons_zero, List.set_cons_succ, List.getElem?_cons_zero, List.getElem?_cons_succ, List.length_cons, List.length_nil, List.cons_append, List.nil_append, List.replicate, Wp.startT,
  true_and, and_true, Wp.wif_true, Wp.wif_false, Wp.ex_some, Wp.ex_some1, Wp.ex_eq, Wp.ex_lst, Wp.ex_lst0, Wp.rEq_int, Bool.false_bne, Bool.true_bne, Int.reduceLT, Int.reduceLE, Int.reduceAdd, Nat.reduceAdd, Nat.reduceSub, eq_self, ite_true, ite_false, beq_self_eq_true, Bool.not_true, Bool.not_false, Wp.isB_0, Wp.isB_1, Wp.isB_2, Wp.isB_3, Wp.isB_4, Wp.isB_5, Wp.isB_6, Wp.isB_7, Wp.isB_8, Wp.isB_9, Wp.isB_10, Wp.isB_11, Wp.isB_12, Wp.isB_13, Wp.isB_14, Wp.isB_15, Wp.isB_16, Wp.isB_17, Wp.isB_18, Wp.isB_19, Wp.isB_20, Wp.isB_21, Wp.isB_22, Wp.isB_23, Wp.isB_24, Wp.isB_25, Wp.isB_26, Wp.isB_27, Wp.isB_28, Wp.isB_29, Wp.isB_30, Wp.isB_31, Wp.isB_32, Wp.isB_33, Wp.isB_34, Wp.isB_35, Wp.cmul_l, Wp.cmul_r, Wp.cpow_lit, Wp.size_le, Wp.size_lt, Wp.atI_0, Wp.atI_1, Wp.atI_2, Wp.atI_3, Wp.atI_4, Wp.atI_5, Wp.atI_6, Wp.ixN_0, Wp.ixN_1, Wp.ixN_2, Wp.itemsT, Wp.tyT, reduceIte, Wp.wFld, Wp.wFSet, Wp.wFAug, Wp.wMeth, Wp.wMake, Wp.rIxA, Wp.rInA, Wp.rSetA, Wp.ixA, Wp.inA, Wp.setA, Wp.lenA, Wp.getD, Option.map_some, Option.bind_some, Option.getD_some,  Wp.gIxA, Wp.wDNew, Wp.wDNewT, Wp.rLenA, Wp.rSortD, Wp.rMaxL, Wp.rPopL, Wp.rGet1, Wp.rGet2, Wp.wGet1, Wp.wGet2, Wp.wPop1, Wp.wPop2, Wp.wDel, Wp.isDT, Wp.keyT, Wp.keysT, Wp.keysL, Wp.ex_ins, Wp.ex_dct, Wp.wIf, Wp.rGt, Wp.rAddI, Int.cast_ofNat_Int, Int.reduceBEq, Wp.wMtN, Wp.rGetN, Wp.wTupVals, Wp.rSortN, Wp.rSortT, Wp.wDNewN, Wp.wDelN, Wp.wRevU, Wp.upS, Wp.upS_upS, *])
local macro_rules | `(tactic| walk_at "run") => `(tactic| repeat (first | walk_at "wp" | walk_at "go"))
local macro_rules | `(tactic| walk_at "wq") => `(tactic| simp (disch := omega) only [Wp.wSeq, Wp.wNext, Wp.wSet, Wp.wVar, Wp.wC, Wp.wOp, Wp.wRet, Wp.wIfS, Wp.wTest, Wp.wCall, Wp.wCons, Wp.wNil, Wp.wTup, Wp.wLst, Wp.wAsg, Wp.gTp, Wp.gC, Wp.gNm, Wp.gN0, Wp.gIx, Wp.rSet, Wp.rAdd, Wp.rMul, Wp.rMod, Wp.rSub, Wp.rFdiv, Wp.rPow, Wp.rInt, Wp.rIx, Wp.rLt, Wp.rLe, Wp.rCmp, Wp.rGeI, Wp.rGtI, Wp.wCB, Wp.rLen, Wp.rLen1, Wp.rInt1, Wp.rMax2, Wp.rMin2, Wp.rTupOf, Wp.rListOf,
  Wp.wIsi, Wp.rBIs, Wp.rIsN, Wp.isNon, Wp.wMt, Wp.rAppendT, Wp.rExtendT, Wp.rReverseT, Wp.wNot, Wp.wOr, Wp.wAnd, Wp.wAndV, Wp.wOrV, Wp.wNotV, Wp.wFor, Wp.iRg1, Wp.iRg2, Wp.iAnyW, Wp.wAll, Wp.wChain, Wp.wSl, Wp.wNoPart, Wp.wPart, Wp.rSl, Wp.wNeg, Wp.rNeg, Wp.wLc, Wp.wYes, Wp.wDrop, Wp.wipeT, Wp.wAug, List.map, List.set_cons_zero, List.set_cons_succ, List.getElem?_cons_zero, List.getElem?_cons_succ, List.length_cons, List.length_nil, List.cons_append, List.nil_append, List.replicate, Wp.startT,
  true_and, and_true, Wp.wif_true, Wp.wif_false, Wp.ex_some, Wp.ex_some1, Wp.ex_eq, Wp.ex_lst, Wp.ex_lst0, Wp.rEq_int, Bool.false_bne, Bool.true_bne, Int.reduceLT, Int.reduceLE, Int.reduceAdd, Nat.reduceAdd, Nat.reduceSub, eq_self, ite_true, ite_false, beq_self_eq_true, Bool.not_true, Bool.not_false, Wp.isB_0, Wp.isB_1, Wp.isB_2, Wp.isB_3, Wp.isB_4, Wp.isB_5, Wp.isB_6, Wp.isB_7, Wp.isB_8, Wp.isB_9, Wp.isB_10, Wp.isB_11, Wp.isB_12, Wp.isB_13, Wp.isB_14, Wp.isB_15, Wp.isB_16, Wp.isB_17, Wp.isB_18, Wp.isB_19, Wp.isB_20, Wp.isB_21, Wp.isB_22, Wp.isB_23, Wp.isB_24, Wp.isB_25, Wp.isB_26, Wp.isB_27, Wp.isB_28, Wp.isB_29, Wp.isB_30, Wp.isB_31, Wp.isB_32, Wp.isB_33, Wp.isB_34, Wp.isB_35, Wp.cmul_l, Wp.cmul_r, Wp.cpow_lit, Wp.size_le, Wp.size_lt, Wp.atI_0, Wp.atI_1, Wp.atI_2, Wp.atI_3, Wp.atI_4, Wp.atI_5, Wp.atI_6, Wp.ixN_0, Wp.ixN_1, Wp.ixN_2, Wp.itemsT, Wp.tyT, reduceIte, Wp.wFld, Wp.wFSet, Wp.wFAug, Wp.wMeth, Wp.wMake, Wp.rIxA, Wp.rInA, Wp.rSetA, Wp.ixA, Wp.inA, Wp.setA, Wp.lenA, Wp.getD, Option.map_some, Option.bind_some, Option.getD_some,  Wp.gIxA, Wp.wDNew, Wp.wDNewT, Wp.rLenA, Wp.rSortD, Wp.rMaxL, Wp.rPopL, Wp.rGet1, Wp.rGet2, Wp.wGet1, Wp.wGet2, Wp.wPop1, Wp.wPop2, Wp.wDel, Wp.isDT, Wp.keyT, Wp.keysT, Wp.keysL, Wp.ex_ins, Wp.ex_dct, Wp.wIf, Wp.rGt, Wp.rAddI, Int.cast_ofNat_Int, Int.reduceBEq, Wp.wMtN, Wp.rGetN, Wp.wTupVals, Wp.rSortN, Wp.rSortT, Wp.wDNewN, Wp.wDelN, Wp.wRevU, *])
local macro_rules | `(tactic| walk_at "r2") => `(tactic| repeat (first | walk_at "wq" | walk_at "go"))
local macro_rules | `(tactic| walk_at "w0") => `(tactic| simp (disch := omega) only [Wp.wSeq, Wp.wNext, Wp.wSet, Wp.wVar, Wp.wC, Wp.wOp, Wp.wRet, Wp.wIfS, Wp.wTest, Wp.wCall, Wp.wCons, Wp.wNil, Wp.wTup, Wp.wLst, Wp.wAsg, Wp.gTp, Wp.gC, Wp.gNm, Wp.gN0, Wp.gIx, Wp.rSet, Wp.rAdd, Wp.rMul, Wp.rMod, Wp.rSub, Wp.rFdiv, Wp.rPow, Wp.rInt, Wp.rIx, Wp.rLt, Wp.rLe, Wp.rCmp, Wp.rGeI, Wp.rGtI, Wp.wCB, Wp.rLen, Wp.rLen1, Wp.rInt1, Wp.rMax2, Wp.rMin2, Wp.rTupOf, Wp.rListOf,
  Wp.wIsi, Wp.rBIs, Wp.rIsN, Wp.isNon, Wp.wMt, Wp.rAppendT, Wp.rExtendT, Wp.rReverseT, Wp.wNot, Wp.wOr, Wp.wAnd, Wp.wAndV, Wp.wOrV, Wp.wNotV, Wp.wFor, Wp.iRg1, Wp.iRg2, Wp.iAnyW, Wp.wAll, Wp.wChain, Wp.wSl, Wp.wNoPart, Wp.wPart, Wp.rSl, Wp.wNeg, Wp.rNeg, Wp.wLc, Wp.wYes, Wp.wDrop, Wp.wipeT, Wp.wAug, List.map, List.set_cons_zero, List.set_cons_succ, List.getElem?_cons_zero, List.getElem?_cons_succ, List.length_cons, List.length_nil, List.cons_append, List.nil_append, List.replicate, Wp.startT,
  true_and, and_true, Wp.wif_true, Wp.wif_false, Wp.ex_some, Wp.ex_some1, Wp.ex_eq, Wp.ex_lst, Wp.ex_lst0, Wp.rEq_int, Bool.false_bne, Bool.true_bne, Int.reduceLT, Int.reduceLE, Int.reduceAdd, Nat.reduceAdd, Nat.reduceSub, eq_self, ite_true, ite_false, beq_self_eq_true, Bool.not_true, Bool.not_false, Wp.isB_0, Wp.isB_1, Wp.isB_2, Wp.isB_3, Wp.isB_4, Wp.isB_5, Wp.isB_6, Wp.isB_7, Wp.isB_8, Wp.isB_9, Wp.isB_10, Wp.isB_11, Wp.isB_12, Wp.isB_13, Wp.isB_14, Wp.isB_15, Wp.isB_16, Wp.isB_17, Wp.isB_18, Wp.isB_19, Wp.isB_20, Wp.isB_21, Wp.isB_22, Wp.isB_23, Wp.isB_24, Wp.isB_25, Wp.isB_26, Wp.isB_27, Wp.isB_28, Wp.isB_29, Wp.isB_30, Wp.isB_31, Wp.isB_32, Wp.isB_33, Wp.isB_34, Wp.isB_35, Wp.cmul_l, Wp.cmul_r, Wp.cpow_lit, Wp.size_le, Wp.size_lt, Wp.atI_0, Wp.atI_1, Wp.atI_2, Wp.atI_3, Wp.atI_4, Wp.atI_5, Wp.atI_6, Wp.ixN_0, Wp.ixN_1, Wp.ixN_2, Wp.itemsT, Wp.tyT, reduceIte, Wp.wFld, Wp.wFSet, Wp.wFAug, Wp.wMeth, Wp.wMake, Wp.rIxA, Wp.rInA, Wp.rSetA, Wp.ixA, Wp.inA, Wp.setA, Wp.lenA, Wp.getD, Option.map_some, Option.bind_some, Option.getD_some,  Wp.gIxA, Wp.wDNew, Wp.wDNewT, Wp.rLenA, Wp.rSortD, Wp.rMaxL, Wp.rPopL, Wp.rGet1, Wp.rGet2, Wp.wGet1, Wp.wGet2, Wp.wPop1, Wp.wPop2, Wp.wDel, Wp.isDT, Wp.keyT, Wp.keysT, Wp.keysL, Wp.ex_ins, Wp.ex_dct, Wp.wIf, Wp.rGt, Wp.rAddI, Int.cast_ofNat_Int, Int.reduceBEq, Wp.wMtN, Wp.rGetN, Wp.wTupVals, Wp.rSortN, Wp.rSortT, Wp.wDNewN, Wp.wDelN, Wp.wRevU])
local macro_rules | `(tactic| walk_at "r0") => `(tactic| repeat (first | walk_at "w0" | walk_at "go"))
/-! ### the order -/
def code (r : Rw) : Nat := 4 * r.f + r.l
theorem le_keys : ∀ f < 4, ∀ l < 4, ∀ f' < 4, ∀ l' < 4, leT (.tup [flT f, lfT l]) (.tup [flT f', lfT l']) = decide (4 * f + l ≤ 4 * f' + l') := by decide +kernel
theorem le_lives : ∀ l < 4, ∀ l' < 4, leT (lfT l) (lfT l') = decide (l ≤ l') := by decide +kernel
theorem tk_rk (r : Rw) : tk (rkK r) = .tup [flT r.f, lfT r.l] := by
  unfold rkK flK lfK flT lfT
  simp only [tk, tks]
theorem srt_keys {c : List Rw} (ok : okL c) : Srt ((c.map kv).map fun p => tk p.1) := by
  rw [List.map_map]
  refine ⟨?_, ?_, ?_, fun t ht => ?_⟩
  · induction c with
    | nil => rfl
    | cons r c ih => 
      rw [List.map_cons, plainDs, ih fun x hx => ok x (List.mem_cons_of_mem _ hx)]
      show (plainD (tk (rkK r)) && true) = true
      rw [tk_rk]; rfl
  · rw [List.map_map]
    refine PySem.W.AllAlike.of fun a b => ?_
    show PySem.W.alike (encT (tk (rkK a))) (encT (tk (rkK b))) = true
    rw [tk_rk, tk_rk]; rfl
  · rw [List.map_map]
    refine PySem.W.Sortable.tuples fun a => ?_
    refine ⟨encT (flT a.f), [encT (lfT a.l)], ?_⟩
    show encT (tk (rkK a)) = _
    rw [tk_rk]; rfl
  · obtain ⟨r, _, rfl⟩ := List.mem_map.mp ht
    show (encT (tk (rkK r))).depth ≤ 16
    rw [tk_rk]
    show PyData.depth (.tuple [.tuple [.int _, .int _], .tuple [.int _, .int _, .int _]]) ≤ 16
    simp [PyData.depth, PyData.depthAll]
def srtL (c : List Rw) : List Rw := c.mergeSort fun a b => decide (code a ≤ code b)
theorem srtL_mem {c : List Rw} {x : Rw} : x ∈ srtL c ↔ x ∈ c := (List.mergeSort_perm c _).mem_iff
theorem srtL_map {c : List Rw} (ok : okL c) : ((c.map kv).map fun p => tk p.1).mergeSort leT = (srtL c).map fun r => .tup [flT r.f, lfT r.l] := by
  have e : ((c.map kv).map fun p => tk p.1) = c.map fun r => T.tup [flT r.f, lfT r.l] := by
    rw [List.map_map]
    exact List.map_congr_left fun r _ => tk_rk r
  rw [e]
  refine (List.map_mergeSort fun a ha b hb => ?_).symm
  exact (le_keys a.f (ok a ha).f a.l (ok a ha).l b.f (ok b hb).f b.l (ok b hb).l).symm
theorem srtL_pw {c : List Rw} : (srtL c).Pairwise fun a b => code a ≤ code b := by
  have := List.pairwise_mergeSort (le := fun a b : Rw => decide (code a ≤ code b)) (fun a b c h1 h2 => by simp only [decide_eq_true_eq] at *; omega) (fun a b => by simp only [Bool.or_eq_true, decide_eq_true_eq]; omega) c
  exact this.imp fun {a b} h => by simpa using h
theorem code_le {a b : Rw} (ha : a.Ok) (hb : b.Ok) (h : code a ≤ code b) : leR a b := by
  unfold code at h
  have := ha.l; have := hb.l
  unfold leR
  omega
/-! ### the directory -/
def kdr (r : Rw) : NK × T := (flK r.f, rwT r)
theorem valN_kd {r : Rw} (hr : r.Ok) : ∀ {c : List Rw}, okL c → valN (c.map kdr) (flK r.f) = (c.find? fun x => decide (x.f = r.f)).map rwT
  | [], _ => rfl
  | x :: c, h => by
    rw [List.map_cons, valN_cons, List.find?_cons]
    have ih := valN_kd hr (c := c) fun y hy => h y (List.mem_cons_of_mem _ hy)
    have hx := h x List.mem_cons_self
    by_cases s : x.f = r.f
    · rw [if_pos (show (kdr x).1 = flK r.f from (flK_iff hx hr).mpr s), decide_eq_true s]; rfl
    · rw [if_neg (show ¬ (kdr x).1 = flK r.f from fun z => s ((flK_iff hx hr).mp z)), decide_eq_false s]; exact ih
def setF (c : List Rw) (r : Rw) : List Rw := match c.find? fun x => decide (x.f = r.f) with
  | some _ => c.map fun x => if x.f = r.f then r else x
  | none => c ++ [r]
theorem putN_kd {r : Rw} {c : List Rw} (hr : r.Ok) (h : okL c) : putN (c.map kdr) (flK r.f) (rwT r) = (setF c r).map kdr := by
  unfold putN setF
  rw [valN_kd hr h]
  cases c.find? fun x => decide (x.f = r.f) with
  | none => rw [List.map_append]; rfl
  | some o =>
    show (c.map kdr).map _ = (c.map _).map kdr
    rw [List.map_map, List.map_map]
    refine List.map_congr_left fun x hx => ?_
    show (if (kdr x).1 = flK r.f then ((kdr x).1, rwT r) else kdr x) = kdr (if x.f = r.f then r else x)
    by_cases s : x.f = r.f
    · rw [if_pos s, if_pos (show (kdr x).1 = flK r.f from (flK_iff (h x hx) hr).mpr s)]
      show (flK x.f, rwT r) = (flK r.f, rwT r)
      rw [s]
    · rw [if_neg s, if_neg (show ¬ (kdr x).1 = flK r.f from fun z => s ((flK_iff (h x hx) hr).mp z))]
theorem keyN_fl (i : Nat) : keyN (flT i) = some (flK i) := by
  have : flT i = tk (flK i) := by
    unfold flT flK
    simp only [tk, tks]
  rw [this]
  exact keyN_of rfl rfl
theorem okL.setF {c : List Rw} {r : Rw} (h : okL c) (hr : r.Ok) : okL (setF c r) := by
  unfold My.setF
  split
  · intro x hx
    obtain ⟨y, hy, rfl⟩ := List.mem_map.mp hx
    by_cases s : y.f = r.f
    · rw [if_pos s]; exact hr
    · rw [if_neg s]; exact h y hy
  · intro x hx
    rcases List.mem_append.mp hx with hx | hx
    · exact h x hx
    · have : x = r := by simpa using hx
      rw [this]; exact hr
theorem setF_len {c : List Rw} {r : Rw} : (setF c r).length ≤ c.length + 1 := by
  unfold setF
  split
  · rw [List.length_map]; omega
  · rw [List.length_append, List.length_singleton]; omega
theorem eq_pl : ∀ p < 5, ∀ q < 5, eqT (plT p) (plT q) = decide (p = q) := by decide +kernel
theorem any_pl {p : Nat} (hp : p < 5) : ∀ bs : List Nat, (∀ b ∈ bs, b < 5) → ((bs.map plT).any fun z => eqT z (plT p)) = decide (p ∈ bs)
  | [], _ => rfl
  | b :: bs, h => by
    rw [List.map_cons, List.any_cons, any_pl hp bs fun x hx => h x (List.mem_cons_of_mem _ hx), eq_pl b (h b List.mem_cons_self) p hp]
    by_cases e : b = p
    · rw [decide_eq_true e, Bool.true_or, decide_eq_true (by rw [e]; exact List.mem_cons_self)]
    · rw [decide_eq_false e, Bool.false_or]
      congr 1
      exact propext ⟨fun z => List.mem_cons_of_mem _ z, fun z => (List.mem_cons.mp z).resolve_left fun y => e y.symm⟩
theorem okT_pl : ∀ p < 5, okT (plT p) = true ∧ dqT (plT p) ≤ 1 := by decide +kernel
theorem okTs_pl : ∀ bs : List Nat, (∀ b ∈ bs, b < 5) → okTs (bs.map plT) = true ∧ dqTs (bs.map plT) ≤ 1
  | [], _ => ⟨rfl, by show 0 ≤ 1; omega⟩
  | b :: bs, h => by
    obtain ⟨a1, a2⟩ := okT_pl b (h b List.mem_cons_self)
    obtain ⟨b1, b2⟩ := okTs_pl bs fun x hx => h x (List.mem_cons_of_mem _ hx)
    rw [List.map_cons, okTs, a1, b1, dqTs]
    exact ⟨rfl, Nat.max_le.mpr ⟨a2, b2⟩⟩
theorem see_pl (S : Sta) (p : Nat) : see S (plT p) = plT p := by
  match p with
  | 0 => rfl
  | 1 => rfl
  | 2 => rfl
  | 3 => rfl
  | n + 4 => rfl
/-- a place among the births -/
theorem in_births {neg : Bool} {p : Nat} {bs : List Nat} {S : Sta} {Q : T → Sta → Prop} (hp : p < 5) (hb : ∀ b ∈ bs, b < 5) (h : Q (.bl (neg != decide (p ∈ bs))) S) : rInDu neg (plT p) (.tup (bs.map plT)) S Q := by
  obtain ⟨a1, a2⟩ := okT_pl p hp
  obtain ⟨b1, b2⟩ := okTs_pl bs hb
  refine rInDu_is (ts := bs.map plT) (.inr rfl) (by rw [see_pl]; exact a1) b1 (by rw [see_pl]; omega) (by omega) ?_
  rw [see_pl, any_pl hp bs hb]
  exact h
end My

set_option Elab.async false
set_option linter.all false
set_option maxRecDepth 100000
set_option maxHeartbeats 8000000
namespace My
open PySem PySem.Spec PyProof.Rows L2 Wp Gn
local macro_rules | `(tactic| walk_at "go") => `(tactic| (with_reducible refine goS_i ?_))
local macro_rules | `(tactic| walk_at "wp") => `(tactic| simp (disch := omega) only [Wp.wSeq, Wp.wNext, Wp.wSet, Wp.wVar, Wp.wC, Wp.wOp, Wp.wRet, Wp.wIfS, Wp.wTest, Wp.wCall, Wp.wCons, Wp.wNil, Wp.wTup, Wp.wLst, Wp.wAsg, Wp.gTp, Wp.gC, Wp.gNm, Wp.gN0, Wp.gIx, Wp.rSet, Wp.rAdd, Wp.rMul, Wp.rMod, Wp.rSub, Wp.rFdiv, Wp.rPow, Wp.rInt, Wp.rIx, Wp.rLt, Wp.rLe, Wp.rCmp, Wp.rGeI, Wp.rGtI, Wp.wCB, Wp.rLen, Wp.rLen1, Wp.rInt1, Wp.rMax2, Wp.rMin2, Wp.rTupOf, Wp.rListOf,
  Wp.wIsi, Wp.rBIs, Wp.rIsN, Wp.isNon, Wp.wMt, Wp.rAppendT, Wp.rExtendT, Wp.rReverseT, Wp.wNot, Wp.wOr, Wp.wAnd, Wp.wAndV, Wp.wOrV, Wp.wNotV, Wp.wFor, Wp.iRg1, Wp.iRg2, Wp.iAnyW, Wp.wAll, Wp.wChain, Wp.wSl, Wp.wNoPart, Wp.wPart, Wp.rSl, Wp.wNeg, Wp.rNeg, Wp.wLc, Wp.wYes, Wp.wDrop, Wp.wipeT, Wp.wAug, List.map, List.set_cons_zero, List.set_cons_succ, List.getElem?_cons_zero, List.getElem?_cons_succ, List.length_cons, List.length_nil, List.cons_append, List.nil_append, List.replicate, Wp.startT,
  true_and, and_true, Wp.wif_true, Wp.wif_false, Wp.ex_some, Wp.ex_some1, Wp.ex_eq, Wp.ex_lst, Wp.ex_lst0, Wp.rEq_int, Bool.false_bne, Bool.true_bne, Int.reduceLT, Int.reduceLE, Int.reduceAdd, Nat.reduceAdd, Nat.reduceSub, eq_self, ite_true, ite_false, beq_self_eq_true, Bool.not_true, Bool.not_false, Wp.isB_0, Wp.isB_1, Wp.isB_2, Wp.isB_3, Wp.isB_4, Wp.isB_5, Wp.isB_6, Wp.isB_7, Wp.isB_8, Wp.isB_9, Wp.isB_10, Wp.isB_11, Wp.isB_12, Wp.isB_13, Wp.isB_14, Wp.isB_15, Wp.isB_16, Wp.isB_17, Wp.isB_18, Wp.isB_19, Wp.isB_20, Wp.isB_21, Wp.isB_22, Wp.isB_23, Wp.isB_24, Wp.isB_25, Wp.isB_26, Wp.isB_27, Wp.isB_28, Wp.isB_29, Wp.isB_30, Wp.isB_31, Wp.isB_32, Wp.isB_33, Wp.isB_34, Wp.isB_35, Wp.cmul_l, Wp.cmul_r, Wp.cpow_lit, Wp.size_le, Wp.size_lt, Wp.atI_0, Wp.atI_1, Wp.atI_2, Wp.atI_3, Wp.atI_4, Wp.atI_5, Wp.atI_6, Wp.ixN_0, Wp.ixN_1, Wp.ixN_2, Wp.itemsT, Wp.tyT, reduceIte, Wp.wFld, Wp.wFSet, Wp.wFAug, Wp.wMeth, Wp.wMake, Wp.rIxA, Wp.rInA, Wp.rSetA, Wp.ixA, Wp.inA, Wp.setA, Wp.lenA, Wp.getD, Option.map_some, Option.bind_some, Option.getD_some,  Wp.gIxA, Wp.wDNew, Wp.wDNewT, Wp.rLenA, Wp.rSortD, Wp.rMaxL, Wp.rPopL, Wp.rGet1, Wp.rGet2, Wp.wGet1, Wp.wGet2, Wp.wPop1, Wp.wPop2, Wp.wDel, Wp.isDT, Wp.keyT, Wp.keysT, Wp.keysL, Wp.ex_ins, Wp.ex_dct, Wp.wIf, Wp.rGt, Wp.rAddI, Wp.wMtN, Wp.rGetN, Wp.wTupVals, Wp.rSortN, Wp.rSortT, Wp.wDNewN, Wp.wDelN, Wp.wRevU, Wp.upS, Wp.upS_upS, *])
local macro_rules | `(tactic| walk_at "run") => `(tactic| repeat (first | walk_at "wp" | walk_at "go"))
local macro_rules | `(tactic| walk_at "wq") => `(tactic| simp (disch := omega) only [Wp.wSeq, Wp.wNext, Wp.wSet, Wp.wVar, Wp.wC, Wp.wOp, Wp.wRet, Wp.wIfS, Wp.wTest, Wp.wCall, Wp.wCons, Wp.wNil, Wp.wTup, Wp.wLst, Wp.wAsg, Wp.gTp, Wp.gC, Wp.gNm, Wp.gN0, Wp.gIx, Wp.rSet, Wp.rAdd, Wp.rMul, Wp.rMod, Wp.rSub, Wp.rFdiv, Wp.rPow, Wp.rInt, Wp.rIx, Wp.rLt, Wp.rLe, Wp.rCmp, Wp.rGeI, Wp.rGtI, Wp.wCB, Wp.rLen, Wp.rLen1, Wp.rInt1, Wp.rMax2, Wp.rMin2, Wp.rTupOf, Wp.rListOf,
  Wp.wIsi, Wp.rBIs, Wp.rIsN, Wp.isNon, Wp.wMt, Wp.rAppendT, Wp.rExtendT, Wp.rReverseT, Wp.wNot, Wp.wOr, Wp.wAnd, Wp.wAndV, Wp.wOrV, Wp.wNotV, Wp.wFor, Wp.iRg1, Wp.iRg2, Wp.iAnyW, Wp.wAll, Wp.wChain, Wp.wSl, Wp.wNoPart, Wp.wPart, Wp.rSl, Wp.wNeg, Wp.rNeg, Wp.wLc, Wp.wYes, Wp.wDrop, Wp.wipeT, Wp.wAug, List.map, List.set_cons_zero, List.set_cons_succ, List.getElem?_cons_zero, List.getElem?_cons_succ, List.length_cons, List.length_nil, List.cons_append, List.nil_append, List.replicate, Wp.startT,
  true_and, and_true, Wp.wif_true, Wp.wif_false, Wp.ex_some, Wp.ex_some1, Wp.ex_eq, Wp.ex_lst, Wp.ex_lst0, Wp.rEq_int, Bool.false_bne, Bool.true_bne, Int.reduceLT, Int.reduceLE, Int.reduceAdd, Nat.reduceAdd, Nat.reduceSub, eq_self, ite_true, ite_false, beq_self_eq_true, Bool.not_true, Bool.not_false, Wp.isB_0, Wp.isB_1, Wp.isB_2, Wp.isB_3, Wp.isB_4, Wp.isB_5, Wp.isB_6, Wp.isB_7, Wp.isB_8, Wp.isB_9, Wp.isB_10, Wp.isB_11, Wp.isB_12, Wp.isB_13, Wp.isB_14, Wp.isB_15, Wp.isB_16, Wp.isB_17, Wp.isB_18, Wp.isB_19, Wp.isB_20, Wp.isB_21, Wp.isB_22, Wp.isB_23, Wp.isB_24, Wp.isB_25, Wp.isB_26, Wp.isB_27, Wp.isB_28, Wp.isB_29, Wp.isB_30, Wp.isB_31, Wp.isB_32, Wp.isB_33, Wp.isB_34, Wp.isB_35, Wp.cmul_l, Wp.cmul_r, Wp.cpow_lit, Wp.size_le, Wp.size_lt, Wp.atI_0, Wp.atI_1, Wp.atI_2, Wp.atI_3, Wp.atI_4, Wp.atI_5, Wp.atI_6, Wp.ixN_0, Wp.ixN_1, Wp.ixN_2, Wp.itemsT, Wp.tyT, reduceIte, Wp.wFld, Wp.wFSet, Wp.wFAug, Wp.wMeth, Wp.wMake, Wp.rIxA, Wp.rInA, Wp.rSetA, Wp.ixA, Wp.inA, Wp.setA, Wp.lenA, Wp.getD, Option.map_some, Option.bind_some, Option.getD_some,  Wp.gIxA, Wp.wDNew, Wp.wDNewT, Wp.rLenA, Wp.rSortD, Wp.rMaxL, Wp.rPopL, Wp.rGet1, Wp.rGet2, Wp.wGet1, Wp.wGet2, Wp.wPop1, Wp.wPop2, Wp.wDel, Wp.isDT, Wp.keyT, Wp.keysT, Wp.keysL, Wp.ex_ins, Wp.ex_dct, Wp.wIf, Wp.rGt, Wp.rAddI, Wp.wMtN, Wp.rGetN, Wp.wTupVals, Wp.rSortN, Wp.rSortT, Wp.wDNewN, Wp.wDelN, Wp.wRevU, *])
local macro_rules | `(tactic| walk_at "r2") => `(tactic| repeat (first | walk_at "wq" | walk_at "go"))
local macro_rules | `(tactic| walk_at "w0") => `(tactic| simp (disch := omega) only [Wp.wSeq, Wp.wNext, Wp.wSet, Wp.wVar, Wp.wC, Wp.wOp, Wp.wRet, Wp.wIfS, Wp.wTest, Wp.wCall, Wp.wCons, Wp.wNil, Wp.wTup, Wp.wLst, Wp.wAsg, Wp.gTp, Wp.gC, Wp.gNm, Wp.gN0, Wp.gIx, Wp.rSet, Wp.rAdd, Wp.rMul, Wp.rMod, Wp.rSub, Wp.rFdiv, Wp.rPow, Wp.rInt, Wp.rIx, Wp.rLt, Wp.rLe, Wp.rCmp, Wp.rGeI, Wp.rGtI, Wp.wCB, Wp.rLen, Wp.rLen1, Wp.rInt1, Wp.rMax2, Wp.rMin2, Wp.rTupOf, Wp.rListOf,
  Wp.wIsi, Wp.rBIs, Wp.rIsN, Wp.isNon, Wp.wMt, Wp.rAppendT, Wp.rExtendT, Wp.rReverseT, Wp.wNot, Wp.wOr, Wp.wAnd, Wp.wAndV, Wp.wOrV, Wp.wNotV, Wp.wFor, Wp.iRg1, Wp.iRg2, Wp.iAnyW, Wp.wAll, Wp.wChain, Wp.wSl, Wp.wNoPart, Wp.wPart, Wp.rSl, Wp.wNeg, Wp.rNeg, Wp.wLc, Wp.wYes, Wp.wDrop, Wp.wipeT, Wp.wAug, List.map, List.set_cons_zero, List.set_cons_succ, List.getElem?_cons_zero, List.getElem?_cons_succ, List.length_cons, List.length_nil, List.cons_append, List.nil_append, List.replicate, Wp.startT,
  true_and, and_true, Wp.wif_true, Wp.wif_false, Wp.ex_some, Wp.ex_some1, Wp.ex_eq, Wp.ex_lst, Wp.ex_lst0, Wp.rEq_int, Bool.false_bne, Bool.true_bne, Int.reduceLT, Int.reduceLE, Int.reduceAdd, Nat.reduceAdd, Nat.reduceSub, eq_self, ite_true, ite_false, beq_self_eq_true, Bool.not_true, Bool.not_false, Wp.isB_0, Wp.isB_1, Wp.isB_2, Wp.isB_3, Wp.isB_4, Wp.isB_5, Wp.isB_6, Wp.isB_7, Wp.isB_8, Wp.isB_9, Wp.isB_10, Wp.isB_11, Wp.isB_12, Wp.isB_13, Wp.isB_14, Wp.isB_15, Wp.isB_16, Wp.isB_17, Wp.isB_18, Wp.isB_19, Wp.isB_20, Wp.isB_21, Wp.isB_22, Wp.isB_23, Wp.isB_24, Wp.isB_25, Wp.isB_26, Wp.isB_27, Wp.isB_28, Wp.isB_29, Wp.isB_30, Wp.isB_31, Wp.isB_32, Wp.isB_33, Wp.isB_34, Wp.isB_35, Wp.cmul_l, Wp.cmul_r, Wp.cpow_lit, Wp.size_le, Wp.size_lt, Wp.atI_0, Wp.atI_1, Wp.atI_2, Wp.atI_3, Wp.atI_4, Wp.atI_5, Wp.atI_6, Wp.ixN_0, Wp.ixN_1, Wp.ixN_2, Wp.itemsT, Wp.tyT, reduceIte, Wp.wFld, Wp.wFSet, Wp.wFAug, Wp.wMeth, Wp.wMake, Wp.rIxA, Wp.rInA, Wp.rSetA, Wp.ixA, Wp.inA, Wp.setA, Wp.lenA, Wp.getD, Option.map_some, Option.bind_some, Option.getD_some,  Wp.gIxA, Wp.wDNew, Wp.wDNewT, Wp.rLenA, Wp.rSortD, Wp.rMaxL, Wp.rPopL, Wp.rGet1, Wp.rGet2, Wp.wGet1, Wp.wGet2, Wp.wPop1, Wp.wPop2, Wp.wDel, Wp.isDT, Wp.keyT, Wp.keysT, Wp.keysL, Wp.ex_ins, Wp.ex_dct, Wp.wIf, Wp.rGt, Wp.rAddI, Wp.wMtN, Wp.rGetN, Wp.wTupVals, Wp.rSortN, Wp.rSortT, Wp.wDNewN, Wp.wDelN, Wp.wRevU])
local macro_rules | `(tactic| walk_at "r0") => `(tactic| repeat (first | walk_at "w0" | walk_at "go"))
theorem dir_step {a b : Addr} {S : Sta} {D : WEnds} {c d : List Rw} {r : Rw} {bs : List Nat} {v0 v3 v4 : Option T} (hc : S a = some (.ot (.dnt (c.map kv)))) (hd : S b = some (.ot (.dnt (d.map kdr)))) (okc : okL c) (okd : okL d) (hr : r.Ok) (fd : c.find? (fun x => decide (sk x r)) = some r) (hl : d.length ≤ 500) (hb : ∀ b ∈ bs, b < 5)
    (nx : D.nx [v0, some (.tup (bs.map plT)), some (.ref a), v3, v4, some (.tup [flT r.f, lfT r.l]), some (.ref b)] (upS S b (.ot (.dnt ((dirS bs d r).map kdr))))) :
    l3_directory_of spMore D [v0, some (.tup (bs.map plT)), some (.ref a), v3, v4, some (.tup [flT r.f, lfT r.l]), some (.ref b)] S := by
  unfold l3_directory_of
  walk_at "r0"
  simp only [hc, keyN_row, Option.bind_some]
  refine ⟨rwT r, by rw [valN_kv hr okc, fd]; rfl, ?_⟩
  show ∃ v, atI [flT r.f, lfT r.l, .int r.e, plT r.p] 3 = some v ∧ _
  refine ⟨plT r.p, atI_lit.trans rfl, ?_⟩
  refine in_births hr.p hb ?_
  show wif (false != decide (r.p ∈ bs)) _ _
  rw [Bool.false_bne]
  refine if_dec (fun z => ?_) (fun z => goS_i ?_)
  · refine ⟨rwT r, by simp only [hc]; rw [valN_kv hr okc, fd]; rfl, ?_⟩
    have hz : d.length < sizeLine := by rw [sizeLine_eq]; omega
    refine ⟨.ot (.dnt ((setF d r).map kdr)), by simp only [hd, keyN_fl, Option.map_some]; rw [if_pos (by rw [List.length_map]; exact hz), putN_kd hr okd], goS_i ?_⟩
    rw [show dirS bs d r = setF d r by unfold dirS setF; rw [if_pos z] <;> rfl] at nx
    exact nx
  · rw [show dirS bs d r = d by unfold dirS; rw [if_neg z], upS_self hd] at nx
    exact nx
theorem find_self {c : List Rw} (nd : c.Pairwise fun a b => ¬ sk a b) {r : Rw} (hr : r ∈ c) : c.find? (fun x => decide (sk x r)) = some r := by
  cases e : c.find? fun x => decide (sk x r) with
  | none =>
    have := List.find?_eq_none.mp e r hr
    exact absurd (show sk r r from ⟨rfl, rfl⟩) (by simpa using this)
  | some o =>
    have so : sk o r := by simpa using List.find?_some e
    rw [pair_uniq (R := sk) (fun _ _ => sk_symm) nd (List.mem_of_find?_eq_some e) hr so]
theorem cntS_ok {c : List Rw} {r : Rw} (h : okL c) (hr : r.Ok) : okL (cntS c r) ∧ (cntS c r).length ≤ c.length + 1 := by
  have e : cntS c r = setL c r ∨ cntS c r = c := by
    unfold cntS setL
    cases c.find? fun x => decide (sk x r) with
    | none => exact .inl rfl
    | some o =>
      dsimp only
      by_cases m : more r o = true
      · rw [if_pos m]; exact .inl rfl
      · rw [if_neg m]; exact .inr rfl
  rcases e with e | e
  · rw [e]; exact ⟨h.set hr, setL_len⟩
  · rw [e]; exact ⟨h, Nat.le_succ _⟩
theorem dirS_ok {bs : List Nat} {d : List Rw} {r : Rw} (h : okL d) (hr : r.Ok) : okL (dirS bs d r) ∧ (dirS bs d r).length ≤ d.length + 1 := by
  have e : dirS bs d r = setF d r ∨ dirS bs d r = d := by
    unfold dirS setF
    by_cases m : r.p ∈ bs
    · rw [if_pos m]; exact .inl rfl
    · rw [if_neg m]; exact .inr rfl
  rcases e with e | e
  · rw [e]; exact ⟨h.setF hr, setF_len⟩
  · rw [e]; exact ⟨h, Nat.le_succ _⟩
/-! ### directory_of -/
def repT (rs : List Rw) : T := .tup (rs.map rwT)
def spDir : WSp := fun ts S Q _ => match ts with
  | [.ref p, .tup us] => ∃ (reps : List (List Rw)) (bs : List Nat), S p = some (.lst (reps.map repT)) ∧ us = bs.map plT ∧ (∀ rs ∈ reps, okL rs) ∧ (reps.flatten).length ≤ 200 ∧ (∀ b ∈ bs, b < 5) ∧ Fair reps.flatten ∧
      ∀ out S', Res reps.flatten bs out → okL out → out.length ≤ 200 → Wp.Gr S S' → Q (.tup (out.map rwT)) S'
  | _ => False
theorem take_flat {reps : List (List Rw)} {i : Nat} {rs : List Rw} (h : reps[i]? = some rs) : (reps.take (i + 1)).flatten = (reps.take i).flatten ++ rs := by
  rw [List.take_add_one, h]
  show (reps.take i ++ [rs]).flatten = _
  rw [List.flatten_append, List.flatten_cons, List.flatten_nil, List.append_nil]
theorem hw_dir : ∀ ts S Q E, ts.length = 2 → spDir ts S Q E → b_directory_of spMore { nx := fun _ S' => Q .non S', rt := Q } (Wp.startT N_directory_of ts) S := by
  intro ts S Q E _ h
  match ts, h with
  | [.ref p, .tup _], ⟨reps, bs, hp, rfl, ok, hl, hb, fair, h⟩ =>
    unfold b_directory_of N_directory_of
    walk_at "r0"
    intro a ha
    have npa : p ≠ a := fun z => by rw [z, ha] at hp; cases hp
    obtain ⟨S1, w1, g1, ea⟩ := al_ (o := .ot (.dnt [])) ha
    rw [w1]
    have upG : ∀ {S' : Sta} {o : O}, Wp.Gr S S' → Wp.Gr S (upS S' a o) := fun {S' o} g x u e => by
      rw [upS_ne (fun z => by rw [z, ha] at e; cases e)]
      exact g x u e
    have tl : ∀ i, (reps.take i).flatten.length ≤ 200 := fun i => by
      have : (reps.take i).flatten.length ≤ reps.flatten.length := by
        conv => rhs; rw [← List.take_append_drop i reps, List.flatten_append, List.length_append]
        omega
      omega
    refine goS_i ⟨.ref p, rfl, _, g1 _ _ hp, ?_⟩
    refine loop_inv (fun i σ S' => ∃ c v3 v4 v5, σ = [some (.ref p), some (.tup (bs.map plT)), some (.ref a), v3, v4, v5, none] ∧ Wp.Gr S S' ∧ S' a = some (.ot (.dnt (c.map kv))) ∧ Cn (reps.take i).flatten c ∧ okL c ∧ c.length ≤ (reps.take i).flatten.length)
      ⟨[], none, none, none, rfl, g1, ea, Cn.nil, fun x hx => (by cases hx), Nat.zero_le _⟩ (fun i σ S' ⟨_, _, _, _, _, g, _⟩ => g _ _ hp) (fun i x σ S2 LP hx hI nx1 => ?_) (fun σ S2 hI => ?_)
    · obtain ⟨c, v3, v4, v5, rfl, g, ec, cn, okc, lc⟩ := hI
      rw [List.getElem?_map] at hx
      cases er : reps[i]? with
      | none => rw [er] at hx; cases hx
      | some rs =>
        rw [er] at hx
        obtain rfl : repT rs = x := Option.some.inj hx
        have okr := ok rs (List.mem_of_getElem? er)
        have tf := take_flat er
        have tl1 := tl (i + 1)
        rw [tf, List.length_append] at tl1
        refine ⟨_, rfl, ?_⟩
        refine loop_inv (fun j σ S' => ∃ c v4 v5, σ = [some (.ref p), some (.tup (bs.map plT)), some (.ref a), some (repT rs), v4, v5, none] ∧ Wp.Gr S S' ∧ S' a = some (.ot (.dnt (c.map kv))) ∧ Cn ((reps.take i).flatten ++ rs.take j) c ∧ okL c ∧ c.length ≤ (reps.take i).flatten.length + j)
          ⟨c, _, _, rfl, g, ec, by rw [List.take_zero, List.append_nil]; exact cn, okc, lc⟩ (fun _ _ _ _ => trivial) (fun j x σ S3 LP2 hx2 hJ nx2 => ?_) (fun σ S3 hJ => ?_)
        · obtain ⟨c2, w4, w5, rfl, g2, ec2, cn2, okc2, lc2⟩ := hJ
          rw [List.getElem?_map] at hx2
          cases ej : rs[j]? with
          | none => rw [ej] at hx2; cases hx2
          | some r =>
            rw [ej] at hx2
            obtain rfl : rwT r = x := Option.some.inj hx2
            have hr := okr r (List.mem_of_getElem? ej)
            have hj : j < rs.length := (List.getElem?_eq_some_iff.mp ej).1
            have st := cn2.step r
            obtain ⟨ok3, l3⟩ := cntS_ok okc2 hr
            refine cnt_step ec2 okc2 hr (by omega) fun u5 => nx2 _ _ ⟨cntS c2 r, _, _, rfl, upG g2, upS_same, ?_, ok3, by omega⟩
            rw [List.take_add_one, ej]
            show Cn ((reps.take i).flatten ++ (rs.take j ++ [r])) _
            rw [← List.append_assoc]
            exact st
        · obtain ⟨c2, w4, w5, rfl, g2, ec2, cn2, okc2, lc2⟩ := hJ
          rw [List.length_map] at cn2 lc2
          rw [List.take_length] at cn2
          exact nx1 _ _ ⟨c2, _, _, _, rfl, g2, ec2, by rw [tf]; exact cn2, okc2, by rw [tf, List.length_append]; exact lc2⟩
    · obtain ⟨c, v3, v4, v5, rfl, g, ec, cn, okc, lc⟩ := hI
      rw [List.length_map, List.take_length] at cn lc
      walk_at "r0"
      intro b hb2
      have nab : a ≠ b := fun z => by rw [← z, ec] at hb2; cases hb2
      obtain ⟨S3, w3, g3, eb⟩ := al_ (o := .ot (.dnt [])) hb2
      rw [w3]
      have ec3 := g3 _ _ ec
      have nSb : S b = none := by
        cases e : S b with
        | none => rfl
        | some o => rw [g _ _ e] at hb2; cases hb2
      refine goS_i ⟨.ref a, rfl, _, ec3, srt_keys okc, fun q hq => ?_⟩
      have nqb : q ≠ b := fun z => by rw [z, eb] at hq; cases hq
      have nqa : q ≠ a := fun z => by rw [z, ec3] at hq; cases hq
      refine ⟨_, upS_same, ?_⟩
      rw [srtL_map okc]
      obtain ⟨S4, w4, g4, eq⟩ := al_ (o := .lst ((srtL c).map fun r => T.tup [flT r.f, lfT r.l])) hq
      rw [w4]
      refine loop_inv (fun i σ S' => ∃ d v5, σ = [some (.ref p), some (.tup (bs.map plT)), some (.ref a), v3, v4, v5, some (.ref b)] ∧ Wp.Gr S S' ∧ S' q = some (.lst ((srtL c).map fun r => T.tup [flT r.f, lfT r.l])) ∧ S' a = some (.ot (.dnt (c.map kv))) ∧ S' b = some (.ot (.dnt (d.map kdr))) ∧ Dn reps.flatten bs ((srtL c).take i) d ∧ okL d ∧ d.length ≤ i)
        ⟨[], _, rfl, fun x o e => g4 _ _ (g3 _ _ (g _ _ e)), eq, g4 _ _ ec3, g4 _ _ eb, ⟨.nil, fun x hx => (by cases hx), fun x hx => (by cases hx)⟩, fun x hx => (by cases hx), Nat.zero_le _⟩ (fun i σ S' ⟨_, _, _, _, z, _⟩ => z) (fun i x σ S5 LP hx hI nx1 => ?_) (fun σ S5 hI => ?_)
      · obtain ⟨d, v5, rfl, g5, eq5, ea5, eb5, dn, okd, ld⟩ := hI
        rw [List.getElem?_map] at hx
        cases er : (srtL c)[i]? with
        | none => rw [er] at hx; cases hx
        | some r =>
          rw [er] at hx
          obtain rfl := Option.some.inj hx
          have hi : i < (srtL c).length := (List.getElem?_eq_some_iff.mp er).1
          have rc : r ∈ c := srtL_mem.mp (List.mem_of_getElem? er)
          have hr := okc r rc
          have ls : (srtL c).length = c.length := List.length_mergeSort c
          obtain ⟨ok6, l6⟩ := dirS_ok (bs := bs) okd hr
          have lr := tl reps.length
          rw [List.take_length] at lr
          refine dir_step ea5 eb5 okc okd hr (find_self cn.nd rc) (by omega) hb ?_
          refine nx1 _ _ ⟨dirS bs d r, _, rfl, fun x o e => ?_, by rw [upS_ne nqb]; exact eq5, by rw [upS_ne nab]; exact ea5, upS_same, ?_, ok6, by omega⟩
          · rw [upS_ne (fun z => by rw [z, nSb] at e; cases e)]
            exact g5 _ _ e
          · rw [List.take_add_one, er]
            refine dn.step r fun x hx => ?_
            have pw := srtL_pw (c := c)
            obtain ⟨k, hk, e1⟩ := List.getElem_of_mem hx
            rw [List.length_take] at hk
            rw [List.getElem_take] at e1
            have hk2 : k < (srtL c).length := by omega
            have := List.pairwise_iff_getElem.mp pw k i hk2 hi (by omega)
            rw [List.getElem?_eq_getElem hi] at er
            rw [e1, Option.some.inj er] at this
            exact code_le (okc x (srtL_mem.mp (by rw [← e1]; exact List.getElem_mem hk2))) hr this
      · obtain ⟨d, v5, rfl, g5, eq5, ea5, eb5, dn, okd, ld⟩ := hI
        rw [List.length_map] at dn ld
        rw [List.take_length] at dn
        refine goS_i ⟨.ref b, rfl, _, eb5, _, rfl, ?_⟩
        have rs := Dn.res fair cn (fun x => srtL_mem) dn fun r hr => by
          obtain ⟨rs, h1, h2⟩ := List.mem_flatten.mp hr
          exact (ok rs h1 r h2).f
        have ls : (srtL c).length = c.length := List.length_mergeSort c
        have lr := tl reps.length
        rw [List.take_length] at lr
        have := h d S5 rs okd (by omega) g5
        rw [List.map_map]
        exact this
end My

set_option Elab.async false
set_option linter.all false
set_option maxRecDepth 100000
set_option maxHeartbeats 8000000
namespace My
open PySem PySem.Spec PyProof.Rows L2 Wp Gn
local macro_rules | `(tactic| walk_at "go") => `(tactic| (with_reducible refine goS_i ?_))
local macro_rules | `(tactic| walk_at "wp") => `(tactic| simp (disch := omega) only [Wp.wSeq, Wp.wNext, Wp.wSet, Wp.wVar, Wp.wC, Wp.wOp, Wp.wRet, Wp.wIfS, Wp.wTest, Wp.wCall, Wp.wCons, Wp.wNil, Wp.wTup, Wp.wLst, Wp.wAsg, Wp.gTp, Wp.gC, Wp.gNm, Wp.gN0, Wp.gIx, Wp.rSet, Wp.rAdd, Wp.rMul, Wp.rMod, Wp.rSub, Wp.rFdiv, Wp.rPow, Wp.rInt, Wp.rIx, Wp.rLt, Wp.rLe, Wp.rCmp, Wp.rGeI, Wp.rGtI, Wp.wCB, Wp.rLen, Wp.rLen1, Wp.rInt1, Wp.rMax2, Wp.rMin2, Wp.rTupOf, Wp.rListOf,
  Wp.wIsi, Wp.rBIs, Wp.rIsN, Wp.isNon, Wp.wMt, Wp.rAppendT, Wp.rExtendT, Wp.rReverseT, Wp.wNot, Wp.wOr, Wp.wAnd, Wp.wAndV, Wp.wOrV, Wp.wNotV, Wp.wFor, Wp.iRg1, Wp.iRg2, Wp.iAnyW, Wp.wAll, Wp.wChain, Wp.wSl, Wp.wNoPart, Wp.wPart, Wp.rSl, Wp.wNeg, Wp.rNeg, Wp.wLc, Wp.wYes, Wp.wDrop, Wp.wipeT, Wp.wAug, List.map, List.set_cons_zero, List.set_cons_succ, List.getElem?_cons_zero, List.getElem?_cons_succ, List.length_cons, List.length_nil, List.cons_append, List.nil_append, List.replicate, Wp.startT,
  true_and, and_true, Wp.wif_true, Wp.wif_false, Wp.ex_some, Wp.ex_some1, Wp.ex_eq, Wp.ex_lst, Wp.ex_lst0, Wp.rEq_int, Bool.false_bne, Bool.true_bne, Int.reduceLT, Int.reduceLE, Int.reduceAdd, Nat.reduceAdd, Nat.reduceSub, eq_self, ite_true, ite_false, beq_self_eq_true, Bool.not_true, Bool.not_false, Wp.isB_0, Wp.isB_1, Wp.isB_2, Wp.isB_3, Wp.isB_4, Wp.isB_5, Wp.isB_6, Wp.isB_7, Wp.isB_8, Wp.isB_9, Wp.isB_10, Wp.isB_11, Wp.isB_12, Wp.isB_13, Wp.isB_14, Wp.isB_15, Wp.isB_16, Wp.isB_17, Wp.isB_18, Wp.isB_19, Wp.isB_20, Wp.isB_21, Wp.isB_22, Wp.isB_23, Wp.isB_24, Wp.isB_25, Wp.isB_26, Wp.isB_27, Wp.isB_28, Wp.isB_29, Wp.isB_30, Wp.isB_31, Wp.isB_32, Wp.isB_33, Wp.isB_34, Wp.isB_35, Wp.cmul_l, Wp.cmul_r, Wp.cpow_lit, Wp.size_le, Wp.size_lt, Wp.atI_0, Wp.atI_1, Wp.atI_2, Wp.atI_3, Wp.atI_4, Wp.atI_5, Wp.atI_6, Wp.ixN_0, Wp.ixN_1, Wp.ixN_2, Wp.itemsT, Wp.tyT, reduceIte, Wp.wFld, Wp.wFSet, Wp.wFAug, Wp.wMeth, Wp.wMake, Wp.rIxA, Wp.rInA, Wp.rSetA, Wp.ixA, Wp.inA, Wp.setA, Wp.lenA, Wp.getD, Option.map_some, Option.bind_some, Option.getD_some,  Wp.gIxA, Wp.wDNew, Wp.wDNewT, Wp.rLenA, Wp.rSortD, Wp.rMaxL, Wp.rPopL, Wp.rGet1, Wp.rGet2, Wp.wGet1, Wp.wGet2, Wp.wPop1, Wp.wPop2, Wp.wDel, Wp.isDT, Wp.keyT, Wp.keysT, Wp.keysL, Wp.ex_ins, Wp.ex_dct, Wp.wIf, Wp.rGt, Wp.rAddI, Int.cast_ofNat_Int, Int.reduceBEq, Wp.wMtN, Wp.rGetN, Wp.wTupVals, Wp.rSortN, Wp.rSortT, Wp.wDNewN, Wp.wDelN, Wp.wRevU, Wp.upS, Wp.upS_upS, *])
local macro_rules | `(tactic| walk_at "run") => `(tactic| repeat (first | walk_at "wp" | walk_at "go"))
local macro_rules | `(tactic| walk_at "wq") => `(tactic| simp (disch := omega) only [Wp.wSeq, Wp.wNext, Wp.wSet, Wp.wVar, Wp.wC, Wp.wOp, Wp.wRet, Wp.wIfS, Wp.wTest, Wp.wCall, Wp.wCons, Wp.wNil, Wp.wTup, Wp.wLst, Wp.wAsg, Wp.gTp, Wp.gC, Wp.gNm, Wp.gN0, Wp.gIx, Wp.rSet, Wp.rAdd, Wp.rMul, Wp.rMod, Wp.rSub, Wp.rFdiv, Wp.rPow, Wp.rInt, Wp.rIx, Wp.rLt, Wp.rLe, Wp.rCmp, Wp.rGeI, Wp.rGtI, Wp.wCB, Wp.rLen, Wp.rLen1, Wp.rInt1, Wp.rMax2, Wp.rMin2, Wp.rTupOf, Wp.rListOf,
  Wp.wIsi, Wp.rBIs, Wp.rIsN, Wp.isNon, Wp.wMt, Wp.rAppendT, Wp.rExtendT, Wp.rReverseT, Wp.wNot, Wp.wOr, Wp.wAnd, Wp.wAndV, Wp.wOrV, Wp.wNotV, Wp.wFor, Wp.iRg1, Wp.iRg2, Wp.iAnyW, Wp.wAll, Wp.wChain, Wp.wSl, Wp.wNoPart, Wp.wPart, Wp.rSl, Wp.wNeg, Wp.rNeg, Wp.wLc, Wp.wYes, Wp.wDrop, Wp.wipeT, Wp.wAug, List.map, List.set_cons_zero, List.set_cons_succ, List.getElem?_cons_zero, List.getElem?_cons_succ, List.length_cons, List.length_nil, List.cons_append, List.nil_append, List.replicate, Wp.startT,
  true_and, and_true, Wp.wif_true, Wp.wif_false, Wp.ex_some, Wp.ex_some1, Wp.ex_eq, Wp.ex_lst, Wp.ex_lst0, Wp.rEq_int, Bool.false_bne, Bool.true_bne, Int.reduceLT, Int.reduceLE, Int.reduceAdd, Nat.reduceAdd, Nat.reduceSub, eq_self, ite_true, ite_false, beq_self_eq_true, Bool.not_true, Bool.not_false, Wp.isB_0, Wp.isB_1, Wp.isB_2, Wp.isB_3, Wp.isB_4, Wp.isB_5, Wp.isB_6, Wp.isB_7, Wp.isB_8, Wp.isB_9, Wp.isB_10, Wp.isB_11, Wp.isB_12, Wp.isB_13, Wp.isB_14, Wp.isB_15, Wp.isB_16, Wp.isB_17, Wp.isB_18, Wp.isB_19, Wp.isB_20, Wp.isB_21, Wp.isB_22, Wp.isB_23, Wp.isB_24, Wp.isB_25, Wp.isB_26, Wp.isB_27, Wp.isB_28, Wp.isB_29, Wp.isB_30, Wp.isB_31, Wp.isB_32, Wp.isB_33, Wp.isB_34, Wp.isB_35, Wp.cmul_l, Wp.cmul_r, Wp.cpow_lit, Wp.size_le, Wp.size_lt, Wp.atI_0, Wp.atI_1, Wp.atI_2, Wp.atI_3, Wp.atI_4, Wp.atI_5, Wp.atI_6, Wp.ixN_0, Wp.ixN_1, Wp.ixN_2, Wp.itemsT, Wp.tyT, reduceIte, Wp.wFld, Wp.wFSet, Wp.wFAug, Wp.wMeth, Wp.wMake, Wp.rIxA, Wp.rInA, Wp.rSetA, Wp.ixA, Wp.inA, Wp.setA, Wp.lenA, Wp.getD, Option.map_some, Option.bind_some, Option.getD_some,  Wp.gIxA, Wp.wDNew, Wp.wDNewT, Wp.rLenA, Wp.rSortD, Wp.rMaxL, Wp.rPopL, Wp.rGet1, Wp.rGet2, Wp.wGet1, Wp.wGet2, Wp.wPop1, Wp.wPop2, Wp.wDel, Wp.isDT, Wp.keyT, Wp.keysT, Wp.keysL, Wp.ex_ins, Wp.ex_dct, Wp.wIf, Wp.rGt, Wp.rAddI, Int.cast_ofNat_Int, Int.reduceBEq, Wp.wMtN, Wp.rGetN, Wp.wTupVals, Wp.rSortN, Wp.rSortT, Wp.wDNewN, Wp.wDelN, Wp.wRevU, *])
local macro_rules | `(tactic| walk_at "r2") => `(tactic| repeat (first | walk_at "wq" | walk_at "go"))
local macro_rules | `(tactic| walk_at "w0") => `(tactic| simp (disch := omega) only [Wp.wSeq, Wp.wNext, Wp.wSet, Wp.wVar, Wp.wC, Wp.wOp, Wp.wRet, Wp.wIfS, Wp.wTest, Wp.wCall, Wp.wCons, Wp.wNil, Wp.wTup, Wp.wLst, Wp.wAsg, Wp.gTp, Wp.gC, Wp.gNm, Wp.gN0, Wp.gIx, Wp.rSet, Wp.rAdd, Wp.rMul, Wp.rMod, Wp.rSub, Wp.rFdiv, Wp.rPow, Wp.rInt, Wp.rIx, Wp.rLt, Wp.rLe, Wp.rCmp, Wp.rGeI, Wp.rGtI, Wp.wCB, Wp.rLen, Wp.rLen1, Wp.rInt1, Wp.rMax2, Wp.rMin2, Wp.rTupOf, Wp.rListOf,
  Wp.wIsi, Wp.rBIs, Wp.rIsN, Wp.isNon, Wp.wMt, Wp.rAppendT, Wp.rExtendT, Wp.rReverseT, Wp.wNot, Wp.wOr, Wp.wAnd, Wp.wAndV, Wp.wOrV, Wp.wNotV, Wp.wFor, Wp.iRg1, Wp.iRg2, Wp.iAnyW, Wp.wAll, Wp.wChain, Wp.wSl, Wp.wNoPart, Wp.wPart, Wp.rSl, Wp.wNeg, Wp.rNeg, Wp.wLc, Wp.wYes, Wp.wDrop, Wp.wipeT, Wp.wAug, List.map, List.set_cons_zero, List.set_cons_succ, List.getElem?_cons_zero, List.getElem?_cons_succ, List.length_cons, List.length_nil, List.cons_append, List.nil_append, List.replicate, Wp.startT,
  true_and, and_true, Wp.wif_true, Wp.wif_false, Wp.ex_some, Wp.ex_some1, Wp.ex_eq, Wp.ex_lst, Wp.ex_lst0, Wp.rEq_int, Bool.false_bne, Bool.true_bne, Int.reduceLT, Int.reduceLE, Int.reduceAdd, Nat.reduceAdd, Nat.reduceSub, eq_self, ite_true, ite_false, beq_self_eq_true, Bool.not_true, Bool.not_false, Wp.isB_0, Wp.isB_1, Wp.isB_2, Wp.isB_3, Wp.isB_4, Wp.isB_5, Wp.isB_6, Wp.isB_7, Wp.isB_8, Wp.isB_9, Wp.isB_10, Wp.isB_11, Wp.isB_12, Wp.isB_13, Wp.isB_14, Wp.isB_15, Wp.isB_16, Wp.isB_17, Wp.isB_18, Wp.isB_19, Wp.isB_20, Wp.isB_21, Wp.isB_22, Wp.isB_23, Wp.isB_24, Wp.isB_25, Wp.isB_26, Wp.isB_27, Wp.isB_28, Wp.isB_29, Wp.isB_30, Wp.isB_31, Wp.isB_32, Wp.isB_33, Wp.isB_34, Wp.isB_35, Wp.cmul_l, Wp.cmul_r, Wp.cpow_lit, Wp.size_le, Wp.size_lt, Wp.atI_0, Wp.atI_1, Wp.atI_2, Wp.atI_3, Wp.atI_4, Wp.atI_5, Wp.atI_6, Wp.ixN_0, Wp.ixN_1, Wp.ixN_2, Wp.itemsT, Wp.tyT, reduceIte, Wp.wFld, Wp.wFSet, Wp.wFAug, Wp.wMeth, Wp.wMake, Wp.rIxA, Wp.rInA, Wp.rSetA, Wp.ixA, Wp.inA, Wp.setA, Wp.lenA, Wp.getD, Option.map_some, Option.bind_some, Option.getD_some,  Wp.gIxA, Wp.wDNew, Wp.wDNewT, Wp.rLenA, Wp.rSortD, Wp.rMaxL, Wp.rPopL, Wp.rGet1, Wp.rGet2, Wp.wGet1, Wp.wGet2, Wp.wPop1, Wp.wPop2, Wp.wDel, Wp.isDT, Wp.keyT, Wp.keysT, Wp.keysL, Wp.ex_ins, Wp.ex_dct, Wp.wIf, Wp.rGt, Wp.rAddI, Int.cast_ofNat_Int, Int.reduceBEq, Wp.wMtN, Wp.rGetN, Wp.wTupVals, Wp.rSortN, Wp.rSortT, Wp.wDNewN, Wp.wDelN, Wp.wRevU])
local macro_rules | `(tactic| walk_at "r0") => `(tactic| repeat (first | walk_at "w0" | walk_at "go"))
theorem hw_drw : ∀ ts S Q E, ts.length = 2 → spDraw false ts S Q E → b__law_draw { nx := fun _ S' => Q .non S', rt := Q } (Wp.startT N__law_draw ts) S := by
  intro ts S Q E hl h
  match ts, h, hl with
  | [.ref p, .int m], ⟨k, hk, hb, h0, h1, h⟩, hl =>
    have r := hw_draw3A [.ref p, .int m] S Q E hl ⟨k, hk, hb, h0, h1, h⟩
    show wIfS (wTest (wOp rLt (wVar 1) (wC (.int 1)))) (wRet (wC (.int 0))) wNext { nx := b_draw3A { nx := fun _ S' => Q .non S', rt := Q }, rt := Q } (Wp.startT N__law_draw [.ref p, .int m]) S
    have nb : ∀ A : Prop, wif (decide (m < 1)) A (b_draw3A { nx := fun _ S' => Q .non S', rt := Q } (Wp.startT N__law_draw [.ref p, .int m]) S) := fun A => if_dec (fun z => by omega) (fun _ => r)
    exact ⟨_, rfl, nb _⟩
def spDr : WSp := fun ts S Q _ => match ts with
  | [.ref p, .int m] => IsBag none S p ∧ 0 < m ∧ m < 2 ^ 62 ∧ ∀ (r : Int) (S' : Sta), 0 ≤ r → r < m → Grb none p S S' → Q (.int r) S'
  | _ => False
theorem hw_dr : ∀ ts S Q E, ts.length = 2 → spDr ts S Q E → b__law_draw { nx := fun _ S' => Q .non S', rt := Q } (Wp.startT N__law_draw ts) S := by
  intro ts S Q E hl h
  match ts, h, hl with
  | [.ref p, .int m], ⟨hb, h0, h1, h⟩, hl => exact hw_drw [.ref p, .int m] S Q E hl ⟨none, rfl, hb, h0, h1, h⟩
theorem two_c {r : Int} (h0 : 0 ≤ r) (h1 : r < 2) : r = 0 ∨ r = 1 := by omega
theorem fl_of {c m : Int} (c0 : 0 ≤ c) (c1 : c < 2) (m0 : 0 ≤ m) (m1 : m < 2) : ∃ i < 4, T.tup [.int c, .int (1 + m)] = flT i := by
  rcases two_c c0 c1 with rfl | rfl <;> rcases two_c m0 m1 with rfl | rfl
  · exact ⟨0, by decide, rfl⟩
  · exact ⟨1, by decide, rfl⟩
  · exact ⟨2, by decide, rfl⟩
  · exact ⟨3, by decide, rfl⟩
theorem lf_of {c m : Int} (c0 : 0 ≤ c) (c1 : c < 2) (m0 : 0 ≤ m) (m1 : m < 2) : ∃ i < 4, T.tup [.int c, .int 1, .int (1 + m)] = lfT i := by
  rcases two_c c0 c1 with rfl | rfl <;> rcases two_c m0 m1 with rfl | rfl
  · exact ⟨0, by decide, rfl⟩
  · exact ⟨1, by decide, rfl⟩
  · exact ⟨2, by decide, rfl⟩
  · exact ⟨3, by decide, rfl⟩
theorem pl_of {r : Int} (h0 : 0 ≤ r) (h1 : r < 5) : ∃ i < 5, atI [T.non, .tup [.int 0, .int 1], .tup [.int 0, .int 2], .tup [.int 1, .int 1], .tup [.int 2, .int 3]] r = some (plT i) := by
  have : r = 0 ∨ r = 1 ∨ r = 2 ∨ r = 3 ∨ r = 4 := by omega
  rcases this with rfl | rfl | rfl | rfl | rfl
  · exact ⟨0, by decide, atI_lit.trans rfl⟩
  · exact ⟨1, by decide, atI_lit.trans rfl⟩
  · exact ⟨2, by decide, atI_lit.trans rfl⟩
  · exact ⟨3, by decide, atI_lit.trans rfl⟩
  · exact ⟨4, by decide, atI_lit.trans rfl⟩
def spRow : WSp := fun ts S Q _ => match ts with
  | [.ref p] => IsBag none S p ∧ ∀ (r : Rw) (S' : Sta), r.Ok → Grb none p S S' → Q (rwT r) S'
  | _ => False
theorem hw_row : ∀ ts S Q E, ts.length = 1 → spRow ts S Q E → b__law_row spDr { nx := fun _ S' => Q .non S', rt := Q } (Wp.startT N__law_row ts) S := by
  intro ts S Q E _ h
  match ts, h with
  | [.ref p], ⟨hb, h⟩ =>
    unfold b__law_row N__law_row
    walk_at "r0"
    refine ⟨hb, by decide, by decide, fun c S1 c0 c1 g1 => ⟨g1.bag, by decide, by decide, fun m S2 m0 m1 g2 => ?_⟩⟩
    obtain ⟨f, hf, ef⟩ := fl_of c0 c1 m0 m1
    show goS _ [some (.ref p), some (T.tup [T.int c, T.int (1 + m)]), none, none] S2
    rw [ef]
    refine goS_i ?_
    walk_at "r0"
    refine ⟨g2.bag, by decide, by decide, fun c' S3 c0' c1' g3 => ⟨g3.bag, by decide, by decide, fun m' S4 m0' m1' g4 => ?_⟩⟩
    obtain ⟨l, hl, el⟩ := lf_of c0' c1' m0' m1'
    show goS _ [some (.ref p), some (flT f), some (T.tup [T.int c', T.int 1, T.int (1 + m')]), none] S4
    rw [el]
    refine goS_i ?_
    walk_at "r0"
    intro q hq
    obtain ⟨S5, w5, g5, e5⟩ := al_ (o := .lst [T.non, .tup [.int 0, .int 1], .tup [.int 0, .int 2], .tup [.int 1, .int 1], .tup [.int 2, .int 3]]) hq
    rw [w5]
    have nqp := new_ne g4.bag hq
    refine ⟨g4.bag.gr g5, by decide, by decide, fun d S6 d0 d1 g6 => ?_⟩
    have e6 := g6.keep q _ e5 nqp
    obtain ⟨i, hi, ei⟩ := pl_of d0 d1
    refine ⟨plT i, by simp only [e6]; exact ei, ?_⟩
    refine goS_i ?_
    walk_at "r0"
    refine ⟨g6.bag, by decide, by decide, fun e S7 z0 z1 g7 => ?_⟩
    exact h ⟨f, l, e, i⟩ S7 ⟨hf, hl, hi⟩ ((((g1.trans g2).trans (g3.trans g4)).gr g5).trans (g6.trans g7))
/-! ### _law_fair -/
theorem valN_put {kvs : List (NK × T)} {k k' : NK} {t : T} : valN (putN kvs k t) k' = if k = k' then some t else valN kvs k' := by
  unfold putN
  cases e : valN kvs k with
  | none =>
    have : ∀ l : List (NK × T), valN (l ++ [(k, t)]) k' = (match valN l k' with | some x => some x | none => if k = k' then some t else none) := fun l => by
      induction l with
      | nil => rw [List.nil_append, valN_cons]; rfl
      | cons p l ih =>
        rw [List.cons_append, valN_cons, valN_cons, ih]
        by_cases h : p.1 = k'
        · rw [if_pos h, if_pos h]
        · rw [if_neg h, if_neg h]
    show valN (kvs ++ [(k, t)]) k' = _
    rw [this]
    by_cases h : k = k'
    · rw [if_pos h, if_pos h, ← h, e]
    · rw [if_neg h, if_neg h]
      cases valN kvs k' <;> rfl
  | some x =>
    show valN (kvs.map fun p => if p.1 = k then (p.1, t) else p) k' = _
    have : ∀ l : List (NK × T), valN (l.map fun p => if p.1 = k then (p.1, t) else p) k' = if k = k' then (valN l k').map (fun _ => t) else valN l k' := fun l => by
      induction l with
      | nil => by_cases h : k = k' <;> simp [valN, h]
      | cons p l ih =>
        rw [List.map_cons, valN_cons, valN_cons, ih]
        by_cases hp : p.1 = k
        · rw [if_pos hp]
          by_cases h : k = k'
          · rw [if_pos h, if_pos h, if_pos (show (p.1, t).1 = k' from hp.trans h), if_pos (hp.trans h)]; rfl
          · rw [if_neg h, if_neg h, if_neg (show ¬ (p.1, t).1 = k' from fun z => h (hp.symm.trans z)), if_neg (fun z => h (hp.symm.trans z))]
        · rw [if_neg hp]
          by_cases h : k = k'
          · rw [if_pos h, if_pos h, if_neg (fun z => hp (z.trans h.symm)), if_neg (fun z => hp (z.trans h.symm))]
          · rw [if_neg h, if_neg h]
    rw [this]
    by_cases h : k = k'
    · rw [if_pos h, if_pos h, ← h, e]; rfl
    · rw [if_neg h, if_neg h]
def ekK (r : Rw) : NK := .tup [flK r.f, lfK r.l, .num r.e]
theorem keyN_ek (r : Rw) : keyN (.tup [flT r.f, lfT r.l, .int r.e]) = some (ekK r) := by
  have : (T.tup [flT r.f, lfT r.l, .int r.e]) = tk (ekK r) := by
    unfold ekK flK lfK flT lfT
    simp only [tk, tks]
  rw [this]
  exact keyN_of rfl rfl
/-- what the places tell of the rows seen -/
structure Fn (rs : List Rw) (kvs : List (NK × T)) : Prop where
  all : ∀ r ∈ rs, r.p ≠ 0 → valN kvs (ekK r) = some (plT r.p)
  pl : ∀ k t, valN kvs k = some t → ∃ p < 5, t = plT p
  len : kvs.length ≤ rs.length
theorem pl_inj : ∀ p < 5, ∀ q < 5, plT p = plT q → p = q := fun p hp q hq h => by
  have := eq_pl p hp q hq
  rw [h, eq_pl q hq q hq, decide_eq_true rfl] at this
  exact of_decide_eq_true this.symm
theorem Fn.fair {rs : List Rw} {kvs : List (NK × T)} (h : Fn rs kvs) (ok : okL rs) : Fair rs := fun r hr r' hr' s e n n' => by
  have a := h.all r hr n
  have b := h.all r' hr' n'
  have : ekK r = ekK r' := by unfold ekK; rw [s.1, s.2, e]
  rw [this, b] at a
  exact (pl_inj _ (ok r' hr').p _ (ok r hr).p (Option.some.inj a)).symm
theorem pl_ne {S : Sta} {p q : Nat} {Q : T → Sta → Prop} (hp : p < 5) (hq : q < 5) (h : Q (.bl (!decide (p = q))) S) : Wp.rEq true (plT p) (plT q) S Q := by
  obtain ⟨a1, a2⟩ := okT_pl p hp
  obtain ⟨b1, b2⟩ := okT_pl q hq
  obtain ⟨d, c1, c2, c3, c4⟩ := ok_toD _ a1
  obtain ⟨e, d1, d2, d3, d4⟩ := ok_toD _ b1
  have ee := eq_pl p hp q hq
  unfold Wp.eqT at ee
  rw [c1, d1] at ee
  refine ⟨d, by rw [dd_see, see_pl]; exact c1, e, by rw [dd_see, see_pl]; exact d1, ?_, ?_, ?_⟩
  · unfold SeqAt.shaped; rw [c2, Bool.true_and]; exact decide_eq_true (by omega)
  · unfold SeqAt.shaped; rw [d2, Bool.true_and]; exact decide_eq_true (by omega)
  · rw [Bool.true_bne]
    have ee : PyData.eqv d e = decide (p = q) := ee
    rw [ee]; exact h
def spFair : WSp := fun ts S Q _ => match ts with
  | [.ref p] => ∃ reps : List (List Rw), S p = some (.lst (reps.map repT)) ∧ (∀ rs ∈ reps, okL rs) ∧ (reps.flatten).length ≤ 200 ∧ (Fair reps.flatten → ∀ S', Wp.Gr S S' → Q (.bl true) S') ∧ (∀ S', Wp.Gr S S' → Q (.bl false) S')
  | _ => False
def fairT : WS := (wIfS (wTest (wOp (rIsN true) (wOp rIxA (wVar 3) (wC (.int 3))) (wC .non))) (wAsg (wOp rIxA (wVar 3) (wC (.int 3))) (gIxA (wVar 1) (wSl (wVar 3) wNoPart (wPart (wC (.int 3)))))) wNext)
section
variable {a : Addr} {S : Sta} {D : WEnds} {kvs : List (NK × T)} {rs : List Rw} {r : Rw} {v0 v2 : Option T}
theorem fairT_ok (ea : S a = some (.ot (.dnt kvs))) (fn : Fn rs kvs) (hr : r.Ok) (hl : rs.length ≤ 500) (same : r.p ≠ 0 → ∀ t, valN kvs (ekK r) = some t → t = plT r.p)
    (nx : ∀ kvs', Fn (rs ++ [r]) kvs' → D.nx [v0, some (.ref a), v2, some (rwT r)] (upS S a (.ot (.dnt kvs')))) : fairT D [v0, some (.ref a), v2, some (rwT r)] S := by
  unfold fairT rwT
  walk_at "r0"
  show wif (!isNon (plT r.p)) _ _
  rw [isNon_pl]
  refine if_bool (fun z => ?_) (fun z => goS_i ?_)
  · have hp : r.p ≠ 0 := by simpa using z
    rw [show cutT [flT r.f, lfT r.l, T.int r.e, plT r.p] none (some 3) = [flT r.f, lfT r.l, T.int r.e] from rfl]
    have hz : kvs.length < sizeLine := by have := fn.len; rw [sizeLine_eq]; omega
    refine ⟨.ot (.dnt (putN kvs (ekK r) (plT r.p))), by simp only [ea, keyN_ek, Option.map_some]; rw [if_pos hz], goS_i ?_⟩
    refine nx _ ⟨fun x hx hx0 => ?_, fun k t e => ?_, ?_⟩
    · rw [valN_put]
      rcases List.mem_append.mp hx with hx | hx
      · have q := fn.all x hx hx0
        by_cases k : ekK r = ekK x
        · rw [if_pos k]
          rw [← k] at q
          rw [same hp _ q]
        · rw [if_neg k]; exact q
      · have : x = r := by simpa using hx
        rw [this, if_pos rfl]
    · rw [valN_put] at e
      by_cases q : ekK r = k
      · rw [if_pos q] at e
        exact ⟨r.p, hr.p, (Option.some.inj e).symm⟩
      · rw [if_neg q] at e
        exact fn.pl k t e
    · have := fn.len
      have := length_putN kvs (ekK r) (plT r.p)
      rw [List.length_append, List.length_singleton]; omega
  · have hp : r.p = 0 := by simpa using z
    have := nx kvs ⟨fun x hx hx0 => ?_, fn.pl, by have := fn.len; rw [List.length_append]; omega⟩
    · rw [upS_self ea] at this
      exact this
    · rcases List.mem_append.mp hx with hx | hx
      · exact fn.all x hx hx0
      · have : x = r := by simpa using hx
        rw [this] at hx0; exact absurd hp hx0
theorem fair_step (ea : S a = some (.ot (.dnt kvs))) (fn : Fn rs kvs) (hr : r.Ok) (hl : rs.length ≤ 500)
    (no : D.rt (.bl false) S) (nx : ∀ kvs', Fn (rs ++ [r]) kvs' → D.nx [v0, some (.ref a), v2, some (rwT r)] (upS S a (.ot (.dnt kvs')))) :
    l1__law_fair D [v0, some (.ref a), v2, some (rwT r)] S := by
  have tt := fun same => fairT_ok (D := D) (v0 := v0) (v2 := v2) ea fn hr hl same nx
  show wSeq _ fairT D _ S
  generalize fairT = FT at tt ⊢
  unfold rwT at tt ⊢
  walk_at "r0"
  show wif (!isNon (plT r.p)) _ _
  rw [isNon_pl]
  refine if_bool (fun z => ?_) (fun z => goS_i (tt fun n => absurd (by simpa using z) n))
  refine ⟨⟨kvs, ea⟩, kvs, ekK r, ea, ?_, ?_⟩
  · rw [show cutT [flT r.f, lfT r.l, T.int r.e, plT r.p] none (some 3) = [flT r.f, lfT r.l, T.int r.e] from rfl]
    exact keyN_ek r
  · cases e : valN kvs (ekK r) with
    | none =>
      refine pl_ne hr.p hr.p ?_
      rw [decide_eq_true rfl]
      exact wif_f (goS_i (tt fun _ t et => by rw [e] at et; cases et))
    | some t =>
      obtain ⟨q, hq, rfl⟩ := fn.pl _ _ e
      refine pl_ne hq hr.p ?_
      show wif (!decide (q = r.p)) _ _
      by_cases qq : q = r.p
      · rw [decide_eq_true qq]
        exact wif_f (goS_i (tt fun _ t et => by rw [e] at et; rw [← Option.some.inj et, qq]))
      · rw [decide_eq_false qq]
        exact wif_t no
end
theorem hw_fair : ∀ ts S Q E, ts.length = 1 → spFair ts S Q E → b__law_fair { nx := fun _ S' => Q .non S', rt := Q } (Wp.startT N__law_fair ts) S := by
  intro ts S Q E _ h
  match ts, h with
  | [.ref p], ⟨reps, hp, ok, hl, h1, h0⟩ =>
    unfold b__law_fair N__law_fair
    walk_at "r0"
    intro a ha
    obtain ⟨S1, w1, g1, ea⟩ := al_ (o := .ot (.dnt [])) ha
    rw [w1]
    have upG : ∀ {S' : Sta} {o : O}, Wp.Gr S S' → Wp.Gr S (upS S' a o) := fun {S' o} g x u e => by
      rw [upS_ne (fun z => by rw [z, ha] at e; cases e)]
      exact g x u e
    have tl : ∀ i, (reps.take i).flatten.length ≤ 200 := fun i => by
      have : (reps.take i).flatten.length ≤ reps.flatten.length := by
        conv => rhs; rw [← List.take_append_drop i reps, List.flatten_append, List.length_append]
        omega
      omega
    refine goS_i ⟨.ref p, rfl, _, g1 _ _ hp, ?_⟩
    refine loop_inv (fun i σ S' => ∃ kvs v2 v3, σ = [some (.ref p), some (.ref a), v2, v3] ∧ Wp.Gr S S' ∧ S' a = some (.ot (.dnt kvs)) ∧ Fn (reps.take i).flatten kvs)
      ⟨[], none, none, rfl, g1, ea, ⟨fun r hr => (by cases hr), fun k t e => (by cases e), Nat.zero_le _⟩⟩ (fun i σ S' ⟨_, _, _, _, g, _⟩ => g _ _ hp) (fun i x σ S2 LP hx hI nx1 => ?_) (fun σ S2 hI => ?_)
    · obtain ⟨kvs, v2, v3, rfl, g, ec, fn⟩ := hI
      rw [List.getElem?_map] at hx
      cases er : reps[i]? with
      | none => rw [er] at hx; cases hx
      | some rs =>
        rw [er] at hx
        obtain rfl : repT rs = x := Option.some.inj hx
        have okr := ok rs (List.mem_of_getElem? er)
        have tf := take_flat er
        have tl1 := tl (i + 1)
        rw [tf, List.length_append] at tl1
        refine ⟨_, rfl, ?_⟩
        refine loop_inv (fun j σ S' => ∃ kvs v3, σ = [some (.ref p), some (.ref a), some (repT rs), v3] ∧ Wp.Gr S S' ∧ S' a = some (.ot (.dnt kvs)) ∧ Fn ((reps.take i).flatten ++ rs.take j) kvs)
          ⟨kvs, _, rfl, g, ec, by rw [List.take_zero, List.append_nil]; exact fn⟩ (fun _ _ _ _ => trivial) (fun j x σ S3 LP2 hx2 hJ nx2 => ?_) (fun σ S3 hJ => ?_)
        · obtain ⟨kvs2, w3, rfl, g2, ec2, fn2⟩ := hJ
          rw [List.getElem?_map] at hx2
          cases ej : rs[j]? with
          | none => rw [ej] at hx2; cases hx2
          | some r =>
            rw [ej] at hx2
            obtain rfl : rwT r = x := Option.some.inj hx2
            have hr := okr r (List.mem_of_getElem? ej)
            refine fair_step ec2 fn2 hr (by rw [List.length_append, List.length_take]; omega) (h0 S3 g2) fun kvs' fn' => nx2 _ _ ⟨kvs', _, rfl, upG g2, upS_same, ?_⟩
            rw [List.take_add_one, ej]
            show Fn ((reps.take i).flatten ++ (rs.take j ++ [r])) _
            rw [← List.append_assoc]
            exact fn'
        · obtain ⟨kvs2, w3, rfl, g2, ec2, fn2⟩ := hJ
          rw [List.length_map, List.take_length] at fn2
          exact nx1 _ _ ⟨kvs2, _, _, rfl, g2, ec2, by rw [tf]; exact fn2⟩
    · obtain ⟨kvs, v2, v3, rfl, g, ec, fn⟩ := hI
      rw [List.length_map, List.take_length] at fn
      walk_at "r0"
      refine h1 (fn.fair fun r hr => ?_) S2 g
      obtain ⟨rs, q1, q2⟩ := List.mem_flatten.mp hr
      exact ok rs q1 r q2
end My

set_option Elab.async false
set_option linter.all false
set_option maxRecDepth 100000
set_option maxHeartbeats 8000000
namespace My
open PySem PySem.Spec PyProof.Rows L2 Wp Gn
local macro_rules | `(tactic| walk_at "go") => `(tactic| (with_reducible refine goS_i ?_))
local macro_rules | `(tactic| walk_at "wp") => `(tactic| simp (disch := omega) only [Wp.wSeq, Wp.wNext, Wp.wSet, Wp.wVar, Wp.wC, Wp.wOp, Wp.wRet, Wp.wIfS, Wp.wTest, Wp.wCall, Wp.wCons, Wp.wNil, Wp.wTup, Wp.wLst, Wp.wAsg, Wp.gTp, Wp.gC, Wp.gNm, Wp.gN0, Wp.gIx, Wp.rSet, Wp.rAdd, Wp.rMul, Wp.rMod, Wp.rSub, Wp.rFdiv, Wp.rPow, Wp.rInt, Wp.rIx, Wp.rLt, Wp.rLe, Wp.rCmp, Wp.rGeI, Wp.rGtI, Wp.wCB, Wp.rLen, Wp.rLen1, Wp.rInt1, Wp.rMax2, Wp.rMin2, Wp.rTupOf, Wp.rListOf,
  Wp.wIsi, Wp.rBIs, Wp.rIsN, Wp.isNon, Wp.wMt, Wp.rAppendT, Wp.rExtendT, Wp.rReverseT, Wp.wNot, Wp.wOr, Wp.wAnd, Wp.wAndV, Wp.wOrV, Wp.wNotV, Wp.wFor, Wp.iRg1, Wp.iRg2, Wp.iAnyW, Wp.wAll, Wp.wChain, Wp.wSl, Wp.wNoPart, Wp.wPart, Wp.rSl, Wp.wNeg, Wp.rNeg, Wp.wLc, Wp.wYes, Wp.wDrop, Wp.wipeT, Wp.wAug, List.map, List.set_cons_zero, List.set_cons_succ, List.getElem?_cons_zero, List.getElem?_cons_succ, List.length_cons, List.length_nil, List.cons_append, List.nil_append, List.replicate, Wp.startT,
  true_and, and_true, Wp.wif_true, Wp.wif_false, Wp.ex_some, Wp.ex_some1, Wp.ex_eq, Wp.ex_lst, Wp.ex_lst0, Wp.rEq_int, Bool.false_bne, Bool.true_bne, Int.reduceLT, Int.reduceLE, Int.reduceAdd, Nat.reduceAdd, Nat.reduceSub, eq_self, ite_true, ite_false, beq_self_eq_true, Bool.not_true, Bool.not_false, Wp.isB_0, Wp.isB_1, Wp.isB_2, Wp.isB_3, Wp.isB_4, Wp.isB_5, Wp.isB_6, Wp.isB_7, Wp.isB_8, Wp.isB_9, Wp.isB_10, Wp.isB_11, Wp.isB_12, Wp.isB_13, Wp.isB_14, Wp.isB_15, Wp.isB_16, Wp.isB_17, Wp.isB_18, Wp.isB_19, Wp.isB_20, Wp.isB_21, Wp.isB_22, Wp.isB_23, Wp.isB_24, Wp.isB_25, Wp.isB_26, Wp.isB_27, Wp.isB_28, Wp.isB_29, Wp.isB_30, Wp.isB_31, Wp.isB_32, Wp.isB_33, Wp.isB_34, Wp.isB_35, Wp.cmul_l, Wp.cmul_r, Wp.cpow_lit, Wp.size_le, Wp.size_lt, Wp.atI_0, Wp.atI_1, Wp.atI_2, Wp.atI_3, Wp.atI_4, Wp.atI_5, Wp.atI_6, Wp.ixN_0, Wp.ixN_1, Wp.ixN_2, Wp.itemsT, Wp.tyT, reduceIte, Wp.wFld, Wp.wFSet, Wp.wFAug, Wp.wMeth, Wp.wMake, Wp.rIxA, Wp.rInA, Wp.rSetA, Wp.ixA, Wp.inA, Wp.setA, Wp.lenA, Wp.getD, Option.map_some, Option.bind_some, Option.getD_some,  Wp.gIxA, Wp.wDNew, Wp.wDNewT, Wp.rLenA, Wp.rSortD, Wp.rMaxL, Wp.rPopL, Wp.rGet1, Wp.rGet2, Wp.wGet1, Wp.wGet2, Wp.wPop1, Wp.wPop2, Wp.wDel, Wp.isDT, Wp.keyT, Wp.keysT, Wp.keysL, Wp.ex_ins, Wp.ex_dct, Wp.wIf, Wp.rGt, Wp.rAddI, Int.cast_ofNat_Int, Int.reduceBEq, Wp.wMtN, Wp.rGetN, Wp.wTupVals, Wp.rSortN, Wp.rSortT, Wp.wDNewN, Wp.wDelN, Wp.wRevU, Wp.upS, Wp.upS_upS, *])
local macro_rules | `(tactic| walk_at "run") => `(tactic| repeat (first | walk_at "wp" | walk_at "go"))
local macro_rules | `(tactic| walk_at "wq") => `(tactic| simp (disch := omega) only [Wp.wSeq, Wp.wNext, Wp.wSet, Wp.wVar, Wp.wC, Wp.wOp, Wp.wRet, Wp.wIfS, Wp.wTest, Wp.wCall, Wp.wCons, Wp.wNil, Wp.wTup, Wp.wLst, Wp.wAsg, Wp.gTp, Wp.gC, Wp.gNm, Wp.gN0, Wp.gIx, Wp.rSet, Wp.rAdd, Wp.rMul, Wp.rMod, Wp.rSub, Wp.rFdiv, Wp.rPow, Wp.rInt, Wp.rIx, Wp.rLt, Wp.rLe, Wp.rCmp, Wp.rGeI, Wp.rGtI, Wp.wCB, Wp.rLen, Wp.rLen1, Wp.rInt1, Wp.rMax2, Wp.rMin2, Wp.rTupOf, Wp.rListOf,
  Wp.wIsi, Wp.rBIs, Wp.rIsN, Wp.isNon, Wp.wMt, Wp.rAppendT, Wp.rExtendT, Wp.rReverseT, Wp.wNot, Wp.wOr, Wp.wAnd, Wp.wAndV, Wp.wOrV, Wp.wNotV, Wp.wFor, Wp.iRg1, Wp.iRg2, Wp.iAnyW, Wp.wAll, Wp.wChain, Wp.wSl, Wp.wNoPart, Wp.wPart, Wp.rSl, Wp.wNeg, Wp.rNeg, Wp.wLc, Wp.wYes, Wp.wDrop, Wp.wipeT, Wp.wAug, List.map, List.set_cons_zero, List.set_cons_succ, List.getElem?_cons_zero, List.getElem?_cons_succ, List.length_cons, List.length_nil, List.cons_append, List.nil_append, List.replicate, Wp.startT,
  true_and, and_true, Wp.wif_true, Wp.wif_false, Wp.ex_some, Wp.ex_some1, Wp.ex_eq, Wp.ex_lst, Wp.ex_lst0, Wp.rEq_int, Bool.false_bne, Bool.true_bne, Int.reduceLT, Int.reduceLE, Int.reduceAdd, Nat.reduceAdd, Nat.reduceSub, eq_self, ite_true, ite_false, beq_self_eq_true, Bool.not_true, Bool.not_false, Wp.isB_0, Wp.isB_1, Wp.isB_2, Wp.isB_3, Wp.isB_4, Wp.isB_5, Wp.isB_6, Wp.isB_7, Wp.isB_8, Wp.isB_9, Wp.isB_10, Wp.isB_11, Wp.isB_12, Wp.isB_13, Wp.isB_14, Wp.isB_15, Wp.isB_16, Wp.isB_17, Wp.isB_18, Wp.isB_19, Wp.isB_20, Wp.isB_21, Wp.isB_22, Wp.isB_23, Wp.isB_24, Wp.isB_25, Wp.isB_26, Wp.isB_27, Wp.isB_28, Wp.isB_29, Wp.isB_30, Wp.isB_31, Wp.isB_32, Wp.isB_33, Wp.isB_34, Wp.isB_35, Wp.cmul_l, Wp.cmul_r, Wp.cpow_lit, Wp.size_le, Wp.size_lt, Wp.atI_0, Wp.atI_1, Wp.atI_2, Wp.atI_3, Wp.atI_4, Wp.atI_5, Wp.atI_6, Wp.ixN_0, Wp.ixN_1, Wp.ixN_2, Wp.itemsT, Wp.tyT, reduceIte, Wp.wFld, Wp.wFSet, Wp.wFAug, Wp.wMeth, Wp.wMake, Wp.rIxA, Wp.rInA, Wp.rSetA, Wp.ixA, Wp.inA, Wp.setA, Wp.lenA, Wp.getD, Option.map_some, Option.bind_some, Option.getD_some,  Wp.gIxA, Wp.wDNew, Wp.wDNewT, Wp.rLenA, Wp.rSortD, Wp.rMaxL, Wp.rPopL, Wp.rGet1, Wp.rGet2, Wp.wGet1, Wp.wGet2, Wp.wPop1, Wp.wPop2, Wp.wDel, Wp.isDT, Wp.keyT, Wp.keysT, Wp.keysL, Wp.ex_ins, Wp.ex_dct, Wp.wIf, Wp.rGt, Wp.rAddI, Int.cast_ofNat_Int, Int.reduceBEq, Wp.wMtN, Wp.rGetN, Wp.wTupVals, Wp.rSortN, Wp.rSortT, Wp.wDNewN, Wp.wDelN, Wp.wRevU, *])
local macro_rules | `(tactic| walk_at "r2") => `(tactic| repeat (first | walk_at "wq" | walk_at "go"))
local macro_rules | `(tactic| walk_at "w0") => `(tactic| simp (disch := omega) only [Wp.wSeq, Wp.wNext, Wp.wSet, Wp.wVar, Wp.wC, Wp.wOp, Wp.wRet, Wp.wIfS, Wp.wTest, Wp.wCall, Wp.wCons, Wp.wNil, Wp.wTup, Wp.wLst, Wp.wAsg, Wp.gTp, Wp.gC, Wp.gNm, Wp.gN0, Wp.gIx, Wp.rSet, Wp.rAdd, Wp.rMul, Wp.rMod, Wp.rSub, Wp.rFdiv, Wp.rPow, Wp.rInt, Wp.rIx, Wp.rLt, Wp.rLe, Wp.rCmp, Wp.rGeI, Wp.rGtI, Wp.wCB, Wp.rLen, Wp.rLen1, Wp.rInt1, Wp.rMax2, Wp.rMin2, Wp.rTupOf, Wp.rListOf,
  Wp.wIsi, Wp.rBIs, Wp.rIsN, Wp.isNon, Wp.wMt, Wp.rAppendT, Wp.rExtendT, Wp.rReverseT, Wp.wNot, Wp.wOr, Wp.wAnd, Wp.wAndV, Wp.wOrV, Wp.wNotV, Wp.wFor, Wp.iRg1, Wp.iRg2, Wp.iAnyW, Wp.wAll, Wp.wChain, Wp.wSl, Wp.wNoPart, Wp.wPart, Wp.rSl, Wp.wNeg, Wp.rNeg, Wp.wLc, Wp.wYes, Wp.wDrop, Wp.wipeT, Wp.wAug, List.map, List.set_cons_zero, List.set_cons_succ, List.getElem?_cons_zero, List.getElem?_cons_succ, List.length_cons, List.length_nil, List.cons_append, List.nil_append, List.replicate, Wp.startT,
  true_and, and_true, Wp.wif_true, Wp.wif_false, Wp.ex_some, Wp.ex_some1, Wp.ex_eq, Wp.ex_lst, Wp.ex_lst0, Wp.rEq_int, Bool.false_bne, Bool.true_bne, Int.reduceLT, Int.reduceLE, Int.reduceAdd, Nat.reduceAdd, Nat.reduceSub, eq_self, ite_true, ite_false, beq_self_eq_true, Bool.not_true, Bool.not_false, Wp.isB_0, Wp.isB_1, Wp.isB_2, Wp.isB_3, Wp.isB_4, Wp.isB_5, Wp.isB_6, Wp.isB_7, Wp.isB_8, Wp.isB_9, Wp.isB_10, Wp.isB_11, Wp.isB_12, Wp.isB_13, Wp.isB_14, Wp.isB_15, Wp.isB_16, Wp.isB_17, Wp.isB_18, Wp.isB_19, Wp.isB_20, Wp.isB_21, Wp.isB_22, Wp.isB_23, Wp.isB_24, Wp.isB_25, Wp.isB_26, Wp.isB_27, Wp.isB_28, Wp.isB_29, Wp.isB_30, Wp.isB_31, Wp.isB_32, Wp.isB_33, Wp.isB_34, Wp.isB_35, Wp.cmul_l, Wp.cmul_r, Wp.cpow_lit, Wp.size_le, Wp.size_lt, Wp.atI_0, Wp.atI_1, Wp.atI_2, Wp.atI_3, Wp.atI_4, Wp.atI_5, Wp.atI_6, Wp.ixN_0, Wp.ixN_1, Wp.ixN_2, Wp.itemsT, Wp.tyT, reduceIte, Wp.wFld, Wp.wFSet, Wp.wFAug, Wp.wMeth, Wp.wMake, Wp.rIxA, Wp.rInA, Wp.rSetA, Wp.ixA, Wp.inA, Wp.setA, Wp.lenA, Wp.getD, Option.map_some, Option.bind_some, Option.getD_some,  Wp.gIxA, Wp.wDNew, Wp.wDNewT, Wp.rLenA, Wp.rSortD, Wp.rMaxL, Wp.rPopL, Wp.rGet1, Wp.rGet2, Wp.wGet1, Wp.wGet2, Wp.wPop1, Wp.wPop2, Wp.wDel, Wp.isDT, Wp.keyT, Wp.keysT, Wp.keysL, Wp.ex_ins, Wp.ex_dct, Wp.wIf, Wp.rGt, Wp.rAddI, Int.cast_ofNat_Int, Int.reduceBEq, Wp.wMtN, Wp.rGetN, Wp.wTupVals, Wp.rSortN, Wp.rSortT, Wp.wDNewN, Wp.wDelN, Wp.wRevU])
local macro_rules | `(tactic| walk_at "r0") => `(tactic| repeat (first | walk_at "w0" | walk_at "go"))
/-! ### _law_due: a life of a flow -/
theorem rEq_is {neg : Bool} {a b : T} {S : Sta} {Q : T → Sta → Prop} (sa : see S a = a) (sb : see S b = b) (oa : okT a = true) (ob : okT b = true) (da : dqT a ≤ 50) (db : dqT b ≤ 50) (h : Q (.bl (neg != Wp.eqT a b)) S) : Wp.rEq neg a b S Q := by
  obtain ⟨d, c1, c2, c3, c4⟩ := ok_toD _ oa
  obtain ⟨e, d1, d2, d3, d4⟩ := ok_toD _ ob
  have ee : Wp.eqT a b = PyData.eqv d e := by unfold Wp.eqT; rw [c1, d1]
  rw [ee] at h
  refine ⟨d, by rw [dd_see, sa]; exact c1, e, by rw [dd_see, sb]; exact d1, ?_, ?_, h⟩
  · unfold SeqAt.shaped; rw [c2, Bool.true_and]; exact decide_eq_true (by omega)
  · unfold SeqAt.shaped; rw [d2, Bool.true_and]; exact decide_eq_true (by omega)
theorem eq_fl : ∀ p < 4, ∀ q < 4, Wp.eqT (flT p) (flT q) = decide (p = q) := by decide +kernel
theorem eq_lf : ∀ p < 4, ∀ q < 4, Wp.eqT (lfT p) (lfT q) = decide (p = q) := by decide +kernel
theorem ok_fl : ∀ p < 4, okT (flT p) = true ∧ dqT (flT p) ≤ 1 := by decide +kernel
theorem ok_lf : ∀ p < 4, okT (lfT p) = true ∧ dqT (lfT p) ≤ 1 := by decide +kernel
theorem fl_eq {i j : Nat} {S : Sta} {Q : T → Sta → Prop} (hi : i < 4) (hj : j < 4) (h : Q (.bl (decide (i = j))) S) : Wp.rEq false (flT i) (flT j) S Q := by
  obtain ⟨a1, a2⟩ := ok_fl i hi
  obtain ⟨b1, b2⟩ := ok_fl j hj
  refine rEq_is rfl rfl a1 b1 (by omega) (by omega) ?_
  rw [eq_fl i hi j hj, Bool.false_bne]; exact h
theorem lf_eq {i j : Nat} {S : Sta} {Q : T → Sta → Prop} (hi : i < 4) (hj : j < 4) (h : Q (.bl (decide (i = j))) S) : Wp.rEq false (lfT i) (lfT j) S Q := by
  obtain ⟨a1, a2⟩ := ok_lf i hi
  obtain ⟨b1, b2⟩ := ok_lf j hj
  refine rEq_is rfl rfl a1 b1 (by omega) (by omega) ?_
  rw [eq_lf i hi j hj, Bool.false_bne]; exact h
def mine (rows : List Rw) (f l : Nat) : List Rw := rows.filter fun r => decide (r.f = f) && decide (r.l = l)
def plcs (rows : List Rw) (f l : Nat) (m : Int) : List Nat := ((mine rows f l).filter fun r => r.e == m).map (·.p)
theorem mem_mine {rows : List Rw} {f l : Nat} {r : Rw} : r ∈ mine rows f l ↔ r ∈ rows ∧ r.f = f ∧ r.l = l := by
  unfold mine
  rw [List.mem_filter, Bool.and_eq_true, decide_eq_true_eq, decide_eq_true_eq]
theorem mem_plcs {rows : List Rw} {f l p : Nat} {m : Int} : p ∈ plcs rows f l m ↔ ∃ r ∈ rows, r.f = f ∧ r.l = l ∧ r.e = m ∧ r.p = p := by
  unfold plcs
  rw [List.mem_map]
  constructor
  · rintro ⟨r, hr, e⟩
    rw [List.mem_filter, mem_mine] at hr
    exact ⟨r, hr.1.1, hr.1.2.1, hr.1.2.2, by simpa using hr.2, e⟩
  · rintro ⟨r, h1, h2, h3, h4, h5⟩
    exact ⟨r, List.mem_filter.mpr ⟨mem_mine.mpr ⟨h1, h2, h3⟩, by simpa using h4⟩, h5⟩
structure TopM (rows : List Rw) (f l : Nat) (m : Int) : Prop where
  ex : ∃ r ∈ rows, r.f = f ∧ r.l = l ∧ r.e = m
  top : ∀ r ∈ rows, r.f = f → r.l = l → r.e ≤ m
theorem due_yes {rows : List Rw} {bs : List Nat} {f l p0 : Nat} {m : Int} (t : TopM rows f l m) (h0 : 0 ∉ plcs rows f l m) (hp : p0 ∈ plcs rows f l m) (hb : p0 ∈ bs) : Qu rows bs ⟨f, l, m, p0⟩ := by
  obtain ⟨r, h1, h2, h3, h4, h5⟩ := mem_plcs.mp hp
  have er : r = ⟨f, l, m, p0⟩ := Rw.ext' h2 h3 h4 h5
  refine ⟨⟨er ▸ h1, fun x hx s => t.top x hx s.1 s.2, fun x hx s e z => ?_⟩, hb⟩
  exact absurd (mem_plcs.mpr ⟨x, hx, s.1, s.2, e, z⟩) h0
theorem due_no {rows : List Rw} {bs : List Nat} {f l p0 : Nat} {m : Int} (fair : Fair rows) (t : TopM rows f l m) (hp : p0 ∈ plcs rows f l m) (hb0 : 0 ∉ bs) (h : ¬ (0 ∉ plcs rows f l m ∧ p0 ∈ bs)) : ∀ v, Qu rows bs v → v.f = f → v.l = l → False := fun v q hf hl => by
  have ev : v.e = m := by
    obtain ⟨r, h1, h2, h3, h4⟩ := t.ex
    have a := t.top v q.w.m hf hl
    have b := q.w.e r h1 ⟨h2.trans hf.symm, h3.trans hl.symm⟩
    omega
  have vp : v.p ≠ 0 := fun z => hb0 (z ▸ q.b)
  have n0 : 0 ∉ plcs rows f l m := fun z => by
    obtain ⟨r, h1, h2, h3, h4, h5⟩ := mem_plcs.mp z
    exact vp (q.w.p r h1 ⟨h2.trans hf.symm, h3.trans hl.symm⟩ (h4.trans ev.symm) h5)
  obtain ⟨r, h1, h2, h3, h4, h5⟩ := mem_plcs.mp hp
  have : r.p = v.p := fair r h1 v q.w.m ⟨h2.trans hf.symm, h3.trans hl.symm⟩ (h4.trans ev.symm) (fun z => n0 (mem_plcs.mpr ⟨r, h1, h2, h3, h4, z⟩)) vp
  exact h ⟨n0, by rw [← h5, this]; exact q.b⟩
def dueT : WS := (wIfS (wAnd (wTest (wOp (rInDu true) (wC T.non) (wVar 11))) (wTest (wOp (rInDu false) (wOp rIxA (wVar 11) (wC (T.int 0))) (wVar 1)))) (wSet 7 (wTup (wCons (wVar 6) (wCons (wVar 8) (wCons (wVar 10) (wCons (wOp rIxA (wVar 11) (wC (T.int 0))) wNil)))))) wNext)
section
variable {rr : Addr} {S : Sta} {D : WEnds} {rows : List Rw} {bs : List Nat} {f l : Nat} {v0 v3 v4 v5 v7 v9 v10 v11 : Option T}
theorem due_life (er : S rr = some (.lst (rows.map rwT))) (ok : okL rows) (hl : rows.length ≤ 200) (hf : f < 4) (hll : l < 4) (hb : ∀ b ∈ bs, b < 5) (has : ∃ r ∈ rows, r.f = f ∧ r.l = l)
    (yes : ∀ m p0 v9 v10 v11 S', TopM rows f l m → 0 ∉ plcs rows f l m → p0 ∈ plcs rows f l m → p0 ∈ bs → Wp.Gr S S' → D.nx [v0, some (.tup (bs.map plT)), some (.ref rr), v3, v4, v5, some (flT f), some (rwT ⟨f, l, m, p0⟩), some (lfT l), v9, v10, v11] S')
    (no : ∀ m p0 v9 v10 v11 S', TopM rows f l m → p0 ∈ plcs rows f l m → ¬ (0 ∉ plcs rows f l m ∧ p0 ∈ bs) → Wp.Gr S S' → D.nx [v0, some (.tup (bs.map plT)), some (.ref rr), v3, v4, v5, some (flT f), v7, some (lfT l), v9, v10, v11] S') :
    l10__law_due D [v0, some (.tup (bs.map plT)), some (.ref rr), v3, v4, v5, some (flT f), v7, some (lfT l), v9, v10, v11] S := by
  unfold l10__law_due
  refine goS_i ⟨.ref rr, rfl, _, er, ?_⟩
  intro q hq
  have nrq : rr ≠ q := fun z => by rw [z, hq] at er; cases er
  refine compW_on rwT rwT (fun r => decide (r.f = f) && decide (r.l = l)) (fun acc => by rw [upS_ne nrq]; exact er) rows [] (fun r hr acc R k => ?_) (fun r hr hc acc R k => ?_) (by show 0 + _ ≤ _; omega) ?_
  · have o := ok r hr
    unfold l5__law_due
    show wAnd (wTest (wOp (Wp.rEq false) (wOp rIxA (wVar 4) (wC (T.int 0))) (wVar 6))) (wTest (wOp (Wp.rEq false) (wOp rIxA (wVar 4) (wC (T.int 1))) (wVar 8))) [v0, some (T.tup (List.map plT bs)), some (T.ref rr), v3, some (rwT r), v5, some (flT f), v7, some (lfT l), v9, v10, v11] _ R
    unfold rwT
    walk_at "r0"
    refine fl_eq o.f hf ?_
    show wif (decide (r.f = f)) _ _
    refine if_dec (fun z => ?_) (fun z => ?_)
    · refine lf_eq o.l hll ?_
      rw [decide_eq_true z, Bool.true_and] at k
      exact k
    · rw [decide_eq_false z, Bool.false_and] at k
      exact k
  · exact ⟨_, rfl, k⟩
  · rw [List.nil_append]
    show goS _ [v0, some (T.tup (List.map plT bs)), some (T.ref rr), v3, v4, v5, some (flT f), v7, some (lfT l), some (.ref q), v10, v11] (upS S q (.lst ((mine rows f l).map rwT)))
    obtain ⟨S1, w1, g1, e1⟩ := al_ (o := .lst ((mine rows f l).map rwT)) hq
    rw [w1]
    have ml : (mine rows f l).length ≤ rows.length := List.length_filter_le _ _
    refine goS_i ⟨.ref q, rfl, _, e1, ?_⟩
    intro d1 hd1
    have nqd : q ≠ d1 := fun z => by rw [z, hd1] at e1; cases e1
    refine compW_on rwT (fun r => T.int r.e) (fun _ => true) (fun acc => by rw [upS_ne nqd]; exact e1) (mine rows f l) [] (fun r hr acc R k => k) (fun r hr hc acc R k => ?_) (by show 0 + _ ≤ _; omega) ?_
    · unfold l7__law_due
      show wOp rIxA (wVar 4) (wC (.int 2)) [v0, some (T.tup (List.map plT bs)), some (T.ref rr), v3, some (rwT r), v5, some (flT f), v7, some (lfT l), some (.ref q), v10, v11] _ R
      unfold rwT
      walk_at "r0"
      exact k
    · rw [List.nil_append, show ((mine rows f l).filter fun _ => true) = mine rows f l from List.filter_eq_self.mpr fun _ _ => rfl]
      obtain ⟨S2, w2, g2, e2⟩ := al_ (o := .lst ((mine rows f l).map fun r => T.int r.e)) hd1
      rw [w2]
      refine ⟨(mine rows f l).map (·.e), by rw [e2, List.map_map]; rfl, ?_, fun m hm hmax => ?_⟩
      · obtain ⟨r, h1, h2, h3⟩ := has
        rw [List.length_map]
        exact List.length_pos_of_mem (mem_mine.mpr ⟨h1, h2, h3⟩)
      · have tm : TopM rows f l m := by
          obtain ⟨r, hr, em⟩ := List.mem_map.mp hm
          obtain ⟨h1, h2, h3⟩ := mem_mine.mp hr
          exact ⟨⟨r, h1, h2, h3, em⟩, fun x hx hf' hl' => hmax _ (List.mem_map.mpr ⟨x, mem_mine.mpr ⟨hx, hf', hl'⟩, rfl⟩)⟩
        have e12 := g2 _ _ e1
        refine goS_i (goS_i ⟨.ref q, rfl, _, e12, ?_⟩)
        intro d2 hd2
        have nqd2 : q ≠ d2 := fun z => by rw [z, hd2] at e12; cases e12
        refine compW_on rwT (fun r => plT r.p) (fun r => r.e == m) (fun acc => by rw [upS_ne nqd2]; exact e12) (mine rows f l) [] (fun r hr acc R k => ?_) (fun r hr hc acc R k => ?_) (by show 0 + _ ≤ _; omega) ?_
        · unfold l8__law_due
          show wTest (wOp (Wp.rEq false) (wOp rIxA (wVar 4) (wC (.int 2))) (wVar 10)) [v0, some (T.tup (List.map plT bs)), some (T.ref rr), v3, some (rwT r), v5, some (flT f), v7, some (lfT l), some (.ref q), some (.int m), v11] _ R
          unfold rwT
          walk_at "r0"
          exact k
        · unfold l9__law_due
          show wOp rIxA (wVar 4) (wC (.int 3)) [v0, some (T.tup (List.map plT bs)), some (T.ref rr), v3, some (rwT r), v5, some (flT f), v7, some (lfT l), some (.ref q), some (.int m), v11] _ R
          unfold rwT
          walk_at "r0"
          exact k
        · rw [List.nil_append, show ((mine rows f l).filter fun r => r.e == m).map (fun r => plT r.p) = (plcs rows f l m).map plT by unfold plcs; rw [List.map_map]; rfl]
          obtain ⟨S3, w3, g3, e3⟩ := al_ (o := .lst ((plcs rows f l m).map plT)) hd2
          rw [w3]
          have gg : Wp.Gr S S3 := fun x o e => g3 _ _ (g2 _ _ (g1 _ _ e))
          have pb : ∀ p ∈ plcs rows f l m, p < 5 := fun p hp => by
            obtain ⟨r, h1, _, _, _, h5⟩ := mem_plcs.mp hp
            rw [← h5]; exact (ok r h1).p
          obtain ⟨p0, ps, eps⟩ : ∃ p0 ps, plcs rows f l m = p0 :: ps := by
            obtain ⟨r, h1, h2, h3, h4⟩ := tm.ex
            have : r.p ∈ plcs rows f l m := mem_plcs.mpr ⟨r, h1, h2, h3, h4, rfl⟩
            cases e : plcs rows f l m with
            | nil => rw [e] at this; cases this
            | cons a b => exact ⟨a, b, rfl⟩
          have hp0 : p0 ∈ plcs rows f l m := by rw [eps]; exact List.mem_cons_self
          obtain ⟨b1, b2⟩ := okTs_pl (plcs rows f l m) pb
          refine goS_i (goS_i ?_)
          show dueT D [v0, some (T.tup (List.map plT bs)), some (T.ref rr), v3, v4, v5, some (flT f), v7, some (lfT l), some (T.ref q), some (.int m), some (.ref d2)] S3
          unfold dueT
          walk_at "r0"
          refine rInDu_is (ts := (plcs rows f l m).map plT) (.inl (see_ref e3)) rfl b1 (by show 0 ≤ 50; omega) (by omega) ?_
          have a0 := any_pl (p := 0) (by decide) (plcs rows f l m) pb
          show wif (true != ((plcs rows f l m).map plT).any fun z => Wp.eqT z (plT 0)) _ _
          rw [a0, Bool.true_bne]
          by_cases z0 : 0 ∈ plcs rows f l m
          · rw [decide_eq_true z0]
            exact wif_f (goS_i (no m p0 _ _ _ S3 tm hp0 (fun y => y.1 z0) gg))
          · rw [decide_eq_false z0]
            have e30 : S3 d2 = some (.lst (plT p0 :: ps.map plT)) := by rw [e3, eps]; rfl
            refine wif_t ⟨plT p0, by simp only [e30, atI_0]; rfl, in_births (pb p0 hp0) hb ?_⟩
            show wif (false != decide (p0 ∈ bs)) _ _
            rw [Bool.false_bne]
            refine if_dec (fun zb => ?_) (fun zb => goS_i (no m p0 _ _ _ S3 tm hp0 (fun y => zb y.2) gg))
            refine ⟨plT p0, by simp only [e30, atI_0]; rfl, goS_i ?_⟩
            exact yes m p0 _ _ _ S3 tm z0 hp0 zb gg
end
end My

set_option Elab.async false
set_option linter.all false
set_option maxRecDepth 100000
set_option maxHeartbeats 8000000
namespace My
open PySem PySem.Spec PyProof.Rows L2 Wp Gn
local macro_rules | `(tactic| walk_at "go") => `(tactic| (with_reducible refine goS_i ?_))
local macro_rules | `(tactic| walk_at "wp") => `(tactic| simp (disch := omega) only [Wp.wSeq, Wp.wNext, Wp.wSet, Wp.wVar, Wp.wC, Wp.wOp, Wp.wRet, Wp.wIfS, Wp.wTest, Wp.wCall, Wp.wCons, Wp.wNil, Wp.wTup, Wp.wLst, Wp.wAsg, Wp.gTp, Wp.gC, Wp.gNm, Wp.gN0, Wp.gIx, Wp.rSet, Wp.rAdd, Wp.rMul, Wp.rMod, Wp.rSub, Wp.rFdiv, Wp.rPow, Wp.rInt, Wp.rIx, Wp.rLt, Wp.rLe, Wp.rCmp, Wp.rGeI, Wp.rGtI, Wp.wCB, Wp.rLen, Wp.rLen1, Wp.rInt1, Wp.rMax2, Wp.rMin2, Wp.rTupOf, Wp.rListOf,
  Wp.wIsi, Wp.rBIs, Wp.rIsN, Wp.isNon, Wp.wMt, Wp.rAppendT, Wp.rExtendT, Wp.rReverseT, Wp.wNot, Wp.wOr, Wp.wAnd, Wp.wAndV, Wp.wOrV, Wp.wNotV, Wp.wFor, Wp.iRg1, Wp.iRg2, Wp.iAnyW, Wp.wAll, Wp.wChain, Wp.wSl, Wp.wNoPart, Wp.wPart, Wp.rSl, Wp.wNeg, Wp.rNeg, Wp.wLc, Wp.wYes, Wp.wDrop, Wp.wipeT, Wp.wAug, List.map, List.set_cons_zero, List.set_cons_succ, List.getElem?_cons_zero, List.getElem?_cons_succ, List.length_cons, List.length_nil, List.cons_append, List.nil_append, List.replicate, Wp.startT,
  true_and, and_true, Wp.wif_true, Wp.wif_false, Wp.ex_some, Wp.ex_some1, Wp.ex_eq, Wp.ex_lst, Wp.ex_lst0, Wp.rEq_int, Bool.false_bne, Bool.true_bne, Int.reduceLT, Int.reduceLE, Int.reduceAdd, Nat.reduceAdd, Nat.reduceSub, eq_self, ite_true, ite_false, beq_self_eq_true, Bool.not_true, Bool.not_false, Wp.isB_0, Wp.isB_1, Wp.isB_2, Wp.isB_3, Wp.isB_4, Wp.isB_5, Wp.isB_6, Wp.isB_7, Wp.isB_8, Wp.isB_9, Wp.isB_10, Wp.isB_11, Wp.isB_12, Wp.isB_13, Wp.isB_14, Wp.isB_15, Wp.isB_16, Wp.isB_17, Wp.isB_18, Wp.isB_19, Wp.isB_20, Wp.isB_21, Wp.isB_22, Wp.isB_23, Wp.isB_24, Wp.isB_25, Wp.isB_26, Wp.isB_27, Wp.isB_28, Wp.isB_29, Wp.isB_30, Wp.isB_31, Wp.isB_32, Wp.isB_33, Wp.isB_34, Wp.isB_35, Wp.cmul_l, Wp.cmul_r, Wp.cpow_lit, Wp.size_le, Wp.size_lt, Wp.atI_0, Wp.atI_1, Wp.atI_2, Wp.atI_3, Wp.atI_4, Wp.atI_5, Wp.atI_6, Wp.ixN_0, Wp.ixN_1, Wp.ixN_2, Wp.itemsT, Wp.tyT, reduceIte, Wp.wFld, Wp.wFSet, Wp.wFAug, Wp.wMeth, Wp.wMake, Wp.rIxA, Wp.rInA, Wp.rSetA, Wp.ixA, Wp.inA, Wp.setA, Wp.lenA, Wp.getD, Option.map_some, Option.bind_some, Option.getD_some,  Wp.gIxA, Wp.wDNew, Wp.wDNewT, Wp.rLenA, Wp.rSortD, Wp.rMaxL, Wp.rPopL, Wp.rGet1, Wp.rGet2, Wp.wGet1, Wp.wGet2, Wp.wPop1, Wp.wPop2, Wp.wDel, Wp.isDT, Wp.keyT, Wp.keysT, Wp.keysL, Wp.ex_ins, Wp.ex_dct, Wp.wIf, Wp.rGt, Wp.rAddI, Int.cast_ofNat_Int, Int.reduceBEq, Wp.wMtN, Wp.rGetN, Wp.wTupVals, Wp.rSortN, Wp.rSortT, Wp.wDNewN, Wp.wDelN, Wp.wRevU, Wp.upS, Wp.upS_upS, *])
local macro_rules | `(tactic| walk_at "run") => `(tactic| repeat (first | walk_at "wp" | walk_at "go"))
local macro_rules | `(tactic| walk_at "wq") => `(tactic| simp (disch := omega) only [Wp.wSeq, Wp.wNext, Wp.wSet, Wp.wVar, Wp.wC, Wp.wOp, Wp.wRet, Wp.wIfS, Wp.wTest, Wp.wCall, Wp.wCons, Wp.wNil, Wp.wTup, Wp.wLst, Wp.wAsg, Wp.gTp, Wp.gC, Wp.gNm, Wp.gN0, Wp.gIx, Wp.rSet, Wp.rAdd, Wp.rMul, Wp.rMod, Wp.rSub, Wp.rFdiv, Wp.rPow, Wp.rInt, Wp.rIx, Wp.rLt, Wp.rLe, Wp.rCmp, Wp.rGeI, Wp.rGtI, Wp.wCB, Wp.rLen, Wp.rLen1, Wp.rInt1, Wp.rMax2, Wp.rMin2, Wp.rTupOf, Wp.rListOf,
  Wp.wIsi, Wp.rBIs, Wp.rIsN, Wp.isNon, Wp.wMt, Wp.rAppendT, Wp.rExtendT, Wp.rReverseT, Wp.wNot, Wp.wOr, Wp.wAnd, Wp.wAndV, Wp.wOrV, Wp.wNotV, Wp.wFor, Wp.iRg1, Wp.iRg2, Wp.iAnyW, Wp.wAll, Wp.wChain, Wp.wSl, Wp.wNoPart, Wp.wPart, Wp.rSl, Wp.wNeg, Wp.rNeg, Wp.wLc, Wp.wYes, Wp.wDrop, Wp.wipeT, Wp.wAug, List.map, List.set_cons_zero, List.set_cons_succ, List.getElem?_cons_zero, List.getElem?_cons_succ, List.length_cons, List.length_nil, List.cons_append, List.nil_append, List.replicate, Wp.startT,
  true_and, and_true, Wp.wif_true, Wp.wif_false, Wp.ex_some, Wp.ex_some1, Wp.ex_eq, Wp.ex_lst, Wp.ex_lst0, Wp.rEq_int, Bool.false_bne, Bool.true_bne, Int.reduceLT, Int.reduceLE, Int.reduceAdd, Nat.reduceAdd, Nat.reduceSub, eq_self, ite_true, ite_false, beq_self_eq_true, Bool.not_true, Bool.not_false, Wp.isB_0, Wp.isB_1, Wp.isB_2, Wp.isB_3, Wp.isB_4, Wp.isB_5, Wp.isB_6, Wp.isB_7, Wp.isB_8, Wp.isB_9, Wp.isB_10, Wp.isB_11, Wp.isB_12, Wp.isB_13, Wp.isB_14, Wp.isB_15, Wp.isB_16, Wp.isB_17, Wp.isB_18, Wp.isB_19, Wp.isB_20, Wp.isB_21, Wp.isB_22, Wp.isB_23, Wp.isB_24, Wp.isB_25, Wp.isB_26, Wp.isB_27, Wp.isB_28, Wp.isB_29, Wp.isB_30, Wp.isB_31, Wp.isB_32, Wp.isB_33, Wp.isB_34, Wp.isB_35, Wp.cmul_l, Wp.cmul_r, Wp.cpow_lit, Wp.size_le, Wp.size_lt, Wp.atI_0, Wp.atI_1, Wp.atI_2, Wp.atI_3, Wp.atI_4, Wp.atI_5, Wp.atI_6, Wp.ixN_0, Wp.ixN_1, Wp.ixN_2, Wp.itemsT, Wp.tyT, reduceIte, Wp.wFld, Wp.wFSet, Wp.wFAug, Wp.wMeth, Wp.wMake, Wp.rIxA, Wp.rInA, Wp.rSetA, Wp.ixA, Wp.inA, Wp.setA, Wp.lenA, Wp.getD, Option.map_some, Option.bind_some, Option.getD_some,  Wp.gIxA, Wp.wDNew, Wp.wDNewT, Wp.rLenA, Wp.rSortD, Wp.rMaxL, Wp.rPopL, Wp.rGet1, Wp.rGet2, Wp.wGet1, Wp.wGet2, Wp.wPop1, Wp.wPop2, Wp.wDel, Wp.isDT, Wp.keyT, Wp.keysT, Wp.keysL, Wp.ex_ins, Wp.ex_dct, Wp.wIf, Wp.rGt, Wp.rAddI, Int.cast_ofNat_Int, Int.reduceBEq, Wp.wMtN, Wp.rGetN, Wp.wTupVals, Wp.rSortN, Wp.rSortT, Wp.wDNewN, Wp.wDelN, Wp.wRevU, *])
local macro_rules | `(tactic| walk_at "r2") => `(tactic| repeat (first | walk_at "wq" | walk_at "go"))
local macro_rules | `(tactic| walk_at "w0") => `(tactic| simp (disch := omega) only [Wp.wSeq, Wp.wNext, Wp.wSet, Wp.wVar, Wp.wC, Wp.wOp, Wp.wRet, Wp.wIfS, Wp.wTest, Wp.wCall, Wp.wCons, Wp.wNil, Wp.wTup, Wp.wLst, Wp.wAsg, Wp.gTp, Wp.gC, Wp.gNm, Wp.gN0, Wp.gIx, Wp.rSet, Wp.rAdd, Wp.rMul, Wp.rMod, Wp.rSub, Wp.rFdiv, Wp.rPow, Wp.rInt, Wp.rIx, Wp.rLt, Wp.rLe, Wp.rCmp, Wp.rGeI, Wp.rGtI, Wp.wCB, Wp.rLen, Wp.rLen1, Wp.rInt1, Wp.rMax2, Wp.rMin2, Wp.rTupOf, Wp.rListOf,
  Wp.wIsi, Wp.rBIs, Wp.rIsN, Wp.isNon, Wp.wMt, Wp.rAppendT, Wp.rExtendT, Wp.rReverseT, Wp.wNot, Wp.wOr, Wp.wAnd, Wp.wAndV, Wp.wOrV, Wp.wNotV, Wp.wFor, Wp.iRg1, Wp.iRg2, Wp.iAnyW, Wp.wAll, Wp.wChain, Wp.wSl, Wp.wNoPart, Wp.wPart, Wp.rSl, Wp.wNeg, Wp.rNeg, Wp.wLc, Wp.wYes, Wp.wDrop, Wp.wipeT, Wp.wAug, List.map, List.set_cons_zero, List.set_cons_succ, List.getElem?_cons_zero, List.getElem?_cons_succ, List.length_cons, List.length_nil, List.cons_append, List.nil_append, List.replicate, Wp.startT,
  true_and, and_true, Wp.wif_true, Wp.wif_false, Wp.ex_some, Wp.ex_some1, Wp.ex_eq, Wp.ex_lst, Wp.ex_lst0, Wp.rEq_int, Bool.false_bne, Bool.true_bne, Int.reduceLT, Int.reduceLE, Int.reduceAdd, Nat.reduceAdd, Nat.reduceSub, eq_self, ite_true, ite_false, beq_self_eq_true, Bool.not_true, Bool.not_false, Wp.isB_0, Wp.isB_1, Wp.isB_2, Wp.isB_3, Wp.isB_4, Wp.isB_5, Wp.isB_6, Wp.isB_7, Wp.isB_8, Wp.isB_9, Wp.isB_10, Wp.isB_11, Wp.isB_12, Wp.isB_13, Wp.isB_14, Wp.isB_15, Wp.isB_16, Wp.isB_17, Wp.isB_18, Wp.isB_19, Wp.isB_20, Wp.isB_21, Wp.isB_22, Wp.isB_23, Wp.isB_24, Wp.isB_25, Wp.isB_26, Wp.isB_27, Wp.isB_28, Wp.isB_29, Wp.isB_30, Wp.isB_31, Wp.isB_32, Wp.isB_33, Wp.isB_34, Wp.isB_35, Wp.cmul_l, Wp.cmul_r, Wp.cpow_lit, Wp.size_le, Wp.size_lt, Wp.atI_0, Wp.atI_1, Wp.atI_2, Wp.atI_3, Wp.atI_4, Wp.atI_5, Wp.atI_6, Wp.ixN_0, Wp.ixN_1, Wp.ixN_2, Wp.itemsT, Wp.tyT, reduceIte, Wp.wFld, Wp.wFSet, Wp.wFAug, Wp.wMeth, Wp.wMake, Wp.rIxA, Wp.rInA, Wp.rSetA, Wp.ixA, Wp.inA, Wp.setA, Wp.lenA, Wp.getD, Option.map_some, Option.bind_some, Option.getD_some,  Wp.gIxA, Wp.wDNew, Wp.wDNewT, Wp.rLenA, Wp.rSortD, Wp.rMaxL, Wp.rPopL, Wp.rGet1, Wp.rGet2, Wp.wGet1, Wp.wGet2, Wp.wPop1, Wp.wPop2, Wp.wDel, Wp.isDT, Wp.keyT, Wp.keysT, Wp.keysL, Wp.ex_ins, Wp.ex_dct, Wp.wIf, Wp.rGt, Wp.rAddI, Int.cast_ofNat_Int, Int.reduceBEq, Wp.wMtN, Wp.rGetN, Wp.wTupVals, Wp.rSortN, Wp.rSortT, Wp.wDNewN, Wp.wDelN, Wp.wRevU])
local macro_rules | `(tactic| walk_at "r0") => `(tactic| repeat (first | walk_at "w0" | walk_at "go"))
/-! ### _law_due: a flow, all flows -/
def bT : Option Rw → T
  | none => .non
  | some v => rwT v
structure BI (rs : List Rw) (bs : List Nat) (f : Nat) (seen : List Nat) (best : Option Rw) : Prop where
  yes : ∀ v, best = some v → Qu rs bs v ∧ v.f = f ∧ v.l < 4 ∧ v.p < 5 ∧ ∀ v', Qu rs bs v' → v'.f = f → v'.l ∈ seen → v'.l ≤ v.l
  no : best = none → ∀ v', Qu rs bs v' → v'.f = f → v'.l ∉ seen
def livs (rows : List Rw) (f : Nat) : List Nat := (rows.filter fun r => decide (r.f = f)).map (·.l)
theorem mem_livs {rows : List Rw} {f l : Nat} : l ∈ livs rows f ↔ ∃ r ∈ rows, r.f = f ∧ r.l = l := by
  unfold livs
  rw [List.mem_map]
  constructor
  · rintro ⟨r, hr, e⟩
    rw [List.mem_filter, decide_eq_true_eq] at hr
    exact ⟨r, hr.1, hr.2, e⟩
  · rintro ⟨r, h1, h2, h3⟩
    exact ⟨r, List.mem_filter.mpr ⟨h1, by rw [h2]; simp⟩, h3⟩
def slv (ls : List Nat) : List Nat := ls.mergeSort fun a b => decide (a ≤ b)
theorem slv_mem {ls : List Nat} {x : Nat} : x ∈ slv ls ↔ x ∈ ls := (List.mergeSort_perm ls _).mem_iff
theorem slv_pw {ls : List Nat} : (slv ls).Pairwise (· ≤ ·) := by
  have := List.pairwise_mergeSort (le := fun a b : Nat => decide (a ≤ b)) (fun a b c h1 h2 => by simp only [decide_eq_true_eq] at *; omega) (fun a b => by simp only [Bool.or_eq_true, decide_eq_true_eq]; omega) ls
  exact this.imp fun {a b} h => by simpa using h
theorem slv_map {ls : List Nat} (h : ∀ l ∈ ls, l < 4) : (ls.map lfT).mergeSort leT = (slv ls).map lfT := (List.map_mergeSort fun a ha b hb => (le_lives a (h a ha) b (h b hb)).symm).symm
theorem srt_lives (ls : List Nat) : Srt (ls.map lfT) := by
  refine ⟨?_, ?_, ?_, fun t ht => ?_⟩
  · induction ls with
    | nil => rfl
    | cons r c ih => rw [List.map_cons, plainDs, ih]; rfl
  · rw [List.map_map]
    exact PySem.W.AllAlike.of fun a b => rfl
  · rw [List.map_map]
    exact PySem.W.Sortable.tuples fun a => ⟨_, _, rfl⟩
  · obtain ⟨r, _, rfl⟩ := List.mem_map.mp ht
    show PyData.depth (.tuple [.int _, .int _, .int _]) ≤ 16
    simp [PyData.depth, PyData.depthAll]
section
variable {rr fo : Addr} {S : Sta} {D : WEnds} {rows found : List Rw} {bs : List Nat} {f : Nat} {v0 v3 v4 v7 v8 v9 v10 v11 : Option T}
theorem due_flow (er : S rr = some (.lst (rows.map rwT))) (efo : S fo = some (.lst (found.map rwT))) (fl : found.length ≤ 10) (nrf : rr ≠ fo) (ok : okL rows) (hl : rows.length ≤ 200) (hf : f < 4) (hb : ∀ b ∈ bs, b < 5) (hb0 : 0 ∉ bs) (fair : Fair rows)
    (nx : ∀ best v4 v7 v8 v9 v10 v11 S', BI rows bs f (livs rows f) best → (∀ x o, S x = some o → x ≠ fo → S' x = some o) → S' fo = some (.lst ((found ++ best.toList).map rwT)) → D.nx [v0, some (.tup (bs.map plT)), some (.ref rr), v3, v4, some (.ref fo), some (flT f), v7, v8, v9, v10, v11] S') :
    l11__law_due D [v0, some (.tup (bs.map plT)), some (.ref rr), v3, v4, some (.ref fo), some (flT f), v7, v8, v9, v10, v11] S := by
  unfold l11__law_due
  refine goS_i (goS_i ⟨.ref rr, rfl, _, er, ?_⟩)
  intro q hq
  have nrq : rr ≠ q := fun z => by rw [z, hq] at er; cases er
  refine compW_on rwT (fun r => lfT r.l) (fun r => decide (r.f = f)) (fun acc => by rw [upS_ne nrq]; exact er) rows [] (fun r hr acc R k => ?_) (fun r hr hc acc R k => ?_) (by show 0 + _ ≤ _; omega) ?_
  · unfold l3__law_due
    show wTest (wOp (Wp.rEq false) (wOp rIxA (wVar 4) (wC (.int 0))) (wVar 6)) [v0, some (T.tup (List.map plT bs)), some (T.ref rr), v3, some (rwT r), some (.ref fo), some (flT f), some .non, v8, v9, v10, v11] _ R
    unfold rwT
    walk_at "r0"
    exact fl_eq (ok r hr).f hf k
  · unfold l4__law_due
    show wOp rIxA (wVar 4) (wC (.int 1)) [v0, some (T.tup (List.map plT bs)), some (T.ref rr), v3, some (rwT r), some (.ref fo), some (flT f), some .non, v8, v9, v10, v11] _ R
    unfold rwT
    walk_at "r0"
    exact k
  · rw [List.nil_append, show ((rows.filter fun r => decide (r.f = f)).map fun r => lfT r.l) = (livs rows f).map lfT by unfold livs; rw [List.map_map]; rfl]
    obtain ⟨S1, w1, g1, e1⟩ := al_ (o := .lst ((livs rows f).map lfT)) hq
    rw [w1]
    have lv4 : ∀ l ∈ livs rows f, l < 4 := fun l hl' => by
      obtain ⟨r, h1, _, h3⟩ := mem_livs.mp hl'
      rw [← h3]; exact (ok r h1).l
    refine ⟨_, e1, srt_lives _, fun s hs => ⟨_, upS_same, ?_⟩⟩
    rw [slv_map lv4]
    obtain ⟨S2, w2, g2, e2⟩ := al_ (o := .lst ((slv (livs rows f)).map lfT)) hs
    rw [w2]
    have g12 : Wp.Gr S S2 := fun x o e => g2 _ _ (g1 _ _ e)
    refine loop_inv (fun i σ S' => ∃ best v4 v8 v9 v10 v11, σ = [v0, some (.tup (bs.map plT)), some (.ref rr), v3, v4, some (.ref fo), some (flT f), some (bT best), v8, v9, v10, v11] ∧ Wp.Gr S2 S' ∧ BI rows bs f ((slv (livs rows f)).take i) best)
      ⟨none, _, _, _, _, _, rfl, fun _ _ e => e, ⟨fun v e => (by cases e), fun _ v' _ _ h => (by cases h)⟩⟩ (fun i σ S' ⟨_, _, _, _, _, _, _, g, _⟩ => g _ _ e2) (fun i x σ S3 LP hx hI nx1 => ?_) (fun σ S3 hI => ?_)
    · obtain ⟨best, u4, u8, u9, u10, u11, rfl, g3, bi⟩ := hI
      rw [List.getElem?_map] at hx
      cases el : (slv (livs rows f))[i]? with
      | none => rw [el] at hx; cases hx
      | some l =>
        rw [el] at hx
        obtain rfl : lfT l = x := Option.some.inj hx
        have hi : i < (slv (livs rows f)).length := (List.getElem?_eq_some_iff.mp el).1
        have lm : l ∈ livs rows f := slv_mem.mp (List.mem_of_getElem? el)
        have lt4 := lv4 l lm
        have tk1 : (slv (livs rows f)).take (i + 1) = (slv (livs rows f)).take i ++ [l] := by rw [List.take_add_one, el]; rfl
        have le : ∀ x ∈ (slv (livs rows f)).take i, x ≤ l := fun x hx => by
          obtain ⟨k, hk, ek⟩ := List.getElem_of_mem hx
          rw [List.length_take] at hk
          rw [List.getElem_take] at ek
          have hk2 : k < (slv (livs rows f)).length := by omega
          have := List.pairwise_iff_getElem.mp (slv_pw (ls := livs rows f)) k i hk2 hi (by omega)
          rw [List.getElem?_eq_getElem hi] at el
          rw [ek, Option.some.inj el] at this
          exact this
        have er3 := g3 _ _ (g12 _ _ er)
        refine due_life er3 ok hl hf lt4 hb (mem_livs.mp lm) (fun m p0 v9 v10 v11 S' tm n0 hp hpb g => ?_) (fun m p0 v9 v10 v11 S' tm hp hn g => ?_)
        · refine nx1 _ _ ⟨some ⟨f, l, m, p0⟩, _, _, _, _, _, rfl, fun x o e => g _ _ (g3 _ _ e), ⟨fun v e => ?_, fun e => (by cases e)⟩⟩
          cases e
          refine ⟨due_yes tm n0 hp hpb, rfl, lt4, hb p0 hpb, fun v' q' f' h' => ?_⟩
          rw [tk1] at h'
          rcases List.mem_append.mp h' with h' | h'
          · exact le _ h'
          · have : v'.l = l := by simpa using h'
            show v'.l ≤ l
            omega
        · have dn := due_no fair tm hp hb0 hn
          refine nx1 _ _ ⟨best, _, _, _, _, _, rfl, fun x o e => g _ _ (g3 _ _ e), ⟨fun v e => ?_, fun e v' q' f' h' => ?_⟩⟩
          · obtain ⟨a1, a2, a3, a4, a5⟩ := bi.yes v e
            refine ⟨a1, a2, a3, a4, fun v' q' f' h' => ?_⟩
            rw [tk1] at h'
            rcases List.mem_append.mp h' with h' | h'
            · exact a5 v' q' f' h'
            · exact (dn v' q' f' (by simpa using h')).elim
          · rw [tk1] at h'
            rcases List.mem_append.mp h' with h' | h'
            · exact bi.no e v' q' f' h'
            · exact dn v' q' f' (by simpa using h')
    · obtain ⟨best, u4, u8, u9, u10, u11, rfl, g3, bi⟩ := hI
      rw [List.length_map, List.take_length] at bi
      have bi' : BI rows bs f (livs rows f) best := ⟨fun v e => by
        obtain ⟨a1, a2, a3, a4, a5⟩ := bi.yes v e
        exact ⟨a1, a2, a3, a4, fun v' q' f' h' => a5 v' q' f' (slv_mem.mpr h')⟩, fun e v' q' f' h' => bi.no e v' q' f' (slv_mem.mpr h')⟩
      have ef3 := g3 _ _ (g12 _ _ efo)
      have gg : ∀ x o, S x = some o → S3 x = some o := fun x o e => g3 _ _ (g12 _ _ e)
      cases best with
      | none =>
        show (wIfS (wTest (wOp (rIsN true) (wVar 7) (wC .non))) (wDrop (wMt rAppendT (wVar 5) (wCons (wVar 7) wNil))) wNext) D [v0, some (.tup (bs.map plT)), some (.ref rr), v3, u4, some (.ref fo), some (flT f), some .non, u8, u9, u10, u11] S3
        walk_at "r0"
        refine nx none _ _ _ _ _ _ S3 bi' (fun x o e _ => gg x o e) ?_
        rw [show (none : Option Rw).toList = [] from rfl, List.append_nil]
        exact ef3
      | some v =>
        show (wIfS (wTest (wOp (rIsN true) (wVar 7) (wC .non))) (wDrop (wMt rAppendT (wVar 5) (wCons (wVar 7) wNil))) wNext) D [v0, some (.tup (bs.map plT)), some (.ref rr), v3, u4, some (.ref fo), some (flT f), some (.tup [flT v.f, lfT v.l, .int v.e, plT v.p]), u8, u9, u10, u11] S3
        walk_at "r0"
        refine ⟨⟨_, ef3⟩, _, ef3, by rw [List.length_map, sizeLine_eq]; omega, goS_i ?_⟩
        refine nx (some v) _ _ _ _ _ _ (upS S3 fo _) bi' (fun x o e n => by rw [upS_ne n]; exact gg x o e) ?_
        rw [upS_same, List.map_append]
        rfl
end
end My

set_option Elab.async false
set_option linter.all false
set_option maxRecDepth 100000
set_option maxHeartbeats 8000000
namespace My
open PySem PySem.Spec PyProof.Rows L2 Wp Gn
local macro_rules | `(tactic| walk_at "go") => `(tactic| (with_reducible refine goS_i ?_))
local macro_rules | `(tactic| walk_at "wp") => `(tactic| simp (disch := omega) only [Wp.wSeq, Wp.wNext, Wp.wSet, Wp.wVar, Wp.wC, Wp.wOp, Wp.wRet, Wp.wIfS, Wp.wTest, Wp.wCall, Wp.wCons, Wp.wNil, Wp.wTup, Wp.wLst, Wp.wAsg, Wp.gTp, Wp.gC, Wp.gNm, Wp.gN0, Wp.gIx, Wp.rSet, Wp.rAdd, Wp.rMul, Wp.rMod, Wp.rSub, Wp.rFdiv, Wp.rPow, Wp.rInt, Wp.rIx, Wp.rLt, Wp.rLe, Wp.rCmp, Wp.rGeI, Wp.rGtI, Wp.wCB, Wp.rLen, Wp.rLen1, Wp.rInt1, Wp.rMax2, Wp.rMin2, Wp.rTupOf, Wp.rListOf,
  Wp.wIsi, Wp.rBIs, Wp.rIsN, Wp.isNon, Wp.wMt, Wp.rAppendT, Wp.rExtendT, Wp.rReverseT, Wp.wNot, Wp.wOr, Wp.wAnd, Wp.wAndV, Wp.wOrV, Wp.wNotV, Wp.wFor, Wp.iRg1, Wp.iRg2, Wp.iAnyW, Wp.wAll, Wp.wChain, Wp.wSl, Wp.wNoPart, Wp.wPart, Wp.rSl, Wp.wNeg, Wp.rNeg, Wp.wLc, Wp.wYes, Wp.wDrop, Wp.wipeT, Wp.wAug, List.map, List.set_cons_zero, List.set_cons_succ, List.getElem?_cons_zero, List.getElem?_cons_succ, List.length_cons, List.length_nil, List.cons_append, List.nil_append, List.replicate, Wp.startT,
  true_and, and_true, Wp.wif_true, Wp.wif_false, Wp.ex_some, Wp.ex_some1, Wp.ex_eq, Wp.ex_lst, Wp.ex_lst0, Wp.rEq_int, Bool.false_bne, Bool.true_bne, Int.reduceLT, Int.reduceLE, Int.reduceAdd, Nat.reduceAdd, Nat.reduceSub, eq_self, ite_true, ite_false, beq_self_eq_true, Bool.not_true, Bool.not_false, Wp.isB_0, Wp.isB_1, Wp.isB_2, Wp.isB_3, Wp.isB_4, Wp.isB_5, Wp.isB_6, Wp.isB_7, Wp.isB_8, Wp.isB_9, Wp.isB_10, Wp.isB_11, Wp.isB_12, Wp.isB_13, Wp.isB_14, Wp.isB_15, Wp.isB_16, Wp.isB_17, Wp.isB_18, Wp.isB_19, Wp.isB_20, Wp.isB_21, Wp.isB_22, Wp.isB_23, Wp.isB_24, Wp.isB_25, Wp.isB_26, Wp.isB_27, Wp.isB_28, Wp.isB_29, Wp.isB_30, Wp.isB_31, Wp.isB_32, Wp.isB_33, Wp.isB_34, Wp.isB_35, Wp.cmul_l, Wp.cmul_r, Wp.cpow_lit, Wp.size_le, Wp.size_lt, Wp.atI_0, Wp.atI_1, Wp.atI_2, Wp.atI_3, Wp.atI_4, Wp.atI_5, Wp.atI_6, Wp.ixN_0, Wp.ixN_1, Wp.ixN_2, Wp.itemsT, Wp.tyT, reduceIte, Wp.wFld, Wp.wFSet, Wp.wFAug, Wp.wMeth, Wp.wMake, Wp.rIxA, Wp.rInA, Wp.rSetA, Wp.ixA, Wp.inA, Wp.setA, Wp.lenA, Wp.getD, Option.map_some, Option.bind_some, Option.getD_some,  Wp.gIxA, Wp.wDNew, Wp.wDNewT, Wp.rLenA, Wp.rSortD, Wp.rMaxL, Wp.rPopL, Wp.rGet1, Wp.rGet2, Wp.wGet1, Wp.wGet2, Wp.wPop1, Wp.wPop2, Wp.wDel, Wp.isDT, Wp.keyT, Wp.keysT, Wp.keysL, Wp.ex_ins, Wp.ex_dct, Wp.wIf, Wp.rGt, Wp.rAddI, Int.cast_ofNat_Int, Int.reduceBEq, Wp.wMtN, Wp.rGetN, Wp.wTupVals, Wp.rSortN, Wp.rSortT, Wp.wDNewN, Wp.wDelN, Wp.wRevU, Wp.upS, Wp.upS_upS, *])
local macro_rules | `(tactic| walk_at "run") => `(tactic| repeat (first | walk_at "wp" | walk_at "go"))
local macro_rules | `(tactic| walk_at "wq") => `(tactic| simp (disch := omega) only [Wp.wSeq, Wp.wNext, Wp.wSet, Wp.wVar, Wp.wC, Wp.wOp, Wp.wRet, Wp.wIfS, Wp.wTest, Wp.wCall, Wp.wCons, Wp.wNil, Wp.wTup, Wp.wLst, Wp.wAsg, Wp.gTp, Wp.gC, Wp.gNm, Wp.gN0, Wp.gIx, Wp.rSet, Wp.rAdd, Wp.rMul, Wp.rMod, Wp.rSub, Wp.rFdiv, Wp.rPow, Wp.rInt, Wp.rIx, Wp.rLt, Wp.rLe, Wp.rCmp, Wp.rGeI, Wp.rGtI, Wp.wCB, Wp.rLen, Wp.rLen1, Wp.rInt1, Wp.rMax2, Wp.rMin2, Wp.rTupOf, Wp.rListOf,
  Wp.wIsi, Wp.rBIs, Wp.rIsN, Wp.isNon, Wp.wMt, Wp.rAppendT, Wp.rExtendT, Wp.rReverseT, Wp.wNot, Wp.wOr, Wp.wAnd, Wp.wAndV, Wp.wOrV, Wp.wNotV, Wp.wFor, Wp.iRg1, Wp.iRg2, Wp.iAnyW, Wp.wAll, Wp.wChain, Wp.wSl, Wp.wNoPart, Wp.wPart, Wp.rSl, Wp.wNeg, Wp.rNeg, Wp.wLc, Wp.wYes, Wp.wDrop, Wp.wipeT, Wp.wAug, List.map, List.set_cons_zero, List.set_cons_succ, List.getElem?_cons_zero, List.getElem?_cons_succ, List.length_cons, List.length_nil, List.cons_append, List.nil_append, List.replicate, Wp.startT,
  true_and, and_true, Wp.wif_true, Wp.wif_false, Wp.ex_some, Wp.ex_some1, Wp.ex_eq, Wp.ex_lst, Wp.ex_lst0, Wp.rEq_int, Bool.false_bne, Bool.true_bne, Int.reduceLT, Int.reduceLE, Int.reduceAdd, Nat.reduceAdd, Nat.reduceSub, eq_self, ite_true, ite_false, beq_self_eq_true, Bool.not_true, Bool.not_false, Wp.isB_0, Wp.isB_1, Wp.isB_2, Wp.isB_3, Wp.isB_4, Wp.isB_5, Wp.isB_6, Wp.isB_7, Wp.isB_8, Wp.isB_9, Wp.isB_10, Wp.isB_11, Wp.isB_12, Wp.isB_13, Wp.isB_14, Wp.isB_15, Wp.isB_16, Wp.isB_17, Wp.isB_18, Wp.isB_19, Wp.isB_20, Wp.isB_21, Wp.isB_22, Wp.isB_23, Wp.isB_24, Wp.isB_25, Wp.isB_26, Wp.isB_27, Wp.isB_28, Wp.isB_29, Wp.isB_30, Wp.isB_31, Wp.isB_32, Wp.isB_33, Wp.isB_34, Wp.isB_35, Wp.cmul_l, Wp.cmul_r, Wp.cpow_lit, Wp.size_le, Wp.size_lt, Wp.atI_0, Wp.atI_1, Wp.atI_2, Wp.atI_3, Wp.atI_4, Wp.atI_5, Wp.atI_6, Wp.ixN_0, Wp.ixN_1, Wp.ixN_2, Wp.itemsT, Wp.tyT, reduceIte, Wp.wFld, Wp.wFSet, Wp.wFAug, Wp.wMeth, Wp.wMake, Wp.rIxA, Wp.rInA, Wp.rSetA, Wp.ixA, Wp.inA, Wp.setA, Wp.lenA, Wp.getD, Option.map_some, Option.bind_some, Option.getD_some,  Wp.gIxA, Wp.wDNew, Wp.wDNewT, Wp.rLenA, Wp.rSortD, Wp.rMaxL, Wp.rPopL, Wp.rGet1, Wp.rGet2, Wp.wGet1, Wp.wGet2, Wp.wPop1, Wp.wPop2, Wp.wDel, Wp.isDT, Wp.keyT, Wp.keysT, Wp.keysL, Wp.ex_ins, Wp.ex_dct, Wp.wIf, Wp.rGt, Wp.rAddI, Int.cast_ofNat_Int, Int.reduceBEq, Wp.wMtN, Wp.rGetN, Wp.wTupVals, Wp.rSortN, Wp.rSortT, Wp.wDNewN, Wp.wDelN, Wp.wRevU, *])
local macro_rules | `(tactic| walk_at "r2") => `(tactic| repeat (first | walk_at "wq" | walk_at "go"))
local macro_rules | `(tactic| walk_at "w0") => `(tactic| simp (disch := omega) only [Wp.wSeq, Wp.wNext, Wp.wSet, Wp.wVar, Wp.wC, Wp.wOp, Wp.wRet, Wp.wIfS, Wp.wTest, Wp.wCall, Wp.wCons, Wp.wNil, Wp.wTup, Wp.wLst, Wp.wAsg, Wp.gTp, Wp.gC, Wp.gNm, Wp.gN0, Wp.gIx, Wp.rSet, Wp.rAdd, Wp.rMul, Wp.rMod, Wp.rSub, Wp.rFdiv, Wp.rPow, Wp.rInt, Wp.rIx, Wp.rLt, Wp.rLe, Wp.rCmp, Wp.rGeI, Wp.rGtI, Wp.wCB, Wp.rLen, Wp.rLen1, Wp.rInt1, Wp.rMax2, Wp.rMin2, Wp.rTupOf, Wp.rListOf,
  Wp.wIsi, Wp.rBIs, Wp.rIsN, Wp.isNon, Wp.wMt, Wp.rAppendT, Wp.rExtendT, Wp.rReverseT, Wp.wNot, Wp.wOr, Wp.wAnd, Wp.wAndV, Wp.wOrV, Wp.wNotV, Wp.wFor, Wp.iRg1, Wp.iRg2, Wp.iAnyW, Wp.wAll, Wp.wChain, Wp.wSl, Wp.wNoPart, Wp.wPart, Wp.rSl, Wp.wNeg, Wp.rNeg, Wp.wLc, Wp.wYes, Wp.wDrop, Wp.wipeT, Wp.wAug, List.map, List.set_cons_zero, List.set_cons_succ, List.getElem?_cons_zero, List.getElem?_cons_succ, List.length_cons, List.length_nil, List.cons_append, List.nil_append, List.replicate, Wp.startT,
  true_and, and_true, Wp.wif_true, Wp.wif_false, Wp.ex_some, Wp.ex_some1, Wp.ex_eq, Wp.ex_lst, Wp.ex_lst0, Wp.rEq_int, Bool.false_bne, Bool.true_bne, Int.reduceLT, Int.reduceLE, Int.reduceAdd, Nat.reduceAdd, Nat.reduceSub, eq_self, ite_true, ite_false, beq_self_eq_true, Bool.not_true, Bool.not_false, Wp.isB_0, Wp.isB_1, Wp.isB_2, Wp.isB_3, Wp.isB_4, Wp.isB_5, Wp.isB_6, Wp.isB_7, Wp.isB_8, Wp.isB_9, Wp.isB_10, Wp.isB_11, Wp.isB_12, Wp.isB_13, Wp.isB_14, Wp.isB_15, Wp.isB_16, Wp.isB_17, Wp.isB_18, Wp.isB_19, Wp.isB_20, Wp.isB_21, Wp.isB_22, Wp.isB_23, Wp.isB_24, Wp.isB_25, Wp.isB_26, Wp.isB_27, Wp.isB_28, Wp.isB_29, Wp.isB_30, Wp.isB_31, Wp.isB_32, Wp.isB_33, Wp.isB_34, Wp.isB_35, Wp.cmul_l, Wp.cmul_r, Wp.cpow_lit, Wp.size_le, Wp.size_lt, Wp.atI_0, Wp.atI_1, Wp.atI_2, Wp.atI_3, Wp.atI_4, Wp.atI_5, Wp.atI_6, Wp.ixN_0, Wp.ixN_1, Wp.ixN_2, Wp.itemsT, Wp.tyT, reduceIte, Wp.wFld, Wp.wFSet, Wp.wFAug, Wp.wMeth, Wp.wMake, Wp.rIxA, Wp.rInA, Wp.rSetA, Wp.ixA, Wp.inA, Wp.setA, Wp.lenA, Wp.getD, Option.map_some, Option.bind_some, Option.getD_some,  Wp.gIxA, Wp.wDNew, Wp.wDNewT, Wp.rLenA, Wp.rSortD, Wp.rMaxL, Wp.rPopL, Wp.rGet1, Wp.rGet2, Wp.wGet1, Wp.wGet2, Wp.wPop1, Wp.wPop2, Wp.wDel, Wp.isDT, Wp.keyT, Wp.keysT, Wp.keysL, Wp.ex_ins, Wp.ex_dct, Wp.wIf, Wp.rGt, Wp.rAddI, Int.cast_ofNat_Int, Int.reduceBEq, Wp.wMtN, Wp.rGetN, Wp.wTupVals, Wp.rSortN, Wp.rSortT, Wp.wDNewN, Wp.wDelN, Wp.wRevU])
local macro_rules | `(tactic| walk_at "r0") => `(tactic| repeat (first | walk_at "w0" | walk_at "go"))
/-! ### _law_due -/
theorem BI.be {rs : List Rw} {bs : List Nat} {f : Nat} {best : Option Rw} (h : BI rs bs f (livs rs f) best) : (∀ v, best = some v → Be rs bs f v) ∧ (best = none → ∀ v, Qu rs bs v → v.f ≠ f) := by
  refine ⟨fun v e => ?_, fun e v q z => h.no e v q z (mem_livs.mpr ⟨v, q.w.m, z, rfl⟩)⟩
  obtain ⟨a1, a2, _, _, a5⟩ := h.yes v e
  exact ⟨a1, a2, fun v' q z => a5 v' q z (mem_livs.mpr ⟨v', q.w.m, z, rfl⟩)⟩
structure Fo (rs : List Rw) (bs : List Nat) (i : Nat) (found : List Rw) : Prop where
  g : ∃ g : Nat → Option Rw, found = (List.range i).filterMap g ∧ ∀ f < i, (∀ v, g f = some v → Be rs bs f v) ∧ (g f = none → ∀ v, Qu rs bs v → v.f ≠ f)
  l : found.length ≤ i
theorem fm_congr {g g' : Nat → Option Rw} : ∀ {l : List Nat}, (∀ x ∈ l, g x = g' x) → l.filterMap g = l.filterMap g'
  | [], _ => rfl
  | a :: l, h => by
    rw [List.filterMap_cons, List.filterMap_cons, h a List.mem_cons_self, fm_congr fun x hx => h x (List.mem_cons_of_mem _ hx)]
theorem Fo.nil {rs : List Rw} {bs : List Nat} : Fo rs bs 0 [] := ⟨⟨fun _ => none, rfl, fun f h => absurd h (Nat.not_lt_zero f)⟩, Nat.le_refl _⟩
theorem Fo.step {rs : List Rw} {bs : List Nat} {i : Nat} {found : List Rw} {best : Option Rw} (h : Fo rs bs i found) (b : BI rs bs i (livs rs i) best) : Fo rs bs (i + 1) (found ++ best.toList) := by
  obtain ⟨⟨g, e, k⟩, l⟩ := h
  refine ⟨⟨fun f => if f = i then best else g f, ?_, fun f hf => ?_⟩, ?_⟩
  · rw [List.range_succ, List.filterMap_append, e]
    congr 1
    · exact fm_congr fun x hx => by
        have := List.mem_range.mp hx
        rw [if_neg (by omega)]
    · cases best <;> simp
  · dsimp only
    by_cases z : f = i
    · rw [if_pos z, z]; exact b.be
    · rw [if_neg z]; exact k f (by omega)
  · rw [List.length_append]
    have : best.toList.length ≤ 1 := by cases best <;> simp
    omega
theorem Fo.res {rs : List Rw} {bs : List Nat} {found : List Rw} (h : Fo rs bs 4 found) (ok : okL rs) : Res rs bs found := by
  obtain ⟨⟨g, e, k⟩, _⟩ := h
  refine ⟨fun f => if f < 4 then g f else none, ?_, fun f => ?_⟩
  · rw [e]
    exact fm_congr fun x hx => by
      have := List.mem_range.mp hx
      rw [if_pos this]
  · dsimp only
    by_cases z : f < 4
    · rw [if_pos z]; exact k f z
    · rw [if_neg z]
      refine ⟨fun v e => (by cases e), fun _ v q y => ?_⟩
      have := (ok v q.w.m).f
      omega
theorem Res.mem {rs : List Rw} {bs : List Nat} {out : List Rw} (h : Res rs bs out) : ∀ x ∈ out, x ∈ rs := fun x hx => by
  obtain ⟨g, rfl, k⟩ := h
  obtain ⟨f, _, e⟩ := List.mem_filterMap.mp hx
  exact ((k f).1 x e).q.w.m
def spDue : WSp := fun ts S Q _ => match ts with
  | [.ref p, .tup us] => ∃ (reps : List (List Rw)) (bs : List Nat), S p = some (.lst (reps.map repT)) ∧ us = bs.map plT ∧ (∀ rs ∈ reps, okL rs) ∧ (reps.flatten).length ≤ 200 ∧ (∀ b ∈ bs, b < 5) ∧ 0 ∉ bs ∧ Fair reps.flatten ∧
      ∀ out S', Res reps.flatten bs out → Wp.Gr S S' → Q (.tup (out.map rwT)) S'
  | _ => False
theorem okF {reps : List (List Rw)} (ok : ∀ rs ∈ reps, okL rs) : okL reps.flatten := fun r hr => by
  obtain ⟨rs, h1, h2⟩ := List.mem_flatten.mp hr
  exact ok rs h1 r h2
section
variable {p rr : Addr} {S : Sta} {D : WEnds} {rows : List Rw} {bs : List Nat} {rs : List Rw} {v0 v1 v4 v5 v6 v7 v8 v9 v10 v11 : Option T}
theorem due_rows (er : S rr = some (.lst (rows.map rwT))) (hl : rows.length + rs.length ≤ 500)
    (nx : ∀ q S', S' q = some (.lst ((rows ++ rs).map rwT)) → Wp.Gr S S' → D.nx [v0, v1, some (.ref q), some (repT rs), v4, v5, v6, v7, v8, v9, v10, v11] S') :
    l2__law_due D [v0, v1, some (.ref rr), some (repT rs), v4, v5, v6, v7, v8, v9, v10, v11] S := by
  unfold l2__law_due
  refine ⟨.ref rr, rfl, repT rs, rfl, ?_⟩
  intro q hq
  refine compW_on rwT rwT (fun _ => true) (fun acc => trivial) rs [] (fun r hr acc R k => k) (fun r hr hc acc R k => ⟨_, rfl, k⟩) (by show 0 + _ ≤ _; omega) ?_
  rw [List.nil_append, show (rs.filter fun _ => true) = rs from List.filter_eq_self.mpr fun _ _ => rfl]
  obtain ⟨S1, w1, g1, e1⟩ := al_ (o := .lst (rs.map rwT)) hq
  rw [w1]
  refine ⟨_, g1 _ _ er, _, e1, by rw [List.length_map, List.length_map, sizeLine_eq]; omega, fun s hs => ?_⟩
  obtain ⟨S2, w2, g2, e2⟩ := al_ (o := .lst (rows.map rwT ++ rs.map rwT)) hs
  rw [w2]
  exact goS_i (nx s S2 (by rw [e2, List.map_append]) fun x o e => g2 _ _ (g1 _ _ e))
end
theorem hw_due : ∀ ts S Q E, ts.length = 2 → spDue ts S Q E → b__law_due { nx := fun _ S' => Q .non S', rt := Q } (Wp.startT N__law_due ts) S := by
  intro ts S Q E _ h
  match ts, h with
  | [.ref p, .tup _], ⟨reps, bs, hp, rfl, ok, hl, hb, hb0, fair, h⟩ =>
    unfold b__law_due N__law_due
    walk_at "r0"
    intro a ha
    obtain ⟨S1, w1, g1, ea⟩ := al_ (o := .lst []) ha
    rw [w1]
    have tl : ∀ i, (reps.take i).flatten.length ≤ 200 := fun i => by
      have : (reps.take i).flatten.length ≤ reps.flatten.length := by
        conv => rhs; rw [← List.take_append_drop i reps, List.flatten_append, List.length_append]
        omega
      omega
    refine goS_i ⟨.ref p, rfl, _, g1 _ _ hp, ?_⟩
    refine loop_inv (fun i σ S' => ∃ rr v3 v4, σ = [some (.ref p), some (.tup (bs.map plT)), some (.ref rr), v3, v4, none, none, none, none, none, none, none] ∧ Wp.Gr S S' ∧ S' rr = some (.lst ((reps.take i).flatten.map rwT)))
      ⟨a, none, none, rfl, g1, ea⟩ (fun i σ S' ⟨_, _, _, _, g, _⟩ => g _ _ hp) (fun i x σ S2 LP hx hI nx1 => ?_) (fun σ S2 hI => ?_)
    · obtain ⟨rr, v3, v4, rfl, g, er⟩ := hI
      rw [List.getElem?_map] at hx
      cases es : reps[i]? with
      | none => rw [es] at hx; cases hx
      | some rs =>
        rw [es] at hx
        obtain rfl : repT rs = x := Option.some.inj hx
        have tf := take_flat es
        have tl1 := tl (i + 1)
        rw [tf, List.length_append] at tl1
        refine due_rows er (by omega) fun q S' eq gq => nx1 _ _ ⟨q, _, _, rfl, fun x o e => gq _ _ (g _ _ e), by rw [tf]; exact eq⟩
    · obtain ⟨rr, v3, v4, rfl, g, er⟩ := hI
      rw [List.length_map, List.take_length] at er
      walk_at "r0"
      intro fo hfo
      obtain ⟨S3, w3, g3, ef⟩ := al_ (o := .lst []) hfo
      rw [w3]
      refine goS_i ?_
      walk_at "r0"
      intro q hq
      have nqf : q ≠ fo := fun z => by rw [z, ef] at hq; cases hq
      refine ⟨_, upS_same, ?_⟩
      obtain ⟨S4, w4, g4, eq⟩ := al_ (o := .lst [T.tup [T.int 0, T.int 1], T.tup [T.int 0, T.int 2], T.tup [T.int 1, T.int 1], T.tup [T.int 1, T.int 2]]) hq
      rw [w4]
      have nrf : rr ≠ fo := fun z => by rw [← z, er] at hfo; cases hfo
      have okf := okF ok
      have nSf : S fo = none := by
        cases e : S fo with
        | none => rfl
        | some o => rw [g _ _ e] at hfo; cases hfo
      refine loop_inv (fun i σ S' => ∃ found v3 v4 v6 v7 v8 v9 v10 v11, σ = [some (.ref p), some (.tup (bs.map plT)), some (.ref rr), v3, v4, some (.ref fo), v6, v7, v8, v9, v10, v11] ∧ (∀ x o, S4 x = some o → x ≠ fo → S' x = some o) ∧ S' fo = some (.lst (found.map rwT)) ∧ Fo reps.flatten bs i found)
        ⟨[], _, _, _, _, _, _, _, _, rfl, fun _ _ e _ => e, g4 _ _ ef, Fo.nil⟩ (fun i σ S' ⟨_, _, _, _, _, _, _, _, _, _, g, _⟩ => g _ _ eq nqf) (fun i x σ S5 LP hx hI nx1 => ?_) (fun σ S5 hI => ?_)
      · obtain ⟨found, u3, u4, u6, u7, u8, u9, u10, u11, rfl, g5, ef5, fo5⟩ := hI
        have hi : i < 4 := (List.getElem?_eq_some_iff.mp hx).1
        obtain rfl : x = flT i := by
          have : [T.tup [T.int 0, T.int 1], T.tup [T.int 0, T.int 2], T.tup [T.int 1, T.int 1], T.tup [T.int 1, T.int 2]] = [flT 0, flT 1, flT 2, flT 3] := rfl
          rw [this] at hx
          rcases (show i = 0 ∨ i = 1 ∨ i = 2 ∨ i = 3 by omega) with rfl | rfl | rfl | rfl <;> exact (Option.some.inj hx).symm
        have fl5 := fo5.l
        refine due_flow (g5 _ _ (g4 _ _ (g3 _ _ er)) nrf) ef5 (by omega) nrf okf hl hi hb hb0 fair fun best w4 w7 w8 w9 w10 w11 S' bi g6 ef6 => nx1 _ _ ⟨_, _, _, _, _, _, _, _, _, rfl, fun x o e n => g6 _ _ (g5 _ _ e n) n, ef6, fo5.step bi⟩
      · obtain ⟨found, u3, u4, u6, u7, u8, u9, u10, u11, rfl, g5, ef5, fo5⟩ := hI
        walk_at "r0"
        refine ⟨_, by rw [ef5], h found S5 (fo5.res okf) fun x o e => ?_⟩
        exact g5 _ _ (g4 _ _ (g3 _ _ (g _ _ e))) fun z => by rw [z, nSf] at e; cases e
end My

set_option Elab.async false
set_option linter.all false
set_option maxRecDepth 100000
set_option maxHeartbeats 8000000
namespace My
open PySem PySem.Spec PyProof.Rows L2 Wp Gn
local macro_rules | `(tactic| walk_at "go") => `(tactic| (with_reducible refine goS_i ?_))
local macro_rules | `(tactic| walk_at "wp") => `(tactic| simp (disch := omega) only [Wp.wSeq, Wp.wNext, Wp.wSet, Wp.wVar, Wp.wC, Wp.wOp, Wp.wRet, Wp.wIfS, Wp.wTest, Wp.wCall, Wp.wCons, Wp.wNil, Wp.wTup, Wp.wLst, Wp.wAsg, Wp.gTp, Wp.gC, Wp.gNm, Wp.gN0, Wp.gIx, Wp.rSet, Wp.rAdd, Wp.rMul, Wp.rMod, Wp.rSub, Wp.rFdiv, Wp.rPow, Wp.rInt, Wp.rIx, Wp.rLt, Wp.rLe, Wp.rCmp, Wp.rGeI, Wp.rGtI, Wp.wCB, Wp.rLen, Wp.rLen1, Wp.rInt1, Wp.rMax2, Wp.rMin2, Wp.rTupOf, Wp.rListOf,
  Wp.wIsi, Wp.rBIs, Wp.rIsN, Wp.isNon, Wp.wMt, Wp.rAppendT, Wp.rExtendT, Wp.rReverseT, Wp.wNot, Wp.wOr, Wp.wAnd, Wp.wAndV, Wp.wOrV, Wp.wNotV, Wp.wFor, Wp.iRg1, Wp.iRg2, Wp.iAnyW, Wp.wAll, Wp.wChain, Wp.wSl, Wp.wNoPart, Wp.wPart, Wp.rSl, Wp.wNeg, Wp.rNeg, Wp.wLc, Wp.wYes, Wp.wDrop, Wp.wipeT, Wp.wAug, List.map, List.set_cons_zero, List.set_cons_succ, List.getElem?_cons_zero, List.getElem?_cons_succ, List.length_cons, List.length_nil, List.cons_append, List.nil_append, List.replicate, Wp.startT,
  true_and, and_true, Wp.wif_true, Wp.wif_false, Wp.ex_some, Wp.ex_some1, Wp.ex_eq, Wp.ex_lst, Wp.ex_lst0, Wp.rEq_int, Bool.false_bne, Bool.true_bne, Int.reduceLT, Int.reduceLE, Int.reduceAdd, Nat.reduceAdd, Nat.reduceSub, eq_self, ite_true, ite_false, beq_self_eq_true, Bool.not_true, Bool.not_false, Wp.isB_0, Wp.isB_1, Wp.isB_2, Wp.isB_3, Wp.isB_4, Wp.isB_5, Wp.isB_6, Wp.isB_7, Wp.isB_8, Wp.isB_9, Wp.isB_10, Wp.isB_11, Wp.isB_12, Wp.isB_13, Wp.isB_14, Wp.isB_15, Wp.isB_16, Wp.isB_17, Wp.isB_18, Wp.isB_19, Wp.isB_20, Wp.isB_21, Wp.isB_22, Wp.isB_23, Wp.isB_24, Wp.isB_25, Wp.isB_26, Wp.isB_27, Wp.isB_28, Wp.isB_29, Wp.isB_30, Wp.isB_31, Wp.isB_32, Wp.isB_33, Wp.isB_34, Wp.isB_35, Wp.cmul_l, Wp.cmul_r, Wp.cpow_lit, Wp.size_le, Wp.size_lt, Wp.atI_0, Wp.atI_1, Wp.atI_2, Wp.atI_3, Wp.atI_4, Wp.atI_5, Wp.atI_6, Wp.ixN_0, Wp.ixN_1, Wp.ixN_2, Wp.itemsT, Wp.tyT, reduceIte, Wp.wFld, Wp.wFSet, Wp.wFAug, Wp.wMeth, Wp.wMake, Wp.rIxA, Wp.rInA, Wp.rSetA, Wp.ixA, Wp.inA, Wp.setA, Wp.lenA, Wp.getD, Option.map_some, Option.bind_some, Option.getD_some,  Wp.gIxA, Wp.wDNew, Wp.wDNewT, Wp.rLenA, Wp.rSortD, Wp.rMaxL, Wp.rPopL, Wp.rGet1, Wp.rGet2, Wp.wGet1, Wp.wGet2, Wp.wPop1, Wp.wPop2, Wp.wDel, Wp.isDT, Wp.keyT, Wp.keysT, Wp.keysL, Wp.ex_ins, Wp.ex_dct, Wp.wIf, Wp.rGt, Wp.rAddI, Int.cast_ofNat_Int, Int.reduceBEq, Wp.wMtN, Wp.rGetN, Wp.wTupVals, Wp.rSortN, Wp.rSortT, Wp.wDNewN, Wp.wDelN, Wp.wRevU, Wp.upS, Wp.upS_upS, *])
local macro_rules | `(tactic| walk_at "run") => `(tactic| repeat (first | walk_at "wp" | walk_at "go"))
local macro_rules | `(tactic| walk_at "wq") => `(tactic| simp (disch := omega) only [Wp.wSeq, Wp.wNext, Wp.wSet, Wp.wVar, Wp.wC, Wp.wOp, Wp.wRet, Wp.wIfS, Wp.wTest, Wp.wCall, Wp.wCons, Wp.wNil, Wp.wTup, Wp.wLst, Wp.wAsg, Wp.gTp, Wp.gC, Wp.gNm, Wp.gN0, Wp.gIx, Wp.rSet, Wp.rAdd, Wp.rMul, Wp.rMod, Wp.rSub, Wp.rFdiv, Wp.rPow, Wp.rInt, Wp.rIx, Wp.rLt, Wp.rLe, Wp.rCmp, Wp.rGeI, Wp.rGtI, Wp.wCB, Wp.rLen, Wp.rLen1, Wp.rInt1, Wp.rMax2, Wp.rMin2, Wp.rTupOf, Wp.rListOf,
  Wp.wIsi, Wp.rBIs, Wp.rIsN, Wp.isNon, Wp.wMt, Wp.rAppendT, Wp.rExtendT, Wp.rReverseT, Wp.wNot, Wp.wOr, Wp.wAnd, Wp.wAndV, Wp.wOrV, Wp.wNotV, Wp.wFor, Wp.iRg1, Wp.iRg2, Wp.iAnyW, Wp.wAll, Wp.wChain, Wp.wSl, Wp.wNoPart, Wp.wPart, Wp.rSl, Wp.wNeg, Wp.rNeg, Wp.wLc, Wp.wYes, Wp.wDrop, Wp.wipeT, Wp.wAug, List.map, List.set_cons_zero, List.set_cons_succ, List.getElem?_cons_zero, List.getElem?_cons_succ, List.length_cons, List.length_nil, List.cons_append, List.nil_append, List.replicate, Wp.startT,
  true_and, and_true, Wp.wif_true, Wp.wif_false, Wp.ex_some, Wp.ex_some1, Wp.ex_eq, Wp.ex_lst, Wp.ex_lst0, Wp.rEq_int, Bool.false_bne, Bool.true_bne, Int.reduceLT, Int.reduceLE, Int.reduceAdd, Nat.reduceAdd, Nat.reduceSub, eq_self, ite_true, ite_false, beq_self_eq_true, Bool.not_true, Bool.not_false, Wp.isB_0, Wp.isB_1, Wp.isB_2, Wp.isB_3, Wp.isB_4, Wp.isB_5, Wp.isB_6, Wp.isB_7, Wp.isB_8, Wp.isB_9, Wp.isB_10, Wp.isB_11, Wp.isB_12, Wp.isB_13, Wp.isB_14, Wp.isB_15, Wp.isB_16, Wp.isB_17, Wp.isB_18, Wp.isB_19, Wp.isB_20, Wp.isB_21, Wp.isB_22, Wp.isB_23, Wp.isB_24, Wp.isB_25, Wp.isB_26, Wp.isB_27, Wp.isB_28, Wp.isB_29, Wp.isB_30, Wp.isB_31, Wp.isB_32, Wp.isB_33, Wp.isB_34, Wp.isB_35, Wp.cmul_l, Wp.cmul_r, Wp.cpow_lit, Wp.size_le, Wp.size_lt, Wp.atI_0, Wp.atI_1, Wp.atI_2, Wp.atI_3, Wp.atI_4, Wp.atI_5, Wp.atI_6, Wp.ixN_0, Wp.ixN_1, Wp.ixN_2, Wp.itemsT, Wp.tyT, reduceIte, Wp.wFld, Wp.wFSet, Wp.wFAug, Wp.wMeth, Wp.wMake, Wp.rIxA, Wp.rInA, Wp.rSetA, Wp.ixA, Wp.inA, Wp.setA, Wp.lenA, Wp.getD, Option.map_some, Option.bind_some, Option.getD_some,  Wp.gIxA, Wp.wDNew, Wp.wDNewT, Wp.rLenA, Wp.rSortD, Wp.rMaxL, Wp.rPopL, Wp.rGet1, Wp.rGet2, Wp.wGet1, Wp.wGet2, Wp.wPop1, Wp.wPop2, Wp.wDel, Wp.isDT, Wp.keyT, Wp.keysT, Wp.keysL, Wp.ex_ins, Wp.ex_dct, Wp.wIf, Wp.rGt, Wp.rAddI, Int.cast_ofNat_Int, Int.reduceBEq, Wp.wMtN, Wp.rGetN, Wp.wTupVals, Wp.rSortN, Wp.rSortT, Wp.wDNewN, Wp.wDelN, Wp.wRevU, *])
local macro_rules | `(tactic| walk_at "r2") => `(tactic| repeat (first | walk_at "wq" | walk_at "go"))
local macro_rules | `(tactic| walk_at "w0") => `(tactic| simp (disch := omega) only [Wp.wSeq, Wp.wNext, Wp.wSet, Wp.wVar, Wp.wC, Wp.wOp, Wp.wRet, Wp.wIfS, Wp.wTest, Wp.wCall, Wp.wCons, Wp.wNil, Wp.wTup, Wp.wLst, Wp.wAsg, Wp.gTp, Wp.gC, Wp.gNm, Wp.gN0, Wp.gIx, Wp.rSet, Wp.rAdd, Wp.rMul, Wp.rMod, Wp.rSub, Wp.rFdiv, Wp.rPow, Wp.rInt, Wp.rIx, Wp.rLt, Wp.rLe, Wp.rCmp, Wp.rGeI, Wp.rGtI, Wp.wCB, Wp.rLen, Wp.rLen1, Wp.rInt1, Wp.rMax2, Wp.rMin2, Wp.rTupOf, Wp.rListOf,
  Wp.wIsi, Wp.rBIs, Wp.rIsN, Wp.isNon, Wp.wMt, Wp.rAppendT, Wp.rExtendT, Wp.rReverseT, Wp.wNot, Wp.wOr, Wp.wAnd, Wp.wAndV, Wp.wOrV, Wp.wNotV, Wp.wFor, Wp.iRg1, Wp.iRg2, Wp.iAnyW, Wp.wAll, Wp.wChain, Wp.wSl, Wp.wNoPart, Wp.wPart, Wp.rSl, Wp.wNeg, Wp.rNeg, Wp.wLc, Wp.wYes, Wp.wDrop, Wp.wipeT, Wp.wAug, List.map, List.set_cons_zero, List.set_cons_succ, List.getElem?_cons_zero, List.getElem?_cons_succ, List.length_cons, List.length_nil, List.cons_append, List.nil_append, List.replicate, Wp.startT,
  true_and, and_true, Wp.wif_true, Wp.wif_false, Wp.ex_some, Wp.ex_some1, Wp.ex_eq, Wp.ex_lst, Wp.ex_lst0, Wp.rEq_int, Bool.false_bne, Bool.true_bne, Int.reduceLT, Int.reduceLE, Int.reduceAdd, Nat.reduceAdd, Nat.reduceSub, eq_self, ite_true, ite_false, beq_self_eq_true, Bool.not_true, Bool.not_false, Wp.isB_0, Wp.isB_1, Wp.isB_2, Wp.isB_3, Wp.isB_4, Wp.isB_5, Wp.isB_6, Wp.isB_7, Wp.isB_8, Wp.isB_9, Wp.isB_10, Wp.isB_11, Wp.isB_12, Wp.isB_13, Wp.isB_14, Wp.isB_15, Wp.isB_16, Wp.isB_17, Wp.isB_18, Wp.isB_19, Wp.isB_20, Wp.isB_21, Wp.isB_22, Wp.isB_23, Wp.isB_24, Wp.isB_25, Wp.isB_26, Wp.isB_27, Wp.isB_28, Wp.isB_29, Wp.isB_30, Wp.isB_31, Wp.isB_32, Wp.isB_33, Wp.isB_34, Wp.isB_35, Wp.cmul_l, Wp.cmul_r, Wp.cpow_lit, Wp.size_le, Wp.size_lt, Wp.atI_0, Wp.atI_1, Wp.atI_2, Wp.atI_3, Wp.atI_4, Wp.atI_5, Wp.atI_6, Wp.ixN_0, Wp.ixN_1, Wp.ixN_2, Wp.itemsT, Wp.tyT, reduceIte, Wp.wFld, Wp.wFSet, Wp.wFAug, Wp.wMeth, Wp.wMake, Wp.rIxA, Wp.rInA, Wp.rSetA, Wp.ixA, Wp.inA, Wp.setA, Wp.lenA, Wp.getD, Option.map_some, Option.bind_some, Option.getD_some,  Wp.gIxA, Wp.wDNew, Wp.wDNewT, Wp.rLenA, Wp.rSortD, Wp.rMaxL, Wp.rPopL, Wp.rGet1, Wp.rGet2, Wp.wGet1, Wp.wGet2, Wp.wPop1, Wp.wPop2, Wp.wDel, Wp.isDT, Wp.keyT, Wp.keysT, Wp.keysL, Wp.ex_ins, Wp.ex_dct, Wp.wIf, Wp.rGt, Wp.rAddI, Int.cast_ofNat_Int, Int.reduceBEq, Wp.wMtN, Wp.rGetN, Wp.wTupVals, Wp.rSortN, Wp.rSortT, Wp.wDNewN, Wp.wDelN, Wp.wRevU])
local macro_rules | `(tactic| walk_at "r0") => `(tactic| repeat (first | walk_at "w0" | walk_at "go"))
/-! ### the law's reports and births -/
abbrev LW (F : WSp → WSp → WSp → WSp → WSp → WSp → WS) : WS := F spBag3 spDr spRow spFair spDue spDir
section
variable {p : Addr} {S : Sta} {Q : T → Sta → Prop} {v0 v1 v3 v4 v5 v6 v7 v8 v9 v10 v11 : Option T}
theorem rep_make (hb : IsBag none S p) (nx : ∀ rs S', okL rs → rs.length ≤ 5 → Grb none p S S' → Q (repT rs) S') :
    l2_law spBag3 spDr spRow spFair spDue spDir [v0, v1, some (.ref p), v3, v4, v5, v6, v7, v8, v9, v10, v11] S Q := by
  unfold l2_law
  walk_at "r0"
  refine ⟨hb, by decide, by decide, fun n S1 n0 n1 g1 => ⟨by omega, by omega, fun D hD => ?_⟩⟩
  have hb1 := g1.bag
  have nDp := new_ne hb1 hD
  obtain ⟨S2, w2, g2, e2⟩ := al_ (o := .lst []) hD
  rw [w2]
  have gS : Grb none p S S2 := g1.gr g2
  have up : ∀ {S' : Sta} {o : O}, Grb none p S1 S' → Grb none p S1 (upS S' D o) := fun {S' o} g => ⟨fun x u e n => by
      rw [upS_ne (fun z => by rw [z, hD] at e; cases e)]
      exact g.keep x u e n, by
      obtain ⟨a, b, c, e⟩ := g.bag
      exact ⟨a, b, c, by rw [upS_ne nDp.symm]; exact e⟩⟩
  refine comp_inv (fun i S' => ∃ rs : List Rw, rs.length = i ∧ okL rs ∧ Grb none p S1 S' ∧ S' D = some (.lst (rs.map rwT))) ⟨[], rfl, fun x hx => (by cases hx), hb1.gr g2 |> fun _ => Gr.grb hb1 g2, e2⟩ (fun _ _ _ => trivial) (fun i x S3 LP hx hI nx1 => ?_) (fun S3 hI => ?_)
  · obtain ⟨rs, hlen, okr, g3, e3⟩ := hI
    have hi : i < 5 := by
      have := (List.getElem?_eq_some_iff.mp hx).1
      rw [rangeT_ints, List.length_map, List.length_map, List.length_range] at this
      omega
    walk_at "r0"
    unfold l1_law
    walk_at "r0"
    refine ⟨g3.bag, fun r S4 hr g4 => ?_⟩
    refine ⟨_, g4.keep D _ e3 nDp, by rw [List.length_map, sizeLine_eq]; omega, nx1 _ ⟨rs ++ [r], by rw [List.length_append, hlen]; rfl, fun y hy => ?_, up (g3.trans g4), ?_⟩⟩
    · rcases List.mem_append.mp hy with hy | hy
      · exact okr y hy
      · have : y = r := by simpa using hy
        rw [this]; exact hr
    · rw [upS_same, List.map_append]; rfl
  · obtain ⟨rs, hlen, okr, g3, e3⟩ := hI
    rw [rangeT_ints, List.length_map, List.length_map, List.length_range] at hlen
    exact ⟨_, by simp only [e3], nx rs S3 okr (by omega) (g1.trans g3)⟩
def repsT : WS := (wSet 3 (wLc (iRg1 (wCons (wCall 2 spDr (wCons (wVar 2) (wCons (wC (.int 5)) wNil))) wNil)) (gNm 5) wYes (l2_law spBag3 spDr spRow spFair spDue spDir) [5]))
theorem reps_make {D : WEnds} (hb : IsBag none S p) (nx : ∀ (reps : List (List Rw)) (q : Addr) (S' : Sta), (∀ rs ∈ reps, okL rs) → (reps.flatten).length ≤ 20 → reps.length ≤ 4 → Grb none p S S' → S' q = some (.lst (reps.map repT)) → q ≠ p → D.nx [v0, v1, some (.ref p), some (.ref q), v4, none, v6, v7, v8, v9, v10, v11] S') :
    repsT D [v0, v1, some (.ref p), v3, v4, none, v6, v7, v8, v9, v10, v11] S := by
  unfold repsT
  walk_at "r0"
  refine ⟨hb, by decide, by decide, fun n S1 n0 n1 g1 => ⟨by omega, by omega, fun q hq => ?_⟩⟩
  have hb1 := g1.bag
  have nqp := new_ne hb1 hq
  obtain ⟨S2, w2, g2, e2⟩ := al_ (o := .lst []) hq
  rw [w2]
  have up : ∀ {S' : Sta} {o : O}, Grb none p S1 S' → Grb none p S1 (upS S' q o) := fun {S' o} g => ⟨fun x u e n => by
      rw [upS_ne (fun z => by rw [z, hq] at e; cases e)]
      exact g.keep x u e n, by
      obtain ⟨a, b, c, e⟩ := g.bag
      exact ⟨a, b, c, by rw [upS_ne nqp.symm]; exact e⟩⟩
  refine comp_inv (fun i S' => ∃ reps : List (List Rw), reps.length = i ∧ (∀ rs ∈ reps, okL rs) ∧ reps.flatten.length ≤ 5 * i ∧ Grb none p S1 S' ∧ S' q = some (.lst (reps.map repT))) ⟨[], rfl, fun x hx => (by cases hx), Nat.le_refl _, Gr.grb hb1 g2, e2⟩ (fun _ _ _ => trivial) (fun i x S3 LP hx hI nx1 => ?_) (fun S3 hI => ?_)
  · obtain ⟨reps, hlen, okr, fl, g3, e3⟩ := hI
    have hi : i < 4 := by
      have := (List.getElem?_eq_some_iff.mp hx).1
      rw [rangeT_ints, List.length_map, List.length_map, List.length_range] at this
      omega
    generalize hL : l2_law spBag3 spDr spRow spFair spDue spDir = LL
    walk_at "r0"
    rw [← hL]
    refine rep_make g3.bag fun rs S4 hrs hl4 g4 => ?_
    refine ⟨_, g4.keep q _ e3 nqp, by rw [List.length_map, sizeLine_eq]; omega, nx1 _ ⟨reps ++ [rs], by rw [List.length_append, hlen]; rfl, fun y hy => ?_, ?_, up (g3.trans g4), ?_⟩⟩
    · rcases List.mem_append.mp hy with hy | hy
      · exact okr y hy
      · have : y = rs := by simpa using hy
        rw [this]; exact hrs
    · rw [List.flatten_append, List.length_append, show [rs].flatten = rs by simp]; omega
    · rw [upS_same, List.map_append]; rfl
  · obtain ⟨reps, hlen, okr, fl, g3, e3⟩ := hI
    rw [rangeT_ints, List.length_map, List.length_map, List.length_range] at hlen fl
    exact goS_i (nx reps q S3 okr (by omega) (by omega) (g1.trans g3) e3 nqp)
def birT : WS := (wSet 6 (wCB rTupOf (wCons (wLc (iAnyW (wLst (wCons (wTup (wCons (wC (.int 0)) (wCons (wC (.int 2)) wNil))) (wCons (wTup (wCons (wC (.int 1)) (wCons (wC (.int 1)) wNil))) (wCons (wTup (wCons (wC (.int 2)) (wCons (wC (.int 3)) wNil))) wNil))))) (gNm 7) (l3_law spBag3 spDr spRow spFair spDue spDir) (l4_law spBag3 spDr spRow spFair spDue spDir) [7]) wNil)))
theorem bir_make {D : WEnds} (hb : IsBag none S p) (nx : ∀ (bs : List Nat) (S' : Sta), (∀ b ∈ bs, b < 5) → 0 ∉ bs → Grb none p S S' → D.nx [v0, v1, some (.ref p), v3, v4, v5, some (.tup (bs.map plT)), none, v8, v9, v10, v11] S') :
    birT D [v0, v1, some (.ref p), v3, v4, v5, v6, none, v8, v9, v10, v11] S := by
  unfold birT
  walk_at "r0"
  intro l hl
  have nlp := new_ne hb hl
  refine ⟨_, upS_same, ?_⟩
  obtain ⟨S1, w1, g1, e1⟩ := al_ (o := .lst [T.tup [T.int 0, T.int 2], T.tup [T.int 1, T.int 1], T.tup [T.int 2, T.int 3]]) hl
  rw [w1]
  intro q hq
  have hb1 := hb.gr g1
  have nqp := new_ne hb1 hq
  have nlq : l ≠ q := fun z => by rw [← z, e1] at hq; cases hq
  obtain ⟨S2, w2, g2, e2⟩ := al_ (o := .lst []) hq
  rw [w2]
  have up : ∀ {S' : Sta} {o : O}, Grb none p S1 S' → Grb none p S1 (upS S' q o) := fun {S' o} g => ⟨fun x u e n => by
      rw [upS_ne (fun z => by rw [z, hq] at e; cases e)]
      exact g.keep x u e n, by
      obtain ⟨a, b, c, e⟩ := g.bag
      exact ⟨a, b, c, by rw [upS_ne nqp.symm]; exact e⟩⟩
  refine comp_inv (fun i S' => ∃ bs : List Nat, (∀ b ∈ bs, 2 ≤ b ∧ b < 5) ∧ bs.length ≤ i ∧ Grb none p S1 S' ∧ S' q = some (.lst (bs.map plT))) ⟨[], fun x hx => (by cases hx), Nat.le_refl _, Gr.grb hb1 g2, e2⟩ (fun _ S' ⟨_, _, _, g, _⟩ => g.keep l _ e1 nlp) (fun i x S3 LP hx hI nx1 => ?_) (fun S3 hI => ?_)
  · obtain ⟨bs, hbs, hlen, g3, e3⟩ := hI
    have hi : i < 3 := (List.getElem?_eq_some_iff.mp hx).1
    obtain rfl : x = plT (i + 2) := by
      have : [T.tup [T.int 0, T.int 2], T.tup [T.int 1, T.int 1], T.tup [T.int 2, T.int 3]] = [plT 2, plT 3, plT 4] := rfl
      rw [this] at hx
      rcases (show i = 0 ∨ i = 1 ∨ i = 2 by omega) with rfl | rfl | rfl <;> exact (Option.some.inj hx).symm
    unfold l3_law l4_law
    walk_at "r0"
    refine ⟨g3.bag, by decide, by decide, fun c S4 c0 c1 g4 => ?_⟩
    walk_at "r0"
    refine if_dec (fun _ => ?_) (fun _ => ?_)
    · refine ⟨_, g4.keep q _ e3 nqp, by rw [List.length_map, sizeLine_eq]; omega, nx1 _ ⟨bs ++ [i + 2], fun y hy => ?_, by rw [List.length_append, List.length_singleton]; omega, up (g3.trans g4), ?_⟩⟩
      · rcases List.mem_append.mp hy with hy | hy
        · exact hbs y hy
        · have : y = i + 2 := by simpa using hy
          omega
      · rw [upS_same, List.map_append]; rfl
    · exact nx1 _ ⟨bs, hbs, by omega, g3.trans g4, g4.keep q _ e3 nqp⟩
  · obtain ⟨bs, hbs, hlen, g3, e3⟩ := hI
    refine ⟨_, by simp only [e3], goS_i (nx bs S3 (fun b z => (hbs b z).2) (fun z => ?_) (Gr.grb hb g1 |>.trans g3))⟩
    have := (hbs 0 z).1
    omega
end
end My

set_option Elab.async false
set_option linter.all false
set_option maxRecDepth 100000
set_option maxHeartbeats 8000000
namespace My
open PySem PySem.Spec PyProof.Rows L2 Wp Gn
local macro_rules | `(tactic| walk_at "go") => `(tactic| (with_reducible refine goS_i ?_))
local macro_rules | `(tactic| walk_at "wp") => `(tactic| simp (disch := omega) only [Wp.wSeq, Wp.wNext, Wp.wSet, Wp.wVar, Wp.wC, Wp.wOp, Wp.wRet, Wp.wIfS, Wp.wTest, Wp.wCall, Wp.wCons, Wp.wNil, Wp.wTup, Wp.wLst, Wp.wAsg, Wp.gTp, Wp.gC, Wp.gNm, Wp.gN0, Wp.gIx, Wp.rSet, Wp.rAdd, Wp.rMul, Wp.rMod, Wp.rSub, Wp.rFdiv, Wp.rPow, Wp.rInt, Wp.rIx, Wp.rLt, Wp.rLe, Wp.rCmp, Wp.rGeI, Wp.rGtI, Wp.wCB, Wp.rLen, Wp.rLen1, Wp.rInt1, Wp.rMax2, Wp.rMin2, Wp.rTupOf, Wp.rListOf,
  Wp.wIsi, Wp.rBIs, Wp.rIsN, Wp.isNon, Wp.wMt, Wp.rAppendT, Wp.rExtendT, Wp.rReverseT, Wp.wNot, Wp.wOr, Wp.wAnd, Wp.wAndV, Wp.wOrV, Wp.wNotV, Wp.wFor, Wp.iRg1, Wp.iRg2, Wp.iAnyW, Wp.wAll, Wp.wChain, Wp.wSl, Wp.wNoPart, Wp.wPart, Wp.rSl, Wp.wNeg, Wp.rNeg, Wp.wLc, Wp.wYes, Wp.wDrop, Wp.wipeT, Wp.wAug, List.map, List.set_cons_zero, List.set_cons_succ, List.getElem?_cons_zero, List.getElem?_cons_succ, List.length_cons, List.length_nil, List.cons_append, List.nil_append, List.replicate, Wp.startT,
  true_and, and_true, Wp.wif_true, Wp.wif_false, Wp.ex_some, Wp.ex_some1, Wp.ex_eq, Wp.ex_lst, Wp.ex_lst0, Wp.rEq_int, Bool.false_bne, Bool.true_bne, Int.reduceLT, Int.reduceLE, Int.reduceAdd, Nat.reduceAdd, Nat.reduceSub, eq_self, ite_true, ite_false, beq_self_eq_true, Bool.not_true, Bool.not_false, Wp.isB_0, Wp.isB_1, Wp.isB_2, Wp.isB_3, Wp.isB_4, Wp.isB_5, Wp.isB_6, Wp.isB_7, Wp.isB_8, Wp.isB_9, Wp.isB_10, Wp.isB_11, Wp.isB_12, Wp.isB_13, Wp.isB_14, Wp.isB_15, Wp.isB_16, Wp.isB_17, Wp.isB_18, Wp.isB_19, Wp.isB_20, Wp.isB_21, Wp.isB_22, Wp.isB_23, Wp.isB_24, Wp.isB_25, Wp.isB_26, Wp.isB_27, Wp.isB_28, Wp.isB_29, Wp.isB_30, Wp.isB_31, Wp.isB_32, Wp.isB_33, Wp.isB_34, Wp.isB_35, Wp.cmul_l, Wp.cmul_r, Wp.cpow_lit, Wp.size_le, Wp.size_lt, Wp.atI_0, Wp.atI_1, Wp.atI_2, Wp.atI_3, Wp.atI_4, Wp.atI_5, Wp.atI_6, Wp.ixN_0, Wp.ixN_1, Wp.ixN_2, Wp.itemsT, Wp.tyT, reduceIte, Wp.wFld, Wp.wFSet, Wp.wFAug, Wp.wMeth, Wp.wMake, Wp.rIxA, Wp.rInA, Wp.rSetA, Wp.ixA, Wp.inA, Wp.setA, Wp.lenA, Wp.getD, Option.map_some, Option.bind_some, Option.getD_some,  Wp.gIxA, Wp.wDNew, Wp.wDNewT, Wp.rLenA, Wp.rSortD, Wp.rMaxL, Wp.rPopL, Wp.rGet1, Wp.rGet2, Wp.wGet1, Wp.wGet2, Wp.wPop1, Wp.wPop2, Wp.wDel, Wp.isDT, Wp.keyT, Wp.keysT, Wp.keysL, Wp.ex_ins, Wp.ex_dct, Wp.wIf, Wp.rGt, Wp.rAddI, Int.cast_ofNat_Int, Int.reduceBEq, Wp.wMtN, Wp.rGetN, Wp.wTupVals, Wp.rSortN, Wp.rSortT, Wp.wDNewN, Wp.wDelN, Wp.wRevU, Wp.upS, Wp.upS_upS, *])
local macro_rules | `(tactic| walk_at "run") => `(tactic| repeat (first | walk_at "wp" | walk_at "go"))
local macro_rules | `(tactic| walk_at "wq") => `(tactic| simp (disch := omega) only [Wp.wSeq, Wp.wNext, Wp.wSet, Wp.wVar, Wp.wC, Wp.wOp, Wp.wRet, Wp.wIfS, Wp.wTest, Wp.wCall, Wp.wCons, Wp.wNil, Wp.wTup, Wp.wLst, Wp.wAsg, Wp.gTp, Wp.gC, Wp.gNm, Wp.gN0, Wp.gIx, Wp.rSet, Wp.rAdd, Wp.rMul, Wp.rMod, Wp.rSub, Wp.rFdiv, Wp.rPow, Wp.rInt, Wp.rIx, Wp.rLt, Wp.rLe, Wp.rCmp, Wp.rGeI, Wp.rGtI, Wp.wCB, Wp.rLen, Wp.rLen1, Wp.rInt1, Wp.rMax2, Wp.rMin2, Wp.rTupOf, Wp.rListOf,
  Wp.wIsi, Wp.rBIs, Wp.rIsN, Wp.isNon, Wp.wMt, Wp.rAppendT, Wp.rExtendT, Wp.rReverseT, Wp.wNot, Wp.wOr, Wp.wAnd, Wp.wAndV, Wp.wOrV, Wp.wNotV, Wp.wFor, Wp.iRg1, Wp.iRg2, Wp.iAnyW, Wp.wAll, Wp.wChain, Wp.wSl, Wp.wNoPart, Wp.wPart, Wp.rSl, Wp.wNeg, Wp.rNeg, Wp.wLc, Wp.wYes, Wp.wDrop, Wp.wipeT, Wp.wAug, List.map, List.set_cons_zero, List.set_cons_succ, List.getElem?_cons_zero, List.getElem?_cons_succ, List.length_cons, List.length_nil, List.cons_append, List.nil_append, List.replicate, Wp.startT,
  true_and, and_true, Wp.wif_true, Wp.wif_false, Wp.ex_some, Wp.ex_some1, Wp.ex_eq, Wp.ex_lst, Wp.ex_lst0, Wp.rEq_int, Bool.false_bne, Bool.true_bne, Int.reduceLT, Int.reduceLE, Int.reduceAdd, Nat.reduceAdd, Nat.reduceSub, eq_self, ite_true, ite_false, beq_self_eq_true, Bool.not_true, Bool.not_false, Wp.isB_0, Wp.isB_1, Wp.isB_2, Wp.isB_3, Wp.isB_4, Wp.isB_5, Wp.isB_6, Wp.isB_7, Wp.isB_8, Wp.isB_9, Wp.isB_10, Wp.isB_11, Wp.isB_12, Wp.isB_13, Wp.isB_14, Wp.isB_15, Wp.isB_16, Wp.isB_17, Wp.isB_18, Wp.isB_19, Wp.isB_20, Wp.isB_21, Wp.isB_22, Wp.isB_23, Wp.isB_24, Wp.isB_25, Wp.isB_26, Wp.isB_27, Wp.isB_28, Wp.isB_29, Wp.isB_30, Wp.isB_31, Wp.isB_32, Wp.isB_33, Wp.isB_34, Wp.isB_35, Wp.cmul_l, Wp.cmul_r, Wp.cpow_lit, Wp.size_le, Wp.size_lt, Wp.atI_0, Wp.atI_1, Wp.atI_2, Wp.atI_3, Wp.atI_4, Wp.atI_5, Wp.atI_6, Wp.ixN_0, Wp.ixN_1, Wp.ixN_2, Wp.itemsT, Wp.tyT, reduceIte, Wp.wFld, Wp.wFSet, Wp.wFAug, Wp.wMeth, Wp.wMake, Wp.rIxA, Wp.rInA, Wp.rSetA, Wp.ixA, Wp.inA, Wp.setA, Wp.lenA, Wp.getD, Option.map_some, Option.bind_some, Option.getD_some,  Wp.gIxA, Wp.wDNew, Wp.wDNewT, Wp.rLenA, Wp.rSortD, Wp.rMaxL, Wp.rPopL, Wp.rGet1, Wp.rGet2, Wp.wGet1, Wp.wGet2, Wp.wPop1, Wp.wPop2, Wp.wDel, Wp.isDT, Wp.keyT, Wp.keysT, Wp.keysL, Wp.ex_ins, Wp.ex_dct, Wp.wIf, Wp.rGt, Wp.rAddI, Int.cast_ofNat_Int, Int.reduceBEq, Wp.wMtN, Wp.rGetN, Wp.wTupVals, Wp.rSortN, Wp.rSortT, Wp.wDNewN, Wp.wDelN, Wp.wRevU, *])
local macro_rules | `(tactic| walk_at "r2") => `(tactic| repeat (first | walk_at "wq" | walk_at "go"))
local macro_rules | `(tactic| walk_at "w0") => `(tactic| simp (disch := omega) only [Wp.wSeq, Wp.wNext, Wp.wSet, Wp.wVar, Wp.wC, Wp.wOp, Wp.wRet, Wp.wIfS, Wp.wTest, Wp.wCall, Wp.wCons, Wp.wNil, Wp.wTup, Wp.wLst, Wp.wAsg, Wp.gTp, Wp.gC, Wp.gNm, Wp.gN0, Wp.gIx, Wp.rSet, Wp.rAdd, Wp.rMul, Wp.rMod, Wp.rSub, Wp.rFdiv, Wp.rPow, Wp.rInt, Wp.rIx, Wp.rLt, Wp.rLe, Wp.rCmp, Wp.rGeI, Wp.rGtI, Wp.wCB, Wp.rLen, Wp.rLen1, Wp.rInt1, Wp.rMax2, Wp.rMin2, Wp.rTupOf, Wp.rListOf,
  Wp.wIsi, Wp.rBIs, Wp.rIsN, Wp.isNon, Wp.wMt, Wp.rAppendT, Wp.rExtendT, Wp.rReverseT, Wp.wNot, Wp.wOr, Wp.wAnd, Wp.wAndV, Wp.wOrV, Wp.wNotV, Wp.wFor, Wp.iRg1, Wp.iRg2, Wp.iAnyW, Wp.wAll, Wp.wChain, Wp.wSl, Wp.wNoPart, Wp.wPart, Wp.rSl, Wp.wNeg, Wp.rNeg, Wp.wLc, Wp.wYes, Wp.wDrop, Wp.wipeT, Wp.wAug, List.map, List.set_cons_zero, List.set_cons_succ, List.getElem?_cons_zero, List.getElem?_cons_succ, List.length_cons, List.length_nil, List.cons_append, List.nil_append, List.replicate, Wp.startT,
  true_and, and_true, Wp.wif_true, Wp.wif_false, Wp.ex_some, Wp.ex_some1, Wp.ex_eq, Wp.ex_lst, Wp.ex_lst0, Wp.rEq_int, Bool.false_bne, Bool.true_bne, Int.reduceLT, Int.reduceLE, Int.reduceAdd, Nat.reduceAdd, Nat.reduceSub, eq_self, ite_true, ite_false, beq_self_eq_true, Bool.not_true, Bool.not_false, Wp.isB_0, Wp.isB_1, Wp.isB_2, Wp.isB_3, Wp.isB_4, Wp.isB_5, Wp.isB_6, Wp.isB_7, Wp.isB_8, Wp.isB_9, Wp.isB_10, Wp.isB_11, Wp.isB_12, Wp.isB_13, Wp.isB_14, Wp.isB_15, Wp.isB_16, Wp.isB_17, Wp.isB_18, Wp.isB_19, Wp.isB_20, Wp.isB_21, Wp.isB_22, Wp.isB_23, Wp.isB_24, Wp.isB_25, Wp.isB_26, Wp.isB_27, Wp.isB_28, Wp.isB_29, Wp.isB_30, Wp.isB_31, Wp.isB_32, Wp.isB_33, Wp.isB_34, Wp.isB_35, Wp.cmul_l, Wp.cmul_r, Wp.cpow_lit, Wp.size_le, Wp.size_lt, Wp.atI_0, Wp.atI_1, Wp.atI_2, Wp.atI_3, Wp.atI_4, Wp.atI_5, Wp.atI_6, Wp.ixN_0, Wp.ixN_1, Wp.ixN_2, Wp.itemsT, Wp.tyT, reduceIte, Wp.wFld, Wp.wFSet, Wp.wFAug, Wp.wMeth, Wp.wMake, Wp.rIxA, Wp.rInA, Wp.rSetA, Wp.ixA, Wp.inA, Wp.setA, Wp.lenA, Wp.getD, Option.map_some, Option.bind_some, Option.getD_some,  Wp.gIxA, Wp.wDNew, Wp.wDNewT, Wp.rLenA, Wp.rSortD, Wp.rMaxL, Wp.rPopL, Wp.rGet1, Wp.rGet2, Wp.wGet1, Wp.wGet2, Wp.wPop1, Wp.wPop2, Wp.wDel, Wp.isDT, Wp.keyT, Wp.keysT, Wp.keysL, Wp.ex_ins, Wp.ex_dct, Wp.wIf, Wp.rGt, Wp.rAddI, Int.cast_ofNat_Int, Int.reduceBEq, Wp.wMtN, Wp.rGetN, Wp.wTupVals, Wp.rSortN, Wp.rSortT, Wp.wDNewN, Wp.wDelN, Wp.wRevU])
local macro_rules | `(tactic| walk_at "r0") => `(tactic| repeat (first | walk_at "w0" | walk_at "go"))
/-! ### a turn of the law -/
theorem see_rw (S : Sta) (rs : List Rw) : see S (repT rs) = repT rs := rfl
theorem ok_rw (r : Rw) (h : r.Ok) : okT (rwT r) = true ∧ dqT (rwT r) ≤ 2 := by
  obtain ⟨a1, a2⟩ := ok_fl r.f h.f
  obtain ⟨b1, b2⟩ := ok_lf r.l h.l
  obtain ⟨c1, c2⟩ := okT_pl r.p h.p
  unfold rwT
  rw [okT, okTs, okTs, okTs, okTs, okTs, dqT, dqTs, dqTs, dqTs, dqTs, dqTs, a1, b1, c1, show okT (T.int r.e) = true from rfl, show dqT (T.int r.e) = 0 from rfl]
  exact ⟨rfl, by omega⟩
theorem ok_rws : ∀ rs : List Rw, okL rs → okTs (rs.map rwT) = true ∧ dqTs (rs.map rwT) ≤ 2
  | [], _ => ⟨rfl, by show 0 ≤ 2; omega⟩
  | r :: rs, h => by
    obtain ⟨a1, a2⟩ := ok_rw r (h r List.mem_cons_self)
    obtain ⟨b1, b2⟩ := ok_rws rs fun x hx => h x (List.mem_cons_of_mem _ hx)
    rw [List.map_cons, okTs, a1, b1, dqTs]
    exact ⟨rfl, Nat.max_le.mpr ⟨a2, b2⟩⟩
theorem ok_rep (rs : List Rw) (h : okL rs) : okT (repT rs) = true ∧ dqT (repT rs) ≤ 3 := by
  obtain ⟨a1, a2⟩ := ok_rws rs h
  unfold repT
  rw [okT, dqT, a1]
  exact ⟨rfl, by omega⟩
theorem ok_reps : ∀ reps : List (List Rw), (∀ rs ∈ reps, okL rs) → okTs (reps.map repT) = true ∧ dqTs (reps.map repT) ≤ 3
  | [], _ => ⟨rfl, by show 0 ≤ 3; omega⟩
  | r :: rs, h => by
    obtain ⟨a1, a2⟩ := ok_rep r (h r List.mem_cons_self)
    obtain ⟨b1, b2⟩ := ok_reps rs fun x hx => h x (List.mem_cons_of_mem _ hx)
    rw [List.map_cons, okTs, a1, b1, dqTs]
    exact ⟨rfl, Nat.max_le.mpr ⟨a2, b2⟩⟩
theorem sees_reps {S : Sta} {q : Addr} {reps : List (List Rw)} (h : S q = some (.lst (reps.map repT))) : see S (.ref q) = .fl (reps.map repT) := see_ref h
def turnS (reps : List (List Rw)) : List (List Rw) := (reps.map List.reverse).reverse ++ ((reps.map List.reverse).reverse).take 1
theorem turnS_mem {reps : List (List Rw)} {r : Rw} : r ∈ (turnS reps).flatten ↔ r ∈ reps.flatten := by
  have a : ∀ l, l ∈ (reps.map List.reverse).reverse ↔ ∃ rs ∈ reps, rs.reverse = l := fun l => by rw [List.mem_reverse, List.mem_map]
  constructor
  · intro h
    obtain ⟨l, hl, hr⟩ := List.mem_flatten.mp h
    have : l ∈ (reps.map List.reverse).reverse := by
      rcases List.mem_append.mp hl with hl | hl
      · exact hl
      · exact List.mem_of_mem_take hl
    obtain ⟨rs, h1, rfl⟩ := (a l).mp this
    exact List.mem_flatten.mpr ⟨rs, h1, List.mem_reverse.mp hr⟩
  · intro h
    obtain ⟨rs, h1, hr⟩ := List.mem_flatten.mp h
    exact List.mem_flatten.mpr ⟨rs.reverse, List.mem_append_left _ ((a _).mpr ⟨rs, h1, rfl⟩), List.mem_reverse.mpr hr⟩
theorem flat_len {n : Nat} : ∀ reps : List (List Rw), (∀ rs ∈ reps, rs.length ≤ n) → reps.flatten.length ≤ reps.length * n
  | [], _ => Nat.zero_le _
  | r :: reps, h => by
    have := flat_len reps fun x hx => h x (List.mem_cons_of_mem _ hx)
    have := h r List.mem_cons_self
    rw [List.flatten_cons, List.length_append, List.length_cons, Nat.succ_mul]; omega
theorem in_len {reps : List (List Rw)} {rs : List Rw} (h : rs ∈ reps) : rs.length ≤ reps.flatten.length := by
  obtain ⟨a, b, rfl⟩ := List.append_of_mem h
  rw [List.flatten_append, List.flatten_cons, List.length_append, List.length_append]; omega
theorem turnS_len {reps : List (List Rw)} (h : reps.flatten.length ≤ 20) (h4 : reps.length ≤ 4) : (turnS reps).flatten.length ≤ 200 := by
  have := flat_len (n := 20) (turnS reps) fun rs hrs => by
    have : rs ∈ (reps.map List.reverse).reverse := by
      rcases List.mem_append.mp hrs with hl | hl
      · exact hl
      · exact List.mem_of_mem_take hl
    obtain ⟨x, hx, rfl⟩ := List.mem_map.mp (List.mem_reverse.mp this)
    have := in_len hx
    rw [List.length_reverse]; omega
  have e : (turnS reps).length ≤ 5 := by
    unfold turnS
    rw [List.length_append, List.length_reverse, List.length_map, List.length_take, List.length_reverse, List.length_map]; omega
  have : (turnS reps).length * 20 ≤ 5 * 20 := Nat.mul_le_mul_right _ e
  omega
theorem turnS_ok {reps : List (List Rw)} (h : ∀ rs ∈ reps, okL rs) : ∀ rs ∈ turnS reps, okL rs := fun rs hrs x hx => by
  have : rs ∈ (reps.map List.reverse).reverse := by
    rcases List.mem_append.mp hrs with hl | hl
    · exact hl
    · exact List.mem_of_mem_take hl
  obtain ⟨y, hy, rfl⟩ := List.mem_map.mp (List.mem_reverse.mp this)
  exact h y hy x (List.mem_reverse.mp hx)
theorem turnS_rep {reps : List (List Rw)} : ((reps.map fun rs => repT rs.reverse).reverse ++ ((reps.map fun rs => repT rs.reverse).reverse).take 1) = (turnS reps).map repT := by
  unfold turnS
  rw [List.map_append, List.map_take, List.map_reverse, List.map_map]
  rfl
theorem see_out (S : Sta) (rs : List Rw) : see S (.tup (rs.map rwT)) = .tup (rs.map rwT) := rfl
def fairI : WS := (wIfS (wNot (wTest (wCall 1 spFair (wCons (wVar 3) wNil)))) wCont wNext)
def befT : WS := (wSet 8 (wLc (iAnyW (wVar 3)) (gNm 9) wYes (l5_law spBag3 spDr spRow spFair spDue spDir) [9]))
def dueS : WS := (wSet 10 (wCall 2 spDue (wCons (wVar 3) (wCons (wVar 6) wNil))))
def cmpT : WS := (wIfS (wOr (wTest (wOp (Wp.rEq true) (wCall 2 spDir (wCons (wVar 3) (wCons (wVar 6) wNil))) (wVar 10))) (wTest (wOp (Wp.rEq true) (wVar 3) (wVar 8)))) (wRet (wC (.bl false))) wNext)
def turT : WS := (wSet 11 (wRev (wLc (iAnyW (wVar 3)) (gNm 9) wYes (l6_law spBag3 spDr spRow spFair spDue spDir) [9])))
def lasT : WS := (wIfS (wTest (wOp (Wp.rEq true) (wCall 2 spDir (wCons (wOp Wp.rAdd (wVar 11) (wSl (wVar 11) wNoPart (wPart (wC (.int 1))))) (wCons (wVar 6) wNil))) (wVar 10))) (wRet (wC (.bl false))) wNext)
section
variable {R q t : Addr} {S : Sta} {D : WEnds} {reps : List (List Rw)} {out : List Rw} {bs : List Nat} {v0 v1 v2 v4 v5 v7 v8 v9 v10 v11 : Option T}
theorem fairI_ok (eR : S R = some (.lst (reps.map repT))) (ok : ∀ rs ∈ reps, okL rs) (fl : reps.flatten.length ≤ 20)
    (ct : ∀ S', D.ct [v0, v1, v2, some (.ref R), v4, v5, some (.tup (bs.map plT)), v7, v8, none, v10, v11] S')
    (nx : ∀ S', Fair reps.flatten → Wp.Gr S S' → D.nx [v0, v1, v2, some (.ref R), v4, v5, some (.tup (bs.map plT)), v7, v8, none, v10, v11] S') :
    fairI D [v0, v1, v2, some (.ref R), v4, v5, some (.tup (bs.map plT)), v7, v8, none, v10, v11] S := by
  unfold fairI
  walk_at "r0"
  exact ⟨reps, eR, ok, by omega, fun fair S1 g1 => wif_f (goS_i (nx S1 fair g1)), fun S1 g1 => wif_t (ct S1)⟩
theorem befT_ok (eR : S R = some (.lst (reps.map repT))) (h4 : reps.length ≤ 4)
    (nx : ∀ q S', S' q = some (.lst (reps.map repT)) → Wp.Gr S S' → D.nx [v0, v1, v2, some (.ref R), v4, v5, some (.tup (bs.map plT)), v7, some (.ref q), none, v10, v11] S') :
    befT D [v0, v1, v2, some (.ref R), v4, v5, some (.tup (bs.map plT)), v7, v8, none, v10, v11] S := by
  unfold befT
  refine ⟨.ref R, rfl, _, eR, ?_⟩
  intro q hq
  have nq : R ≠ q := fun z => by rw [z, hq] at eR; cases eR
  refine compW_on repT repT (fun _ => true) (fun acc => by rw [upS_ne nq]; exact eR) reps [] (fun r hr acc R k => k) (fun r hr hc acc R k => ⟨_, rfl, k⟩) (by show 0 + _ ≤ _; omega) ?_
  rw [List.nil_append, show (reps.filter fun _ => true) = reps from List.filter_eq_self.mpr fun _ _ => rfl]
  exact goS_i (nx q _ upS_same (gr_new hq))
theorem dueS_ok (eR : S R = some (.lst (reps.map repT))) (ok : ∀ rs ∈ reps, okL rs) (fl : reps.flatten.length ≤ 20) (hb : ∀ b ∈ bs, b < 5) (hb0 : 0 ∉ bs) (fair : Fair reps.flatten)
    (nx : ∀ out S', Res reps.flatten bs out → Wp.Gr S S' → D.nx [v0, v1, v2, some (.ref R), v4, v5, some (.tup (bs.map plT)), v7, v8, none, some (.tup (out.map rwT)), v11] S') :
    dueS D [v0, v1, v2, some (.ref R), v4, v5, some (.tup (bs.map plT)), v7, v8, none, v10, v11] S := by
  unfold dueS
  walk_at "r0"
  exact ⟨reps, bs, eR, rfl, ok, by omega, hb, hb0, fair, fun out S' rs g => goS_i (nx out S' rs g)⟩
theorem rEq_out {neg : Bool} {S : Sta} {Q : T → Sta → Prop} {out : List Rw} (ok : okL out) (h : Q (.bl (!neg)) S) : Wp.rEq neg (.tup (out.map rwT)) (.tup (out.map rwT)) S Q := by
  obtain ⟨a1, a2⟩ := ok_rws out ok
  exact rEq_okS (see_out S out) (see_out S out) (by rw [okT]; exact a1) (by rw [dqT]; omega) h
theorem cmpT_ok (eR : S R = some (.lst (reps.map repT))) (eq : S q = some (.lst (reps.map repT))) (ok : ∀ rs ∈ reps, okL rs) (fl : reps.flatten.length ≤ 20) (hb : ∀ b ∈ bs, b < 5) (fair : Fair reps.flatten) (ro : Res reps.flatten bs out)
    (nx : ∀ S', Wp.Gr S S' → D.nx [v0, v1, v2, some (.ref R), v4, v5, some (.tup (bs.map plT)), v7, some (.ref q), none, some (.tup (out.map rwT)), v11] S') :
    cmpT D [v0, v1, v2, some (.ref R), v4, v5, some (.tup (bs.map plT)), v7, some (.ref q), none, some (.tup (out.map rwT)), v11] S := by
  unfold cmpT
  walk_at "r0"
  refine ⟨reps, bs, eR, rfl, ok, by omega, hb, fair, fun out' S' rs oko _ g => ?_⟩
  obtain rfl := rs.uniq ro (fun _ => Iff.rfl) fair
  refine rEq_out oko ?_
  show wif (!true) _ _
  refine wif_f ?_
  obtain ⟨b1, b2⟩ := ok_reps reps ok
  refine rEq_okS (see_ref (g _ _ eR)) (see_ref (g _ _ eq)) (by rw [okT]; exact b1) (by rw [dqT]; omega) ?_
  exact wif_f (goS_i (nx S' g))
theorem turT_ok (eR : S R = some (.lst (reps.map repT))) (h4 : reps.length ≤ 4)
    (nx : ∀ t S', S' t = some (.lst (reps.map fun rs => repT rs.reverse).reverse) → Wp.Gr S S' → D.nx [v0, v1, v2, some (.ref R), v4, v5, some (.tup (bs.map plT)), v7, v8, none, v10, some (.ref t)] S') :
    turT D [v0, v1, v2, some (.ref R), v4, v5, some (.tup (bs.map plT)), v7, v8, none, v10, v11] S := by
  unfold turT
  refine ⟨.ref R, rfl, _, eR, ?_⟩
  intro q hq
  have nq : R ≠ q := fun z => by rw [z, hq] at eR; cases eR
  refine compW_on repT (fun rs => repT rs.reverse) (fun _ => true) (fun acc => by rw [upS_ne nq]; exact eR) reps [] (fun r hr acc R k => k) (fun r hr hc acc R k => ⟨repT r, rfl, r.map rwT, rfl, ?_⟩) (by show 0 + _ ≤ _; omega) ?_
  · rw [← List.map_reverse]; exact k
  rw [List.nil_append, show (reps.filter fun _ => true) = reps from List.filter_eq_self.mpr fun _ _ => rfl]
  obtain ⟨S1, w1, g1, e1⟩ := al_ (o := .lst (reps.map fun rs => repT rs.reverse)) hq
  rw [w1]
  refine ⟨_, e1, fun t ht => ?_⟩
  obtain ⟨S2, w2, g2, e2⟩ := al_ (o := .lst (reps.map fun rs => repT rs.reverse).reverse) ht
  rw [w2]
  exact goS_i (nx t S2 e2 fun x o e => g2 _ _ (g1 _ _ e))
theorem lasT_ok (et : S t = some (.lst (reps.map fun rs => repT rs.reverse).reverse)) (ok : ∀ rs ∈ reps, okL rs) (fl : reps.flatten.length ≤ 20) (h4 : reps.length ≤ 4) (hb : ∀ b ∈ bs, b < 5) (fair : Fair reps.flatten) (ro : Res reps.flatten bs out)
    (nx : ∀ S', D.nx [v0, v1, v2, some (.ref R), v4, v5, some (.tup (bs.map plT)), v7, v8, none, some (.tup (out.map rwT)), some (.ref t)] S') :
    lasT D [v0, v1, v2, some (.ref R), v4, v5, some (.tup (bs.map plT)), v7, v8, none, some (.tup (out.map rwT)), some (.ref t)] S := by
  unfold lasT
  walk_at "r0"
  refine ⟨(reps.map fun rs => repT rs.reverse).reverse, by simp only [et], fun p hp => ?_⟩
  have nt : t ≠ p := fun z => by rw [z, hp] at et; cases et
  rw [show (some (1 : Int)) = some ((1 : Nat) : Int) from rfl, cutT_to]
  refine ⟨_, by rw [upS_ne nt]; exact et, _, upS_same, by rw [List.length_take, List.length_reverse, List.length_map, sizeLine_eq]; omega, fun r hr => ?_⟩
  rw [turnS_rep]
  have fair2 : Fair (turnS reps).flatten := fun a ha b hb => fair a (turnS_mem.mp ha) b (turnS_mem.mp hb)
  refine ⟨turnS reps, bs, upS_same, rfl, turnS_ok ok, turnS_len fl h4, hb, fair2, fun out' S' rs oko _ g => ?_⟩
  obtain rfl := rs.uniq ro (fun _ => turnS_mem) fair2
  refine rEq_out oko ?_
  exact wif_f (goS_i (nx S'))
def turnT : WS := wSeq (wSet 2 (wCall 2 spBag3 (wCons (wVar 0) (wCons (wVar 1) wNil)))) (wSeq repsT (wSeq birT (wSeq fairI (wSeq befT (wSeq dueS (wSeq cmpT (wSeq turT lasT)))))))
theorem turnT_is : l7_law spBag3 spDr spRow spFair spDue spDir = turnT := rfl
theorem turn_ok {ns : List Int} {k : Int} (hk : 0 ≤ k) (hl : ns.length ≤ 1000) {u2 u3 u6 u8 u10 u11 : Option T}
    (ct : ∀ v1 v2 v3 v6 v8 v10 v11 S', D.ct [some (.fl (ns.map T.int)), v1, v2, v3, none, none, v6, none, v8, none, v10, v11] S')
    (nx : ∀ v1 v2 v3 v6 v8 v10 v11 S', D.nx [some (.fl (ns.map T.int)), v1, v2, v3, none, none, v6, none, v8, none, v10, v11] S') :
    l7_law spBag3 spDr spRow spFair spDue spDir D [some (.fl (ns.map T.int)), some (.int k), u2, u3, none, none, u6, none, u8, none, u10, u11] S := by
  rw [turnT_is]
  unfold turnT
  generalize hT : (wSeq repsT (wSeq birT (wSeq fairI (wSeq befT (wSeq dueS (wSeq cmpT (wSeq turT lasT))))))) = TT
  walk_at "r0"
  refine ⟨ns, rfl, hk, hl, fun p S1 hp g1 hb => goS_i ?_⟩
  subst hT
  show repsT _ _ _
  refine reps_make hb fun reps q S2 ok fl h4 g2 e2 nqp => ?_
  show birT _ _ _
  refine bir_make g2.bag fun bs S3 hbs hb0 g3 => ?_
  have e3 := g3.keep q _ e2 nqp
  show fairI _ _ _
  refine fairI_ok e3 ok fl (fun S' => ct _ _ _ _ _ _ _ S') fun S4 fair g4 => ?_
  have e4 := g4 _ _ e3
  show befT _ _ _
  refine befT_ok e4 h4 fun b S5 eb g5 => ?_
  have e5 := g5 _ _ e4
  show dueS _ _ _
  refine dueS_ok e5 ok fl hbs hb0 fair fun out S6 ro g6 => ?_
  show cmpT _ _ _
  refine cmpT_ok (g6 _ _ e5) (g6 _ _ eb) ok fl hbs fair ro fun S7 g7 => ?_
  show turT _ _ _
  refine turT_ok (g7 _ _ (g6 _ _ e5)) h4 fun t S8 et g8 => ?_
  show lasT _ _ _
  exact lasT_ok et ok fl h4 hbs fair ro fun S9 => nx _ _ _ _ _ _ _ S9
end
theorem hw_law : ∀ ts S Q E, ts.length = 1 → spLaw ts S Q E → b_law spBag3 spDr spRow spFair spDue spDir { nx := fun _ S' => Q .non S', rt := Q } (Wp.startT N_law ts) S := by
  intro ts S Q E _ h
  obtain ⟨ns, rfl, hl, hS, hQ⟩ := h
  unfold b_law N_law
  walk_at "r0"
  rw [List.length_map]
  refine ⟨by split <;> split <;> omega, by split <;> split <;> omega, ?_⟩
  refine loop_inv (fun i σ S' => ∃ v1 v2 v3 v6 v8 v10 v11, σ = [some (.fl (ns.map T.int)), v1, v2, v3, none, none, v6, none, v8, none, v10, v11]) ⟨_, _, _, _, _, _, _, rfl⟩ (fun _ _ _ _ => trivial) (fun i x σ S' LP hx hI nx => ?_) (fun σ S' hI => ?_)
  · obtain ⟨v1, v2, v3, v6, v8, v10, v11, rfl⟩ := hI
    obtain ⟨hi, rfl⟩ := range_at hx
    exact turn_ok (by omega) (by omega) (fun v1 v2 v3 v6 v8 v10 v11 S' => nx _ S' ⟨v1, v2, v3, v6, v8, v10, v11, rfl⟩) (fun v1 v2 v3 v6 v8 v10 v11 S' => nx _ S' ⟨v1, v2, v3, v6, v8, v10, v11, rfl⟩)
  · obtain ⟨v1, v2, v3, v6, v8, v10, v11, rfl⟩ := hI
    walk_at "r0"
    intro q hq
    refine ⟨[], [], upS_same, rfl, fun x hx => (by cases hx), Nat.zero_le _, fun x hx => (by cases hx), fun x hx => (by cases hx), fun out S1 ro oko _ g => ?_⟩
    have : out = [] := by
      cases out with
      | nil => rfl
      | cons a l => exact absurd (ro.mem a List.mem_cons_self) (by simp)
    subst this
    exact rEq_out (out := []) oko (hQ S1)
end My

set_option Elab.async false
set_option linter.all false
set_option maxRecDepth 100000
namespace My
open PySem PySem.Spec PyProof.Rows L2 Wp Gn
section
variable {K : PySem.W.Frag} {mg : Str → Option Value}
theorem law_ok {l : PySem.W.OpenLaw} {w : World} {h : Heap} {fa : Addr}  (T : Facts K mg ) (X : K.In h) (G : h.Ns mainGlobals mg) (hfa : mg "law" = some (.ref fa)) :
    ∃ fd : FuncData, (∀ (s : Shared) (u : Value), BindsTo s fd ⟨[u], []⟩ [("script", u)]) ∧ ∀ base : Heap, K.In base → base.Ns mainGlobals mg → FnOk l.prog w K mg base CX0 3 fa fd ["script"] (Lsp [] K 1 spLaw) := by
  obtain ⟨f, fd, F, m, b⟩ := T.d_law
  have e := m.symm.trans hfa
  cases e
  refine ⟨fd, fun s u => ?_, fun base hb hg => ?_⟩
  · obtain ⟨oc, od, kV, doc, pm, an, cdv, ct, osl, rfl, lk, hcd⟩ := F.ex
    exact .of_eq rfl
  · have c__law_bag : Cal l.prog w K mg base [] 1 "_law_bag" ["script", "k"] spBag3 := T.d__law_bag.cal fun f fd F => fn__law_bag (k := 0) T F  hw_bag3A
    have c__law_draw : Cal l.prog w K mg base [] 1 "_law_draw" ["bag", "many"] spDr := T.d__law_draw.cal fun f fd F => fn__law_draw (k := 0) T F  hw_dr
    have c__law_row : Cal l.prog w K mg base [] 2 "_law_row" ["bag"] spRow := T.d__law_row.cal fun f fd F => fn__law_row (k := 1) T F c__law_draw hw_row
    have c__law_fair : Cal l.prog w K mg base [] 1 "_law_fair" ["reports"] spFair := T.d__law_fair.cal fun f fd F => fn__law_fair (k := 0) T F  hw_fair
    have c__law_due : Cal l.prog w K mg base [] 1 "_law_due" ["reports", "births"] spDue := T.d__law_due.cal fun f fd F => fn__law_due (k := 0) T F  hw_due
    have c__counts_more : Cal l.prog w K mg base [] 1 "_counts_more" ["row", "other"] spMore := T.d__counts_more.cal fun f fd F => fn__counts_more (k := 0) T F  hw_more
    have c_directory_of : Cal l.prog w K mg base [] 2 "directory_of" ["reports", "births"] spDir := T.d_directory_of.cal fun f fd F => fn_directory_of (k := 1) T F c__counts_more hw_dir
    exact fn_law (k := 2) T F (c__law_bag.mono (by decide)) (c__law_draw.mono (by decide)) c__law_row (c__law_fair.mono (by decide)) (c__law_due.mono (by decide)) c_directory_of hw_law
end
end My
open PySem PySem.W PyProof.Rows
set_option maxHeartbeats 0 in
theorem PySem.Challenge.cw_heldflows_k57_directories_from_reports_holds : PySem.Challenge.rw_heldflows_k57_directories_from_reports.Holds := by
  w_on; o_law; k_head; (case hw => w_witness2)
  k_fill
  refine Wp.law_walk (l := PySem.Challenge.rw_heldflows_k57_directories_from_reports) (k := 3) (x := "script") rfl rfl ⟨rfl, by decide, by decide⟩ (fun w h Y => PySem.W.kIn_of Y) ?F
  case F =>
    intro w mg fa h KX G hmg
    refine' My.law_ok (Gn.facts_mk KX G ?a0 ?l0 ?c0 ?k0 ?a1 ?l1 ?c1 ?k1 ?a2 ?l2 ?c2 ?k2 ?a3 ?l3 ?c3 ?k3 ?a4 ?l4 ?c4 ?k4 ?a5 ?l5 ?c5 ?k5 ?a6 ?l6 ?c6 ?k6 ?a7 ?l7 ?c7 ?k7 ?z_int ?z_len ?z_max ?z_min ?z_range ?z_sorted ?z_tuple) KX G hmg
    (case a0 => k_is); (case l0 => k_is); (case c0 => k_is); (case k0 => k_is); (case a1 => k_is); (case l1 => k_is); (case c1 => k_is); (case k1 => k_is); (case a2 => k_is); (case l2 => k_is); (case c2 => k_is); (case k2 => k_is); (case a3 => k_is); (case l3 => k_is); (case c3 => k_is); (case k3 => k_is); (case a4 => k_is); (case l4 => k_is); (case c4 => k_is); (case k4 => k_is); (case a5 => k_is); (case l5 => k_is); (case c5 => k_is); (case k5 => k_is); (case a6 => k_is); (case l6 => k_is); (case c6 => k_is); (case k6 => k_is); (case a7 => k_is); (case l7 => k_is); (case c7 => k_is); (case k7 => k_is); (case z_int => k_is); (case z_len => k_is); (case z_max => k_is); (case z_min => k_is); (case z_range => k_is); (case z_sorted => k_is); (case z_tuple => k_is)

