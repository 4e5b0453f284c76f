import PyProof.Rows.All
import Wide.All
import OpenK.AllK
import Wide.FinOn
import HandS.ForMost
import HandS.ForExc
import HandS.FStr
import HandS.TryMany
import HandS.ExcInit
import HandS.ExcSuper
import HandS.Evl
import HandS.ExcField
import HandS.IsInst
import KE.KExcSuper
import PySem.Challenge.RW_skewer_k00_tokens_of_a_line
set_option Elab.async false
set_option linter.all false
set_option maxRecDepth 100000
set_option maxHeartbeats 4000000
/-! Ev: a small calculus of values over the hand layer: data as trees, lists that one slot owns, a core language with a total evaluator, and its soundness. -/
namespace Ev
open PySem PySem.Spec PyProof.Rows L2

/-- data: what a value is, read as a tree -/
inductive D where
  | non | bl (b : Bool) | int (i : Int) | str (x : Str)
  | lst (xs : List D) | tup (xs : List D)
  | obj (c : Str) (fs : List (Str × D))
  | exc (c : Str) (fs : List (Str × D))

/-- the written part and where the program's classes stand -/
structure Gx where
  K : PySem.W.Frag
  ct : Str → Option Addr

mutual
/-- over the frozen heap F the value v is the tree d -/
inductive Rep (G : Gx) (F : Hp) : V → D → Prop
  | non : Rep G F .non .non
  | bl (b : Bool) : Rep G F (.bl b) (.bl b)
  | int (i : Int) : Rep G F (.int i) (.int i)
  | str (x : Str) : Rep G F (.str x) (.str x)
  | lst {a : Addr} {vs : List V} {ds : List D} : SqL G.K F a vs → Reps G F vs ds → Rep G F (.ref a) (.lst ds)
  | tup {a : Addr} {vs : List V} {ds : List D} : SqT G.K F a vs → Reps G F vs ds → Rep G F (.ref a) (.tup ds)
  | obj {a C dx : Addr} {c : Str} {fs : List (Str × V)} {gs : List (Str × D)} : F a = some (.ins C dx fs) → G.ct c = some C → RepF G F fs gs → Rep G F (.ref a) (.obj c gs)
  | exc {a : Addr} {c : Str} {fs : List (Str × V)} {gs : List (Str × D)} : F a = some (.xd fs) → RepF G F fs gs → Rep G F (.ref a) (.exc c gs)
inductive Reps (G : Gx) (F : Hp) : List V → List D → Prop
  | nil : Reps G F [] []
  | cons {v : V} {vs : List V} {d : D} {ds : List D} : Rep G F v d → Reps G F vs ds → Reps G F (v :: vs) (d :: ds)
inductive RepF (G : Gx) (F : Hp) : List (Str × V) → List (Str × D) → Prop
  | nil : RepF G F [] []
  | cons {f : Str} {v : V} {vs : List (Str × V)} {d : D} {ds : List (Str × D)} : Rep G F v d → RepF G F vs ds → RepF G F ((f, v) :: vs) ((f, d) :: ds)
end

mutual
theorem Rep.mono {G : Gx} {F F' : Hp} (s : Same F F') : ∀ {v : V} {d : D}, Rep G F v d → Rep G F' v d
  | _, _, .non => .non
  | _, _, .bl b => .bl b
  | _, _, .int i => .int i
  | _, _, .str x => .str x
  | _, _, .lst h r => .lst (s.seq h) (Reps.mono s r)
  | _, _, .tup h r => .tup (by
      rcases h with (h | ⟨o, h⟩) | h
      · exact .inl (.inl (s _ _ h))
      · exact .inl (.inr ⟨o, s _ _ h⟩)
      · exact .inr h) (Reps.mono s r)
  | _, _, .obj h c r => .obj (s _ _ h) c (RepF.mono s r)
  | _, _, .exc h r => .exc (s _ _ h) (RepF.mono s r)
theorem Reps.mono {G : Gx} {F F' : Hp} (s : Same F F') : ∀ {vs : List V} {ds : List D}, Reps G F vs ds → Reps G F' vs ds
  | _, _, .nil => .nil
  | _, _, .cons h r => .cons (Rep.mono s h) (Reps.mono s r)
theorem RepF.mono {G : Gx} {F F' : Hp} (s : Same F F') : ∀ {vs : List (Str × V)} {ds : List (Str × D)}, RepF G F vs ds → RepF G F' vs ds
  | _, _, .nil => .nil
  | _, _, .cons h r => .cons (Rep.mono s h) (RepF.mono s r)
end

section
variable {G : Gx} {F : Hp}
theorem Reps.length : ∀ {vs : List V} {ds : List D}, Reps G F vs ds → vs.length = ds.length
  | _, _, .nil => rfl
  | _, _, .cons _ r => by rw [List.length_cons, List.length_cons, r.length]
theorem Reps.get : ∀ {vs : List V} {ds : List D} {i : Nat} {d : D}, Reps G F vs ds → ds[i]? = some d → ∃ v, vs[i]? = some v ∧ Rep G F v d
  | _, _, _, _, .nil, e => by simp at e
  | _, _, 0, _, .cons h _, e => by simp at e; subst e; exact ⟨_, rfl, h⟩
  | _, _, i + 1, _, .cons _ r, e => by
    obtain ⟨v, h1, h2⟩ := Reps.get (i := i) r (by simpa using e)
    exact ⟨v, by simpa using h1, h2⟩
theorem Reps.get' : ∀ {vs : List V} {ds : List D} {i : Nat} {v : V}, Reps G F vs ds → vs[i]? = some v → ∃ d, ds[i]? = some d ∧ Rep G F v d
  | _, _, _, _, .nil, e => by simp at e
  | _, _, 0, _, .cons h _, e => by simp at e; subst e; exact ⟨_, rfl, h⟩
  | _, _, i + 1, _, .cons _ r, e => by
    obtain ⟨v, h1, h2⟩ := Reps.get' (i := i) r (by simpa using e)
    exact ⟨v, by simpa using h1, h2⟩
theorem Reps.append : ∀ {vs ws : List V} {ds es : List D}, Reps G F vs ds → Reps G F ws es → Reps G F (vs ++ ws) (ds ++ es)
  | _, _, _, _, .nil, r => r
  | _, _, _, _, .cons h q, r => .cons h (q.append r)
theorem Reps.take : ∀ {vs : List V} {ds : List D} (n : Nat), Reps G F vs ds → Reps G F (vs.take n) (ds.take n)
  | _, _, 0, _ => .nil
  | _, _, _ + 1, .nil => .nil
  | _, _, n + 1, .cons h r => .cons h (r.take n)
theorem Reps.drop : ∀ {vs : List V} {ds : List D} (n : Nat), Reps G F vs ds → Reps G F (vs.drop n) (ds.drop n)
  | _, _, 0, r => r
  | _, _, _ + 1, .nil => .nil
  | _, _, n + 1, .cons _ r => r.drop n
theorem Reps.set {v : V} {d : D} (h : Rep G F v d) : ∀ {vs : List V} {ds : List D} (i : Nat), Reps G F vs ds → Reps G F (vs.set i v) (ds.set i d)
  | _, _, _, .nil => .nil
  | _, _, 0, .cons _ r => .cons h r
  | _, _, i + 1, .cons q r => .cons q (Reps.set h i r)
theorem RepF.look : ∀ {vs : List (Str × V)} {ds : List (Str × D)} {f : Str} {d : D}, RepF G F vs ds → ds.lookup f = some d → ∃ v, vs.lookup f = some v ∧ Rep G F v d
  | _, _, _, _, .nil, e => by simp at e
  | (g, v) :: vs, _, f, d, .cons h r, e => by
    rw [List.lookup_cons] at e ⊢
    cases q : f == g with
    | true => rw [q] at e; simp at e; subst e; exact ⟨v, rfl, h⟩
    | false => rw [q] at e; simp at e; exact RepF.look r (by simpa using e)
theorem RepF.length : ∀ {vs : List (Str × V)} {ds : List (Str × D)}, RepF G F vs ds → vs.length = ds.length
  | _, _, .nil => rfl
  | _, _, .cons _ r => by rw [List.length_cons, List.length_cons, r.length]
end

/-- a value as it is held: a tree; own: a list whose one holder may change it -/
structure W where
  d : D
  own : Bool

/-- one held value, over the frozen part F of the heap H -/
def Held (G : Gx) (F H : Hp) (v : V) (w : W) : Prop :=
  match w.own with
  | false => Rep G F v w.d
  | true => ∃ a vs ds, v = .ref a ∧ w.d = .lst ds ∧ F a = none ∧ H a = some (.lst vs) ∧ Reps G F vs ds
abbrev Hl := List (V × W)
def oA (p : V × W) : Option Addr := match p.2.own, p.1 with
  | true, .ref a => some a
  | _, _ => none
/-- all of L is held in H -/
def Hd (G : Gx) (H : Hp) (L : Hl) : Prop := ∃ F : Hp, Same F H ∧ (∀ p ∈ L, Held G F H p.1 p.2) ∧ (L.filterMap oA).Nodup

theorem Hd.perm {G : Gx} {H : Hp} {L L' : Hl} (p : L.Perm L') : Hd G H L → Hd G H L' := fun ⟨F, s, h, n⟩ =>
  ⟨F, s, fun q hq => h q (p.symm.subset hq), (p.filterMap oA).nodup_iff.mp n⟩
theorem Hd.sub {G : Gx} {H : Hp} {L L' : Hl} (p : L'.Sublist L) : Hd G H L → Hd G H L' := fun ⟨F, s, h, n⟩ =>
  ⟨F, s, fun q hq => h q (p.subset hq), n.sublist (p.filterMap oA)⟩
theorem Hd.tail {G : Gx} {H : Hp} {p : V × W} {L : Hl} : Hd G H (p :: L) → Hd G H L := Hd.sub (List.sublist_cons_self _ _)

abbrev fz (d : D) : W := ⟨d, false⟩
abbrev ow (ds : List D) : W := ⟨.lst ds, true⟩

section
variable {G : Gx} {H : Hp} {L : Hl} {v : V} {d : D}
/-- the first value, read in the heap itself -/
theorem Hd.rep (h : Hd G H ((v, fz d) :: L)) : Rep G H v d := by
  obtain ⟨F, s, h, _⟩ := h
  exact Rep.mono s (h _ List.mem_cons_self)
theorem Hd.repM {p : V × W} (hp : p ∈ L) (ho : p.2.own = false) (h : Hd G H L) : Rep G H p.1 p.2.d := by
  obtain ⟨F, s, h, _⟩ := h
  have q := h p hp
  unfold Held at q
  rw [ho] at q
  exact Rep.mono s q
/-- a value that needs no heap -/
theorem Hd.cons (r : ∀ F, Rep G F v d) (h : Hd G H L) : Hd G H ((v, fz d) :: L) := by
  obtain ⟨F, s, h, n⟩ := h
  refine ⟨F, s, fun p hp => ?_, by simpa [List.filterMap_cons, oA] using n⟩
  rcases List.mem_cons.mp hp with e | hp
  · subst e; exact r F
  · exact h p hp
/-- a frozen value, from others: whatever F holds them -/
theorem Hd.from {M : Hl} (h : Hd G H (M ++ L)) (r : ∀ F, Same F H → (∀ p ∈ M, Held G F H p.1 p.2) → Rep G F v d) : Hd G H ((v, fz d) :: (M ++ L)) := by
  obtain ⟨F, s, h, n⟩ := h
  refine ⟨F, s, fun p hp => ?_, by simpa [List.filterMap_cons, oA] using n⟩
  rcases List.mem_cons.mp hp with e | hp
  · subst e; exact r F s fun p hp => h p (List.mem_append_left _ hp)
  · exact h p hp
/-- a frozen value is there twice -/
theorem Hd.dup {p : V × W} (hp : p ∈ L) (ho : p.2.own = false) (h : Hd G H L) : Hd G H (p :: L) := by
  obtain ⟨F, s, h, n⟩ := h
  refine ⟨F, s, fun q hq => ?_, ?_⟩
  · rcases List.mem_cons.mp hq with e | hq
    · subst e; exact h _ hp
    · exact h q hq
  · have e : oA p = none := by unfold oA; rw [ho]
    simpa [List.filterMap_cons, e] using n
/-- the owned list, as it stands -/
theorem Hd.owned {a : Addr} {ds : List D} (h : Hd G H ((.ref a, ow ds) :: L)) : ∃ vs, H a = some (.lst vs) ∧ vs.length = ds.length := by
  obtain ⟨F, s, h, _⟩ := h
  obtain ⟨b, vs, es, e1, e2, _, e4, e5⟩ := h _ List.mem_cons_self
  cases e1; cases e2
  exact ⟨vs, e4, e5.length⟩
theorem oA_ref {a : Addr} {p : V × W} (h : p.2.own = true) (e : p.1 = .ref a) : oA p = some a := by unfold oA; rw [h, e]
/-- what an owned value is -/
theorem Hd.own_is {w : W} (ho : w.own = true) (h : Hd G H ((v, w) :: L)) : ∃ a ds, v = .ref a ∧ w = ow ds := by
  obtain ⟨F, s, h, _⟩ := h
  have q := h _ List.mem_cons_self
  unfold Held at q
  simp only [ho] at q
  obtain ⟨a, vs, ds, e1, e2, _⟩ := q
  obtain ⟨d, o⟩ := w
  simp only at ho e2
  subst ho; subst e2
  exact ⟨a, ds, e1, rfl⟩

/-- others hold under a frozen heap that has grown where nothing was owned -/
theorem held_grow {F F' H' : Hp} {p : V × W} (s : Same F F') (k : ∀ a vs, oA p = some a → H a = some (.lst vs) → F' a = none ∧ H' a = some (.lst vs)) (h : Held G F H p.1 p.2) : Held G F' H' p.1 p.2 := by
  unfold Held at h ⊢
  cases ho : p.2.own with
  | false => rw [ho] at h; exact Rep.mono s h
  | true =>
    rw [ho] at h
    obtain ⟨a, vs, ds, e1, e2, e3, e4, e5⟩ := h
    obtain ⟨k1, k2⟩ := k a vs (oA_ref ho e1) e4
    exact ⟨a, vs, ds, e1, e2, k1, k2, e5.mono s⟩
theorem held_addr {F : Hp} {p : V × W} {a : Addr} (h : Held G F H p.1 p.2) (e : oA p = some a) : F a = none ∧ ∃ vs, H a = some (.lst vs) := by
  have ho : p.2.own = true := by
    unfold oA at e
    cases q : p.2.own with
    | true => rfl
    | false => rw [q] at e; cases e
  unfold Held at h
  rw [ho] at h
  obtain ⟨b, vs, ds, e1, e2, e3, e4, e5⟩ := h
  rw [oA_ref ho e1] at e
  cases e
  exact ⟨e3, vs, e4⟩

/-- a new frozen object -/
theorem Hd.laid {p : Addr} {o : HO} {M : Hl} (h : Hd G H (M ++ L)) (hp : H p = none) (r : ∀ F, Same F H → F p = none → (∀ q ∈ M, Held G F H q.1 q.2) → Rep G (upd F p o) v d) : Hd G (upd H p o) ((v, fz d) :: (M ++ L)) := by
  obtain ⟨F, s, h, n⟩ := h
  have hF : F p = none := s.free hp
  have sF : Same F (upd F p o) := fun b u e => by rw [upd_ne (ne_of_none e hF)]; exact e
  refine ⟨upd F p o, fun b u e => ?_, fun q hq => ?_, by simpa [List.filterMap_cons, oA] using n⟩
  · by_cases hb : b = p
    · subst hb; rw [upd_same] at e ⊢; exact e
    · rw [upd_ne hb] at e ⊢; exact s b u e
  · rcases List.mem_cons.mp hq with e | hq
    · subst e; exact r F s hF fun q hq => h q (List.mem_append_left _ hq)
    · refine held_grow sF (fun a vs e1 e2 => ?_) (h q hq)
      have ne : a ≠ p := ne_of_none e2 hp
      rw [upd_ne ne, upd_ne ne]
      exact ⟨(held_addr (h q hq) e1).1, e2⟩
/-- a new list, owned -/
theorem Hd.laidO {p : Addr} {vs : List V} {ds : List D} {M : Hl} (h : Hd G H (M ++ L)) (hp : H p = none) (r : ∀ F, Same F H → (∀ q ∈ M, Held G F H q.1 q.2) → Reps G F vs ds) : Hd G (upd H p (.lst vs)) ((.ref p, ow ds) :: (M ++ L)) := by
  obtain ⟨F, s, h, n⟩ := h
  have hF : F p = none := s.free hp
  refine ⟨F, fun b u e => ?_, fun q hq => ?_, ?_⟩
  · rw [upd_ne (ne_of_none e hF)]; exact s b u e
  · rcases List.mem_cons.mp hq with e | hq
    · subst e; exact ⟨p, vs, ds, rfl, rfl, hF, upd_same, r F s fun q hq => h q (List.mem_append_left _ hq)⟩
    · refine held_grow (Same.refl F) (fun a vs e1 e2 => ?_) (h q hq)
      have ne : a ≠ p := ne_of_none e2 hp
      rw [upd_ne ne]
      exact ⟨(held_addr (h q hq) e1).1, e2⟩
  · rw [List.filterMap_cons, show oA (V.ref p, ow ds) = some p from rfl]
    refine List.nodup_cons.mpr ⟨fun hm => ?_, n⟩
    obtain ⟨q, hq, e⟩ := List.mem_filterMap.mp hm
    obtain ⟨_, us, e4⟩ := held_addr (h q hq) e
    rw [hp] at e4; cases e4
/-- the owned list is changed; M: the values that the new items come of -/
theorem Hd.mut {a : Addr} {vs' : List V} {ds ds' : List D} {M : Hl} (h : Hd G H ((.ref a, ow ds) :: (M ++ L))) (r : ∀ F vs, Same F H → H a = some (.lst vs) → Reps G F vs ds → (∀ q ∈ M, Held G F H q.1 q.2) → Reps G F vs' ds') :
    Hd G (upd H a (.lst vs')) ((.ref a, ow ds') :: (M ++ L)) := by
  obtain ⟨F, s, h, n⟩ := h
  obtain ⟨b, vs, es, e1, e2, e3, e4, e5⟩ := h _ List.mem_cons_self
  cases e1; cases e2
  rw [List.filterMap_cons, show oA (V.ref a, ow ds) = some a from rfl] at n
  obtain ⟨n1, n2⟩ := List.nodup_cons.mp n
  refine ⟨F, fun b u e => ?_, fun q hq => ?_, ?_⟩
  · rw [upd_ne (fun z => by rw [z, e3] at e; cases e)]; exact s b u e
  · rcases List.mem_cons.mp hq with e | hq
    · subst e; exact ⟨a, vs', ds', rfl, rfl, e3, upd_same, r F vs s e4 e5 fun q hq => h q (List.mem_cons_of_mem _ (List.mem_append_left _ hq))⟩
    · refine held_grow (Same.refl F) (fun b us e1 e2 => ?_) (h q (List.mem_cons_of_mem _ hq))
      have ne : b ≠ a := fun z => n1 (List.mem_filterMap.mpr ⟨q, hq, by rw [e1, z]⟩)
      rw [upd_ne ne]
      exact ⟨(held_addr (h q (List.mem_cons_of_mem _ hq)) e1).1, e2⟩
  · rw [List.filterMap_cons, show oA (V.ref a, ow ds') = some a from rfl]
    exact List.nodup_cons.mpr ⟨n1, n2⟩
/-- the owned list is let stand for good -/
theorem Hd.freeze {w : W} (h : Hd G H ((v, w) :: L)) : Hd G H ((v, fz w.d) :: L) := by
  obtain ⟨d, o⟩ := w
  cases o with
  | false => exact h
  | true =>
    obtain ⟨F, s, h, n⟩ := h
    obtain ⟨a, vs, ds, e1, e2, e3, e4, e5⟩ := h _ List.mem_cons_self
    cases e1; cases e2
    rw [List.filterMap_cons, show oA (V.ref a, (⟨D.lst ds, true⟩ : W)) = some a from rfl] at n
    obtain ⟨n1, n2⟩ := List.nodup_cons.mp n
    have sF : Same F (upd F a (.lst vs)) := fun b u e => by rw [upd_ne (ne_of_none e e3)]; exact e
    refine ⟨upd F a (.lst vs), fun b u e => ?_, fun q hq => ?_, by simpa [List.filterMap_cons, oA] using n2⟩
    · by_cases hb : b = a
      · subst hb; rw [upd_same] at e; cases e; exact e4
      · rw [upd_ne hb] at e; exact s b u e
    · rcases List.mem_cons.mp hq with e | hq
      · subst e; exact .lst (SqL.of upd_same) (e5.mono sF)
      · refine held_grow sF (fun b us f1 f2 => ?_) (h q (List.mem_cons_of_mem _ hq))
        have ne : b ≠ a := fun z => n1 (List.mem_filterMap.mpr ⟨q, hq, by rw [f1, z]⟩)
        rw [upd_ne ne]
        exact ⟨(held_addr (h q (List.mem_cons_of_mem _ hq)) f1).1, f2⟩
end
end Ev

namespace Ev
open PySem PySem.Spec PyProof.Rows L2

/-! ### the core language -/
mutual
inductive E where
  | var (i : Nat)
  | k (d : D)
  | glob (x : Str)
  | bin (o : Operator) (a b : E)
  | neg (a : E)
  | cmp (o : CmpOp) (a b : E)
  | and (a b : E)
  | or (a b : E)
  | inv (a : E)
  | ife (c : C) (a b : E)
  | tup (es : Es)
  | lst (es : Es)
  | idx (a i : E)
  | idxS (n : Nat) (i : E)
  | sl (a : E) (lo hi : O)
  | call (f : Str) (as : As)
  | blt (f : Str) (es : Es)
  | isl (n : Nat)
  | comp (x : Str) (j : Nat) (elt : E) (it : I)
  | xat (i : Nat) (f : Str)
inductive Es where
  | nil
  | cons (e : E) (es : Es)
inductive As where
  | nil
  | cons (e : E) (as : As)
  | io (i : Nat) (as : As)
inductive C where
  | cmp (o : CmpOp) (a b : E)
  | cmp2 (o1 o2 : CmpOp) (a b c : E)
  | and (a b : C)
  | or (a b : C)
  | not (a : C)
  | tr (e : E)
inductive O where
  | none
  | some (e : E)
inductive I where
  | rng1 (a : E)
  | rng2 (a b : E)
  | lst (e : E)
  | tup (e : E)
end

mutual
inductive S where
  | set (i : Nat) (e : E)
  | setC (i : Nat) (x : Str) (j : Nat) (elt : E) (it : I)
  | unp (is : List Nat) (e : E)
  | aug (i : Nat) (o : Operator) (e : E)
  | put (n : Nat) (i e : E)
  | app (n : Nat) (e : E)
  | ret (e : E)
  | retN
  | expr (e : E)
  | ifs (c : C) (a b : Ss)
  | whl (c : C) (b : Ss)
  | for_ (t : List Nat) (one : Bool) (it : I) (b : Ss)
  | raise (x : Str) (es : Es)
  | try_ (b : Ss) (hs : Hs)
  | pass
  | brk
  | cont
inductive Ss where
  | nil
  | cons (s : S) (ss : Ss)
inductive Hs where
  | nil
  | one (x : Str) (b : Ss) (hs : Hs)
  | as (x : Str) (i : Nat) (b : Ss) (hs : Hs)
end

/-! ### what evaluation gives -/
abbrev Env := List (Option W)
/-- an expression's end: a value; an own exception by its class's name and its fields; nothing told -/
inductive R (α : Type) where
  | ok (a : α) (ρ : Env)
  | ex (c : Str) (gs : List (Str × D)) (ρ : Env)
  | no
def R.bind {α β : Type} (r : R α) (f : α → Env → R β) : R β := match r with
  | .ok a ρ => f a ρ
  | .ex c gs ρ => .ex c gs ρ
  | .no => .no
/-- a statement's end -/
inductive Q where
  | nx (ρ : Env)
  | rt (w : W) (ρ : Env)
  | bk (ρ : Env)
  | ct (ρ : Env)
  | ex (c : Str) (gs : List (Str × D)) (ρ : Env)
  | no
def R.st {α : Type} (r : R α) (f : α → Env → Q) : Q := match r with
  | .ok a ρ => f a ρ
  | .ex c gs ρ => .ex c gs ρ
  | .no => .no
def Q.seq (q : Q) (f : Env → Q) : Q := match q with
  | .nx ρ => f ρ
  | .rt w ρ => .rt w ρ
  | .bk ρ => .bk ρ
  | .ct ρ => .ct ρ
  | .ex c gs ρ => .ex c gs ρ
  | .no => .no
/-- a call's end: the value, what its changed lists are now -/
inductive FR where
  | ok (w : W) (outs : List W)
  | ex (c : Str) (gs : List (Str × D))
  | no

/-- the program as the evaluator sees it -/
structure Pg where
  fs : Str → Option (List W → FR)
  gl : Str → Option D
  ex : Str → Option (List D → Option (List (Str × D)))
  xm : Str → Str → Option Bool
  xs : Str → List Str
  xh : Str → Bool
  cur : Option (Nat × Str × List (Str × D))
  fuel : Nat
  calm : Bool
  io : List Nat

/-- what an operation makes: a scalar, a new tuple, a new list -/
inductive Mk where
  | val (d : D)
  | tup (ds : List D)
  | lst (ds : List D)
def Mk.w : Mk → W
  | .val d => fz d
  | .tup ds => fz (.tup ds)
  | .lst ds => ow ds

/-! ### operations on data -/
instance (i j : Int) : Decidable (CMul i j) := by unfold CMul; infer_instance
instance (i j : Int) : Decidable (CDiv i j) := by unfold CDiv; infer_instance
instance (i j : Int) : Decidable (CPow i j) := by unfold CPow; infer_instance
def repS (x : Str) (n : Int) : Str := ⟨(List.replicate n.toNat x.cps.toList).flatten.toArray⟩
def binD : Operator → D → D → Option Mk
  | .Add, .int i, .int j => some (.val (.int (i + j)))
  | .Add, .str x, .str y => if x.length + y.length ≤ sizeLine then some (.val (.str (x ++ y))) else none
  | .Add, .lst xs, .lst ys => if xs.length + ys.length ≤ sizeLine then some (.lst (xs ++ ys)) else none
  | .Sub, .int i, .int j => some (.val (.int (i - j)))
  | .Mult, .int i, .int j => if CMul i j then some (.val (.int (i * j))) else none
  | .Mult, .str x, .int n => if x.length * n.toNat ≤ sizeLine ∧ x.length ≤ 1048576 ∧ -1048576 ≤ n ∧ n ≤ 1048576 then some (.val (.str (repS x n))) else none
  | .FloorDiv, .int i, .int j => if CDiv i j then some (.val (.int (i / j))) else none
  | .Mod, .int i, .int j => if 0 < j then some (.val (.int (i % j))) else none
  | .Pow, .int i, .int j => if CPow i j then some (.val (.int (i ^ j.toNat))) else none
  | _, _, _ => none

mutual
/-- data without instances, as the library's data -/
def D.py : D → PyData
  | .non => .none
  | .bl b => .bool b
  | .int i => .int i
  | .str x => .str x
  | .lst xs => .list (pys xs)
  | .tup xs => .tuple (pys xs)
  | .obj _ _ => .dict []
  | .exc _ _ => .dict []
def pys : List D → List PyData
  | [] => []
  | d :: ds => d.py :: pys ds
end
def shp (d : D) : Bool := SeqAt.shaped d.py
def eqD (d e : D) : Bool := PyData.eqv d.py e.py

def isIn (c : D) (y : D) : Option Bool := match c, y with
  | .str x, .str z => match x.cps.toList with
    | [n] => some (decide (n ∈ z.cps.toList))
    | _ => none
  | _, _ => none
def eqS : D → D → Option Bool
  | .non, .non => some true
  | .bl a, .bl b => some (decide (a = b))
  | .int i, .int j => some (decide (i = j))
  | .str x, .str y => some (decide (x = y))
  | d, e => if shp d = true ∧ shp e = true then some (eqD d e) else none
def cmpD : CmpOp → D → D → Option Bool
  | .Lt, .int i, .int j => some (decide (i < j))
  | .LtE, .int i, .int j => some (decide (i ≤ j))
  | .Gt, .int i, .int j => some (decide (j < i))
  | .GtE, .int i, .int j => some (decide (j ≤ i))
  | .Eq, d, e => eqS d e
  | .NotEq, d, e => (eqS d e).map (!·)
  | .In, d, e => isIn d e
  | .NotIn, d, e => (isIn d e).map (!·)
  | _, _, _ => none

def idxD : D → D → Option D
  | .lst xs, .int i => atI xs i
  | .tup xs, .int i => atI xs i
  | .str z, .int i => if z.length ≤ sizeLine then (atI z.cps.toList i).map fun c => .str ⟨#[c]⟩ else none
  | _, _ => none
def cutD (xs : List D) (lo hi : Option Int) : List D := (xs.drop (HT.sIx xs.length 0 lo)).take (HT.sIx xs.length xs.length hi - HT.sIx xs.length 0 lo)
def slD : D → Option Int → Option Int → Option Mk
  | .lst xs, lo, hi => some (.lst (cutD xs lo hi))
  | .str z, lo, hi => if z.length ≤ sizeLine then some (.val (.str (cutS z lo hi))) else none
  | _, _, _ => none
/-- built-in functions, by their names -/
def bltD (f : Str) : List D → Option Mk
  | [.lst xs] => if f = "len" then some (.val (.int xs.length)) else if f = "list" then some (.lst xs) else none
  | [.tup xs] => if f = "len" then some (.val (.int xs.length)) else if f = "list" then some (.lst xs) else none
  | [.str z] => if f = "len" ∧ z.length ≤ sizeLine then some (.val (.int z.length)) else none
  | [.int i] => if f = "int" then some (.val (.int i)) else if f = "str" ∧ i.natAbs.log2 < 1920 then some (.val (.str (toString i))) else none
  | _ => none
def truD : D → Option Bool
  | .bl b => some b
  | .int i => some (i != 0)
  | .str z => if z.length ≤ sizeLine then some ((z.length : Int) != 0) else none
  | .lst xs => some (!xs.isEmpty)
  | .non => some false
  | _ => none

def getV (ρ : Env) (i : Nat) : R W := match ρ[i]? with
  | some (some w) => .ok (fz w.d) (ρ.set i (some (fz w.d)))
  | _ => .no
def lift {α : Type} (o : Option α) (ρ : Env) : R α := match o with
  | some a => .ok a ρ
  | none => .no
/-- the lists that were lent are back -/
def back : List Nat → List W → Env → Option Env
  | [], [], ρ => some ρ
  | i :: is, w :: ws, ρ => back is ws (ρ.set i (some w))
  | _, _, _ => none
def As.ios : As → List Nat
  | .nil => []
  | .cons _ as => as.ios
  | .io i as => i :: as.ios
def doCall (f : List W → FR) (is : List Nat) (ws : List W) (ρ : Env) : R W := match f ws with
  | .ok w outs => match back is outs ρ with
    | some ρ' => .ok w ρ'
    | none => .no
  | .ex c gs => match is with
    | [] => .ex c gs ρ
    | _ => .no
  | .no => .no

/-! ### loops -/
def whileL (c : Env → R Bool) (b : Env → Q) : Nat → Env → Q
  | 0, _ => .no
  | n + 1, ρ => (c ρ).st fun t ρ1 => if t = true then (match b ρ1 with
      | .nx ρ2 => whileL c b n ρ2
      | .ct ρ2 => whileL c b n ρ2
      | .bk ρ2 => .nx ρ2
      | .rt w ρ2 => .rt w ρ2
      | .ex x gs ρ2 => .ex x gs ρ2
      | .no => .no) else .nx ρ1
def forL (b : D → Env → Q) : List D → Env → Q
  | [], ρ => .nx ρ
  | d :: ds, ρ => match b d ρ with
    | .nx ρ2 => forL b ds ρ2
    | .ct ρ2 => forL b ds ρ2
    | .bk ρ2 => .nx ρ2
    | .rt w ρ2 => .rt w ρ2
    | .ex x gs ρ2 => .ex x gs ρ2
    | .no => .no
/-- a comprehension's items -/
def compL (f : D → Env → R W) : List D → Env → R (List D)
  | [], ρ => .ok [] ρ
  | d :: ds, ρ => match f d ρ with
    | .ok w ρ1 => match compL f ds ρ1 with
      | .ok es ρ2 => .ok (w.d :: es) ρ2
      | _ => .no
    | _ => .no
def rngD (lo : Int) (n : Nat) : List D := (List.range n).map fun (i : Nat) => D.int (lo + (i : Int))
/-- a target: one name, or the names of a tuple's items -/
def bindT (io : List Nat) (t : List Nat) (one : Bool) (d : D) (ρ : Env) : Option Env :=
  if t.any (fun i => io.contains i || decide (ρ.length ≤ i)) = true then none else
  if one = true then (match t with
    | [i] => some (ρ.set i (some (fz d)))
    | _ => none) else
  match d with
  | .tup ds => if ds.length = t.length then some ((t.zip ds).foldl (fun r p => r.set p.1 (some (fz p.2))) ρ) else none
  | _ => none
def setE (io : List Nat) (i : Nat) (w : W) (ρ : Env) : Q := if io.contains i = true ∨ ρ.length ≤ i then .no else .nx (ρ.set i (some w))

/-! ### the evaluator -/
mutual
def evE (P : Pg) : E → Env → R W
  | .var i, ρ => getV ρ i
  | .k d, ρ => .ok (fz d) ρ
  | .glob x, ρ => (lift (P.gl x) ρ).bind fun d ρ => .ok (fz d) ρ
  | .bin o a b, ρ => (evE P a ρ).bind fun x ρ1 => (evE P b ρ1).bind fun y ρ2 => (lift (binD o x.d y.d) ρ2).bind fun m ρ3 => .ok m.w ρ3
  | .neg a, ρ => (evE P a ρ).bind fun x ρ1 => match x.d with
    | .int i => .ok (fz (.int (-i))) ρ1
    | _ => .no
  | .cmp o a b, ρ => (evE P a ρ).bind fun x ρ1 => (evE P b ρ1).bind fun y ρ2 => (lift (cmpD o x.d y.d) ρ2).bind fun t ρ3 => .ok (fz (.bl t)) ρ3
  | .and a b, ρ => (evE P a ρ).bind fun x ρ1 => match x.d with
    | .bl t => if t = true then evE P b ρ1 else .ok (fz (.bl false)) ρ1
    | _ => .no
  | .or a b, ρ => (evE P a ρ).bind fun x ρ1 => match x.d with
    | .bl t => if t = true then .ok (fz (.bl true)) ρ1 else evE P b ρ1
    | _ => .no
  | .inv a, ρ => (evE P a ρ).bind fun x ρ1 => match x.d with
    | .bl t => .ok (fz (.bl (!t))) ρ1
    | _ => .no
  | .ife c a b, ρ => (evC P c ρ).bind fun t ρ1 => if t = true then evE P a ρ1 else evE P b ρ1
  | .tup es, ρ => (evEs P es ρ).bind fun ws ρ1 => if ws.length ≤ sizeLine then .ok (fz (.tup (ws.map (·.d)))) ρ1 else .no
  | .lst es, ρ => (evEs P es ρ).bind fun ws ρ1 => if ws.length ≤ sizeLine then .ok (ow (ws.map (·.d))) ρ1 else .no
  | .idx a i, ρ => (evE P a ρ).bind fun x ρ1 => (evE P i ρ1).bind fun y ρ2 => (lift (idxD x.d y.d) ρ2).bind fun d ρ3 => .ok (fz d) ρ3
  | .idxS n i, ρ => match ρ[n]? with
    | some (some _) => (evE P i ρ).bind fun y ρ1 => (match ρ1[n]? with
      | some (some w) => (lift (idxD w.d y.d) ρ1).bind fun d ρ3 => .ok (fz d) ρ3
      | _ => .no)
    | _ => .no
  | .sl a lo hi, ρ => (evE P a ρ).bind fun x ρ1 => (evO P lo ρ1).bind fun l ρ2 => (evO P hi ρ2).bind fun h ρ3 => (lift (slD x.d l h) ρ3).bind fun m ρ4 => .ok m.w ρ4
  | .call f as, ρ => match P.fs f with
    | none => .no
    | some g => (evA P as ρ).bind fun ws ρ1 => doCall g as.ios ws ρ1
  | .blt f es, ρ => (evEs P es ρ).bind fun ws ρ1 => (lift (bltD f (ws.map (·.d))) ρ1).bind fun m ρ2 => .ok m.w ρ2
  | .isl n, ρ => match ρ[n]? with
    | some (some w) => (match w.d with
      | .lst _ => .ok (fz (.bl true)) ρ
      | .tup _ => .ok (fz (.bl false)) ρ
      | _ => .no)
    | _ => .no
  | .comp _ j elt it, ρ => if P.calm = true ∧ P.io.contains j = false then (evI P it ρ).bind fun ds ρ1 => if ds.length ≤ sizeLine ∧ j < ρ1.length then
      (compL (fun d r => (evE P elt (r.set j (some (fz d)))).bind fun w r1 => .ok w (r1.set j none)) ds (ρ1.set j none)).bind fun es ρ2 => .ok (ow es) (ρ2.set j none) else .no else .no
  | .xat i f, ρ => match P.cur with
    | some (n, _, gs) => if n = i then (lift (gs.lookup f) ρ).bind fun d ρ1 => .ok (fz d) ρ1 else .no
    | none => .no
def evEs (P : Pg) : Es → Env → R (List W)
  | .nil, ρ => .ok [] ρ
  | .cons e es, ρ => (evE P e ρ).bind fun w ρ1 => (evEs P es ρ1).bind fun ws ρ2 => .ok (fz w.d :: ws) ρ2
def evA (P : Pg) : As → Env → R (List W)
  | .nil, ρ => .ok [] ρ
  | .cons e as, ρ => (evE P e ρ).bind fun w ρ1 => (evA P as ρ1).bind fun ws ρ2 => .ok (fz w.d :: ws) ρ2
  | .io i as, ρ => match ρ[i]? with
    | some (some ⟨d, true⟩) => (evA P as (ρ.set i none)).bind fun ws ρ2 => .ok (⟨d, true⟩ :: ws) ρ2
    | _ => .no
def evC (P : Pg) : C → Env → R Bool
  | .cmp o a b, ρ => (evE P a ρ).bind fun x ρ1 => (evE P b ρ1).bind fun y ρ2 => lift (cmpD o x.d y.d) ρ2
  | .cmp2 o1 o2 a b c, ρ => (evE P a ρ).bind fun x ρ1 => (evE P b ρ1).bind fun y ρ2 => (lift (cmpD o1 x.d y.d) ρ2).bind fun t ρ3 =>
      if t = true then (evE P c ρ3).bind fun z ρ4 => lift (cmpD o2 y.d z.d) ρ4 else .ok false ρ3
  | .and a b, ρ => (evC P a ρ).bind fun t ρ1 => if t = true then evC P b ρ1 else .ok false ρ1
  | .or a b, ρ => (evC P a ρ).bind fun t ρ1 => if t = true then .ok true ρ1 else evC P b ρ1
  | .not a, ρ => (evC P a ρ).bind fun t ρ1 => .ok (!t) ρ1
  | .tr e, ρ => (evE P e ρ).bind fun x ρ1 => lift (truD x.d) ρ1
def evO (P : Pg) : O → Env → R (Option Int)
  | .none, ρ => .ok none ρ
  | .some e, ρ => (evE P e ρ).bind fun x ρ1 => match x.d with
    | .int i => .ok (some i) ρ1
    | _ => .no
def evI (P : Pg) : I → Env → R (List D)
  | .rng1 a, ρ => (evE P a ρ).bind fun x ρ1 => match x.d with
    | .int n => if -(2 ^ 62) ≤ n ∧ n < 2 ^ 62 then .ok (rngD 0 n.toNat) ρ1 else .no
    | _ => .no
  | .rng2 a b, ρ => (evE P a ρ).bind fun x ρ1 => (evE P b ρ1).bind fun y ρ2 => match x.d, y.d with
    | .int i, .int j => if -(2 ^ 62) ≤ i ∧ i < 2 ^ 62 ∧ -(2 ^ 62) ≤ j ∧ j < 2 ^ 62 then .ok (rngD i (j - i).toNat) ρ2 else .no
    | _, _ => .no
  | .lst e, ρ => (evE P e ρ).bind fun x ρ1 => match x.d with
    | .lst ds => .ok ds ρ1
    | _ => .no
  | .tup e, ρ => (evE P e ρ).bind fun x ρ1 => match x.d with
    | .tup ds => .ok ds ρ1
    | _ => .no
end

def augOp : Operator → Bool
  | .Add => true
  | .Sub => true
  | _ => false
def augD : Operator → D → D → Option D
  | .Add, .int a, .int b => some (.int (a + b))
  | .Sub, .int a, .int b => some (.int (a - b))
  | .Add, .str a, .str b => if a.length + b.length ≤ sizeLine then some (.str (a ++ b)) else none
  | _, _, _ => none
/-- the classes that clauses name -/
def Hs.nm : Hs → List Str
  | .nil => []
  | .one x _ hs => x :: hs.nm
  | .as x _ _ hs => x :: hs.nm
/-- the program as an except suite sees it -/
def Pg.suite (P : Pg) (cur : Option (Nat × Str × List (Str × D))) (io : List Nat) : Pg := { P with fs := fun _ => none, ex := fun _ => none, cur := cur, calm := false, io := io }
mutual
def evS (P : Pg) : S → Env → Q
  | .set i e, ρ => (evE P e ρ).st fun w ρ1 => setE P.io i w ρ1
  | .setC i x j elt it, ρ => (evE P (.comp x j elt it) ρ).st fun w ρ1 => setE P.io i w ρ1
  | .unp is e, ρ => if P.calm = true then (evE P e ρ).st fun w ρ1 => (match bindT P.io is false w.d ρ1 with
    | some ρ2 => .nx ρ2
    | none => .no) else .no
  | .aug i o e, ρ => if augOp o = true then (match ρ[i]? with
    | some (some x) => (evE P e ρ).st fun y ρ1 => (match augD o x.d y.d with
      | some d => setE P.io i (fz d) ρ1
      | none => .no)
    | _ => .no) else .no
  | .put n i e, ρ => match ρ[n]? with
    | some (some _) => (evE P e ρ).st fun w ρ1 => (evE P i ρ1).st fun y ρ2 => (match ρ2[n]?, y.d with
      | some (some ⟨.lst ds, true⟩), .int j => (match ixN ds.length j with
        | some m => .nx (ρ2.set n (some (ow (ds.set m w.d))))
        | none => .no)
      | _, _ => .no)
    | _ => .no
  | .app n e, ρ => match ρ[n]? with
    | some (some ⟨_, true⟩) => (evE P e ρ).st fun w ρ1 => (match ρ1[n]? with
      | some (some ⟨.lst ds, true⟩) => if ds.length < sizeLine then .nx (ρ1.set n (some (ow (ds ++ [w.d])))) else .no
      | _ => .no)
    | _ => .no
  | .ret e, ρ => (evE P e ρ).st fun w ρ1 => .rt w ρ1
  | .retN, ρ => .rt (fz .non) ρ
  | .expr e, ρ => (evE P e ρ).st fun _ ρ1 => .nx ρ1
  | .ifs c a b, ρ => (evC P c ρ).st fun t ρ1 => if t = true then evSs P a ρ1 else evSs P b ρ1
  | .whl c b, ρ => whileL (evC P c) (evSs P b) P.fuel ρ
  | .for_ t one it b, ρ => if P.calm = true then (evI P it ρ).st fun ds ρ1 => forL (fun d r => match bindT P.io t one d r with
    | some r' => evSs P b r'
    | none => .no) ds ρ1 else .no
  | .raise x es, ρ => if P.calm = true then (match P.ex x with
    | none => .no
    | some f => (evEs P es ρ).st fun ws ρ1 => match f (ws.map (·.d)) with
      | some gs => .ex x gs ρ1
      | none => .no) else .no
  | .try_ b hs, ρ => if P.calm = true ∧ hs.nm.all P.xh = true then (match evSs P b ρ with
    | .ex c gs ρ1 => if (gs.all fun p => (P.xs c).contains p.1) = true then evHs P hs c gs ρ1 else .no
    | q => q) else .no
  | .pass, ρ => .nx ρ
  | .brk, ρ => .bk ρ
  | .cont, ρ => .ct ρ
def evSs (P : Pg) : Ss → Env → Q
  | .nil, ρ => .nx ρ
  | .cons s ss, ρ => (evS P s ρ).seq fun ρ1 => evSs P ss ρ1
def evHs (P : Pg) : Hs → Str → List (Str × D) → Env → Q
  | .nil, c, gs, ρ => .ex c gs ρ
  | .one x b hs, c, gs, ρ => match P.xm c x with
    | some true => (match evSs (P.suite none P.io) b ρ with
      | .ex _ _ _ => .no
      | q => q)
    | some false => evHs P hs c gs ρ
    | none => .no
  | .as x i b hs, c, gs, ρ => match P.xm c x with
    | some true => if P.io.contains i = true ∨ ρ.length ≤ i then .no else (match evSs (P.suite (some (i, c, gs)) (i :: P.io)) b (ρ.set i none) with
      | .nx r => .nx (r.set i none)
      | .rt w r => .rt w (r.set i none)
      | .bk r => .bk (r.set i none)
      | .ct r => .ct (r.set i none)
      | _ => .no)
    | some false => evHs P hs c gs ρ
    | none => .no
end
/-- the places of the lists that a call may change -/
def ioOf : Nat → List W → List Nat
  | _, [] => []
  | k, w :: ws => if w.own = true then k :: ioOf (k + 1) ws else ioOf (k + 1) ws
/-- what these lists are in the end -/
def outsF : List W → Env → Option (List W)
  | [], _ => some []
  | w :: ws, some u :: ρ => if w.own = true then (outsF ws ρ).map fun os => u :: os else outsF ws ρ
  | w :: ws, none :: ρ => if w.own = true then none else outsF ws ρ
  | _ :: _, [] => none
/-- a def: its parameters' values to the end; n names, m parameters -/
def runF (P : Pg) (n m : Nat) (b : Ss) (ws : List W) : FR := if ws.length = m then (match evSs { P with io := ioOf 0 ws } b (ws.map some ++ List.replicate (n - ws.length) none) with
  | .nx ρ => (match outsF ws ρ with
    | some os => .ok (fz .non) os
    | none => .no)
  | .rt w ρ => (match outsF ws ρ with
    | some os => .ok w os
    | none => .no)
  | .ex c gs _ => .ex c gs
  | _ => .no) else .no
/-- a program's defs: names, how many names and parameters, the body -/
abbrev Tab := List (Str × Nat × Nat × Ss)
def sems (P : Pg) (t : Tab) : Nat → Str → Option (List W → FR)
  | 0, _ => none
  | k + 1, x => (t.lookup x).map fun p => runF { P with fs := sems P t k } p.1 p.2.1 p.2.2
end Ev

namespace Ev
open PySem PySem.Spec PyProof.Rows L2

/-! ### slots -/
def ents : L2.St → Env → Hl
  | some v :: σ, some w :: ρ => (v, w) :: ents σ ρ
  | _ :: σ, _ :: ρ => ents σ ρ
  | _, _ => []
structure Fit (σ : L2.St) (ρ : Env) : Prop where
  len : σ.length = ρ.length
  has : ∀ (i : Nat) w, ρ[i]? = some (some w) → ∃ v, σ[i]? = some (some v)
theorem ents_cut : ∀ (σ : L2.St) (ρ : Env) (i : Nat), (ents σ (ρ.set i none)).Sublist (ents σ ρ)
  | [], _, _ => by cases ‹Env› <;> simp [ents]
  | _ :: _, [], _ => by simp [ents]
  | o :: σ, p :: ρ, 0 => by
    rw [List.set_cons_zero]
    cases o <;> cases p <;> simp [ents]
  | o :: σ, p :: ρ, i + 1 => by
    rw [List.set_cons_succ]
    have ih := ents_cut σ ρ i
    cases o <;> cases p <;> simp [ents] <;> exact ih
theorem ents_put : ∀ (σ : L2.St) (ρ : Env) (i : Nat) (v : V) (w : W), i < σ.length → i < ρ.length → (ents (σ.set i (some v)) (ρ.set i (some w))).Perm ((v, w) :: ents σ (ρ.set i none))
  | [], _, _, _, _, h, _ => absurd h (Nat.not_lt_zero _)
  | _ :: _, [], _, _, _, _, h => absurd h (Nat.not_lt_zero _)
  | o :: σ, p :: ρ, 0, v, w, _, _ => by
    rw [List.set_cons_zero, List.set_cons_zero, List.set_cons_zero]
    cases o <;> simp [ents]
  | o :: σ, p :: ρ, i + 1, v, w, h1, h2 => by
    rw [List.set_cons_succ, List.set_cons_succ, List.set_cons_succ]
    have ih := ents_put σ ρ i v w (Nat.lt_of_succ_lt_succ h1) (Nat.lt_of_succ_lt_succ h2)
    cases o with
    | none => cases p <;> simpa [ents] using ih
    | some u =>
      cases p with
      | none => simpa [ents] using ih
      | some z =>
        simp only [ents]
        exact (List.Perm.cons _ ih).trans (List.Perm.swap _ _ _)
theorem ents_at : ∀ (σ : L2.St) (ρ : Env) (i : Nat) (v : V) (w : W), σ[i]? = some (some v) → i < ρ.length → (ents σ (ρ.set i (some w))).Perm ((v, w) :: ents σ (ρ.set i none))
  | [], _, _, _, _, h, _ => by simp at h
  | _ :: _, [], _, _, _, _, h => absurd h (Nat.not_lt_zero _)
  | o :: σ, p :: ρ, 0, v, w, h, _ => by
    simp at h
    subst h
    rw [List.set_cons_zero, List.set_cons_zero]
    simp [ents]
  | o :: σ, p :: ρ, i + 1, v, w, h1, h2 => by
    rw [List.set_cons_succ, List.set_cons_succ]
    have ih := ents_at σ ρ i v w (by simpa using h1) (Nat.lt_of_succ_lt_succ h2)
    cases o with
    | none => cases p <;> simpa [ents] using ih
    | some u =>
      cases p with
      | none => simpa [ents] using ih
      | some z =>
        simp only [ents]
        exact (List.Perm.cons _ ih).trans (List.Perm.swap _ _ _)
theorem ents_get {σ : L2.St} {ρ : Env} {i : Nat} {v : V} {w : W} (h1 : σ[i]? = some (some v)) (h2 : ρ[i]? = some (some w)) : (ents σ ρ).Perm ((v, w) :: ents σ (ρ.set i none)) := by
  obtain ⟨hl, e⟩ := List.getElem?_eq_some_iff.mp h2
  have q := ents_at σ ρ i v w h1 hl
  have e2 : ρ.set i (some w) = ρ := by rw [← e, List.set_getElem_self]
  rwa [e2] at q
theorem ents_free : ∀ (σ : L2.St) (ρ : Env) (i : Nat) (o : Option V), ents (σ.set i o) (ρ.set i none) = ents σ (ρ.set i none)
  | [], _, _, _ => by simp
  | _ :: _, [], i, _ => by cases i <;> simp [ents]
  | o :: σ, p :: ρ, 0, _ => by
    rw [List.set_cons_zero, List.set_cons_zero]
    cases o <;> rename_i q <;> cases q <;> simp [ents]
  | o :: σ, p :: ρ, i + 1, q => by
    rw [List.set_cons_succ, List.set_cons_succ]
    have ih := ents_free σ ρ i q
    cases o <;> cases p <;> simp [ents, ih]
theorem Fit.put {σ : L2.St} {ρ : Env} (f : Fit σ ρ) (i : Nat) (v : V) (w : W) : Fit (σ.set i (some v)) (ρ.set i (some w)) := by
  refine ⟨by simp [f.len], fun j u h => ?_⟩
  by_cases e : i = j
  · subst e
    by_cases hl : i < ρ.length
    · exact ⟨v, by rw [List.getElem?_set_self (by rw [f.len]; exact hl)]⟩
    · rw [List.getElem?_eq_none (by simpa using hl)] at h; cases h
  · rw [List.getElem?_set_ne e] at h ⊢
    exact f.has j u h
theorem Fit.at {σ : L2.St} {ρ : Env} (f : Fit σ ρ) {i : Nat} {v : V} (h : σ[i]? = some (some v)) (w : W) : Fit σ (ρ.set i (some w)) := by
  refine ⟨by simp [f.len], fun j u q => ?_⟩
  by_cases e : i = j
  · subst e; exact ⟨v, h⟩
  · rw [List.getElem?_set_ne e] at q; exact f.has j u q
theorem Fit.cut {σ : L2.St} {ρ : Env} (f : Fit σ ρ) (i : Nat) : Fit σ (ρ.set i none) := by
  refine ⟨by simp [f.len], fun j u q => ?_⟩
  by_cases e : i = j
  · subst e
    by_cases hl : i < ρ.length
    · rw [List.getElem?_set_self hl] at q; cases q
    · rw [List.getElem?_eq_none (by simpa using hl)] at q; cases q
  · rw [List.getElem?_set_ne e] at q; exact f.has j u q
theorem Fit.wipe {σ : L2.St} {ρ : Env} (f : Fit σ ρ) (i : Nat) (o : Option V) : Fit (σ.set i o) (ρ.set i none) := by
  refine ⟨by simp [f.len], fun j u q => ?_⟩
  by_cases e : i = j
  · subst e
    by_cases hl : i < ρ.length
    · rw [List.getElem?_set_self hl] at q; cases q
    · rw [List.getElem?_eq_none (by simpa using hl)] at q; cases q
  · rw [List.getElem?_set_ne e] at q ⊢; exact f.has j u q

/-- what stays while a body runs: the written part, the program, values that are kept, slots that are not stored to -/
structure Cn where
  G : Gx
  P : Pg
  M : Hl
  fx : List (Nat × V)
structure Stt (c : Cn) (T : Hl) (σ : L2.St) (H : Hp) (ρ : Env) : Prop where
  fit : Fit σ ρ
  fix : ∀ p ∈ c.fx, σ[p.1]? = some (some p.2)
  hd : Hd c.G H (ents σ ρ ++ (T ++ c.M))
section
variable {c : Cn} {T : Hl} {σ : L2.St} {H H' : Hp} {ρ : Env}
/-- the temporaries change, nothing else -/
theorem Stt.temps {T' : Hl} (s : Stt c T σ H ρ) (h : Hd c.G H (T ++ (ents σ ρ ++ c.M)) → Hd c.G H' (T' ++ (ents σ ρ ++ c.M))) : Stt c T' σ H' ρ := by
  refine ⟨s.fit, s.fix, Hd.perm ?_ (h (s.hd.perm ?_))⟩
  · rw [← List.append_assoc, ← List.append_assoc]
    exact List.Perm.append_right _ List.perm_append_comm
  · rw [← List.append_assoc, ← List.append_assoc]
    exact List.Perm.append_right _ List.perm_append_comm
theorem Stt.drop {T' : Hl} (s : Stt c T σ H ρ) (h : T'.Sublist T) : Stt c T' σ H ρ := s.temps (Hd.sub (h.append_right _))
theorem Stt.perm {T' : Hl} (s : Stt c T σ H ρ) (h : T.Perm T') : Stt c T' σ H ρ := s.temps (Hd.perm (h.append_right _))
theorem Stt.tail {p : V × W} (s : Stt c (p :: T) σ H ρ) : Stt c T σ H ρ := s.drop (List.sublist_cons_self _ _)
theorem Stt.under {p q : V × W} (s : Stt c (p :: q :: T) σ H ρ) : Stt c (p :: T) σ H ρ := s.drop (List.Sublist.cons_cons _ (List.sublist_cons_self _ _))
theorem Stt.rep {v : V} {d : D} (s : Stt c ((v, fz d) :: T) σ H ρ) : Rep c.G H v d := (s.hd.perm (by
  refine List.Perm.trans (List.perm_append_comm) ?_
  exact List.Perm.refl _ : (ents σ ρ ++ ((v, fz d) :: T ++ c.M)).Perm ((v, fz d) :: (T ++ c.M ++ ents σ ρ)))).rep
theorem Stt.freeze {v : V} {w : W} (s : Stt c ((v, w) :: T) σ H ρ) : Stt c ((v, fz w.d) :: T) σ H ρ := s.temps Hd.freeze
theorem Stt.repW {v : V} {w : W} (s : Stt c ((v, w) :: T) σ H ρ) : Rep c.G H v w.d := s.freeze.rep
theorem Stt.cons {v : V} {d : D} (r : ∀ F, Rep c.G F v d) (s : Stt c T σ H ρ) : Stt c ((v, fz d) :: T) σ H ρ := s.temps (Hd.cons r)
theorem Stt.swap {p q : V × W} (s : Stt c (p :: q :: T) σ H ρ) : Stt c (q :: p :: T) σ H ρ := s.perm (List.Perm.swap _ _ _)
/-- a slot is stored -/
theorem Stt.put {v : V} {w : W} {i : Nat} (s : Stt c ((v, w) :: T) σ H ρ) (hi : i < ρ.length) (hf : ∀ p ∈ c.fx, p.1 ≠ i) : Stt c T (σ.set i (some v)) H (ρ.set i (some w)) := by
  refine ⟨s.fit.put i v w, fun p hp => ?_, ?_⟩
  · rw [List.getElem?_set_ne (Ne.symm (hf p hp))]; exact s.fix p hp
  · have h : Hd c.G H ((v, w) :: (ents σ (ρ.set i none) ++ (T ++ c.M))) := by
      refine Hd.sub ?_ (s.hd.perm (List.perm_append_comm.trans (List.Perm.trans (List.Perm.cons _ List.perm_append_comm) (List.Perm.refl _)) : (ents σ ρ ++ ((v, w) :: T ++ c.M)).Perm ((v, w) :: (ents σ ρ ++ (T ++ c.M)))))
      exact List.Sublist.cons_cons _ ((ents_cut σ ρ i).append_right _)
    refine h.perm ?_
    rw [← List.cons_append]
    exact List.Perm.append_right _ (ents_put σ ρ i v w (by rw [s.fit.len]; exact hi) hi).symm
/-- a slot is forgotten -/
theorem Stt.cut (s : Stt c T σ H ρ) (i : Nat) : Stt c T σ H (ρ.set i none) := ⟨s.fit.cut i, s.fix, Hd.sub ((ents_cut σ ρ i).append_right _) s.hd⟩
/-- what a slot holds is taken out of it -/
theorem Stt.take {w : W} {i : Nat} (s : Stt c T σ H ρ) (h : ρ[i]? = some (some w)) : ∃ v, σ[i]? = some (some v) ∧ Stt c ((v, w) :: T) σ H (ρ.set i none) := by
  obtain ⟨v, hv⟩ := s.fit.has i w h
  refine ⟨v, hv, s.fit.cut i, s.fix, ?_⟩
  have q := s.hd.perm (List.Perm.append_right (T ++ c.M) (ents_get hv h))
  refine q.perm ?_
  rw [List.cons_append, List.cons_append]
  exact List.perm_middle.symm
/-- and put back -/
theorem Stt.give {v : V} {w : W} {i : Nat} (s : Stt c ((v, w) :: T) σ H ρ) (hv : σ[i]? = some (some v)) : Stt c T σ H (ρ.set i (some w)) := by
  have hi : i < ρ.length := by rw [← s.fit.len]; exact (List.getElem?_eq_some_iff.mp hv).1
  refine ⟨s.fit.at hv w, s.fix, ?_⟩
  have h : Hd c.G H ((v, w) :: (ents σ (ρ.set i none) ++ (T ++ c.M))) := by
    refine Hd.sub ?_ (s.hd.perm (List.perm_append_comm.trans (List.Perm.trans (List.Perm.cons _ List.perm_append_comm) (List.Perm.refl _)) : (ents σ ρ ++ ((v, w) :: T ++ c.M)).Perm ((v, w) :: (ents σ ρ ++ (T ++ c.M)))))
    exact List.Sublist.cons_cons _ ((ents_cut σ ρ i).append_right _)
  refine h.perm ?_
  rw [← List.cons_append]
  exact List.Perm.append_right _ (ents_at σ ρ i v w hv hi).symm
theorem Stt.dup {p : V × W} (s : Stt c (p :: T) σ H ρ) (ho : p.2.own = false) : Stt c (p :: p :: T) σ H ρ := s.temps (Hd.dup List.mem_cons_self ho)
end

/-! ### readings -/
def Sat (c : Cn) (T : Hl) (σ : L2.St) (Wx : WX) {α : Type} (r : R α) (k : α → Env → Prop) : Prop := match r with
  | .ok a ρ => k a ρ
  | .ex x gs ρ => ∀ (C dd : Addr) (H : Hp), c.G.ct x = some C → Stt c ((.ref dd, fz (.exc x gs)) :: T) σ H ρ → Wx (.ref C) (some dd) σ H
  | .no => False
section
variable {c : Cn} {T : Hl} {σ : L2.St} {Wx : WX} {α β : Type}
theorem Sat.bind {r : R α} {f : α → Env → R β} {k : β → Env → Prop} (h : Sat c T σ Wx (r.bind f) k) : Sat c T σ Wx r fun a ρ => Sat c T σ Wx (f a ρ) k := by
  cases r <;> exact h
theorem Sat.imp {r : R α} {k k' : α → Env → Prop} (h : Sat c T σ Wx r k) (f : ∀ a ρ, k a ρ → k' a ρ) : Sat c T σ Wx r k' := by
  cases r with
  | ok a ρ => exact f a ρ h
  | ex x gs ρ => exact h
  | no => exact h
/-- more temporaries stand behind -/
theorem Sat.wk {M : Hl} {r : R α} {k : α → Env → Prop} (h : Sat c T σ Wx r k) : Sat c (M ++ T) σ Wx r k := by
  cases r with
  | ok a ρ => exact h
  | ex x gs ρ => exact fun C dd H e s => h C dd H e (s.drop (List.Sublist.cons_cons _ (List.sublist_append_right _ _)))
  | no => exact h
theorem Sat.wk1 {p : V × W} {r : R α} {k : α → Env → Prop} (h : Sat c T σ Wx r k) : Sat c (p :: T) σ Wx r k := Sat.wk (M := [p]) h
theorem Sat.lift {o : Option α} {ρ : Env} {k : α → Env → Prop} (h : Sat c T σ Wx (lift o ρ) k) : ∃ a, o = some a ∧ k a ρ := by
  cases o with
  | none => exact h.elim
  | some a => exact ⟨a, rfl, h⟩
end
/-- an expression's reading -/
def tE (c : Cn) (Wx : WX) (x : E) : TE := fun σ H Q => ∃ T ρ, Stt c T σ H ρ ∧ Sat c T σ Wx (evE c.P x ρ) fun w ρ' => ∀ v H', Stt c ((v, w) :: T) σ H' ρ' → Q v H'
def tC (c : Cn) (Wx : WX) (x : C) : TT := fun σ H Q => ∃ T ρ, Stt c T σ H ρ ∧ Sat c T σ Wx (evC c.P x ρ) fun b ρ' => ∀ H', Stt c T σ H' ρ' → Q b H'
def tEs (c : Cn) (Wx : WX) (x : Es) : TA := fun σ H Q => ∃ T ρ, Stt c T σ H ρ ∧ Sat c T σ Wx (evEs c.P x ρ) fun ws ρ' => ∀ vs H', vs.length = ws.length → Stt c (vs.zip ws ++ T) σ H' ρ' → Q vs H'
/-- the changed lists among values -/
def ownV : List V → List W → List V
  | v :: vs, w :: ws => if w.own = true then v :: ownV vs ws else ownV vs ws
  | _, _ => []
def At (σ : L2.St) : List Nat → List V → Prop
  | [], [] => True
  | i :: is, v :: vs => σ[i]? = some (some v) ∧ At σ is vs
  | _, _ => False
def tA (c : Cn) (Wx : WX) (x : As) : TA := fun σ H Q => ∃ T ρ, Stt c T σ H ρ ∧ Sat c T σ Wx (evA c.P x ρ) fun ws ρ' => ∀ vs H', vs.length = ws.length → At σ x.ios (ownV vs ws) → Stt c (vs.zip ws ++ T) σ H' ρ' → Q vs H'
def tO (c : Cn) (Wx : WX) (x : O) : TO := fun σ H Q => ∃ T ρ, Stt c T σ H ρ ∧ Sat c T σ Wx (evO c.P x ρ) fun o ρ' => ∀ H', Stt c T σ H' ρ' → Q o H'

/-- a def's promise: what the evaluator tells of it -/
def spEv (G : Gx) (sem : List W → FR) : Sp := fun vs H Q E => ∃ (T : Hl) (ws : List W), vs.length = ws.length ∧ Hd G H (vs.zip ws ++ T) ∧ match sem ws with
  | .ok w outs => ∀ v H', Hd G H' ((v, w) :: ((ownV vs ws).zip outs ++ T)) → Q v H'
  | .ex x gs => ∀ (C dd : Addr) (H' : Hp), G.ct x = some C → Hd G H' ((.ref dd, fz (.exc x gs)) :: T) → E (.ref C) (some dd) H'
  | .no => False

/-- what an expression's body stands on -/
structure AmbE (c : Cn) (N : List Str) (sc : Scope) (Wx : WX) (X : Cx) : Prop where
  eK : X.K = c.G.K
  eN : X.N = N
  nd : N.Nodup
  esc : X.env.scope = sc
  calm : c.P.calm = true → X.calm = true
  fn : ∀ x sem, c.P.fs x = some sem → ∃ (k : Nat) (f : Addr) (fd : FuncData) (ps : List Str), X.mg x = some (.ref f) ∧ PySem.W.keepIn X.K (.ref f) = true ∧ Binds X.K fd ps [] ∧ Room k X.A ∧ FnOk X.prog X.w X.K X.mg X.base (L2.CX X.prog X.w) k f fd ps (spEv c.G sem)
  gl : ∀ x d, c.P.gl x = some d → ∃ v u, X.mg x = some u ∧ RelV v u ∧ ∀ F, Rep c.G F v d
  bl : ∀ x ∈ (["len", "list", "int", "str", "range", "isinstance", "sorted", "all", "any", "tuple", "set", "zip", "enumerate", "reversed", "min", "max", "sum"] : List Str), X.mg x = none
  un : X.A.units + 64 < cLine
  tk : Takes X Wx
  io : ∀ p ∈ c.fx, p.1 ∈ c.P.io
  cc : c.P.calm = true → c.P.cur = none
  cur : ∀ i x gs, c.P.cur = some (i, x, gs) → ∃ (a dd C : Addr), (i, V.ref a) ∈ c.fx ∧ (V.ref dd, fz (.exc x gs)) ∈ c.M ∧
    ∀ (e : Expr) (te : TE) (f : Str) (pos : Pos), (gs.lookup f).isSome = true → attributeBase e f X.env (eval e X.env) = eval e X.env → PE X e te → PE X (.Attribute e f pos) (tXf a (.ref C) (some dd) C f te)
end Ev

namespace Ev
open PySem PySem.Spec PyProof.Rows L2

/-! ### what operations give, over data -/
def mkQ (G : Gx) (H : Hp) (pre : Hp → Prop) (m : Mk) (Q : VK) : Prop := match m with
  | .val d => ∀ v, (∀ F, Rep G F v d) → Q v H
  | .tup ds => ∀ p vs, H p = none → (∀ F, Same F H → pre F → Reps G F vs ds) → Q (.ref p) (upd H p (.tup vs))
  | .lst ds => ∀ p vs, H p = none → (∀ F, Same F H → pre F → Reps G F vs ds) → Q (.ref p) (upd H p (.lst vs))
theorem mkQ_ok {c : Cn} {M T : Hl} {σ : L2.St} {H : Hp} {ρ : Env} {pre : Hp → Prop} {m : Mk} {Q : VK} (s : Stt c (M ++ T) σ H ρ) (hp : ∀ F, (∀ q ∈ M, Held c.G F H q.1 q.2) → pre F)
    (k : ∀ v H', Stt c ((v, m.w) :: T) σ H' ρ → Q v H') : mkQ c.G H pre m Q := by
  cases m with
  | val d => exact fun v r => k v H (s.drop (List.sublist_append_right _ _) |>.cons r)
  | tup ds =>
    intro p vs hn r
    refine k _ _ (Stt.drop (T := (V.ref p, fz (.tup ds)) :: (M ++ T)) (s.temps fun h => ?_) (List.Sublist.cons_cons _ (List.sublist_append_right _ _)))
    rw [List.append_assoc] at h
    rw [List.cons_append, List.append_assoc]
    refine Hd.laid h hn fun F sF hF hM => .tup (.inl (.inl upd_same)) (Reps.mono (fun b u e => ?_) (r F sF (hp F hM)))
    rw [upd_ne (ne_of_none e hF)]; exact e
  | lst ds =>
    intro p vs hn r
    refine k _ _ (Stt.drop (T := (V.ref p, ow ds) :: (M ++ T)) (s.temps fun h => ?_) (List.Sublist.cons_cons _ (List.sublist_append_right _ _)))
    rw [List.append_assoc] at h
    rw [List.cons_append, List.append_assoc]
    exact Hd.laidO h hn fun F sF hM => r F sF (hp F hM)

section
variable {X : Cx} {G : Gx} {H F : Hp}
/-- the list that the frozen part reads is the one that the heap has -/
theorem lst_same {pins : List (Addr × Obj)} {σ : L2.St} {s : Shared} {a : Addr} {vs : List V} {ds : List D} (hK : X.K = G.K) (I : Inv X pins σ H s) (sF : Same F H) (r : Rep G F (.ref a) (.lst ds)) (h : SqL G.K H a vs) : Reps G F vs ds := by
  cases r with
  | lst h' r' =>
    have e := I.list_inj (by rw [hK]; exact sF.seq h') (by rw [hK]; exact h)
    rw [← e]; exact r'
theorem sqT_same {K : PySem.W.Frag} {a : Addr} {xs : List V} (e : Same F H) (h : SqT K F a xs) : SqT K H a xs := by
  rcases h with (h | ⟨o, h⟩) | h
  · exact .inl (.inl (e _ _ h))
  · exact .inl (.inr ⟨o, e _ _ h⟩)
  · exact .inr h
theorem tup_same {pins : List (Addr × Obj)} {σ : L2.St} {s : Shared} {a : Addr} {vs : List V} {ds : List D} (hK : X.K = G.K) (I : Inv X pins σ H s) (sF : Same F H) (r : Rep G F (.ref a) (.tup ds)) (h : SqT G.K H a vs) : Reps G F vs ds := by
  cases r with
  | tup h' r' =>
    have e := I.tuple_inj (by rw [hK]; exact sqT_same sF h') (by rw [hK]; exact h)
    rw [← e]; exact r'

/-! ### a op b -/
def rB (G : Gx) (o : Operator) : R2 := fun v u H Q => ∃ x y m, Rep G H v x ∧ Rep G H u y ∧ binD o x y = some m ∧ mkQ G H (fun F => Rep G F v x ∧ Rep G F u y) m Q
/-- a list and a list, wherever they stand -/
theorem add_lists {pins : List (Addr × Obj)} {σ : L2.St} {s : Shared} {l b : Addr} {xs zs : List V} {Q : VK} (I : Inv X pins σ H s) (hl : SqL X.K H l xs) (hb : SqL X.K H b zs) (hz : xs.length + zs.length ≤ sizeLine)
    (q : ∀ p, H p = none → Q (.ref p) (upd H p (.lst (xs ++ zs)))) : wpAny (model X.prog X.w) X.A (binaryOp .Add (.ref l) (.ref b)) (EP X pins σ Q) X.xe s := by
  obtain ⟨its, r, p, _⟩ := I.list hl
  obtain ⟨its2, r2, p2, _⟩ := I.list hb
  obtain ⟨⟨cls, dd, data, sl⟩, ho, hc, n, hd⟩ := p.isList
  obtain ⟨⟨cls2, dd2, data2, sl2⟩, ho2, hc2, n2, hd2⟩ := p2.isList
  simp only at hc hd hc2 hd2
  subst hc hd hc2 hd2
  have e : its.toArray ++ its2.toArray = (its ++ its2).toArray := by simp
  have e1 := r.length
  have e2 := r2.length
  refine concat_meets ⟨_, ho, rfl⟩ ⟨_, ho2, rfl⟩ noFill_list_add seq_list_add PySem.F.slot_list_add PySem.F.entry_list_add (PySem.F.args_list_add_2 _ _) (list_addW l b its.toArray its2.toArray n n2 dd dd2 sl sl2 (by rw [List.size_toArray, List.size_toArray]; omega)) ⟨ho, ho2, ?_⟩
  rw [e]
  exact ⟨.ref _, _, I.lnew (t' := s.toks) (r.append r2) (by rw [List.length_append]; omega), rfl, q _ I.fresh⟩
theorem repS_mul {x : Str} {n : Int} : repS x n = Txt.mul x n := by
  have h : ∀ (k : Nat) (acc : Array Nat), (List.replicate k x.cps).foldl (· ++ ·) acc = (acc.toList ++ (List.replicate k x.cps.toList).flatten).toArray := by
    intro k
    induction k with
    | zero => intro acc; simp
    | succ k ih => intro acc; rw [List.replicate_succ, List.foldl_cons, ih, List.replicate_succ, List.flatten_cons]; simp
  unfold repS Txt.mul
  by_cases h1 : n < 1
  · rw [if_pos h1]
    have e : n.toNat = 0 := by omega
    rw [e]; rfl
  · rw [if_neg h1]
    by_cases h2 : (n == 1 || x.length == 0) = true
    · rw [if_pos h2]
      rcases Bool.or_eq_true_iff.mp h2 with h3 | h3
      · have e : n = 1 := by simpa using h3
        subst e
        simp
      · have e : x.cps = #[] := by
          have : x.cps.size = 0 := by simpa [Str.length] using h3
          exact Array.eq_empty_of_size_eq_zero this
        obtain ⟨c⟩ := x
        simp only at e
        subst e
        congr 1
        simp
    · rw [if_neg h2, h]
      simp
theorem mulOk_rep {x : Str} {n : Int} (h1 : x.length * n.toNat ≤ sizeLine) (h2 : x.length ≤ 1048576) (h3 : -1048576 ≤ n) (h4 : n ≤ 1048576) : MulOk x n := by
  have hs : (sizeLine : Nat) = 16777216 := sizeLine_eq
  exact PyProof.Rows.mulOk_of x.length n.toNat (Nat.le_refl _) (by omega) (by omega) (by omega) (by omega)
theorem op_bin (hK : X.K = G.K) (o : Operator) : OpR X (binaryOp o) (rB G o) := by
  intro pins s σ H v u a b Q I rv ru h
  obtain ⟨x, y, m, rx, ry, e, q⟩ := h
  have scal : ∀ (r : R2), OpR X (binaryOp o) r → r v u H Q → wpAny (model X.prog X.w) X.A (binaryOp o a b) (EP X pins σ Q) X.xe s := fun r hr hq => hr pins s σ H v u a b Q I rv ru hq
  cases o <;> cases x <;> simp only [binD, reduceCtorEq] at e <;> cases y <;> simp only [binD, reduceCtorEq] at e
  · cases rx; cases ry; cases e
    exact scal _ op_add ⟨_, _, rfl, rfl, q _ fun F => .int _⟩
  · cases rx; cases ry
    split at e
    · rename_i hz
      cases e
      exact scal _ op_add_str ⟨_, _, rfl, rfl, hz, q _ fun F => .str _⟩
    · cases e
  · split at e
    · rename_i hz
      cases e
      cases rx with
      | lst h1 r1 =>
        cases ry with
        | lst h2 r2 =>
          cases rv; cases ru
          refine add_lists I (by rw [hK]; exact h1) (by rw [hK]; exact h2) (by rw [r1.length, r2.length]; exact hz) fun p hp => q p _ hp fun F sF ⟨f1, f2⟩ => ?_
          exact (lst_same hK I sF f1 h1).append (lst_same hK I sF f2 h2)
    · cases e
  · cases rx; cases ry; cases e
    exact scal _ op_sub ⟨_, _, rfl, rfl, q _ fun F => .int _⟩
  · cases rx; cases ry
    split at e
    · rename_i hc
      cases e
      exact scal _ op_mul ⟨_, _, rfl, rfl, hc, q _ fun F => .int _⟩
    · cases e
  · cases rx; cases ry
    split at e
    · rename_i hc
      cases e
      obtain ⟨t, rfl⟩ := rv
      obtain ⟨t', rfl⟩ := ru
      obtain ⟨h1, h2, h3, h4⟩ := hc
      exact SB.mul (mulOk_rep h1 h2 h3 h4) fun t2 k => ⟨.str _, H, I.tok _, ⟨_, rfl⟩, q _ fun F => by rw [← repS_mul]; exact .str _⟩
    · cases e
  · cases rx; cases ry
    split at e
    · rename_i hc
      cases e
      exact scal _ op_mod ⟨_, _, rfl, rfl, hc, q _ fun F => .int _⟩
    · cases e
  · cases rx; cases ry
    split at e
    · rename_i hc
      cases e
      exact scal _ op_pow ⟨_, _, rfl, rfl, hc, q _ fun F => .int _⟩
    · cases e
  · cases rx; cases ry
    split at e
    · rename_i hc
      cases e
      exact scal _ op_fdiv ⟨_, _, rfl, rfl, hc, q _ fun F => .int _⟩
    · cases e
/-! ### == and the like -/
def rC (G : Gx) (o : CmpOp) : R2 := fun v u H Q => ∃ x y t, Rep G H v x ∧ Rep G H u y ∧ cmpD o x y = some t ∧ Q (.bl t) H
mutual
theorem dp_of {K : PySem.W.Frag} (hK : K = G.K) : ∀ (d : D) (v : V), Rep G H v d → d.py.canLay0 = true → Dp K H v d.py
  | .non, _, h, _ => by cases h; exact .non
  | .bl b, _, h, _ => by cases h; exact .bl b
  | .int i, _, h, _ => by cases h; exact .int i
  | .str x, _, h, _ => by cases h; exact .str x
  | .lst xs, _, h, c => by
    cases h with
    | lst h r => rw [D.py]; exact .lst (by rw [hK]; exact h) (dps_of hK xs _ r (by simpa [D.py, PyData.canLay0] using c))
  | .tup xs, _, h, c => by
    cases h with
    | tup h r => rw [D.py]; exact .tup (by rw [hK]; exact h) (dps_of hK xs _ r (by simpa [D.py, PyData.canLay0] using c))
  | .obj _ _, _, _, c => by simp [D.py, PyData.canLay0] at c
  | .exc _ _, _, _, c => by simp [D.py, PyData.canLay0] at c
theorem dps_of {K : PySem.W.Frag} (hK : K = G.K) : ∀ (ds : List D) (vs : List V), Reps G H vs ds → PyData.canLayAll0 (pys ds) = true → DpAll K H vs (pys ds)
  | [], _, h, _ => by cases h; exact .nil
  | d :: ds, _, h, c => by
    cases h with
    | cons h r =>
      have c' : d.py.canLay0 = true ∧ PyData.canLayAll0 (pys ds) = true := by simpa [pys, PyData.canLayAll0] using c
      exact .cons (dp_of hK d _ h c'.1) (dps_of hK ds _ r c'.2)
end
theorem shp_lay {d : D} (h : shp d = true) : d.py.canLay0 = true := SeqAt.canLay_of_shaped h
theorem eq_ok (hK : X.K = G.K) (hu : X.A.units + 64 < cLine) {pins : List (Addr × Obj)} {σ : L2.St} {s : Shared} {v u : V} {a b : Value} {x y : D} {t : Bool} {Q : VK} (I : Inv X pins σ H s) (rv : RelV v a) (ru : RelV u b) (rx : Rep G H v x) (ry : Rep G H u y) (e : eqS x y = some t) (q : Q (.bl t) H) :
    wpAny (model X.prog X.w) X.A (compareOp .Eq a b) (EP X pins σ Q) X.xe s := by
  have gen : ∀ {x y : D}, Rep G H v x → Rep G H u y → (if shp x = true ∧ shp y = true then some (eqD x y) else none) = some t → wpAny (model X.prog X.w) X.A (compareOp .Eq a b) (EP X pins σ Q) X.xe s := fun {x y} rx ry e => by
    split at e
    · rename_i hs
      cases e
      exact op_eqD hu pins s σ H v u a b Q I rv ru ⟨x.py, y.py, dp_of hK x v rx (shp_lay hs.1), dp_of hK y u ry (shp_lay hs.2), hs.1, hs.2, q⟩
    · cases e
  have sc : ∀ k, scal v u = true → k = decide (v = u) → Q (.bl k) H → wpAny (model X.prog X.w) X.A (compareOp .Eq a b) (EP X pins σ Q) X.xe s := fun k h1 h2 h3 => by
    subst h2
    exact op_eq pins s σ H v u a b Q I rv ru ⟨h1, h3⟩
  unfold eqS at e
  split at e
  · cases rx; cases ry; cases e
    exact sc _ rfl rfl q
  · cases rx; cases ry; cases e
    exact sc _ rfl (by simp) q
  · cases rx; cases ry; cases e
    exact sc _ rfl (by simp) q
  · cases rx; cases ry; cases e
    exact sc _ rfl (by simp) q
  · exact gen rx ry e
theorem ne_ok (hK : X.K = G.K) (hu : X.A.units + 64 < cLine) {pins : List (Addr × Obj)} {σ : L2.St} {s : Shared} {v u : V} {a b : Value} {x y : D} {t : Bool} {Q : VK} (I : Inv X pins σ H s) (rv : RelV v a) (ru : RelV u b) (rx : Rep G H v x) (ry : Rep G H u y) (e : eqS x y = some t) (q : Q (.bl (!t)) H) :
    wpAny (model X.prog X.w) X.A (compareOp .NotEq a b) (EP X pins σ Q) X.xe s := by
  have gen : ∀ {x y : D}, Rep G H v x → Rep G H u y → (if shp x = true ∧ shp y = true then some (eqD x y) else none) = some t → wpAny (model X.prog X.w) X.A (compareOp .NotEq a b) (EP X pins σ Q) X.xe s := fun {x y} rx ry e => by
    split at e
    · rename_i hs
      cases e
      exact op_neD hu pins s σ H v u a b Q I rv ru ⟨x.py, y.py, dp_of hK x v rx (shp_lay hs.1), dp_of hK y u ry (shp_lay hs.2), hs.1, hs.2, q⟩
    · cases e
  have sc : ∀ k, scal v u = true → k = decide (v = u) → Q (.bl (!k)) H → wpAny (model X.prog X.w) X.A (compareOp .NotEq a b) (EP X pins σ Q) X.xe s := fun k h1 h2 h3 => by
    subst h2
    exact op_ne pins s σ H v u a b Q I rv ru ⟨h1, h3⟩
  unfold eqS at e
  split at e
  · cases rx; cases ry; cases e
    exact sc _ rfl rfl q
  · cases rx; cases ry; cases e
    exact sc _ rfl (by simp) q
  · cases rx; cases ry; cases e
    exact sc _ rfl (by simp) q
  · cases rx; cases ry; cases e
    exact sc _ rfl (by simp) q
  · exact gen rx ry e
theorem isIn_ok {v u : V} {x y : D} {t : Bool} (rx : Rep G H v x) (ry : Rep G H u y) (e : isIn x y = some t) : ∃ (n : Nat) (z : Str), v = .str ⟨#[n]⟩ ∧ u = .str z ∧ t = decide (n ∈ z.cps.toList) := by
  cases x <;> simp only [isIn, reduceCtorEq] at e <;> cases y <;> simp only [isIn, reduceCtorEq] at e
  rename_i x' z
  cases rx; cases ry
  obtain ⟨c⟩ := x'
  simp only at e
  split at e
  · rename_i n hx
    cases e
    refine ⟨n, z, ?_, rfl, rfl⟩
    have : c = #[n] := by rw [← Array.toArray_toList (xs := c), hx]
    rw [this]
  · cases e
theorem op_cmp (hK : X.K = G.K) (hu : X.A.units + 64 < cLine) (o : CmpOp) : OpR X (compareOp o) (rC G o) := by
  intro pins s σ H v u a b Q I rv ru h
  obtain ⟨x, y, t, rx, ry, e, q⟩ := h
  have scal : ∀ (r : R2), OpR X (compareOp o) r → r v u H Q → wpAny (model X.prog X.w) X.A (compareOp o a b) (EP X pins σ Q) X.xe s := fun r hr hq => hr pins s σ H v u a b Q I rv ru hq
  unfold cmpD at e
  split at e
  · cases rx; cases ry; cases e
    exact scal _ op_lt ⟨_, _, rfl, rfl, q⟩
  · cases rx; cases ry; cases e
    exact scal _ op_le ⟨_, _, rfl, rfl, q⟩
  · cases rx; cases ry; cases e
    exact scal _ op_gt ⟨_, _, rfl, rfl, q⟩
  · cases rx; cases ry; cases e
    exact scal _ op_ge ⟨_, _, rfl, rfl, q⟩
  · exact eq_ok hK hu I rv ru rx ry e q
  · obtain ⟨k, e1, rfl⟩ := Option.map_eq_some_iff.mp e
    exact ne_ok hK hu I rv ru rx ry e1 q
  · obtain ⟨n, z, rfl, rfl, rfl⟩ := isIn_ok rx ry e
    exact scal _ op_in_sign ⟨_, _, rfl, rfl, q⟩
  · obtain ⟨k, e1, rfl⟩ := Option.map_eq_some_iff.mp e
    obtain ⟨n, z, rfl, rfl, rfl⟩ := isIn_ok rx ry e1
    exact scal _ op_notIn_sign ⟨_, _, rfl, rfl, q⟩
  · cases e
/-! ### items, slices, built-ins -/
/-- a value's items, by the frozen part: a frozen value, or a list that stands and whose items are frozen -/
def RepI (G : Gx) (F H : Hp) (v : V) (x : D) : Prop := Rep G F v x ∨ ∃ a vs ds, v = .ref a ∧ x = .lst ds ∧ H a = some (.lst vs) ∧ Reps G F vs ds
def rX (G : Gx) : R2 := fun v u H Q => ∃ x y d, Rep G H v x ∧ Rep G H u y ∧ idxD x y = some d ∧ ∀ z, (∀ F, Same F H → RepI G F H v x → Rep G F z d) → Q z H
theorem lst_sameI {pins : List (Addr × Obj)} {σ : L2.St} {s : Shared} {a : Addr} {vs : List V} {ds : List D} (hK : X.K = G.K) (I : Inv X pins σ H s) (sF : Same F H) (r : RepI G F H (.ref a) (.lst ds)) (h : SqL G.K H a vs) : Reps G F vs ds := by
  rcases r with r | ⟨b, ws, es, e1, e2, e3, e4⟩
  · exact lst_same hK I sF r h
  · cases e1; cases e2
    have e := I.list_inj (SqL.of e3) (by rw [hK]; exact h)
    rw [← e]; exact e4
theorem atI_rep {vs : List V} {ds : List D} {i : Int} {d : D} (r : Reps G H vs ds) (e : atI ds i = some d) : ∃ v, atI vs i = some v ∧ Rep G H v d := by
  unfold atI at e ⊢
  rw [r.length]
  cases h : ixN ds.length i with
  | none => rw [h] at e; cases e
  | some j =>
    rw [h] at e
    obtain ⟨v, h1, h2⟩ := r.get (i := j) e
    exact ⟨v, h1, h2⟩
theorem atI_rep' {vs : List V} {ds : List D} {i : Int} {d : D} {v : V} (r : Reps G F vs ds) (e : atI ds i = some d) (e' : atI vs i = some v) : Rep G F v d := by
  obtain ⟨w, h1, h2⟩ := atI_rep r e
  rw [e'] at h1
  cases h1
  exact h2
theorem ix_D (hK : X.K = G.K) : IxR X (rX G) := by
  intro value slice pins s σ H v u a b Q I rv ru h hs
  obtain ⟨x, y, d, rx, ry, e, q⟩ := h
  have go : rIx X.K v u H Q → wpAny (model X.prog X.w) X.A (subscriptTail value slice a b) (EP X pins σ Q) X.xe s := fun hq => ix_seq value slice pins s σ H v u a b Q I rv ru hq hs
  cases x <;> simp only [idxD, reduceCtorEq] at e <;> cases y <;> simp only [idxD, reduceCtorEq] at e
  · cases ry; cases rx
    split at e
    · rename_i hz
      obtain ⟨n, e1, rfl⟩ := Option.map_eq_some_iff.mp e
      exact go (.inr (.inr ⟨_, _, n, rfl, rfl, hz, e1, q _ fun F _ _ => .str _⟩))
    · cases e
  · cases ry
    cases rx with
    | lst h1 r1 =>
      obtain ⟨z, e1, _⟩ := atI_rep r1 e
      exact go (.inl ⟨_, _, _, z, rfl, rfl, by rw [hK]; exact h1, e1, q z fun F sF f => atI_rep' (lst_sameI hK I sF f h1) e e1⟩)
  · cases ry
    cases rx with
    | tup h1 r1 =>
      obtain ⟨z, e1, _⟩ := atI_rep r1 e
      exact go (.inr (.inl ⟨_, _, _, z, rfl, rfl, by rw [hK]; exact h1, e1, q z fun F sF f => by
        rcases f with f | ⟨_, _, _, _, e2, _⟩
        · exact atI_rep' (tup_same hK I sF f h1) e e1
        · cases e2⟩))
def rS (G : Gx) : V → Option Int → Option Int → Hp → VK → Prop := fun v lo hi H Q => ∃ x m, Rep G H v x ∧ slD x lo hi = some m ∧ mkQ G H (fun F => Rep G F v x) m Q
theorem cut_rep {vs : List V} {ds : List D} (r : Reps G F vs ds) (lo hi : Option Int) : Reps G F (cutV vs lo hi) (cutD ds lo hi) := by
  unfold cutV cutD
  rw [r.length]
  exact (r.drop _).take _
theorem sl_D (hK : X.K = G.K) : SlR X (rS G) := by
  intro pins s σ H v a vl vu lo hi sl Q I rv hs pl pu h
  obtain ⟨x, m, rx, e, q⟩ := h
  cases x <;> simp only [slD, reduceCtorEq] at e
  · cases rx
    split at e
    · rename_i hz
      cases e
      exact sl_str pins s σ H _ a vl vu lo hi sl Q I rv hs pl pu ⟨_, rfl, hz, q _ fun F => .str _⟩
    · cases e
  · cases e
    cases rx with
    | lst h1 r1 => exact sl_list pins s σ H _ a vl vu lo hi sl Q I rv hs pl pu ⟨_, _, rfl, by rw [hK]; exact h1, fun p hp => q p _ hp fun F sF f => cut_rep (lst_same hK I sF f h1) lo hi⟩
def rBl (G : Gx) (f : Str) : List V → Hp → VK → Prop := fun vs H Q => ∃ ds m, Reps G H vs ds ∧ bltD f ds = some m ∧ mkQ G H (fun F => Reps G F vs ds) m Q
end
end Ev

namespace Ev
open PySem PySem.Spec PyProof.Rows L2

/-! ### does a core term say what the text says -/
def vN (N : List Str) (sc : Scope) (i : Nat) (x : Str) : Bool :=
  decide (N[i]? = some x) && (match sc.names.lookup x with | some .local => true | some .cell => true | some .free => true | _ => false) && !(x == ("__debug__" : Str)) && !(x == ("__classdict__" : Str))
def lN (N : List Str) (sc : Scope) (i : Nat) (x : Str) : Bool :=
  decide (N[i]? = some x) && (match sc.names.lookup x with | some .local => true | some .cell => true | _ => false)
def gN (sc : Scope) (x : Str) : Bool := decide (sc.names.lookup x = some .globalImplicit) && !(x == ("__debug__" : Str))
def kOk : D → Const → Bool
  | .non, .none => true
  | .bl a, .bool b => decide (a = b)
  | .int i, .int j => decide (i = j)
  | .str x, .str y => decide (x = y)
  | _, _ => false
def bltNames : List Str := ["len", "list", "int", "str"]

mutual
def chkE (N : List Str) (sc : Scope) (x : E) (e : Expr) : Bool := match x with
  | .var i => (match e with
    | .Name y _ => vN N sc i y
    | _ => false)
  | .k d => (match e with
    | .Constant c _ _ => kOk d c
    | _ => false)
  | .glob y => (match e with
    | .Name z _ => decide (y = z) && gN sc z
    | _ => false)
  | .bin o a b => (match e with
    | .BinOp l o' r _ => decide (o = o') && chkE N sc a l && chkE N sc b r
    | _ => false)
  | .neg a => (match e with
    | .UnaryOp .USub l _ => chkE N sc a l
    | _ => false)
  | .cmp o a b => (match e with
    | .Compare l [o'] [r] _ => decide (o = o') && chkE N sc a l && chkE N sc b r && !(behindInMarks o r)
    | _ => false)
  | .and a b => (match e with
    | .BoolOp .And [l, r] _ => chkE N sc a l && chkE N sc b r
    | .BoolOp .And (l :: m :: n :: rest) pos => chkE N sc a l && chkE N sc b (.BoolOp .And (m :: n :: rest) pos)
    | _ => false)
  | .or a b => (match e with
    | .BoolOp .Or [l, r] _ => chkE N sc a l && chkE N sc b r
    | .BoolOp .Or (l :: m :: n :: rest) pos => chkE N sc a l && chkE N sc b (.BoolOp .Or (m :: n :: rest) pos)
    | _ => false)
  | .inv a => (match e with
    | .UnaryOp .Not l _ => chkE N sc a l
    | _ => false)
  | .ife c a b => (match e with
    | .IfExp t l r _ => chkC N sc c t && chkE N sc a l && chkE N sc b r
    | _ => false)
  | .tup es => (match e with
    | .Tuple xs _ _ => chkEs N sc es xs
    | _ => false)
  | .lst es => (match e with
    | .List xs _ => chkEs N sc es xs
    | _ => false)
  | .idx a i => (match e with
    | .Subscript l r _ => chkE N sc a l && chkE N sc i r
    | _ => false)
  | .idxS n i => (match e with
    | .Subscript (.Name y _) r _ => vN N sc n y && chkE N sc i r
    | _ => false)
  | .sl a lo hi => (match e with
    | .Subscript l (.Slice u v none _) _ => chkE N sc a l && chkO N sc lo u && chkO N sc hi v
    | _ => false)
  | .call f as => (match e with
    | .Call (.Name y _) (l :: ls) [] _ => decide (f = y) && gN sc y && chkA N sc as (l :: ls)
    | _ => false)
  | .blt f es => (match e with
    | .Call (.Name y _) (l :: ls) [] _ => decide (f = y) && gN sc y && decide (f ∈ bltNames) && chkEs N sc es (l :: ls)
    | _ => false)
  | .isl n => (match e with
    | .Call (.Name f _) [.Name y _, .Name t _] [] _ => decide (f = ("isinstance" : Str)) && decide (t = ("list" : Str)) && gN sc f && gN sc t && vN N sc n y
    | _ => false)
  | .comp y j elt it => (match e with
    | .ListComp el [⟨.Name z _, iter, [], 0⟩] scope _ => decide (y = z) && blkC N sc scope [(y, j)] && chkI N sc it iter && chkE N (relS scope sc) elt el && lN N (relS scope sc) j y &&
        (decide (scope.names.lookup y = some .cell) || decide ((relS scope sc).names.lookup y = some .local))
    | _ => false)
  | .xat i f => (match e with
    | .Attribute (.Name y _) g _ => decide (f = g) && vN N sc i y
    | _ => false)
def chkEs (N : List Str) (sc : Scope) (x : Es) (es : List Expr) : Bool := match x with
  | .nil => (match es with
    | [] => true
    | _ => false)
  | .cons a as => (match es with
    | l :: ls => chkE N sc a l && chkEs N sc as ls
    | _ => false)
def chkA (N : List Str) (sc : Scope) (x : As) (es : List Expr) : Bool := match x with
  | .nil => (match es with
    | [] => true
    | _ => false)
  | .cons a as => (match es with
    | l :: ls => chkE N sc a l && chkA N sc as ls
    | _ => false)
  | .io i as => (match es with
    | .Name y _ :: ls => vN N sc i y && chkA N sc as ls
    | _ => false)
def chkC (N : List Str) (sc : Scope) (x : C) (e : Expr) : Bool := match x with
  | .cmp o a b => (match e with
    | .Compare l [o'] [r] _ => decide (o = o') && chkE N sc a l && chkE N sc b r && !(behindInMarks o r)
    | _ => false)
  | .cmp2 o1 o2 a b c => (match e with
    | .Compare l [o, o'] [m, r] _ => decide (o1 = o) && decide (o2 = o') && chkE N sc a l && chkE N sc b m && chkE N sc c r && !(behindInMarks o m) && !(behindInMarks o' r)
    | _ => false)
  | .and a b => (match e with
    | .BoolOp .And [l, r] _ => chkC N sc a l && chkC N sc b r
    | .BoolOp .And (l :: m :: n :: rest) pos => chkC N sc a l && chkC N sc b (.BoolOp .And (m :: n :: rest) pos)
    | _ => false)
  | .or a b => (match e with
    | .BoolOp .Or [l, r] _ => chkC N sc a l && chkC N sc b r
    | .BoolOp .Or (l :: m :: n :: rest) pos => chkC N sc a l && chkC N sc b (.BoolOp .Or (m :: n :: rest) pos)
    | _ => false)
  | .not a => (match e with
    | .UnaryOp .Not l _ => chkC N sc a l
    | _ => false)
  | .tr a => (match e with
    | .Name .. => chkE N sc a e
    | .Call .. => chkE N sc a e
    | .Subscript .. => chkE N sc a e
    | .Attribute .. => chkE N sc a e
    | .Constant .. => chkE N sc a e
    | _ => false)
def chkO (N : List Str) (sc : Scope) (x : O) (e : Option Expr) : Bool := match x with
  | .none => (match e with
    | none => true
    | _ => false)
  | .some a => (match e with
    | some l => chkE N sc a l
    | _ => false)
def chkI (N : List Str) (sc : Scope) (x : I) (e : Expr) : Bool := match x with
  | .rng1 a => (match e with
    | .Call (.Name f _) [l] [] _ => decide (f = ("range" : Str)) && gN sc f && chkE N sc a l
    | _ => false)
  | .rng2 a b => (match e with
    | .Call (.Name f _) [l, r] [] _ => decide (f = ("range" : Str)) && gN sc f && chkE N sc a l && chkE N sc b r
    | _ => false)
  | .lst a => chkE N sc a e
  | .tup a => chkE N sc a e
end
/-- no star stands there -/
theorem no_star {N : List Str} {sc : Scope} {x : E} {v : Expr} {p : Pos} (h : chkE N sc x (.Starred v p) = true) : False := by
  cases x <;> simp [chkE] at h
theorem no_set {N : List Str} {sc : Scope} {x : E} {v : List Expr} {k : Nat} {p : Pos} (h : chkE N sc x (.Set v k p) = true) : False := by
  cases x <;> simp [chkE] at h
theorem no_slice {N : List Str} {sc : Scope} {x : E} {a b c : Option Expr} {p : Pos} (h : chkE N sc x (.Slice a b c p) = true) : False := by
  cases x <;> simp [chkE] at h
theorem star_cons {N : List Str} {sc : Scope} {x : E} {e : Expr} {es : List Expr} {env : PySem.Env} (h : chkE N sc x e = true) : starEach (e :: es) env = (false, eval e env) :: starEach es env := by
  cases e <;> first | rfl | exact (no_star h).elim
theorem plain_ix {N : List Str} {sc : Scope} {x : E} {e : Expr} (h : chkE N sc x e = true) : PlainIx e := by
  intro o i
  cases e <;> first | rfl | exact (no_slice h).elim
theorem starEs : ∀ {es : List Expr} {N : List Str} {sc : Scope} {x : Es} {env : PySem.Env}, chkEs N sc x es = true → (starEach es env).any (·.1) = false
  | [], _, _, _, _, _ => rfl
  | e :: es, N, sc, x, env, h => by
    cases x with
    | nil => simp [chkEs] at h
    | cons a as =>
      simp only [chkEs, Bool.and_eq_true] at h
      rw [star_cons h.1]
      simpa using starEs h.2
theorem starA : ∀ {es : List Expr} {N : List Str} {sc : Scope} {x : As} {env : PySem.Env}, chkA N sc x es = true → (starEach es env).any (·.1) = false
  | [], _, _, _, _, _ => rfl
  | e :: es, N, sc, x, env, h => by
    cases x with
    | nil => simp [chkA] at h
    | cons a as =>
      simp only [chkA, Bool.and_eq_true] at h
      rw [star_cons h.1]
      simpa using starA h.2
    | io i as =>
      cases e <;> simp [chkA] at h
      show ((false, _) :: starEach es env).any (·.1) = false
      rw [List.any_cons]
      exact starA h.2
theorem back_any {pos : Pos} {l : List (Bool × Sem Value)} (h : l.any (·.1) = false) : (backTo pos l).any (·.1) = false := by
  unfold backTo
  rw [List.any_map]
  exact h
theorem starA1 {e : Expr} {es : List Expr} {N : List Str} {sc : Scope} {x : As} {env : PySem.Env} (h : chkA N sc x (e :: es) = true) : starEach (e :: es) env = (false, eval e env) :: starEach es env ∧ (starEach es env).any (·.1) = false := by
  cases x with
  | nil => simp [chkA] at h
  | cons a as =>
    simp only [chkA, Bool.and_eq_true] at h
    exact ⟨star_cons h.1, starA h.2⟩
  | io i as =>
    cases e <;> simp [chkA] at h
    exact ⟨rfl, starA h.2⟩
theorem starEs1 {e : Expr} {es : List Expr} {N : List Str} {sc : Scope} {x : Es} {env : PySem.Env} (h : chkEs N sc x (e :: es) = true) : starEach (e :: es) env = (false, eval e env) :: starEach es env ∧ (starEach es env).any (·.1) = false := by
  cases x with
  | nil => simp [chkEs] at h
  | cons a as =>
    simp only [chkEs, Bool.and_eq_true] at h
    exact ⟨star_cons h.1, starEs h.2⟩
theorem sw_plain {N : List Str} {sc : Scope} {x : E} {e : Expr} {t : Option Expr} {l : Nat} {env : PySem.Env} (h : chkE N sc x e = true) (hc : ∀ y j el it, x ≠ .comp y j el it) : swapsWith e t l env = pure false := by
  cases e <;> first | rfl | skip
  · cases x <;> simp [chkE] at h
    exact absurd rfl (hc _ _ _ _)
  · cases x <;> simp [chkE] at h
  · cases x <;> simp [chkE] at h
theorem setFold {N : List Str} {sc : Scope} {x : I} {e : Expr} {env : PySem.Env} (h : chkI N sc x e = true) (v : Value) : foldedSetIterable e env v = pure v := by
  cases e <;> first | rfl | skip
  cases x <;> simp [chkI] at h
  · exact (no_set h).elim
  · exact (no_set h).elim
theorem attr_base {N : List Str} {sc : Scope} {i : Nat} {y : Str} {f : Str} {p : Pos} {env : PySem.Env} : attributeBase (.Name y p) f env (eval (.Name y p) env) = eval (.Name y p) env := rfl
end Ev

namespace Ev
open PySem PySem.Spec PyProof.Rows L2
theorem PE.to {X : Cx} {e : Expr} {t t' : TE} (h : PE X e t) (i : ∀ σ H Q, t' σ H Q → t σ H Q) : PE X e t' := ⟨fun pins s σ H Q I q => h.run pins s σ H Q I (i σ H Q q)⟩
theorem PT.to {X : Cx} {e : Expr} {t t' : TT} (h : PT X e t) (i : ∀ σ H Q, t' σ H Q → t σ H Q) : PT X e t' := ⟨fun pins s σ H Q I q => h.run pins s σ H Q I (i σ H Q q)⟩
theorem PA.to {X : Cx} {es : List Expr} {t t' : TA} (h : PA X es t) (i : ∀ σ H Q, t' σ H Q → t σ H Q) : PA X es t' := ⟨fun pos pins s σ H Q I q => h.run pos pins s σ H Q I (i σ H Q q)⟩
theorem PO.to {X : Cx} {e : Option Expr} {t t' : TO} (h : PO X e t) (i : ∀ σ H Q, t' σ H Q → t σ H Q) : PO X e t' := ⟨fun pins s σ H Q I q => h.run pins s σ H Q I (i σ H Q q)⟩

section
variable {c : Cn} {N : List Str} {sc : Scope} {Wx : WX} {X : Cx}
theorem AmbE.vis (A : AmbE c N sc Wx X) {i : Nat} {x : Str} (h : vN N sc i x = true) {pos : Pos} : PE X (.Name x pos) (L2.tVar i) := by
  unfold vN at h
  simp only [Bool.and_eq_true, decide_eq_true_eq, Bool.not_eq_true'] at h
  obtain ⟨⟨⟨h1, h2⟩, h3⟩, h4⟩ := h
  refine pe_var (by rw [A.eN]; exact h1) ?_ h3 h4
  rw [A.esc]
  split at h2
  · exact .inl (by assumption)
  · exact .inr (.inl (by assumption))
  · exact .inr (.inr (by assumption))
  · cases h2
theorem AmbE.gl1 (A : AmbE c N sc Wx X) {x : Str} (h : gN sc x = true) : Gl X x ∧ (x == ("__debug__" : Str)) = false := by
  unfold gN at h
  simp only [Bool.and_eq_true, decide_eq_true_eq, Bool.not_eq_true'] at h
  refine ⟨?_, h.2⟩
  show X.env.scope.names.lookup x = _
  rw [A.esc]; exact h.1

/-- two operands, then the rest -/
theorem two {a b : E} {σ : L2.St} {H : Hp} {Rr : V → V → Hp → Prop} {f : W → W → Env → R W} {k : W → Env → Prop} {T : Hl} {ρ : Env} (st : Stt c T σ H ρ)
    (h : Sat c T σ Wx ((evE c.P a ρ).bind fun x ρ1 => (evE c.P b ρ1).bind fun y ρ2 => f x y ρ2) k)
    (q : ∀ x y ρ2 v u H2, Stt c ((u, y) :: (v, x) :: T) σ H2 ρ2 → Sat c T σ Wx (f x y ρ2) k → Rr v u H2) :
    tE c Wx a σ H fun v H1 => tE c Wx b σ H1 fun u H2 => Rr v u H2 :=
  ⟨T, ρ, st, h.bind.imp fun x ρ1 h1 v H1 st1 => ⟨(v, x) :: T, ρ1, st1, h1.bind.wk1.imp fun y ρ2 h2 u H2 st2 => q x y ρ2 v u H2 st2 h2⟩⟩
/-- both operands are let stand -/
theorem fz2 {T : Hl} {σ : L2.St} {H : Hp} {ρ : Env} {v u : V} {x y : W} (s : Stt c ((u, y) :: (v, x) :: T) σ H ρ) : Stt c ((u, fz y.d) :: (v, fz x.d) :: T) σ H ρ := s.freeze.swap.freeze.swap
theorem held2 {G : Gx} {F H : Hp} {v u : V} {x y : D} (h : ∀ q ∈ [(u, fz y), (v, fz x)], Held G F H q.1 q.2) : Rep G F v x ∧ Rep G F u y :=
  ⟨h (v, fz x) (by simp), h (u, fz y) (by simp)⟩
theorem zip_held {G : Gx} {F H : Hp} : ∀ {vs : List V} {ws : List W}, vs.length = ws.length → (∀ q ∈ vs.zip (ws.map fun w => fz w.d), Held G F H q.1 q.2) → Reps G F vs (ws.map (·.d))
  | [], [], _, _ => .nil
  | v :: vs, w :: ws, e, h => .cons (h (v, fz w.d) (by simp)) (zip_held (by simpa using e) fun q hq => h q (by simp only [List.map_cons, List.zip_cons_cons]; exact List.mem_cons_of_mem _ hq))
  | [], _ :: _, e, _ => by simp at e
  | _ :: _, [], e, _ => by simp at e
theorem evEs_fz (P : Pg) : ∀ (x : Es) (ρ : Env) (ws : List W) (ρ' : Env), evEs P x ρ = .ok ws ρ' → ws.map (fun w => fz w.d) = ws
  | .nil, ρ, ws, ρ', h => by
    simp only [evEs, R.ok.injEq] at h
    obtain ⟨rfl, rfl⟩ := h
    rfl
  | .cons e es, ρ, ws, ρ', h => by
    simp only [evEs] at h
    cases h1 : evE P e ρ with
    | ok w ρ1 =>
      rw [h1] at h
      simp only [R.bind] at h
      cases h2 : evEs P es ρ1 with
      | ok us ρ2 =>
        rw [h2] at h
        simp only [R.ok.injEq] at h
        obtain ⟨rfl, rfl⟩ := h
        rw [List.map_cons, evEs_fz P es ρ1 us ρ2 h2]
      | ex _ _ _ => rw [h2] at h; simp at h
      | no => rw [h2] at h; simp at h
    | ex _ _ _ => rw [h1] at h; simp [R.bind] at h
    | no => rw [h1] at h; simp [R.bind] at h
theorem Sat.withEq {α : Type} {T : Hl} {σ : L2.St} {r : R α} {k : α → Env → Prop} (h : Sat c T σ Wx r k) : Sat c T σ Wx r fun a ρ => r = .ok a ρ ∧ k a ρ := by
  cases r with
  | ok a ρ => exact ⟨rfl, h⟩
  | ex x gs ρ => exact h
  | no => exact h
/-- the lists that were lent are given back -/
theorem back_ok {T : Hl} {σ : L2.St} {H : Hp} : ∀ {is : List Nat} {vs : List V} {ws : List W} {ρ ρ' : Env}, At σ is vs → back is ws ρ = some ρ' → Stt c (vs.zip ws ++ T) σ H ρ → Stt c T σ H ρ'
  | [], [], [], ρ, ρ', _, e, s => by
    simp only [back, Option.some.injEq] at e
    subst e
    exact s
  | [], [], _ :: _, _, _, _, e, _ => by simp [back] at e
  | [], _ :: _, _, _, _, a, _, _ => a.elim
  | _ :: _, [], _, _, _, a, _, _ => a.elim
  | i :: is, v :: vs, [], _, _, _, e, _ => by simp [back] at e
  | i :: is, v :: vs, w :: ws, ρ, ρ', a, e, s => by
    simp only [back] at e
    exact back_ok a.2 e (Stt.give (by simpa using s) a.1)
end
end Ev

namespace Ev
open PySem PySem.Spec PyProof.Rows L2

/-! ### built-in functions -/
section
variable {X : Cx} {G : Gx} {H F : Hp}
theorem one_of {vs : List V} {d : D} (r : Reps G H vs [d]) : ∃ v, vs = [v] ∧ Rep G H v d := by
  cases r with
  | cons h t => cases t; exact ⟨_, rfl, h⟩
theorem seq_of (hK : X.K = G.K) {v : V} {d : D} {xs : List D} (r : Rep G H v d) (e : d = .lst xs ∨ d = .tup xs) : ∃ a vs, v = .ref a ∧ (SqL X.K H a vs ∨ SqT X.K H a vs) ∧ vs.length = xs.length := by
  rcases e with rfl | rfl
  · cases r with
    | lst h t => exact ⟨_, _, rfl, .inl (by rw [hK]; exact h), t.length⟩
  · cases r with
    | tup h t => exact ⟨_, _, rfl, .inr (by rw [hK]; exact h), t.length⟩
theorem blt_len (hK : X.K = G.K) : CallR X (.builtin "len") (rBl G "len") := by
  intro pins s σ H vs us Q I r h
  obtain ⟨ds, m, rs, e, q⟩ := h
  unfold bltD at e
  split at e
  · obtain ⟨v, rfl, rv⟩ := one_of rs
    rw [if_pos rfl] at e; cases e
    obtain ⟨a, ws, rfl, hs, hl⟩ := seq_of hK rv (.inl rfl)
    exact call_len_seq pins s σ H _ us Q I r ⟨a, ws, rfl, hs, by rw [hl]; exact q _ fun F => .int _⟩
  · obtain ⟨v, rfl, rv⟩ := one_of rs
    rw [if_pos rfl] at e; cases e
    obtain ⟨a, ws, rfl, hs, hl⟩ := seq_of hK rv (.inr rfl)
    exact call_len_seq pins s σ H _ us Q I r ⟨a, ws, rfl, hs, by rw [hl]; exact q _ fun F => .int _⟩
  · obtain ⟨v, rfl, rv⟩ := one_of rs
    cases rv
    split at e
    · rename_i hz
      cases e
      exact call_len_str pins s σ H _ us Q I r ⟨_, rfl, hz.2, q _ fun F => .int _⟩
    · cases e
  · rw [if_neg (by decide +kernel), if_neg (fun h => absurd h.1 (by decide +kernel))] at e
    cases e
  · cases e
theorem blt_list (hK : X.K = G.K) : CallR X (.type "list") (rBl G "list") := by
  intro pins s σ H vs us Q I r h
  obtain ⟨ds, m, rs, e, q⟩ := h
  unfold bltD at e
  split at e
  · obtain ⟨v, rfl, rv⟩ := one_of rs
    rw [if_neg (by decide +kernel), if_pos rfl] at e; cases e
    cases rv with
    | lst h t =>
      refine call_list_of pins s σ H _ us Q I r ⟨_, _, rfl, .inl (by rw [hK]; exact h), fun l hl => q l _ hl fun F sF f => ?_⟩
      obtain ⟨w, e, rw'⟩ := one_of f
      cases e
      exact lst_same hK I sF rw' h
  · obtain ⟨v, rfl, rv⟩ := one_of rs
    rw [if_neg (by decide +kernel), if_pos rfl] at e; cases e
    cases rv with
    | tup h t =>
      refine call_list_of pins s σ H _ us Q I r ⟨_, _, rfl, .inr (by rw [hK]; exact h), fun l hl => q l _ hl fun F sF f => ?_⟩
      obtain ⟨w, e, rw'⟩ := one_of f
      cases e
      exact tup_same hK I sF rw' h
  · rw [if_neg (fun h => absurd h.1 (by decide +kernel))] at e; cases e
  · rw [if_neg (by decide +kernel), if_neg (fun h => absurd h.1 (by decide +kernel))] at e
    cases e
  · cases e
theorem blt_int : CallR X (.type "int") (rBl G "int") := by
  intro pins s σ H vs us Q I r h
  obtain ⟨ds, m, rs, e, q⟩ := h
  unfold bltD at e
  split at e
  · rw [if_neg (by decide +kernel), if_neg (by decide +kernel)] at e; cases e
  · rw [if_neg (by decide +kernel), if_neg (by decide +kernel)] at e; cases e
  · rw [if_neg (fun h => absurd h.1 (by decide +kernel))] at e; cases e
  · obtain ⟨v, rfl, rv⟩ := one_of rs
    cases rv
    rw [if_pos rfl] at e; cases e
    exact call_int1 pins s σ H _ us Q I r (.inl ⟨_, rfl, q _ fun F => .int _⟩)
  · cases e
theorem blt_str : CallR X (.type "str") (rBl G "str") := by
  intro pins s σ H vs us Q I r h
  obtain ⟨ds, m, rs, e, q⟩ := h
  unfold bltD at e
  split at e
  · rw [if_neg (by decide +kernel), if_neg (by decide +kernel)] at e; cases e
  · rw [if_neg (by decide +kernel), if_neg (by decide +kernel)] at e; cases e
  · rw [if_neg (fun h => absurd h.1 (by decide +kernel))] at e; cases e
  · obtain ⟨v, rfl, rv⟩ := one_of rs
    cases rv
    rw [if_neg (by decide +kernel)] at e
    split at e
    · rename_i hz
      cases e
      exact call_str_int pins s σ H _ us Q I r ⟨_, rfl, hz.2, q _ fun F => .str _⟩
    · cases e
  · cases e
end

/-! ### what a loop walks -/
structure Over (G : Gx) (J : It) (ds : List D) (M : Hl) : Prop where
  go : ∀ i H, i < ds.length → (∃ L, Hd G H (M ++ L)) → J.go i H
  yld : ∀ i H x H' d, ds[i]? = some d → (∃ L, Hd G H (M ++ L)) → J.yld i H x H' → H' = H ∧ ∀ F, Same F H → (∀ q ∈ M, Held G F H q.1 q.2) → Rep G F x d
  stop : ∀ H, (∃ L, Hd G H (M ++ L)) → J.stop ds.length H
theorem rngD_get {lo : Int} {n i : Nat} {d : D} (h : (rngD lo n)[i]? = some d) : i < n ∧ d = .int (lo + (i : Int)) := by
  unfold rngD at h
  rw [List.getElem?_map] at h
  by_cases hi : i < n
  · rw [List.getElem?_range hi] at h
    simp at h
    exact ⟨hi, h.symm⟩
  · rw [List.getElem?_eq_none (by simpa using hi)] at h
    cases h
theorem rngD_len {lo : Int} {n : Nat} : (rngD lo n).length = n := by unfold rngD; simp
theorem over_rng {G : Gx} (lo : Int) (n : Nat) : Over G (Itr lo n) (rngD lo n) [] where
  go := fun i H hi _ => by rw [rngD_len] at hi; exact hi
  yld := fun i H x H' d e _ ⟨e1, e2⟩ => by
    obtain ⟨_, rfl⟩ := rngD_get e
    subst e2
    exact ⟨e1, fun F _ _ => .int _⟩
  stop := fun H _ => by rw [rngD_len]; exact Nat.le_refl n
theorem over_lst {G : Gx} {a : Addr} {ds : List D} : Over G (Itl G.K a) ds [(.ref a, fz (.lst ds))] where
  go := fun i H hi ⟨L, h⟩ => by
    have r := h.rep
    cases r with
    | lst hs r =>
      obtain ⟨v, e, _⟩ := r.get (i := i) (List.getElem?_eq_getElem hi)
      exact ⟨_, v, hs, e⟩
  yld := fun i H x H' d e ⟨L, h⟩ ⟨e1, e2⟩ => by
    refine ⟨e1, fun F sF hM => ?_⟩
    have r : Rep G F (.ref a) (.lst ds) := hM _ List.mem_cons_self
    cases r with
    | lst hs r =>
      obtain ⟨v, e3, rv⟩ := r.get e
      have e4 := e2 _ (sF.seq hs)
      rw [e3] at e4
      cases e4
      exact rv
  stop := fun H ⟨L, h⟩ => by
    have r := h.rep
    cases r with
    | lst hs r => exact ⟨_, hs, Nat.le_of_eq r.length⟩
theorem over_tup {G : Gx} {a : Addr} {ds : List D} : Over G (Itt G.K a) ds [(.ref a, fz (.tup ds))] where
  go := fun i H hi ⟨L, h⟩ => by
    have r := h.rep
    cases r with
    | tup hs r =>
      obtain ⟨v, e, _⟩ := r.get (i := i) (List.getElem?_eq_getElem hi)
      exact ⟨_, v, hs, e⟩
  yld := fun i H x H' d e ⟨L, h⟩ ⟨e1, e2⟩ => by
    refine ⟨e1, fun F sF hM => ?_⟩
    have r : Rep G F (.ref a) (.tup ds) := hM _ List.mem_cons_self
    cases r with
    | tup hs r =>
      obtain ⟨v, e3, rv⟩ := r.get e
      have e4 := e2 _ (sqT_same sF hs)
      rw [e3] at e4
      cases e4
      exact rv
  stop := fun H ⟨L, h⟩ => by
    have r := h.rep
    cases r with
    | tup hs r => exact ⟨_, hs, Nat.le_of_eq r.length⟩
/-- a walk's reading -/
def tI (c : Cn) (Wx : WX) (x : I) : TI := fun σ H Rr => ∃ T ρ, Stt c T σ H ρ ∧ Sat c T σ Wx (evI c.P x ρ) fun ds ρ' => ∀ (J : It) (M : Hl) H', Over c.G J ds M → Stt c (M ++ T) σ H' ρ' → Rr J H'
theorem PI.to {X : Cx} {tg e : Expr} {t t' : TI} (h : PI X tg e t) (i : ∀ σ H Q, t' σ H Q → t σ H Q) : PI X tg e t' := ⟨fun pins s σ H Q I q => h.run pins s σ H Q I (i σ H Q q)⟩

/-! ### comprehensions -/
theorem compL_ok {f : D → Env → R W} : ∀ {ds : List D} {ρ : Env} {x : Str} {gs : List (Str × D)} {r : Env}, compL f ds ρ ≠ .ex x gs r
  | [], _, _, _, _, h => by simp [compL] at h
  | d :: ds, ρ, _, _, _, h => by
    simp only [compL] at h
    split at h
    · split at h <;> simp at h
    · simp at h
theorem compL_step {f : D → Env → R W} {ds : List D} {ρ ρ2 : Env} {es : List D} {i : Nat} {d : D} (hd : ds[i]? = some d) (h : compL f (ds.drop i) ρ = .ok es ρ2) :
    ∃ w ρ1 es', f d ρ = .ok w ρ1 ∧ compL f (ds.drop (i + 1)) ρ1 = .ok es' ρ2 ∧ es = w.d :: es' := by
  obtain ⟨hi, e⟩ := List.getElem?_eq_some_iff.mp hd
  rw [List.drop_eq_getElem_cons hi, e] at h
  simp only [compL] at h
  split at h
  · rename_i w ρ1 e1
    split at h
    · rename_i es' ρ2' e2
      simp only [R.ok.injEq] at h
      obtain ⟨rfl, rfl⟩ := h
      exact ⟨w, ρ1, es', e1, e2, rfl⟩
    · cases h
  · cases h
theorem compL_end {f : D → Env → R W} {ds : List D} {ρ ρ2 : Env} {es : List D} {i : Nat} (hi : ds.length ≤ i) (h : compL f (ds.drop i) ρ = .ok es ρ2) : es = [] ∧ ρ = ρ2 := by
  rw [List.drop_eq_nil_of_le hi] at h
  simp only [compL, R.ok.injEq] at h
  exact ⟨h.1.symm, h.2⟩
section
variable {c : Cn} {T : Hl} {σ : L2.St} {H : Hp} {ρ : Env}
/-- into a block: its own slot is forgotten -/
theorem Stt.into {j : Nat} (s : Stt c T σ H ρ) (hf : ∀ p ∈ c.fx, p.1 ≠ j) : Stt c T (wipe σ [j]) H (ρ.set j none) := by
  show Stt c T (σ.set j none) H (ρ.set j none)
  refine ⟨s.fit.wipe j none, fun p hp => ?_, ?_⟩
  · rw [List.getElem?_set_ne (Ne.symm (hf p hp))]; exact s.fix p hp
  · rw [ents_free]; exact (s.cut j).hd
theorem Stt.out {j : Nat} (s : Stt c T (wipe σ [j]) H ρ) (h0 : Fit σ (ρ.set j none)) (hx : ∀ p ∈ c.fx, σ[p.1]? = some (some p.2)) : Stt c T σ H (ρ.set j none) := by
  refine ⟨h0, hx, ?_⟩
  have q := (s.cut j).hd
  have e : ents (wipe σ [j]) (ρ.set j none) = ents σ (ρ.set j none) := ents_free σ ρ j none
  rw [e] at q
  exact q
theorem Fit.out {j : Nat} (f : Fit (L2.wipe σ [j]) ρ) : Fit σ (ρ.set j none) := by
  refine ⟨by have := f.len; rw [wipe_length] at this; simp [this], fun k w h => ?_⟩
  by_cases e : j = k
  · subst e
    by_cases hl : j < ρ.length
    · rw [List.getElem?_set_self hl] at h; cases h
    · rw [List.getElem?_eq_none (by simpa using hl)] at h; cases h
  · rw [List.getElem?_set_ne e] at h
    obtain ⟨v, hv⟩ := f.has k w h
    have hv' : (σ.set j none)[k]? = some (some v) := hv
    rw [List.getElem?_set_ne e] at hv'
    exact ⟨v, hv'⟩
end
end Ev

namespace Ev
open PySem PySem.Spec PyProof.Rows L2
section
variable {c : Cn} {N : List Str} {Wx : WX}
theorem blk_amb {sc scope : Scope} {X : Cx} (A : AmbE c N sc Wx X) (hc : c.P.cur = none) (s : Shared) (H : Hp) (C : Addr) (cl : List (Str × Addr)) (fp : List Addr) :
    AmbE c N (relS scope sc) (fun _ _ _ _ => False) (X.blk s H scope (compEnvC scope cl C X.env) fp) where
  eK := A.eK
  eN := A.eN
  nd := A.nd
  esc := by rw [← A.esc]; rfl
  calm := A.calm
  fn := A.fn
  gl := A.gl
  bl := A.bl
  un := A.un
  tk := takes0
  io := A.io
  cc := A.cc
  cur := fun i x gs e => by rw [hc] at e; cases e
/-- what a test of a part says of where it stands -/
theorem hd_of {T : Hl} {σ : L2.St} {H : Hp} {ρ : Env} {M : Hl} (s : Stt c (M ++ T) σ H ρ) : ∃ L, Hd c.G H (M ++ L) := by
  refine ⟨T ++ c.M ++ ents σ ρ, s.hd.perm ?_⟩
  refine List.perm_append_comm.trans ?_
  rw [List.append_assoc, List.append_assoc, List.append_assoc]
def compF (c : Cn) (j : Nat) (elt : E) : D → Env → R W := fun d r => (evE c.P elt (r.set j (some (fz d)))).bind fun w r1 => .ok w (r1.set j none)
theorem compF_ok {j : Nat} {elt : E} {d : D} {r r1 : Env} {w : W} (h : compF c j elt d r = .ok w r1) : ∃ r0, evE c.P elt (r.set j (some (fz d))) = .ok w r0 ∧ r1 = r0.set j none := by
  unfold compF at h
  cases e : evE c.P elt (r.set j (some (fz d))) with
  | ok w' r0 =>
    rw [e] at h
    simp only [R.bind, R.ok.injEq] at h
    obtain ⟨rfl, rfl⟩ := h
    exact ⟨r0, rfl, rfl⟩
  | ex x gs r0 => rw [e] at h; simp [R.bind] at h
  | no => rw [e] at h; simp [R.bind] at h
theorem comp_ok {sc scope : Scope} {X : Cx} (A : AmbE c N sc Wx X) {wi : TI} {y : Str} {j : Nat} {elt : E} {it : I} {σ : L2.St} {H : Hp} {Q : VK}
    (h : tE c Wx (.comp y j elt it) σ H Q) : tLc (tI c Wx it) (gName j) tYes (tE c (fun _ _ _ _ => False) elt) [j] σ H Q := by
  obtain ⟨T, ρ, st, h⟩ := h
  simp only [evE] at h
  split at h
  · rename_i hc
    obtain ⟨hcalm, hio⟩ := hc
    have hf : ∀ p ∈ c.fx, p.1 ≠ j := fun p hp e => by
      have := A.io p hp
      rw [e] at this
      have q : c.P.io.contains j = true := by simpa using this
      rw [hio] at q; cases q
    refine ⟨T, ρ, st, h.bind.imp fun ds ρ1 h1 J M H1 ov st1 => fun Dl hD => ?_⟩
    split at h1
    · rename_i hl
      have h2 : Sat c T σ Wx (compL (compF c j elt) ds (ρ1.set j none)) (fun es ρ2 => Sat c T σ Wx (R.ok (ow es) (ρ2.set j none)) _) := h1.bind
      -- the items that are made
      cases hcl : compL (compF c j elt) ds (ρ1.set j none) with
      | no => rw [hcl] at h2; exact h2.elim
      | ex x gs r => exact absurd hcl compL_ok
      | ok es ρ2 =>
        rw [hcl] at h2
        have fin : ∀ v H', Stt c ((v, ow es) :: T) σ H' (ρ2.set j none) → Q v H' := h2
        refine ⟨fun i m H => m = ds.length - i ∧ i ≤ ds.length ∧ ∃ es1 es2 r, es = es1 ++ es2 ∧ es1.length = i ∧ compL (compF c j elt) (ds.drop i) r = .ok es2 ρ2 ∧ Stt c ((.ref Dl, ow es1) :: (M ++ T)) (L2.wipe σ [j]) H r,
          ⟨ds.length, by simp, Nat.zero_le _, [], es, ρ1.set j none, rfl, rfl, by simpa using hcl, ?_⟩, ?_⟩
        · refine (st1.into hf).temps fun h => ?_
          rw [List.cons_append]
          exact Hd.laidO (M := []) h hD fun F _ _ => .nil
        · rintro i m H2 ⟨rfl, hi, es1, es2, r, he, hes, hc2, s2⟩
          have hM : ∃ L, Hd c.G H2 (M ++ L) := hd_of s2.tail
          by_cases hlt : i < ds.length
          · refine .inr ⟨ov.go i H2 hlt hM, fun H' => ∃ es1 es2 r, es = es1 ++ es2 ∧ es1.length = i + 1 ∧ compL (compF c j elt) (ds.drop (i + 1)) r = .ok es2 ρ2 ∧ Stt c ((.ref Dl, ow es1) :: (M ++ T)) (L2.wipe σ [j]) H' r,
              fun H' q => ⟨ds.length - (i + 1), by omega, rfl, hlt, q⟩, fun x H3 y => ?_⟩
            have hd := List.getElem?_eq_getElem hlt
            obtain ⟨e3, hx⟩ := ov.yld i H2 x H3 _ hd hM y
            subst e3
            obtain ⟨w, r1, es', e4, e5, e6⟩ := compL_step hd hc2
            -- the item stands in its slot
            have s3 : Stt c ((x, fz ds[i]) :: (.ref Dl, ow es1) :: (M ++ T)) (L2.wipe σ [j]) H3 r := s2.temps fun h => by
              have h' : Hd c.G H3 (M ++ ((.ref Dl, ow es1) :: (T ++ (ents (L2.wipe σ [j]) r ++ c.M)))) := h.perm (by
                rw [List.cons_append, List.append_assoc]
                exact List.perm_middle.symm)
              have h2 := Hd.from (v := x) (d := ds[i]) h' fun F sF hM => hx F sF hM
              refine h2.perm ?_
              rw [List.cons_append, List.cons_append, List.append_assoc]
              exact List.Perm.cons _ List.perm_middle
            have hj : j < r.length := by
              have e1 := s2.fit.len
              have e2 := st1.fit.len
              rw [wipe_length] at e1
              have := hl.2
              omega
            have s4 := s3.put hj hf
            obtain ⟨r0, e7, rfl⟩ := compF_ok e4
            refine And.intro ?_ ?_
            · show (((σ.set j none).set j (some x)).set j none) = σ.set j none
              rw [List.set_set, List.set_set]
            · show tE c (fun _ _ _ _ => False) elt ((L2.wipe σ [j]).set j (some x)) H3 _
              refine ⟨_, _, s4, ?_⟩
              rw [e7]
              intro v H4 s5
              -- its value is appended
              have s6 := s5.freeze
              obtain ⟨acc, hacc, hal⟩ : ∃ vs, H4 Dl = some (.lst vs) ∧ vs.length = es1.length := by
                have q : Stt c ((.ref Dl, ow es1) :: (v, fz w.d) :: (M ++ T)) _ H4 r0 := s6.swap
                obtain ⟨L, hL⟩ := hd_of (M := [(.ref Dl, ow es1)]) q
                exact hL.owned
              have hds : ds.length ≤ sizeLine := hl.1
              refine ⟨acc, hacc, by rw [hal, hes]; omega, es1 ++ [w.d], es', r0.set j none, by rw [he, e6]; simp, by rw [List.length_append, hes]; rfl, e5, ?_⟩
              have s7 : Stt c ((.ref Dl, ow (es1 ++ [w.d])) :: (v, fz w.d) :: (M ++ T)) ((L2.wipe σ [j]).set j (some x)) (upd H4 Dl (.lst (acc ++ [v]))) r0 := (s6.swap).temps fun h =>
                Hd.mut (M := [(v, fz w.d)]) h fun F vs sF e r hM => by
                  rw [hacc] at e
                  cases e
                  exact r.append (.cons (hM _ List.mem_cons_self) .nil)
              have s8 := s7.under.into (j := j) hf
              rw [show L2.wipe ((L2.wipe σ [j]).set j (some x)) [j] = L2.wipe σ [j] from by
                show (((σ.set j none).set j (some x)).set j none) = σ.set j none
                rw [List.set_set, List.set_set]] at s8
              exact s8
          · have e : i = ds.length := by omega
            subst e
            obtain ⟨rfl, rfl⟩ := compL_end (Nat.le_refl _) hc2
            refine .inl ⟨ov.stop H2 hM, ?_⟩
            rw [List.append_nil] at he
            subst he
            refine fin _ _ ((Stt.out s2 s2.fit.out st1.fix).drop ?_)
            exact List.Sublist.cons_cons _ (List.sublist_append_right _ _)
    · exact h1.elim
  · exact h.elim
end
end Ev

namespace Ev
open PySem PySem.Spec PyProof.Rows L2
section
variable {c : Cn} {N : List Str}
theorem b2 {a b : Bool} (h : (a && b) = true) : a = true ∧ b = true := Bool.and_eq_true_iff.mp h
theorem of_dec {p : Prop} [Decidable p] (h : decide p = true) : p := of_decide_eq_true h
theorem of_not {b : Bool} (h : (!b) = true) : b = false := by simpa using h
theorem k_rep {G : Gx} {d : D} {k : Const} (h : kOk d k = true) {X : Cx} {j : Nat} {pos : Pos} : ∃ v, (∀ F, Rep G F v d) ∧ PE X (.Constant k j pos) (L2.tC v) := by
  cases d <;> cases k <;> simp [kOk] at h
  · exact ⟨_, fun F => .non, pe_non⟩
  · subst h; exact ⟨_, fun F => .bl _, pe_bl⟩
  · subst h; exact ⟨_, fun F => .int _, pe_int⟩
  · subst h; exact ⟨_, fun F => .str _, pe_str⟩
theorem give_back {T : Hl} {σ : L2.St} {H : Hp} {ρ : Env} {i : Nat} {v : V} {w w' : W} (s : Stt c ((v, w) :: T) σ H (ρ.set i none)) (hv : σ[i]? = some (some v)) : Stt c T σ H (ρ.set i (some w)) := by
  have q := s.give hv
  rwa [List.set_set] at q
theorem bl_of {G : Gx} {H : Hp} {v : V} {b : Bool} (r : Rep G H v (.bl b)) : v = .bl b := by cases r; rfl
theorem int_of {G : Gx} {H : Hp} {v : V} {b : Int} (r : Rep G H v (.int b)) : v = .int b := by cases r; rfl
theorem PE.dead {X : Cx} {e : Expr} {t : TE} (h : ∀ σ H Q, ¬ t σ H Q) : PE X e t := ⟨fun _ _ σ H Q _ q => (h σ H Q q).elim⟩
theorem blkOk {sc scope : Scope} {X : Cx} {Wx : WX} {y : Str} {j : Nat} (A : AmbE c N sc Wx X) (h : blkC N sc scope [(y, j)] = true) : BlkOk X.N X.env.scope scope [(y, j)] := by
  rw [A.eN, A.esc]; exact blkOk_by h
theorem tru_of {K : PySem.W.Frag} {G : Gx} {H : Hp} (hK : K = G.K) {v : V} {d : D} {b : Bool} (r : Rep G H v d) (e : truD d = some b) : TruV K v H b := by
  cases d <;> simp only [truD, reduceCtorEq, Option.some.injEq] at e
  · cases r; exact e.symm
  · cases r; exact e.symm
  · cases r; exact e.symm
  · cases r
    split at e
    · rename_i hz
      exact ⟨hz, (Option.some.inj e).symm⟩
    · cases e
  · cases r with
    | lst h t =>
      refine .inl ⟨_, by rw [hK]; exact h, ?_⟩
      rw [← e]
      cases t <;> rfl
end
end Ev

namespace Ev
open PySem PySem.Spec PyProof.Rows L2
section
variable {c : Cn} {N : List Str}
theorem boot_list : bootBuiltins "list" = some (.type "list") := by decide +kernel
theorem boot_int : bootBuiltins "int" = some (.type "int") := by decide +kernel
theorem boot_str : bootBuiltins "str" = some (.type "str") := by decide +kernel
theorem boot_isi : bootBuiltins "isinstance" = some (.builtin "isinstance") := by decide +kernel
theorem boot_len : bootBuiltins "len" = some (.builtin "len") := by decide +kernel
/-- a built-in's call over evaluated arguments -/
theorem blt_go {T : Hl} {σ : L2.St} {H : Hp} {Wx : WX} {f : Str} {es : Es} {Q : VK} (h : tE c Wx (.blt f es) σ H Q) : tCB (rBl c.G f) (tEs c Wx es) σ H Q := by
  obtain ⟨T, ρ, st, h⟩ := h
  simp only [evE] at h
  refine ⟨T, ρ, st, h.bind.withEq.imp fun ws ρ1 ⟨e1, h1⟩ vs H1 hl s1 => ?_⟩
  obtain ⟨m, e2, h2⟩ := h1.bind.lift
  have ez := evEs_fz c.P es ρ ws ρ1 e1
  refine ⟨ws.map (·.d), m, ?_, e2, mkQ_ok s1 (fun F hM => ?_) h2⟩
  · obtain ⟨L, F, sF, hM, _⟩ := hd_of s1
    have hM' : ∀ q ∈ vs.zip (ws.map fun w => fz w.d), Held c.G F H1 q.1 q.2 := fun q hq => by
      rw [ez] at hq
      exact hM q (List.mem_append_left _ hq)
    exact Reps.mono sF (zip_held hl hM')
  · exact zip_held hl fun q hq => by
      rw [ez] at hq
      exact hM q hq
theorem sp_of {T : Hl} {σ : L2.St} {H : Hp} {ρ : Env} {M : Hl} (s : Stt c (M ++ T) σ H ρ) : Hd c.G H (M ++ (ents σ ρ ++ (T ++ c.M))) := s.hd.perm (by
  rw [List.append_assoc]
  exact (List.perm_append_comm_assoc _ _ _))
theorem st_of {T T' : Hl} {σ : L2.St} {H H' : Hp} {ρ : Env} {M : Hl} (s : Stt c T σ H ρ) (h : Hd c.G H' (M ++ (ents σ ρ ++ (T' ++ c.M)))) : Stt c (M ++ T') σ H' ρ := ⟨s.fit, s.fix, h.perm (by
  rw [List.append_assoc]
  exact (List.perm_append_comm_assoc _ _ _))⟩
/-- two operands of a test -/
theorem two' {Wx : WX} {a b : E} {σ : L2.St} {H : Hp} {Rr : V → V → Hp → Prop} {f : W → W → Env → R Bool} {k : Bool → Env → Prop} {T : Hl} {ρ : Env} (st : Stt c T σ H ρ)
    (h : Sat c T σ Wx ((evE c.P a ρ).bind fun x ρ1 => (evE c.P b ρ1).bind fun y ρ2 => f x y ρ2) k)
    (q : ∀ x y ρ2 v u H2, Stt c ((u, y) :: (v, x) :: T) σ H2 ρ2 → Sat c T σ Wx (f x y ρ2) k → Rr v u H2) :
    tE c Wx a σ H fun v H1 => tE c Wx b σ H1 fun u H2 => Rr v u H2 :=
  ⟨T, ρ, st, h.bind.imp fun x ρ1 h1 v H1 st1 => ⟨(v, x) :: T, ρ1, st1, h1.bind.wk1.imp fun y ρ2 h2 u H2 st2 => q x y ρ2 v u H2 st2 h2⟩⟩
theorem two'' {Wx : WX} {a b : E} {σ : L2.St} {H : Hp} {Rr : V → V → Hp → Prop} {f : W → W → Env → R (List D)} {k : List D → Env → Prop} {T : Hl} {ρ : Env} (st : Stt c T σ H ρ)
    (h : Sat c T σ Wx ((evE c.P a ρ).bind fun x ρ1 => (evE c.P b ρ1).bind fun y ρ2 => f x y ρ2) k)
    (q : ∀ x y ρ2 v u H2, Stt c ((u, y) :: (v, x) :: T) σ H2 ρ2 → Sat c T σ Wx (f x y ρ2) k → Rr v u H2) :
    tE c Wx a σ H fun v H1 => tE c Wx b σ H1 fun u H2 => Rr v u H2 :=
  ⟨T, ρ, st, h.bind.imp fun x ρ1 h1 v H1 st1 => ⟨(v, x) :: T, ρ1, st1, h1.bind.wk1.imp fun y ρ2 h2 u H2 st2 => q x y ρ2 v u H2 st2 h2⟩⟩
mutual
theorem soundE : ∀ (x : E) {sc : Scope} {Wx : WX} {X : Cx} {e : Expr}, AmbE c N sc Wx X → chkE N sc x e = true → PE X e (tE c Wx x)
  | .var i, sc, Wx, X, e, A, h => by
    simp only [chkE] at h
    split at h
    · refine PE.to (A.vis h) fun σ H Q ⟨T, ρ, st, q⟩ => ?_
      simp only [evE, getV] at q
      split at q
      · rename_i w hw
        obtain ⟨v, hv, s1⟩ := st.take hw
        refine ⟨v, hv, q v H ?_⟩
        exact give_back (w' := w) (s1.freeze.dup rfl) hv
      · exact q.elim
    · cases h
  | .k d, sc, Wx, X, e, A, h => by
    simp only [chkE] at h
    split at h
    · obtain ⟨v, r, p⟩ := k_rep (G := c.G) h
      exact PE.to p fun σ H Q ⟨T, ρ, st, q⟩ => q v H (st.cons r)
    · cases h
  | .glob y, sc, Wx, X, e, A, h => by
    simp only [chkE] at h
    split at h
    · obtain ⟨h1, h2⟩ := b2 h
      have := of_dec h1
      subst this
      cases hg : c.P.gl y with
      | none => exact Ev.PE.dead fun σ H Q ⟨T, ρ, st, q⟩ => by simp only [evE, hg, lift, R.bind] at q; exact q
      | some d =>
        obtain ⟨v, u, e1, r, rr⟩ := A.gl y d hg
        obtain ⟨g1, g2⟩ := A.gl1 h2
        refine PE.to (pe_glob g1 e1 r g2) fun σ H Q ⟨T, ρ, st, q⟩ => ?_
        simp only [evE, hg, lift, R.bind] at q
        exact q v H (st.cons rr)
    · cases h
  | .bin o a b, sc, Wx, X, e, A, h => by
    simp only [chkE] at h
    split at h
    · obtain ⟨h12, h3⟩ := b2 h
      obtain ⟨h1, h2⟩ := b2 h12
      have := of_dec h1
      subst this
      refine PE.to (pe_op (op_bin A.eK o) (soundE a A h2) (soundE b A h3)) fun σ H Q ⟨T, ρ, st, q⟩ => ?_
      simp only [evE] at q
      refine two st q fun x y ρ2 v u H2 s2 q2 => ?_
      obtain ⟨m, e, q3⟩ := q2.bind.lift
      have s3 := fz2 s2
      exact ⟨x.d, y.d, m, s3.tail.rep, s3.rep, e, mkQ_ok (M := [(u, fz y.d), (v, fz x.d)]) s3 (fun F hM => held2 hM) q3⟩
    · cases h
  | .neg a, sc, Wx, X, e, A, h => by
    simp only [chkE] at h
    split at h
    · refine PE.to (pe_un un_neg (soundE a A h)) fun σ H Q ⟨T, ρ, st, q⟩ => ?_
      simp only [evE] at q
      refine ⟨T, ρ, st, q.bind.imp fun x ρ1 q1 v H1 s1 => ?_⟩
      split at q1
      · rename_i i hx
        have r := s1.repW
        rw [hx] at r
        exact ⟨i, int_of r, q1 _ _ (s1.tail.cons fun F => .int _)⟩
      · exact q1.elim
    · cases h
  | .cmp o a b, sc, Wx, X, e, A, h => by
    simp only [chkE] at h
    split at h
    · obtain ⟨h123, h4⟩ := b2 h
      obtain ⟨h12, h3⟩ := b2 h123
      obtain ⟨h1, h2⟩ := b2 h12
      have := of_dec h1
      subst this
      refine PE.to (pe_cmpR (op_cmp A.eK A.un o) (soundE a A h2) (soundE b A h3) (of_not h4)) fun σ H Q ⟨T, ρ, st, q⟩ => ?_
      simp only [evE] at q
      refine two st q fun x y ρ2 v u H2 s2 q2 => ?_
      obtain ⟨t, e, q3⟩ := q2.bind.lift
      have s3 := fz2 s2
      exact ⟨x.d, y.d, t, s3.tail.rep, s3.rep, e, q3 _ _ (s3.tail.tail.cons fun F => .bl _)⟩
    · cases h
  | .and a b, sc, Wx, X, e, A, h => by
    simp only [chkE] at h
    have fin : ∀ {σ H Q} {T : Hl} {ρ : Env}, Stt c T σ H ρ → Sat c T σ Wx (evE c.P (.and a b) ρ) (fun w ρ' => ∀ v H', Stt c ((v, w) :: T) σ H' ρ' → Q v H') → tAndV (tE c Wx a) (tE c Wx b) σ H Q := fun {σ H Q T ρ} st q => by
      simp only [evE] at q
      refine ⟨T, ρ, st, q.bind.imp fun x ρ1 q1 v H1 s1 => ?_⟩
      split at q1
      · rename_i t hx
        have r := s1.repW
        rw [hx] at r
        refine ⟨t, bl_of r, ?_⟩
        cases t with
        | true => exact ⟨T, ρ1, s1.tail, q1⟩
        | false => exact q1 _ _ (s1.tail.cons fun F => .bl _)
      · exact q1.elim
    split at h
    · obtain ⟨h1, h2⟩ := b2 h
      exact PE.to (pe_and (soundE a A h1) (pe_one (soundE b A h2))) fun σ H Q ⟨T, ρ, st, q⟩ => fin st q
    · obtain ⟨h1, h2⟩ := b2 h
      exact PE.to (pe_and (soundE a A h1) (soundE b A h2)) fun σ H Q ⟨T, ρ, st, q⟩ => fin st q
    · cases h
  | .or a b, sc, Wx, X, e, A, h => by
    simp only [chkE] at h
    have fin : ∀ {σ H Q} {T : Hl} {ρ : Env}, Stt c T σ H ρ → Sat c T σ Wx (evE c.P (.or a b) ρ) (fun w ρ' => ∀ v H', Stt c ((v, w) :: T) σ H' ρ' → Q v H') → tOrV (tE c Wx a) (tE c Wx b) σ H Q := fun {σ H Q T ρ} st q => by
      simp only [evE] at q
      refine ⟨T, ρ, st, q.bind.imp fun x ρ1 q1 v H1 s1 => ?_⟩
      split at q1
      · rename_i t hx
        have r := s1.repW
        rw [hx] at r
        refine ⟨t, bl_of r, ?_⟩
        cases t with
        | false => exact ⟨T, ρ1, s1.tail, q1⟩
        | true => exact q1 _ _ (s1.tail.cons fun F => .bl _)
      · exact q1.elim
    split at h
    · obtain ⟨h1, h2⟩ := b2 h
      exact PE.to (pe_or (soundE a A h1) (pe_one (soundE b A h2))) fun σ H Q ⟨T, ρ, st, q⟩ => fin st q
    · obtain ⟨h1, h2⟩ := b2 h
      exact PE.to (pe_or (soundE a A h1) (soundE b A h2)) fun σ H Q ⟨T, ρ, st, q⟩ => fin st q
    · cases h
  | .inv a, sc, Wx, X, e, A, h => by
    simp only [chkE] at h
    split at h
    · refine PE.to (pe_not (soundE a A h)) fun σ H Q ⟨T, ρ, st, q⟩ => ?_
      simp only [evE] at q
      refine ⟨T, ρ, st, q.bind.imp fun x ρ1 q1 v H1 s1 => ?_⟩
      split at q1
      · rename_i t hx
        have r := s1.repW
        rw [hx] at r
        exact ⟨t, bl_of r, q1 _ _ (s1.tail.cons fun F => .bl _)⟩
      · exact q1.elim
    · cases h
  | .ife t a b, sc, Wx, X, e, A, h => by
    simp only [chkE] at h
    split at h
    · obtain ⟨h12, h3⟩ := b2 h
      obtain ⟨h1, h2⟩ := b2 h12
      refine PE.to (pe_ifExp (soundC t A h1) (soundE a A h2) (soundE b A h3)) fun σ H Q ⟨T, ρ, st, q⟩ => ?_
      simp only [evE] at q
      refine ⟨T, ρ, st, q.bind.imp fun k ρ1 q1 H1 s1 => ?_⟩
      cases k with
      | true => exact ⟨T, ρ1, s1, q1⟩
      | false => exact ⟨T, ρ1, s1, q1⟩
    · cases h
  | .tup es, sc, Wx, X, e, A, h => by
    simp only [chkE] at h
    split at h
    · refine PE.to (pe_tup (soundEs es A h)) fun σ H Q ⟨T, ρ, st, q⟩ => ?_
      simp only [evE] at q
      refine ⟨T, ρ, st, q.bind.withEq.imp fun ws ρ1 ⟨e1, q1⟩ vs H1 hl s1 => ?_⟩
      split at q1
      · rename_i hz
        have ez := evEs_fz c.P es ρ ws ρ1 e1
        refine ⟨by rw [hl]; exact hz, fun p hp => ?_⟩
        exact mkQ_ok (m := Mk.tup (List.map W.d ws)) (pre := fun F => Reps c.G F vs (List.map W.d ws)) s1 (fun F hM => zip_held hl fun q hq => by rw [ez] at hq; exact hM q hq) (fun v H' s => q1 v H' s) p vs hp fun F _ r => r
      · exact q1.elim
    · cases h
  | .lst es, sc, Wx, X, e, A, h => by
    simp only [chkE] at h
    split at h
    · refine PE.to (pe_lst (soundEs es A h)) fun σ H Q ⟨T, ρ, st, q⟩ => ?_
      simp only [evE] at q
      refine ⟨T, ρ, st, q.bind.withEq.imp fun ws ρ1 ⟨e1, q1⟩ vs H1 hl s1 => ?_⟩
      split at q1
      · rename_i hz
        have ez := evEs_fz c.P es ρ ws ρ1 e1
        refine ⟨by rw [hl]; exact hz, fun p hp => ?_⟩
        exact mkQ_ok (m := Mk.lst (List.map W.d ws)) (pre := fun F => Reps c.G F vs (List.map W.d ws)) s1 (fun F hM => zip_held hl fun q hq => by rw [ez] at hq; exact hM q hq) (fun v H' s => q1 v H' s) p vs hp fun F _ r => r
      · exact q1.elim
    · cases h
  | .idx a i, sc, Wx, X, e, A, h => by
    simp only [chkE] at h
    split at h
    · obtain ⟨h1, h2⟩ := b2 h
      refine PE.to (pe_ix (ix_D A.eK) (soundE a A h1) (soundE i A h2) (plain_ix h2)) fun σ H Q ⟨T, ρ, st, q⟩ => ?_
      simp only [evE] at q
      refine two st q fun x y ρ2 v u H2 s2 q2 => ?_
      obtain ⟨d, e, q3⟩ := q2.bind.lift
      have s3 := fz2 s2
      refine ⟨x.d, y.d, d, s3.tail.rep, s3.rep, e, fun z hz => q3 z _ ?_⟩
      have s4 : Stt c ((z, fz d) :: [(v, fz x.d)] ++ T) σ H2 ρ2 := s3.tail.temps fun h => Hd.from (M := [(v, fz x.d)]) h fun F sF hM => hz F sF (.inl (hM _ List.mem_cons_self))
      exact s4.under
    · cases h
  | .idxS n i, sc, Wx, X, e, A, h => by
    simp only [chkE] at h
    split at h
    · obtain ⟨h1, h2⟩ := b2 h
      refine PE.to (pe_ix (ix_D A.eK) (A.vis h1) (soundE i A h2) (plain_ix h2)) fun σ H Q ⟨T, ρ, st, q⟩ => ?_
      simp only [evE] at q
      split at q
      · rename_i w0 hw0
        obtain ⟨v0, hv0⟩ := st.fit.has n w0 hw0
        refine ⟨v0, hv0, T, ρ, st, q.bind.imp fun y ρ1 q1 u H2 s2 => ?_⟩
        split at q1
        · rename_i w hw
          obtain ⟨d, e, q3⟩ := q1.bind.lift
          obtain ⟨v, hv, s3⟩ := s2.take hw
          rw [hv0] at hv
          cases hv
          refine ⟨w.d, y.d, d, s3.repW, s2.repW, e, fun z hz => q3 z _ ?_⟩
          have s4 : Stt c ((z, fz d) :: [(v0, w)] ++ ((u, y) :: T)) σ H2 (ρ1.set n none) := s3.temps fun h => Hd.from (M := [(v0, w)]) h fun F sF hM => hz F sF (by
            have q := hM (v0, w) List.mem_cons_self
            unfold Held at q
            split at q
            · exact .inl q
            · obtain ⟨a, vs, ds, e1, e2, _, e4, e5⟩ := q
              exact .inr ⟨a, vs, ds, e1, e2, e4, e5⟩)
          have s5 := s4.swap
          have s6 := s5.give hv0
          rw [List.set_set] at s6
          have e9 : ρ1.set n (some w) = ρ1 := by
            obtain ⟨hl, e⟩ := List.getElem?_eq_some_iff.mp hw
            rw [← e, List.set_getElem_self]
          rw [e9] at s6
          exact s6.under
        · exact q1.elim
      · exact q.elim
    · cases h
  | .sl a lo hi, sc, Wx, X, e, A, h => by
    simp only [chkE] at h
    split at h
    · obtain ⟨h12, h3⟩ := b2 h
      obtain ⟨h1, h2⟩ := b2 h12
      refine PE.to (pe_slice (sl_D A.eK) (soundE a A h1) (soundO lo A h2) (soundO hi A h3)) fun σ H Q ⟨T, ρ, st, q⟩ => ?_
      simp only [evE] at q
      refine ⟨T, ρ, st, q.bind.imp fun x ρ1 q1 v H1 s1 => ⟨_, ρ1, s1.freeze, q1.bind.wk1.imp fun l ρ2 q2 H2 s2 => ⟨_, ρ2, s2, q2.bind.wk1.imp fun u ρ3 q3 H3 s3 => ?_⟩⟩⟩
      obtain ⟨m, e, q4⟩ := q3.bind.lift
      exact ⟨x.d, m, s3.rep, e, mkQ_ok (M := [(v, fz x.d)]) s3 (fun F hM => hM (v, fz x.d) List.mem_cons_self) q4⟩
    · cases h
  | .call f as, sc, Wx, X, e, A, h => by
    simp only [chkE] at h
    split at h
    · obtain ⟨h12, h3⟩ := b2 h
      obtain ⟨h1, h2⟩ := b2 h12
      have := of_dec h1
      subst this
      cases hf : c.P.fs f with
      | none =>
        refine Ev.PE.dead fun σ H Q ⟨T, ρ, st, q⟩ => ?_
        simp only [evE, hf] at q
        exact q
      | some sem =>
        obtain ⟨k, fa, fd, ps, e1, e2, e3, e4, F⟩ := A.fn f sem hf
        obtain ⟨g1, g2⟩ := A.gl1 h2
        obtain ⟨st1, st2⟩ := starA1 (env := X.env) h3
        refine PE.to (pe_callS F e4 g1 e1 e2 e3 (fun σ => passAt A.tk σ) (soundA as A h3) g2 st1 (back_any st2)) fun σ H Q ⟨T, ρ, st, q⟩ => ?_
        simp only [evE, hf] at q
        refine ⟨T, ρ, st, q.bind.imp fun ws ρ1 q1 vs H1 hl hat s1 => ?_⟩
        refine ⟨ents σ ρ1 ++ (T ++ c.M), ws, hl, sp_of s1, ?_⟩
        simp only [doCall] at q1
        split at q1
        · rename_i w outs hs
          try rw [hs]
          split at q1
          · rename_i ρ2 hb
            intro v H2 h2
            refine q1 v H2 ?_
            have s2 : Stt c (((v, w) :: (ownV vs ws).zip outs) ++ T) σ H2 ρ1 := st_of (s1.drop (List.sublist_append_right _ _)) (by simpa using h2)
            have s3 : Stt c ((ownV vs ws).zip outs ++ ((v, w) :: T)) σ H2 ρ1 := s2.perm List.perm_middle.symm
            exact back_ok hat hb s3
          · exact q1.elim
        · rename_i x gs hs
          try rw [hs]
          split at q1
          · intro C dd H2 e5 h2
            exact q1 C dd H2 e5 (st_of (M := [(.ref dd, fz (.exc x gs))]) (s1.drop (List.sublist_append_right _ _)) (by simpa using h2))
          · exact q1.elim
        · exact q1.elim
    · cases h
  | .blt f es, sc, Wx, X, e, A, h => by
    simp only [chkE] at h
    split at h
    · obtain ⟨h123, h4⟩ := b2 h
      obtain ⟨h12, h3⟩ := b2 h123
      obtain ⟨h1, h2⟩ := b2 h12
      have := of_dec h1
      subst this
      obtain ⟨g1, g2⟩ := A.gl1 h2
      obtain ⟨st1, st2⟩ := starEs1 (env := X.env) h4
      have hm := of_dec h3
      have hb := soundEs es A h4
      simp only [bltNames, List.mem_cons, List.not_mem_nil, or_false] at hm
      rcases hm with rfl | rfl | rfl | rfl
      · exact PE.to (pe_callB (blt_len A.eK) g1 (A.bl _ (by decide +kernel)) boot_len hb (by decide +kernel) g2 st1 (back_any st2)) fun σ H Q q => blt_go (T := []) q
      · exact PE.to (pe_callTy (blt_list A.eK) g1 (A.bl _ (by decide +kernel)) boot_list hb (by decide +kernel) g2 st1 (back_any st2)) fun σ H Q q => blt_go (T := []) q
      · exact PE.to (pe_callTy blt_int g1 (A.bl _ (by decide +kernel)) boot_int hb (by decide +kernel) g2 st1 (back_any st2)) fun σ H Q q => blt_go (T := []) q
      · exact PE.to (pe_callTy blt_str g1 (A.bl _ (by decide +kernel)) boot_str hb (by decide +kernel) g2 st1 (back_any st2)) fun σ H Q q => blt_go (T := []) q
    · cases h
  | .isl n, sc, Wx, X, e, A, h => by
    simp only [chkE] at h
    split at h
    · obtain ⟨h1234, h5⟩ := b2 h
      obtain ⟨h123, h4⟩ := b2 h1234
      obtain ⟨h12, h3⟩ := b2 h123
      obtain ⟨h1, h2⟩ := b2 h12
      have e1 := of_dec h1
      have e2 := of_dec h2
      subst e1 e2
      obtain ⟨g1, g2⟩ := A.gl1 h3
      obtain ⟨g3, g4⟩ := A.gl1 h4
      refine PE.to (pe_callB call_isi g1 (A.bl _ (by decide +kernel)) boot_isi (pa_cons (A.vis h5) (pa_cons (pe_bltn (v := .ty "list") g3 (A.bl _ (by decide +kernel)) boot_list rfl (by decide +kernel) g4) pa_nil)) (by decide +kernel) g2) fun σ H Q ⟨T, ρ, st, q⟩ => ?_
      simp only [evE] at q
      split at q
      · rename_i w hw
        obtain ⟨v, hv, s1⟩ := st.take hw
        have r := s1.repW
        refine ⟨v, hv, ?_⟩
        split at q
        · rename_i xs hx
          rw [hx] at r
          cases r with
          | lst hs r =>
            rename_i a vs
            have ty : TyX X.K H (.ref a) (.type "list") := by
              rcases hs with (hs | ⟨o, hs⟩) | ⟨o, its, k, hs, hc, _⟩
              · exact .base (.lst hs)
              · exact .base (.frz hs)
              · exact .kList (by rw [A.eK]; exact hs) hc
            exact ⟨_, _, _, _, true, rfl, .ty "list", ty, kit_ty (by decide +kernel), q _ _ (st.cons fun F => .bl _)⟩
        · rename_i xs hx
          rw [hx] at r
          cases r with
          | tup hs r =>
            rename_i a vs
            have ty : TyX X.K H (.ref a) (.type "tuple") := by
              rcases hs with (hs | ⟨o, hs⟩) | ⟨o, its, k, hs, hc, _⟩
              · exact .base (.tup hs)
              · exact .fTuple hs
              · exact .kTuple (by rw [A.eK]; exact hs) hc
            exact ⟨_, _, _, _, false, rfl, .ty "list", ty, kit_ty (by decide +kernel), q _ _ (st.cons fun F => .bl _)⟩
        · exact q.elim
      · exact q.elim
    · cases h
  | .comp y j elt it, sc, Wx, X, e, A, h => by
    simp only [chkE] at h
    split at h
    · cases hcalm : c.P.calm with
      | false =>
        refine Ev.PE.dead fun σ H Q ⟨T, ρ, st, q⟩ => ?_
        simp only [evE, hcalm] at q
        simp at q
        exact q
      | true =>
        obtain ⟨h12345, h6⟩ := b2 h
        obtain ⟨h1234, h5⟩ := b2 h12345
        obtain ⟨h123, h4⟩ := b2 h1234
        obtain ⟨h12, h3⟩ := b2 h123
        obtain ⟨h1, h2⟩ := b2 h12
        have e1 := of_dec h1
        subst e1
        unfold lN at h5
        obtain ⟨h51, h52⟩ := b2 h5
        refine PE.to (pe_lc (own := [(y, j)]) (g := gName j) (tt := tYes) (A.calm hcalm) (by rw [A.eN]; exact A.nd) (soundI it A h3) (blkOk A h2)
          (fun s H C cl fp => pg_name (by show X.N.Nodup; rw [A.eN]; exact A.nd) (by show X.N[j]? = _; rw [A.eN]; exact of_dec h51) ?_ ?_) (fun _ _ _ _ _ => pts_nil) (fun s H C cl fp => soundE elt (blk_amb A (A.cc hcalm) s H C cl fp) h4) (setFold h3)) fun σ H Q q => ?_
        · show L2.Loc (relS _ X.env.scope) y
          rw [A.esc]
          unfold L2.Loc
          split at h52
          · exact .inl (by assumption)
          · exact .inr (by assumption)
          · cases h52
        · rcases Bool.or_eq_true_iff.mp h6 with h7 | h7
          · left
            show (_ == _) = true
            rw [of_dec h7]; rfl
          · right
            show (relS _ X.env.scope).names.lookup y = _
            rw [A.esc]
            exact of_dec h7
        · exact comp_ok (sc := sc) (scope := sc) A (wi := tI c Wx it) q
    · cases h
  | .xat i f, sc, Wx, X, e, A, h => by
    simp only [chkE] at h
    split at h
    · obtain ⟨h1, h2⟩ := b2 h
      have e1 := of_dec h1
      subst e1
      cases hc : c.P.cur with
      | none =>
        refine Ev.PE.dead fun σ H Q ⟨T, ρ, st, q⟩ => ?_
        simp only [evE, hc] at q
        exact q
      | some p =>
        obtain ⟨n, x, gs⟩ := p
        cases hl : gs.lookup f with
        | none =>
          refine Ev.PE.dead fun σ H Q ⟨T, ρ, st, q⟩ => ?_
          simp only [evE, hc, hl, lift, R.bind] at q
          split at q <;> exact q
        | some d =>
          obtain ⟨a, dd, C, m1, m2, g⟩ := A.cur n x gs hc
          refine PE.to (g _ _ f _ (by rw [hl]; rfl) rfl (A.vis h2)) fun σ H Q ⟨T, ρ, st, q⟩ => ?_
          simp only [evE, hc, hl, lift, R.bind] at q
          split at q
          · rename_i hn
            subst hn
            refine ⟨.ref a, st.fix _ m1, rfl, rfl, dd, ?_⟩
            obtain ⟨F, sF, hh, _⟩ := id st.hd
            have r : Rep c.G F (.ref dd) (.exc x gs) := hh _ (List.mem_append_right _ (List.mem_append_right _ m2))
            cases r with
            | exc h5 h6 =>
              obtain ⟨v, e3, rv⟩ := h6.look hl
              refine ⟨_, v, rfl, sF _ _ h5, e3, q v H (st.temps fun ⟨F2, sF2, hh2, n2⟩ => ⟨F2, sF2, fun p hp => ?_, by simpa [List.filterMap_cons, oA] using n2⟩)⟩
              rcases List.mem_cons.mp hp with e4 | hp
              · subst e4
                have r2 : Rep c.G F2 (.ref dd) (.exc x gs) := hh2 _ (List.mem_append_right _ (List.mem_append_right _ m2))
                cases r2 with
                | exc h7 h8 =>
                  obtain ⟨v2, e5, rv2⟩ := h8.look hl
                  have e6 := sF2 _ _ h7
                  rw [sF _ _ h5] at e6
                  cases e6
                  rw [e3] at e5
                  cases e5
                  exact rv2
              · exact hh2 p hp
          · exact q.elim
    · cases h
theorem soundEs : ∀ (x : Es) {sc : Scope} {Wx : WX} {X : Cx} {es : List Expr}, AmbE c N sc Wx X → chkEs N sc x es = true → PA X es (tEs c Wx x)
  | .nil, sc, Wx, X, es, A, h => by
    simp only [chkEs] at h
    split at h
    · refine PA.to pa_nil fun σ H Q ⟨T, ρ, st, q⟩ => ?_
      simp only [evEs] at q
      exact q [] H rfl st
    · cases h
  | .cons a as, sc, Wx, X, es, A, h => by
    simp only [chkEs] at h
    split at h
    · obtain ⟨h1, h2⟩ := b2 h
      refine PA.to (pa_cons (soundE a A h1) (soundEs as A h2) (star_cons h1)) fun σ H Q ⟨T, ρ, st, q⟩ => ?_
      simp only [evEs] at q
      refine ⟨T, ρ, st, q.bind.imp fun w ρ1 q1 v H1 s1 => ⟨_, ρ1, s1.freeze, q1.bind.wk1.imp fun ws ρ2 q2 vs H2 hl s2 => q2 (v :: vs) H2 (by simp [hl]) ?_⟩⟩
      rw [List.zip_cons_cons, List.cons_append]
      exact s2.perm List.perm_middle
    · cases h
theorem soundA : ∀ (x : As) {sc : Scope} {Wx : WX} {X : Cx} {es : List Expr}, AmbE c N sc Wx X → chkA N sc x es = true → PA X es (tA c Wx x)
  | .nil, sc, Wx, X, es, A, h => by
    simp only [chkA] at h
    split at h
    · refine PA.to pa_nil fun σ H Q ⟨T, ρ, st, q⟩ => ?_
      simp only [evA] at q
      exact q [] H rfl True.intro st
    · cases h
  | .cons a as, sc, Wx, X, es, A, h => by
    simp only [chkA] at h
    split at h
    · obtain ⟨h1, h2⟩ := b2 h
      refine PA.to (pa_cons (soundE a A h1) (soundA as A h2) (star_cons h1)) fun σ H Q ⟨T, ρ, st, q⟩ => ?_
      simp only [evA] at q
      refine ⟨T, ρ, st, q.bind.imp fun w ρ1 q1 v H1 s1 => ⟨_, ρ1, s1.freeze, q1.bind.wk1.imp fun ws ρ2 q2 vs H2 hl hat s2 => q2 (v :: vs) H2 (by simp [hl]) ?_ ?_⟩⟩
      · simpa [ownV, As.ios] using hat
      · rw [List.zip_cons_cons, List.cons_append]
        exact s2.perm List.perm_middle
    · cases h
  | .io i as, sc, Wx, X, es, A, h => by
    simp only [chkA] at h
    split at h
    · obtain ⟨h1, h2⟩ := b2 h
      refine PA.to (pa_cons (A.vis h1) (soundA as A h2)) fun σ H Q ⟨T, ρ, st, q⟩ => ?_
      simp only [evA] at q
      split at q
      · rename_i d hw
        obtain ⟨v, hv, s1⟩ := st.take hw
        refine ⟨v, hv, _, _, s1, q.bind.wk1.imp fun ws ρ2 q2 vs H2 hl hat s2 => q2 (v :: vs) H2 (by simp [hl]) ?_ ?_⟩
        · simp only [ownV, As.ios, if_true]
          exact ⟨hv, hat⟩
        · rw [List.zip_cons_cons, List.cons_append]
          exact s2.perm List.perm_middle
      · exact q.elim
    · cases h
theorem soundC : ∀ (x : C) {sc : Scope} {Wx : WX} {X : Cx} {e : Expr}, AmbE c N sc Wx X → chkC N sc x e = true → PT X e (tC c Wx x)
  | .cmp o a b, sc, Wx, X, e, A, h => by
    simp only [chkC] at h
    split at h
    · obtain ⟨h123, h4⟩ := b2 h
      obtain ⟨h12, h3⟩ := b2 h123
      obtain ⟨h1, h2⟩ := b2 h12
      have := of_dec h1
      subst this
      refine PT.to (pt_cmpR (op_cmp A.eK A.un o) (soundE a A h2) (soundE b A h3) (of_not h4)) fun σ H Q ⟨T, ρ, st, q⟩ => ?_
      simp only [evC] at q
      refine two' st q fun x y ρ2 v u H2 s2 q2 => ?_
      obtain ⟨t, e, q3⟩ := q2.lift
      have s3 := fz2 s2
      exact ⟨x.d, y.d, t, s3.tail.rep, s3.rep, e, t, rfl, q3 _ s3.tail.tail⟩
    · cases h
  | .cmp2 o1 o2 a b d, sc, Wx, X, e, A, h => by
    simp only [chkC] at h
    split at h
    · obtain ⟨h123456, h7⟩ := b2 h
      obtain ⟨h12345, h6⟩ := b2 h123456
      obtain ⟨h1234, h5⟩ := b2 h12345
      obtain ⟨h123, h4⟩ := b2 h1234
      obtain ⟨h12, h3⟩ := b2 h123
      obtain ⟨h1, h2⟩ := b2 h12
      have e1 := of_dec h1
      have e2 := of_dec h2
      subst e1 e2
      refine PT.to (pt_chain (op_cmp A.eK A.un o1) (op_cmp A.eK A.un o2) (soundE a A h3) (soundE b A h4) (soundE d A h5) (of_not h7)) fun σ H Q ⟨T, ρ, st, q⟩ => ?_
      simp only [evC] at q
      refine two' st q fun x y ρ2 v u H2 s2 q2 => ?_
      obtain ⟨t, e, q3⟩ := q2.bind.lift
      have s3 := fz2 s2
      refine ⟨x.d, y.d, t, s3.tail.rep, s3.rep, e, t, rfl, ?_⟩
      cases t with
      | false => exact ⟨false, rfl, q3 _ s3.tail.tail⟩
      | true =>
        refine ⟨_, ρ2, s3.under, q3.bind.wk1.imp fun z ρ4 q4 w H4 s4 => ?_⟩
        obtain ⟨t2, e2, q5⟩ := q4.lift
        have s5 := s4.freeze
        exact ⟨y.d, z.d, t2, s5.tail.rep, s5.rep, e2, t2, rfl, q5 _ s5.tail.tail⟩
    · cases h
  | .and a b, sc, Wx, X, e, A, h => by
    simp only [chkC] at h
    have fin : ∀ {σ H Q}, tC c Wx (.and a b) σ H Q → L2.tAnd (tC c Wx a) (tC c Wx b) σ H Q := fun {σ H Q} ⟨T, ρ, st, q⟩ => by
      simp only [evC] at q
      refine ⟨T, ρ, st, q.bind.imp fun t ρ1 q1 H1 s1 => ?_⟩
      cases t with
      | true => exact ⟨T, ρ1, s1, q1⟩
      | false => exact q1 _ s1
    split at h
    · obtain ⟨h1, h2⟩ := b2 h
      exact PT.to (PW.pt (pw_and (soundC a A h1) (pw_and1 (soundC b A h2)))) fun σ H Q q => fin q
    · obtain ⟨h1, h2⟩ := b2 h
      have p := soundC b A h2
      exact PT.to (PW.pt (pw_and (soundC a A h1) ⟨fun wh pins s σ H Q I q => p.run pins s σ H Q I q⟩)) fun σ H Q q => fin q
    · cases h
  | .or a b, sc, Wx, X, e, A, h => by
    simp only [chkC] at h
    have fin : ∀ {σ H Q}, tC c Wx (.or a b) σ H Q → L2.tOr (tC c Wx a) (tC c Wx b) σ H Q := fun {σ H Q} ⟨T, ρ, st, q⟩ => by
      simp only [evC] at q
      refine ⟨T, ρ, st, q.bind.imp fun t ρ1 q1 H1 s1 => ?_⟩
      cases t with
      | false => exact ⟨T, ρ1, s1, q1⟩
      | true => exact q1 _ s1
    split at h
    · obtain ⟨h1, h2⟩ := b2 h
      exact PT.to (PW.pt (pw_or (soundC a A h1) (pw_or1 (soundC b A h2)))) fun σ H Q q => fin q
    · obtain ⟨h1, h2⟩ := b2 h
      have p := soundC b A h2
      exact PT.to (PW.pt (pw_or (soundC a A h1) ⟨fun wh pins s σ H Q I q => p.run pins s σ H Q I q⟩)) fun σ H Q q => fin q
    · cases h
  | .not a, sc, Wx, X, e, A, h => by
    simp only [chkC] at h
    split at h
    · refine PT.to (pt_not (soundC a A h)) fun σ H Q ⟨T, ρ, st, q⟩ => ?_
      simp only [evC] at q
      exact ⟨T, ρ, st, q.bind.imp fun t ρ1 q1 H1 s1 => q1 _ s1⟩
    · cases h
  | .tr a, sc, Wx, X, e, A, h => by
    have fin : ∀ {σ H Q}, tC c Wx (.tr a) σ H Q → tE c Wx a σ H fun x H' => ∃ k, TruV X.K x H' k ∧ Q k H' := fun {σ H Q} ⟨T, ρ, st, q⟩ => by
      simp only [evC] at q
      refine ⟨T, ρ, st, q.bind.imp fun x ρ1 q1 v H1 s1 => ?_⟩
      obtain ⟨t, e, q3⟩ := q1.lift
      exact ⟨t, tru_of A.eK s1.repW e, q3 _ s1.tail⟩
    simp only [chkC] at h
    split at h
    · exact PT.to (pt_truth (soundE a A h) (fun _ => rfl)) fun σ H Q q => fin q
    · exact PT.to (pt_truth (soundE a A h) (fun _ => rfl)) fun σ H Q q => fin q
    · exact PT.to (pt_truth (soundE a A h) (fun _ => rfl)) fun σ H Q q => fin q
    · exact PT.to (pt_truth (soundE a A h) (fun _ => rfl)) fun σ H Q q => fin q
    · exact PT.to (pt_truth (soundE a A h) (fun _ => rfl)) fun σ H Q q => fin q
    · cases h
theorem soundO : ∀ (x : O) {sc : Scope} {Wx : WX} {X : Cx} {e : Option Expr}, AmbE c N sc Wx X → chkO N sc x e = true → PO X e (tO c Wx x)
  | .none, sc, Wx, X, e, A, h => by
    simp only [chkO] at h
    split at h
    · refine PO.to po_none fun σ H Q ⟨T, ρ, st, q⟩ => ?_
      simp only [evO] at q
      exact q H st
    · cases h
  | .some a, sc, Wx, X, e, A, h => by
    simp only [chkO] at h
    split at h
    · refine PO.to (po_some (soundE a A h)) fun σ H Q ⟨T, ρ, st, q⟩ => ?_
      simp only [evO] at q
      refine ⟨T, ρ, st, q.bind.imp fun x ρ1 q1 v H1 s1 => ?_⟩
      split at q1
      · rename_i i hx
        have r := s1.repW
        rw [hx] at r
        exact ⟨i, int_of r, q1 _ s1.tail⟩
      · exact q1.elim
    · cases h
theorem soundI : ∀ (x : I) {sc : Scope} {Wx : WX} {X : Cx} {tg e : Expr}, AmbE c N sc Wx X → chkI N sc x e = true → PI X tg e (tI c Wx x)
  | .rng1 a, sc, Wx, X, tg, e, A, h => by
    simp only [chkI] at h
    split at h
    · obtain ⟨h12, h3⟩ := b2 h
      obtain ⟨h1, h2⟩ := b2 h12
      have := of_dec h1
      subst this
      obtain ⟨g1, g2⟩ := A.gl1 h2
      refine PI.to (pi_range1 g1 (A.bl _ (by decide +kernel)) (pa_cons (soundE a A h3) pa_nil (star_cons h3)) (star_cons h3)) fun σ H Q ⟨T, ρ, st, q⟩ => ?_
      simp only [evI] at q
      refine ⟨T, ρ, st, q.bind.imp fun x ρ1 q1 v H1 s1 => ?_⟩
      split at q1
      · rename_i n hx
        have r := s1.repW
        rw [hx] at r
        split at q1
        · rename_i hn
          exact ⟨n, by rw [int_of r], hn.1, hn.2, q1 _ [] H1 (over_rng 0 n.toNat) s1.tail⟩
        · exact q1.elim
      · exact q1.elim
    · cases h
  | .rng2 a b, sc, Wx, X, tg, e, A, h => by
    simp only [chkI] at h
    split at h
    · obtain ⟨h123, h4⟩ := b2 h
      obtain ⟨h12, h3⟩ := b2 h123
      obtain ⟨h1, h2⟩ := b2 h12
      have := of_dec h1
      subst this
      obtain ⟨g1, g2⟩ := A.gl1 h2
      refine PI.to (pi_range2 g1 (A.bl _ (by decide +kernel)) (pa_cons (soundE a A h3) (pa_cons (soundE b A h4) pa_nil (star_cons h4)) (star_cons h3)) (by rw [star_cons h3, star_cons h4]; rfl) (by rw [star_cons h4]; rfl)) fun σ H Q ⟨T, ρ, st, q⟩ => ?_
      simp only [evI] at q
      refine two'' st q fun x y ρ2 v u H2 s2 q2 => ?_
      have s3 := fz2 s2
      split at q2
      · rename_i i j hx hy
        have r1 := s3.tail.rep
        have r2 := s3.rep
        rw [hx] at r1
        rw [hy] at r2
        split at q2
        · rename_i hn
          exact ⟨i, j, by rw [int_of r1, int_of r2], hn, q2 _ [] H2 (over_rng i (j - i).toNat) s3.tail.tail⟩
        · exact q2.elim
      · exact q2.elim
    · cases h
  | .lst a, sc, Wx, X, tg, e, A, h => by
    simp only [chkI] at h
    refine PI.to (pi_list (soundE a A h)) fun σ H Q ⟨T, ρ, st, q⟩ => ?_
    simp only [evI] at q
    refine ⟨T, ρ, st, q.bind.imp fun x ρ1 q1 v H1 s1 => ?_⟩
    split at q1
    · rename_i ds hx
      have s2 := s1.freeze
      rw [hx] at s2
      have r := s2.rep
      cases r with
      | lst hs r => exact ⟨_, rfl, ⟨_, by rw [A.eK]; exact hs⟩, q1 _ [_] H1 (by rw [A.eK]; exact over_lst) s2⟩
    · exact q1.elim
  | .tup a, sc, Wx, X, tg, e, A, h => by
    simp only [chkI] at h
    refine PI.to (pi_tup (soundE a A h)) fun σ H Q ⟨T, ρ, st, q⟩ => ?_
    simp only [evI] at q
    refine ⟨T, ρ, st, q.bind.imp fun x ρ1 q1 v H1 s1 => ?_⟩
    split at q1
    · rename_i ds hx
      have s2 := s1.freeze
      rw [hx] at s2
      have r := s2.rep
      cases r with
      | tup hs r => exact ⟨_, rfl, ⟨_, by rw [A.eK]; exact hs⟩, q1 _ [_] H1 (by rw [A.eK]; exact over_tup) s2⟩
    · exact q1.elim
end
end
end Ev

namespace Ev
open PySem PySem.Spec PyProof.Rows L2

/-! ### does a core statement say what the text says -/
def isComp : Expr → Bool
  | .ListComp .. => true
  | _ => false
/-- is a comprehension stored by an own step of the interpreter -/
def swB (sc : Scope) (y : Str) (p : Pos) (e : Expr) : Bool := match e with
  | .ListComp _ _ scope pos => decide (sc.names.lookup y = some .local) && (p.line == pos.line) && !(scope.names.any fun (n, k) => n == y && (k == .local || k == .cell))
  | _ => false
def namesOk (N : List Str) (sc : Scope) : List Nat → List Expr → Bool
  | [], [] => true
  | i :: is, .Name y _ :: es => lN N sc i y && namesOk N sc is es
  | _, _ => false
def isDisp : Expr → Bool
  | .Tuple .. => true
  | .List .. => true
  | _ => false
def tgOk (N : List Str) (sc : Scope) (t : List Nat) (one : Bool) (e : Expr) : Bool := match one, t, e with
  | true, [i], .Name y _ => lN N sc i y
  | false, t, .Tuple es _ _ => namesOk N sc t es
  | _, _, _ => false
mutual
def chkS (N : List Str) (sc : Scope) (x : S) (s : Stmt) : Bool := match x with
  | .set i e => (match s with
    | .Assign [.Name y p] v _ => lN N sc i y && chkE N sc e v && !(swB sc y p v)
    | _ => false)
  | .setC i y j elt it => (match s with
    | .Assign [.Name z p] (.ListComp el [⟨.Name y' _, iter, [], 0⟩] scope pos) _ => lN N sc i z && swB sc z p (.ListComp el [⟨.Name y' p, iter, [], 0⟩] scope pos) &&
        (decide (y = y') && blkC N sc scope [(y, j)] && chkI N sc it iter && chkE N (relS scope sc) elt el && lN N (relS scope sc) j y &&
        (decide (scope.names.lookup y = some .cell) || decide ((relS scope sc).names.lookup y = some .local)))
    | _ => false)
  | .unp is e => (match s with
    | .Assign [.Tuple es _ _] v _ => namesOk N sc is es && chkE N sc e v && !(isDisp v) && !(isComp v)
    | _ => false)
  | .aug i o e => (match s with
    | .AugAssign (.Name y _) o' v _ => decide (o = o') && lN N sc i y && chkE N sc e v
    | _ => false)
  | .put n i e => (match s with
    | .Assign [.Subscript (.Name y _) r _] v _ => vN N sc n y && chkE N sc i r && chkE N sc e v && !(isComp v)
    | _ => false)
  | .app n e => (match s with
    | .Expr (.Call (.Attribute (.Name y _) m ap) [v] [] cp) _ => vN N sc n y && decide (m = ("append" : Str)) && (ap.endLine == cp.line) && chkE N sc e v
    | _ => false)
  | .ret e => (match s with
    | .Return (some v) _ => chkE N sc e v
    | _ => false)
  | .retN => (match s with
    | .Return none _ => true
    | _ => false)
  | .expr e => (match s with
    | .Expr v _ => chkE N sc e v && !(isComp v)
    | _ => false)
  | .ifs c a b => (match s with
    | .If t l r _ => chkC N sc c t && chkSs N sc a l && chkSs N sc b r
    | _ => false)
  | .whl c b => (match s with
    | .While t l [] _ => chkC N sc c t && chkSs N sc b l
    | _ => false)
  | .for_ t one it b => (match s with
    | .For tg iter l [] _ => tgOk N sc t one tg && chkI N sc it iter && chkSs N sc b l
    | _ => false)
  | .raise y es => (match s with
    | .Raise (some (.Call (.Name z _) (l :: ls) [] _)) none _ => decide (y = z) && gN sc z && chkEs N sc es (l :: ls)
    | _ => false)
  | .try_ b hs => (match s with
    | .Try l (h :: hh) [] [] _ => chkSs N sc b l && chkHs N sc hs (h :: hh)
    | _ => false)
  | .pass => (match s with
    | .Pass _ => true
    | .Expr (.Constant (.str _) _ _) _ => true
    | _ => false)
  | .brk => (match s with
    | .Break _ => true
    | _ => false)
  | .cont => (match s with
    | .Continue _ => true
    | _ => false)
def chkSs (N : List Str) (sc : Scope) (x : Ss) (l : List Stmt) : Bool := match x with
  | .nil => (match l with
    | [] => true
    | _ => false)
  | .cons a as => (match l with
    | s :: ss => chkS N sc a s && chkSs N sc as ss
    | _ => false)
def chkHs (N : List Str) (sc : Scope) (x : Hs) (l : List ExceptHandler) : Bool := match x with
  | .nil => (match l with
    | [] => true
    | _ => false)
  | .one y b hs => (match l with
    | .ExceptHandler (some (.Name z _)) none (s :: ss) _ :: hh => decide (y = z) && gN sc z && chkSs N sc b (s :: ss) && chkHs N sc hs hh
    | _ => false)
  | .as y i b hs => (match l with
    | .ExceptHandler (some (.Name z _)) (some n) (s :: ss) _ :: hh => decide (y = z) && gN sc z && decide (N[i]? = some n) && decide (sc.names.lookup n = some .local) && chkSs N sc b (s :: ss) && chkHs N sc hs hh
    | _ => false)
end

/-! ### readings of statements -/
def SatS (c : Cn) (T : Hl) (Wx : WX) (q : Q) (Dn : Ends) : Prop := match q with
  | .nx ρ => ∀ σ H, Stt c T σ H ρ → Dn.nx σ H
  | .rt w ρ => ∀ v σ H, Stt c ((v, w) :: T) σ H ρ → Dn.rt v H
  | .bk ρ => ∀ σ H, Stt c T σ H ρ → Dn.bk σ H
  | .ct ρ => ∀ σ H, Stt c T σ H ρ → Dn.ct σ H
  | .ex x gs ρ => ∀ (σ : L2.St) (C dd : Addr) (H : Hp), c.G.ct x = some C → Stt c ((.ref dd, fz (.exc x gs)) :: T) σ H ρ → Wx (.ref C) (some dd) σ H
  | .no => False
def tS (c : Cn) (Wx : WX) (x : S) : TS := fun Dn σ H => ∃ T ρ, Stt c T σ H ρ ∧ SatS c T Wx (evS c.P x ρ) Dn
def tSs (c : Cn) (Wx : WX) (x : Ss) : TS := fun Dn σ H => ∃ T ρ, Stt c T σ H ρ ∧ SatS c T Wx (evSs c.P x ρ) Dn
section
variable {c : Cn} {T : Hl} {Wx : WX} {Dn : Ends} {α : Type}
theorem SatS.st {r : R α} {f : α → Env → Q} (h : SatS c T Wx (r.st f) Dn) (σ : L2.St) : Sat c T σ Wx r fun a ρ => SatS c T Wx (f a ρ) Dn := by
  cases r with
  | ok a ρ => exact h
  | ex x gs ρ => exact fun C dd H e s => h σ C dd H e s
  | no => exact h
theorem SatS.wk {M : Hl} {q : Q} (h : SatS c T Wx q Dn) : SatS c (M ++ T) Wx q Dn := by
  cases q with
  | nx ρ => exact fun σ H s => h σ H (s.drop (List.sublist_append_right _ _))
  | rt w ρ => exact fun v σ H s => h v σ H (s.drop (List.Sublist.cons_cons _ (List.sublist_append_right _ _)))
  | bk ρ => exact fun σ H s => h σ H (s.drop (List.sublist_append_right _ _))
  | ct ρ => exact fun σ H s => h σ H (s.drop (List.sublist_append_right _ _))
  | ex x gs ρ => exact fun σ C dd H e s => h σ C dd H e (s.drop (List.Sublist.cons_cons _ (List.sublist_append_right _ _)))
  | no => exact h
/-- another end where the state goes on -/
theorem SatS.imp {Dn' : Ends} {q : Q} (h : SatS c T Wx q Dn) (h1 : ∀ σ H, Dn.nx σ H → Dn'.nx σ H) (h2 : ∀ v H, Dn.rt v H → Dn'.rt v H) (h3 : ∀ σ H, Dn.bk σ H → Dn'.bk σ H) (h4 : ∀ σ H, Dn.ct σ H → Dn'.ct σ H) : SatS c T Wx q Dn' := by
  cases q with
  | nx ρ => exact fun σ H s => h1 _ _ (h σ H s)
  | rt w ρ => exact fun v σ H s => h2 _ _ (h v σ H s)
  | bk ρ => exact fun σ H s => h3 _ _ (h σ H s)
  | ct ρ => exact fun σ H s => h4 _ _ (h σ H s)
  | ex x gs ρ => exact h
  | no => exact h
theorem SatS.seq {q : Q} {f : Env → Q} (h : SatS c T Wx (q.seq f) Dn) {u : TS} (hu : ∀ ρ σ H, Stt c T σ H ρ → SatS c T Wx (f ρ) Dn → u Dn σ H) : SatS c T Wx q { Dn with nx := u Dn } := by
  cases q with
  | nx ρ => exact fun σ H s => hu ρ σ H s h
  | rt w ρ => exact h
  | bk ρ => exact h
  | ct ρ => exact h
  | ex x gs ρ => exact h
  | no => exact h
end
theorem PS.to {X : Cx} {s : Stmt} {t t' : TS} (h : PS X s t) (i : ∀ Dn σ H, t' Dn σ H → t Dn σ H) : PS X s t' := ⟨fun pins sh σ H Dn I q => h.run pins sh σ H Dn I (i Dn σ H q)⟩
theorem PSs.to {X : Cx} {s : List Stmt} {t t' : TS} (h : PSs X s t) (i : ∀ Dn σ H, t' Dn σ H → t Dn σ H) : PSs X s t' := ⟨fun pins sh σ H Dn I q => h.run pins sh σ H Dn I (i Dn σ H q)⟩
theorem PS.dead {X : Cx} {s : Stmt} {t : TS} (h : ∀ Dn σ H, ¬ t Dn σ H) : PS X s t := ⟨fun _ _ σ H Dn _ q => (h Dn σ H q).elim⟩

/-- an own exception is made by a call -/
def MkR (G : Gx) (sc : Scope) (C : Addr) (f : List D → Option (List (Str × D))) (x : Str) (X : Cx) : Prop := ∀ (e : Expr) (es : List Expr) (ta : TA) (p pos : Pos), PA X (e :: es) ta → gN sc x = true →
    starEach (e :: es) X.env = (false, eval e X.env) :: starEach es X.env → (starEach es X.env).any (·.1) = false →
    PMk X (.Call (.Name x p) (e :: es) [] pos) (fun σ H Q => ta σ H fun vs H1 => ∃ ds gs, Reps G H1 vs ds ∧ f ds = some gs ∧
      ∀ d fs, H1 d = none → (∀ F, Same F H1 → Reps G F vs ds → RepF G F fs gs) → Q (.ref C) (some d) (upd H1 d (.xd fs)))
/-- what a clause's name is -/
def Cv (X : Cx) (y : Str) (Dv : Value) : Prop := X.mg y = some Dv ∨ (X.mg y = none ∧ bootBuiltins y = some Dv ∧ y ≠ "__name__")
/-- what a def's body stands on, beyond its expressions -/
structure AmbS (c : Cn) (N : List Str) (sc : Scope) (Wx : WX) (X : Cx) : Prop extends AmbE c N sc Wx X where
  fnall : ∀ x, X.fn x = true
  kind : sc.kind = .function
  pas : PassesOwn (model X.prog X.w) X.A X.env X.xe
  stk : X.stack = X.env :: X.outer
  frm : X.env.frame = some X.env.locals
  exm : ∀ x f, c.P.ex x = some f → ∃ C, c.G.ct x = some C ∧ ∀ pn xe, MkR c.G sc C f x (X.tr pn xe)
  xm : ∀ x y b, c.P.xm x y = some b → ∃ C, c.G.ct x = some C ∧ ∀ Dv, Cv X y Dv → PySem.W.exmOne X.K (.ref C) Dv = some b
  xh : ∀ y, c.P.xh y = true → ∃ Dv, Cv X y Dv
  xf : ∀ x C, c.G.ct x = some C → c.P.xs x ≠ [] → XfC X.K C ∧ ∀ f ∈ c.P.xs x, PySem.W.findIn X.K (.ref C) f = some none
end Ev

namespace Ev
open PySem PySem.Spec PyProof.Rows L2

/-! ### try with clauses of both forms -/
abbrev Cl := Value × Option Nat × (Addr → Value → Option Addr → TS)
def offE (Dn : Ends) (i : Nat) : Ends := { nx := fun s h => Dn.nx (s.set i none) h, rt := Dn.rt, bk := fun s h => Dn.bk (s.set i none) h, ct := fun s h => Dn.ct (s.set i none) h }
def wA (K : PySem.W.Frag) (Wo : WX) (Dn : Ends) : List Cl → WX
  | [] => Wo
  | (v, none, ts) :: r => fun cl d σ H => ∃ b, PySem.W.exmOne K cl v = some b ∧ (b = true → ∀ a, H a = none → ts a cl d Dn σ H) ∧ (b = false → wA K Wo Dn r cl d σ H)
  | (v, some i, ts) :: r => fun cl d σ H => ∃ b, PySem.W.exmOne K cl v = some b ∧ (b = true → ∀ a, H a = none → ts a cl d (offE Dn i) (σ.set i (some (.ref a))) H) ∧ (b = false → wA K Wo Dn r cl d σ H)
inductive HdA (X : Cx) : List ExceptHandler → List Cl → Prop
  | nil : HdA X [] []
  | one {x : Str} {v : Value} {ts : Addr → Value → Option Addr → TS} {b₀ : Stmt} {sb : List Stmt} {np p' : Pos} {hh : List ExceptHandler} {l : List Cl} (hc : Names X x v)
      (hs : ∀ (a : Addr) (oe : Obj) (cl : Value) (d : Option Addr) (pn : List (Addr × Obj)), Zc cl d oe → (∃ fs, oe.data = .fields fs) → PSs (X.suite a ((a, oe) :: pn)) (b₀ :: sb) (ts a cl d)) (r : HdA X hh l) :
      HdA X (.ExceptHandler (some (.Name x np)) none (b₀ :: sb) p' :: hh) ((v, none, ts) :: l)
  | as {x n : Str} {i : Nat} {v : Value} {ts : Addr → Value → Option Addr → TS} {b₀ : Stmt} {sb : List Stmt} {np p' : Pos} {hh : List ExceptHandler} {l : List Cl} (hc : Names X x v) (hi : X.N[i]? = some n) (hl : X.env.kindOf n = some .local)
      (hs : ∀ (a : Addr) (oe : Obj) (cl : Value) (d : Option Addr) (pn : List (Addr × Obj)), Zc cl d oe → (∃ fs, oe.data = .fields fs) → PSs (X.suite a ((a, oe) :: pn)) (b₀ :: sb) (ts a cl d)) (r : HdA X hh l) :
      HdA X (.ExceptHandler (some (.Name x np)) (some n) (b₀ :: sb) p' :: hh) ((v, some i, ts) :: l)
section
variable {X : Cx} {body : List Stmt} {h₀ : ExceptHandler} {hh : List ExceptHandler} {l : List Cl} {pos : Pos} {tb : WX → TS} {Wo : WX}
theorem ps_tryA (es : X.stack = X.env :: X.outer) (ef : X.env.frame = some X.env.locals) (nd : X.N.Nodup) (tk : Takes X Wo)
    (bd : ∀ (W : WX) (pn : List (Addr × Obj)) (xe : Value → Shared → Prop), Takes (X.tr pn xe) W → PassesOwn (model X.prog X.w) X.A X.env xe → PSs (X.tr pn xe) body (tb W))
    (hk : HdA X (h₀ :: hh) l) : PS X (.Try body (h₀ :: hh) [] [] pos) (fun Dn σ H => tb (wA X.K Wo Dn l) Dn σ H) := by
  refine ⟨fun pins sh σ H Dn I hq => ?_⟩
  have okX := I.ok
  have frA : X.A.frames = some (X.env :: X.outer) := by rw [okX.frames, es]
  refine wpAny_Try_except (wpAny_mono ((bd (wA X.K Wo Dn l) (X.pn ++ pins) (fun e z1 => wpAny (model X.prog X.w) X.A (noteFrame e X.env) (fun _ z2 => wpAny (model X.prog X.w) X.A (setFlight e none) (fun _ z3 => wpAny (model X.prog X.w) X.A (handleBy e X.env (h₀ :: hh)) (SP X pins Dn) X.xe z3) X.xe z2) X.xe z1)
    (fun u sh' air => ?_) PassesOwn.looking).run [] sh σ H Dn (I.toTry _) hq) (fun f z1 hsp => ?_) (fun e z1 he => he))
  · obtain ⟨a, B, sI, pins', σ', H', cl, d, rfl, Ja, nb, up, sk, na, oq, ag, wq⟩ := air
    have J : Inv X pins σ' H' sI := Ja.ofTry okX
    have sk2 : Sky B (X.env :: X.outer) a (Zc cl d) X.env.locals sh'.heap := by rw [← es]; exact sk
    show wpAny (model X.prog X.w) X.A (noteFrame (.ref a) X.env) _ _ _
    refine Sky.land Zc.steady frA ef sk2 fun g3 f3 u3 => ?_
    have J3 : Inv X pins σ' H' { sh' with heap := g3 } := J.landed nb f3.1 (up.trans u3) oq ag
    obtain ⟨o3, v3, e3, z3, d3⟩ := f3.there
    have out : a ∉ frs (X.env :: X.outer) := fun hm => by
      obtain ⟨_, o', e', nf⟩ := f3.2.2.1.mem hm
      rw [e3] at e'
      cases e'
      exact nf _ d3
    have nL : a ≠ X.env.locals := fun z => out (List.mem_filterMap.mpr ⟨X.env, List.mem_cons_self, by rw [ef, z]⟩)
    have nF : a ∉ X.fs := fun hm => by
      obtain ⟨e, he, q⟩ := List.mem_filterMap.mp hm
      exact out (List.mem_filterMap.mpr ⟨e, List.mem_cons_of_mem _ he, q⟩)
    have S3 := J3.suite e3 d3 na nL nF
    have tst : ∀ {x : Str} {v : Value} {np : Pos} {b : Bool} {Q : Bool → Shared → Prop} {E : Value → Shared → Prop}, Names X x v → PySem.W.exmOne X.K cl v = some b → Q b { sh' with heap := g3 } →
        wpAny (model X.prog X.w) (X.A.mark (some (.ref a))) (eval (.Name x np) X.env) (fun c z => c = v ∧ z = { sh' with heap := g3 }) E { sh' with heap := g3 } := fun {x v np b Q E} hc _ _ => by
      obtain ⟨hg, hdb, hm | ⟨hm, hv, hnn⟩⟩ := hc
      · exact ld_glob (X := X.suite a ((a, o3) :: (X.pn ++ pins))) S3 hg hm ⟨rfl, rfl⟩ hdb
      · exact ld_blt (X := X.suite a ((a, o3) :: (X.pn ++ pins))) S3 hg hm hv ⟨rfl, rfl⟩ hnn hdb
    have LT : PySem.W.Looks (model X.prog X.w) g3 (typeOf (.ref a)) cl := fun A Q E s k q => wpAny_typeOf_ref (k _ _ e3) (by rw [z3.1]; exact q)
    have go : ∀ {hs2 : List ExceptHandler} {l2 : List Cl}, HdA X hs2 l2 → wA X.K Wo Dn l2 cl d σ' H' → wpAny (model X.prog X.w) X.A (handleBy (.ref a) X.env hs2) (SP X pins Dn) X.xe { sh' with heap := g3 } := by
      intro hs2 l2 hk2
      induction hk2 with
      | nil =>
        intro w
        obtain ⟨k1, k2, k3, oe, vs, T, oT, ts', he, hz, hd, h1, hr⟩ := id f3
        refine wpAny_handleBy_nil ?_
        unfold PySem.passOn
        refine wpAny_bind (wpAny_field he hd h1 ?_)
        rw [if_neg (show ¬ ((Value.ref T == Value.none) = true) from by simp)]
        have fin : wpAny (model X.prog X.w) X.A (setFlight (.ref a) X.env.frame) (fun _ z4 => wpAny (model X.prog X.w) X.A (throw (.ref a) : Sem Flow) (SP X pins Dn) X.xe z4) X.xe { sh' with heap := g3 } := by
          rw [ef]
          exact HandSPX.setFlight_upZ f3 fun g4 hh4 u4 => wpAny_throw (tk _ _ ⟨a, B, sI, pins, σ', H', cl, d, rfl, J, nb, (up.trans u3).trans u4, .inr (.inr (by rw [es]; exact hh4)), na, oq, ag, w⟩)
        first
          | exact wpAny_bind (wpAny_pure (wpAny_bind fin))
          | exact wpAny_bind fin
      | @one x v ts b₀ sb np p' hh2 l3 hc hsu r ih =>
        intro w
        obtain ⟨b, hb1, hyes, hno⟩ := w
        have LM := PySem.W.exm_one (M := model X.prog X.w) (J3.kIn) LT hb1
        refine wpAny_handleBy_cons (codeAny_handlers_test ?_) (by intro q; cases q)
        refine thn (tst (Q := fun _ _ => True) hc hb1 True.intro) fun c z ⟨ec, ez⟩ => ?_
        subst ec ez
        refine LM.here ?_
        cases b with
        | true =>
          refine codeAny_handlers_suite (HandSPX.lands_againZ f3 fun g4 f4 u4 => ?_)
          have J4 : Inv X pins σ' H' { sh' with heap := g4 } := J.landed nb f4.1 ((up.trans u3).trans u4) oq ag
          obtain ⟨o4, v4, e4, z4, d4⟩ := f4.there
          refine wpAny_mono ((hsu a o4 cl d (X.pn ++ pins) z4 ⟨_, d4⟩).run [] _ _ H' _ (J4.suite e4 d4 na nL nF) (hyes rfl a na)) (fun f z6 hsp => ?_) (fun _ _ z => False.elim z)
          cases f with
          | next => obtain ⟨s6, H6, S6, q6⟩ := hsp; exact ⟨_, _, S6.unsuite okX, q6⟩
          | brk => obtain ⟨s6, H6, S6, q6⟩ := hsp; exact ⟨_, _, S6.unsuite okX, q6⟩
          | cont => obtain ⟨s6, H6, S6, q6⟩ := hsp; exact ⟨_, _, S6.unsuite okX, q6⟩
          | ret u => obtain ⟨v6, s6, H6, S6, r6, q6⟩ := hsp; exact ⟨_, _, _, S6.unsuite okX, r6, q6⟩
        | false => exact ih (hno rfl)
      | @as x n i v ts b₀ sb np p' hh2 l3 hc hi hln hsu r ih =>
        intro w
        obtain ⟨b, hb1, hyes, hno⟩ := w
        have LM := PySem.W.exm_one (M := model X.prog X.w) (J3.kIn) LT hb1
        refine wpAny_handleBy_cons (codeAny_handlers_test ?_) (by intro q; cases q)
        refine thn (tst (Q := fun _ _ => True) hc hb1 True.intro) fun c z ⟨ec, ez⟩ => ?_
        subst ec ez
        refine LM.here ?_
        cases b with
        | true =>
          refine codeAny_handlers_suite_as (HandSPX.lands_againZ f3 fun g4 f4 u4 => ?_)
          have J4 : Inv X pins σ' H' { sh' with heap := g4 } := J.landed nb f4.1 ((up.trans u3).trans u4) oq ag
          obtain ⟨o4, v4, e4, z4, d4⟩ := f4.there
          refine store_ok (X := X.suite a ((a, o4) :: (X.pn ++ pins))) (v := .ref a) (J4.suite e4 d4 na nL nF) nd hi (.inl hln) rfl (fun z5 S5 => ?_) (.inr hln)
          refine wpAny_mono ((hsu a o4 cl d (X.pn ++ pins) z4 ⟨_, d4⟩).run [] z5 _ H' _ S5 (hyes rfl a na)) (fun f z6 hsp => ?_) (fun _ _ z => False.elim z)
          have gone : ∀ {s6 : L2.St} {H6 : Hp} {Q : Shared → Prop}, Inv (X.suite a ((a, o4) :: (X.pn ++ pins))) [] s6 H6 z6 → (∀ z7, Inv X pins (s6.set i none) H6 z7 → Q z7) →
              wpAny (model X.prog X.w) X.A (do bindName X.env n .none; unbindBehindTheSuite X.env n p') (fun _ z7 => Q z7) X.xe z6 := fun {s6 H6 Q} S6 hq => gone_ok (S6.unsuite okX) nd hi hln hq
          cases f with
          | next => obtain ⟨s6, H6, S6, q6⟩ := hsp; exact gone S6 fun z7 J7 => ⟨_, _, J7, q6⟩
          | brk => obtain ⟨s6, H6, S6, q6⟩ := hsp; exact gone S6 fun z7 J7 => ⟨_, _, J7, q6⟩
          | cont => obtain ⟨s6, H6, S6, q6⟩ := hsp; exact gone S6 fun z7 J7 => ⟨_, _, J7, q6⟩
          | ret u => obtain ⟨v6, s6, H6, S6, r6, q6⟩ := hsp; exact gone S6 fun z7 J7 => ⟨_, _, _, J7, r6, q6⟩
        | false => exact ih (hno rfl)
    exact go hk wq
  · cases f with
    | next => obtain ⟨s1, H1, J1, q⟩ := hsp; exact wpAny_execs_nil ⟨s1, H1, J1.ofTry okX, q⟩
    | brk => obtain ⟨s1, H1, J1, q⟩ := hsp; exact ⟨s1, H1, J1.ofTry okX, q⟩
    | cont => obtain ⟨s1, H1, J1, q⟩ := hsp; exact ⟨s1, H1, J1.ofTry okX, q⟩
    | ret u => obtain ⟨v, s1, H1, J1, r, q⟩ := hsp; exact ⟨v, s1, H1, J1.ofTry okX, r, q⟩
end
end Ev

namespace Ev
open PySem PySem.Spec PyProof.Rows L2
section
variable {c : Cn} {N : List Str} {Wx : WX}
theorem not_fx {sc : Scope} {X : Cx} {i : Nat} (A : AmbE c N sc Wx X) (h : c.P.io.contains i = false) : ∀ p ∈ c.fx, p.1 ≠ i := fun p hp e => by
  have q := A.io p hp
  rw [e] at q
  have q2 : c.P.io.contains i = true := by simpa using q
  rw [h] at q2
  cases q2
/-- a name is stored -/
theorem set_go {sc : Scope} {X : Cx} {T : Hl} {σ : L2.St} {H : Hp} {ρ : Env} {i : Nat} {v : V} {w : W} {Dn : Ends} (A : AmbE c N sc Wx X) (s : Stt c ((v, w) :: T) σ H ρ) (h : SatS c T Wx (setE c.P.io i w ρ) Dn) : Dn.nx (σ.set i (some v)) H := by
  unfold setE at h
  split at h
  · exact h.elim
  · rename_i hn
    have h1 : c.P.io.contains i = false := by
      cases q : c.P.io.contains i with
      | false => rfl
      | true => exact absurd (.inl q) hn
    have h2 : i < ρ.length := Nat.lt_of_not_le fun q => hn (.inr q)
    exact h _ _ (s.put h2 (not_fx A h1))
theorem sw_false {sc : Scope} {X : Cx} {x : E} {e : Expr} {y : Str} {p : Pos} {l : Nat} (A : AmbE c N sc Wx X) (h : chkE N sc x e = true) (hb : swB sc y p e = false) : swapsWith e (some (.Name y p)) l X.env = pure false := by
  cases e <;> first | rfl | skip
  · have hb' : (decide (sc.names.lookup y = some .local) && (p.line == _) && !(_ : Bool)) = false := hb
    unfold swapsWith
    simp only [Expr.pos]
    have e2 : (X.env.kindOf y == some .local) = decide (sc.names.lookup y = some .local) := by
      show (X.env.scope.names.lookup y == some .local) = _
      rw [A.esc]
      cases q : (sc.names.lookup y) with
      | none => rfl
      | some k => cases k <;> rfl
    rw [e2]
    have : ∀ (a b d e : Bool), (b && d && !e) = false → (a && b && d && !e) = false := by decide
    rw [this _ _ _ _ hb']
  · cases x <;> simp [chkE] at h
  · cases x <;> simp [chkE] at h
theorem sw_none {sc : Scope} {x : E} {e : Expr} {t : Option Expr} {l : Nat} {env : PySem.Env} (h : chkE N sc x e = true) (hb : isComp e = false) : swapsWith e t l env = pure false := by
  cases e <;> first | rfl | skip
  · cases hb
  · cases x <;> simp [chkE] at h
  · cases x <;> simp [chkE] at h
theorem loc_of {sc : Scope} {X : Cx} {i : Nat} {y : Str} (A : AmbE c N sc Wx X) (h : lN N sc i y = true) : X.N[i]? = some y ∧ L2.Loc X.env.scope y := by
  unfold lN at h
  obtain ⟨h1, h2⟩ := b2 h
  refine ⟨by rw [A.eN]; exact of_dec h1, ?_⟩
  rw [A.esc]
  unfold L2.Loc
  split at h2
  · exact .inl (by assumption)
  · exact .inr (by assumption)
  · cases h2
/-! ### targets -/
def gNames : List Nat → TGs
  | [] => gNil
  | i :: is => gCons (gName i) (gNames is)
theorem pgs_names {sc : Scope} {X : Cx} (A : AmbS c N sc Wx X) : ∀ {is : List Nat} {es : List Expr}, namesOk N sc is es = true → PGs X es (gNames is) ∧ (assignEach es X.env).length = is.length ∧ (assignEach es X.env).findIdx? (·.1) = none
  | [], [], _ => ⟨pgs_nil, rfl, rfl⟩
  | [], _ :: _, h => by simp [namesOk] at h
  | _ :: _, [], h => by simp [namesOk] at h
  | i :: is, e :: es, h => by
    cases e <;> simp only [namesOk, Bool.false_eq_true] at h
    obtain ⟨h1, h2⟩ := b2 h
    obtain ⟨l1, l2⟩ := loc_of A.toAmbE h1
    obtain ⟨q1, q2, q3⟩ := pgs_names A h2
    refine ⟨pgs_cons (pg_name (by rw [A.eN]; exact A.nd) l1 l2 (.inl (A.fnall _))) q1, ?_, ?_⟩
    · show (assignEach es X.env).length + 1 = is.length + 1
      rw [q2]
    · show List.findIdx? (·.1) ((false, _) :: assignEach es X.env) = none
      rw [List.findIdx?_cons]
      simp only [Bool.false_eq_true, if_false]
      rw [q3]; rfl
theorem reps_zip {G : Gx} {F H : Hp} : ∀ {vs : List V} {ds : List D}, Reps G F vs ds → ∀ q ∈ vs.zip (ds.map fz), Held G F H q.1 q.2
  | _, _, .nil, q, hq => by simp at hq
  | _, _, .cons h r, q, hq => by
    rw [List.map_cons, List.zip_cons_cons] at hq
    rcases List.mem_cons.mp hq with e | hq
    · subst e; exact h
    · exact reps_zip r q hq
theorem oA_zip : ∀ {vs : List V} {ds : List D}, (vs.zip (ds.map fz)).filterMap oA = []
  | [], _ => rfl
  | _ :: _, [] => rfl
  | v :: vs, d :: ds => by
    rw [List.map_cons, List.zip_cons_cons, List.filterMap_cons, oA_zip]
    rfl
/-- a tuple's items as values that are held -/
theorem Stt.untup {T : Hl} {σ : L2.St} {H : Hp} {ρ : Env} {v : V} {ds : List D} (s : Stt c ((v, fz (.tup ds)) :: T) σ H ρ) : ∃ a vs, v = .ref a ∧ SqT c.G.K H a vs ∧ vs.length = ds.length ∧ Stt c (vs.zip (ds.map fz) ++ T) σ H ρ := by
  obtain ⟨F, sF, hh, n⟩ := sp_of (M := [(v, fz (.tup ds))]) s
  have r : Rep c.G F v (.tup ds) := hh _ List.mem_cons_self
  cases r with
  | tup hs r =>
    refine ⟨_, _, rfl, sqT_same sF hs, r.length, st_of s.tail ⟨F, sF, fun q hq => ?_, ?_⟩⟩
    · rcases List.mem_append.mp hq with hq | hq
      · exact reps_zip r q hq
      · exact hh q (List.mem_cons_of_mem _ hq)
    · rw [List.filterMap_append, oA_zip]
      simpa [List.filterMap_cons, oA] using n
/-- they are stored one after the other -/
theorem names_go {sc : Scope} {X : Cx} (A : AmbE c N sc Wx X) {T : Hl} {H : Hp} {K : L2.St → Hp → Prop} : ∀ {is : List Nat} {vs : List V} {ds : List D} {σ : L2.St} {ρ : Env}, vs.length = is.length → ds.length = is.length → (∀ i ∈ is, c.P.io.contains i = false ∧ i < ρ.length) →
    Stt c (vs.zip (ds.map fz) ++ T) σ H ρ → (∀ σ', Stt c T σ' H ((is.zip ds).foldl (fun r p => r.set p.1 (some (fz p.2))) ρ) → K σ' H) → gNames is vs σ H K
  | [], [], [], σ, ρ, _, _, _, s, k => ⟨rfl, k σ s⟩
  | [], _ :: _, _, _, _, e, _, _, _, _ => by simp at e
  | [], _, _ :: _, _, _, _, e, _, _, _ => by simp at e
  | _ :: _, [], _, _, _, e, _, _, _, _ => by simp at e
  | _ :: _, _, [], _, _, _, e, _, _, _ => by simp at e
  | i :: is, v :: vs, d :: ds, σ, ρ, e1, e2, hi, s, k => by
    refine ⟨v, vs, rfl, ?_⟩
    obtain ⟨h1, h2⟩ := hi i List.mem_cons_self
    rw [List.map_cons, List.zip_cons_cons, List.cons_append] at s
    have s2 := s.put h2 (not_fx A h1)
    exact names_go A (by simpa using e1) (by simpa using e2) (fun j hj => ⟨(hi j (List.mem_cons_of_mem _ hj)).1, by rw [List.length_set]; exact (hi j (List.mem_cons_of_mem _ hj)).2⟩) s2 fun σ' s' => k σ' s'
theorem bindT_ok {t : List Nat} {one : Bool} {d : D} {ρ ρ' : Env} {io : List Nat} (h : bindT io t one d ρ = some ρ') : (∀ i ∈ t, io.contains i = false ∧ i < ρ.length) ∧
    ((one = true ∧ ∃ i, t = [i] ∧ ρ' = ρ.set i (some (fz d))) ∨ (one = false ∧ ∃ ds, d = .tup ds ∧ ds.length = t.length ∧ ρ' = (t.zip ds).foldl (fun r p => r.set p.1 (some (fz p.2))) ρ)) := by
  unfold bindT at h
  split at h
  · cases h
  · rename_i hn
    refine ⟨fun i hi => ?_, ?_⟩
    · have hq : ¬ ((io.contains i || decide (ρ.length ≤ i)) = true) := fun q => hn (List.any_eq_true.mpr ⟨i, hi, q⟩)
      simp only [Bool.or_eq_true, decide_eq_true_eq, not_or, Bool.not_eq_true, Nat.not_le] at hq
      exact hq
    · split at h
      · rename_i h1
        split at h
        · cases h; exact .inl ⟨h1, _, rfl, rfl⟩
        · cases h
      · rename_i h1
        split at h
        · split at h
          · rename_i h2
            cases h
            exact .inr ⟨by simpa using h1, _, rfl, h2, rfl⟩
          · cases h
        · cases h
/-- a target by its core -/
def gT (K : PySem.W.Frag) (t : List Nat) (one : Bool) : TG := if one = true then (match t with
  | [i] => gName i
  | _ => fun _ _ _ _ => False) else gTup K t.length (gNames t)
theorem pg_T {sc : Scope} {X : Cx} (A : AmbS c N sc Wx X) (hc : X.calm = true) {t : List Nat} {one : Bool} {e : Expr} (h : tgOk N sc t one e = true) : PG X e (gT X.K t one) := by
  unfold tgOk at h
  split at h
  · obtain ⟨l1, l2⟩ := loc_of A.toAmbE h
    exact pg_name (by rw [A.eN]; exact A.nd) l1 l2 (.inl (A.fnall _))
  · obtain ⟨q1, q2, q3⟩ := pgs_names A h
    exact pg_tup hc q1 q2 q3
  · cases h
theorem T_go {sc : Scope} {X : Cx} (A : AmbE c N sc Wx X) {T : Hl} {σ : L2.St} {H : Hp} {ρ ρ' : Env} {t : List Nat} {one : Bool} {v : V} {d : D} {K : L2.St → Hp → Prop} (h : bindT c.P.io t one d ρ = some ρ') (s : Stt c ((v, fz d) :: T) σ H ρ)
    (k : ∀ σ', Stt c T σ' H ρ' → K σ' H) : gT X.K t one v σ H K := by
  obtain ⟨hi, ⟨rfl, i, rfl, rfl⟩ | ⟨rfl, ds, rfl, hl, rfl⟩⟩ := bindT_ok h
  · obtain ⟨h1, h2⟩ := hi i List.mem_cons_self
    exact k _ (s.put h2 (not_fx A h1))
  · obtain ⟨a, vs, rfl, hs, hv, s2⟩ := s.untup
    refine ⟨a, vs, rfl, by rw [A.eK]; exact hs, by rw [hv]; exact hl, ?_⟩
    exact names_go A (by rw [hv]; exact hl) hl hi s2 k
end
end Ev

namespace Ev
open PySem PySem.Spec PyProof.Rows L2
section
variable {c : Cn} {N : List Str}
theorem set_self {ρ : Env} {n : Nat} {w : W} (h : ρ[n]? = some (some w)) : ρ.set n (some w) = ρ := by
  obtain ⟨hl, e⟩ := List.getElem?_eq_some_iff.mp h
  rw [← e, List.set_getElem_self]
/-- the owned list of a slot, changed -/
theorem own_go {T : Hl} {σ : L2.St} {H : Hp} {ρ : Env} {M : Hl} {n : Nat} {ds ds' : List D} (s : Stt c (M ++ T) σ H ρ) (h : ρ[n]? = some (some (ow ds))) :
    ∃ a vs, σ[n]? = some (some (.ref a)) ∧ H a = some (.lst vs) ∧ vs.length = ds.length ∧ ∀ vs', (∀ F, Same F H → Reps c.G F vs ds → (∀ q ∈ M, Held c.G F H q.1 q.2) → Reps c.G F vs' ds') →
      Stt c T σ (upd H a (.lst vs')) (ρ.set n (some (ow ds'))) := by
  obtain ⟨v, hv, s2⟩ := s.take h
  obtain ⟨L, hL⟩ := hd_of (M := [(v, ow ds)]) s2
  obtain ⟨a, es, e1, e2⟩ := hL.own_is rfl
  subst e1
  have e3 : ds = es := by
    have q := congrArg W.d e2
    simpa using q
  subst e3
  obtain ⟨vs, h1, h2⟩ := hL.owned
  refine ⟨a, vs, hv, h1, h2, fun vs' r => ?_⟩
  have s3 : Stt c ((.ref a, ow ds') :: (M ++ T)) σ (upd H a (.lst vs')) (ρ.set n none) := s2.temps fun hd => by
    rw [List.cons_append, List.append_assoc] at hd ⊢
    exact Hd.mut hd fun F ws sF e r2 hM => by
      rw [h1] at e
      cases e
      exact r F sF r2 hM
  have s4 := s3.give hv
  rw [List.set_set] at s4
  exact s4.drop (List.sublist_append_right _ _)
theorem tyV_list {K : PySem.W.Frag} {H : Hp} {a : Addr} {vs : List V} (h : H a = some (.lst vs)) : tyV K "list" (.ref a) H := .inl ⟨rfl, _, SqL.of h⟩
/-- the body of a loop, at each turn -/
theorem for_go {sc : Scope} {X : Cx} {Wx : WX} (A : AmbS c N sc Wx X) {t : List Nat} {one : Bool} {b : Ss} {J : It} {ds : List D} {M T : Hl} {σ : L2.St} {H : Hp} {ρ : Env} {Dn : Ends} (ov : Over c.G J ds M) (s : Stt c (M ++ T) σ H ρ)
    (h : SatS c T Wx (forL (fun d r => match bindT c.P.io t one d r with
      | some r' => evSs c.P b r'
      | none => .no) ds ρ) Dn) :
    ∃ W : Nat → Nat → L2.St → Hp → Prop, (∃ m, W 0 m σ H) ∧ ∀ i m σ H, W i m σ H → (J.stop i H ∧ Dn.nx σ H) ∨ (J.go i H ∧ ∃ Nx : L2.St → Hp → Prop, (∀ σ' H', Nx σ' H' → ∃ m', m' < m ∧ W (i + 1) m' σ' H') ∧
      ∀ x H', J.yld i H x H' → gT X.K t one x σ H' fun σ2 H2 => tSs c Wx b { Dn with nx := Nx, ct := Nx, bk := Dn.nx } σ2 H2) := by
  refine ⟨fun i m σ H => m = ds.length - i ∧ i ≤ ds.length ∧ ∃ ρ, Stt c (M ++ T) σ H ρ ∧ SatS c T Wx (forL (fun d r => match bindT c.P.io t one d r with
      | some r' => evSs c.P b r'
      | none => .no) (ds.drop i) ρ) Dn, ⟨ds.length, by simp, Nat.zero_le _, ρ, s, h⟩, ?_⟩
  rintro i m σ H ⟨rfl, hi, ρ, s, h⟩
  have hM := hd_of s
  by_cases hlt : i < ds.length
  · refine .inr ⟨ov.go i H hlt hM, fun σ' H' => ∃ ρ, Stt c (M ++ T) σ' H' ρ ∧ SatS c T Wx (forL (fun d r => match bindT c.P.io t one d r with
      | some r' => evSs c.P b r'
      | none => .no) (ds.drop (i + 1)) ρ) Dn, fun σ' H' q => ⟨ds.length - (i + 1), by omega, rfl, hlt, q⟩, fun x H' y => ?_⟩
    have hd := List.getElem?_eq_getElem hlt
    obtain ⟨e, hx⟩ := ov.yld i H x H' _ hd hM y
    subst e
    rw [List.drop_eq_getElem_cons hlt] at h
    simp only [forL] at h
    cases e1 : bindT c.P.io t one ds[i] ρ with
    | none =>
      rw [e1] at h
      exact h.elim
    | some r' =>
      rw [e1] at h
      have s2 : Stt c ((x, fz ds[i]) :: (M ++ T)) σ H' ρ := s.temps fun hd => by
        rw [List.append_assoc] at hd
        rw [List.cons_append, List.append_assoc]
        exact Hd.from hd fun F sF hM => hx F sF hM
      refine T_go A.toAmbE e1 s2 fun σ' s3 => ⟨M ++ T, r', s3, ?_⟩
      simp only at h
      cases e2 : evSs c.P b r' with
      | nx ρ2 => rw [e2] at h; exact fun σ H s => ⟨ρ2, s, h⟩
      | ct ρ2 => rw [e2] at h; exact fun σ H s => ⟨ρ2, s, h⟩
      | bk ρ2 => rw [e2] at h; exact fun σ H s => h σ H (s.drop (List.sublist_append_right _ _))
      | rt w ρ2 => rw [e2] at h; exact fun v σ H s => h v σ H (s.drop (List.Sublist.cons_cons _ (List.sublist_append_right _ _)))
      | ex y gs ρ2 => rw [e2] at h; exact fun σ C dd H e s => h σ C dd H e (s.drop (List.Sublist.cons_cons _ (List.sublist_append_right _ _)))
      | no => rw [e2] at h; exact h.elim
  · have e : i = ds.length := by omega
    subst e
    rw [List.drop_length] at h
    exact .inl ⟨ov.stop H hM, h _ _ (s.drop (List.sublist_append_right _ _))⟩
/-- a while, at each turn -/
theorem while_go {Wx : WX} {t : C} {b : Ss} {Dn : Ends} {T : Hl} : ∀ (n : Nat) {σ : L2.St} {H : Hp} {ρ : Env}, Stt c T σ H ρ → SatS c T Wx (whileL (evC c.P t) (evSs c.P b) n ρ) Dn → tWhile (Ev.tC c Wx t) (tSs c Wx b) Dn σ H := by
  intro n σ H ρ s h
  refine ⟨fun m σ H => ∃ ρ, Stt c T σ H ρ ∧ SatS c T Wx (whileL (evC c.P t) (evSs c.P b) m ρ) Dn, ⟨n, ρ, s, h⟩, ?_⟩
  rintro m σ H ⟨ρ, s, h⟩
  cases m with
  | zero => exact h.elim
  | succ m =>
    simp only [whileL] at h
    refine ⟨T, ρ, s, (h.st σ).imp fun k ρ1 h1 H1 s1 => ?_⟩
    cases k with
    | false => exact h1 σ H1 s1
    | true =>
      refine ⟨fun σ' H' => ∃ ρ, Stt c T σ' H' ρ ∧ SatS c T Wx (whileL (evC c.P t) (evSs c.P b) m ρ) Dn, fun σ' H' q => ⟨m, Nat.lt_succ_self m, q⟩, T, ρ1, s1, ?_⟩
      simp only [if_true] at h1
      cases e2 : evSs c.P b ρ1 with
      | nx ρ2 => rw [e2] at h1; exact fun σ H s => ⟨ρ2, s, h1⟩
      | ct ρ2 => rw [e2] at h1; exact fun σ H s => ⟨ρ2, s, h1⟩
      | bk ρ2 => rw [e2] at h1; exact h1
      | rt w ρ2 => rw [e2] at h1; exact h1
      | ex y gs ρ2 => rw [e2] at h1; exact h1
      | no => rw [e2] at h1; exact h1.elim
end
end Ev

namespace Ev
open PySem PySem.Spec PyProof.Rows L2
section
variable {N : List Str}
theorem tr_amb {c : Cn} {sc : Scope} {Wx W' : WX} {X : Cx} (A : AmbS c N sc Wx X) (hc : c.P.cur = none) (pn : List (Addr × Obj)) (xe : Value → Shared → Prop) (tk : Takes (X.tr pn xe) W') (pas : PassesOwn (model X.prog X.w) X.A X.env xe) : AmbS c N sc W' (X.tr pn xe) where
  eK := A.eK
  eN := A.eN
  nd := A.nd
  esc := A.esc
  calm := A.calm
  fn := A.fn
  gl := A.gl
  bl := A.bl
  un := A.un
  tk := tk
  io := A.io
  cc := A.cc
  cur := fun i x gs e => by rw [hc] at e; cases e
  fnall := A.fnall
  kind := A.kind
  pas := pas
  stk := A.stk
  frm := A.frm
  exm := fun x f e => by
    obtain ⟨C, h1, h2⟩ := A.exm x f e
    exact ⟨C, h1, fun pn xe => h2 pn xe⟩
  xm := A.xm
  xh := A.xh
  xf := A.xf
/-- what a suite stands on -/
def sCn (c : Cn) (cur : Option (Nat × Str × List (Str × D))) (dd : Addr) (x : Str) (gs : List (Str × D)) (fx : List (Nat × V)) (io : List Nat) : Cn :=
  { G := c.G, P := c.P.suite cur io, M := (.ref dd, fz (.exc x gs)) :: c.M, fx := fx }
theorem suite_amb {c : Cn} {sc : Scope} {Wx : WX} {X : Cx} (A : AmbS c N sc Wx X) {a C dd : Addr} {oe : Obj} {pn : List (Addr × Obj)} {x : Str} {gs : List (Str × D)} {cur : Option (Nat × Str × List (Str × D))} {fx : List (Nat × V)} {io : List Nat}
    (hC : c.G.ct x = some C) (hz : Zc (.ref C) (some dd) oe) (hd : ∃ fs, oe.data = .fields fs) (hgs : ∀ p ∈ gs, p.1 ∈ c.P.xs x) (hio : ∀ p ∈ fx, p.1 ∈ io)
    (hcur : ∀ i y hs, cur = some (i, y, hs) → y = x ∧ hs = gs ∧ (i, V.ref a) ∈ fx) :
    AmbS (sCn c cur dd x gs fx io) N sc (fun _ _ _ _ => False) (X.suite a ((a, oe) :: pn)) where
  eK := A.eK
  eN := A.eN
  nd := A.nd
  esc := A.esc
  calm := fun h => by cases h
  fn := fun x sem h => by cases h
  gl := A.gl
  bl := A.bl
  un := A.un
  tk := takes0
  io := hio
  cc := fun h => by cases h
  cur := fun i y hs e => by
    obtain ⟨rfl, rfl, hm⟩ := hcur i y hs e
    refine ⟨a, dd, C, hm, List.mem_cons_self, fun e te f pos hf hb he => ?_⟩
    have hmem : ∃ p ∈ hs, p.1 = f := by
      obtain ⟨d, hd⟩ := Option.isSome_iff_exists.mp hf
      exact ⟨(f, d), PySem.mem_of_lookup hd, rfl⟩
    obtain ⟨p, hp, rfl⟩ := hmem
    have hx := hgs p hp
    obtain ⟨T, hno⟩ := A.xf y C hC (fun z => by rw [z] at hx; cases hx)
    exact pe_xf T (hno _ hx) hz hd he hb
  fnall := A.fnall
  kind := A.kind
  pas := PassesOwn.never
  stk := A.stk
  frm := A.frm
  exm := fun x f h => by cases h
  xm := A.xm
  xh := A.xh
  xf := A.xf
end
end Ev

namespace Ev
open PySem PySem.Spec PyProof.Rows L2
section
variable {N : List Str}
/-- a suite's reading, for whatever is caught -/
def tSu (c : Cn) (io : Option Nat) (b : Ss) : Addr → Value → Option Addr → TS := fun a cl d Dn σ H => ∃ (C dd : Addr) (x : Str) (gs : List (Str × D)), cl = .ref C ∧ d = some dd ∧ c.G.ct x = some C ∧ (∀ p ∈ gs, p.1 ∈ c.P.xs x) ∧
  match io with
  | none => tSs (sCn c none dd x gs c.fx c.P.io) (fun _ _ _ _ => False) b Dn σ H
  | some i => tSs (sCn c (some (i, x, gs)) dd x gs ((i, .ref a) :: c.fx) (i :: c.P.io)) (fun _ _ _ _ => False) b Dn σ H
theorem su_none {c : Cn} {T : Hl} {σ : L2.St} {H : Hp} {ρ : Env} {dd : Addr} {x : Str} {gs : List (Str × D)} (s : Stt c ((.ref dd, fz (.exc x gs)) :: T) σ H ρ) : Stt (sCn c none dd x gs c.fx c.P.io) T σ H ρ :=
  ⟨s.fit, s.fix, s.hd.perm (by
    show (ents σ ρ ++ ((V.ref dd, fz (.exc x gs)) :: T ++ c.M)).Perm (ents σ ρ ++ (T ++ ((V.ref dd, fz (.exc x gs)) :: c.M)))
    exact List.Perm.append_left _ (by rw [List.cons_append]; exact List.perm_middle.symm))⟩
theorem su_back {c : Cn} {T : Hl} {σ : L2.St} {H : Hp} {ρ : Env} {dd : Addr} {x : Str} {gs : List (Str × D)} {cur : Option (Nat × Str × List (Str × D))} {fx : List (Nat × V)} {io : List Nat} (s : Stt (sCn c cur dd x gs fx io) T σ H ρ) (hf : ∀ p ∈ c.fx, p ∈ fx) : Stt c T σ H ρ :=
  ⟨s.fit, fun p hp => s.fix p (hf p hp), Hd.sub (by
    show (ents σ ρ ++ (T ++ c.M)).Sublist (ents σ ρ ++ (T ++ ((V.ref dd, fz (.exc x gs)) :: c.M)))
    exact List.Sublist.append_left (List.Sublist.append_left (List.sublist_cons_self _ _) _) _) s.hd⟩
theorem su_some {c : Cn} {T : Hl} {σ : L2.St} {H : Hp} {ρ : Env} {dd a : Addr} {x : Str} {gs : List (Str × D)} {i : Nat} (s : Stt c ((.ref dd, fz (.exc x gs)) :: T) σ H ρ) (hi : i < ρ.length) (hf : ∀ p ∈ c.fx, p.1 ≠ i) :
    Stt (sCn c (some (i, x, gs)) dd x gs ((i, .ref a) :: c.fx) (i :: c.P.io)) T (σ.set i (some (.ref a))) H (ρ.set i none) := by
  have s2 := su_none (s.cut i)
  refine ⟨s.fit.wipe i _, fun p hp => ?_, ?_⟩
  · rcases List.mem_cons.mp hp with e | hp
    · subst e
      show (σ.set i (some (V.ref a)))[i]? = _
      rw [List.getElem?_set_self (by rw [s.fit.len]; exact hi)]
    · rw [List.getElem?_set_ne (Ne.symm (hf p hp))]; exact s.fix p hp
  · rw [ents_free]
    exact s2.hd
theorem su_off {c : Cn} {T : Hl} {σ : L2.St} {H : Hp} {ρ : Env} {i : Nat} (s : Stt c T σ H ρ) (hf : ∀ p ∈ c.fx, p.1 ≠ i) : Stt c T (σ.set i none) H (ρ.set i none) := by
  refine ⟨s.fit.wipe i none, fun p hp => ?_, ?_⟩
  · rw [List.getElem?_set_ne (Ne.symm (hf p hp))]; exact s.fix p hp
  · rw [ents_free]; exact (s.cut i).hd
/-- the clauses, as the try's rule takes them -/
def ClsOf (c : Cn) (X : Cx) : Hs → List Cl → Prop
  | .nil, [] => True
  | .one y b hs, (v, none, ts) :: l => Cv X y v ∧ ts = tSu c none b ∧ ClsOf c X hs l
  | .as y i b hs, (v, some j, ts) :: l => i = j ∧ Cv X y v ∧ ts = tSu c (some i) b ∧ ClsOf c X hs l
  | _, _ => False
/-- what the clauses make of an exception, from what the evaluator says -/
theorem hs_go {c : Cn} {sc : Scope} {Wx : WX} {X : Cx} {Dn : Ends} {T : Hl} {x : Str} {gs : List (Str × D)} (A : AmbS c N sc Wx X) (hg : (gs.all fun p => (c.P.xs x).contains p.1) = true) :
    ∀ {hs : Hs} {l : List Cl} {ρ : Env}, ClsOf c X hs l → SatS c T Wx (evHs c.P hs x gs ρ) Dn → ∀ (σ : L2.St) (C dd : Addr) (H : Hp), c.G.ct x = some C → Stt c ((.ref dd, fz (.exc x gs)) :: T) σ H ρ → wA X.K Wx Dn l (.ref C) (some dd) σ H
  | .nil, [], ρ, _, h, σ, C, dd, H, hC, s => h σ C dd H hC s
  | .nil, _ :: _, _, h, _, _, _, _, _, _, _ => h.elim
  | .one _ _ _, [], _, h, _, _, _, _, _, _, _ => h.elim
  | .one _ _ _, (_, some _, _) :: _, _, h, _, _, _, _, _, _, _ => h.elim
  | .as _ _ _ _, [], _, h, _, _, _, _, _, _, _ => h.elim
  | .as _ _ _ _, (_, none, _) :: _, _, h, _, _, _, _, _, _, _ => h.elim
  | .one y b hs, (v, none, ts) :: l, ρ, ⟨hv, ht, hr⟩, h, σ, C, dd, H, hC, s => by
    subst ht
    have hgs : ∀ p ∈ gs, p.1 ∈ c.P.xs x := fun p hp => by
      have q := List.all_eq_true.mp hg p hp
      simpa using q
    simp only [evHs] at h
    cases e : c.P.xm x y with
    | none => rw [e] at h; exact h.elim
    | some b' =>
      obtain ⟨C', e1, e2⟩ := A.xm x y b' e
      rw [hC] at e1
      cases e1
      refine ⟨b', e2 v hv, fun hb a ha => ?_, fun hb => ?_⟩
      · subst hb
        rw [e] at h
        refine ⟨C, dd, x, gs, rfl, rfl, hC, hgs, T, ρ, su_none s, ?_⟩
        show SatS _ T _ (evSs (c.P.suite none c.P.io) b ρ) Dn
        simp only at h
        cases e3 : evSs (c.P.suite none c.P.io) b ρ with
        | nx r => rw [e3] at h; exact fun σ H s => h σ H (su_back s fun p hp => hp)
        | rt w r => rw [e3] at h; exact fun v σ H s => h v σ H (su_back s fun p hp => hp)
        | bk r => rw [e3] at h; exact fun σ H s => h σ H (su_back s fun p hp => hp)
        | ct r => rw [e3] at h; exact fun σ H s => h σ H (su_back s fun p hp => hp)
        | ex z hs r => rw [e3] at h; exact h.elim
        | no => rw [e3] at h; exact h.elim
      · subst hb
        rw [e] at h
        exact hs_go A hg hr h σ C dd H hC s
  | .as y i b hs, (v, some j, ts) :: l, ρ, ⟨hij, hv, ht, hr⟩, h, σ, C, dd, H, hC, s => by
    subst ht hij
    have hgs : ∀ p ∈ gs, p.1 ∈ c.P.xs x := fun p hp => by
      have q := List.all_eq_true.mp hg p hp
      simpa using q
    simp only [evHs] at h
    cases e : c.P.xm x y with
    | none => rw [e] at h; exact h.elim
    | some b' =>
      obtain ⟨C', e1, e2⟩ := A.xm x y b' e
      rw [hC] at e1
      cases e1
      refine ⟨b', e2 v hv, fun hb a ha => ?_, fun hb => ?_⟩
      · subst hb
        rw [e] at h
        simp only at h
        split at h
        · exact h.elim
        · rename_i hn
          have hio : c.P.io.contains i = false := by
            cases q : c.P.io.contains i with
            | false => rfl
            | true => exact absurd (.inl q) hn
          have hl : i < ρ.length := Nat.lt_of_not_le fun q => hn (.inr q)
          have hf := not_fx A.toAmbE hio
          refine ⟨C, dd, x, gs, rfl, rfl, hC, hgs, T, ρ.set i none, su_some s hl hf, ?_⟩
          show SatS _ T _ (evSs (c.P.suite (some (i, x, gs)) (i :: c.P.io)) b (ρ.set i none)) (offE Dn i)
          have back : ∀ {T : Hl} {σ : L2.St} {H : Hp} {r : Env}, Stt (sCn c (some (i, x, gs)) dd x gs ((i, .ref a) :: c.fx) (i :: c.P.io)) T σ H r → Stt c T (σ.set i none) H (r.set i none) := fun {T σ H r} s => su_off (su_back s fun p hp => List.mem_cons_of_mem _ hp) hf
          cases e3 : evSs (c.P.suite (some (i, x, gs)) (i :: c.P.io)) b (ρ.set i none) with
          | nx r => rw [e3] at h; exact fun σ H s => h _ H (back s)
          | rt w r => rw [e3] at h; exact fun v σ H s => h v _ H (back s)
          | bk r => rw [e3] at h; exact fun σ H s => h _ H (back s)
          | ct r => rw [e3] at h; exact fun σ H s => h _ H (back s)
          | ex z hs r => rw [e3] at h; exact h.elim
          | no => rw [e3] at h; exact h.elim
      · subst hb
        rw [e] at h
        exact hs_go A hg hr h σ C dd H hC s
end
end Ev

namespace Ev
open PySem PySem.Spec PyProof.Rows L2
section
variable {N : List Str}
theorem swap_stores {tg e : Expr} {env : PySem.Env} (h : isDisp e = false) : swappedStores [tg] e env = pure none := by
  cases e <;> first | rfl | cases h | skip
  all_goals (cases tg <;> rfl)
theorem sub_stores {a b e : Expr} {p : Pos} {env : PySem.Env} : swappedStores [.Subscript a b p] e env = pure none := by
  cases e <;> rfl
theorem sole_tup {N : List Str} {sc : Scope} {x : E} {e : Expr} {es : List Expr} {k : Nat} {p : Pos} {l : Nat} {env : PySem.Env} (h : chkE N sc x e = true) (hb : isComp e = false) : swapsWithSole [.Tuple es k p] e l env = pure false := by
  show swapsWith e (some (.Tuple es k p)) l env = pure false
  exact sw_none h hb
theorem sole_sub {N : List Str} {sc : Scope} {x : E} {e a b : Expr} {p : Pos} {l : Nat} {env : PySem.Env} (h : chkE N sc x e = true) (hb : isComp e = false) : swapsWithSole [.Subscript a b p] e l env = pure false := by
  show swapsWith e (some (.Subscript a b p)) l env = pure false
  exact sw_none h hb
theorem plain_assign {sc : Scope} {x : E} {o r : Expr} {pos : Pos} {env : PySem.Env} (h : chkE N sc x r = true) (v : Value) : assign (.Subscript o r pos) env v = (do
      let ov ← holding [v] (eval o env)
      let iv ← holding [v, ov] (eval r env)
      standAt pos
      holding [v, ov, iv] (setItem ov iv v)
      release [v, ov, iv] []) := by
  cases r <;> first | rfl | exact (no_slice h).elim
theorem augD_rep {G : Gx} {H H1 : Hp} {o : Operator} {a b d : D} {v : V} (e : augD o a b = some d) (r : Rep G H v a) : Rep G H1 v a := by
  unfold augD at e
  split at e
  · cases r; exact .int _
  · cases r; exact .int _
  · cases r; exact .str _
  · cases e
theorem few_ok {sc : Scope} {x : E} {e : Expr} {cp : Pos} {env : PySem.Env} (h : chkE N sc x e = true) : ((backTo cp (starEach (e :: []) env)).all (fun x => !x.1) && (backToKw cp (keywordEach [] env)).all (fun x => x.1.isSome)
      && decide ((e :: []).length + ([] : List Keyword).length + (if ([] : List Keyword).isEmpty then 0 else 1) < 30)) = true := by
  rw [star_cons h]
  rfl
mutual
theorem soundS : ∀ (x : S) {c : Cn} {sc : Scope} {Wx : WX} {X : Cx} {s : Stmt}, AmbS c N sc Wx X → chkS N sc x s = true → PS X s (tS c Wx x)
  | .set i e, c, sc, Wx, X, s, A, h => by
    simp only [chkS] at h
    split at h
    · obtain ⟨h12, h3⟩ := b2 h
      obtain ⟨h1, h2⟩ := b2 h12
      obtain ⟨l1, l2⟩ := loc_of A.toAmbE h1
      refine PS.to (ps_set (i := i) (by rw [A.eN]; exact A.nd) l1 l2 (soundE e A.toAmbE h2) (sw_false A.toAmbE h2 (of_not h3)) (.inl (A.fnall _))) fun Dn σ H ⟨T, ρ, st, q⟩ => ?_
      simp only [evS] at q
      exact ⟨T, ρ, st, (q.st σ).imp fun w ρ1 q1 v H1 s1 => set_go A.toAmbE s1 q1⟩
    · cases h
  | .setC i y j elt it, c, sc, Wx, X, s, A, h => by
    simp only [chkS] at h
    split at h
    · cases hcalm : c.P.calm with
      | false =>
        refine Ev.PS.dead fun Dn σ H ⟨T, ρ, st, q⟩ => ?_
        simp only [evS, evE, hcalm] at q
        simp [R.st] at q
        exact q
      | true =>
        obtain ⟨h12, h3⟩ := b2 h
        obtain ⟨h1, h2⟩ := b2 h12
        obtain ⟨g12345, g6⟩ := b2 h3
        obtain ⟨g1234, g5⟩ := b2 g12345
        obtain ⟨g123, g4⟩ := b2 g1234
        obtain ⟨g12, g3⟩ := b2 g123
        obtain ⟨g1, g2⟩ := b2 g12
        have e1 := of_dec g1
        subst e1
        obtain ⟨l1, l2⟩ := loc_of A.toAmbE h1
        unfold swB at h2
        obtain ⟨w12, w3⟩ := b2 h2
        obtain ⟨w1, w2⟩ := b2 w12
        unfold lN at g5
        obtain ⟨g51, g52⟩ := b2 g5
        have hyl := (show ∀ {z : Str}, decide (sc.names.lookup z = some .local) = true → X.env.scope.names.lookup z = some .local from fun h => by rw [A.esc]; exact of_dec h) w1
        refine PS.to (ps_setLc (i := i) (own := [(y, j)]) (g := gName j) (tt := tYes) (A.calm hcalm) (by rw [A.eN]; exact A.nd) l1 hyl (sw_true (by rw [A.esc]; exact A.kind) hyl w2 (of_not w3)) (soundI it A.toAmbE g3) (blkOk A.toAmbE g2)
          (fun s H C cl fp => pg_name (by show X.N.Nodup; rw [A.eN]; exact A.nd) (by show X.N[j]? = _; rw [A.eN]; exact of_dec g51) ?_ ?_) (fun _ _ _ _ _ => pts_nil) (fun s H C cl fp => soundE elt (blk_amb A.toAmbE (A.cc hcalm) s H C cl fp) g4) (setFold g3)) fun Dn σ H ⟨T, ρ, st, q⟩ => ?_
        · show L2.Loc (relS _ X.env.scope) y
          rw [A.esc]
          unfold L2.Loc
          split at g52
          · exact .inl (by assumption)
          · exact .inr (by assumption)
          · cases g52
        · rcases Bool.or_eq_true_iff.mp g6 with h7 | h7
          · left
            show (_ == _) = true
            rw [of_dec h7]; rfl
          · right
            show (relS _ X.env.scope).names.lookup y = _
            rw [A.esc]
            exact of_dec h7
        · simp only [evS] at q
          exact comp_ok (sc := sc) (scope := sc) A.toAmbE (wi := tI c Wx it) ⟨T, ρ, st, (q.st σ).imp fun w ρ1 q1 v H1 s1 => set_go A.toAmbE s1 q1⟩
    · cases h
  | .unp is e, c, sc, Wx, X, s, A, h => by
    simp only [chkS] at h
    split at h
    · obtain ⟨h123, h4⟩ := b2 h
      obtain ⟨h12, h3⟩ := b2 h123
      obtain ⟨h1, h2⟩ := b2 h12
      cases hcalm : c.P.calm with
      | false =>
        refine Ev.PS.dead fun Dn σ H ⟨T, ρ, st, q⟩ => ?_
        simp only [evS, hcalm] at q
        simp at q
        exact q
      | true =>
        refine PS.to (ps_asg (soundE e A.toAmbE h2) (pg_T (t := is) (one := false) A (A.calm hcalm) h1) (sole_tup h2 (of_not h4)) (swap_stores (of_not h3))) fun Dn σ H ⟨T, ρ, st, q⟩ => ?_
        simp only [evS, hcalm, if_true] at q
        refine ⟨T, ρ, st, (q.st σ).imp fun w ρ1 q1 v H1 s1 => ?_⟩
        split at q1
        · rename_i ρ2 hb
          exact T_go A.toAmbE hb s1.freeze fun σ' s2 => q1 _ _ s2
        · exact q1.elim
    · cases h
  | .aug i o e, c, sc, Wx, X, s, A, h => by
    simp only [chkS] at h
    split at h
    · obtain ⟨h12, h3⟩ := b2 h
      obtain ⟨h1, h2⟩ := b2 h12
      have := of_dec h1
      subst this
      obtain ⟨l1, l2⟩ := loc_of A.toAmbE h2
      have start : ∀ {Dn σ H}, tS c Wx (.aug i o e) Dn σ H → augOp o = true ∧ ∃ (T : Hl) (ρ : Env) (x : W) (v : V), Stt c T σ H ρ ∧ σ[i]? = some (some v) ∧ Rep c.G H v x.d ∧ Sat c T σ Wx (evE c.P e ρ) fun y ρ1 => ∃ d, augD o x.d y.d = some d ∧ SatS c T Wx (setE c.P.io i (fz d) ρ1) Dn := fun {Dn σ H} ⟨T, ρ, st, q⟩ => by
        simp only [evS] at q
        split at q
        · rename_i ho
          refine ⟨ho, ?_⟩
          split at q
          · rename_i x hx
            obtain ⟨v, hv, s1⟩ := st.take hx
            refine ⟨T, ρ, x, v, st, hv, s1.repW, (q.st σ).imp fun y ρ1 q1 => ?_⟩
            split at q1
            · rename_i d hd
              exact ⟨d, hd, q1⟩
            · exact q1.elim
          · exact q.elim
        · exact q.elim
      have hor : PIp X o (fun x y H Q => augOp o = true ∧ ∃ a b d, Rep c.G H x a ∧ Rep c.G H y b ∧ augD o a b = some d ∧ ∀ v, (∀ F, Rep c.G F v d) → Q v H) := by
        intro pins s σ H x y v u Q I rx ry ⟨ho, a, b, d, r1, r2, e, k⟩
        cases o <;> simp only [augOp, Bool.false_eq_true] at ho
        · unfold augD at e
          split at e
          · cases r1; cases r2; cases e
            exact iop_add pins s σ H _ _ v u Q I rx ry ⟨_, _, rfl, rfl, k _ fun F => .int _⟩
          · rename_i e0; cases e0
          · cases r1; cases r2
            split at e
            · rename_i hz
              cases e
              exact iop_add_str pins s σ H _ _ v u Q I rx ry ⟨_, _, rfl, rfl, hz, k _ fun F => .str _⟩
            · cases e
          · cases e
        · unfold augD at e
          split at e
          · rename_i e0; cases e0
          · cases r1; cases r2; cases e
            exact iop_sub pins s σ H _ _ v u Q I rx ry ⟨_, _, rfl, rfl, k _ fun F => .int _⟩
          · rename_i e0; cases e0
          · cases e
      refine PS.to (ps_aug (by rw [A.eN]; exact A.nd) l1 l2 (soundE e A.toAmbE h3) hor (.inl (A.fnall _))) fun Dn σ H q => ?_
      obtain ⟨ho, T, ρ, x, v, st, hv, r, q⟩ := start q
      refine ⟨v, hv, T, ρ, st, q.imp fun y ρ1 ⟨d, hd, q1⟩ u H1 s1 => ⟨ho, x.d, y.d, d, augD_rep hd r, s1.repW, hd, fun z hz => set_go A.toAmbE (s1.tail.cons hz) q1⟩⟩
    · cases h
  | .put n i e, c, sc, Wx, X, s, A, h => by
    simp only [chkS] at h
    split at h
    · obtain ⟨h123, h4⟩ := b2 h
      obtain ⟨h12, h3⟩ := b2 h123
      obtain ⟨h1, h2⟩ := b2 h12
      refine PS.to (ps_asg (soundE e A.toAmbE h3) (pg_sub (A.vis h1) (soundE i A.toAmbE h2) set_list (plain_assign h2)) (sole_sub h3 (of_not h4)) sub_stores) fun Dn σ H ⟨T, ρ, st, q⟩ => ?_
      simp only [evS] at q
      split at q
      · rename_i w0 hw0
        obtain ⟨v0, hv0⟩ := st.fit.has n w0 hw0
        refine ⟨T, ρ, st, (q.st σ).imp fun w ρ1 q1 v H1 s1 => ⟨v0, hv0, _, ρ1, s1.freeze, (q1.st σ).wk1.imp fun y ρ2 q2 u H2 s2 => ?_⟩⟩
        split at q2
        · rename_i ds j hw hy
          split at q2
          · rename_i m hm
            have r := s2.repW
            rw [hy] at r
            obtain ⟨a, vs, hv, h5, h6, go⟩ := own_go (M := [(u, y), (v, fz w.d)]) (ds' := ds.set m w.d) s2 hw
            rw [hv0] at hv
            cases hv
            refine ⟨a, vs, j, m, rfl, int_of r, h5, by rw [h6]; exact hm, q2 _ _ (go _ fun F sF r hM => ?_)⟩
            exact Reps.set (hM (v, fz w.d) (by simp)) m r
          · exact q2.elim
        · exact q2.elim
      · exact q.elim
    · cases h
  | .app n e, c, sc, Wx, X, s, A, h => by
    simp only [chkS] at h
    split at h
    · obtain ⟨h123, h3⟩ := b2 h
      obtain ⟨h12, h4⟩ := b2 h123
      obtain ⟨h1, h2⟩ := b2 h12
      have := of_dec h2
      subst this
      refine PS.to (ps_expr (pe_bm PySem.F.plainAttrs_list PySem.F.slot_list_append PySem.F.type_list_append mt_append (A.vis h1) (pa_cons (soundE e A.toAmbE h3) pa_nil (star_cons h3)) rfl (few_ok h3) h4 (star_cons h3))) fun Dn σ H ⟨T, ρ, st, q⟩ => ?_
      simp only [evS] at q
      split at q
      · rename_i d0 hw0
        obtain ⟨v0, hv0, s0⟩ := st.take hw0
        obtain ⟨L, hL⟩ := hd_of (M := [(v0, ⟨d0, true⟩)]) s0
        obtain ⟨a, es, e1, e2⟩ := hL.own_is rfl
        subst e1
        rw [e2] at hL
        obtain ⟨vs0, h5, h6⟩ := hL.owned
        refine ⟨.ref a, hv0, tyV_list h5, T, ρ, st, (q.st σ).imp fun w ρ1 q1 u H1 s1 => ?_⟩
        split at q1
        · rename_i ds hw
          split at q1
          · rename_i hz
            obtain ⟨a', vs, hv, h7, h8, go⟩ := own_go (M := [(u, fz w.d)]) (ds' := ds ++ [w.d]) s1.freeze hw
            rw [hv0] at hv
            cases hv
            refine ⟨a, vs, u, rfl, rfl, h7, by rw [h8]; exact hz, q1 _ _ (go _ fun F sF r hM => ?_)⟩
            exact r.append (.cons (hM (u, fz w.d) (by simp)) .nil)
          · exact q1.elim
        · exact q1.elim
      · exact q.elim
    · cases h
  | .ret e, c, sc, Wx, X, s, A, h => by
    simp only [chkS] at h
    split at h
    · refine PS.to (ps_ret (soundE e A.toAmbE h)) fun Dn σ H ⟨T, ρ, st, q⟩ => ?_
      simp only [evS] at q
      exact ⟨T, ρ, st, (q.st σ).imp fun w ρ1 q1 v H1 s1 => q1 v σ H1 s1⟩
    · cases h
  | .retN, c, sc, Wx, X, s, A, h => by
    simp only [chkS] at h
    split at h
    · refine PS.to ps_retN fun Dn σ H ⟨T, ρ, st, q⟩ => ?_
      simp only [evS] at q
      exact q _ σ H (st.cons fun F => .non)
    · cases h
  | .expr e, c, sc, Wx, X, s, A, h => by
    simp only [chkS] at h
    split at h
    · obtain ⟨h1, h2⟩ := b2 h
      refine PS.to (ps_expr (soundE e A.toAmbE h1) (sw_none h1 (of_not h2))) fun Dn σ H ⟨T, ρ, st, q⟩ => ?_
      simp only [evS] at q
      exact ⟨T, ρ, st, (q.st σ).imp fun w ρ1 q1 v H1 s1 => q1 σ H1 s1.tail⟩
    · cases h
  | .ifs t a b, c, sc, Wx, X, s, A, h => by
    simp only [chkS] at h
    split at h
    · obtain ⟨h12, h3⟩ := b2 h
      obtain ⟨h1, h2⟩ := b2 h12
      refine PS.to (ps_if (soundC t A.toAmbE h1) (soundSs a A h2) (soundSs b A h3)) fun Dn σ H ⟨T, ρ, st, q⟩ => ?_
      simp only [evS] at q
      refine ⟨T, ρ, st, (q.st σ).imp fun k ρ1 q1 H1 s1 => ?_⟩
      cases k with
      | true => exact ⟨T, ρ1, s1, q1⟩
      | false => exact ⟨T, ρ1, s1, q1⟩
    · cases h
  | .whl t b, c, sc, Wx, X, s, A, h => by
    simp only [chkS] at h
    split at h
    · obtain ⟨h1, h2⟩ := b2 h
      refine PS.to (ps_while A.pas (soundC t A.toAmbE h1) (soundSs b A h2)) fun Dn σ H ⟨T, ρ, st, q⟩ => ?_
      simp only [evS] at q
      exact while_go c.P.fuel st q
    · cases h
  | .for_ t one it b, c, sc, Wx, X, s, A, h => by
    simp only [chkS] at h
    split at h
    · obtain ⟨h12, h3⟩ := b2 h
      obtain ⟨h1, h2⟩ := b2 h12
      cases hcalm : c.P.calm with
      | false =>
        refine Ev.PS.dead fun Dn σ H ⟨T, ρ, st, q⟩ => ?_
        simp only [evS, hcalm] at q
        simp at q
        exact q
      | true =>
        refine PS.to (ps_for A.pas (A.calm hcalm) (soundI it A.toAmbE h2) (pg_T A (A.calm hcalm) h1) (soundSs b A h3) (setFold h2)) fun Dn σ H ⟨T, ρ, st, q⟩ => ?_
        simp only [evS, hcalm, if_true] at q
        exact ⟨T, ρ, st, (q.st σ).imp fun ds ρ1 q1 J M H1 ov s1 => for_go A ov s1 q1⟩
    · cases h
  | .raise y es, c, sc, Wx, X, s, A, h => by
    simp only [chkS] at h
    split at h
    · obtain ⟨h12, h3⟩ := b2 h
      obtain ⟨h1, h2⟩ := b2 h12
      have := of_dec h1
      subst this
      cases hcalm : c.P.calm with
      | false =>
        refine Ev.PS.dead fun Dn σ H ⟨T, ρ, st, q⟩ => ?_
        simp only [evS, hcalm] at q
        simp at q
        exact q
      | true =>
        cases hx : c.P.ex y with
        | none =>
          refine Ev.PS.dead fun Dn σ H ⟨T, ρ, st, q⟩ => ?_
          simp only [evS, hcalm, hx] at q
          simp at q
          exact q
        | some f =>
          obtain ⟨C, e1, e2⟩ := A.exm y f hx
          obtain ⟨st1, st2⟩ := starEs1 (env := X.env) h3
          refine PS.to (ps_raise (A.calm hcalm) A.tk (e2 X.pn X.xe _ _ _ _ _ (soundEs es A.toAmbE h3) h2 st1 st2)) fun Dn σ H ⟨T, ρ, st, q⟩ => ?_
          simp only [evS, hcalm, hx, if_true] at q
          refine ⟨T, ρ, st, (q.st σ).withEq.imp fun ws ρ1 ⟨e3, q1⟩ vs H1 hl s1 => ?_⟩
          split at q1
          · rename_i gs hg
            have ez := evEs_fz c.P es ρ ws ρ1 e3
            have hh : ∀ F, (∀ q ∈ vs.zip ws, Held c.G F H1 q.1 q.2) → Reps c.G F vs (ws.map (·.d)) := fun F hM => zip_held hl fun q hq => by rw [ez] at hq; exact hM q hq
            refine ⟨ws.map (·.d), gs, ?_, hg, fun d fs hd hfs => q1 σ C d _ e1 ?_⟩
            · obtain ⟨L, F, sF, hM, _⟩ := hd_of s1
              exact Reps.mono sF (hh F fun q hq => hM q (List.mem_append_left _ hq))
            · refine Stt.drop (T := (V.ref d, fz (.exc y gs)) :: (vs.zip ws ++ T)) (s1.temps fun h => ?_) (List.Sublist.cons_cons _ (List.sublist_append_right _ _))
              rw [List.append_assoc] at h
              rw [List.cons_append, List.append_assoc]
              refine Hd.laid h hd fun F sF hF hM => .exc upd_same (RepF.mono (fun b u e => ?_) (hfs F sF (hh F hM)))
              rw [upd_ne (ne_of_none e hF)]; exact e
          · exact q1.elim
    · cases h
  | .try_ b hs, c, sc, Wx, X, s, A, h => by
    simp only [chkS] at h
    split at h
    · obtain ⟨h1, h2⟩ := b2 h
      by_cases hq : c.P.calm = true ∧ hs.nm.all c.P.xh = true
      · obtain ⟨cl, h3, h4⟩ := soundHs hs A h2 hq.2
        refine PS.to (ps_tryA (tb := fun W => tSs c W b) A.stk A.frm (by rw [A.eN]; exact A.nd) A.tk (fun W pn xe tk ps => soundSs b (tr_amb A (A.cc hq.1) pn xe tk ps) h1) h4) fun Dn σ H ⟨T, ρ, st, q⟩ => ?_
        simp only [evS] at q
        rw [if_pos hq] at q
        refine ⟨T, ρ, st, ?_⟩
        cases e : evSs c.P b ρ with
        | nx r => rw [e] at q; exact q
        | rt w r => rw [e] at q; exact q
        | bk r => rw [e] at q; exact q
        | ct r => rw [e] at q; exact q
        | ex x gs r =>
          rw [e] at q
          simp only at q
          split at q
          · rename_i hg
            exact fun σ C dd H hC s => hs_go A hg h3 q σ C dd H hC s
          · exact q.elim
        | no => rw [e] at q; exact q
      · refine Ev.PS.dead fun Dn σ H ⟨T, ρ, st, q⟩ => ?_
        simp only [evS] at q
        rw [if_neg hq] at q
        exact q
    · cases h
  | .pass, c, sc, Wx, X, s, A, h => by
    simp only [chkS] at h
    split at h
    · refine PS.to ps_pass fun Dn σ H ⟨T, ρ, st, q⟩ => ?_
      simp only [evS] at q
      exact q σ H st
    · refine PS.to ps_doc fun Dn σ H ⟨T, ρ, st, q⟩ => ?_
      simp only [evS] at q
      exact q σ H st
    · cases h
  | .brk, c, sc, Wx, X, s, A, h => by
    simp only [chkS] at h
    split at h
    · refine PS.to ps_break fun Dn σ H ⟨T, ρ, st, q⟩ => ?_
      simp only [evS] at q
      exact q σ H st
    · cases h
  | .cont, c, sc, Wx, X, s, A, h => by
    simp only [chkS] at h
    split at h
    · refine PS.to ps_continue fun Dn σ H ⟨T, ρ, st, q⟩ => ?_
      simp only [evS] at q
      exact q σ H st
    · cases h
theorem soundSs : ∀ (x : Ss) {c : Cn} {sc : Scope} {Wx : WX} {X : Cx} {l : List Stmt}, AmbS c N sc Wx X → chkSs N sc x l = true → PSs X l (tSs c Wx x)
  | .nil, c, sc, Wx, X, l, A, h => by
    simp only [chkSs] at h
    split at h
    · refine PSs.to pss_nil fun Dn σ H ⟨T, ρ, st, q⟩ => ?_
      simp only [evSs] at q
      exact q σ H st
    · cases h
  | .cons a as, c, sc, Wx, X, l, A, h => by
    simp only [chkSs] at h
    split at h
    · obtain ⟨h1, h2⟩ := b2 h
      refine PSs.to (pss_cons (soundS a A h1) (soundSs as A h2)) fun Dn σ H ⟨T, ρ, st, q⟩ => ?_
      simp only [evSs] at q
      exact ⟨T, ρ, st, q.seq fun ρ1 σ H s q1 => ⟨T, ρ1, s, q1⟩⟩
    · cases h
theorem soundHs : ∀ (x : Hs) {c : Cn} {sc : Scope} {Wx : WX} {X : Cx} {l : List ExceptHandler}, AmbS c N sc Wx X → chkHs N sc x l = true → x.nm.all c.P.xh = true → ∃ cl, ClsOf c X x cl ∧ HdA X l cl
  | .nil, c, sc, Wx, X, l, A, h, hn => by
    simp only [chkHs] at h
    split at h
    · exact ⟨[], True.intro, .nil⟩
    · cases h
  | .one y b hs, c, sc, Wx, X, l, A, h, hn => by
    simp only [chkHs] at h
    split at h
    · obtain ⟨h123, h4⟩ := b2 h
      obtain ⟨h12, h3⟩ := b2 h123
      obtain ⟨h1, h2⟩ := b2 h12
      have := of_dec h1
      subst this
      simp only [Hs.nm, List.all_cons, Bool.and_eq_true] at hn
      obtain ⟨Dv, hv⟩ := A.xh y hn.1
      obtain ⟨g1, g2⟩ := A.gl1 h2
      obtain ⟨cl, h5, h6⟩ := soundHs hs A h4 hn.2
      refine ⟨(Dv, none, tSu c none b) :: cl, ⟨hv, rfl, h5⟩, .one ⟨g1, g2, hv⟩ (fun a oe v d pn hz hd => ⟨fun pins sh σ H Dn I ⟨C, dd, x, gs, e1, e2, e3, e4, q⟩ => ?_⟩) h6⟩
      subst e1 e2
      exact (soundSs b (suite_amb A e3 hz hd e4 A.io (fun _ _ _ e => by cases e)) h3).run pins sh σ H Dn I q
    · cases h
  | .as y i b hs, c, sc, Wx, X, l, A, h, hn => by
    simp only [chkHs] at h
    split at h
    · obtain ⟨h12345, h6⟩ := b2 h
      obtain ⟨h1234, h5⟩ := b2 h12345
      obtain ⟨h123, h4⟩ := b2 h1234
      obtain ⟨h12, h3⟩ := b2 h123
      obtain ⟨h1, h2⟩ := b2 h12
      have := of_dec h1
      subst this
      simp only [Hs.nm, List.all_cons, Bool.and_eq_true] at hn
      obtain ⟨Dv, hv⟩ := A.xh y hn.1
      obtain ⟨g1, g2⟩ := A.gl1 h2
      obtain ⟨cl, h7, h8⟩ := soundHs hs A h6 hn.2
      refine ⟨(Dv, some i, tSu c (some i) b) :: cl, ⟨rfl, hv, rfl, h7⟩, .as ⟨g1, g2, hv⟩ (by rw [A.eN]; exact of_dec h3) (by show X.env.scope.names.lookup _ = _; rw [A.esc]; exact of_dec h4)
        (fun a oe v d pn hz hd => ⟨fun pins sh σ H Dn I ⟨C, dd, x, gs, e1, e2, e3, e4, q⟩ => ?_⟩) h8⟩
      subst e1 e2
      refine (soundSs b (suite_amb A e3 hz hd e4 (fun p hp => ?_) (fun j z gs' e => ?_)) h5).run pins sh σ H Dn I q
      · rcases List.mem_cons.mp hp with e | hp
        · subst e; exact List.mem_cons_self
        · exact List.mem_cons_of_mem _ (A.io p hp)
      · cases e
        exact ⟨rfl, rfl, List.mem_cons_self⟩
    · cases h
end
end
end Ev

namespace Ev
open PySem PySem.Spec PyProof.Rows L2
/-! ### a def as a whole -/
def fxOf : Nat → List V → List W → List (Nat × V)
  | k, v :: vs, w :: ws => if w.own = true then (k, v) :: fxOf (k + 1) vs ws else fxOf (k + 1) vs ws
  | _, _, _ => []
def FixW : L2.St → List V → List W → Prop
  | _, [], _ => True
  | _, _, [] => True
  | [], _ :: _, _ :: _ => False
  | o :: σ, v :: vs, w :: ws => (w.own = true → o = some v) ∧ FixW σ vs ws
theorem fix_of : ∀ {vs : List V} {ws : List W} {k : Nat} {σ : L2.St}, vs.length ≤ σ.length → (∀ p ∈ fxOf k vs ws, k ≤ p.1 ∧ σ[p.1 - k]? = some (some p.2)) → FixW σ vs ws
  | [], _, _, _, _, _ => by simp [FixW]
  | _ :: _, [], _, σ, _, _ => by cases σ <;> simp [FixW]
  | v :: vs, w :: ws, k, [], h, _ => by simp at h
  | v :: vs, w :: ws, k, o :: σ, h, f => by
    have tail : ∀ p ∈ fxOf (k + 1) vs ws, k + 1 ≤ p.1 ∧ σ[p.1 - (k + 1)]? = some (some p.2) := fun p hp => by
      have lo : ∀ {vs : List V} {ws : List W} {k : Nat}, ∀ p ∈ fxOf k vs ws, k ≤ p.1 := by
        intro vs
        induction vs with
        | nil => intro ws k p hp; cases ws <;> simp [fxOf] at hp
        | cons v vs ih =>
          intro ws k p hp
          cases ws with
          | nil => simp [fxOf] at hp
          | cons w ws =>
            simp only [fxOf] at hp
            split at hp
            · rcases List.mem_cons.mp hp with e | hp
              · subst e; exact Nat.le_refl _
              · exact Nat.le_of_succ_le (ih p hp)
            · exact Nat.le_of_succ_le (ih p hp)
      have h1 := lo p hp
      have h2 := (f p (by
        simp only [fxOf]
        split
        · exact List.mem_cons_of_mem _ hp
        · exact hp)).2
      refine ⟨h1, ?_⟩
      rw [show p.1 - k = (p.1 - (k + 1)) + 1 by omega] at h2
      simpa using h2
    refine ⟨fun hw => ?_, fix_of (k := k + 1) (by simpa using h) tail⟩
    have q := (f (k, v) (by simp only [fxOf, hw, if_true]; exact List.mem_cons_self)).2
    simp at q
    exact q
theorem io_fx : ∀ {vs : List V} {ws : List W} {k : Nat}, ∀ p ∈ fxOf k vs ws, p.1 ∈ ioOf k ws
  | [], _, _, p, hp => by simp [fxOf] at hp
  | _ :: _, [], _, p, hp => by simp [fxOf] at hp
  | v :: vs, w :: ws, k, p, hp => by
    simp only [fxOf] at hp
    simp only [ioOf]
    split at hp
    · rename_i hw
      rw [if_pos hw]
      rcases List.mem_cons.mp hp with e | hp
      · subst e; exact List.mem_cons_self
      · exact List.mem_cons_of_mem _ (io_fx p hp)
    · rename_i hw
      rw [if_neg hw]
      exact io_fx p hp
theorem fx_start : ∀ {vs : List V} {ws : List W} {k : Nat} {r : L2.St}, ∀ p ∈ fxOf k vs ws, k ≤ p.1 ∧ (vs.map some ++ r)[p.1 - k]? = some (some p.2)
  | [], _, _, _, p, hp => by simp [fxOf] at hp
  | _ :: _, [], _, _, p, hp => by simp [fxOf] at hp
  | v :: vs, w :: ws, k, r, p, hp => by
    have go : ∀ p ∈ fxOf (k + 1) vs ws, k ≤ p.1 ∧ ((v :: vs).map some ++ r)[p.1 - k]? = some (some p.2) := fun p hp => by
      obtain ⟨h1, h2⟩ := fx_start (r := r) p hp
      refine ⟨by omega, ?_⟩
      rw [show p.1 - k = (p.1 - (k + 1)) + 1 by omega]
      simpa using h2
    simp only [fxOf] at hp
    split at hp
    · rcases List.mem_cons.mp hp with e | hp
      · subst e; simp
      · exact go p hp
    · exact go p hp
theorem ents_start : ∀ {vs : List V} {ws : List W} {n m : Nat}, vs.length = ws.length → ents (vs.map some ++ List.replicate n none) (ws.map some ++ List.replicate m none) = vs.zip ws
  | [], [], n, m, _ => by
    simp only [List.map_nil, List.nil_append, List.zip_nil_left]
    induction n generalizing m with
    | zero => cases m <;> simp [ents]
    | succ n ih => cases m with
      | zero => simp [ents]
      | succ m => simp only [List.replicate_succ, ents]; exact ih m
  | [], _ :: _, _, _, h => by simp at h
  | _ :: _, [], _, _, h => by simp at h
  | v :: vs, w :: ws, n, m, h => by
    simp only [List.map_cons, List.cons_append, ents, List.zip_cons_cons]
    rw [ents_start (by simpa using h)]
theorem fit_start {vs : List V} {ws : List W} {n : Nat} (h : vs.length = ws.length) : Fit (vs.map some ++ List.replicate (n - vs.length) none) (ws.map some ++ List.replicate (n - ws.length) none) := by
  refine ⟨by simp [h], fun i w e => ?_⟩
  have hi : i < ws.length := by
    by_cases hi : i < ws.length
    · exact hi
    · rw [List.getElem?_append_right (by simpa using hi), List.getElem?_replicate] at e
      split at e <;> cases e
  refine ⟨vs[i]'(by omega), ?_⟩
  rw [List.getElem?_append_left (by simp; omega)]
  simp
theorem outs_sub : ∀ {vs : List V} {ws : List W} {σ : L2.St} {ρ : Env} {os : List W}, FixW σ vs ws → σ.length = ρ.length → outsF ws ρ = some os → ((ownV vs ws).zip os).Sublist (ents σ ρ)
  | [], ws, σ, ρ, os, _, _, _ => by cases ws <;> simp [ownV]
  | _ :: _, [], σ, ρ, os, _, _, _ => by simp [ownV]
  | v :: vs, w :: ws, [], ρ, os, f, _, _ => by simp [FixW] at f
  | v :: vs, w :: ws, o :: σ, [], os, _, h, _ => by simp at h
  | v :: vs, w :: ws, o :: σ, some u :: ρ, os, f, h, e => by
    simp only [outsF] at e
    simp only [ownV]
    split at e
    · rename_i hw
      obtain ⟨os', e1, rfl⟩ := Option.map_eq_some_iff.mp e
      have := f.1 hw
      subst this
      rw [if_pos hw]
      simp only [ents, List.zip_cons_cons]
      exact List.Sublist.cons_cons _ (outs_sub f.2 (by simpa using h) e1)
    · rename_i hw
      rw [if_neg hw]
      have q := outs_sub f.2 (by simpa using h) e
      cases o with
      | none => simpa [ents] using q
      | some z => simp only [ents]; exact q.trans (List.sublist_cons_self _ _)
  | v :: vs, w :: ws, o :: σ, none :: ρ, os, f, h, e => by
    simp only [outsF] at e
    simp only [ownV]
    split at e
    · cases e
    · rename_i hw
      rw [if_neg hw]
      have q := outs_sub f.2 (by simpa using h) e
      cases o <;> simpa [ents] using q

theorem outs_len : ∀ {ws : List W} {ρ : Env} {os : List W}, outsF ws ρ = some os → ws.length ≤ ρ.length
  | [], _, _, _ => Nat.zero_le _
  | _ :: _, [], _, e => by simp [outsF] at e
  | w :: ws, some u :: ρ, os, e => by
    simp only [outsF] at e
    split at e
    · obtain ⟨os', e1, _⟩ := Option.map_eq_some_iff.mp e
      exact Nat.succ_le_succ (outs_len e1)
    · exact Nat.succ_le_succ (outs_len e)
  | w :: ws, none :: ρ, os, e => by
    simp only [outsF] at e
    split at e
    · cases e
    · exact Nat.succ_le_succ (outs_len e)
/-- what a def's text must be -/
def fnB (N ps : List Str) (st : Stmt) (b : Ss) : Bool :=
  (match (defScope st).kind with | .function => true | _ => false) && !(defScope st).isCoroutine && !(defScope st).isGenerator && decide N.Nodup && decide (N.take ps.length = ps) &&
    (ps.all fun x => decide ((defScope st).names.lookup x = some .local) || decide ((defScope st).names.lookup x = some .cell)) && ((defScope st).names.all fun y => !(y.2 == .free)) && chkSs N (defScope st) b (defBody st)
theorem fnB_ok {N ps : List Str} {st : Stmt} {b : Ss} (h : fnB N ps st b = true) : FnScope N ps (defScope st) ∧ chkSs N (defScope st) b (defBody st) = true := by
  unfold fnB at h
  obtain ⟨h, h8⟩ := b2 h
  obtain ⟨h, h7⟩ := b2 h
  obtain ⟨h, h6⟩ := b2 h
  obtain ⟨h, h5⟩ := b2 h
  obtain ⟨h, h4⟩ := b2 h
  obtain ⟨h, h3⟩ := b2 h
  obtain ⟨h1, h2⟩ := b2 h
  refine ⟨⟨?_, of_not h2, of_not h3, of_dec h4, of_dec h5, fun x hx => ?_, fun y hy e => ?_⟩, h8⟩
  · split at h1
    · assumption
    · cases h1
  · rcases Bool.or_eq_true_iff.mp (List.all_eq_true.mp h6 x hx) with q | q
    · exact .inl (of_dec q)
    · exact .inr (of_dec q)
  · have q := List.all_eq_true.mp h7 y hy
    rw [e] at q
    cases q

/-- what the top of the program has left, for every def -/
structure Prg (G : Gx) (P : Pg) (prog : Program) (w : World) (mg : Str → Option Value) : Prop where
  gl : ∀ x d, P.gl x = some d → ∃ v u, mg x = some u ∧ RelV v u ∧ ∀ F, Rep G F v d
  bl : ∀ x ∈ (["len", "list", "int", "str", "range", "isinstance", "sorted", "all", "any", "tuple", "set", "zip", "enumerate", "reversed", "min", "max", "sum"] : List Str), mg x = none
  cur : P.cur = none
  calm : P.calm = true
  exm : ∀ x f, P.ex x = some f → ∃ C, G.ct x = some C ∧ ∀ (X : Cx) (sc : Scope), X.prog = prog → X.w = w → X.K = G.K → X.mg = mg → X.env.scope = sc → Room 4 X.A → MkR G sc C f x X
  xm : ∀ x y b, P.xm x y = some b → ∃ C, G.ct x = some C ∧ ∀ Dv, (mg y = some Dv ∨ (mg y = none ∧ bootBuiltins y = some Dv ∧ y ≠ "__name__")) → PySem.W.exmOne G.K (.ref C) Dv = some b
  xh : ∀ y, P.xh y = true → ∃ Dv, (mg y = some Dv ∨ (mg y = none ∧ bootBuiltins y = some Dv ∧ y ≠ "__name__"))
  xf : ∀ x C, G.ct x = some C → P.xs x ≠ [] → XfC G.K C ∧ ∀ f ∈ P.xs x, PySem.W.findIn G.K (.ref C) f = some none
section
variable {G : Gx} {P : Pg} {prog : Program} {w : World} {mg : Str → Option Value} {base : Heap}
/-- a def that can be called at a level -/
def Callable (G : Gx) (prog : Program) (w : World) (mg : Str → Option Value) (base : Heap) (k : Nat) (x : Str) (sem : List W → FR) : Prop :=
  ∃ (f : Addr) (fd : FuncData) (ps : List Str), mg x = some (.ref f) ∧ PySem.W.keepIn G.K (.ref f) = true ∧ Binds G.K fd ps [] ∧ FnOk prog w G.K mg base (L2.CX prog w) k f fd ps (spEv G sem)
theorem fn_ok {N ps : List Str} {st : Stmt} {b : Ss} {x qual : Str} {f : Addr} {fd : FuncData} {k : Nat} (R : Prg G P prog w mg) (F : Fun G.K x qual st f fd) (hb : fnB N ps st b = true) (hk : 4 ≤ k)
    (hf : ∀ y sem, P.fs y = some sem → Callable G prog w mg base k y sem) : FnOk prog w G.K mg base (L2.CX prog w) (k + 1) f fd ps (spEv G (runF P N.length ps.length b)) := by
  obtain ⟨hS, hc⟩ := fnB_ok hb
  refine F.okX hS (fun vs H Q E ⟨T, ws, h1, _, h3⟩ => ?_) (fun cdv A outer s H vs Q E hr ⟨T, ws, h1, h2, h3⟩ => ?_)
  · by_cases hl : ws.length = ps.length
    · rw [h1, hl]
    · unfold runF at h3
      rw [if_neg hl] at h3
      exact h3.elim
  · let c : Cn := { G := G, P := { P with io := ioOf 0 ws }, M := T, fx := fxOf 0 vs ws }
    have Am : AmbS c N (defScope st) (fun cls d _ H => E cls d H) (cxOf (L2.CX prog w) prog w G.K mg base N qual (defScope st) f cdv A outer s H E) :=
      { eK := rfl, eN := rfl, nd := hS.nd, esc := rfl, calm := fun _ => rfl
        fn := fun y sem e => by
          obtain ⟨f', fd', ps', e1, e2, e3, e4⟩ := hf y sem e
          exact ⟨k, f', fd', ps', e1, e2, e3, hr, e4⟩
        gl := R.gl, bl := R.bl, un := hr.units, tk := takes_of rfl rfl rfl rfl, io := io_fx, cc := fun _ => R.cur
        cur := fun i y gs e => by
          have e' : P.cur = some (i, y, gs) := e
          rw [R.cur] at e'; cases e'
        fnall := fun _ => rfl, kind := hS.kind, pas := passes_of rfl, stk := rfl, frm := rfl
        exm := fun y f e => by
          obtain ⟨C, h1, h2⟩ := R.exm y f e
          exact ⟨C, h1, fun pn xe => h2 _ _ rfl rfl rfl rfl rfl (hr.mono hk)⟩
        xm := R.xm, xh := R.xh, xf := R.xf }
    refine ⟨_, soundSs b Am hc, [], ws.map some ++ List.replicate (N.length - ws.length) none, ⟨fit_start h1, fun p hp => ?_, ?_⟩, ?_⟩
    · have q := (fx_start (r := List.replicate (N.length - vs.length) none) p hp).2
      exact q
    · show Hd G H (ents (L2.start N vs) _ ++ ([] ++ T))
      unfold L2.start
      rw [ents_start h1]
      exact h2
    · have fin : ∀ {σ : L2.St} {H' : Hp} {ρ : Env} {L : Hl} {os : List W}, Stt c L σ H' ρ → outsF ws ρ = some os → Hd G H' (L ++ ((ownV vs ws).zip os ++ T)) := fun {σ H' ρ L os} s e => by
        have q := sp_of (M := L) (T := []) (by simpa using s)
        have hlen : vs.length ≤ σ.length := by rw [h1, s.fit.len]; exact outs_len e
        have sub := outs_sub (vs := vs) (fix_of (k := 0) hlen fun p hp => ⟨Nat.zero_le _, s.fix p hp⟩) s.fit.len e
        exact Hd.sub (List.Sublist.append_left (List.Sublist.append_right sub _) _) q
      unfold runF at h3
      by_cases hl : ws.length = ps.length
      · rw [if_pos hl] at h3
        show SatS c [] _ (evSs c.P b _) _
        cases e : evSs c.P b (ws.map some ++ List.replicate (N.length - ws.length) none) with
        | nx ρ =>
          have e' : evSs { P with io := ioOf 0 ws } b (ws.map some ++ List.replicate (N.length - ws.length) none) = .nx ρ := e
          rw [e'] at h3
          simp only at h3
          cases ho : outsF ws ρ with
          | none => rw [ho] at h3; exact h3.elim
          | some os =>
            rw [ho] at h3
            exact fun σ H' s => h3 .non H' (by simpa using fin (s.cons (v := .non) (d := .non) fun F => .non) ho)
        | rt z ρ =>
          have e' : evSs { P with io := ioOf 0 ws } b (ws.map some ++ List.replicate (N.length - ws.length) none) = .rt z ρ := e
          rw [e'] at h3
          simp only at h3
          cases ho : outsF ws ρ with
          | none => rw [ho] at h3; exact h3.elim
          | some os =>
            rw [ho] at h3
            exact fun v σ H' s => h3 v H' (by simpa using fin s ho)
        | ex y gs ρ =>
          have e' : evSs { P with io := ioOf 0 ws } b (ws.map some ++ List.replicate (N.length - ws.length) none) = .ex y gs ρ := e
          rw [e'] at h3
          simp only at h3
          intro σ C dd H' hC s
          refine h3 C dd H' hC ?_
          have q := sp_of (M := [(V.ref dd, fz (.exc y gs))]) (T := []) (by simpa using s)
          exact Hd.sub (List.Sublist.cons_cons _ (List.sublist_append_right _ _)) q
        | bk ρ =>
          have e' : evSs { P with io := ioOf 0 ws } b (ws.map some ++ List.replicate (N.length - ws.length) none) = .bk ρ := e
          rw [e'] at h3
          exact h3.elim
        | ct ρ =>
          have e' : evSs { P with io := ioOf 0 ws } b (ws.map some ++ List.replicate (N.length - ws.length) none) = .ct ρ := e
          rw [e'] at h3
          exact h3.elim
        | no =>
          have e' : evSs { P with io := ioOf 0 ws } b (ws.map some ++ List.replicate (N.length - ws.length) none) = .no := e
          rw [e'] at h3
          exact h3.elim
      · rw [if_neg hl] at h3
        exact h3.elim
/-- one def of the table, where it stands -/
structure Def (G : Gx) (mg : Str → Option Value) (p : Str × Nat × Nat × Ss) : Prop where
  ex : ∃ (N ps : List Str) (st : Stmt) (f : Addr) (fd : FuncData) (qual : Str), Fun G.K p.1 qual st f fd ∧ mg p.1 = some (.ref f) ∧ Binds G.K fd ps [] ∧ fnB N ps st p.2.2.2 = true ∧ N.length = p.2.1 ∧ ps.length = p.2.2.1
/-- every def, at every depth -/
theorem sems_ok {t : Tab} (R : Prg G P prog w mg) (ht : ∀ p ∈ t, Def G mg p) : ∀ (k : Nat) (x : Str) (sem : List W → FR), sems P t k x = some sem → Callable G prog w mg base (k + 4) x sem
  | 0, x, sem, h => by cases h
  | k + 1, x, sem, h => by
    simp only [sems, Option.map_eq_some_iff] at h
    obtain ⟨p, h1, rfl⟩ := h
    have hm : (x, p) ∈ t := PySem.mem_of_lookup h1
    obtain ⟨N, ps, st, f, fd, qual, F, e1, e2, e3, e4, e5⟩ := (ht _ hm).ex
    simp only at e1 e3 e4 e5
    have R' : Prg G { P with fs := sems P t k } prog w mg := ⟨R.gl, R.bl, R.cur, R.calm, R.exm, R.xm, R.xh, R.xf⟩
    have q := fn_ok (base := base) R' F e3 (Nat.le_add_left 4 k) fun y sem e => sems_ok R ht k y sem e
    rw [e4, e5] at q
    exact ⟨f, fd, ps, e1, F.kp, e2, q⟩
end
end Ev

namespace PySem
namespace TEX
open PySem.W PySem.Calls PyProof.Rows PySem.HandSPX
/-! ### an own error with three fields, whose base is an own error: the text of its __init__ -/
def eA (p0 p1 p2 p3 : Pos) : Arguments := { posonlyargs := [], args := [{ arg := "self", annotation := none, pos := p0 }, { arg := "line", annotation := none, pos := p1 }, { arg := "column", annotation := none, pos := p2 }, { arg := "reason", annotation := none, pos := p3 }], vararg := none, kwonlyargs := [], kw_defaults := [], kwarg := none, defaults := [] }
def eJ (a0 a1 a2 a3 a4 a5 a6 a7 a8 a9 : Pos) : Expr := .JoinedStr [.Constant (.str "line ") 0 a0, .FormattedValue (.Name "line" a1) (-1) none a2, .Constant (.str ", column ") 0 a3, .FormattedValue (.Name "column" a4) (-1) none a5, .Constant (.str ": ") 0 a6, .FormattedValue (.Name "reason" a7) (-1) none a8] a9
def eF (f : Str) (q0 q1 q2 q3 : Pos) : Stmt := .Assign [.Attribute (.Name "self" q0) f q1] (.Name f q2) q3
def eC (J : Expr) (b4 : Pos) : Stmt := .Expr (.Call (.Attribute (.Call (.Name "super" ⟨7, 8, 7, 13⟩) [] [] ⟨7, 8, 7, 15⟩) "__init__" ⟨7, 8, 7, 24⟩) [J] [] ⟨7, 8, 7, 67⟩) b4
def eB (J : Expr) (b4 q0 q1 q2 q3 r0 r1 r2 r3 s0 s1 s2 s3 : Pos) : List Stmt := [eC J b4, eF "line" q0 q1 q2 q3, eF "column" r0 r1 r2 r3, eF "reason" s0 s1 s2 s3]
def eS : Scope := { kind := .function, names := [(PySem.Str.ofString "self", .local), (PySem.Str.ofString "line", .local), (PySem.Str.ofString "column", .local), (PySem.Str.ofString "reason", .local), (PySem.Str.ofString "__class__", .free), (PySem.Str.ofString "super", .globalImplicit)], isGenerator := false, isCoroutine := false, more := [] }
/-- what the written part says of TextError, at C, and of its __init__, at fI -/
structure Txt (prog : Program) (K : Frag) (mg : Str → Option Value) (C fI : Addr) : Prop where
  gC : mg "TextError" = some (.ref C)
  gS : mg "super" = none
  cls : ∃ nm q N bs bm sn sub ab col dd k0 k1 k2 k3 k5, K.lookup C = some (excClassObj nm q C N bs bm true sn sub ab col dd k0 k1 k2 k3 k5 "ValueError.__new__") ∧ refsVE bm = true
  sa : findIn K (.ref C) "__setattr__" = some (some (.builtin "object.__setattr__"))
  n1 : findIn K (.ref C) "line" = some none
  n2 : findIn K (.ref C) "column" = some none
  n3 : findIn K (.ref C) "reason" = some none
  iC : findIn K (.ref C) "__init__" = some (some (.ref fI))
  tC : typeIn K (.ref fI) = some (.type "function")
  kC : keepIn K (.ref C) = true
  exC : subIn K (.ref C) (.type "BaseException") = some true
  tyC : typeIn K (.ref C) = some (.type "type")
  su : ks_superIn K C C "__init__" = some (some (.builtin "ValueError.__init__"))
  sB : subIn K (.ref C) (.type "ValueError") = some true
  sC : mroIn K C (.ref C) = some true
  op : nsIn K cStatics "thirdparty.any" = some none
  tp : (prog.main.scope.names.lookup ("super" : Str)).isSome = false
  fn : ∃ (oc : Value) (od : Option Addr) (doc pm : Value) (an : Option Addr) (cda cc : Addr) (ct : Value) (osl : Array (Option Value)) (p0 p1 p2 p3 a0 a1 a2 a3 a4 a5 a6 a7 a8 a9 b4 q0 q1 q2 q3 r0 r1 r2 r3 s0 s1 s2 s3 : Pos),
    K.lookup fI = some ⟨oc, od, .func (ksFn "__init__" "TextError.__init__" (eA p0 p1 p2 p3) (eB (eJ a0 a1 a2 a3 a4 a5 a6 a7 a8 a9) b4 q0 q1 q2 q3 r0 r1 r2 r3 s0 s1 s2 s3) eS .none .none doc pm an (.ref cda) ct cc), osl⟩ ∧ codeIn K (.ref cda) "TextError.__init__" = true ∧
      (∃ ccl cdd vs ccs file tf, K.lookup cda = some ⟨ccl, cdd, .fields vs, ccs⟩ ∧ vs[2]? = some (.str file tf) ∧ ((prog.main.file : Str) == file) = true) ∧ ∃ cl cld csl, K.lookup cc = some ⟨cl, cld, .cell (some (.ref C)), csl⟩
def joined (i j : Int) (y : Str) : Str := (((((Str.empty ++ Str.ofString "line ") ++ Str.ofString (toString i)) ++ Str.ofString ", column ") ++ Str.ofString (toString j)) ++ Str.ofString ": ") ++ y
/-- the field map -/
def fm (v1 v2 v3 : Value) : Str → Option Value := fun z => if z = "reason" then some v3 else if z = "column" then some v2 else if z = "line" then some v1 else none
structure InitEnd (h h' : Heap) (x C dx t1 : Addr) (v1 v2 v3 : Value) : Prop where
  keep : ∀ b o, b ≠ x → h.get? b = some o → h'.get? b = some o
  obj : h'.get? x = some { cls := .ref C, dict := some dx, data := .fields #[.ref t1, .none, .none, .none, .bool false, .none] }
  dbig : h.objs.size ≤ dx
  dne : dx ≠ x
  ns : h'.Ns1 dx (fm v1 v2 v3)
section
variable {prog : Program} {w : World} {A : Around} {E : Value → Shared → Prop} {R : Result → Shared → Prop} {s : Shared} {K : Frag} {mg : Str → Option Value} {C fI : Addr}
theorem kept_but {K : Frag} {h h' : Heap} {x : Addr} (X : K.In h) (hx : K.lookup x = none) (k : ∀ b o, b ≠ x → h.get? b = some o → h'.get? b = some o) : K.In h' := fun a o e =>
  k a o (fun z => by rw [z, hx] at e; cases e) (X a o e)
theorem eval_joined {en : Env} {m : Str → Option Value} {a0 a1 a2 a3 a4 a5 a6 a7 a8 a9 : Pos} {i j : Int} {y : Str} {u1 u2 u3 : Tok} {Q : Value → Shared → Prop} (hns : s.heap.Ns en.locals m) (hk : en.scope.kind = .function)
    (l1 : en.kindOf "line" = some .local) (l2 : en.kindOf "column" = some .local) (l3 : en.kindOf "reason" = some .local)
    (m1 : m "line" = some (.int i u1)) (m2 : m "column" = some (.int j u2)) (m3 : m "reason" = some (.str y u3)) (hi : i.natAbs.log2 < 1920) (hj : j.natAbs.log2 < 1920) (hz : (joined i j y).length ≤ sizeLine)
    (h : ∀ t1 t2, Q (.str (joined i j y) t1) { s with toks := t2 }) : wpAny (model prog w) A (eval (eJ a0 a1 a2 a3 a4 a5 a6 a7 a8 a9) en) Q E s := by
  obtain ⟨hp, g, d, t, os⟩ := s
  replace hns : hp.Ns en.locals m := hns
  replace h : ∀ t1 t2, Q (.str (joined i j y) t1) ⟨hp, g, d, t2, os⟩ := h
  have z := hz
  unfold joined at z
  simp only [PySem.Str.length_append] at z
  refine wpAny_JoinedStr ?_
  have e0 : evalEach [.Constant (.str "line ") 0 a0, .FormattedValue (.Name "line" a1) (-1) none a2, .Constant (.str ", column ") 0 a3, .FormattedValue (.Name "column" a4) (-1) none a5, .Constant (.str ": ") 0 a6, .FormattedValue (.Name "reason" a7) (-1) none a8] en =
      [eval (.Constant (.str "line ") 0 a0) en, eval (.FormattedValue (.Name "line" a1) (-1) none a2) en, eval (.Constant (.str ", column ") 0 a3) en, eval (.FormattedValue (.Name "column" a4) (-1) none a5) en, eval (.Constant (.str ": ") 0 a6) en, eval (.FormattedValue (.Name "reason" a7) (-1) none a8) en] := by first | rfl | simp [evalEach]
  rw [e0]
  refine Calls.Constant_str ⟨_, _, rfl, by simp only [PySem.Str.length_append]; omega, ?_⟩
  refine wpAny_FormattedValue_plain (ESX.ldL hns m1 (wpAny_formatField_int hi ⟨_, _, rfl, by simp only [PySem.Str.length_append]; omega, ?_⟩) hk l1)
  refine Calls.Constant_str ⟨_, _, rfl, by simp only [PySem.Str.length_append]; omega, ?_⟩
  refine wpAny_FormattedValue_plain (ESX.ldL hns m2 (wpAny_formatField_int hj ⟨_, _, rfl, by simp only [PySem.Str.length_append]; omega, ?_⟩) hk l2)
  refine Calls.Constant_str ⟨_, _, rfl, by simp only [PySem.Str.length_append]; omega, ?_⟩
  refine wpAny_FormattedValue_plain (ESX.ldL hns m3 (wpAny_formatField_str ⟨_, _, rfl, by simp only [PySem.Str.length_append]; omega, ?_⟩ ⟨_, _, rfl, by simp only [PySem.Str.length_append]; omega, ?_⟩ (by omega)) hk l3)
  · exact ⟨hz, h _ _⟩
  · exact ⟨hz, h _ _⟩
/-- ValueError.__init__ bound to a fresh exception, called -/
theorem call_mw {h : Heap} {g : Array GenState} {d : Drawn} {t : Nat} {os : OsState} {nm q : Str} {N : Addr} {bs bm : List Value} {hdct : Bool} {sn : List Str} {sub : List Value} {ab : Bool} {col : Option Bool} {dd : Option Addr} {k0 k1 k2 k3 k5 : Option Value}
    {u e t0 : Addr} {rest : List Value} {Q : Value → Shared → Prop} (hC : h.get? C = some (excClassObj nm q C N bs bm hdct sn sub ab col dd k0 k1 k2 k3 k5 "ValueError.__new__")) (he : h.get? e = some (excO C t0)) (hu : h.get? u = some (kxs_mw "ValueError.__init__" e)) (hrest : rest.length ≤ sizeLine)
    (hq : ∀ h' t1, (∀ b o, b ≠ e → h.get? b = some o → h'.get? b = some o) → h'.get? e = some (excO C t1) → Q .none ⟨h', g, d, t, os⟩) :
    wpAny (model prog w) A (call (.ref u) rest) Q E ⟨h, g, d, t, os⟩ := by
  refine wpAny_call (codeAny_of_tree ?_)
  show wpAny _ A.in1 (callAny (.ref u) ⟨rest, []⟩) _ _ _
  simp only [callAny]
  refine wpAny_bind (wpAny_load hu ?_)
  simp only [kxs_mw, show (Value.type "method-wrapper" == Value.type "method" || Value.type "method-wrapper" == Value.type "builtin_function_or_method" || Value.type "method-wrapper" == Value.type "method-wrapper") = true by decide, if_true]
  refine KFB.if_so (by decide) ?_
  refine wpAny_bind (check_bound_init F.excBase_ValueError.toExcCallFacts hC he rfl ?_)
  refine wpAny_bind (wpAny_pure (wpAny_pure ?_))
  refine ⟨plainId_quiet F.excBase_ValueError.init.plain _, codeAny_builtin F.excBase_ValueError.initEntry ?_⟩
  exact exc_init_tree (cls := .ref C) (t0 := t0) (dv := none) (c2 := .none) (c3 := .none) (b4 := .bool false) he hrest fun h' k e' _ => hq h' _ k e'
theorem te_init (T : Txt prog K mg C fI) {x t0 : Addr} {i j : Int} {y : Str} {u1 u2 u3 : Tok} (X : K.In s.heap) (G : s.heap.Ns mainGlobals mg) (B : ∃ mb, s.heap.Ns builtinsNs mb ∧ ∀ z : Str, z ≠ "__name__" → mb z = bootBuiltins z) (hlim : s.heap.NoLimit)
    (hx : s.heap.get? x = some (excO C t0)) (hnx : K.lookup x = none) (hroom : A.depth < recursionLimit) (hi : i.natAbs.log2 < 1920) (hj : j.natAbs.log2 < 1920) (hz : (joined i j y).length ≤ sizeLine)
    (hq : ∀ h' tk dx t1, InitEnd s.heap h' x C dx t1 (.int i u1) (.int j u2) (.str y u3) → R (.ok (.ret .none)) { s with heap := h', toks := tk }) :
    codeAny (model prog w) A (.call (.ref fI) ⟨[.ref x, .int i u1, .int j u2, .str y u3], []⟩) R s := by
  obtain ⟨oc, od, doc, pm, an, cda, cc, ct, osl, p0, p1, p2, p3, a0, a1, a2, a3, a4, a5, a6, a7, a8, a9, b4, q0, q1, q2, q3, r0, r1, r2, r3, s0, s1, s2, s3, ho, hcd, ⟨ccl, cdd, vs, ccs, file, tf, hcode, hvs, hfile⟩, cl, cld, csl, hcell⟩ := T.fn
  obtain ⟨nm, q, N, bs, bm, sn, sub, ab, col, dd, k0, k1, k2, k3, k5, hC, hbm⟩ := T.cls
  obtain ⟨hp, g, d, t, os⟩ := s
  replace X : K.In hp := X
  replace G : hp.Ns mainGlobals mg := G
  replace B : ∃ mb, hp.Ns builtinsNs mb ∧ ∀ z : Str, z ≠ "__name__" → mb z = bootBuiltins z := B
  replace hx : hp.get? x = some (excO C t0) := hx
  have hcl : clsIn K C = some { name := nm, bases := bs, mro := .ref C :: bm, ns := N, qualname := q, hasDict := true, slotNames := sn, subclasses := sub, abstract := ab, collection := col, hasDel := false } := by unfold clsIn; rw [hC] <;> rfl
  refine ks_codeAny_call_defAt (fd := ksFn "__init__" "TextError.__init__" (eA p0 p1 p2 p3) (eB (eJ a0 a1 a2 a3 a4 a5 a6 a7 a8 a9) b4 q0 q1 q2 q3 r0 r1 r2 r3 s0 s1 s2 s3) eS .none .none doc pm an (.ref cda) ct cc)
    (body := eB (eJ a0 a1 a2 a3 a4 a5 a6 a7 a8 a9) b4 q0 q1 q2 q3 r0 r1 r2 r3 s0 s1 s2 s3) (binds := [("self", .ref x), ("line", .int i u1), ("column", .int j u2), ("reason", .str y u3)])
    hroom (X _ _ ho) rfl hlim (codeRec_of X hcd) rfl (BindsTo.of_eq (by first | rfl | with_unfolding_all rfl)) (by show ∀ x ∈ eS.names, _; decide +kernel) ?hloc (fun h₁ hns hk => ?_)
  case hloc =>
    intro z hz
    show eS.names.lookup z.1 = some .local
    simp only [List.mem_cons, List.not_mem_nil, or_false] at hz
    have l1 : eS.names.lookup ("self" : Str) = some .local := by decide +kernel
    have l2 : eS.names.lookup ("line" : Str) = some .local := by decide +kernel
    have l3 : eS.names.lookup ("column" : Str) = some .local := by decide +kernel
    have l4 : eS.names.lookup ("reason" : Str) = some .local := by decide +kernel
    rcases hz with e | e | e | e <;> subst e <;> first | exact l1 | exact l2 | exact l3 | exact l4
  replace hk : ∀ b o, hp.get? b = some o → h₁.get? b = some o := hk
  have X₁ : K.In h₁ := X.keeps hk
  have hx₁ := hk _ _ hx
  have hL : hp.objs.size ≠ x := Nat.ne_of_gt (Heap.lt_size hx)
  let en : Env := ksEnv "TextError.__init__" eS hp.objs.size fI (.ref cda) cc
  have nS : h₁.Ns en.locals (fun z => ([("self", Value.ref x), ("line", .int i u1), ("column", .int j u2), ("reason", .str y u3)] : List (Str × Value)).reverse.lookup z) := hns
  generalize hm : (fun z : Str => [(("self" : Str), Value.ref x), ("line", .int i u1), ("column", .int j u2), ("reason", .str y u3)].reverse.lookup z) = m at nS
  have m0 : m "self" = some (.ref x) := by rw [← hm]; rfl
  have m1 : m "line" = some (.int i u1) := by rw [← hm]; rfl
  have m2 : m "column" = some (.int j u2) := by rw [← hm]; rfl
  have m3 : m "reason" = some (.str y u3) := by rw [← hm]; rfl
  show wpAt (model prog w) (A.deeper en) (.func _ en) (execs (eC (eJ a0 a1 a2 a3 a4 a5 a6 a7 a8 a9) b4 :: [eF "line" q0 q1 q2 q3, eF "column" r0 r1 r2 r3, eF "reason" s0 s1 s2 s3]) en) _ _ _
  refine ks_wpAt_execs_cons (ks_wpAt_Expr_any (ks_wpAt_MethodCall (ks_wpAt_super_base (env := en) (by first | rfl | kernel_rfl) (by first | rfl | kernel_rfl) (by decide) rfl (X₁ _ _ ho) rfl rfl rfl (X₁ _ _ hcode) rfl hvs hfile T.tp ?_)))
  have G₁ : h₁.Ns mainGlobals mg := G.keeps hk
  obtain ⟨mb, B1, B2⟩ := B
  refine ks_loadName_global rfl (by first | rfl | kernel_rfl) (loadGlobal_builtin (env := en) G₁ T.gS (B1.keeps hk) ((B2 "super" (by decide)).trans (by first | rfl | kernel_rfl)) ⟨rfl, ?_⟩)
  refine wpAny_loadName_free rfl (by first | rfl | kernel_rfl) rfl ⟨_, X₁ _ _ hcell, rfl⟩ ?_
  refine wpAny_loadName_local rfl (by first | rfl | kernel_rfl) nS m0 ?_
  have hC₁ := X₁ _ _ hC
  refine ks_wpAny_isType_cls hC₁ rfl ⟨rfl, ?_⟩
  refine ks_wpAny_call_super hC₁ rfl hx₁ rfl (fun c e => by cases e) (looks_mroIn X₁ T.sC) (fun h₂ e₂ k₂ => ?_)
  have X₂ : K.In h₂ := X₁.keeps k₂
  have hx₂ := k₂ _ _ hx₁
  have su := T.su
  unfold ks_superIn at su
  rw [hcl] at su
  have I₂ : InstAt h₂ x (excO C t0) C none := ⟨hx₂, rfl, rfl, trivial⟩
  refine kxs_getMethod kxs_ValueError e₂ (looks_opaque X₂ T.op) (l₀ := .ref C :: bm) (fun A Q E s k q => wpAny_bind ((looks_clsIn X₂ hcl) A _ E s k (wpAny_pure q))) rfl X₂ su (I₂.type.andThen (looks_subIn X₂ T.sB)) (ks_ne X₂ I₂ hcl) (by decide) ?_
  -- the call's argument
  have he : starEach (eJ a0 a1 a2 a3 a4 a5 a6 a7 a8 a9 :: []) en = (false, eval (eJ a0 a1 a2 a3 a4 a5 a6 a7 a8 a9) en) :: starEach [] en := by first | rfl | with_unfolding_all rfl
  show wpAny _ _ (callWith _ (.ref h₂.objs.size) [] (backTo _ (starEach (eJ a0 a1 a2 a3 a4 a5 a6 a7 a8 a9 :: []) en)) []) _ _ _
  rw [he]
  refine kxs_callWith (i := "ValueError.__init__") (x := x) rfl (evalArgs_plain (Calls.spliced_cons ?_))
  have k₃ : ∀ b o, h₁.get? b = some o → (h₂.push (kxs_mw "ValueError.__init__" x)).get? b = some o := fun b o e => Heap.get?_push_of_some _ (k₂ b o e)
  have e₃ : (h₂.push (kxs_mw "ValueError.__init__" x)).get? h₂.objs.size = some (kxs_mw "ValueError.__init__" x) := Heap.get?_push_at rfl rfl
  refine eval_joined (a9 := a9) (nS.keeps k₃) rfl (by first | rfl | kernel_rfl) (by first | rfl | kernel_rfl) (by first | rfl | kernel_rfl) m1 m2 m3 hi hj hz fun t1 t2 => ?_
  refine Calls.spliced_nil ⟨e₃, ?_⟩
  refine call_mw (k₃ _ _ hC₁) (k₃ _ _ hx₁) e₃ (by show 1 ≤ sizeLine; decide) fun h₄ t4 k₄ e₄ => ?_
  -- the fields
  have k14 : ∀ b o, b ≠ x → h₁.get? b = some o → h₄.get? b = some o := fun b o hb e => k₄ b o hb (k₃ b o e)
  have X₄ : K.In h₄ := PySem.TEX.kept_but X₁ hnx k14
  have nS₄ : h₄.Ns en.locals m := nS.at fun o e => k14 _ _ hL e
  show wpAt (model prog w) (A.deeper en) _ (execs (eF "line" q0 q1 q2 q3 :: [eF "column" r0 r1 r2 r3, eF "reason" s0 s1 s2 s3]) en) _ _ _
  refine wpAt_of_wpAny (wpAny_execs_cons (plainObj_wpAny_Assign_Attribute ?_))
  have w0 : en.kindOf "self" = some .local := by first | rfl | kernel_rfl
  have w1 : en.kindOf "line" = some .local := by first | rfl | kernel_rfl
  have w2 : en.kindOf "column" = some .local := by first | rfl | kernel_rfl
  have w3 : en.kindOf "reason" = some .local := by first | rfl | kernel_rfl
  refine ESX.ldL nS₄ m1 (ESX.ldL nS₄ m0 ?_ rfl w0) rfl w1
  have mro : refsVE (.ref C :: bm) = true := hbm
  refine set_plain X₄ (ox := excO C t4) (od := none) ⟨e₄, rfl, rfl, trivial⟩ T.sa ?_
  refine exc_osa X₄ e₄ hcl mro rfl T.n1 (fun h₅ tk₅ dx k₅ dn dne e₅ hn₅ => ?_)
  have hxs : x < hp.objs.size := Heap.lt_size hx
  have dbig : hp.objs.size < dx := by
    obtain ⟨oL, es, ep, hoL, _⟩ := nS₄
    exact Nat.lt_of_lt_of_le (Heap.lt_size hoL) dn
  have k15 : ∀ b o, b ≠ x → h₁.get? b = some o → h₅.get? b = some o := fun b o hb e => k₅ b o hb (k14 b o hb e)
  have X₅ : K.In h₅ := PySem.TEX.kept_but X₁ hnx k15
  have nS₅ : h₅.Ns en.locals m := nS.at fun o e => k15 _ _ hL e
  show wpAny (model prog w) (A.deeper en) (execs (eF "column" r0 r1 r2 r3 :: [eF "reason" s0 s1 s2 s3]) en) _ _ _
  refine wpAny_execs_cons (plainObj_wpAny_Assign_Attribute ?_)
  refine ESX.ldL nS₅ m2 (ESX.ldL nS₅ m0 ?_ rfl w0) rfl w2
  have wi1 : Within (fun y => if y = ("line" : Str) then some (Value.int i u1) else none) ["line"] := fun y hy => by
    by_cases e : y = ("line" : Str)
    · rw [e]; exact List.mem_cons_self
    · exact absurd (if_neg e) hy
  obtain ⟨oD, _, _, hoD, _, _⟩ := hn₅.count wi1
  refine set_plain X₅ (od := some oD) ⟨e₅, rfl, rfl, hoD⟩ T.sa ?_
  refine OEX.osa_old X₅ e₅ hn₅ wi1 (by decide) hcl mro rfl T.n2 (fun h₆ tk₆ k₆ hn₆ => ?_)
  have xdx : x ≠ dx := Ne.symm dne
  have Ldx : en.locals ≠ dx := Nat.ne_of_lt dbig
  have old : ∀ {b : Addr} {o : Obj}, hp.get? b = some o → b ≠ dx := fun {b o} e => Nat.ne_of_lt (Nat.lt_trans (Heap.lt_size e) dbig)
  have X₆ : K.In h₆ := fun a o e => k₆ a o (old (X a o e)) (X₅ a o e)
  have nS₆ : h₆.Ns en.locals m := nS₅.at fun o e => k₆ _ _ Ldx e
  have e₆ := k₆ _ _ xdx e₅
  show wpAny (model prog w) (A.deeper en) (execs (eF "reason" s0 s1 s2 s3 :: []) en) _ _ _
  refine wpAny_execs_cons (plainObj_wpAny_Assign_Attribute ?_)
  refine ESX.ldL nS₆ m3 (ESX.ldL nS₆ m0 ?_ rfl w0) rfl w3
  have wi2 : Within (fun y => if y = ("column" : Str) then some (Value.int j u2) else if y = ("line" : Str) then some (Value.int i u1) else none) ["column", "line"] := fun y hy => by
    by_cases e : y = ("column" : Str)
    · rw [e]; exact List.mem_cons_self
    · have q : (if y = ("line" : Str) then some (Value.int i u1) else none) ≠ none := fun z => hy ((if_neg e).trans z)
      exact List.mem_cons_of_mem _ (wi1 y q)
  obtain ⟨oE, _, _, hoE, _, _⟩ := hn₆.count wi2
  refine set_plain X₆ (od := some oE) ⟨e₆, rfl, rfl, hoE⟩ T.sa ?_
  refine OEX.osa_old X₆ e₆ hn₆ wi2 (by decide) hcl mro rfl T.n3 (fun h₇ tk₇ k₇ hn₇ => ?_)
  show wpAny _ _ (execs [] _) _ _ _
  refine wpAny_execs_nil (hq h₇ tk₇ dx t4 ⟨fun b o hb e => ?_, k₇ _ _ xdx e₆, Nat.le_of_lt dbig, dne, hn₇⟩)
  exact k₇ b o (old e) (k₆ b o (old e) (k15 b o hb (hk b o e)))
end
end TEX
end PySem

namespace PySem
namespace TEX
open PySem.W PySem.Calls PyProof.Rows PySem.HandSPX
structure Made (h h' : Heap) (e C d : Addr) (v1 v2 v3 : Value) : Prop where
  keep : ∀ b o, h.get? b = some o → h'.get? b = some o
  new : h.objs.size ≤ e
  obj : ∃ oe vs, h'.get? e = some oe ∧ oe.cls = .ref C ∧ oe.dict = some d ∧ oe.data = .fields vs ∧ vs[1]? = some .none
  dbig : h.objs.size ≤ d
  dne : d ≠ e
  ns : h'.Ns1 d (fm v1 v2 v3)
section
variable {prog : Program} {w : World} {A : Around} {E : Value → Shared → Prop} {R : Result → Shared → Prop} {s : Shared} {K : Frag} {mg : Str → Option Value} {C fI : Addr}
theorem te_made (T : Txt prog K mg C fI) {i j : Int} {y : Str} {u1 u2 u3 : Tok} (X : K.In s.heap) (G : s.heap.Ns mainGlobals mg) (B : ∃ mb, s.heap.Ns builtinsNs mb ∧ ∀ z : Str, z ≠ "__name__" → mb z = bootBuiltins z) (hlim : s.heap.NoLimit)
    (hroom : A.depth + 1 < recursionLimit) (hi : i.natAbs.log2 < 1920) (hj : j.natAbs.log2 < 1920) (hz : (joined i j y).length ≤ sizeLine)
    (hq : ∀ h' tk e d, Made s.heap h' e C d (.int i u1) (.int j u2) (.str y u3) → R (.ok (.ret (.ref e))) { s with heap := h', toks := tk }) :
    codeAny (model prog w) A (.call (.ref C) ⟨[.int i u1, .int j u2, .str y u3], []⟩) R s := by
  obtain ⟨nm, q, N, bs, bm, sn, sub, ab, col, dd, k0, k1, k2, k3, k5, hC, hbm⟩ := T.cls
  obtain ⟨hp, g, dr, tk, os⟩ := s
  have k : ∀ b o, hp.get? b = some o → ((hp.push (kdv_tup [.int i u1, .int j u2, .str y u3])).push (excO C hp.objs.size)).get? b = some o := fun b o e => Heap.get?_push_of_some _ (Heap.get?_push_of_some _ e)
  have hget : ((hp.push (kdv_tup [.int i u1, .int j u2, .str y u3])).push (excO C hp.objs.size)).get? (hp.objs.size + 1) = some (excO C hp.objs.size) := by heap_get
  have hnx : K.lookup (hp.objs.size + 1) = none := by
    cases e : K.lookup (hp.objs.size + 1) with
    | none => rfl
    | some o =>
      have z : hp.get? (hp.objs.size + 1) = some o := X _ _ e
      exact absurd (Nat.lt_of_succ_lt (Heap.lt_size z)) (Nat.lt_irrefl _)
  have l3 : ([.int i u1, .int j u2, .str y u3] : List Value).length ≤ sizeLine := by rw [sizeLine_eq]; exact (by decide : 3 ≤ 16777216)
  refine call_own F.excBase_ValueError (fun Z => refsVE_contains Z bm hbm) (X _ _ hC) (looks_findIn X T.iC) (fun self => bind_fn X self T.tC) l3 ?_
  obtain ⟨mb, b1, b2⟩ := B
  refine te_init (s := ⟨(hp.push (kdv_tup [.int i u1, .int j u2, .str y u3])).push (excO C hp.objs.size), g, dr, tk, os⟩) T (X.keeps k) (G.keeps k) ⟨mb, b1.keeps k, b2⟩ (hlim.keeps k) hget hnx ?_ hi hj hz fun h' tk' dx t1 ⟨k', hx, dn, dne, hns⟩ => ?_
  · show A.depth + 1 < recursionLimit
    exact hroom
  · have old : ∀ b o, hp.get? b = some o → h'.get? b = some o := fun b o e => k' b o (Nat.ne_of_lt (Nat.lt_succ_of_lt (Heap.lt_size e))) (k b o e)
    have z : hp.objs.size + 1 + 1 ≤ dx := by
      first
        | (simpa only [Heap.size_push] using dn)
        | exact dn
        | (have q := dn; rw [Heap.size_push, Heap.size_push] at q; exact q)
    exact ⟨rfl, hq h' tk' (hp.objs.size + 1) dx ⟨old, Nat.le_succ _, ⟨_, _, hx, rfl, rfl, rfl, rfl⟩, Nat.le_trans (Nat.le_trans (Nat.le_succ _) (Nat.le_succ _)) z, dne, hns⟩⟩
end
end TEX
end PySem
namespace Ev
open PySem PySem.Spec PyProof.Rows L2
/-- the fields of a made TextError -/
def teF : List D → Option (List (Str × D))
  | [.int i, .int j, .str y] => if i.natAbs.log2 < 1920 ∧ j.natAbs.log2 < 1920 ∧ (PySem.TEX.joined i j y).length ≤ sizeLine then some [("reason", .str y), ("column", .int j), ("line", .int i)] else none
  | _ => none
theorem teF_of {ds : List D} {gs : List (Str × D)} (h : teF ds = some gs) : ∃ (i j : Int) (y : Str), ds = [.int i, .int j, .str y] ∧ gs = ([("reason", .str y), ("column", .int j), ("line", .int i)] : List (Str × D)) ∧ i.natAbs.log2 < 1920 ∧ j.natAbs.log2 < 1920 ∧ (PySem.TEX.joined i j y).length ≤ sizeLine := by
  unfold teF at h
  split at h
  · rename_i i j y
    split at h
    · rename_i c
      exact ⟨i, j, y, rfl, (Option.some.inj h).symm, c⟩
    · cases h
  · cases h
theorem relO_te {a b c : V} {a' b' c' : Value} (r1 : RelV a a') (r2 : RelV b b') (r3 : RelV c c') (f : Str) : RelO (List.lookup f [(("reason" : Str), c), (("column" : Str), b), (("line" : Str), a)]) (PySem.TEX.fm a' b' c' f) := by
  rw [lookup_put, lookup_put, lookup_put]
  unfold PySem.TEX.fm
  by_cases h1 : f = "reason"
  · rw [if_pos h1, if_pos h1]; exact r3
  · rw [if_neg h1, if_neg h1]
    by_cases h2 : f = "column"
    · rw [if_pos h2, if_pos h2]; exact r2
    · rw [if_neg h2, if_neg h2]
      by_cases h3 : f = "line"
      · rw [if_pos h3, if_pos h3]; exact r1
      · rw [if_neg h3, if_neg h3]; exact True.intro
theorem mk_te {G : Gx} {sc : Scope} {X : Cx} {C fI : Addr} (T : PySem.TEX.Txt X.prog X.K X.mg C fI) (hs : X.env.scope = sc) (hr : Room 4 X.A) : MkR G sc C teF "TextError" X := by
  intro e es ta p pos ha hg he hpl pins s σ H Q I h
  have hg' : Gl X "TextError" := by
    unfold gN at hg
    simp only [Bool.and_eq_true, decide_eq_true_eq, Bool.not_eq_true'] at hg
    show X.env.scope.names.lookup _ = _
    rw [hs]; exact hg.1
  refine wpAny_Call_Name_kw (ld_glob I hg' T.gC ?_)
  refine PySem.W.callWith_K (h₀ := X.base) I.ok.mod.kin T.kC (thn (ha.run pos pins s σ H _ I h) fun us s1 hh => ?_) he (back_any hpl)
  obtain ⟨vs, H1, I1, r1, ds, gs, rd, ef, q1⟩ := hh
  refine ⟨I1.kIn, ?_⟩
  obtain ⟨i, j, y, rfl, rfl, hi, hj, hz⟩ := teF_of ef
  cases rd with
  | cons ra rd =>
    cases rd with
    | cons rb rd =>
      cases rd with
      | cons rc rd =>
        cases rd
        cases ra; cases rb; cases rc
        cases r1 with
        | cons qa r1 =>
          cases r1 with
          | cons qb r1 =>
            cases r1 with
            | cons qc r1 =>
              cases r1
              obtain ⟨u1, rfl⟩ := qa
              obtain ⟨u2, rfl⟩ := qb
              obtain ⟨u3, rfl⟩ := qc
              show wpAny _ _ (call (.ref C) [.int i u1, .int j u2, .str y u3]) _ _ _
              have hlim := I1.nolimit
              have hG : s1.heap.Ns mainGlobals X.mg := I1.mod.glob.keeps I1.bk
              have hB : ∃ mb, s1.heap.Ns builtinsNs mb ∧ ∀ z : Str, z ≠ "__name__" → mb z = bootBuiltins z := by
                obtain ⟨mb, h1, h2⟩ := I1.mod.blt
                exact ⟨mb, h1.keeps I1.bk, h2⟩
              obtain ⟨hp, g, dr, tk, os⟩ := s1
              refine wpAny_call (PySem.TEX.te_made T I1.kIn hG hB hlim (by have := hr.dp; omega) hi hj hz fun h' tk' e d M => ?_)
              show MkP X pins σ Q (.ref e) ⟨h', g, dr, tk', os⟩
              obtain ⟨oe, fv, hoe, hc, hd, hdat, h1⟩ := M.obj
              have hns := M.ns
              obtain ⟨G', g1, g2⟩ := restrict h' fun b => decide (b ≠ e)
              have gk : ∀ b, b ≠ e → G'.get? b = h'.get? b := fun b hb => g1 b (decide_eq_true hb)
              have ge : G'.get? e = none := g2 e (by simp)
              have old : ∀ b o, hp.get? b = some o → G'.get? b = some o := fun b o q => (gk b (Nat.ne_of_lt (Nat.lt_of_lt_of_le (Heap.lt_size q) M.new))).trans (M.keep b o q)
              have ob : ObjOk X.prog X.w (upd H1 d (.xd [(("reason" : Str), V.str y), ("column", .int j), ("line", .int i)])) G' d (.xd [(("reason" : Str), V.str y), ("column", .int j), ("line", .int i)]) :=
                ⟨_, hns.at (fun o q => (gk d M.dne).trans q), fun f => relO_te (a := V.int i) (b := V.int j) (c := V.str y) (a' := .int i u1) (b' := .int j u2) (c' := .str y u3) ⟨u1, rfl⟩ ⟨u2, rfl⟩ ⟨u3, rfl⟩ f⟩
              have J : Inv X pins σ (upd H1 d (.xd [(("reason" : Str), V.str y), ("column", .int j), ("line", .int i)])) ⟨G', g, dr, tk', os⟩ := I1.laid (t' := tk') old M.dbig ob
              refine ⟨e, oe, fv, ⟨G', g, dr, tk', os⟩, _, .ref C, some d, rfl, J, fun b o q => ?_, ge, hoe, ⟨hc, hd⟩, hdat, h1, ?_, rfl, I1.bare, raises_own T.exC T.tyC, q1 d _ (I1.hok.fresh M.dbig) fun F _ _ => ?_⟩
              · by_cases hb : b = e
                · have q' : G'.get? b = some o := q
                  rw [hb, ge] at q'; cases q'
                · exact (gk b hb).symm.trans q
              · rw [upd_ne (Ne.symm M.dne)]
                exact I1.hok.fresh M.new
              · exact .cons (.str y) (.cons (.int j) (.cons (.int i) .nil))
end Ev

namespace K00
open PySem PySem.Spec PyProof.Rows L2 Ev
def top (i : Nat) : Stmt := PySem.Challenge.pw_skewer_k00_tokens_of_a_line.main.body.getD i (.Pass ⟨0, 0, 0, 0⟩)
/-- tokens: names line number found at kind text -/
def N_tokens : List Str := ["line", "number", "found", "at", "kind", "text"]
def P_tokens : List Str := ["line", "number"]
def b_tokens : Ss :=
  (.cons (.set 2 (.lst .nil)) 
  (.cons (.set 3 (.k (.int 0))) 
  (.cons (.whl (.cmp .Lt (.var 3) (.blt "len" (.cons (.var 0) .nil))) 
    (.cons (.ifs (.cmp .Eq (.idxS 0 (.var 3)) (.k (.str " "))) 
      (.cons (.aug 3 .Add (.k (.int 1))) .nil) 
      (.cons (.unp [4, 5] (.call "token_at" (.cons (.var 0) (.cons (.var 1) (.cons (.var 3) .nil))))) 
      (.cons (.app 2 (.tup (.cons (.var 4) (.cons (.var 5) (.cons (.bin .Add (.var 3) (.k (.int 1))) .nil))))) 
      (.cons (.aug 3 .Add (.blt "len" (.cons (.var 5) .nil))) .nil)))) .nil)) 
  (.cons (.ret (.var 2)) .nil))))
abbrev s_tokens : Stmt := top 9
/-- token_at: names line number at first -/
def N_token_at : List Str := ["line", "number", "at", "first"]
def P_token_at : List Str := ["line", "number", "at"]
def b_token_at : Ss :=
  (.cons (.set 3 (.idxS 0 (.var 2))) 
  (.cons (.ifs (.cmp .In (.var 3) (.glob "SIGNS")) 
    (.cons (.ret (.tup (.cons (.k (.str "sign")) (.cons (.var 3) .nil)))) .nil) .nil) 
  (.cons (.ifs (.cmp .In (.var 3) (.glob "LETTERS")) 
    (.cons (.ret (.tup (.cons (.k (.str "word")) (.cons (.call "word_at" (.cons (.var 0) (.cons (.var 1) (.cons (.var 2) .nil)))) .nil)))) .nil) .nil) 
  (.cons (.ifs (.cmp .In (.var 3) (.glob "DIGITS")) 
    (.cons (.ret (.tup (.cons (.k (.str "number")) (.cons (.call "digits_at" (.cons (.var 0) (.cons (.var 1) (.cons (.var 2) .nil)))) .nil)))) .nil) .nil) 
  (.cons (.raise "TextError" (.cons (.var 1) (.cons (.bin .Add (.var 2) (.k (.int 1))) (.cons (.k (.str "character")) .nil)))) .nil)))))
abbrev s_token_at : Stmt := top 10
/-- word_at: names line number at word -/
def N_word_at : List Str := ["line", "number", "at", "word"]
def P_word_at : List Str := ["line", "number", "at"]
def b_word_at : Ss :=
  (.cons (.set 3 (.call "longest_row" (.cons (.var 0) (.cons (.var 2) (.cons (.glob "LETTERS") .nil))))) 
  (.cons (.ifs (.cmp .Gt (.blt "len" (.cons (.var 3) .nil)) (.glob "MOST_LETTERS")) 
    (.cons (.raise "TextError" (.cons (.var 1) (.cons (.bin .Add (.var 2) (.k (.int 1))) (.cons (.k (.str "word")) .nil)))) .nil) .nil) 
  (.cons (.ret (.var 3)) .nil)))
abbrev s_word_at : Stmt := top 11
/-- digits_at: names line number at digits -/
def N_digits_at : List Str := ["line", "number", "at", "digits"]
def P_digits_at : List Str := ["line", "number", "at"]
def b_digits_at : Ss :=
  (.cons (.set 3 (.call "longest_row" (.cons (.var 0) (.cons (.var 2) (.cons (.glob "DIGITS") .nil))))) 
  (.cons (.ifs (.or (.cmp .Gt (.blt "len" (.cons (.var 3) .nil)) (.glob "MOST_DIGITS")) (.and (.cmp .Eq (.idxS 3 (.k (.int 0))) (.k (.str "0"))) (.cmp .NotEq (.var 3) (.k (.str "0"))))) 
    (.cons (.raise "TextError" (.cons (.var 1) (.cons (.bin .Add (.var 2) (.k (.int 1))) (.cons (.k (.str "number")) .nil)))) .nil) .nil) 
  (.cons (.ret (.var 3)) .nil)))
abbrev s_digits_at : Stmt := top 12
/-- longest_row: names line at letters end -/
def N_longest_row : List Str := ["line", "at", "letters", "end"]
def P_longest_row : List Str := ["line", "at", "letters"]
def b_longest_row : Ss :=
  (.cons (.set 3 (.var 1)) 
  (.cons (.whl (.and (.cmp .Lt (.var 3) (.blt "len" (.cons (.var 0) .nil))) (.cmp .In (.idxS 0 (.var 3)) (.var 2))) 
    (.cons (.aug 3 .Add (.k (.int 1))) .nil)) 
  (.cons (.ret (.sl (.var 0) (.some (.var 1)) (.some (.var 3)))) .nil)))
abbrev s_longest_row : Stmt := top 13
/-- _law_state: names script -/
def N_law_state : List Str := ["script"]
def P_law_state : List Str := ["script"]
def b_law_state : Ss :=
  (.cons (.ret (.lst (.cons (.blt "list" (.cons (.var 0) .nil)) (.cons (.k (.int 0)) (.cons (.k (.int 0)) (.cons (.k (.int 1)) (.cons (.k (.int 0)) .nil))))))) .nil)
abbrev s_law_state : Stmt := top 15
/-- _law_draw: names state many value cell first -/
def N_law_draw : List Str := ["state", "many", "value", "cell", "first"]
def P_law_draw : List Str := ["state", "many"]
def b_law_draw : Ss :=
  (.cons (.ifs (.and (.cmp .Gt (.idxS 0 (.k (.int 4))) (.k (.int 0))) (.cmp .Gt (.idxS 0 (.k (.int 2))) (.k (.int 0)))) 
    (.cons (.set 2 (.bin .Mod (.blt "int" (.cons (.idxS 0 (.k (.int 2))) .nil)) (.var 1))) 
    (.cons (.put 0 (.k (.int 2)) (.bin .FloorDiv (.idxS 0 (.k (.int 2))) (.var 1))) 
    (.cons (.put 0 (.k (.int 4)) (.bin .Sub (.idxS 0 (.k (.int 4))) (.k (.int 1)))) 
    (.cons (.ret (.var 2)) .nil)))) .nil) 
  (.cons (.set 3 (.bin .Add (.idxS 0 (.k (.int 3))) (.bin .Mult (.k (.int 7919)) (.idxS 0 (.k (.int 1)))))) 
  (.cons (.ifs (.cmp .Lt (.idxS 0 (.k (.int 1))) (.blt "len" (.cons (.idxS 0 (.k (.int 0))) .nil))) 
    (.cons (.set 3 (.idx (.idxS 0 (.k (.int 0))) (.idxS 0 (.k (.int 1))))) .nil) .nil) 
  (.cons (.put 0 (.k (.int 1)) (.bin .Add (.idxS 0 (.k (.int 1))) (.k (.int 1)))) 
  (.cons (.ifs (.cmp .GtE (.var 3) (.bin .Pow (.k (.int 10)) (.k (.int 18)))) 
    (.cons (.put 0 (.k (.int 2)) (.bin .FloorDiv (.var 3) (.var 1))) 
    (.cons (.put 0 (.k (.int 4)) (.k (.int 60))) 
    (.cons (.ret (.bin .Mod (.blt "int" (.cons (.var 3) .nil)) (.var 1))) .nil))) .nil) 
  (.cons (.set 4 (.bin .Mod (.blt "int" (.cons (.bin .Add (.bin .Add (.bin .Mult (.var 3) (.k (.int 48271))) (.bin .Mult (.idxS 0 (.k (.int 1))) (.k (.int 69621)))) (.idxS 0 (.k (.int 3)))) .nil)) (.k (.int 2147483647)))) 
  (.cons (.put 0 (.k (.int 3)) (.bin .Mod (.blt "int" (.cons (.bin .Add (.bin .Add (.bin .Mult (.var 4) (.k (.int 16807))) (.bin .Mult (.var 4) (.var 4))) (.k (.int 11))) .nil)) (.k (.int 2147483629)))) 
  (.cons (.ret (.bin .Mod (.blt "int" (.cons (.bin .FloorDiv (.idxS 0 (.k (.int 3))) (.k (.int 3))) .nil)) (.var 1))) .nil))))))))
abbrev s_law_draw : Stmt := top 16
/-- _law_piece: names state pick word _law_turn -/
def N_law_piece : List Str := ["state", "pick", "word", "_law_turn"]
def P_law_piece : List Str := ["state"]
def b_law_piece : Ss :=
  (.cons (.set 1 (.call "_law_draw" (.io 0 (.cons (.k (.int 3)) .nil)))) 
  (.cons (.ifs (.cmp .Eq (.var 1) (.k (.int 0))) 
    (.cons (.set 2 (.k (.str ""))) 
    (.cons (.for_ [3] true (.rng1 (.bin .Add (.k (.int 1)) (.call "_law_draw" (.io 0 (.cons (.k (.int 12)) .nil))))) 
      (.cons (.set 2 (.bin .Add (.var 2) (.idx (.k (.str "abcdefghijklmnopqrstuvwxyz")) (.call "_law_draw" (.io 0 (.cons (.k (.int 26)) .nil)))))) .nil)) 
    (.cons (.ret (.tup (.cons (.k (.str "word")) (.cons (.var 2) .nil)))) .nil))) .nil) 
  (.cons (.ifs (.cmp .Eq (.var 1) (.k (.int 1))) 
    (.cons (.ret (.tup (.cons (.k (.str "number")) (.cons (.blt "str" (.cons (.idx (.lst (.cons (.call "_law_draw" (.io 0 (.cons (.k (.int 30)) .nil))) (.cons (.bin .Sub (.k (.int 999999)) (.call "_law_draw" (.io 0 (.cons (.k (.int 9)) .nil)))) (.cons (.k (.int 0)) .nil)))) (.call "_law_draw" (.io 0 (.cons (.k (.int 3)) .nil)))) .nil)) .nil)))) .nil) .nil) 
  (.cons (.ret (.tup (.cons (.k (.str "sign")) (.cons (.idx (.lst (.cons (.k (.str "=")) (.cons (.k (.str ";")) (.cons (.k (.str ",")) (.cons (.k (.str "(")) (.cons (.k (.str ")")) .nil)))))) (.call "_law_draw" (.io 0 (.cons (.k (.int 5)) .nil)))) .nil)))) .nil))))
abbrev s_law_piece : Stmt := top 17
/-- _law_wrong: names state rows -/
def N_law_wrong : List Str := ["state", "rows"]
def P_law_wrong : List Str := ["state"]
def b_law_wrong : Ss :=
  (.cons (.set 1 (.lst (.cons (.tup (.cons (.k (.str "character")) (.cons (.k (.str "A")) .nil))) (.cons (.tup (.cons (.k (.str "character")) (.cons (.k (.str "-")) .nil))) (.cons (.tup (.cons (.k (.str "character")) (.cons (.k (.str "|")) .nil))) (.cons (.tup (.cons (.k (.str "word")) (.cons (.k (.str "abcdefghijklm")) .nil))) (.cons (.tup (.cons (.k (.str "number")) (.cons (.k (.str "00")) .nil))) .nil))))))) 
  (.cons (.set 1 (.bin .Add (.var 1) (.lst (.cons (.tup (.cons (.k (.str "number")) (.cons (.k (.str "01")) .nil))) (.cons (.tup (.cons (.k (.str "number")) (.cons (.k (.str "1000000")) .nil))) .nil))))) 
  (.cons (.ret (.idxS 1 (.call "_law_draw" (.io 0 (.cons (.k (.int 7)) .nil))))) .nil)))
abbrev s_law_wrong : Stmt := top 18
/-- _law_told: names line number error -/
def N_law_told : List Str := ["line", "number", "error"]
def P_law_told : List Str := ["line", "number"]
def b_law_told : Ss :=
  (.cons (.try_ 
    (.cons (.ret (.call "tokens" (.cons (.var 0) (.cons (.var 1) .nil)))) .nil) (.as "TextError" 2 
    (.cons (.ret (.tup (.cons (.xat 2 "line") (.cons (.xat 2 "column") (.cons (.xat 2 "reason") .nil))))) .nil) (.one "SkewerError" 
    (.cons (.ret (.k .non)) .nil) .nil))) .nil)
abbrev s_law_told : Stmt := top 19
/-- law: names script state pieces _law_turn number at line due k kind text -/
def N_law : List Str := ["script", "state", "pieces", "_law_turn", "number", "at", "line", "due", "k", "kind", "text"]
def P_law : List Str := ["script"]
def b_law : Ss :=
  (.cons (.set 1 (.call "_law_state" (.cons (.var 0) .nil))) 
  (.cons (.setC 2 "_law_turn" 3 (.call "_law_piece" (.io 1 .nil)) (.rng1 (.call "_law_draw" (.io 1 (.cons (.k (.int 9)) .nil))))) 
  (.cons (.set 4 (.bin .Add (.k (.int 1)) (.call "_law_draw" (.io 1 (.cons (.k (.int 90)) .nil))))) 
  (.cons (.set 5 (.neg (.k (.int 1)))) 
  (.cons (.ifs (.cmp .Eq (.call "_law_draw" (.io 1 (.cons (.k (.int 2)) .nil))) (.k (.int 0))) 
    (.cons (.set 5 (.call "_law_draw" (.io 1 (.cons (.bin .Add (.blt "len" (.cons (.var 2) .nil)) (.k (.int 1))) .nil)))) 
    (.cons (.set 2 (.bin .Add (.bin .Add (.sl (.var 2) .none (.some (.var 5))) (.lst (.cons (.call "_law_wrong" (.io 1 .nil)) .nil))) (.sl (.var 2) (.some (.var 5)) .none))) .nil)) .nil) 
  (.cons (.set 6 (.bin .Mult (.k (.str " ")) (.call "_law_draw" (.io 1 (.cons (.k (.int 3)) .nil))))) 
  (.cons (.set 7 (.lst .nil)) 
  (.cons (.for_ [8] true (.rng1 (.blt "len" (.cons (.var 2) .nil))) 
    (.cons (.unp [9, 10] (.idxS 2 (.var 8))) 
    (.cons (.ifs (.cmp .Eq (.var 8) (.var 5)) 
      (.cons (.set 7 (.tup (.cons (.var 4) (.cons (.bin .Add (.blt "len" (.cons (.var 6) .nil)) (.k (.int 1))) (.cons (.var 9) .nil))))) .nil) 
      (.cons (.ifs (.tr (.isl 7)) 
        (.cons (.app 7 (.tup (.cons (.var 9) (.cons (.var 10) (.cons (.bin .Add (.blt "len" (.cons (.var 6) .nil)) (.k (.int 1))) .nil))))) .nil) .nil) .nil)) 
    (.cons (.set 6 (.bin .Add (.bin .Add (.var 6) (.var 10)) (.bin .Mult (.k (.str " ")) (.call "_law_draw" (.io 1 (.cons (.k (.int 3)) .nil)))))) 
    (.cons (.ifs (.and (.cmp .Lt (.bin .Add (.var 8) (.k (.int 1))) (.blt "len" (.cons (.var 2) .nil))) (.and (.cmp .NotEq (.idx (.idxS 2 (.bin .Add (.var 8) (.k (.int 1)))) (.k (.int 0))) (.k (.str "sign"))) (.and (.cmp .NotEq (.var 9) (.k (.str "sign"))) (.cmp .NotEq (.idxS 6 (.neg (.k (.int 1)))) (.k (.str " ")))))) 
      (.cons (.set 6 (.bin .Add (.var 6) (.k (.str " ")))) .nil) .nil) .nil))))) 
  (.cons (.ret (.cmp .Eq (.call "_law_told" (.cons (.var 6) (.cons (.var 4) .nil))) (.var 7))) .nil)))))))))
abbrev s_law : Stmt := top 20
def tab : Tab := [("tokens", 6, 2, b_tokens),
  ("token_at", 4, 3, b_token_at),
  ("word_at", 4, 3, b_word_at),
  ("digits_at", 4, 3, b_digits_at),
  ("longest_row", 4, 3, b_longest_row),
  ("_law_state", 1, 1, b_law_state),
  ("_law_draw", 5, 2, b_law_draw),
  ("_law_piece", 4, 1, b_law_piece),
  ("_law_wrong", 2, 1, b_law_wrong),
  ("_law_told", 3, 2, b_law_told),
  ("law", 11, 1, b_law)]
theorem cB_tokens : fnB N_tokens P_tokens s_tokens b_tokens = true := by decide +kernel
theorem cB_token_at : fnB N_token_at P_token_at s_token_at b_token_at = true := by decide +kernel
theorem cB_word_at : fnB N_word_at P_word_at s_word_at b_word_at = true := by decide +kernel
theorem cB_digits_at : fnB N_digits_at P_digits_at s_digits_at b_digits_at = true := by decide +kernel
theorem cB_longest_row : fnB N_longest_row P_longest_row s_longest_row b_longest_row = true := by decide +kernel
theorem cB_law_state : fnB N_law_state P_law_state s_law_state b_law_state = true := by decide +kernel
theorem cB_law_draw : fnB N_law_draw P_law_draw s_law_draw b_law_draw = true := by decide +kernel
theorem cB_law_piece : fnB N_law_piece P_law_piece s_law_piece b_law_piece = true := by decide +kernel
theorem cB_law_wrong : fnB N_law_wrong P_law_wrong s_law_wrong b_law_wrong = true := by decide +kernel
theorem cB_law_told : fnB N_law_told P_law_told s_law_told b_law_told = true := by decide +kernel
theorem cB_law : fnB N_law P_law s_law b_law = true := by decide +kernel
/-- the constants -/
def gl (x : Str) : Option D := if x = "LETTERS" then some (.str "abcdefghijklmnopqrstuvwxyz") else if x = "MOST_LETTERS" then some (.int 12) else if x = "DIGITS" then some (.str "0123456789") else if x = "SIGNS" then some (.str "=;,()") else if x = "MOST_DIGITS" then some (.int 6) else none
/-- the program -/
def pgEx (x : Str) : Option (List D → Option (List (Str × D))) := if x = "TextError" then some teF else none
def pgXm (x y : Str) : Option Bool := if x = "TextError" ∧ y = "TextError" then some true else none
def pgXs (x : Str) : List Str := if x = "TextError" then ["line", "column", "reason"] else []
def pgXh (x : Str) : Bool := decide (x = "TextError") || decide (x = "SkewerError")
def Pg0 : Pg where
  fs := fun _ => none
  gl := gl
  ex := pgEx
  xm := pgXm
  xs := pgXs
  xh := pgXh
  cur := none
  fuel := 4096
  calm := true
  io := []
def ctE (C : Addr) (x : Str) : Option Addr := if x = "TextError" then some C else none
abbrev prog : Program := PySem.Challenge.pw_skewer_k00_tokens_of_a_line
abbrev sInit : Stmt := L2.inClass (top 2) 0
/-- the law's promise -/
def spLaw (K : PySem.W.Frag) : Sp := fun vs H Q _ => ∃ (a : Addr) (ns : List Int), vs = [.ref a] ∧ SqL K H a (ns.map V.int) ∧ ns.length ≤ 63 ∧ ∀ H', Q (.bl true) H'
theorem reps_ints {G : Gx} {F : Hp} : ∀ ns : List Int, Reps G F (ns.map V.int) (ns.map D.int)
  | [] => .nil
  | n :: ns => .cons (.int n) (reps_ints ns)
theorem exm_of {K : PySem.W.Frag} {S T : Addr} {b : Bool} (h1 : PySem.W.subIn K (.ref S) (.type "BaseException") = some true) (h2 : PySem.W.isClsIn K S = true) (h3 : PySem.W.typeIn K (.ref S) = some (.type "type")) (h5 : PySem.W.subIn K (.ref T) (.type "BaseException") = some true) (h6 : PySem.W.isClsIn K T = true) (h7 : PySem.W.typeIn K (.ref T) = some (.type "type")) (h4 : PySem.W.subIn K (.ref S) (.ref T) = some b) :
    PySem.W.exmOne K (.ref S) (.ref T) = some b := by
  have e1 : (PySem.W.subIn K (.ref T) (.type "BaseException") == some true) = true := by rw [h5] <;> rfl
  have e2 : ((PySem.W.clsIn K T).isSome && PySem.W.typeIn K (.ref T) == some (.type "type")) = true := by
    have h2' : (PySem.W.clsIn K T).isSome = true := h6
    rw [h2', h7] <;> rfl
  show (if (PySem.W.subIn K (.ref T) (.type "BaseException") == some true) = true then (if ((PySem.W.clsIn K T).isSome && PySem.W.typeIn K (.ref T) == some (.type "type")) = true then PySem.W.subIn K (.ref S) (.ref T) else none) else none) = some b
  rw [if_pos e1, if_pos e2]
  exact h4
theorem all_mk {w : World} {K : PySem.W.Frag} {h : Heap} {mg : Str → Option Value} {fa C C2 fI cda cc f_tokens f_token_at f_word_at f_digits_at f_longest_row f_law_state f_law_draw f_law_piece f_law_wrong f_law_told f_law : Addr} (law_ok : ∀ ns : List Int, ns.length ≤ 63 → runF { Pg0 with fs := sems Pg0 tab 12 } N_law.length 1 b_law [⟨.lst (ns.map D.int), false⟩] = .ok (fz (.bl true)) []) (X : K.In h) (G : h.Ns mainGlobals mg) (hfa : mg "law" = some (.ref fa))
    {od_tokens an_tokens od_token_at an_token_at od_word_at an_word_at od_digits_at an_digits_at od_longest_row an_longest_row od_law_state an_law_state od_law_draw an_law_draw od_law_piece an_law_piece od_law_wrong an_law_wrong od_law_told an_law_told od_law an_law odI anI cdd cld dd : Option Addr} {sl_tokens sl_token_at sl_word_at sl_digits_at sl_longest_row sl_law_state sl_law_draw sl_law_piece sl_law_wrong sl_law_told sl_law slI ccs csl : Array (Option Value)} {oc_tokens kV_tokens dc_tokens pm_tokens cd_tokens ct_tokens oc_token_at kV_token_at dc_token_at pm_token_at cd_token_at ct_token_at oc_word_at kV_word_at dc_word_at pm_word_at cd_word_at ct_word_at oc_digits_at kV_digits_at dc_digits_at pm_digits_at cd_digits_at ct_digits_at oc_longest_row kV_longest_row dc_longest_row pm_longest_row cd_longest_row ct_longest_row oc_law_state kV_law_state dc_law_state pm_law_state cd_law_state ct_law_state oc_law_draw kV_law_draw dc_law_draw pm_law_draw cd_law_draw ct_law_draw oc_law_piece kV_law_piece dc_law_piece pm_law_piece cd_law_piece ct_law_piece oc_law_wrong kV_law_wrong dc_law_wrong pm_law_wrong cd_law_wrong ct_law_wrong oc_law_told kV_law_told dc_law_told pm_law_told cd_law_told ct_law_told oc_law kV_law dc_law pm_law cd_law ct_law ocI dcI pmI ctI ccl cl : Value} {t_LETTERS t_MOST_LETTERS t_DIGITS t_SIGNS t_MOST_DIGITS tf : Tok} {vs : Array Value}
    {nm qn : Str} {Nx : Addr} {bs : List Value} {sn : List Str} {sub : List Value} {ab : Bool} {col : Option Bool} {m0 m1 m2 m3 m5 : Option Value}
    (a_tokens : PySem.W.nsIn K mainGlobals "tokens" = some (some (.ref f_tokens)))
    (l_tokens : K.lookup f_tokens = some ⟨oc_tokens, od_tokens, .func (PySem.W.fnOf "tokens" "tokens" (defArgs s_tokens) (defBody s_tokens) (defScope s_tokens) .none kV_tokens dc_tokens pm_tokens an_tokens cd_tokens ct_tokens), sl_tokens⟩)
    (c_tokens : PySem.W.codeIn K cd_tokens "tokens" = true)
    (k_tokens : PySem.W.keepIn K (.ref f_tokens) = true)
    (a_token_at : PySem.W.nsIn K mainGlobals "token_at" = some (some (.ref f_token_at)))
    (l_token_at : K.lookup f_token_at = some ⟨oc_token_at, od_token_at, .func (PySem.W.fnOf "token_at" "token_at" (defArgs s_token_at) (defBody s_token_at) (defScope s_token_at) .none kV_token_at dc_token_at pm_token_at an_token_at cd_token_at ct_token_at), sl_token_at⟩)
    (c_token_at : PySem.W.codeIn K cd_token_at "token_at" = true)
    (k_token_at : PySem.W.keepIn K (.ref f_token_at) = true)
    (a_word_at : PySem.W.nsIn K mainGlobals "word_at" = some (some (.ref f_word_at)))
    (l_word_at : K.lookup f_word_at = some ⟨oc_word_at, od_word_at, .func (PySem.W.fnOf "word_at" "word_at" (defArgs s_word_at) (defBody s_word_at) (defScope s_word_at) .none kV_word_at dc_word_at pm_word_at an_word_at cd_word_at ct_word_at), sl_word_at⟩)
    (c_word_at : PySem.W.codeIn K cd_word_at "word_at" = true)
    (k_word_at : PySem.W.keepIn K (.ref f_word_at) = true)
    (a_digits_at : PySem.W.nsIn K mainGlobals "digits_at" = some (some (.ref f_digits_at)))
    (l_digits_at : K.lookup f_digits_at = some ⟨oc_digits_at, od_digits_at, .func (PySem.W.fnOf "digits_at" "digits_at" (defArgs s_digits_at) (defBody s_digits_at) (defScope s_digits_at) .none kV_digits_at dc_digits_at pm_digits_at an_digits_at cd_digits_at ct_digits_at), sl_digits_at⟩)
    (c_digits_at : PySem.W.codeIn K cd_digits_at "digits_at" = true)
    (k_digits_at : PySem.W.keepIn K (.ref f_digits_at) = true)
    (a_longest_row : PySem.W.nsIn K mainGlobals "longest_row" = some (some (.ref f_longest_row)))
    (l_longest_row : K.lookup f_longest_row = some ⟨oc_longest_row, od_longest_row, .func (PySem.W.fnOf "longest_row" "longest_row" (defArgs s_longest_row) (defBody s_longest_row) (defScope s_longest_row) .none kV_longest_row dc_longest_row pm_longest_row an_longest_row cd_longest_row ct_longest_row), sl_longest_row⟩)
    (c_longest_row : PySem.W.codeIn K cd_longest_row "longest_row" = true)
    (k_longest_row : PySem.W.keepIn K (.ref f_longest_row) = true)
    (a_law_state : PySem.W.nsIn K mainGlobals "_law_state" = some (some (.ref f_law_state)))
    (l_law_state : K.lookup f_law_state = some ⟨oc_law_state, od_law_state, .func (PySem.W.fnOf "_law_state" "_law_state" (defArgs s_law_state) (defBody s_law_state) (defScope s_law_state) .none kV_law_state dc_law_state pm_law_state an_law_state cd_law_state ct_law_state), sl_law_state⟩)
    (c_law_state : PySem.W.codeIn K cd_law_state "_law_state" = true)
    (k_law_state : PySem.W.keepIn K (.ref f_law_state) = true)
    (a_law_draw : PySem.W.nsIn K mainGlobals "_law_draw" = some (some (.ref f_law_draw)))
    (l_law_draw : K.lookup f_law_draw = some ⟨oc_law_draw, od_law_draw, .func (PySem.W.fnOf "_law_draw" "_law_draw" (defArgs s_law_draw) (defBody s_law_draw) (defScope s_law_draw) .none kV_law_draw dc_law_draw pm_law_draw an_law_draw cd_law_draw ct_law_draw), sl_law_draw⟩)
    (c_law_draw : PySem.W.codeIn K cd_law_draw "_law_draw" = true)
    (k_law_draw : PySem.W.keepIn K (.ref f_law_draw) = true)
    (a_law_piece : PySem.W.nsIn K mainGlobals "_law_piece" = some (some (.ref f_law_piece)))
    (l_law_piece : K.lookup f_law_piece = some ⟨oc_law_piece, od_law_piece, .func (PySem.W.fnOf "_law_piece" "_law_piece" (defArgs s_law_piece) (defBody s_law_piece) (defScope s_law_piece) .none kV_law_piece dc_law_piece pm_law_piece an_law_piece cd_law_piece ct_law_piece), sl_law_piece⟩)
    (c_law_piece : PySem.W.codeIn K cd_law_piece "_law_piece" = true)
    (k_law_piece : PySem.W.keepIn K (.ref f_law_piece) = true)
    (a_law_wrong : PySem.W.nsIn K mainGlobals "_law_wrong" = some (some (.ref f_law_wrong)))
    (l_law_wrong : K.lookup f_law_wrong = some ⟨oc_law_wrong, od_law_wrong, .func (PySem.W.fnOf "_law_wrong" "_law_wrong" (defArgs s_law_wrong) (defBody s_law_wrong) (defScope s_law_wrong) .none kV_law_wrong dc_law_wrong pm_law_wrong an_law_wrong cd_law_wrong ct_law_wrong), sl_law_wrong⟩)
    (c_law_wrong : PySem.W.codeIn K cd_law_wrong "_law_wrong" = true)
    (k_law_wrong : PySem.W.keepIn K (.ref f_law_wrong) = true)
    (a_law_told : PySem.W.nsIn K mainGlobals "_law_told" = some (some (.ref f_law_told)))
    (l_law_told : K.lookup f_law_told = some ⟨oc_law_told, od_law_told, .func (PySem.W.fnOf "_law_told" "_law_told" (defArgs s_law_told) (defBody s_law_told) (defScope s_law_told) .none kV_law_told dc_law_told pm_law_told an_law_told cd_law_told ct_law_told), sl_law_told⟩)
    (c_law_told : PySem.W.codeIn K cd_law_told "_law_told" = true)
    (k_law_told : PySem.W.keepIn K (.ref f_law_told) = true)
    (a_law : PySem.W.nsIn K mainGlobals "law" = some (some (.ref f_law)))
    (l_law : K.lookup f_law = some ⟨oc_law, od_law, .func (PySem.W.fnOf "law" "law" (defArgs s_law) (defBody s_law) (defScope s_law) .none kV_law dc_law pm_law an_law cd_law ct_law), sl_law⟩)
    (c_law : PySem.W.codeIn K cd_law "law" = true)
    (k_law : PySem.W.keepIn K (.ref f_law) = true)
    (z_len : PySem.W.nsIn K mainGlobals "len" = some none)
    (z_list : PySem.W.nsIn K mainGlobals "list" = some none)
    (z_int : PySem.W.nsIn K mainGlobals "int" = some none)
    (z_str : PySem.W.nsIn K mainGlobals "str" = some none)
    (z_range : PySem.W.nsIn K mainGlobals "range" = some none)
    (z_isinstance : PySem.W.nsIn K mainGlobals "isinstance" = some none)
    (z_sorted : PySem.W.nsIn K mainGlobals "sorted" = some none)
    (z_all : PySem.W.nsIn K mainGlobals "all" = some none)
    (z_any : PySem.W.nsIn K mainGlobals "any" = some none)
    (z_tuple : PySem.W.nsIn K mainGlobals "tuple" = some none)
    (z_set : PySem.W.nsIn K mainGlobals "set" = some none)
    (z_zip : PySem.W.nsIn K mainGlobals "zip" = some none)
    (z_enumerate : PySem.W.nsIn K mainGlobals "enumerate" = some none)
    (z_reversed : PySem.W.nsIn K mainGlobals "reversed" = some none)
    (z_min : PySem.W.nsIn K mainGlobals "min" = some none)
    (z_max : PySem.W.nsIn K mainGlobals "max" = some none)
    (z_sum : PySem.W.nsIn K mainGlobals "sum" = some none)
    (z_super : PySem.W.nsIn K mainGlobals "super" = some none)
    (g_LETTERS : PySem.W.nsIn K mainGlobals "LETTERS" = some (some (.str ("abcdefghijklmnopqrstuvwxyz" : Str) t_LETTERS)))
    (g_MOST_LETTERS : PySem.W.nsIn K mainGlobals "MOST_LETTERS" = some (some (.int 12 t_MOST_LETTERS)))
    (g_DIGITS : PySem.W.nsIn K mainGlobals "DIGITS" = some (some (.str ("0123456789" : Str) t_DIGITS)))
    (g_SIGNS : PySem.W.nsIn K mainGlobals "SIGNS" = some (some (.str ("=;,()" : Str) t_SIGNS)))
    (g_MOST_DIGITS : PySem.W.nsIn K mainGlobals "MOST_DIGITS" = some (some (.int 6 t_MOST_DIGITS)))
    (aC : PySem.W.nsIn K mainGlobals "TextError" = some (some (.ref C)))
    (aS : PySem.W.nsIn K mainGlobals "SkewerError" = some (some (.ref C2)))
    (xC : K.lookup C = some (excClassObj nm qn C Nx bs [.ref C2, .type "ValueError", .type "Exception", .type "BaseException", .type "object"] true sn sub ab col dd m0 m1 m2 m3 m5 "ValueError.__new__"))
    (sa : PySem.W.findIn K (.ref C) "__setattr__" = some (some (.builtin "object.__setattr__")))
    (n1 : PySem.W.findIn K (.ref C) "line" = some none)
    (n2 : PySem.W.findIn K (.ref C) "column" = some none)
    (n3 : PySem.W.findIn K (.ref C) "reason" = some none)
    (iC : PySem.W.findIn K (.ref C) "__init__" = some (some (.ref fI)))
    (tI : PySem.W.typeIn K (.ref fI) = some (.type "function"))
    (kC : PySem.W.keepIn K (.ref C) = true)
    (eC : PySem.W.subIn K (.ref C) (.type "BaseException") = some true)
    (tC : PySem.W.typeIn K (.ref C) = some (.type "type"))
    (su : PySem.W.ks_superIn K C C "__init__" = some (some (.builtin "ValueError.__init__")))
    (sB : PySem.W.subIn K (.ref C) (.type "ValueError") = some true)
    (sC : PySem.W.mroIn K C (.ref C) = some true)
    (op : PySem.W.nsIn K cStatics "thirdparty.any" = some none)
    (lI : K.lookup fI = some ⟨ocI, odI, .func (PySem.W.ksFn "__init__" "TextError.__init__" (defArgs sInit) (defBody sInit) (defScope sInit) .none .none dcI pmI anI (.ref cda) ctI cc), slI⟩)
    (cI : PySem.W.codeIn K (.ref cda) "TextError.__init__" = true)
    (lD : K.lookup cda = some ⟨ccl, cdd, .fields vs, ccs⟩)
    (vD : vs[2]? = some (.str (prog.main.file : Str) tf))
    (lc : K.lookup cc = some ⟨cl, cld, .cell (some (.ref C)), csl⟩)
    (ga : PySem.W.findIn K (.ref C) "__getattribute__" = some (some (.builtin "BaseException.__getattribute__")))
    (gg : PySem.W.findIn K (.ref C) "__getattr__" = some none)
    (hd : PySem.W.hasDictIn K C = true)
    (ic : PySem.W.isClsIn K C = true)
    (sS : PySem.W.subIn K (.ref C) (.ref C) = some true) :
    ∃ fd : FuncData, (∀ (s : Shared) (v : Value), BindsTo s fd ⟨[v], []⟩ [("script", v)]) ∧ ∀ base : Heap, K.In base → base.Ns mainGlobals mg → FnOk prog w K mg base (L2.CX prog w) 17 fa fd ["script"] (spLaw K) := by
  have e := hfa.symm.trans (PySem.W.mg_of X G a_law)
  cases e
  have T : PySem.TEX.Txt prog K mg C fI :=
    { gC := PySem.W.mg_of X G aC, gS := PySem.W.mg_none_of X G z_super, cls := ⟨nm, qn, Nx, bs, _, sn, sub, ab, col, dd, m0, m1, m2, m3, m5, xC, rfl⟩, sa := sa, n1 := n1, n2 := n2, n3 := n3, iC := iC, tC := tI, kC := kC, exC := eC, tyC := tC,
      su := su, sB := sB, sC := sC, op := op, tp := by decide +kernel,
      fn := ⟨ocI, odI, dcI, pmI, anI, cda, cc, ctI, slI, _, _, _, _, _, _, _, _, _, _, _, _, _, _, _, _, _, _, _, _, _, _, _, _, _, _, _, lI, cI, ⟨ccl, cdd, vs, ccs, _, tf, lD, vD, beq_self_eq_true _⟩, cl, cld, csl, lc⟩ }
  let Gg : Gx := { K := K, ct := ctE C }
  have F_tokens := fun_mk (st := s_tokens) l_tokens c_tokens k_tokens
  have B_tokens := F_tokens.binds (ps := P_tokens) fun _ _ _ _ _ _ us hl => match us, hl with | [_, _], _ => rfl
  have D_tokens : Def Gg mg ("tokens", N_tokens.length, 2, b_tokens) := ⟨N_tokens, P_tokens, s_tokens, _, _, "tokens", F_tokens, PySem.W.mg_of X G a_tokens, B_tokens, cB_tokens, rfl, rfl⟩
  have F_token_at := fun_mk (st := s_token_at) l_token_at c_token_at k_token_at
  have B_token_at := F_token_at.binds (ps := P_token_at) fun _ _ _ _ _ _ us hl => match us, hl with | [_, _, _], _ => rfl
  have D_token_at : Def Gg mg ("token_at", N_token_at.length, 3, b_token_at) := ⟨N_token_at, P_token_at, s_token_at, _, _, "token_at", F_token_at, PySem.W.mg_of X G a_token_at, B_token_at, cB_token_at, rfl, rfl⟩
  have F_word_at := fun_mk (st := s_word_at) l_word_at c_word_at k_word_at
  have B_word_at := F_word_at.binds (ps := P_word_at) fun _ _ _ _ _ _ us hl => match us, hl with | [_, _, _], _ => rfl
  have D_word_at : Def Gg mg ("word_at", N_word_at.length, 3, b_word_at) := ⟨N_word_at, P_word_at, s_word_at, _, _, "word_at", F_word_at, PySem.W.mg_of X G a_word_at, B_word_at, cB_word_at, rfl, rfl⟩
  have F_digits_at := fun_mk (st := s_digits_at) l_digits_at c_digits_at k_digits_at
  have B_digits_at := F_digits_at.binds (ps := P_digits_at) fun _ _ _ _ _ _ us hl => match us, hl with | [_, _, _], _ => rfl
  have D_digits_at : Def Gg mg ("digits_at", N_digits_at.length, 3, b_digits_at) := ⟨N_digits_at, P_digits_at, s_digits_at, _, _, "digits_at", F_digits_at, PySem.W.mg_of X G a_digits_at, B_digits_at, cB_digits_at, rfl, rfl⟩
  have F_longest_row := fun_mk (st := s_longest_row) l_longest_row c_longest_row k_longest_row
  have B_longest_row := F_longest_row.binds (ps := P_longest_row) fun _ _ _ _ _ _ us hl => match us, hl with | [_, _, _], _ => rfl
  have D_longest_row : Def Gg mg ("longest_row", N_longest_row.length, 3, b_longest_row) := ⟨N_longest_row, P_longest_row, s_longest_row, _, _, "longest_row", F_longest_row, PySem.W.mg_of X G a_longest_row, B_longest_row, cB_longest_row, rfl, rfl⟩
  have F_law_state := fun_mk (st := s_law_state) l_law_state c_law_state k_law_state
  have B_law_state := F_law_state.binds (ps := P_law_state) fun _ _ _ _ _ _ us hl => match us, hl with | [_], _ => rfl
  have D_law_state : Def Gg mg ("_law_state", N_law_state.length, 1, b_law_state) := ⟨N_law_state, P_law_state, s_law_state, _, _, "_law_state", F_law_state, PySem.W.mg_of X G a_law_state, B_law_state, cB_law_state, rfl, rfl⟩
  have F_law_draw := fun_mk (st := s_law_draw) l_law_draw c_law_draw k_law_draw
  have B_law_draw := F_law_draw.binds (ps := P_law_draw) fun _ _ _ _ _ _ us hl => match us, hl with | [_, _], _ => rfl
  have D_law_draw : Def Gg mg ("_law_draw", N_law_draw.length, 2, b_law_draw) := ⟨N_law_draw, P_law_draw, s_law_draw, _, _, "_law_draw", F_law_draw, PySem.W.mg_of X G a_law_draw, B_law_draw, cB_law_draw, rfl, rfl⟩
  have F_law_piece := fun_mk (st := s_law_piece) l_law_piece c_law_piece k_law_piece
  have B_law_piece := F_law_piece.binds (ps := P_law_piece) fun _ _ _ _ _ _ us hl => match us, hl with | [_], _ => rfl
  have D_law_piece : Def Gg mg ("_law_piece", N_law_piece.length, 1, b_law_piece) := ⟨N_law_piece, P_law_piece, s_law_piece, _, _, "_law_piece", F_law_piece, PySem.W.mg_of X G a_law_piece, B_law_piece, cB_law_piece, rfl, rfl⟩
  have F_law_wrong := fun_mk (st := s_law_wrong) l_law_wrong c_law_wrong k_law_wrong
  have B_law_wrong := F_law_wrong.binds (ps := P_law_wrong) fun _ _ _ _ _ _ us hl => match us, hl with | [_], _ => rfl
  have D_law_wrong : Def Gg mg ("_law_wrong", N_law_wrong.length, 1, b_law_wrong) := ⟨N_law_wrong, P_law_wrong, s_law_wrong, _, _, "_law_wrong", F_law_wrong, PySem.W.mg_of X G a_law_wrong, B_law_wrong, cB_law_wrong, rfl, rfl⟩
  have F_law_told := fun_mk (st := s_law_told) l_law_told c_law_told k_law_told
  have B_law_told := F_law_told.binds (ps := P_law_told) fun _ _ _ _ _ _ us hl => match us, hl with | [_, _], _ => rfl
  have D_law_told : Def Gg mg ("_law_told", N_law_told.length, 2, b_law_told) := ⟨N_law_told, P_law_told, s_law_told, _, _, "_law_told", F_law_told, PySem.W.mg_of X G a_law_told, B_law_told, cB_law_told, rfl, rfl⟩
  have F_law := fun_mk (st := s_law) l_law c_law k_law
  have B_law := F_law.binds (ps := P_law) fun _ _ _ _ _ _ us hl => match us, hl with | [_], _ => rfl
  have D_law : Def Gg mg ("law", N_law.length, 1, b_law) := ⟨N_law, P_law, s_law, _, _, "law", F_law, PySem.W.mg_of X G a_law, B_law, cB_law, rfl, rfl⟩
  have hD : ∀ p ∈ tab, Def Gg mg p := fun p hp => by
    simp only [tab, List.mem_cons, List.not_mem_nil, or_false] at hp
    rcases hp with e | e | e | e | e | e | e | e | e | e | e <;> subst e
    · exact D_tokens
    · exact D_token_at
    · exact D_word_at
    · exact D_digits_at
    · exact D_longest_row
    · exact D_law_state
    · exact D_law_draw
    · exact D_law_piece
    · exact D_law_wrong
    · exact D_law_told
    · exact D_law
  have R : Prg Gg Pg0 prog w mg :=
    { gl := fun x d hx => ?gl, bl := fun x hx => ?bl, cur := rfl, calm := rfl
      exm := fun x f hx => ?exm, xm := fun x y b hx => ?xm, xh := fun y hy => ?xh, xf := fun x C' hC hne => ?xf }
  case gl =>
    revert hx
    show gl x = some d → _
    unfold gl
    by_cases e0 : x = "LETTERS"
    · rw [if_pos e0]
      intro hx
      cases hx
      exact ⟨.str "abcdefghijklmnopqrstuvwxyz", _, by rw [e0]; exact PySem.W.mg_of X G g_LETTERS, ⟨_, rfl⟩, fun F => .str _⟩
    rw [if_neg e0]
    by_cases e1 : x = "MOST_LETTERS"
    · rw [if_pos e1]
      intro hx
      cases hx
      exact ⟨.int 12, _, by rw [e1]; exact PySem.W.mg_of X G g_MOST_LETTERS, ⟨_, rfl⟩, fun F => .int _⟩
    rw [if_neg e1]
    by_cases e2 : x = "DIGITS"
    · rw [if_pos e2]
      intro hx
      cases hx
      exact ⟨.str "0123456789", _, by rw [e2]; exact PySem.W.mg_of X G g_DIGITS, ⟨_, rfl⟩, fun F => .str _⟩
    rw [if_neg e2]
    by_cases e3 : x = "SIGNS"
    · rw [if_pos e3]
      intro hx
      cases hx
      exact ⟨.str "=;,()", _, by rw [e3]; exact PySem.W.mg_of X G g_SIGNS, ⟨_, rfl⟩, fun F => .str _⟩
    rw [if_neg e3]
    by_cases e4 : x = "MOST_DIGITS"
    · rw [if_pos e4]
      intro hx
      cases hx
      exact ⟨.int 6, _, by rw [e4]; exact PySem.W.mg_of X G g_MOST_DIGITS, ⟨_, rfl⟩, fun F => .int _⟩
    rw [if_neg e4]
    intro hx
    cases hx
  case bl =>
    simp only [List.mem_cons, List.not_mem_nil, or_false] at hx
    rcases hx with e | e | e | e | e | e | e | e | e | e | e | e | e | e | e | e | e <;> subst e
    · exact PySem.W.mg_none_of X G z_len
    · exact PySem.W.mg_none_of X G z_list
    · exact PySem.W.mg_none_of X G z_int
    · exact PySem.W.mg_none_of X G z_str
    · exact PySem.W.mg_none_of X G z_range
    · exact PySem.W.mg_none_of X G z_isinstance
    · exact PySem.W.mg_none_of X G z_sorted
    · exact PySem.W.mg_none_of X G z_all
    · exact PySem.W.mg_none_of X G z_any
    · exact PySem.W.mg_none_of X G z_tuple
    · exact PySem.W.mg_none_of X G z_set
    · exact PySem.W.mg_none_of X G z_zip
    · exact PySem.W.mg_none_of X G z_enumerate
    · exact PySem.W.mg_none_of X G z_reversed
    · exact PySem.W.mg_none_of X G z_min
    · exact PySem.W.mg_none_of X G z_max
    · exact PySem.W.mg_none_of X G z_sum
  case exm =>
    have hx' : (if x = "TextError" then some teF else none) = some f := hx
    by_cases ex : x = "TextError"
    · rw [if_pos ex] at hx'
      cases hx'
      subst ex
      refine ⟨C, (show ctE C "TextError" = some C from if_pos rfl), fun Xc sc h1 h2 h3 h4 h5 hr => mk_te (fI := fI) ?_ h5 hr⟩
      rw [h1, h3, h4]
      exact T
    · rw [if_neg ex] at hx'
      cases hx'
  case xm =>
    have hx' : (if x = "TextError" ∧ y = "TextError" then some true else none) = some b := hx
    by_cases ex : x = "TextError" ∧ y = "TextError"
    · rw [if_pos ex] at hx'
      cases hx'
      obtain ⟨e1, e2⟩ := ex
      subst e1
      subst e2
      refine ⟨C, (show ctE C "TextError" = some C from if_pos rfl), fun Dv hDv => ?_⟩
      have gC : mg "TextError" = some (.ref C) := PySem.W.mg_of X G aC
      rcases hDv with e | ⟨e, _⟩
      · rw [gC] at e
        cases e
        exact exm_of eC ic tC eC ic tC sS
      · rw [gC] at e
        cases e
    · rw [if_neg ex] at hx'
      cases hx'
  case xh =>
    have hy' : (decide (y = "TextError") || decide (y = "SkewerError")) = true := hy
    rcases Bool.or_eq_true_iff.mp hy' with e | e
    · have e' := of_decide_eq_true e
      subst e'
      exact ⟨_, .inl (PySem.W.mg_of X G aC)⟩
    · have e' := of_decide_eq_true e
      subst e'
      exact ⟨_, .inl (PySem.W.mg_of X G aS)⟩
  case xf =>
    have hC' : (if x = "TextError" then some C else none) = some C' := hC
    by_cases ex : x = "TextError"
    · rw [if_pos ex] at hC'
      cases hC'
      subst ex
      refine ⟨⟨ga, gg, eC, hd⟩, fun f hf => ?_⟩
      have hf' : f ∈ (["line", "column", "reason"] : List Str) := hf
      simp only [List.mem_cons, List.not_mem_nil, or_false] at hf'
      rcases hf' with e | e | e <;> subst e
      · exact n1
      · exact n2
      · exact n3
    · rw [if_neg ex] at hC'
      cases hC' 
  refine ⟨PySem.W.fnOf "law" "law" (defArgs s_law) (defBody s_law) (defScope s_law) .none kV_law dc_law pm_law an_law cd_law ct_law, fun s v => .of_eq rfl, fun base _ _ => ?_⟩
  have R' : Prg Gg { Pg0 with fs := sems Pg0 tab 12 } prog w mg := ⟨R.gl, R.bl, R.cur, R.calm, R.exm, R.xm, R.xh, R.xf⟩
  have q := fn_ok (base := base) R' F_law cB_law (Nat.le_add_left 4 12) fun y sem e => sems_ok R hD 12 y sem e
  refine q.imp fun vs H Q E ⟨a, ns, hv, hS, hl, k⟩ => ?_
  subst hv
  refine ⟨[], [⟨.lst (ns.map D.int), false⟩], rfl, ?_, ?_⟩
  · refine ⟨H, Same.refl H, fun p hp => ?_, (show ([] : List Addr).Nodup from List.nodup_nil)⟩
    have hp' : p = (V.ref a, (⟨.lst (ns.map D.int), false⟩ : W)) := by simpa using hp
    subst hp'
    exact Rep.lst hS (reps_ints ns)
  · have e := law_ok ns hl
    have e' : runF { Pg0 with fs := sems Pg0 tab 12 } N_law.length P_law.length b_law [⟨.lst (ns.map D.int), false⟩] = .ok (fz (.bl true)) [] := e
    rw [e']
    exact fun v H' hh => by
      obtain ⟨F, s, hH, n⟩ := hh
      have z := hH (v, fz (.bl true)) List.mem_cons_self
      have z' : Rep Gg F v (.bl true) := z
      cases z'
      exact k H' 
end K00

namespace K00
open PySem PySem.Spec PyProof.Rows L2 Ev
/-! ### texts as lists of code points -/
abbrev mk (l : List Nat) : Str := ⟨l.toArray⟩
theorem mk_len (l : List Nat) : (mk l).length = l.length := by show l.toArray.size = _; simp
theorem mk_app (a b : List Nat) : mk a ++ mk b = mk (a ++ b) := by
  show (⟨a.toArray ++ b.toArray⟩ : Str) = _
  simp
theorem mk_inj {a b : List Nat} (h : mk a = mk b) : a = b := by
  have q : a.toArray = b.toArray := congrArg Str.cps h
  simpa using congrArg Array.toList q
theorem mk_l (l : List Nat) : (mk l).cps.toList = l := rfl
theorem atI_nat {α : Type} (xs : List α) (i : Nat) : atI xs (i : Int) = xs[i]? := by
  unfold atI ixN
  rw [if_pos (Int.natCast_nonneg i)]
  by_cases h : i < xs.length
  · rw [if_pos (by omega)]; simp
  · rw [if_neg (by omega)]; simp; omega
/-! ### steps -/
section
variable {α β : Type} {a : α} {ρ : Ev.Env}
theorem Rb {f : α → Ev.Env → R β} : (R.ok a ρ).bind f = f a ρ := rfl
theorem Rst {f : α → Ev.Env → Q} : (R.ok a ρ).st f = f a ρ := rfl
theorem Rxs {f : α → Ev.Env → Q} {x : Str} {gs : List (Str × D)} : (R.ex x gs ρ : R α).st f = .ex x gs ρ := rfl
theorem Rxb {f : α → Ev.Env → R β} {x : Str} {gs : List (Str × D)} : (R.ex x gs ρ : R α).bind f = .ex x gs ρ := rfl
theorem Lf : lift (some a) ρ = .ok a ρ := rfl
theorem Qn {f : Ev.Env → Q} : (Q.nx ρ).seq f = f ρ := rfl
theorem Qr {f : Ev.Env → Q} {w : W} : (Q.rt w ρ).seq f = .rt w ρ := rfl
theorem Qx {f : Ev.Env → Q} {x : Str} {gs : List (Str × D)} : (Q.ex x gs ρ).seq f = .ex x gs ρ := rfl
theorem gv {i : Nat} {w : W} (h : ρ[i]? = some (some w)) : getV ρ i = .ok (fz w.d) (ρ.set i (some (fz w.d))) := by unfold getV; rw [h]
end
theorem o_len {z : Str} (h : z.length ≤ sizeLine) : bltD "len" [.str z] = some (.val (.int z.length)) := by
  show (if ("len" : Str) = "len" ∧ z.length ≤ sizeLine then _ else _) = _
  rw [if_pos ⟨rfl, h⟩]
theorem o_lenL {xs : List D} : bltD "len" [.lst xs] = some (.val (.int xs.length)) := by
  show (if ("len" : Str) = "len" then some (Mk.val (.int xs.length)) else if ("len" : Str) = "list" then some (Mk.lst xs) else none) = _
  rw [if_pos rfl]
theorem o_lt {i j : Int} : cmpD .Lt (.int i) (.int j) = some (decide (i < j)) := rfl
theorem o_gt {i j : Int} : cmpD .Gt (.int i) (.int j) = some (decide (j < i)) := rfl
theorem o_ge {i j : Int} : cmpD .GtE (.int i) (.int j) = some (decide (j ≤ i)) := rfl
theorem o_eqI {i j : Int} : cmpD .Eq (.int i) (.int j) = some (decide (i = j)) := rfl
theorem o_eqS {i j : Str} : cmpD .Eq (.str i) (.str j) = some (decide (i = j)) := rfl
theorem o_neS {i j : Str} : cmpD .NotEq (.str i) (.str j) = some (!(decide (i = j))) := rfl
theorem o_in {n : Nat} {z : Str} : cmpD .In (.str (mk [n])) (.str z) = some (decide (n ∈ z.cps.toList)) := rfl
theorem o_ixS {l : List Nat} {i : Nat} (h : l.length ≤ sizeLine) : idxD (.str (mk l)) (.int i) = (l[i]?).map fun c => .str (mk [c]) := by
  show (if (mk l).length ≤ sizeLine then _ else _) = _
  rw [mk_len, if_pos h, mk_l, atI_nat]
theorem o_ixL {l : List D} {i : Nat} : idxD (.lst l) (.int i) = l[i]? := atI_nat l i
theorem o_ixT {l : List D} {i : Nat} : idxD (.tup l) (.int i) = l[i]? := atI_nat l i
theorem o_add {i j : Int} : binD .Add (.int i) (.int j) = some (.val (.int (i + j))) := rfl
theorem o_sub {i j : Int} : binD .Sub (.int i) (.int j) = some (.val (.int (i - j))) := rfl
theorem o_addS {x y : Str} (h : x.length + y.length ≤ sizeLine) : binD .Add (.str x) (.str y) = some (.val (.str (x ++ y))) := if_pos h
theorem m_val {d : D} : (Mk.val d).w = fz d := rfl

def rho (l ls : List Nat) (a e : Nat) : Ev.Env := [some (fz (.str (mk l))), some (fz (.int a)), some (fz (.str (mk ls))), some (fz (.int e))]
theorem lr_c (P : Pg) (l ls : List Nat) (a e : Nat) (h : l.length ≤ 100000) : evC P (.and (.cmp .Lt (.var 3) (.blt "len" (.cons (.var 0) .nil))) (.cmp .In (.idxS 0 (.var 3)) (.var 2))) (rho l ls a e) = .ok ((l[e]?).any (fun c => decide (c ∈ ls))) (rho l ls a e) := by
  have hz : (mk l).length ≤ sizeLine := by rw [mk_len, sizeLine_eq]; omega
  have hz' : l.length ≤ sizeLine := by rw [sizeLine_eq]; omega
  simp only [rho, evC, evE, evEs, getV, Rb, Lf, List.getElem?_cons_zero, List.getElem?_cons_succ, List.set, List.map, o_lt, o_len hz, m_val, mk_len]
  by_cases c : e < l.length
  · have c' : decide ((e : Int) < (l.length : Int)) = true := decide_eq_true (by omega)
    simp only [c', if_true, List.getElem?_cons_zero, List.getElem?_cons_succ, List.set, getV, Rb, o_ixS hz', List.getElem?_eq_getElem c, Option.map, Lf, o_in, mk_l, Option.any]
  · have c' : decide ((e : Int) < (l.length : Int)) = false := decide_eq_false (by omega)
    simp only [c', List.getElem?_eq_none (Nat.le_of_not_lt c), Option.any]
    simp
end K00

namespace K00
open PySem PySem.Spec PyProof.Rows L2 Ev
theorem wh_no {c : Ev.Env → R Bool} {b : Ev.Env → Q} {n : Nat} {ρ ρ' : Ev.Env} (h : c ρ = .ok false ρ') : whileL c b (n + 1) ρ = .nx ρ' := by
  unfold whileL; rw [h]; rfl
theorem wh_go {c : Ev.Env → R Bool} {b : Ev.Env → Q} {n : Nat} {ρ ρ1 ρ2 : Ev.Env} (h : c ρ = .ok true ρ1) (hb : b ρ1 = .nx ρ2) : whileL c b (n + 1) ρ = whileL c b n ρ2 := by
  show ((c ρ).st fun t ρ1 => if t = true then _ else _) = _
  rw [h]
  show (match b ρ1 with | .nx ρ2 => whileL c b n ρ2 | .ct ρ2 => whileL c b n ρ2 | .bk ρ2 => .nx ρ2 | .rt w ρ2 => .rt w ρ2 | .ex x gs ρ2 => .ex x gs ρ2 | .no => .no) = _
  rw [hb]
theorem wh_ex {c : Ev.Env → R Bool} {b : Ev.Env → Q} {n : Nat} {ρ ρ1 ρ2 : Ev.Env} {x : Str} {gs : List (Str × D)} (h : c ρ = .ok true ρ1) (hb : b ρ1 = .ex x gs ρ2) : whileL c b (n + 1) ρ = .ex x gs ρ2 := by
  show ((c ρ).st fun t ρ1 => if t = true then _ else _) = _
  rw [h]
  show (match b ρ1 with | .nx ρ2 => whileL c b n ρ2 | .ct ρ2 => whileL c b n ρ2 | .bk ρ2 => .nx ρ2 | .rt w ρ2 => .rt w ρ2 | .ex x gs ρ2 => .ex x gs ρ2 | .no => .no) = _
  rw [hb]
theorem take_tw {α : Type} (p : α → Bool) : ∀ l : List α, l.take (l.takeWhile p).length = l.takeWhile p
  | [] => rfl
  | x :: l => by
    by_cases h : p x = true
    · rw [List.takeWhile_cons_of_pos h, List.length_cons, List.take_succ_cons, take_tw p l]
    · rw [List.takeWhile_cons_of_neg h]; rfl
theorem tw_le {α : Type} (p : α → Bool) : ∀ l : List α, (l.takeWhile p).length ≤ l.length
  | [] => Nat.le_refl _
  | x :: l => by
    by_cases h : p x = true
    · rw [List.takeWhile_cons_of_pos h, List.length_cons, List.length_cons]; exact Nat.succ_le_succ (tw_le p l)
    · rw [List.takeWhile_cons_of_neg h]; exact Nat.zero_le _
abbrev inL (ls : List Nat) (c : Nat) : Bool := decide (c ∈ ls)
abbrev lrC : C := .and (.cmp .Lt (.var 3) (.blt "len" (.cons (.var 0) .nil))) (.cmp .In (.idxS 0 (.var 3)) (.var 2))
abbrev lrB : Ss := .cons (.aug 3 .Add (.k (.int 1))) .nil
theorem lr_b (P : Pg) (hio : P.io = []) (l ls : List Nat) (a e : Nat) : evSs P lrB (rho l ls a e) = .nx (rho l ls a (e + 1)) := by
  simp only [lrB, rho, evSs, evS, evE, augOp, if_true, List.getElem?_cons_zero, List.getElem?_cons_succ, Rst, augD, setE, hio, List.set, Qn, List.contains_nil, List.length_cons, List.length_nil]
  simp [Qn]
theorem lr_w (P : Pg) (hio : P.io = []) (l ls : List Nat) (a : Nat) (hl : l.length ≤ 100000) : ∀ (n e : Nat), e ≤ l.length → l.length - e < n → whileL (evC P lrC) (evSs P lrB) n (rho l ls a e) = .nx (rho l ls a (e + ((l.drop e).takeWhile (inL ls)).length))
  | 0, e, _, h => by omega
  | n + 1, e, he, h => by
    have hc := lr_c P l ls a e hl
    by_cases c : e < l.length
    · have hd : l.drop e = l[e] :: l.drop (e + 1) := List.drop_eq_getElem_cons c
      rw [List.getElem?_eq_getElem c] at hc
      by_cases m : l[e] ∈ ls
      · have hc' : evC P lrC (rho l ls a e) = .ok true (rho l ls a e) := by rw [hc]; simp [Option.any, m]
        rw [wh_go hc' (lr_b P hio l ls a e), lr_w P hio l ls a hl n (e + 1) (by omega) (by omega), hd, List.takeWhile_cons_of_pos (by simpa [inL] using m), List.length_cons]
        rw [show e + 1 + ((l.drop (e + 1)).takeWhile (inL ls)).length = e + (((l.drop (e + 1)).takeWhile (inL ls)).length + 1) by omega]
      · have hc' : evC P lrC (rho l ls a e) = .ok false (rho l ls a e) := by rw [hc]; simp [Option.any, m]
        rw [wh_no hc', hd, List.takeWhile_cons_of_neg (by simpa [inL] using m)]
        rfl
    · have hc' : evC P lrC (rho l ls a e) = .ok false (rho l ls a e) := by rw [hc, List.getElem?_eq_none (Nat.le_of_not_lt c)]; rfl
      rw [wh_no hc', List.drop_eq_nil_of_le (Nat.le_of_not_lt c)]
      rfl
theorem o_sl {l : List Nat} {a b : Nat} (h : l.length ≤ sizeLine) (hb : b ≤ l.length) : slD (.str (mk l)) (some (a : Int)) (some (b : Int)) = some (.val (.str (mk ((l.drop a).take (b - a))))) := by
  show (if (mk l).length ≤ sizeLine then _ else _) = _
  rw [mk_len, if_pos h]
  unfold cutS
  rw [mk_l, mk_len, HT.sIx_nat, HT.sIx_nat, Nat.min_eq_left hb]
  by_cases ha : a ≤ l.length
  · rw [Nat.min_eq_left ha]
  · have q : l.length ≤ a := by omega
    rw [Nat.min_eq_right q, List.drop_eq_nil_of_le q, List.drop_eq_nil_of_le (Nat.le_refl _)]
    simp
/-- the program at a depth, with lent lists -/
def PI (k : Nat) (io : List Nat) : Pg := { fs := sems Pg0 tab k, gl := gl, ex := pgEx, xm := pgXm, xs := pgXs, xh := pgXh, cur := none, fuel := 4096, calm := true, io := io }
theorem run_rt {k : Nat} {io : List Nat} {n m : Nat} {b : Ss} {ws : List W} {ρ : Ev.Env} {w : W} {os : List W} (hl : ws.length = m) (h : evSs (PI k (ioOf 0 ws)) b (ws.map some ++ List.replicate (n - ws.length) none) = .rt w ρ) (ho : outsF ws ρ = some os) : runF (PI k io) n m b ws = .ok w os := by
  have h' : evSs { PI k io with io := ioOf 0 ws } b (ws.map some ++ List.replicate (n - ws.length) none) = .rt w ρ := h
  unfold runF
  rw [if_pos hl, h']
  show (match outsF ws ρ with | some os => FR.ok w os | none => FR.no) = _
  rw [ho]
theorem run_ex {k : Nat} {io : List Nat} {n m : Nat} {b : Ss} {ws : List W} {ρ : Ev.Env} {x : Str} {gs : List (Str × D)} (hl : ws.length = m) (h : evSs (PI k (ioOf 0 ws)) b (ws.map some ++ List.replicate (n - ws.length) none) = .ex x gs ρ) : runF (PI k io) n m b ws = .ex x gs := by
  have h' : evSs { PI k io with io := ioOf 0 ws } b (ws.map some ++ List.replicate (n - ws.length) none) = .ex x gs ρ := h
  unfold runF
  rw [if_pos hl, h']
theorem fs_of {k : Nat} {io : List Nat} {x : Str} {n m : Nat} {b : Ss} (h : tab.lookup x = some (n, m, b)) : (PI (k + 1) io).fs x = some (runF (PI k []) n m b) := by
  show (tab.lookup x).map _ = _
  rw [h]
  rfl
theorem f_token_at : tab.lookup ("token_at" : Str) = some (4, 3, b_token_at) := by kernel_rfl
theorem f_word_at : tab.lookup ("word_at" : Str) = some (4, 3, b_word_at) := by kernel_rfl
theorem f_digits_at : tab.lookup ("digits_at" : Str) = some (4, 3, b_digits_at) := by kernel_rfl
theorem f_longest_row : tab.lookup ("longest_row" : Str) = some (4, 3, b_longest_row) := by kernel_rfl
theorem f_tokens : tab.lookup ("tokens" : Str) = some (6, 2, b_tokens) := by kernel_rfl
theorem f_law_state : tab.lookup ("_law_state" : Str) = some (1, 1, b_law_state) := by kernel_rfl
theorem f_law_draw : tab.lookup ("_law_draw" : Str) = some (5, 2, b_law_draw) := by kernel_rfl
theorem f_law_piece : tab.lookup ("_law_piece" : Str) = some (4, 1, b_law_piece) := by kernel_rfl
theorem f_law_wrong : tab.lookup ("_law_wrong" : Str) = some (2, 1, b_law_wrong) := by kernel_rfl
theorem f_law_told : tab.lookup ("_law_told" : Str) = some (3, 2, b_law_told) := by kernel_rfl
/-- longest_row -/
theorem longest_row_ok (k : Nat) (l ls : List Nat) (a : Nat) (hl : l.length ≤ 4000) (ha : a ≤ l.length) :
    runF (PI k []) 4 3 b_longest_row [fz (.str (mk l)), fz (.int a), fz (.str (mk ls))] = .ok (fz (.str (mk ((l.drop a).takeWhile (inL ls))))) [] := by
  have hz : l.length ≤ sizeLine := by rw [sizeLine_eq]; omega
  have hw := lr_w (PI k []) rfl l ls a (by omega) 4096 a ha (by omega)
  have hle : a + ((l.drop a).takeWhile (inL ls)).length ≤ l.length := by
    have := tw_le (inL ls) (l.drop a)
    rw [List.length_drop] at this
    omega
  refine run_rt (ρ := rho l ls a (a + ((l.drop a).takeWhile (inL ls)).length)) rfl ?_ rfl
  show evSs (PI k []) b_longest_row [some (fz (.str (mk l))), some (fz (.int a)), some (fz (.str (mk ls))), none] = _
  unfold b_longest_row
  rw [evSs, evS, evE]
  simp only [getV, List.getElem?_cons_zero, List.getElem?_cons_succ, Rst, List.set]
  show (Q.seq (.nx (rho l ls a a)) _) = _
  rw [Qn, evSs, evS]
  show (Q.seq (whileL (evC (PI k []) lrC) (evSs (PI k []) lrB) 4096 (rho l ls a a)) _) = _
  rw [hw, Qn]
  simp only [rho, evSs, evS, evE, evO, getV, List.getElem?_cons_zero, List.getElem?_cons_succ, Rb, Rst, List.set, o_sl hz hle, Lf, m_val, Qr]
  rw [show a + ((l.drop a).takeWhile (inL ls)).length - a = ((l.drop a).takeWhile (inL ls)).length by omega, take_tw]
end K00

namespace K00
open PySem PySem.Spec PyProof.Rows L2 Ev
theorem e_call {P : Pg} {f : Str} {as : As} {ρ ρ1 ρ' : Ev.Env} {g : List W → FR} {ws outs : List W} {w : W} (hf : P.fs f = some g) (ha : evA P as ρ = .ok ws ρ1) (hg : g ws = .ok w outs) (hb : back as.ios outs ρ1 = some ρ') : evE P (.call f as) ρ = .ok w ρ' := by
  rw [evE, hf]
  show (evA P as ρ).bind _ = _
  rw [ha, Rb]
  unfold doCall
  rw [hg]
  show (match back as.ios outs ρ1 with | some ρ' => R.ok w ρ' | none => R.no) = _
  rw [hb]
theorem e_callx {P : Pg} {f : Str} {as : As} {ρ ρ1 : Ev.Env} {g : List W → FR} {ws : List W} {c : Str} {gs : List (Str × D)} (hf : P.fs f = some g) (ha : evA P as ρ = .ok ws ρ1) (hg : g ws = .ex c gs) (hb : as.ios = []) : evE P (.call f as) ρ = .ex c gs ρ1 := by
  rw [evE, hf]
  show (evA P as ρ).bind _ = _
  rw [ha, Rb]
  unfold doCall
  rw [hg, hb]
abbrev Lt : List Nat := [97, 98, 99, 100, 101, 102, 103, 104, 105, 106, 107, 108, 109, 110, 111, 112, 113, 114, 115, 116, 117, 118, 119, 120, 121, 122]
abbrev Dg : List Nat := [48, 49, 50, 51, 52, 53, 54, 55, 56, 57]
abbrev Sg : List Nat := [61, 59, 44, 40, 41]
theorem s_Lt : ("abcdefghijklmnopqrstuvwxyz" : Str) = mk Lt := by decide +kernel
theorem s_Dg : ("0123456789" : Str) = mk Dg := by decide +kernel
theorem s_Sg : ("=;,()" : Str) = mk Sg := by decide +kernel
theorem g_Lt : gl "LETTERS" = some (.str (mk Lt)) := by rw [← s_Lt]; kernel_rfl
theorem g_Dg : gl "DIGITS" = some (.str (mk Dg)) := by rw [← s_Dg]; kernel_rfl
theorem g_Sg : gl "SIGNS" = some (.str (mk Sg)) := by rw [← s_Sg]; kernel_rfl
theorem g_ml : gl "MOST_LETTERS" = some (.int 12) := by kernel_rfl
theorem g_md : gl "MOST_DIGITS" = some (.int 6) := by kernel_rfl
/-- what a TextError tells -/
abbrev Tr (n c : Int) (r : Str) : List (Str × D) := [("reason", .str r), ("column", .int c), ("line", .int n)]
theorem te_some {i j : Int} {r : Str} (hi : i.natAbs ≤ 1000000) (hj : j.natAbs ≤ 1000000) (hr : r.length ≤ 1000) : teF [.int i, .int j, .str r] = some (Tr i j r) := by
  have big : ∀ {i : Int}, i.natAbs ≤ 1000000 → i.natAbs.log2 < 1920 := fun {i} h => by
    by_cases h0 : i.natAbs = 0
    · rw [h0]; decide
    · exact Nat.lt_of_lt_of_le ((Nat.log2_lt h0).mpr (Nat.lt_of_le_of_lt h (by decide : 1000000 < 2 ^ 20))) (by decide)
  have l1 : (Str.ofString (toString i)).length ≤ 1921 := by rw [PySem.ofString_length]; exact int_text_length_le (k := 1920) (by decide) (big hi)
  have l2 : (Str.ofString (toString j)).length ≤ 1921 := by rw [PySem.ofString_length]; exact int_text_length_le (k := 1920) (by decide) (big hj)
  have z : (PySem.TEX.joined i j r).length ≤ sizeLine := by
    unfold PySem.TEX.joined
    simp only [PySem.Str.length_append]
    have a0 : Str.empty.length = 0 := rfl
    have a1 : (Str.ofString "line ").length = 5 := by decide +kernel
    have a2 : (Str.ofString ", column ").length = 9 := by decide +kernel
    have a3 : (Str.ofString ": ").length = 2 := by decide +kernel
    rw [a0, a1, a2, a3, sizeLine_eq]
    omega
  show (if i.natAbs.log2 < 1920 ∧ j.natAbs.log2 < 1920 ∧ (PySem.TEX.joined i j r).length ≤ sizeLine then some _ else none) = _
  rw [if_pos ⟨big hi, big hj, z⟩]
theorem ex_te {k : Nat} {io : List Nat} : (PI k io).ex "TextError" = some teF := (if_pos rfl : (if ("TextError" : Str) = "TextError" then some teF else none) = some teF)
/-- raise TextError(number, at + 1, r), number and at in slots 1 and 2 -/
theorem ra_te {k : Nat} {io : List Nat} {ρ : Ev.Env} {n a : Int} {r : Str} (h1 : ρ[1]? = some (some (fz (.int n)))) (h2 : ρ[2]? = some (some (fz (.int a)))) (hi : n.natAbs ≤ 1000000) (hj : (a + 1).natAbs ≤ 1000000) (hr : r.length ≤ 1000) :
    ∃ ρ', evS (PI k io) (.raise "TextError" (.cons (.var 1) (.cons (.bin .Add (.var 2) (.k (.int 1))) (.cons (.k (.str r)) .nil)))) ρ = .ex "TextError" (Tr n (a + 1) r) ρ' := by
  have h2' : (ρ.set 1 (some (fz (.int n))))[2]? = some (some (fz (.int a))) := by rw [List.getElem?_set_ne (by decide)]; exact h2
  refine ⟨(ρ.set 1 (some (fz (.int n)))).set 2 (some (fz (.int a))), ?_⟩
  rw [evS]
  show (if (PI k io).calm = true then _ else _) = _
  rw [if_pos (show (PI k io).calm = true from rfl), ex_te]
  simp only [evEs, evE, getV, h1, h2', Rb, o_add, Lf, m_val, Rst, List.map, te_some hi hj hr]
/-- word_at -/
theorem word_at_ok (k : Nat) (l : List Nat) (n : Int) (a : Nat) (hl : l.length ≤ 4000) (ha : a ≤ l.length) (hn : n.natAbs ≤ 1000000) :
    runF (PI (k + 1) []) 4 3 b_word_at [fz (.str (mk l)), fz (.int n), fz (.int a)] = (if 12 < ((l.drop a).takeWhile (inL Lt)).length then .ex "TextError" (Tr n (a + 1) "word") else .ok (fz (.str (mk ((l.drop a).takeWhile (inL Lt))))) []) := by
  have ht := tw_le (inL Lt) (l.drop a)
  rw [List.length_drop] at ht
  have hz : (mk ((l.drop a).takeWhile (inL Lt))).length ≤ sizeLine := by rw [mk_len, sizeLine_eq]; omega
  have c : evE (PI (k + 1) []) (.call "longest_row" (.cons (.var 0) (.cons (.var 2) (.cons (.glob "LETTERS") .nil)))) [some (fz (.str (mk l))), some (fz (.int n)), some (fz (.int a)), none] = .ok (fz (.str (mk ((l.drop a).takeWhile (inL Lt))))) [some (fz (.str (mk l))), some (fz (.int n)), some (fz (.int a)), none] := by
    refine e_call (fs_of f_longest_row) ?_ (longest_row_ok k l Lt a hl ha) rfl
    have g : (PI (k + 1) []).gl "LETTERS" = some (.str (mk Lt)) := g_Lt
    simp only [evA, evE, getV, List.getElem?_cons_zero, List.getElem?_cons_succ, Rb, List.set, g, Lf]
  have s0 : evS (PI (k + 1) []) (.set 3 (.call "longest_row" (.cons (.var 0) (.cons (.var 2) (.cons (.glob "LETTERS") .nil))))) [some (fz (.str (mk l))), some (fz (.int n)), some (fz (.int a)), none] = .nx [some (fz (.str (mk l))), some (fz (.int n)), some (fz (.int a)), some (fz (.str (mk ((l.drop a).takeWhile (inL Lt)))))] := by
    rw [evS, c]
    rfl
  have t0 : evC (PI (k + 1) []) (.cmp .Gt (.blt "len" (.cons (.var 3) .nil)) (.glob "MOST_LETTERS")) [some (fz (.str (mk l))), some (fz (.int n)), some (fz (.int a)), some (fz (.str (mk ((l.drop a).takeWhile (inL Lt)))))] = .ok (decide (12 < ((l.drop a).takeWhile (inL Lt)).length)) [some (fz (.str (mk l))), some (fz (.int n)), some (fz (.int a)), some (fz (.str (mk ((l.drop a).takeWhile (inL Lt)))))] := by
    have g : (PI (k + 1) []).gl "MOST_LETTERS" = some (.int 12) := g_ml
    simp only [evC, evE, evEs, getV, List.getElem?_cons_zero, List.getElem?_cons_succ, Rb, List.set, List.map, o_len hz, g, Lf, m_val, o_gt, mk_len]
    congr 1
    by_cases q : 12 < ((l.drop a).takeWhile (inL Lt)).length
    · rw [decide_eq_true q, decide_eq_true (by omega)]
    · rw [decide_eq_false q, decide_eq_false (by omega)]
  by_cases q : 12 < ((l.drop a).takeWhile (inL Lt)).length
  · rw [if_pos q]
    obtain ⟨ρ', e⟩ := ra_te (k := k + 1) (io := []) (r := "word") (ρ := [some (fz (.str (mk l))), some (fz (.int n)), some (fz (.int a)), some (fz (.str (mk ((l.drop a).takeWhile (inL Lt)))))]) (n := n) (a := a) rfl rfl hn (by omega) (by decide +kernel)
    refine run_ex (ρ := ρ') rfl ?_
    show evSs (PI (k + 1) []) b_word_at [some (fz (.str (mk l))), some (fz (.int n)), some (fz (.int a)), none] = _
    unfold b_word_at
    rw [evSs, s0, Qn, evSs, evS, t0, Rst, if_pos (decide_eq_true q), evSs, e]
    rfl
  · rw [if_neg q]
    refine run_rt (ρ := [some (fz (.str (mk l))), some (fz (.int n)), some (fz (.int a)), some (fz (.str (mk ((l.drop a).takeWhile (inL Lt)))))]) rfl ?_ rfl
    show evSs (PI (k + 1) []) b_word_at [some (fz (.str (mk l))), some (fz (.int n)), some (fz (.int a)), none] = _
    unfold b_word_at
    rw [evSs, s0, Qn, evSs, evS, t0, Rst, if_neg (by simp [q]), evSs, Qn, evSs, evS]
    rfl
end K00

namespace K00
open PySem PySem.Spec PyProof.Rows L2 Ev
theorem s_0 : ("0" : Str) = mk [48] := by decide +kernel
/-- a row of digits that is no number -/
def badD (t : List Nat) : Bool := decide (6 < t.length) || (decide (t.head? = some 48) && decide (t ≠ [48]))
theorem mk_eq {a b : List Nat} : decide (mk a = mk b) = decide (a = b) := by
  by_cases h : a = b
  · rw [h]; simp
  · rw [decide_eq_false h, decide_eq_false fun e => h (mk_inj e)]
theorem o_ixS0 {c : Nat} {t : List Nat} (h : (c :: t).length ≤ sizeLine) : idxD (.str (mk (c :: t))) (.int 0) = some (.str (mk [c])) := o_ixS (i := 0) h
abbrev En (l : List Nat) (n : Int) (a : Nat) (t : List Nat) : Ev.Env := [some (fz (.str (mk l))), some (fz (.int n)), some (fz (.int a)), some (fz (.str (mk t)))]
/-- digits_at -/
theorem digits_at_ok (k : Nat) (l : List Nat) (n : Int) (a : Nat) {c : Nat} {t : List Nat} (hl : l.length ≤ 4000) (ha : a ≤ l.length) (hn : n.natAbs ≤ 1000000) (ht : (l.drop a).takeWhile (inL Dg) = c :: t) :
    runF (PI (k + 1) []) 4 3 b_digits_at [fz (.str (mk l)), fz (.int n), fz (.int a)] = (if badD (c :: t) = true then .ex "TextError" (Tr n (a + 1) "number") else .ok (fz (.str (mk (c :: t)))) []) := by
  have htl := tw_le (inL Dg) (l.drop a)
  rw [List.length_drop, ht] at htl
  have hz' : (c :: t).length ≤ sizeLine := by rw [sizeLine_eq]; omega
  have hz : (mk (c :: t)).length ≤ sizeLine := by rw [mk_len]; exact hz'
  have c0 : evE (PI (k + 1) []) (.call "longest_row" (.cons (.var 0) (.cons (.var 2) (.cons (.glob "DIGITS") .nil)))) [some (fz (.str (mk l))), some (fz (.int n)), some (fz (.int a)), none] = .ok (fz (.str (mk (c :: t)))) [some (fz (.str (mk l))), some (fz (.int n)), some (fz (.int a)), none] := by
    have q := longest_row_ok k l Dg a hl ha
    rw [ht] at q
    refine e_call (fs_of f_longest_row) ?_ q rfl
    have g : (PI (k + 1) []).gl "DIGITS" = some (.str (mk Dg)) := g_Dg
    simp only [evA, evE, getV, List.getElem?_cons_zero, List.getElem?_cons_succ, Rb, List.set, g, Lf]
  have s0 : evS (PI (k + 1) []) (.set 3 (.call "longest_row" (.cons (.var 0) (.cons (.var 2) (.cons (.glob "DIGITS") .nil))))) [some (fz (.str (mk l))), some (fz (.int n)), some (fz (.int a)), none] = .nx (En l n a (c :: t)) := by
    rw [evS, c0]
    rfl
  have t0 : evC (PI (k + 1) []) (.or (.cmp .Gt (.blt "len" (.cons (.var 3) .nil)) (.glob "MOST_DIGITS")) (.and (.cmp .Eq (.idxS 3 (.k (.int 0))) (.k (.str "0"))) (.cmp .NotEq (.var 3) (.k (.str "0"))))) (En l n a (c :: t)) = .ok (badD (c :: t)) (En l n a (c :: t)) := by
    have g : (PI (k + 1) []).gl "MOST_DIGITS" = some (.int 6) := g_md
    simp only [En, evC, evE, evEs, getV, List.getElem?_cons_zero, List.getElem?_cons_succ, Rb, List.set, List.map, o_len hz, g, Lf, m_val, o_gt, mk_len]
    by_cases q : 6 < (c :: t).length
    · rw [if_pos (decide_eq_true (by omega))]
      unfold badD
      rw [decide_eq_true q]
      rfl
    · rw [if_neg (by simp at q ⊢; omega)]
      simp only [List.getElem?_cons_zero, List.getElem?_cons_succ, o_ixS0 hz', Lf, Rb, o_eqS, s_0, mk_eq]
      unfold badD
      rw [decide_eq_false q]
      by_cases e : c = 48
      · subst e
        simp only [decide_true, if_true, List.getElem?_cons_zero, List.getElem?_cons_succ, List.set, getV, Rb, o_neS, mk_eq, Lf]
        simp
      · have e' : decide ([c] = [48]) = false := by simp [e]
        rw [e']
        simp [e]
  by_cases q : badD (c :: t) = true
  · rw [if_pos q]
    obtain ⟨ρ', e⟩ := ra_te (k := k + 1) (io := []) (r := "number") (ρ := En l n a (c :: t)) (n := n) (a := a) rfl rfl hn (by omega) (by decide +kernel)
    refine run_ex (ρ := ρ') rfl ?_
    show evSs (PI (k + 1) []) b_digits_at [some (fz (.str (mk l))), some (fz (.int n)), some (fz (.int a)), none] = _
    unfold b_digits_at
    rw [evSs, s0, Qn, evSs, evS, t0, Rst, if_pos q, evSs, e]
    rfl
  · rw [if_neg q]
    refine run_rt (ρ := En l n a (c :: t)) rfl ?_ rfl
    show evSs (PI (k + 1) []) b_digits_at [some (fz (.str (mk l))), some (fz (.int n)), some (fz (.int a)), none] = _
    unfold b_digits_at
    rw [evSs, s0, Qn, evSs, evS, t0, Rst, if_neg q, evSs, Qn, evSs, evS]
    rfl
/-- what token_at tells -/
def tokR (l : List Nat) (n : Int) (a ch : Nat) : FR :=
  if ch ∈ Sg then .ok (fz (.tup [.str "sign", .str (mk [ch])])) []
  else if ch ∈ Lt then (if 12 < ((l.drop a).takeWhile (inL Lt)).length then .ex "TextError" (Tr n (a + 1) "word") else .ok (fz (.tup [.str "word", .str (mk ((l.drop a).takeWhile (inL Lt)))])) [])
  else if ch ∈ Dg then (if badD ((l.drop a).takeWhile (inL Dg)) = true then .ex "TextError" (Tr n (a + 1) "number") else .ok (fz (.tup [.str "number", .str (mk ((l.drop a).takeWhile (inL Dg)))])) [])
  else .ex "TextError" (Tr n (a + 1) "character")
theorem token_at_ok (k : Nat) (l : List Nat) (n : Int) (a ch : Nat) (hl : l.length ≤ 4000) (ha : l[a]? = some ch) (hn : n.natAbs ≤ 1000000) :
    runF (PI (k + 2) []) 4 3 b_token_at [fz (.str (mk l)), fz (.int n), fz (.int a)] = tokR l n a ch := by
  have hlt : a < l.length := (List.getElem?_eq_some_iff.mp ha).1
  have hch : l[a] = ch := (List.getElem?_eq_some_iff.mp ha).2
  have hd : l.drop a = ch :: l.drop (a + 1) := by rw [List.drop_eq_getElem_cons hlt, hch]
  have hz : l.length ≤ sizeLine := by rw [sizeLine_eq]; omega
  have s0 : evS (PI (k + 2) []) (.set 3 (.idxS 0 (.var 2))) [some (fz (.str (mk l))), some (fz (.int n)), some (fz (.int a)), none] = .nx (En l n a [ch]) := by
    rw [evS, evE]
    simp only [evE, getV, List.getElem?_cons_zero, List.getElem?_cons_succ, Rb, List.set, o_ixS hz, ha, Option.map, Lf, Rst]
    rfl
  have gS : (PI (k + 2) []).gl "SIGNS" = some (.str (mk Sg)) := g_Sg
  have gL : (PI (k + 2) []).gl "LETTERS" = some (.str (mk Lt)) := g_Lt
  have gD : (PI (k + 2) []).gl "DIGITS" = some (.str (mk Dg)) := g_Dg
  have t1 : evC (PI (k + 2) []) (.cmp .In (.var 3) (.glob "SIGNS")) (En l n a [ch]) = .ok (decide (ch ∈ Sg)) (En l n a [ch]) := by
    simp only [En, evC, evE, getV, List.getElem?_cons_zero, List.getElem?_cons_succ, Rb, List.set, gS, Lf, o_in, mk_l]
  have t2 : evC (PI (k + 2) []) (.cmp .In (.var 3) (.glob "LETTERS")) (En l n a [ch]) = .ok (decide (ch ∈ Lt)) (En l n a [ch]) := by
    simp only [En, evC, evE, getV, List.getElem?_cons_zero, List.getElem?_cons_succ, Rb, List.set, gL, Lf, o_in, mk_l]
  have t3 : evC (PI (k + 2) []) (.cmp .In (.var 3) (.glob "DIGITS")) (En l n a [ch]) = .ok (decide (ch ∈ Dg)) (En l n a [ch]) := by
    simp only [En, evC, evE, getV, List.getElem?_cons_zero, List.getElem?_cons_succ, Rb, List.set, gD, Lf, o_in, mk_l]
  have ar : evA (PI (k + 2) []) (.cons (.var 0) (.cons (.var 1) (.cons (.var 2) .nil))) (En l n a [ch]) = .ok [fz (.str (mk l)), fz (.int n), fz (.int a)] (En l n a [ch]) := by
    simp only [En, evA, evE, getV, List.getElem?_cons_zero, List.getElem?_cons_succ, Rb, List.set]
  have two : (2 : Nat) ≤ sizeLine := by rw [sizeLine_eq]; decide
  have rt : ∀ (f : Str) (r : Str) (t : List Nat) (x : E), evE (PI (k + 2) []) x (En l n a [ch]) = .ok (fz (.str (mk t))) (En l n a [ch]) →
      evSs (PI (k + 2) []) (.cons (.ret (.tup (.cons (.k (.str r)) (.cons x .nil)))) .nil) (En l n a [ch]) = .rt (fz (.tup [.str r, .str (mk t)])) (En l n a [ch]) := by
    intro f r t x hx
    rw [evSs, evS, evE, evEs, evE, Rb, evEs, hx, Rb, evEs, Rb, Rb, Rb, if_pos (show ([fz (D.str r), fz (D.str (mk t))] : List W).length ≤ sizeLine from two)]
    rfl
  have goal : ∀ {r : FR}, (match evSs (PI (k + 2) []) b_token_at [some (fz (.str (mk l))), some (fz (.int n)), some (fz (.int a)), none] with | .rt w ρ => ρ = En l n a [ch] ∧ r = .ok w [] | .ex c gs _ => r = .ex c gs | _ => False) → runF (PI (k + 2) []) 4 3 b_token_at [fz (.str (mk l)), fz (.int n), fz (.int a)] = r := by
    intro r h
    cases e : evSs (PI (k + 2) []) b_token_at [some (fz (.str (mk l))), some (fz (.int n)), some (fz (.int a)), none] with
    | rt w ρ => rw [e] at h; obtain ⟨h1, h2⟩ := h; subst h1; rw [h2]; exact run_rt rfl e rfl
    | ex c gs ρ => rw [e] at h; have h' : r = .ex c gs := h; rw [h']; exact run_ex rfl e
    | nx ρ => rw [e] at h; exact h.elim
    | bk ρ => rw [e] at h; exact h.elim
    | ct ρ => rw [e] at h; exact h.elim
    | no => rw [e] at h; exact h.elim
  refine goal ?_
  unfold b_token_at tokR
  rw [evSs, s0, Qn, evSs, evS, t1, Rst]
  by_cases m1 : ch ∈ Sg
  · rw [if_pos (decide_eq_true m1), if_pos m1, rt "" "sign" [ch] (.var 3) (by rw [evE]; rfl)]
    exact ⟨rfl, rfl⟩
  rw [if_neg (by simpa using m1), if_neg m1, evSs, Qn, evSs, evS, t2, Rst]
  by_cases m2 : ch ∈ Lt
  · rw [if_pos (decide_eq_true m2), if_pos m2]
    have w := word_at_ok k l n a hl (Nat.le_of_lt hlt) hn
    by_cases q : 12 < ((l.drop a).takeWhile (inL Lt)).length
    · rw [if_pos q] at w ⊢
      have e := e_callx (P := PI (k + 2) []) (fs_of f_word_at) ar w rfl
      rw [evSs, evS, evE, evEs, evE, Rb, evEs, e]
      rfl
    · rw [if_neg q] at w ⊢
      have e := e_call (P := PI (k + 2) []) (fs_of f_word_at) ar w (ρ' := En l n a [ch]) rfl
      rw [rt "" "word" _ _ e]
      exact ⟨rfl, rfl⟩
  rw [if_neg (by simpa using m2), if_neg m2, evSs, Qn, evSs, evS, t3, Rst]
  by_cases m3 : ch ∈ Dg
  · rw [if_pos (decide_eq_true m3), if_pos m3]
    have ht : (l.drop a).takeWhile (inL Dg) = ch :: (l.drop (a + 1)).takeWhile (inL Dg) := by
      rw [hd, List.takeWhile_cons_of_pos (by simpa [inL] using m3)]
    have w := digits_at_ok k l n a hl (Nat.le_of_lt hlt) hn ht
    rw [ht]
    by_cases q : badD (ch :: (l.drop (a + 1)).takeWhile (inL Dg)) = true
    · rw [if_pos q] at w ⊢
      have e := e_callx (P := PI (k + 2) []) (fs_of f_digits_at) ar w rfl
      rw [evSs, evS, evE, evEs, evE, Rb, evEs, e]
      rfl
    · rw [if_neg q] at w ⊢
      have e := e_call (P := PI (k + 2) []) (fs_of f_digits_at) ar w (ρ' := En l n a [ch]) rfl
      rw [rt "" "number" _ _ e]
      exact ⟨rfl, rfl⟩
  rw [if_neg (by simpa using m3), if_neg m3, evSs, Qn, evSs]
  obtain ⟨ρ', e⟩ := ra_te (k := k + 2) (io := []) (r := "character") (ρ := En l n a [ch]) (n := n) (a := a) rfl rfl hn (by omega) (by decide +kernel)
  rw [e]
  rfl
end K00

namespace K00
open PySem PySem.Spec PyProof.Rows L2 Ev
abbrev Et (l : List Nat) (n : Int) (acc : List D) (a : Nat) (x y : Option W) : Ev.Env := [some (fz (.str (mk l))), some (fz (.int n)), some (ow acc), some (fz (.int a)), x, y]
abbrev tkC : C := .cmp .Lt (.var 3) (.blt "len" (.cons (.var 0) .nil))
abbrev tkE : Ss := .cons (.unp [4, 5] (.call "token_at" (.cons (.var 0) (.cons (.var 1) (.cons (.var 3) .nil))))) (.cons (.app 2 (.tup (.cons (.var 4) (.cons (.var 5) (.cons (.bin .Add (.var 3) (.k (.int 1))) .nil))))) (.cons (.aug 3 .Add (.blt "len" (.cons (.var 5) .nil))) .nil))
abbrev tkB : Ss := .cons (.ifs (.cmp .Eq (.idxS 0 (.var 3)) (.k (.str " "))) (.cons (.aug 3 .Add (.k (.int 1))) .nil) tkE) .nil
theorem s_sp : (" " : Str) = mk [32] := by decide +kernel
section
variable {k : Nat} {l : List Nat} {n : Int} {acc : List D} {a : Nat} {x y : Option W}
theorem tk_c (hl : l.length ≤ 4000) : evC (PI k []) tkC (Et l n acc a x y) = .ok (decide (a < l.length)) (Et l n acc a x y) := by
  have hz : (mk l).length ≤ sizeLine := by rw [mk_len, sizeLine_eq]; omega
  simp only [Et, evC, evE, evEs, getV, List.getElem?_cons_zero, List.getElem?_cons_succ, Rb, List.set, List.map, o_len hz, Lf, m_val, o_lt, mk_len]
  congr 1
  by_cases q : a < l.length
  · rw [decide_eq_true q, decide_eq_true (by omega)]
  · rw [decide_eq_false q, decide_eq_false (by omega)]
theorem tk_i {ch : Nat} (hl : l.length ≤ 4000) (ha : l[a]? = some ch) : evC (PI k []) (.cmp .Eq (.idxS 0 (.var 3)) (.k (.str " "))) (Et l n acc a x y) = .ok (decide (ch = 32)) (Et l n acc a x y) := by
  have hz : l.length ≤ sizeLine := by rw [sizeLine_eq]; omega
  simp only [Et, evC, evE, getV, List.getElem?_cons_zero, List.getElem?_cons_succ, Rb, List.set, o_ixS hz, ha, Option.map, Lf, o_eqS, s_sp, mk_eq]
  congr 1
  simp
theorem tk_sp (hl : l.length ≤ 4000) (ha : l[a]? = some 32) : evSs (PI k []) tkB (Et l n acc a x y) = .nx (Et l n acc (a + 1) x y) := by
  rw [evSs, evS, tk_i hl ha, Rst, if_pos (by rfl), evSs, evS, evE]
  rfl
theorem tk_ok {ch : Nat} {kd : Str} {t : List Nat} (hl : l.length ≤ 4000) (ha : l[a]? = some ch) (hc : ch ≠ 32) (hn : n.natAbs ≤ 1000000) (hacc : acc.length < 100000) (ht : t.length ≤ 4000) (h : tokR l n a ch = .ok (fz (.tup [.str kd, .str (mk t)])) []) :
    evSs (PI (k + 3) []) tkB (Et l n acc a x y) = .nx (Et l n (acc ++ [.tup [.str kd, .str (mk t), .int ((a : Int) + 1)]]) (a + t.length) (some (fz (.str kd))) (some (fz (.str (mk t))))) := by
  have ar : evA (PI (k + 3) []) (.cons (.var 0) (.cons (.var 1) (.cons (.var 3) .nil))) (Et l n acc a x y) = .ok [fz (.str (mk l)), fz (.int n), fz (.int a)] (Et l n acc a x y) := by
    simp only [Et, evA, evE, getV, List.getElem?_cons_zero, List.getElem?_cons_succ, Rb, List.set]
  have w := (token_at_ok k l n a ch hl ha hn).trans h
  have e := e_call (P := PI (k + 3) []) (fs_of f_token_at) ar w (ρ' := Et l n acc a x y) rfl
  have s1 : evS (PI (k + 3) []) (.unp [4, 5] (.call "token_at" (.cons (.var 0) (.cons (.var 1) (.cons (.var 3) .nil))))) (Et l n acc a x y) = .nx (Et l n acc a (some (fz (.str kd))) (some (fz (.str (mk t))))) := by
    rw [evS, if_pos (show (PI (k + 3) []).calm = true from rfl), e]
    rfl
  have three : (3 : Nat) ≤ sizeLine := by rw [sizeLine_eq]; decide
  have hs : acc.length < sizeLine := by rw [sizeLine_eq]; omega
  have hz : (mk t).length ≤ sizeLine := by rw [mk_len, sizeLine_eq]; omega
  have s2 : evS (PI (k + 3) []) (.app 2 (.tup (.cons (.var 4) (.cons (.var 5) (.cons (.bin .Add (.var 3) (.k (.int 1))) .nil))))) (Et l n acc a (some (fz (.str kd))) (some (fz (.str (mk t))))) = .nx (Et l n (acc ++ [.tup [.str kd, .str (mk t), .int ((a : Int) + 1)]]) a (some (fz (.str kd))) (some (fz (.str (mk t))))) := by
    rw [evS]
    simp only [Et, List.getElem?_cons_zero, List.getElem?_cons_succ, evE, evEs, getV, Rb, List.set, o_add, Lf, m_val, List.length_cons, List.length_nil]
    rw [if_pos (by simpa using three), Rst]
    simp only [List.getElem?_cons_zero, List.getElem?_cons_succ, List.map, List.set]
    rw [if_pos hs]
  have s3 : evS (PI (k + 3) []) (.aug 3 .Add (.blt "len" (.cons (.var 5) .nil))) (Et l n (acc ++ [.tup [.str kd, .str (mk t), .int ((a : Int) + 1)]]) a (some (fz (.str kd))) (some (fz (.str (mk t))))) = .nx (Et l n (acc ++ [.tup [.str kd, .str (mk t), .int ((a : Int) + 1)]]) (a + t.length) (some (fz (.str kd))) (some (fz (.str (mk t))))) := by
    rw [evS]
    simp only [augOp, if_true, Et, List.getElem?_cons_zero, List.getElem?_cons_succ, evE, evEs, getV, Rb, List.set, List.map, o_len hz, Lf, m_val, Rst, augD, mk_len]
    rfl
  rw [evSs, evS, tk_i hl ha, Rst, if_neg (by simpa using hc), evSs, s1, Qn, evSs, s2, Qn, evSs, s3, Qn, evSs, Qn, evSs]
theorem tk_ex {ch : Nat} {c : Str} {gs : List (Str × D)} (hl : l.length ≤ 4000) (ha : l[a]? = some ch) (hc : ch ≠ 32) (hn : n.natAbs ≤ 1000000) (h : tokR l n a ch = .ex c gs) :
    ∃ ρ', evSs (PI (k + 3) []) tkB (Et l n acc a x y) = .ex c gs ρ' := by
  have ar : evA (PI (k + 3) []) (.cons (.var 0) (.cons (.var 1) (.cons (.var 3) .nil))) (Et l n acc a x y) = .ok [fz (.str (mk l)), fz (.int n), fz (.int a)] (Et l n acc a x y) := by
    simp only [Et, evA, evE, getV, List.getElem?_cons_zero, List.getElem?_cons_succ, Rb, List.set]
  have w := (token_at_ok k l n a ch hl ha hn).trans h
  have e := e_callx (P := PI (k + 3) []) (fs_of f_token_at) ar w rfl
  refine ⟨Et l n acc a x y, ?_⟩
  rw [evSs, evS, tk_i hl ha, Rst, if_neg (by simpa using hc), evSs, evS, if_pos (show (PI (k + 3) []).calm = true from rfl), e]
  rfl
end
/-! ### a line of pieces -/
abbrev Seg := Str × List Nat × Nat
abbrev sps (g : Nat) : List Nat := List.replicate g 32
def body : List Seg → List Nat
  | [] => []
  | (_, t, g) :: r => t ++ (sps g ++ body r)
def toks : Nat → List Seg → List D
  | _, [] => []
  | p, (k, t, g) :: r => .tup [.str k, .str (mk t), .int ((p : Int) + 1)] :: toks (p + t.length + g) r
/-- the row from p on gives the token (k, t) -/
def Good (k : Str) (t : List Nat) (r : List Nat) : Prop := ∃ ch t', t = ch :: t' ∧ ch ≠ 32 ∧ ∀ (l : List Nat) (n : Int) (a : Nat), l.drop a = t ++ r → tokR l n a ch = .ok (fz (.tup [.str k, .str (mk t)])) []
def Bad (k : Str) (t : List Nat) (r : List Nat) : Prop := ∃ ch t', t = ch :: t' ∧ ch ≠ 32 ∧ ∀ (l : List Nat) (n : Int) (a : Nat), l.drop a = t ++ r → tokR l n a ch = .ex "TextError" (Tr n (a + 1) k)
def Goods : List Seg → List Nat → Prop
  | [], _ => True
  | (k, t, g) :: r, R => Good k t (sps g ++ (body r ++ R)) ∧ Goods r R
theorem drop_more {α : Type} {l : List α} {a : Nat} {u r : List α} (h : l.drop a = u ++ r) : l.drop (a + u.length) = r := by
  rw [← List.drop_drop, h, List.drop_left]
theorem sp_run {k : Nat} {l : List Nat} {n : Int} {acc : List D} {x y : Option W} (hl : l.length ≤ 4000) : ∀ (g a f : Nat) {r : List Nat}, l.drop a = sps g ++ r → whileL (evC (PI k []) tkC) (evSs (PI k []) tkB) (f + g) (Et l n acc a x y) = whileL (evC (PI k []) tkC) (evSs (PI k []) tkB) f (Et l n acc (a + g) x y)
  | 0, a, f, r, h => rfl
  | g + 1, a, f, r, h => by
    have h' : l.drop a = 32 :: (sps g ++ r) := by rw [h]; rfl
    have ha : l[a]? = some 32 := by
      have q : (l.drop a)[0]? = some 32 := by rw [h']; rfl
      rw [List.getElem?_drop] at q
      simpa using q
    have lt : a < l.length := (List.getElem?_eq_some_iff.mp ha).1
    have c := tk_c (k := k) (n := n) (acc := acc) (a := a) (x := x) (y := y) hl
    rw [decide_eq_true lt] at c
    have h2 : l.drop (a + 1) = sps g ++ r := drop_more (u := [32]) (by rw [h']; rfl)
    rw [show f + (g + 1) = (f + g) + 1 by omega, wh_go c (tk_sp hl ha), sp_run hl g (a + 1) f h2, show a + 1 + g = a + (g + 1) by omega]
theorem at_of {l : List Nat} {a ch : Nat} {t' r : List Nat} (h : l.drop a = (ch :: t') ++ r) : l[a]? = some ch := by
  have q : (l.drop a)[0]? = some ch := by rw [h]; rfl
  rw [List.getElem?_drop] at q
  simpa using q
/-- through the good pieces -/
theorem seg_run {k : Nat} {l : List Nat} {n : Int} (hl : l.length ≤ 4000) (hn : n.natAbs ≤ 1000000) : ∀ (segs : List Seg) (R : List Nat) (a : Nat) (acc : List D) (x y : Option W) (f : Nat), l.drop a = body segs ++ R → Goods segs R → acc.length + segs.length ≤ 50000 → (l.drop a).length ≤ f →
    ∃ f' x' y', R.length ≤ f' ∧ f ≤ f' + (body segs).length ∧ whileL (evC (PI (k + 3) []) tkC) (evSs (PI (k + 3) []) tkB) f (Et l n acc a x y) = whileL (evC (PI (k + 3) []) tkC) (evSs (PI (k + 3) []) tkB) f' (Et l n (acc ++ toks a segs) (a + (body segs).length) x' y')
  | [], R, a, acc, x, y, f, h, hg, hb, hf => ⟨f, x, y, by rw [h] at hf; exact hf, Nat.le_refl _, by simp [toks, body]⟩
  | (kd, t, g) :: r, R, a, acc, x, y, f, h, hg, hb, hf => by
    obtain ⟨⟨ch, t', ht, hc, hk⟩, hr⟩ := hg
    have h1 : l.drop a = t ++ (sps g ++ (body r ++ R)) := by rw [h]; simp [body]
    have ha : l[a]? = some ch := at_of (t' := t') (r := sps g ++ (body r ++ R)) (by rw [h1, ht])
    have lt : a < l.length := (List.getElem?_eq_some_iff.mp ha).1
    have c := tk_c (k := k + 3) (n := n) (acc := acc) (a := a) (x := x) (y := y) hl
    rw [decide_eq_true lt] at c
    have len := congrArg List.length h1
    simp only [List.length_append, List.length_replicate, List.length_drop] at len
    have tpos : 1 ≤ t.length := by rw [ht]; simp
    have h2 : l.drop (a + t.length) = sps g ++ (body r ++ R) := drop_more h1
    have h3 : l.drop (a + t.length + g) = body r ++ R := by
      have := drop_more h2
      simpa using this
    have hb' : acc.length + (r.length + 1) ≤ 50000 := by simpa using hb
    have go := tk_ok (k := k) (n := n) (acc := acc) (x := x) (y := y) hl ha hc hn (by omega) (by omega) (hk l n a h1)
    have hf' : l.length - a ≤ f := by simpa using hf
    obtain ⟨f0, rfl⟩ : ∃ f0, f = (f0 + g) + 1 := ⟨f - 1 - g, by omega⟩
    rw [wh_go c go, sp_run hl g (a + t.length) f0 h2]
    obtain ⟨f', x', y', q1, q2, q3⟩ := seg_run (k := k) (n := n) hl hn r R (a + t.length + g) (acc ++ [.tup [.str kd, .str (mk t), .int ((a : Int) + 1)]]) (some (fz (.str kd))) (some (fz (.str (mk t)))) f0 h3 hr (by simp; omega) (by rw [List.length_drop]; omega)
    refine ⟨f', x', y', q1, ?_, ?_⟩
    · simp only [body, List.length_append, List.length_replicate]; omega
    · rw [q3]
      simp only [toks, body, List.length_append, List.length_replicate, List.append_assoc, List.singleton_append]
      rw [show a + t.length + g + (body r).length = a + (t.length + (g + (body r).length)) by omega]
end K00

namespace K00
open PySem PySem.Spec PyProof.Rows L2 Ev
theorem tk_head {k : Nat} {l : List Nat} {n : Int} : (evSs (PI k []) b_tokens [some (fz (.str (mk l))), some (fz (.int n)), none, none, none, none]) = (whileL (evC (PI k []) tkC) (evSs (PI k []) tkB) 4096 (Et l n [] 0 none none)).seq fun ρ => evSs (PI k []) (.cons (.ret (.var 2)) .nil) ρ := by
  unfold b_tokens
  rw [evSs, evS, evE, evEs]
  show Q.seq (.nx [some (fz (.str (mk l))), some (fz (.int n)), some (ow []), none, none, none]) _ = _
  rw [Qn, evSs, evS, evE]
  show Q.seq (.nx (Et l n [] 0 none none)) _ = _
  rw [Qn, evSs, evS]
  rfl
theorem tokens_ok (k : Nat) (g0 : Nat) (segs : List Seg) (n : Int) (hl : (sps g0 ++ body segs).length ≤ 4000) (hn : n.natAbs ≤ 1000000) (hg : Goods segs []) (hs : segs.length ≤ 50000) :
    runF (PI (k + 3) []) 6 2 b_tokens [fz (.str (mk (sps g0 ++ body segs))), fz (.int n)] = .ok (⟨.lst (toks g0 segs), false⟩) [] := by
  have hL : g0 + (body segs).length ≤ 4000 := by simpa using hl
  obtain ⟨f', x', y', q1, q2, q3⟩ := seg_run (k := k) (l := sps g0 ++ body segs) (n := n) hl hn segs [] g0 [] none none (4096 - g0) (by simp [List.drop_append, List.drop_replicate]) hg (by simpa using hs) (by simp; omega)
  have w : whileL (evC (PI (k + 3) []) tkC) (evSs (PI (k + 3) []) tkB) 4096 (Et (sps g0 ++ body segs) n [] 0 none none) = .nx (Et (sps g0 ++ body segs) n (toks g0 segs) (g0 + (body segs).length) x' y') := by
    have s := sp_run (k := k + 3) (n := n) (acc := []) (x := none) (y := none) hl g0 0 (4096 - g0) (r := body segs) rfl
    rw [show 4096 - g0 + g0 = 4096 by omega, Nat.zero_add] at s
    rw [s, q3]
    obtain ⟨f'', rfl⟩ : ∃ f'', f' = f'' + 1 := ⟨f' - 1, by omega⟩
    have c := tk_c (k := k + 3) (n := n) (acc := [] ++ toks g0 segs) (a := g0 + (body segs).length) (x := x') (y := y') hl
    rw [decide_eq_false (by simp)] at c
    rw [wh_no c, List.nil_append]
  refine run_rt (ρ := (Et (sps g0 ++ body segs) n (toks g0 segs) (g0 + (body segs).length) x' y').set 2 (some (fz (.lst (toks g0 segs))))) rfl ?_ rfl
  show evSs (PI (k + 3) []) b_tokens [some (fz (.str (mk (sps g0 ++ body segs)))), some (fz (.int n)), none, none, none, none] = _
  rw [tk_head, w, Qn, evSs, evS, evE]
  rfl
theorem tokens_bad (k : Nat) (g0 : Nat) (segs : List Seg) (kd : Str) (t r : List Nat) (n : Int) (hl : (sps g0 ++ (body segs ++ (t ++ r))).length ≤ 4000) (hn : n.natAbs ≤ 1000000) (hg : Goods segs (t ++ r)) (hb : Bad kd t r) (hs : segs.length ≤ 50000) :
    runF (PI (k + 3) []) 6 2 b_tokens [fz (.str (mk (sps g0 ++ (body segs ++ (t ++ r))))), fz (.int n)] = .ex "TextError" (Tr n ((g0 + (body segs).length : Nat) + 1) kd) := by
  have hL : g0 + ((body segs).length + (t ++ r).length) ≤ 4000 := by simpa using hl
  obtain ⟨f', x', y', q1, q2, q3⟩ := seg_run (k := k) (l := sps g0 ++ (body segs ++ (t ++ r))) (n := n) hl hn segs (t ++ r) g0 [] none none (4096 - g0) (by simp [List.drop_append, List.drop_replicate]) hg (by simpa using hs) (by simp at hL ⊢; omega)
  obtain ⟨ch, t', ht, hc, hk⟩ := hb
  have hd : (sps g0 ++ (body segs ++ (t ++ r))).drop (g0 + (body segs).length) = t ++ r := by
    rw [show g0 + (body segs).length = (sps g0 ++ body segs).length by simp, ← List.append_assoc, List.drop_left]
  have ha := at_of (l := sps g0 ++ (body segs ++ (t ++ r))) (a := g0 + (body segs).length) (ch := ch) (t' := t') (r := r) (by rw [hd, ht])
  obtain ⟨ρ', e⟩ := tk_ex (k := k) (n := n) (acc := [] ++ toks g0 segs) (x := x') (y := y') hl ha hc hn (hk _ n _ hd)
  have lt := (List.getElem?_eq_some_iff.mp ha).1
  have w : whileL (evC (PI (k + 3) []) tkC) (evSs (PI (k + 3) []) tkB) 4096 (Et (sps g0 ++ (body segs ++ (t ++ r))) n [] 0 none none) = .ex "TextError" (Tr n ((g0 + (body segs).length : Nat) + 1) kd) ρ' := by
    have s := sp_run (k := k + 3) (n := n) (acc := []) (x := none) (y := none) hl g0 0 (4096 - g0) (r := body segs ++ (t ++ r)) rfl
    rw [show 4096 - g0 + g0 = 4096 by omega, Nat.zero_add] at s
    rw [s, q3]
    obtain ⟨f'', rfl⟩ : ∃ f'', f' = f'' + 1 := ⟨f' - 1, by rw [ht] at q1; simp at q1; omega⟩
    have c := tk_c (k := k + 3) (n := n) (acc := [] ++ toks g0 segs) (a := g0 + (body segs).length) (x := x') (y := y') hl
    rw [decide_eq_true lt] at c
    rw [wh_ex c e]
  refine run_ex (ρ := ρ') rfl ?_
  show evSs (PI (k + 3) []) b_tokens [some (fz (.str (mk (sps g0 ++ (body segs ++ (t ++ r)))))), some (fz (.int n)), none, none, none, none] = _
  rw [tk_head, w, Qx]
theorem e_xat {P : Pg} {i : Nat} {f c : Str} {gs : List (Str × D)} {d : D} {ρ : Ev.Env} (hc : P.cur = some (i, c, gs)) (hl : gs.lookup f = some d) : evE P (.xat i f) ρ = .ok (fz d) ρ := by
  rw [evE, hc]
  show (if i = i then _ else _) = _
  rw [if_pos rfl, hl, Lf, Rb]
theorem h_as {P : Pg} {x : Str} {i : Nat} {b : Ss} {hs : Hs} {c : Str} {gs : List (Str × D)} {ρ r : Ev.Env} {w : W} (m : P.xm c x = some true) (hi : ¬ (P.io.contains i = true ∨ ρ.length ≤ i)) (s : evSs (P.suite (some (i, c, gs)) (i :: P.io)) b (ρ.set i none) = .rt w r) : evHs P (.as x i b hs) c gs ρ = .rt w (r.set i none) := by
  rw [evHs, m]
  simp only [if_neg hi, s]
/-- _law_told -/
theorem told_ar {k : Nat} {l : List Nat} {n : Int} : evA (PI k []) (.cons (.var 0) (.cons (.var 1) .nil)) [some (fz (.str (mk l))), some (fz (.int n)), none] = .ok [fz (.str (mk l)), fz (.int n)] [some (fz (.str (mk l))), some (fz (.int n)), none] := by
  simp only [evA, evE, getV, List.getElem?_cons_zero, List.getElem?_cons_succ, Rb, List.set]
theorem told_ok (k : Nat) (l : List Nat) (n : Int) {d : D} (h : runF (PI k []) 6 2 b_tokens [fz (.str (mk l)), fz (.int n)] = .ok (fz d) []) : runF (PI (k + 1) []) 3 2 b_law_told [fz (.str (mk l)), fz (.int n)] = .ok (fz d) [] := by
  have e := e_call (P := PI (k + 1) []) (fs_of f_tokens) told_ar h (ρ' := [some (fz (.str (mk l))), some (fz (.int n)), none]) rfl
  refine run_rt (ρ := [some (fz (.str (mk l))), some (fz (.int n)), none]) rfl ?_ rfl
  show evSs (PI (k + 1) []) b_law_told [some (fz (.str (mk l))), some (fz (.int n)), none] = _
  unfold b_law_told
  rw [evSs, evS, if_pos (by exact ⟨rfl, by kernel_rfl⟩), evSs, evS, e]
  rfl
theorem told_bad (k : Nat) (l : List Nat) (n c : Int) (r : Str) (h : runF (PI k []) 6 2 b_tokens [fz (.str (mk l)), fz (.int n)] = .ex "TextError" (Tr n c r)) : runF (PI (k + 1) []) 3 2 b_law_told [fz (.str (mk l)), fz (.int n)] = .ok (fz (.tup [.int n, .int c, .str r])) [] := by
  have e := e_callx (P := PI (k + 1) []) (fs_of f_tokens) told_ar h rfl
  refine run_rt (ρ := [some (fz (.str (mk l))), some (fz (.int n)), none]) rfl ?_ rfl
  show evSs (PI (k + 1) []) b_law_told [some (fz (.str (mk l))), some (fz (.int n)), none] = _
  unfold b_law_told
  have three : (3 : Nat) ≤ sizeLine := by rw [sizeLine_eq]; decide
  have g1 : (Tr n c r).lookup ("line" : Str) = some (.int n) := rfl
  have g2 : (Tr n c r).lookup ("column" : Str) = some (.int c) := rfl
  have g3 : (Tr n c r).lookup ("reason" : Str) = some (.str r) := rfl
  have s : evSs ((PI (k + 1) []).suite (some (2, "TextError", Tr n c r)) [2]) (.cons (.ret (.tup (.cons (.xat 2 "line") (.cons (.xat 2 "column") (.cons (.xat 2 "reason") .nil))))) .nil) [some (fz (.str (mk l))), some (fz (.int n)), none] = .rt (fz (.tup [.int n, .int c, .str r])) [some (fz (.str (mk l))), some (fz (.int n)), none] := by
    rw [evSs, evS, evE, evEs, e_xat rfl g1, Rb, evEs, e_xat rfl g2, Rb, evEs, e_xat rfl g3, Rb, evEs, Rb, Rb, Rb, Rb, if_pos (by exact three)]
    rfl
  rw [evSs, evS, if_pos (by exact ⟨rfl, by kernel_rfl⟩), evSs, evS, e, Rxs, Qx]
  show Q.seq (if _ then _ else _) _ = _
  have m : (PI (k + 1) []).xm "TextError" "TextError" = some true := (if_pos ⟨rfl, rfl⟩ : (if ("TextError" : Str) = "TextError" ∧ ("TextError" : Str) = "TextError" then some true else none) = some true)
  rw [if_pos (by kernel_rfl), h_as m (show ¬ ((([] : List Nat).contains 2) = true ∨ 3 ≤ 2) by decide) s]
  rfl
end K00

namespace K00
open PySem PySem.Spec PyProof.Rows L2 Ev
theorem tw_app {ls : List Nat} : ∀ {t r : List Nat}, (∀ c ∈ t, c ∈ ls) → (∀ c, r.head? = some c → ¬ c ∈ ls) → (t ++ r).takeWhile (inL ls) = t
  | [], [], _, _ => rfl
  | [], c :: r, _, h => by
    have := h c rfl
    rw [List.nil_append, List.takeWhile_cons_of_neg (by simpa [inL] using this)]
  | c :: t, r, h, hr => by
    rw [List.cons_append, List.takeWhile_cons_of_pos (by simpa [inL] using h c List.mem_cons_self), tw_app (fun d hd => h d (List.mem_cons_of_mem _ hd)) hr]
theorem tw_ge {ls : List Nat} : ∀ {t r : List Nat}, (∀ c ∈ t, c ∈ ls) → t.length ≤ ((t ++ r).takeWhile (inL ls)).length
  | [], _, _ => Nat.zero_le _
  | c :: t, r, h => by
    rw [List.cons_append, List.takeWhile_cons_of_pos (by simpa [inL] using h c List.mem_cons_self), List.length_cons, List.length_cons]
    exact Nat.succ_le_succ (tw_ge fun d hd => h d (List.mem_cons_of_mem _ hd))
theorem LS : ∀ c ∈ Lt, c ∉ Sg := by decide
theorem DS : ∀ c ∈ Dg, c ∉ Sg := by decide
theorem DL : ∀ c ∈ Dg, c ∉ Lt := by decide
theorem S32 : ∀ c ∈ Sg, c ≠ 32 := by decide
theorem L32 : ∀ c ∈ Lt, c ≠ 32 := by decide
theorem D32 : ∀ c ∈ Dg, c ≠ 32 := by decide
theorem FL : ∀ c ∈ 32 :: Sg, ¬ c ∈ Lt := by decide
theorem FD : ∀ c ∈ 32 :: Sg, ¬ c ∈ Dg := by decide
/-- what may stand behind a word or a number -/
def Fol (r : List Nat) : Prop := ∀ c, r.head? = some c → c ∈ 32 :: Sg
def okP (k : Str) (t : List Nat) : Prop :=
  (k = "sign" ∧ ∃ c ∈ Sg, t = [c]) ∨ (k = "word" ∧ t ≠ [] ∧ (∀ c ∈ t, c ∈ Lt) ∧ t.length ≤ 12) ∨ (k = "number" ∧ t ≠ [] ∧ (∀ c ∈ t, c ∈ Dg) ∧ badD t = false)
def koP (k : Str) (t : List Nat) : Prop :=
  (k = "character" ∧ ∃ c, t = [c] ∧ c ∉ Sg ∧ c ∉ Lt ∧ c ∉ Dg ∧ c ≠ 32) ∨ (k = "word" ∧ (∀ c ∈ t, c ∈ Lt) ∧ 12 < t.length) ∨ (k = "number" ∧ t ≠ [] ∧ (∀ c ∈ t, c ∈ Dg) ∧ badD t = true)
theorem good_of {k : Str} {t r : List Nat} (h : okP k t) (hf : k = "sign" ∨ Fol r) : Good k t r := by
  rcases h with ⟨rfl, c, hc, rfl⟩ | ⟨rfl, hne, hall, hlen⟩ | ⟨rfl, hne, hall, hb⟩
  · exact ⟨c, [], rfl, S32 c hc, fun l n a hd => by unfold tokR; rw [if_pos hc]⟩
  · have hf' : Fol r := hf.resolve_left (by decide +kernel)
    cases t with
    | nil => exact absurd rfl hne
    | cons ch t' =>
      have hl := hall ch List.mem_cons_self
      refine ⟨ch, t', rfl, L32 ch hl, fun l n a hd => ?_⟩
      unfold tokR
      rw [if_neg (LS ch hl), if_pos hl, hd, tw_app hall fun c hc => FL c (hf' c hc), if_neg (by omega)]
  · have hf' : Fol r := hf.resolve_left (by decide +kernel)
    cases t with
    | nil => exact absurd rfl hne
    | cons ch t' =>
      have hl := hall ch List.mem_cons_self
      refine ⟨ch, t', rfl, D32 ch hl, fun l n a hd => ?_⟩
      unfold tokR
      rw [if_neg (DS ch hl), if_neg (DL ch hl), if_pos hl, hd, tw_app hall fun c hc => FD c (hf' c hc), if_neg (by rw [hb]; decide)]
theorem bad_of {k : Str} {t r : List Nat} (h : koP k t) (hf : Fol r) : Bad k t r := by
  rcases h with ⟨rfl, c, rfl, h1, h2, h3, h4⟩ | ⟨rfl, hall, hlen⟩ | ⟨rfl, hne, hall, hb⟩
  · exact ⟨c, [], rfl, h4, fun l n a hd => by unfold tokR; rw [if_neg h1, if_neg h2, if_neg h3]⟩
  · cases t with
    | nil => simp at hlen
    | cons ch t' =>
      have hl := hall ch List.mem_cons_self
      refine ⟨ch, t', rfl, L32 ch hl, fun l n a hd => ?_⟩
      unfold tokR
      rw [if_neg (LS ch hl), if_pos hl, hd, if_pos (Nat.lt_of_lt_of_le hlen (tw_ge hall))]
  · cases t with
    | nil => exact absurd rfl hne
    | cons ch t' =>
      have hl := hall ch List.mem_cons_self
      refine ⟨ch, t', rfl, D32 ch hl, fun l n a hd => ?_⟩
      unfold tokR
      rw [if_neg (DS ch hl), if_neg (DL ch hl), if_pos hl, hd, tw_app hall fun c hc => FD c (hf c hc), if_pos hb]
/-- a piece that may stand in the line -/
def anyP (s : Seg) : Prop := okP s.1 s.2.1 ∨ koP s.1 s.2.1
def Sep : List Seg → Prop
  | [] => True
  | [_] => True
  | a :: b :: r => (a.1 = "sign" ∨ b.1 = "sign" ∨ 1 ≤ a.2.2) ∧ Sep (b :: r)
theorem sign_of {s : Seg} (h : anyP s) (e : s.1 = "sign") : ∃ c ∈ Sg, s.2.1 = [c] := by
  rcases h with h | h
  · rcases h with ⟨_, h⟩ | ⟨h, _⟩ | ⟨h, _⟩
    · exact h
    · rw [e] at h; exact absurd h (by decide +kernel)
    · rw [e] at h; exact absurd h (by decide +kernel)
  · rcases h with ⟨h, _⟩ | ⟨h, _⟩ | ⟨h, _⟩ <;> (rw [e] at h; exact absurd h (by decide +kernel))
theorem fol_of {a : Seg} {r : List Seg} (hs : Sep (a :: r)) (hv : ∀ s ∈ r, anyP s) : a.1 = "sign" ∨ Fol (sps a.2.2 ++ body r) := by
  by_cases e : a.1 = "sign"
  · exact .inl e
  · refine .inr fun c hc => ?_
    cases hg : a.2.2 with
    | succ g =>
      rw [hg] at hc
      have : (32 : Nat) = c := by simpa [sps, List.replicate_succ] using hc
      rw [← this]; exact List.mem_cons_self
    | zero =>
      rw [hg] at hc
      cases r with
      | nil => simp [sps, body] at hc
      | cons b r =>
        have hb : b.1 = "sign" := by
          rcases hs.1 with h | h | h
          · exact absurd h e
          · exact h
          · omega
        obtain ⟨d, hd, ht⟩ := sign_of (hv b List.mem_cons_self) hb
        obtain ⟨bk, bt, bg⟩ := b
        have ht' : bt = [d] := ht
        subst ht'
        have : d = c := by simpa [sps, body] using hc
        rw [← this]
        exact List.mem_cons_of_mem _ hd
theorem body_app : ∀ (x y : List Seg), body (x ++ y) = body x ++ body y
  | [], y => rfl
  | (k, t, g) :: x, y => by
    show t ++ (sps g ++ body (x ++ y)) = (t ++ (sps g ++ body x)) ++ body y
    rw [body_app x y]; simp
theorem Sep.tail {a : Seg} {r : List Seg} (h : Sep (a :: r)) : Sep r := by
  cases r with
  | nil => trivial
  | cons b r => exact h.2
theorem goods_of : ∀ (x y : List Seg), (∀ s ∈ x, okP s.1 s.2.1) → (∀ s ∈ y, anyP s) → Sep (x ++ y) → Goods x (body y)
  | [], _, _, _, _ => trivial
  | (k, t, g) :: x, y, hx, hy, hs => by
    have hv : ∀ s ∈ x ++ y, anyP s := fun s h => by
      rcases List.mem_append.mp h with h | h
      · exact .inl (hx s (List.mem_cons_of_mem _ h))
      · exact hy s h
    have hf := fol_of (a := (k, t, g)) (r := x ++ y) hs hv
    rw [body_app] at hf
    exact ⟨good_of (hx _ List.mem_cons_self) hf, goods_of x y (fun s h => hx s (List.mem_cons_of_mem _ h)) hy (Sep.tail hs)⟩
theorem sep_drop : ∀ (x : List Seg) {y : List Seg}, Sep (x ++ y) → Sep y
  | [], _, h => h
  | a :: x, y, h => sep_drop x (Sep.tail (r := x ++ y) h)
/-- the whole line is told -/
theorem line_ok (k g0 : Nat) (segs : List Seg) (n : Int) (hl : (sps g0 ++ body segs).length ≤ 4000) (hn : n.natAbs ≤ 1000000) (hv : ∀ s ∈ segs, okP s.1 s.2.1) (hs : Sep segs) (hc : segs.length ≤ 100) :
    runF (PI (k + 4) []) 3 2 b_law_told [fz (.str (mk (sps g0 ++ body segs))), fz (.int n)] = .ok (fz (.lst (toks g0 segs))) [] := by
  have g := goods_of segs [] hv (fun s h => by cases h) (by simpa using hs)
  exact told_ok (k + 3) _ n (tokens_ok k g0 segs n hl hn g (by omega))
theorem line_bad (k g0 : Nat) (x : List Seg) (kd : Str) (t : List Nat) (gp : Nat) (y : List Seg) (n : Int) (hl : (sps g0 ++ body (x ++ (kd, t, gp) :: y)).length ≤ 4000) (hn : n.natAbs ≤ 1000000) (hx : ∀ s ∈ x, okP s.1 s.2.1) (hb : koP kd t) (hy : ∀ s ∈ y, okP s.1 s.2.1)
    (hs : Sep (x ++ (kd, t, gp) :: y)) (hc : x.length ≤ 100) :
    runF (PI (k + 4) []) 3 2 b_law_told [fz (.str (mk (sps g0 ++ body (x ++ (kd, t, gp) :: y)))), fz (.int n)] = .ok (fz (.tup [.int n, .int ((g0 + (body x).length : Nat) + 1), .str kd])) [] := by
  have e : body (x ++ (kd, t, gp) :: y) = body x ++ (t ++ (sps gp ++ body y)) := body_app x _
  have g := goods_of x ((kd, t, gp) :: y) hx (fun s h => by
    rcases List.mem_cons.mp h with rfl | h
    · exact .inr hb
    · exact .inl (hy s h)) hs
  have hf := fol_of (a := (kd, t, gp)) (r := y) (sep_drop x hs) (fun s h => .inl (hy s h))
  have hk : kd ≠ "sign" := by
    rcases hb with ⟨h, _⟩ | ⟨h, _⟩ | ⟨h, _⟩ <;> (rw [h]; decide +kernel)
  have b := bad_of hb (hf.resolve_left hk)
  rw [e] at hl ⊢
  exact told_bad (k + 3) _ n _ _ (tokens_bad k g0 x kd t (sps gp ++ body y) n hl hn g b (by omega))
end K00

namespace K00
open PySem PySem.Spec PyProof.Rows L2 Ev
abbrev dS (cs : List Int) (a : Nat) (b c e : Int) : List D := [.lst (cs.map D.int), .int a, .int b, .int c, .int e]
abbrev Ed (cs : List Int) (a : Nat) (b c e many : Int) (x y z : Option W) : Ev.Env := [some (ow (dS cs a b c e)), some (fz (.int many)), x, y, z]
section
variable {v0 v1 v2 v3 v4 : D}
theorem ix0 : idxD (.lst [v0, v1, v2, v3, v4]) (.int 0) = some v0 := rfl
theorem ix1 : idxD (.lst [v0, v1, v2, v3, v4]) (.int 1) = some v1 := rfl
theorem ix2 : idxD (.lst [v0, v1, v2, v3, v4]) (.int 2) = some v2 := rfl
theorem ix3 : idxD (.lst [v0, v1, v2, v3, v4]) (.int 3) = some v3 := rfl
theorem ix4 : idxD (.lst [v0, v1, v2, v3, v4]) (.int 4) = some v4 := rfl
end
theorem o_int {i : Int} : bltD "int" [.int i] = some (.val (.int i)) := by
  show (if ("int" : Str) = "int" then some (Mk.val (.int i)) else if ("int" : Str) = "str" ∧ i.natAbs.log2 < 1920 then some (Mk.val (.str (toString i))) else none) = _
  rw [if_pos rfl]
theorem o_mod {i j : Int} (h : 0 < j) : binD .Mod (.int i) (.int j) = some (.val (.int (i % j))) := if_pos h
theorem o_div {i j : Int} (h : 0 < j) (h2 : j < 2 ^ 30) : binD .FloorDiv (.int i) (.int j) = some (.val (.int (i / j))) := if_pos (by unfold CDiv; exact ⟨h, h2⟩)
section
variable {k : Nat} {cs : List Int} {a : Nat} {b c e many : Int} {x y z : Option W}
theorem dr_c1 : evC (PI k [0]) (.and (.cmp .Gt (.idxS 0 (.k (.int 4))) (.k (.int 0))) (.cmp .Gt (.idxS 0 (.k (.int 2))) (.k (.int 0)))) (Ed cs a b c e many x y z) = .ok (decide (0 < e) && decide (0 < b)) (Ed cs a b c e many x y z) := by
  simp only [Ed, evC, evE, getV, List.getElem?_cons_zero, List.getElem?_cons_succ, Rb, List.set, dS, ix4, Lf, o_gt]
  by_cases h : 0 < e
  · rw [decide_eq_true h, if_pos rfl]
    simp only [List.getElem?_cons_zero, List.getElem?_cons_succ, Rb, ix2, Lf, o_gt, Bool.true_and]
  · rw [decide_eq_false h, if_neg (by decide)]
    rfl
theorem dr_b1 (hm : 0 < many) (hm2 : many < 2 ^ 30) : evSs (PI k [0]) (.cons (.set 2 (.bin .Mod (.blt "int" (.cons (.idxS 0 (.k (.int 2))) .nil)) (.var 1))) (.cons (.put 0 (.k (.int 2)) (.bin .FloorDiv (.idxS 0 (.k (.int 2))) (.var 1))) (.cons (.put 0 (.k (.int 4)) (.bin .Sub (.idxS 0 (.k (.int 4))) (.k (.int 1)))) (.cons (.ret (.var 2)) .nil)))) (Ed cs a b c e many x y z) =
    .rt (fz (.int (b % many))) (Ed cs a (b / many) c (e - 1) many (some (fz (.int (b % many)))) y z) := by
  simp only [evSs, evS, Ed, evE, evEs, getV, List.getElem?_cons_zero, List.getElem?_cons_succ, Rb, List.set, dS, ix2, Lf, List.map, o_int, m_val, o_mod hm, Rst]
  rw [show setE (PI k [0]).io 2 (fz (.int (b % many))) [some (ow (dS cs a b c e)), some (fz (.int many)), x, y, z] = .nx [some (ow (dS cs a b c e)), some (fz (.int many)), some (fz (.int (b % many))), y, z] from rfl, Qn]
  simp only [List.getElem?_cons_zero, List.getElem?_cons_succ, Rb, List.set, dS, ix2, Lf, o_div hm hm2, m_val, Rst]
  rw [show ixN ([D.lst (cs.map D.int), .int a, .int b, .int c, .int e] : List D).length 2 = some 2 from rfl]
  simp only [Qn, List.set, List.getElem?_cons_zero, List.getElem?_cons_succ, Rb, ix4, Lf, o_sub, m_val, Rst]
  rw [show ixN ([D.lst (cs.map D.int), .int a, .int (b / many), .int c, .int e] : List D).length 4 = some 4 from rfl]
  simp only [Qn, List.set, List.getElem?_cons_zero, List.getElem?_cons_succ, Rst]
  rfl
theorem o_mul {i j : Int} (h : CMul i j) : binD .Mult (.int i) (.int j) = some (.val (.int (i * j))) := if_pos h
theorem o_pow {i j : Int} (h : CPow i j) : binD .Pow (.int i) (.int j) = some (.val (.int (i ^ j.toNat))) := if_pos h
theorem dr_s2 : evS (PI k [0]) (.set 3 (.bin .Add (.idxS 0 (.k (.int 3))) (.bin .Mult (.k (.int 7919)) (.idxS 0 (.k (.int 1)))))) (Ed cs a b c e many x y z) = .nx (Ed cs a b c e many x (some (fz (.int (c + 7919 * a)))) z) := by
  have m : CMul 7919 (a : Int) := by unfold CMul; exact .inl (by decide)
  simp only [evS, Ed, evE, getV, List.getElem?_cons_zero, List.getElem?_cons_succ, Rb, List.set, dS, ix3, ix1, Lf, o_mul m, m_val, o_add, Rst]
  rfl
theorem dr_s3 (hcs : cs.length ≤ 100000) : ∃ cell : Int, ∀ {y0 : Int}, ∃ cell : Int, evS (PI k [0]) (.ifs (.cmp .Lt (.idxS 0 (.k (.int 1))) (.blt "len" (.cons (.idxS 0 (.k (.int 0))) .nil))) (.cons (.set 3 (.idx (.idxS 0 (.k (.int 0))) (.idxS 0 (.k (.int 1))))) .nil) .nil) (Ed cs a b c e many x (some (fz (.int y0))) z) = .nx (Ed cs a b c e many x (some (fz (.int cell))) z) := by
  refine ⟨0, fun {y0} => ?_⟩
  have t : evC (PI k [0]) (.cmp .Lt (.idxS 0 (.k (.int 1))) (.blt "len" (.cons (.idxS 0 (.k (.int 0))) .nil))) (Ed cs a b c e many x (some (fz (.int y0))) z) = .ok (decide ((a : Int) < (cs.map D.int).length)) (Ed cs a b c e many x (some (fz (.int y0))) z) := by
    simp only [Ed, evC, evE, evEs, getV, List.getElem?_cons_zero, List.getElem?_cons_succ, Rb, List.set, List.map, dS, ix0, ix1, Lf, o_lenL, m_val, o_lt]
  by_cases h : (a : Int) < (cs.map D.int).length
  · have ha : a < cs.length := by simpa using h
    refine ⟨cs[a], ?_⟩
    have ix : idxD (.lst (cs.map D.int)) (.int a) = some (.int cs[a]) := by
      rw [o_ixL, List.getElem?_map, List.getElem?_eq_getElem ha]; rfl
    rw [evS, t, Rst, if_pos (decide_eq_true h), evSs, evS]
    simp only [Ed, evE, getV, List.getElem?_cons_zero, List.getElem?_cons_succ, Rb, List.set, dS, ix0, ix1, Lf, ix, Rst]
    rfl
  · exact ⟨y0, by rw [evS, t, Rst, if_neg (by simpa using h), evSs]⟩
theorem dr_s4 : evS (PI k [0]) (.put 0 (.k (.int 1)) (.bin .Add (.idxS 0 (.k (.int 1))) (.k (.int 1)))) (Ed cs a b c e many x y z) = .nx (Ed cs (a + 1) b c e many x y z) := by
  simp only [evS, Ed, evE, getV, List.getElem?_cons_zero, List.getElem?_cons_succ, Rb, List.set, dS, ix1, Lf, m_val, o_add, Rst]
  rfl
theorem dr_s5 {cell : Int} : ∃ t : Bool, evC (PI k [0]) (.cmp .GtE (.var 3) (.bin .Pow (.k (.int 10)) (.k (.int 18)))) (Ed cs a b c e many x (some (fz (.int cell))) z) = .ok t (Ed cs a b c e many x (some (fz (.int cell))) z) := by
  have m : CPow 10 18 := by
    refine ⟨by decide, by decide, ?_⟩
    show (10 : Nat) < 2 ^ 64
    decide
  have p : ∃ B : Int, binD .Pow (.int 10) (.int 18) = some (.val (.int B)) := ⟨_, o_pow m⟩
  obtain ⟨B, p⟩ := p
  refine ⟨decide (B ≤ cell), ?_⟩
  simp only [evC, Ed, evE, getV, List.getElem?_cons_zero, List.getElem?_cons_succ, Rb, List.set, Lf, m_val, p, o_ge]
theorem dr_b5 {cell : Int} (hm : 0 < many) (hm2 : many < 2 ^ 30) : evSs (PI k [0]) (.cons (.put 0 (.k (.int 2)) (.bin .FloorDiv (.var 3) (.var 1))) (.cons (.put 0 (.k (.int 4)) (.k (.int 60))) (.cons (.ret (.bin .Mod (.blt "int" (.cons (.var 3) .nil)) (.var 1))) .nil))) (Ed cs a b c e many x (some (fz (.int cell))) z) =
    .rt (fz (.int (cell % many))) (Ed cs a (cell / many) c 60 many x (some (fz (.int cell))) z) := by
  simp only [evSs, evS, Ed, evE, getV, List.getElem?_cons_zero, List.getElem?_cons_succ, Rb, List.set, dS, Lf, m_val, o_div hm hm2, Rst]
  rw [show ixN ([D.lst (cs.map D.int), .int a, .int b, .int c, .int e] : List D).length 2 = some 2 from rfl]
  simp only [Qn, List.set, List.getElem?_cons_zero, List.getElem?_cons_succ, Rb, Lf, m_val, Rst]
  rw [show ixN ([D.lst (cs.map D.int), .int a, .int (cell / many), .int c, .int e] : List D).length 4 = some 4 from rfl]
  simp only [Qn, List.set, evE, evEs, getV, List.getElem?_cons_zero, List.getElem?_cons_succ, Rb, List.map, o_int, Lf, m_val, o_mod hm, Rst]
  rfl
theorem dr_s6g {cell q1 q2 M A : Int} (m1 : CMul cell q1) (m2 : CMul A q2) (m3 : 0 < M) : evS (PI k [0]) (.set 4 (.bin .Mod (.blt "int" (.cons (.bin .Add (.bin .Add (.bin .Mult (.var 3) (.k (.int q1))) (.bin .Mult (.idxS 0 (.k (.int 1))) (.k (.int q2)))) (.idxS 0 (.k (.int 3)))) .nil)) (.k (.int M)))) [some (ow [.lst (cs.map D.int), .int A, .int b, .int c, .int e]), some (fz (.int many)), x, some (fz (.int cell)), z] =
    .nx [some (ow [.lst (cs.map D.int), .int A, .int b, .int c, .int e]), some (fz (.int many)), x, some (fz (.int cell)), some (fz (.int ((cell * q1 + A * q2 + c) % M)))] := by
  simp only [evS, evE, evEs, getV, List.getElem?_cons_zero, List.getElem?_cons_succ, Rb, List.set, List.map, ix1, ix3, Lf, o_mul m1, o_mul m2, m_val, o_add, o_int, o_mod m3, Rst]
  rfl
theorem dr_s6 {cell : Int} : ∃ f : Int, 0 ≤ f ∧ f < 2147483647 ∧ evS (PI k [0]) (.set 4 (.bin .Mod (.blt "int" (.cons (.bin .Add (.bin .Add (.bin .Mult (.var 3) (.k (.int 48271))) (.bin .Mult (.idxS 0 (.k (.int 1))) (.k (.int 69621)))) (.idxS 0 (.k (.int 3)))) .nil)) (.k (.int 2147483647)))) (Ed cs a b c e many x (some (fz (.int cell))) z) =
    .nx (Ed cs a b c e many x (some (fz (.int cell))) (some (fz (.int f)))) := by
  have m3 : (0 : Int) < 2147483647 := by decide
  exact ⟨_, Int.emod_nonneg _ (by decide), Int.emod_lt_of_pos _ m3, dr_s6g (A := (a : Int)) (by unfold CMul; exact .inr (by decide)) (by unfold CMul; exact .inr (by decide)) m3⟩
theorem dr_s7 {f : Int} (h0 : 0 ≤ f) (h1 : f < 2147483647) : ∃ c' : Int, evS (PI k [0]) (.put 0 (.k (.int 3)) (.bin .Mod (.blt "int" (.cons (.bin .Add (.bin .Add (.bin .Mult (.var 4) (.k (.int 16807))) (.bin .Mult (.var 4) (.var 4))) (.k (.int 11))) .nil)) (.k (.int 2147483629)))) (Ed cs a b c e many x y (some (fz (.int f)))) =
    .nx (Ed cs a b c' e many x y (some (fz (.int f)))) := by
  have m1 : CMul f 16807 := by unfold CMul; exact .inr (by decide)
  have m2 : CMul f f := by unfold CMul; exact .inl (by omega)
  have m3 : (0 : Int) < 2147483629 := by decide
  refine ⟨(f * 16807 + f * f + 11) % 2147483629, ?_⟩
  simp only [evS, Ed, evE, evEs, getV, List.getElem?_cons_zero, List.getElem?_cons_succ, Rb, List.set, List.map, dS, Lf, o_mul m1, o_mul m2, m_val, o_add, o_int, o_mod m3, Rst]
  rfl
theorem dr_s8 (hm : 0 < many) : evS (PI k [0]) (.ret (.bin .Mod (.blt "int" (.cons (.bin .FloorDiv (.idxS 0 (.k (.int 3))) (.k (.int 3))) .nil)) (.var 1))) (Ed cs a b c e many x y z) = .rt (fz (.int (c / 3 % many))) (Ed cs a b c e many x y z) := by
  have m3 : binD .FloorDiv (.int c) (.int 3) = some (.val (.int (c / 3))) := o_div (by decide) (by decide)
  simp only [evS, Ed, evE, evEs, getV, List.getElem?_cons_zero, List.getElem?_cons_succ, Rb, List.set, List.map, dS, ix3, Lf, m3, m_val, o_int, o_mod hm, Rst]
end
/-- a state that may be drawn from -/
def Sta (ds : List D) : Prop := ∃ (cs : List Int) (a : Nat) (b c e : Int), ds = dS cs a b c e ∧ cs.length ≤ 63
theorem draw_ok (k : Nat) {ds : List D} (hs : Sta ds) {many : Int} (hm : 0 < many) (hm2 : many < 2 ^ 30) : ∃ (v : Int) (ds' : List D), 0 ≤ v ∧ v < many ∧ Sta ds' ∧ runF (PI k []) 5 2 b_law_draw [⟨.lst ds, true⟩, fz (.int many)] = .ok (fz (.int v)) [ow ds'] := by
  obtain ⟨cs, a, b, c, e, rfl, hcs⟩ := hs
  by_cases h : (decide (0 < e) && decide (0 < b)) = true
  · refine ⟨b % many, dS cs a (b / many) c (e - 1), Int.emod_nonneg _ (by omega), Int.emod_lt_of_pos _ hm, ⟨cs, a, _, c, _, rfl, hcs⟩, run_rt (ρ := Ed cs a (b / many) c (e - 1) many (some (fz (.int (b % many)))) none none) rfl ?_ rfl⟩
    show evSs (PI k [0]) b_law_draw (Ed cs a b c e many none none none) = _
    unfold b_law_draw
    rw [evSs, evS, dr_c1, Rst, if_pos h, dr_b1 hm hm2, Qr]
  · obtain ⟨_, f3⟩ := dr_s3 (k := k) (cs := cs) (a := a) (b := b) (c := c) (e := e) (many := many) (x := none) (z := none) (by omega)
    obtain ⟨cell, e3⟩ := f3 (y0 := c + 7919 * a)
    have hd : evSs (PI k [0]) b_law_draw (Ed cs a b c e many none none none) = evSs (PI k [0]) (.cons (.ifs (.cmp .GtE (.var 3) (.bin .Pow (.k (.int 10)) (.k (.int 18)))) (.cons (.put 0 (.k (.int 2)) (.bin .FloorDiv (.var 3) (.var 1))) (.cons (.put 0 (.k (.int 4)) (.k (.int 60))) (.cons (.ret (.bin .Mod (.blt "int" (.cons (.var 3) .nil)) (.var 1))) .nil))) .nil)
        (.cons (.set 4 (.bin .Mod (.blt "int" (.cons (.bin .Add (.bin .Add (.bin .Mult (.var 3) (.k (.int 48271))) (.bin .Mult (.idxS 0 (.k (.int 1))) (.k (.int 69621)))) (.idxS 0 (.k (.int 3)))) .nil)) (.k (.int 2147483647))))
        (.cons (.put 0 (.k (.int 3)) (.bin .Mod (.blt "int" (.cons (.bin .Add (.bin .Add (.bin .Mult (.var 4) (.k (.int 16807))) (.bin .Mult (.var 4) (.var 4))) (.k (.int 11))) .nil)) (.k (.int 2147483629))))
        (.cons (.ret (.bin .Mod (.blt "int" (.cons (.bin .FloorDiv (.idxS 0 (.k (.int 3))) (.k (.int 3))) .nil)) (.var 1))) .nil)))) (Ed cs (a + 1) b c e many none (some (fz (.int cell))) none) := by
      unfold b_law_draw
      rw [evSs, evS, dr_c1, Rst, if_neg h, evSs, Qn, evSs, dr_s2, Qn, evSs, e3, Qn, evSs, dr_s4, Qn]
    obtain ⟨t5, e5⟩ := dr_s5 (k := k) (cs := cs) (a := a + 1) (b := b) (c := c) (e := e) (many := many) (x := none) (z := none) (cell := cell)
    by_cases h5 : t5 = true
    · refine ⟨cell % many, dS cs (a + 1) (cell / many) c 60, Int.emod_nonneg _ (by omega), Int.emod_lt_of_pos _ hm, ⟨cs, a + 1, _, c, _, rfl, hcs⟩, run_rt (ρ := Ed cs (a + 1) (cell / many) c 60 many none (some (fz (.int cell))) none) rfl ?_ rfl⟩
      show evSs (PI k [0]) b_law_draw (Ed cs a b c e many none none none) = _
      rw [hd, evSs, evS, e5, Rst, if_pos h5, dr_b5 hm hm2, Qr]
    · obtain ⟨f, g0, g1, e6⟩ := dr_s6 (k := k) (cs := cs) (a := a + 1) (b := b) (c := c) (e := e) (many := many) (x := none) (z := none) (cell := cell)
      obtain ⟨c', e7⟩ := dr_s7 (k := k) (cs := cs) (a := a + 1) (b := b) (c := c) (e := e) (many := many) (x := none) (y := some (fz (.int cell))) g0 g1
      refine ⟨c' / 3 % many, dS cs (a + 1) b c' e, Int.emod_nonneg _ (by omega), Int.emod_lt_of_pos _ hm, ⟨cs, a + 1, b, c', e, rfl, hcs⟩, run_rt (ρ := Ed cs (a + 1) b c' e many none (some (fz (.int cell))) (some (fz (.int f)))) rfl ?_ rfl⟩
      show evSs (PI k [0]) b_law_draw (Ed cs a b c e many none none none) = _
      rw [hd, evSs, evS, e5, Rst, if_neg h5, evSs, Qn, evSs, e6, Qn, evSs, e7, Qn, evSs, dr_s8 hm, Qr]
end K00

namespace K00
open PySem PySem.Spec PyProof.Rows L2 Ev
theorem o_listL {xs : List D} : bltD "list" [.lst xs] = some (.lst xs) := by
  show (if ("list" : Str) = "len" then some (Mk.val (.int xs.length)) else if ("list" : Str) = "list" then some (Mk.lst xs) else none) = _
  rw [if_neg (by decide +kernel), if_pos rfl]
theorem state_ok (k : Nat) (ns : List Int) : runF (PI k []) 1 1 b_law_state [fz (.lst (ns.map D.int))] = .ok (ow (dS ns 0 0 1 0)) [] := by
  have five : (5 : Nat) ≤ sizeLine := by rw [sizeLine_eq]; decide
  refine run_rt (ρ := [some (fz (.lst (ns.map D.int)))]) rfl ?_ rfl
  show evSs (PI k []) b_law_state [some (fz (.lst (ns.map D.int)))] = _
  unfold b_law_state
  simp only [evSs, evS, evE, evEs, getV, List.getElem?_cons_zero, Rb, List.set, List.map, o_listL, Lf, Rst]
  rw [if_pos (by exact five)]
  rfl
theorem dcallE (k : Nat) {io : List Nat} {ρ : Ev.Env} {i : Nat} {ds : List D} (h : ρ[i]? = some (some (ow ds))) (hs : Sta ds) {e : E} {m : Int} (he : evE (PI (k + 1) io) e (ρ.set i none) = .ok (fz (.int m)) (ρ.set i none)) (hm : 0 < m) (hm2 : m < 2 ^ 30) :
    ∃ (v : Int) (ds' : List D), 0 ≤ v ∧ v < m ∧ Sta ds' ∧ evE (PI (k + 1) io) (.call "_law_draw" (.io i (.cons e .nil))) ρ = .ok (fz (.int v)) (ρ.set i (some (ow ds'))) := by
  obtain ⟨v, ds', h1, h2, h3, h4⟩ := draw_ok k hs hm hm2
  refine ⟨v, ds', h1, h2, h3, e_call (fs_of f_law_draw) (ρ1 := ρ.set i none) ?_ h4 ?_⟩
  · rw [evA, h]
    show (evA (PI (k + 1) io) (.cons e .nil) (ρ.set i none)).bind _ = _
    rw [evA, he, Rb, evA, Rb, Rb]
  · show some ((ρ.set i none).set i (some (ow ds'))) = _
    rw [List.set_set]
theorem dcall (k : Nat) {io : List Nat} {ρ : Ev.Env} {i : Nat} {ds : List D} (h : ρ[i]? = some (some (ow ds))) (hs : Sta ds) {m : Int} (hm : 0 < m) (hm2 : m < 2 ^ 30) :
    ∃ (v : Int) (ds' : List D), 0 ≤ v ∧ v < m ∧ Sta ds' ∧ evE (PI (k + 1) io) (.call "_law_draw" (.io i (.cons (.k (.int m)) .nil))) ρ = .ok (fz (.int v)) (ρ.set i (some (ow ds'))) :=
  dcallE k h hs (by rw [evE]) hm hm2
abbrev Ep (ds : List D) (p w t : Option W) : Ev.Env := [some (ow ds), p, w, t]
abbrev pcB : Ss := .cons (.set 2 (.bin .Add (.var 2) (.idx (.k (.str "abcdefghijklmnopqrstuvwxyz")) (.call "_law_draw" (.io 0 (.cons (.k (.int 26)) .nil)))))) .nil
theorem pc_b (k : Nat) {ds : List D} (hs : Sta ds) (p t : Option W) (w : List Nat) (hw : w.length ≤ 1000) : ∃ c ds', c ∈ Lt ∧ Sta ds' ∧ evSs (PI (k + 1) [0]) pcB (Ep ds p (some (fz (.str (mk w)))) t) = .nx (Ep ds' p (some (fz (.str (mk (w ++ [c])))) ) t) := by
  obtain ⟨v, ds', h1, h2, h3, h4⟩ := dcall k (io := [0]) (ρ := Ep ds p (some (fz (.str (mk w)))) t) (i := 0) rfl hs (m := 26) (by decide) (by decide)
  obtain ⟨n, rfl⟩ := Int.eq_ofNat_of_zero_le h1
  have hn : n < Lt.length := by show n < 26; omega
  have z26 : Lt.length ≤ sizeLine := by rw [sizeLine_eq]; decide
  have ix : idxD (.str (mk Lt)) (.int (n : Int)) = some (.str (mk [Lt[n]])) := by rw [o_ixS z26, List.getElem?_eq_getElem hn]; rfl
  have ad : binD .Add (.str (mk w)) (.str (mk [Lt[n]])) = some (.val (.str (mk (w ++ [Lt[n]])))) := by rw [o_addS (by rw [mk_len, mk_len, sizeLine_eq]; simp; omega), mk_app]
  refine ⟨Lt[n], ds', List.getElem_mem hn, h3, ?_⟩
  rw [evSs, evS, evE]
  rw [show evE (PI (k + 1) [0]) (.var 2) (Ep ds p (some (fz (.str (mk w)))) t) = .ok (fz (.str (mk w))) (Ep ds p (some (fz (.str (mk w)))) t) by rw [evE]; rfl, Rb, evE, evE, Rb, h4, Rb, s_Lt]
  show Q.seq (R.st ((R.bind (lift (idxD (.str (mk Lt)) (.int (n : Int))) _) _).bind _) _) _ = _
  rw [ix, Lf, Rb, Rb]
  show Q.seq (R.st (R.bind (lift (binD .Add (.str (mk w)) (.str (mk [Lt[n]]))) _) _) _) _ = _
  rw [ad, Lf, Rb, Rst]
  show Q.seq (.nx _) _ = _
  rw [Qn, evSs]
  rfl
abbrev pcF (k : Nat) : D → Ev.Env → Q := fun d r => match bindT (PI (k + 1) [0]).io [3] true d r with
  | some r' => evSs (PI (k + 1) [0]) pcB r'
  | none => .no
theorem pc_l (k : Nat) : ∀ (xs : List D) {ds : List D} (hs : Sta ds) (p t : Option W) (w : List Nat), (∀ c ∈ w, c ∈ Lt) → w.length + xs.length ≤ 1000 →
    ∃ w' ds' t', (∀ c ∈ w', c ∈ Lt) ∧ w'.length = w.length + xs.length ∧ Sta ds' ∧ forL (pcF k) xs (Ep ds p (some (fz (.str (mk w)))) t) = .nx (Ep ds' p (some (fz (.str (mk w')))) t')
  | [], ds, hs, p, t, w, hw, _ => ⟨w, ds, t, hw, rfl, hs, rfl⟩
  | d :: xs, ds, hs, p, t, w, hw, hl => by
    have hl' : w.length + (xs.length + 1) ≤ 1000 := by simpa using hl
    obtain ⟨c, ds1, hc, hs1, e1⟩ := pc_b k hs p (some (fz d)) w (by omega)
    obtain ⟨w', ds', t', g1, g2, g3, g4⟩ := pc_l k xs hs1 p (some (fz d)) (w ++ [c]) (fun x hx => by
      rcases List.mem_append.mp hx with h | h
      · exact hw x h
      · simp at h; rw [h]; exact hc) (by simp; omega)
    refine ⟨w', ds', t', g1, by rw [g2]; simp; omega, g3, ?_⟩
    have st : pcF k d (Ep ds p (some (fz (.str (mk w)))) t) = .nx (Ep ds1 p (some (fz (.str (mk (w ++ [c]))))) (some (fz d))) := e1
    show (match pcF k d (Ep ds p (some (fz (.str (mk w)))) t) with | .nx ρ2 => forL (pcF k) xs ρ2 | .ct ρ2 => forL (pcF k) xs ρ2 | .bk ρ2 => .nx ρ2 | .rt w ρ2 => .rt w ρ2 | .ex x gs ρ2 => .ex x gs ρ2 | .no => .no) = _
    rw [st]
    exact g4
/-- a number's text -/
def nT (i : Int) : List Nat := (Str.ofString (toString i)).cps.toList
def nOk (i : Int) : Bool := decide (nT i ≠ []) && (nT i).all (fun c => decide (c ∈ Dg)) && !(badD (nT i)) && decide ((nT i).length ≤ 12)
theorem nOk_a : ∀ n : Fin 30, nOk (n.val : Int) = true := by decide +kernel
theorem nOk_b : ∀ n : Fin 9, nOk (999999 - (n.val : Int)) = true := by decide +kernel
theorem n_ok {i : Int} (h : nOk i = true) : okP "number" (nT i) ∧ (nT i).length ≤ 12 := by
  unfold nOk at h
  simp only [Bool.and_eq_true, decide_eq_true_eq, Bool.not_eq_true', List.all_eq_true] at h
  exact ⟨.inr (.inr ⟨rfl, h.1.1.1, h.1.1.2, h.1.2⟩), h.2⟩
theorem o_str {i : Int} (h : i.natAbs.log2 < 1920) : bltD "str" [.int i] = some (.val (.str (mk (nT i)))) := by
  show (if ("str" : Str) = "int" then some (Mk.val (.int i)) else if ("str" : Str) = "str" ∧ i.natAbs.log2 < 1920 then some (Mk.val (.str (toString i))) else none) = _
  rw [if_neg (by decide +kernel), if_pos ⟨rfl, h⟩]
  rfl
end K00

namespace K00
open PySem PySem.Spec PyProof.Rows L2 Ev
section
variable {P : Pg} {ρ ρ1 ρ2 ρ3 : Ev.Env} {a b c i : E} {x y z : W} {d : D} {m : Ev.Mk}
theorem e_idx (h1 : evE P a ρ = .ok x ρ1) (h2 : evE P i ρ1 = .ok y ρ2) (h : idxD x.d y.d = some d) : evE P (.idx a i) ρ = .ok (fz d) ρ2 := by
  rw [evE, h1, Rb, h2, Rb, h, Lf, Rb]
theorem e_bin {o : Operator} (h1 : evE P a ρ = .ok x ρ1) (h2 : evE P b ρ1 = .ok y ρ2) (h : binD o x.d y.d = some m) : evE P (.bin o a b) ρ = .ok m.w ρ2 := by
  rw [evE, h1, Rb, h2, Rb, h, Lf, Rb]
theorem e_blt1 {f : Str} (h1 : evE P a ρ = .ok x ρ1) (h : bltD f [x.d] = some m) : evE P (.blt f (.cons a .nil)) ρ = .ok m.w ρ1 := by
  rw [evE, evEs, h1, Rb, evEs, Rb, Rb]
  show (lift (bltD f [x.d]) _).bind _ = _
  rw [h, Lf, Rb]
theorem two_le : (2 : Nat) ≤ sizeLine := by rw [sizeLine_eq]; decide
theorem three_le : (3 : Nat) ≤ sizeLine := by rw [sizeLine_eq]; decide
theorem e_tup2 (h1 : evE P a ρ = .ok x ρ1) (h2 : evE P b ρ1 = .ok y ρ2) : evE P (.tup (.cons a (.cons b .nil))) ρ = .ok (fz (.tup [x.d, y.d])) ρ2 := by
  rw [evE, evEs, h1, Rb, evEs, h2, Rb, evEs, Rb, Rb, Rb, if_pos (show ([fz x.d, fz y.d] : List W).length ≤ sizeLine from two_le)]
  rfl
theorem e_tup3 (h1 : evE P a ρ = .ok x ρ1) (h2 : evE P b ρ1 = .ok y ρ2) (h3 : evE P c ρ2 = .ok z ρ3) : evE P (.tup (.cons a (.cons b (.cons c .nil)))) ρ = .ok (fz (.tup [x.d, y.d, z.d])) ρ3 := by
  rw [evE, evEs, h1, Rb, evEs, h2, Rb, evEs, h3, Rb, evEs, Rb, Rb, Rb, Rb, if_pos (show ([fz x.d, fz y.d, fz z.d] : List W).length ≤ sizeLine from three_le)]
  rfl
theorem e_lst3 (h1 : evE P a ρ = .ok x ρ1) (h2 : evE P b ρ1 = .ok y ρ2) (h3 : evE P c ρ2 = .ok z ρ3) : evE P (.lst (.cons a (.cons b (.cons c .nil)))) ρ = .ok (ow [x.d, y.d, z.d]) ρ3 := by
  rw [evE, evEs, h1, Rb, evEs, h2, Rb, evEs, h3, Rb, evEs, Rb, Rb, Rb, Rb, if_pos (show ([fz x.d, fz y.d, fz z.d] : List W).length ≤ sizeLine from three_le)]
  rfl
theorem e_k : evE P (.k d) ρ = .ok (fz d) ρ := by rw [evE]
theorem e_var {j : Nat} (h : ρ[j]? = some (some x)) : evE P (.var j) ρ = .ok (fz x.d) (ρ.set j (some (fz x.d))) := by
  rw [evE]; unfold getV; rw [h]
end
theorem ixA {v0 v1 v2 : D} {v : Int} (h0 : 0 ≤ v) (h1 : v < 3) : ∃ d, idxD (.lst [v0, v1, v2]) (.int v) = some d ∧ (d = v0 ∨ d = v1 ∨ d = v2) := by
  rcases (by omega : v = 0 ∨ v = 1 ∨ v = 2) with e | e | e <;> subst e
  · exact ⟨v0, rfl, .inl rfl⟩
  · exact ⟨v1, rfl, .inr (.inl rfl)⟩
  · exact ⟨v2, rfl, .inr (.inr rfl)⟩
abbrev pcN : E := .blt "str" (.cons (.idx (.lst (.cons (.call "_law_draw" (.io 0 (.cons (.k (.int 30)) .nil))) (.cons (.bin .Sub (.k (.int 999999)) (.call "_law_draw" (.io 0 (.cons (.k (.int 9)) .nil)))) (.cons (.k (.int 0)) .nil)))) (.call "_law_draw" (.io 0 (.cons (.k (.int 3)) .nil)))) .nil)
theorem pc_n (k : Nat) {ds : List D} (hs : Sta ds) (p w t : Option W) : ∃ x ds', okP "number" x ∧ x.length ≤ 12 ∧ Sta ds' ∧ evE (PI (k + 1) [0]) pcN (Ep ds p w t) = .ok (fz (.str (mk x))) (Ep ds' p w t) := by
  obtain ⟨v1, d1, a1, a2, s1, e1⟩ := dcall k (io := [0]) (ρ := Ep ds p w t) (i := 0) rfl hs (m := 30) (by decide) (by decide)
  obtain ⟨v2, d2, b1, b2, s2, e2⟩ := dcall k (io := [0]) (ρ := Ep d1 p w t) (i := 0) rfl s1 (m := 9) (by decide) (by decide)
  obtain ⟨v3, d3, c1, c2, s3, e3⟩ := dcall k (io := [0]) (ρ := Ep d2 p w t) (i := 0) rfl s2 (m := 3) (by decide) (by decide)
  obtain ⟨d, i1, i2⟩ := ixA (v0 := .int v1) (v1 := .int (999999 - v2)) (v2 := .int 0) c1 c2
  have l := e_lst3 e1 (e_bin (e_k (d := .int 999999)) e2 o_sub) (e_k (d := .int 0))
  have g : ∃ i : Int, d = .int i ∧ nOk i = true := by
    rcases i2 with e | e | e
    · obtain ⟨n, rfl⟩ := Int.eq_ofNat_of_zero_le a1
      exact ⟨_, e, nOk_a ⟨n, by omega⟩⟩
    · obtain ⟨n, rfl⟩ := Int.eq_ofNat_of_zero_le b1
      exact ⟨_, e, nOk_b ⟨n, by omega⟩⟩
    · exact ⟨0, e, nOk_a ⟨0, by omega⟩⟩
  obtain ⟨i, hd, hi⟩ := g
  subst hd
  have big : i.natAbs ≤ 1000000 := by
    rcases i2 with e | e | e
    · cases e; omega
    · cases e; omega
    · cases e; decide
  have lg : i.natAbs.log2 < 1920 := by
    by_cases h0 : i.natAbs = 0
    · rw [h0]; decide
    · exact Nat.lt_of_lt_of_le ((Nat.log2_lt h0).mpr (Nat.lt_of_le_of_lt big (by decide : 1000000 < 2 ^ 20))) (by decide)
  exact ⟨nT i, d3, (n_ok hi).1, (n_ok hi).2, s3, e_blt1 (e_idx l e3 i1) (o_str lg)⟩
theorem s_sg : (("=" : Str) = mk [61] ∧ (";" : Str) = mk [59] ∧ ("," : Str) = mk [44]) ∧ ("(" : Str) = mk [40] ∧ (")" : Str) = mk [41] := by decide +kernel
theorem ixB {v0 v1 v2 v3 v4 : D} {v : Int} (h0 : 0 ≤ v) (h1 : v < 5) : ∃ d, idxD (.lst [v0, v1, v2, v3, v4]) (.int v) = some d ∧ (d = v0 ∨ d = v1 ∨ d = v2 ∨ d = v3 ∨ d = v4) := by
  rcases (by omega : v = 0 ∨ v = 1 ∨ v = 2 ∨ v = 3 ∨ v = 4) with e | e | e | e | e <;> subst e
  · exact ⟨v0, rfl, .inl rfl⟩
  · exact ⟨v1, rfl, .inr (.inl rfl)⟩
  · exact ⟨v2, rfl, .inr (.inr (.inl rfl))⟩
  · exact ⟨v3, rfl, .inr (.inr (.inr (.inl rfl)))⟩
  · exact ⟨v4, rfl, .inr (.inr (.inr (.inr rfl)))⟩
abbrev pcS : E := .idx (.lst (.cons (.k (.str "=")) (.cons (.k (.str ";")) (.cons (.k (.str ",")) (.cons (.k (.str "(")) (.cons (.k (.str ")")) .nil)))))) (.call "_law_draw" (.io 0 (.cons (.k (.int 5)) .nil)))
theorem pc_s (k : Nat) {ds : List D} (hs : Sta ds) (p w t : Option W) : ∃ x ds', okP "sign" x ∧ x.length ≤ 12 ∧ Sta ds' ∧ evE (PI (k + 1) [0]) pcS (Ep ds p w t) = .ok (fz (.str (mk x))) (Ep ds' p w t) := by
  obtain ⟨v1, d1, a1, a2, s1, e1⟩ := dcall k (io := [0]) (ρ := Ep ds p w t) (i := 0) rfl hs (m := 5) (by decide) (by decide)
  have five : (5 : Nat) ≤ sizeLine := by rw [sizeLine_eq]; decide
  have l : evE (PI (k + 1) [0]) (.lst (.cons (.k (.str "=")) (.cons (.k (.str ";")) (.cons (.k (.str ",")) (.cons (.k (.str "(")) (.cons (.k (.str ")")) .nil)))))) (Ep ds p w t) = .ok (ow [.str (mk [61]), .str (mk [59]), .str (mk [44]), .str (mk [40]), .str (mk [41])]) (Ep ds p w t) := by
    simp only [evE, evEs, Rb, s_sg.1.1, s_sg.1.2.1, s_sg.1.2.2, s_sg.2.1, s_sg.2.2]
    rw [if_pos (by exact five)]
    rfl
  obtain ⟨d, i1, i2⟩ := ixB (v0 := .str (mk [61])) (v1 := .str (mk [59])) (v2 := .str (mk [44])) (v3 := .str (mk [40])) (v4 := .str (mk [41])) a1 a2
  have g : ∃ c ∈ Sg, d = .str (mk [c]) := by
    rcases i2 with e | e | e | e | e
    · exact ⟨61, by decide, e⟩
    · exact ⟨59, by decide, e⟩
    · exact ⟨44, by decide, e⟩
    · exact ⟨40, by decide, e⟩
    · exact ⟨41, by decide, e⟩
  obtain ⟨c, hc, rfl⟩ := g
  exact ⟨[c], d1, .inl ⟨rfl, c, hc, rfl⟩, by simp, s1, e_idx l e1 i1⟩
abbrev pcW : Ss := .cons (.set 2 (.k (.str ""))) (.cons (.for_ [3] true (.rng1 (.bin .Add (.k (.int 1)) (.call "_law_draw" (.io 0 (.cons (.k (.int 12)) .nil))))) pcB) (.cons (.ret (.tup (.cons (.k (.str "word")) (.cons (.var 2) .nil)))) .nil))
theorem s_nil : ("" : Str) = mk [] := by decide +kernel
theorem pc_w (k : Nat) {ds : List D} (hs : Sta ds) (p : Option W) : ∃ x ds' w' t', okP "word" x ∧ x.length ≤ 12 ∧ Sta ds' ∧ evSs (PI (k + 1) [0]) pcW (Ep ds p none none) = .rt (fz (.tup [.str "word", .str (mk x)])) (Ep ds' p w' t') := by
  obtain ⟨v1, d1, a1, a2, s1, e1⟩ := dcall k (io := [0]) (ρ := Ep ds p (some (fz (.str (mk [])))) none) (i := 0) rfl hs (m := 12) (by decide) (by decide)
  obtain ⟨n, rfl⟩ := Int.eq_ofNat_of_zero_le a1
  obtain ⟨x, d2, t', g1, g2, g3, g4⟩ := pc_l k (rngD 0 (1 + (n : Int)).toNat) s1 p none [] (fun c h => by cases h) (by simp [rngD]; omega)
  have len : x.length = n + 1 := by rw [g2]; simp [rngD]; omega
  have rg : evI (PI (k + 1) [0]) (.rng1 (.bin .Add (.k (.int 1)) (.call "_law_draw" (.io 0 (.cons (.k (.int 12)) .nil))))) (Ep ds p (some (fz (.str (mk [])))) none) = .ok (rngD 0 (1 + (n : Int)).toNat) (Ep d1 p (some (fz (.str (mk [])))) none) := by
    rw [evI, e_bin e_k e1 o_add, Rb]
    show (if -(2 ^ 62) ≤ (1 + (n : Int)) ∧ (1 + (n : Int)) < 2 ^ 62 then _ else _) = _
    rw [if_pos (by omega)]
    rfl
  refine ⟨x, d2, some (fz (.str (mk x))), t', .inr (.inl ⟨rfl, by intro e; rw [e] at len; simp at len, g1, by omega⟩), by omega, g3, ?_⟩
  have s0 : evS (PI (k + 1) [0]) (.set 2 (.k (.str ""))) (Ep ds p none none) = .nx (Ep ds p (some (fz (.str (mk [])))) none) := by
    rw [evS, e_k, Rst, s_nil]; rfl
  have s2 : evS (PI (k + 1) [0]) (.for_ [3] true (.rng1 (.bin .Add (.k (.int 1)) (.call "_law_draw" (.io 0 (.cons (.k (.int 12)) .nil))))) pcB) (Ep ds p (some (fz (.str (mk [])))) none) = .nx (Ep d2 p (some (fz (.str (mk x)))) t') := by
    rw [evS, if_pos (show (PI (k + 1) [0]).calm = true from rfl), rg, Rst]
    exact g4
  rw [evSs, s0, Qn, evSs, s2, Qn, evSs, evS, e_tup2 e_k (e_var (x := fz (.str (mk x))) rfl), Rst, Qr]
  rfl
/-- _law_piece -/
theorem piece_ok (k : Nat) {ds : List D} (hs : Sta ds) : ∃ kd x ds', okP kd x ∧ x.length ≤ 12 ∧ Sta ds' ∧ runF (PI (k + 1) []) 4 1 b_law_piece [⟨.lst ds, true⟩] = .ok (fz (.tup [.str kd, .str (mk x)])) [ow ds'] := by
  obtain ⟨v1, d1, a1, a2, s1, e1⟩ := dcall k (io := [0]) (ρ := Ep ds none none none) (i := 0) rfl hs (m := 3) (by decide) (by decide)
  have s0 : evS (PI (k + 1) [0]) (.set 1 (.call "_law_draw" (.io 0 (.cons (.k (.int 3)) .nil)))) (Ep ds none none none) = .nx (Ep d1 (some (fz (.int v1))) none none) := by
    rw [evS, e1, Rst]; rfl
  have tst : ∀ j : Int, evC (PI (k + 1) [0]) (.cmp .Eq (.var 1) (.k (.int j))) (Ep d1 (some (fz (.int v1))) none none) = .ok (decide (v1 = j)) (Ep d1 (some (fz (.int v1))) none none) := fun j => by
    rw [evC, e_var (x := fz (.int v1)) rfl, Rb, e_k, Rb]
    rfl
  have start : ∀ {r : Q}, evSs (PI (k + 1) [0]) b_law_piece (Ep ds none none none) = r → evSs (PI (k + 1) [0]) b_law_piece ([(⟨.lst ds, true⟩ : W)].map some ++ List.replicate 3 none) = r := fun h => h
  by_cases p0 : v1 = 0
  · obtain ⟨x, d2, w', t', g1, g2, g3, g4⟩ := pc_w k s1 (some (fz (.int v1)))
    refine ⟨"word", x, d2, g1, g2, g3, run_rt (ρ := Ep d2 (some (fz (.int v1))) w' t') rfl (start ?_) rfl⟩
    unfold b_law_piece
    rw [evSs, s0, Qn, evSs, evS, tst, Rst, if_pos (decide_eq_true p0), g4, Qr]
  by_cases p1 : v1 = 1
  · obtain ⟨x, d2, g1, g2, g3, g4⟩ := pc_n k s1 (some (fz (.int v1))) none none
    refine ⟨"number", x, d2, g1, g2, g3, run_rt (ρ := Ep d2 (some (fz (.int v1))) none none) rfl (start ?_) rfl⟩
    unfold b_law_piece
    rw [evSs, s0, Qn, evSs, evS, tst, Rst, if_neg (by simpa using p0), evSs, Qn, evSs, evS, tst, Rst, if_pos (decide_eq_true p1), evSs, evS, e_tup2 e_k g4, Rst, Qr, Qr]
  · obtain ⟨x, d2, g1, g2, g3, g4⟩ := pc_s k s1 (some (fz (.int v1))) none none
    refine ⟨"sign", x, d2, g1, g2, g3, run_rt (ρ := Ep d2 (some (fz (.int v1))) none none) rfl (start ?_) rfl⟩
    unfold b_law_piece
    rw [evSs, s0, Qn, evSs, evS, tst, Rst, if_neg (by simpa using p0), evSs, Qn, evSs, evS, tst, Rst, if_neg (by simpa using p1), evSs, Qn, evSs, evS, e_tup2 e_k g4, Rst, Qr]
end K00

namespace K00
open PySem PySem.Spec PyProof.Rows L2 Ev
/-- a piece as data -/
abbrev Pc := Str × List Nat
def pD (p : Pc) : D := .tup [.str p.1, .str (mk p.2)]
theorem o_addL {xs ys : List D} (h : xs.length + ys.length ≤ sizeLine) : binD .Add (.lst xs) (.lst ys) = some (.lst (xs ++ ys)) := if_pos h
theorem s_wr : (("A" : Str) = mk [65] ∧ ("-" : Str) = mk [45] ∧ ("|" : Str) = mk [124] ∧ ("abcdefghijklm" : Str) = mk [97, 98, 99, 100, 101, 102, 103, 104, 105, 106, 107, 108, 109]) ∧ ("00" : Str) = mk [48, 48] ∧ ("01" : Str) = mk [48, 49] ∧ ("1000000" : Str) = mk [49, 48, 48, 48, 48, 48, 48] := by decide +kernel
def wrs : List Pc := [("character", [65]), ("character", [45]), ("character", [124]), ("word", [97, 98, 99, 100, 101, 102, 103, 104, 105, 106, 107, 108, 109]), ("number", [48, 48]), ("number", [48, 49]), ("number", [49, 48, 48, 48, 48, 48, 48])]
theorem wrs_ko : ∀ p ∈ wrs, koP p.1 p.2 ∧ p.2.length ≤ 13 := by
  intro p hp
  simp only [wrs, List.mem_cons, List.not_mem_nil, or_false] at hp
  rcases hp with e | e | e | e | e | e | e <;> subst e
  · exact ⟨.inl ⟨rfl, 65, rfl, by decide, by decide, by decide, by decide⟩, by decide⟩
  · exact ⟨.inl ⟨rfl, 45, rfl, by decide, by decide, by decide, by decide⟩, by decide⟩
  · exact ⟨.inl ⟨rfl, 124, rfl, by decide, by decide, by decide, by decide⟩, by decide⟩
  · exact ⟨.inr (.inl ⟨rfl, by decide, by decide⟩), by decide⟩
  · exact ⟨.inr (.inr ⟨rfl, by decide, by decide, by decide⟩), by decide⟩
  · exact ⟨.inr (.inr ⟨rfl, by decide, by decide, by decide⟩), by decide⟩
  · exact ⟨.inr (.inr ⟨rfl, by decide, by decide, by decide⟩), by decide⟩
theorem idx_nat {xs : List D} {v : Int} (h0 : 0 ≤ v) (h1 : v < xs.length) : ∃ d, idxD (.lst xs) (.int v) = some d ∧ d ∈ xs := by
  obtain ⟨n, rfl⟩ := Int.eq_ofNat_of_zero_le h0
  have hn : n < xs.length := by omega
  exact ⟨xs[n], (o_ixL).trans (List.getElem?_eq_getElem hn), List.getElem_mem hn⟩
/-- _law_wrong -/
theorem wrong_ok (k : Nat) {ds : List D} (hs : Sta ds) : ∃ (p : Pc) (ds' : List D), koP p.1 p.2 ∧ p.2.length ≤ 13 ∧ Sta ds' ∧ runF (PI (k + 1) []) 2 1 b_law_wrong [⟨.lst ds, true⟩] = .ok (fz (pD p)) [ow ds'] := by
  obtain ⟨v1, d1, a1, a2, s1, e1⟩ := dcall k (io := [0]) (ρ := [some (ow ds), some (ow (wrs.map pD))]) (i := 0) rfl hs (m := 7) (by decide) (by decide)
  obtain ⟨d, i1, i2⟩ := idx_nat (xs := wrs.map pD) a1 (by show v1 < 7; exact a2)
  obtain ⟨p, hp, rfl⟩ := List.mem_map.mp i2
  have five : (5 : Nat) ≤ sizeLine := by rw [sizeLine_eq]; decide
  have seven : (5 + 2 : Nat) ≤ sizeLine := by rw [sizeLine_eq]; decide
  refine ⟨p, d1, (wrs_ko p hp).1, (wrs_ko p hp).2, s1, run_rt (ρ := [some (ow d1), some (ow (wrs.map pD))]) rfl ?_ rfl⟩
  show evSs (PI (k + 1) [0]) b_law_wrong [some (ow ds), none] = _
  unfold b_law_wrong
  have r1 : evS (PI (k + 1) [0]) (.set 1 (.lst (.cons (.tup (.cons (.k (.str "character")) (.cons (.k (.str "A")) .nil))) (.cons (.tup (.cons (.k (.str "character")) (.cons (.k (.str "-")) .nil))) (.cons (.tup (.cons (.k (.str "character")) (.cons (.k (.str "|")) .nil))) (.cons (.tup (.cons (.k (.str "word")) (.cons (.k (.str "abcdefghijklm")) .nil))) (.cons (.tup (.cons (.k (.str "number")) (.cons (.k (.str "00")) .nil))) .nil))))))) [some (ow ds), none] =
      .nx [some (ow ds), some (ow ((wrs.take 5).map pD))] := by
    rw [evS, evE]
    simp only [evEs, e_tup2 e_k e_k, Rb, s_wr.1.1, s_wr.1.2.1, s_wr.1.2.2.1, s_wr.1.2.2.2, s_wr.2.1]
    rw [if_pos (by exact five)]
    rfl
  have r2 : evS (PI (k + 1) [0]) (.set 1 (.bin .Add (.var 1) (.lst (.cons (.tup (.cons (.k (.str "number")) (.cons (.k (.str "01")) .nil))) (.cons (.tup (.cons (.k (.str "number")) (.cons (.k (.str "1000000")) .nil))) .nil))))) [some (ow ds), some (ow ((wrs.take 5).map pD))] =
      .nx [some (ow ds), some (ow (wrs.map pD))] := by
    have l2 : evE (PI (k + 1) [0]) (.lst (.cons (.tup (.cons (.k (.str "number")) (.cons (.k (.str "01")) .nil))) (.cons (.tup (.cons (.k (.str "number")) (.cons (.k (.str "1000000")) .nil))) .nil))) [some (ow ds), some (fz (.lst ((wrs.take 5).map pD)))] = .ok (ow ((wrs.drop 5).map pD)) [some (ow ds), some (fz (.lst ((wrs.take 5).map pD)))] := by
      rw [evE]
      simp only [evEs, e_tup2 e_k e_k, Rb, s_wr.2.2.1, s_wr.2.2.2]
      rw [if_pos (by exact two_le)]
      rfl
    have ad : binD .Add (.lst ((wrs.take 5).map pD)) (.lst ((wrs.drop 5).map pD)) = some (.lst (wrs.map pD)) := o_addL (by exact seven)
    rw [evS, e_bin (e_var (x := ow ((wrs.take 5).map pD)) rfl) l2 ad, Rst]
    rfl
  rw [evSs, r1, Qn, evSs, r2, Qn, evSs, evS, evE]
  show Q.seq (R.st (R.bind (evE (PI (k + 1) [0]) (.call "_law_draw" (.io 0 (.cons (.k (.int 7)) .nil))) [some (ow ds), some (ow (wrs.map pD))]) _) _) _ = _
  rw [e1, Rb]
  show Q.seq (R.st (R.bind (lift (idxD (.lst (wrs.map pD)) (.int v1)) _) _) _) _ = _
  rw [i1, Lf, Rb, Rst, Qr]
  rfl
/-! ### law -/
abbrev EL (sc st pc tn nb at_ ln du kk kd tx : Option W) : Ev.Env := [sc, st, pc, tn, nb, at_, ln, du, kk, kd, tx]
theorem io_call {P : Pg} {f : Str} {i : Nat} {ρ : Ev.Env} {g : List W → FR} {ds ds' : List D} {w : W} (hf : P.fs f = some g) (h : ρ[i]? = some (some (ow ds))) (hg : g [⟨.lst ds, true⟩] = .ok w [ow ds']) : evE P (.call f (.io i .nil)) ρ = .ok w (ρ.set i (some (ow ds'))) := by
  refine e_call hf (ρ1 := ρ.set i none) ?_ hg ?_
  · rw [evA, h]
    show (evA P .nil (ρ.set i none)).bind _ = _
    rw [evA, Rb]
  · show some ((ρ.set i none).set i (some (ow ds'))) = _
    rw [List.set_set]
theorem comp_ok (k : Nat) (sc : Option W) : ∀ (xs : List D) {ds : List D}, Sta ds → ∃ (ps : List Pc) (ds' : List D), ps.length = xs.length ∧ (∀ p ∈ ps, okP p.1 p.2 ∧ p.2.length ≤ 12) ∧ Sta ds' ∧
    compL (fun d r => (evE (PI (k + 2) []) (.call "_law_piece" (.io 1 .nil)) (r.set 3 (some (fz d)))).bind fun w r1 => .ok w (r1.set 3 none)) xs (EL sc (some (ow ds)) none none none none none none none none none) = .ok (ps.map pD) (EL sc (some (ow ds')) none none none none none none none none none)
  | [], ds, hs => ⟨[], ds, rfl, (fun p h => absurd h (List.not_mem_nil)), hs, rfl⟩
  | d :: xs, ds, hs => by
    obtain ⟨kd, x, d1, g1, g2, s1, e1⟩ := piece_ok k hs
    obtain ⟨ps, d2, h1, h2, s2, e2⟩ := comp_ok k sc xs s1
    refine ⟨(kd, x) :: ps, d2, by simp [h1], fun p hp => ?_, s2, ?_⟩
    · rcases List.mem_cons.mp hp with e | hp
      · subst e; exact ⟨g1, g2⟩
      · exact h2 p hp
    · have c := io_call (P := PI (k + 2) []) (fs_of f_law_piece) (i := 1) (ρ := EL sc (some (ow ds)) none (some (fz d)) none none none none none none none) rfl e1
      have c' : (fun d r => (evE (PI (k + 2) []) (.call "_law_piece" (.io 1 .nil)) (r.set 3 (some (fz d)))).bind fun w r1 => .ok w (r1.set 3 none)) d (EL sc (some (ow ds)) none none none none none none none none none) = (.ok (fz (.tup [.str kd, .str (mk x)])) (EL sc (some (ow d1)) none none none none none none none none none) : R W) := by
        show (evE (PI (k + 2) []) (.call "_law_piece" (.io 1 .nil)) (EL sc (some (ow ds)) none (some (fz d)) none none none none none none none)).bind _ = _
        rw [c]
        rfl
      simp only [compL]
      simp only at c'
      rw [c']
      simp only
      rw [e2]
      rfl
theorem cut_lo {xs : List D} {n : Nat} : slD (.lst xs) none (some (n : Int)) = some (.lst (xs.take n)) := by
  show some (Mk.lst (Ev.cutD xs none (some (n : Int)))) = _
  unfold Ev.cutD
  rw [HT.sIx_none, HT.sIx_nat]
  simp [List.take_eq_take_iff]
theorem cut_hi {xs : List D} {n : Nat} : slD (.lst xs) (some (n : Int)) none = some (.lst (xs.drop n)) := by
  show some (Mk.lst (Ev.cutD xs (some (n : Int)) none)) = _
  unfold Ev.cutD
  rw [HT.sIx_none, HT.sIx_nat]
  by_cases h : n ≤ xs.length
  · rw [Nat.min_eq_left h, List.take_of_length_le (by simp)]
  · rw [Nat.min_eq_right (by omega), List.drop_eq_nil_of_le (Nat.le_refl _), List.drop_eq_nil_of_le (by omega)]; simp
end K00

namespace K00
open PySem PySem.Spec PyProof.Rows L2 Ev
abbrev lwA : S := .unp [9, 10] (.idxS 2 (.var 8))
abbrev lwX : Ss := .cons (.set 7 (.tup (.cons (.var 4) (.cons (.bin .Add (.blt "len" (.cons (.var 6) .nil)) (.k (.int 1))) (.cons (.var 9) .nil))))) .nil
abbrev lwY : Ss := .cons (.ifs (.tr (.isl 7)) (.cons (.app 7 (.tup (.cons (.var 9) (.cons (.var 10) (.cons (.bin .Add (.blt "len" (.cons (.var 6) .nil)) (.k (.int 1))) .nil))))) .nil) .nil) .nil
abbrev lwB : S := .ifs (.cmp .Eq (.var 8) (.var 5)) lwX lwY
abbrev lwC : S := .set 6 (.bin .Add (.bin .Add (.var 6) (.var 10)) (.bin .Mult (.k (.str " ")) (.call "_law_draw" (.io 1 (.cons (.k (.int 3)) .nil)))))
abbrev lwT : C := .and (.cmp .Lt (.bin .Add (.var 8) (.k (.int 1))) (.blt "len" (.cons (.var 2) .nil))) (.and (.cmp .NotEq (.idx (.idxS 2 (.bin .Add (.var 8) (.k (.int 1)))) (.k (.int 0))) (.k (.str "sign"))) (.and (.cmp .NotEq (.var 9) (.k (.str "sign"))) (.cmp .NotEq (.idxS 6 (.neg (.k (.int 1)))) (.k (.str " ")))))
abbrev lwD : S := .ifs lwT (.cons (.set 6 (.bin .Add (.var 6) (.k (.str " ")))) .nil) .nil
abbrev lwBody : Ss := .cons lwA (.cons lwB (.cons lwC (.cons lwD .nil)))
theorem o_rep {v : Int} (h0 : 0 ≤ v) (h1 : v ≤ 1000) : binD .Mult (.str (mk [32])) (.int v) = some (.val (.str (mk (sps v.toNat)))) := by
  have e : repS (mk [32]) v = mk (sps v.toNat) := by
    unfold repS
    rw [mk_l]
    show mk ((List.replicate v.toNat [32]).flatten) = mk (List.replicate v.toNat 32)
    rw [List.flatten_replicate_singleton]
  have c : (mk [32]).length * v.toNat ≤ sizeLine ∧ (mk [32]).length ≤ 1048576 ∧ -1048576 ≤ v ∧ v ≤ 1048576 := by
    rw [mk_len, sizeLine_eq]
    refine ⟨by simp; omega, by decide, by omega, by omega⟩
  show (if (mk [32]).length * v.toNat ≤ sizeLine ∧ (mk [32]).length ≤ 1048576 ∧ -1048576 ≤ v ∧ v ≤ 1048576 then some (Mk.val (.str (repS (mk [32]) v))) else none) = _
  rw [if_pos c, e]
theorem toks_snoc : ∀ (x : List Seg) (p : Nat) (k : Str) (t : List Nat) (g : Nat), toks p (x ++ [(k, t, g)]) = toks p x ++ [.tup [.str k, .str (mk t), .int (((p + (body x).length : Nat) : Int) + 1)]]
  | [], p, k, t, g => by simp [toks, body]
  | (k', t', g') :: x, p, k, t, g => by
    show D.tup _ :: toks _ (x ++ [(k, t, g)]) = _
    rw [toks_snoc x]
    have e : p + t'.length + g' + (body x).length = p + (body ((k', t', g') :: x)).length := by simp [body]; omega
    rw [e]
    rfl
theorem body_snoc (x : List Seg) (k : Str) (t : List Nat) (g : Nat) : body (x ++ [(k, t, g)]) = body x ++ (t ++ sps g) := by
  rw [body_app]; simp [body]
/-- what is due so far: at is the place of the wrong piece -/
def dueW (g0 : Nat) (nb : Int) (at_ : Option Nat) (segs : List Seg) : W := match at_ with
  | none => ow (toks g0 segs)
  | some j => match segs[j]? with
    | none => ow (toks g0 segs)
    | some s => fz (.tup [.int nb, .int (((g0 + (body (segs.take j)).length : Nat) : Int) + 1), .str s.1])
theorem due_at {g0 : Nat} {nb : Int} {j : Nat} {segs : List Seg} {s : Seg} (h : segs[j]? = some s) : dueW g0 nb (some j) segs = fz (.tup [.int nb, .int (((g0 + (body (segs.take j)).length : Nat) : Int) + 1), .str s.1]) := by
  show (match segs[j]? with | none => _ | some s => _) = _
  rw [h]
theorem due_no {g0 : Nat} {nb : Int} {j : Nat} {segs : List Seg} (h : segs[j]? = none) : dueW g0 nb (some j) segs = ow (toks g0 segs) := by
  show (match segs[j]? with | none => _ | some s => _) = _
  rw [h]
def atI' : Option Nat → Int
  | none => -1
  | some j => j
section
variable {sc tn kk kd0 tx0 : Option W} {ds : List D} {ps : List Pc} {nb : Int} {at_ : Option Nat} {g0 i : Nat} {segs : List Seg} {p : Pc} {ln : List Nat} {W0 : W} {io : List Nat}
theorem lw_a (hp : ps[i]? = some p) : evS (PI 12 []) lwA (EL sc (some (ow ds)) (some (fz (.lst (ps.map pD)))) tn (some (fz (.int nb))) (some (fz (.int (atI' at_)))) (some (fz (.str (mk ln)))) (some W0) (some (fz (.int i))) kd0 tx0) =
    .nx (EL sc (some (ow ds)) (some (fz (.lst (ps.map pD)))) tn (some (fz (.int nb))) (some (fz (.int (atI' at_)))) (some (fz (.str (mk ln)))) (some W0) (some (fz (.int i))) (some (fz (.str p.1))) (some (fz (.str (mk p.2))))) := by
  have ix : idxD (.lst (ps.map pD)) (.int i) = some (pD p) := by rw [o_ixL, List.getElem?_map, hp]; rfl
  rw [evS, if_pos (show (PI 12 []).calm = true from rfl), evE]
  show (R.st (R.bind (evE (PI 12 []) (.var 8) _) _) _) = _
  rw [e_var (x := fz (.int i)) rfl, Rb]
  show (R.st (R.bind (lift (idxD (.lst (ps.map pD)) (.int i)) _) _) _) = _
  rw [ix, Lf, Rb, Rst]
  rfl
theorem lw_len {ρ : Ev.Env} (hl : ln.length ≤ 4000) (h6 : ρ[6]? = some (some (fz (.str (mk ln))))) (hs : ρ.set 6 (some (fz (.str (mk ln)))) = ρ) : evE (PI 12 []) (.bin .Add (.blt "len" (.cons (.var 6) .nil)) (.k (.int 1))) ρ = .ok (fz (.int ((ln.length : Int) + 1))) ρ := by
  have hz : (mk ln).length ≤ sizeLine := by rw [mk_len, sizeLine_eq]; omega
  have e := e_var (P := PI 12 []) h6
  rw [show (fz (fz (D.str (mk ln))).d) = fz (D.str (mk ln)) from rfl, hs] at e
  have q := e_bin (e_blt1 e (o_len hz)) (e_k (d := .int 1)) o_add
  rw [mk_len] at q
  exact q
theorem due_snoc (h : (toks g0 segs).length < 100000) (hl : ln.length ≤ 4000) (hln : ln.length = g0 + (body segs).length) (hi : segs.length = i) (g : Nat) :
    evS (PI 12 []) lwB (EL sc (some (ow ds)) (some (fz (.lst (ps.map pD)))) tn (some (fz (.int nb))) (some (fz (.int (atI' at_)))) (some (fz (.str (mk ln)))) (some (dueW g0 nb at_ segs)) (some (fz (.int i))) (some (fz (.str p.1))) (some (fz (.str (mk p.2))))) =
    .nx (EL sc (some (ow ds)) (some (fz (.lst (ps.map pD)))) tn (some (fz (.int nb))) (some (fz (.int (atI' at_)))) (some (fz (.str (mk ln)))) (some (dueW g0 nb at_ (segs ++ [(p.1, p.2, g)]))) (some (fz (.int i))) (some (fz (.str p.1))) (some (fz (.str (mk p.2))))) := by
  have tst : ∀ W0 : W, evC (PI 12 []) (.cmp .Eq (.var 8) (.var 5)) (EL sc (some (ow ds)) (some (fz (.lst (ps.map pD)))) tn (some (fz (.int nb))) (some (fz (.int (atI' at_)))) (some (fz (.str (mk ln)))) (some W0) (some (fz (.int i))) (some (fz (.str p.1))) (some (fz (.str (mk p.2))))) = .ok (decide ((i : Int) = atI' at_)) (EL sc (some (ow ds)) (some (fz (.lst (ps.map pD)))) tn (some (fz (.int nb))) (some (fz (.int (atI' at_)))) (some (fz (.str (mk ln)))) (some W0) (some (fz (.int i))) (some (fz (.str p.1))) (some (fz (.str (mk p.2))))) := fun W0 => by
    rw [evC, e_var (x := fz (.int i)) rfl, Rb, e_var (x := fz (.int (atI' at_))) rfl, Rb]
    rfl
  have le : ∀ W0 : W, evE (PI 12 []) (.bin .Add (.blt "len" (.cons (.var 6) .nil)) (.k (.int 1))) (EL sc (some (ow ds)) (some (fz (.lst (ps.map pD)))) tn (some (fz (.int nb))) (some (fz (.int (atI' at_)))) (some (fz (.str (mk ln)))) (some W0) (some (fz (.int i))) (some (fz (.str p.1))) (some (fz (.str (mk p.2))))) = _ := fun W0 => lw_len hl rfl rfl
  have app : evSs (PI 12 []) lwY (EL sc (some (ow ds)) (some (fz (.lst (ps.map pD)))) tn (some (fz (.int nb))) (some (fz (.int (atI' at_)))) (some (fz (.str (mk ln)))) (some (ow (toks g0 segs))) (some (fz (.int i))) (some (fz (.str p.1))) (some (fz (.str (mk p.2))))) =
      .nx (EL sc (some (ow ds)) (some (fz (.lst (ps.map pD)))) tn (some (fz (.int nb))) (some (fz (.int (atI' at_)))) (some (fz (.str (mk ln)))) (some (ow (toks g0 (segs ++ [(p.1, p.2, g)])))) (some (fz (.int i))) (some (fz (.str p.1))) (some (fz (.str (mk p.2))))) := by
    have t := e_tup3 (e_var (P := PI 12 []) (ρ := EL sc (some (ow ds)) (some (fz (.lst (ps.map pD)))) tn (some (fz (.int nb))) (some (fz (.int (atI' at_)))) (some (fz (.str (mk ln)))) (some (ow (toks g0 segs))) (some (fz (.int i))) (some (fz (.str p.1))) (some (fz (.str (mk p.2))))) (x := fz (.str p.1)) (j := 9) rfl) (e_var (x := fz (.str (mk p.2))) (j := 10) rfl) (le (ow (toks g0 segs)))
    have hs : (toks g0 segs).length < sizeLine := by rw [sizeLine_eq]; omega
    have isl : evC (PI 12 []) (.tr (.isl 7)) (EL sc (some (ow ds)) (some (fz (.lst (ps.map pD)))) tn (some (fz (.int nb))) (some (fz (.int (atI' at_)))) (some (fz (.str (mk ln)))) (some (ow (toks g0 segs))) (some (fz (.int i))) (some (fz (.str p.1))) (some (fz (.str (mk p.2))))) = .ok true (EL sc (some (ow ds)) (some (fz (.lst (ps.map pD)))) tn (some (fz (.int nb))) (some (fz (.int (atI' at_)))) (some (fz (.str (mk ln)))) (some (ow (toks g0 segs))) (some (fz (.int i))) (some (fz (.str p.1))) (some (fz (.str (mk p.2))))) := by
      rw [evC, evE]; rfl
    rw [evSs, evS, isl, Rst, if_pos rfl, evSs, evS]
    show (Q.seq (Q.seq (R.st (evE (PI 12 []) _ _) _) _) _) = _
    rw [t, Rst]
    show (Q.seq (Q.seq (if (toks g0 segs).length < sizeLine then _ else _) _) _) = _
    rw [if_pos hs, Qn, evSs, Qn, evSs, toks_snoc, hln]
    rfl
  rw [evS, tst, Rst]
  cases at_ with
  | none =>
    rw [if_neg (by simp [atI'])]
    exact app
  | some j =>
    by_cases h1 : i = j
    · subst h1
      rw [if_pos (by simp [atI'])]
      have t := e_tup3 (e_var (P := PI 12 []) (ρ := EL sc (some (ow ds)) (some (fz (.lst (ps.map pD)))) tn (some (fz (.int nb))) (some (fz (.int (atI' (some i))))) (some (fz (.str (mk ln)))) (some (dueW g0 nb (some i) segs)) (some (fz (.int i))) (some (fz (.str p.1))) (some (fz (.str (mk p.2))))) (x := fz (.int nb)) (j := 4) rfl) (le (dueW g0 nb (some i) segs)) (e_var (x := fz (.str p.1)) (j := 9) rfl)
      rw [evSs, evS]
      have t' := congrArg (fun r : R W => (r.st fun w ρ1 => setE (PI 12 []).io 7 w ρ1).seq fun ρ1 => evSs (PI 12 []) .nil ρ1) t
      refine Eq.trans t' ?_
      show (Q.seq (setE [] 7 _ _) _) = _
      have e : dueW g0 nb (some i) (segs ++ [(p.1, p.2, g)]) = fz (.tup [.int nb, .int (((g0 + (body segs).length : Nat) : Int) + 1), .str p.1]) := by
        rw [due_at (s := (p.1, p.2, g)) (by rw [← hi]; simp), ← hi]
        simp
      rw [e, ← hln]
      show (Q.seq (.nx _) _) = _
      rw [Qn, evSs]
      rfl
    · rw [if_neg (fun z => h1 (by have q : (i : Int) = (j : Int) := of_decide_eq_true z; omega))]
      by_cases h2 : j < i
      · have hj : j < segs.length := by omega
        have e1 : dueW g0 nb (some j) segs = fz (.tup [.int nb, .int (((g0 + (body (segs.take j)).length : Nat) : Int) + 1), .str segs[j].1]) := by
          exact due_at (List.getElem?_eq_getElem hj)
        have e2 : dueW g0 nb (some j) (segs ++ [(p.1, p.2, g)]) = fz (.tup [.int nb, .int (((g0 + (body (segs.take j)).length : Nat) : Int) + 1), .str segs[j].1]) := by
          rw [due_at (s := segs[j]) (by rw [List.getElem?_append_left hj, List.getElem?_eq_getElem hj]), List.take_append_of_le_length (by omega)]
        rw [e1, e2, evSs, evS, evC, evE]
        rfl
      · have hj : segs.length < j := by omega
        have e1 : dueW g0 nb (some j) segs = ow (toks g0 segs) := by
          exact due_no (List.getElem?_eq_none (by omega))
        have e2 : dueW g0 nb (some j) (segs ++ [(p.1, p.2, g)]) = ow (toks g0 (segs ++ [(p.1, p.2, g)])) := by
          exact due_no (List.getElem?_eq_none (by simp; omega))
        rw [e1, e2]
        exact app
end
end K00

namespace K00
open PySem PySem.Spec PyProof.Rows L2 Ev
theorem c_and_t {P : Pg} {a b : C} {ρ ρ1 : Ev.Env} {r : R Bool} (h : evC P a ρ = .ok true ρ1) (h2 : evC P b ρ1 = r) : evC P (.and a b) ρ = r := by
  rw [evC, h, Rb, if_pos rfl, h2]
theorem c_and_f {P : Pg} {a b : C} {ρ ρ1 : Ev.Env} (h : evC P a ρ = .ok false ρ1) : evC P (.and a b) ρ = .ok false ρ1 := by
  rw [evC, h, Rb, if_neg (by decide)]
theorem c_cmp {P : Pg} {o : CmpOp} {a b : E} {ρ ρ1 ρ2 : Ev.Env} {x y : W} {t : Bool} (h1 : evE P a ρ = .ok x ρ1) (h2 : evE P b ρ1 = .ok y ρ2) (h : cmpD o x.d y.d = some t) : evC P (.cmp o a b) ρ = .ok t ρ2 := by
  rw [evC, h1, Rb, h2, Rb, h, Lf]
theorem e_idxS {P : Pg} {n : Nat} {i : E} {ρ ρ1 : Ev.Env} {w0 w y : W} {d : D} (h0 : ρ[n]? = some (some w0)) (h1 : evE P i ρ = .ok y ρ1) (h2 : ρ1[n]? = some (some w)) (h : idxD w.d y.d = some d) : evE P (.idxS n i) ρ = .ok (fz d) ρ1 := by
  rw [evE, h0]
  show (evE P i ρ).bind _ = _
  rw [h1, Rb]
  show (match ρ1[n]? with | some (some w) => (lift (idxD w.d y.d) ρ1).bind fun d ρ3 => R.ok (fz d) ρ3 | _ => R.no) = _
  rw [h2]
  show (lift (idxD w.d y.d) ρ1).bind _ = _
  rw [h, Lf, Rb]
theorem e_neg {P : Pg} {a : E} {ρ ρ1 : Ev.Env} {i : Int} (h : evE P a ρ = .ok (fz (.int i)) ρ1) : evE P (.neg a) ρ = .ok (fz (.int (-i))) ρ1 := by
  rw [evE, h, Rb]
theorem o_last {l : List Nat} {c : Nat} (hz : l.length ≤ sizeLine) (h : l.getLast? = some c) : idxD (.str (mk l)) (.int (-1)) = some (.str (mk [c])) := by
  have ne : l ≠ [] := by intro e; rw [e] at h; cases h
  have pos : 0 < l.length := List.length_pos_iff.mpr ne
  show (if (mk l).length ≤ sizeLine then (atI (mk l).cps.toList (-1)).map _ else none) = _
  rw [mk_len, if_pos hz, mk_l]
  have a : atI l (-1) = some c := by
    unfold atI ixN
    rw [if_neg (by decide), if_pos (by omega)]
    show l[(((-1 : Int) + l.length).toNat)]? = some c
    rw [show ((-1 : Int) + l.length).toNat = l.length - 1 by omega, ← List.getLast?_eq_getElem?]
    exact h
  rw [a]
  rfl
theorem s_sign : ∀ k : Str, cmpD .NotEq (.str k) (.str "sign") = some (!(decide (k = "sign"))) := fun k => rfl
section
variable {sc tn : Option W} {ds : List D} {ps : List Pc} {nb at_ : Int} {i : Nat} {p : Pc} {l : List Nat} {W0 : W}
abbrev LE (sc : Option W) (ds : List D) (ps : List Pc) (tn : Option W) (nb at_ : Int) (l : List Nat) (W0 : W) (i : Nat) (p : Pc) : Ev.Env := EL sc (some (ow ds)) (some (fz (.lst (ps.map pD)))) tn (some (fz (.int nb))) (some (fz (.int at_))) (some (fz (.str (mk l)))) (some W0) (some (fz (.int i))) (some (fz (.str p.1))) (some (fz (.str (mk p.2))))
theorem lw_t {c : Nat} (hl : l.length ≤ 4000) (hc : l.getLast? = some c) (hps : ps.length ≤ 1000) : ∃ b, evC (PI 12 []) lwT (LE sc ds ps tn nb at_ l W0 i p) = .ok b (LE sc ds ps tn nb at_ l W0 i p) ∧ (∀ q, ps[i + 1]? = some q → q.1 ≠ "sign" → p.1 ≠ "sign" → c ≠ 32 → b = true) := by
  have hz : l.length ≤ sizeLine := by rw [sizeLine_eq]; omega
  have ip : evE (PI 12 []) (.bin .Add (.var 8) (.k (.int 1))) (LE sc ds ps tn nb at_ l W0 i p) = .ok (fz (.int (((i + 1 : Nat)) : Int))) (LE sc ds ps tn nb at_ l W0 i p) := by
    have q := e_bin (e_var (P := PI 12 []) (ρ := LE sc ds ps tn nb at_ l W0 i p) (x := fz (.int i)) (j := 8) rfl) (e_k (d := .int 1)) o_add
    rw [show ((i : Int) + 1) = ((i + 1 : Nat) : Int) by omega] at q
    exact q
  have t1 : evC (PI 12 []) (.cmp .Lt (.bin .Add (.var 8) (.k (.int 1))) (.blt "len" (.cons (.var 2) .nil))) (LE sc ds ps tn nb at_ l W0 i p) = .ok (decide (((i + 1 : Nat) : Int) < ((ps.map pD).length : Nat))) (LE sc ds ps tn nb at_ l W0 i p) :=
    c_cmp ip (e_blt1 (e_var (x := fz (.lst (ps.map pD))) (j := 2) rfl) o_lenL) o_lt
  by_cases h : i + 1 < ps.length
  · rw [decide_eq_true (by simp; omega)] at t1
    have ix : idxD (.lst (ps.map pD)) (.int ((i + 1 : Nat) : Int)) = some (pD ps[i + 1]) := by rw [o_ixL, List.getElem?_map, List.getElem?_eq_getElem h]; rfl
    have t2 : evC (PI 12 []) (.cmp .NotEq (.idx (.idxS 2 (.bin .Add (.var 8) (.k (.int 1)))) (.k (.int 0))) (.k (.str "sign"))) (LE sc ds ps tn nb at_ l W0 i p) = .ok (!(decide (ps[i + 1].1 = "sign"))) (LE sc ds ps tn nb at_ l W0 i p) :=
      c_cmp (e_idx (e_idxS rfl ip (w := fz (.lst (ps.map pD))) rfl ix) (e_k (d := .int 0)) (show idxD (pD ps[i + 1]) (.int 0) = some (.str ps[i + 1].1) from rfl)) (e_k (d := .str "sign")) (s_sign _)
    have t3 : evC (PI 12 []) (.cmp .NotEq (.var 9) (.k (.str "sign"))) (LE sc ds ps tn nb at_ l W0 i p) = .ok (!(decide (p.1 = "sign"))) (LE sc ds ps tn nb at_ l W0 i p) :=
      c_cmp (e_var (x := fz (.str p.1)) (j := 9) rfl) (e_k (d := .str "sign")) (s_sign _)
    have t4 : evC (PI 12 []) (.cmp .NotEq (.idxS 6 (.neg (.k (.int 1)))) (.k (.str " "))) (LE sc ds ps tn nb at_ l W0 i p) = .ok (!(decide (c = 32))) (LE sc ds ps tn nb at_ l W0 i p) := by
      refine c_cmp (e_idxS rfl (e_neg (e_k (d := .int 1))) (w := fz (.str (mk l))) rfl (o_last hz hc)) (e_k (d := .str " ")) ?_
      show some (!(decide (mk [c] = (" " : Str)))) = _
      rw [s_sp, mk_eq]
      simp
    by_cases q1 : ps[i + 1].1 = "sign"
    · rw [decide_eq_true q1] at t2
      exact ⟨false, c_and_t t1 (c_and_f t2), fun q hq n1 _ _ => by
        rw [List.getElem?_eq_getElem h] at hq
        cases hq
        exact absurd q1 n1⟩
    · rw [decide_eq_false q1] at t2
      by_cases q2 : p.1 = "sign"
      · rw [decide_eq_true q2] at t3
        exact ⟨false, c_and_t t1 (c_and_t t2 (c_and_f t3)), fun q hq _ n2 _ => absurd q2 n2⟩
      · rw [decide_eq_false q2] at t3
        refine ⟨_, c_and_t t1 (c_and_t t2 (c_and_t t3 t4)), fun q hq _ _ n3 => by simp [n3]⟩
  · rw [decide_eq_false (by simp; omega)] at t1
    exact ⟨false, c_and_f t1, fun q hq => by rw [List.getElem?_eq_none (by omega)] at hq; cases hq⟩
theorem lw_cd (hs : Sta ds) (hl : l.length ≤ 3000) (ht : p.2.length ≤ 100) (hne : p.2 ≠ []) (h32 : ∀ c ∈ p.2, c ≠ 32) (hps : ps.length ≤ 1000) :
    ∃ g ds', Sta ds' ∧ g ≤ 3 ∧ (∀ q, ps[i + 1]? = some q → p.1 = "sign" ∨ q.1 = "sign" ∨ 1 ≤ g) ∧
      evSs (PI 12 []) (.cons lwC (.cons lwD .nil)) (LE sc ds ps tn nb at_ l W0 i p) = .nx (LE sc ds' ps tn nb at_ (l ++ (p.2 ++ sps g)) W0 i p) := by
  obtain ⟨v, d1, a1, a2, s1, e1⟩ := dcall 11 (io := []) (ρ := LE sc ds ps tn nb at_ l W0 i p) (i := 1) rfl hs (m := 3) (by decide) (by decide)
  obtain ⟨n, rfl⟩ := Int.eq_ofNat_of_zero_le a1
  have ad1 : binD .Add (.str (mk l)) (.str (mk p.2)) = some (.val (.str (mk (l ++ p.2)))) := by rw [o_addS (by rw [mk_len, mk_len, sizeLine_eq]; omega), mk_app]
  have rp := o_rep (v := (n : Int)) (by omega) (by omega)
  rw [Int.toNat_natCast] at rp
  have ad2 : binD .Add (.str (mk (l ++ p.2))) (.str (mk (sps n))) = some (.val (.str (mk (l ++ p.2 ++ sps n)))) := by rw [o_addS (by rw [mk_len, mk_len, sizeLine_eq]; simp; omega), mk_app]
  have k1 : evE (PI 12 []) (.k (.str " ")) (LE sc ds ps tn nb at_ l W0 i p) = .ok (fz (.str (mk [32]))) (LE sc ds ps tn nb at_ l W0 i p) := by rw [e_k, s_sp]
  have ex := e_bin (e_bin (e_var (P := PI 12 []) (ρ := LE sc ds ps tn nb at_ l W0 i p) (x := fz (.str (mk l))) (j := 6) rfl) (e_var (x := fz (.str (mk p.2))) (j := 10) rfl) ad1) (e_bin k1 e1 rp) ad2
  have sC : evS (PI 12 []) lwC (LE sc ds ps tn nb at_ l W0 i p) = .nx (LE sc d1 ps tn nb at_ (l ++ p.2 ++ sps n) W0 i p) := by
    rw [evS]
    refine Eq.trans (congrArg (fun r : R W => r.st fun w ρ1 => setE (PI 12 []).io 6 w ρ1) ex) ?_
    rfl
  have hlast : ∃ c, (l ++ p.2 ++ sps n).getLast? = some c ∧ (n = 0 → c ≠ 32) := by
    cases n with
    | zero =>
      have e : (l ++ p.2 ++ sps 0) = l ++ p.2 := by simp [sps]
      rw [e]
      obtain ⟨c, hc⟩ : ∃ c, p.2.getLast? = some c := by
        cases hh : p.2.getLast? with
        | none => exact absurd (List.getLast?_eq_none_iff.mp hh) hne
        | some c => exact ⟨c, rfl⟩
      refine ⟨c, ?_, fun _ => h32 c (List.mem_of_getLast? hc)⟩
      rw [List.getLast?_append, hc]
      rfl
    | succ n =>
      refine ⟨32, ?_, fun z => by cases z⟩
      rw [List.getLast?_append]
      have : (sps (n + 1)).getLast? = some 32 := by
        show (List.replicate (n + 1) 32).getLast? = _
        rw [List.getLast?_replicate]
        simp
      rw [this]
      rfl
  obtain ⟨c, hc, hc32⟩ := hlast
  obtain ⟨b, tb, hb⟩ := lw_t (sc := sc) (ds := d1) (ps := ps) (tn := tn) (nb := nb) (at_ := at_) (i := i) (p := p) (l := l ++ p.2 ++ sps n) (W0 := W0) (by simp; omega) hc hps
  cases b with
  | true =>
    have ad3 : binD .Add (.str (mk (l ++ p.2 ++ sps n))) (.str (mk [32])) = some (.val (.str (mk (l ++ (p.2 ++ sps (n + 1)))))) := by
      rw [o_addS (by rw [mk_len, mk_len, sizeLine_eq]; simp; omega), mk_app]
      have : l ++ p.2 ++ sps n ++ [32] = l ++ (p.2 ++ sps (n + 1)) := by
        show l ++ p.2 ++ List.replicate n 32 ++ [32] = l ++ (p.2 ++ List.replicate (n + 1) 32)
        rw [List.replicate_succ']; simp
      rw [this]
    have k2 : evE (PI 12 []) (.k (.str " ")) (LE sc d1 ps tn nb at_ (l ++ p.2 ++ sps n) W0 i p) = .ok (fz (.str (mk [32]))) (LE sc d1 ps tn nb at_ (l ++ p.2 ++ sps n) W0 i p) := by rw [e_k, s_sp]
    have ex2 := e_bin (e_var (P := PI 12 []) (ρ := LE sc d1 ps tn nb at_ (l ++ p.2 ++ sps n) W0 i p) (x := fz (.str (mk (l ++ p.2 ++ sps n)))) (j := 6) rfl) k2 ad3
    have sD : evS (PI 12 []) lwD (LE sc d1 ps tn nb at_ (l ++ p.2 ++ sps n) W0 i p) = .nx (LE sc d1 ps tn nb at_ (l ++ (p.2 ++ sps (n + 1))) W0 i p) := by
      rw [evS, tb, Rst, if_pos rfl, evSs, evS]
      refine Eq.trans (congrArg (fun r : R W => (r.st fun w ρ1 => setE (PI 12 []).io 6 w ρ1).seq fun ρ1 => evSs (PI 12 []) .nil ρ1) ex2) ?_
      show (Q.seq (.nx _) _) = _
      rw [Qn, evSs]
      rfl
    refine ⟨n + 1, d1, s1, by omega, fun q _ => .inr (.inr (by omega)), ?_⟩
    rw [evSs, sC, Qn, evSs, sD, Qn, evSs]
  | false =>
    have sD : evS (PI 12 []) lwD (LE sc d1 ps tn nb at_ (l ++ p.2 ++ sps n) W0 i p) = .nx (LE sc d1 ps tn nb at_ (l ++ (p.2 ++ sps n)) W0 i p) := by
      rw [evS, tb, Rst, if_neg (by decide), evSs, List.append_assoc]
    refine ⟨n, d1, s1, by omega, fun q hq => ?_, ?_⟩
    · by_cases h1 : p.1 = "sign"
      · exact .inl h1
      by_cases h2 : q.1 = "sign"
      · exact .inr (.inl h2)
      by_cases h3 : n = 0
      · have := hb q hq h2 h1 (hc32 h3)
        cases this
      · exact .inr (.inr (by omega))
    · rw [evSs, sC, Qn, evSs, sD, Qn, evSs]
end
end K00

namespace K00
open PySem PySem.Spec PyProof.Rows L2 Ev
theorem sep_snoc : ∀ {x : List Seg} {a : Seg}, Sep x → (∀ s, x.getLast? = some s → s.1 = "sign" ∨ a.1 = "sign" ∨ 1 ≤ s.2.2) → Sep (x ++ [a])
  | [], _, _, _ => trivial
  | [s], a, _, h => ⟨h s rfl, trivial⟩
  | s :: s' :: x, a, hs, h => ⟨hs.1, sep_snoc (x := s' :: x) hs.2 (fun t ht => h t (by rw [List.getLast?_cons_cons]; exact ht))⟩
theorem body_le : ∀ {x : List Seg}, (∀ s ∈ x, s.2.1.length ≤ 13 ∧ s.2.2 ≤ 3) → (body x).length ≤ 16 * x.length
  | [], _ => by simp [body]
  | (k, t, g) :: x, h => by
    have h1 := h (k, t, g) List.mem_cons_self
    have h2 := body_le (x := x) fun s hs => h s (List.mem_cons_of_mem _ hs)
    simp only [body, List.length_append, List.length_cons, List.length_replicate] at *
    omega
theorem toks_len : ∀ (x : List Seg) (p : Nat), (toks p x).length = x.length
  | [], _ => rfl
  | (k, t, g) :: x, p => by show (toks _ x).length + 1 = x.length + 1; rw [toks_len x]
abbrev pcOf (s : Seg) : Pc := (s.1, s.2.1)
theorem any_ne {p : Pc} (h : okP p.1 p.2 ∨ koP p.1 p.2) : p.2 ≠ [] ∧ ∀ c ∈ p.2, c ≠ 32 := by
  rcases h with (⟨_, c, hc, e⟩ | ⟨_, h1, h2, _⟩ | ⟨_, h1, h2, _⟩) | (⟨_, c, e, h1, h2, h3, h4⟩ | ⟨_, h2, h3⟩ | ⟨_, h1, h2, _⟩)
  · rw [e]; exact ⟨by simp, fun d hd => by simp at hd; rw [hd]; exact S32 c hc⟩
  · exact ⟨h1, fun d hd => L32 d (h2 d hd)⟩
  · exact ⟨h1, fun d hd => D32 d (h2 d hd)⟩
  · rw [e]; exact ⟨by simp, fun d hd => by simp at hd; rw [hd]; exact h4⟩
  · exact ⟨by intro e; rw [e] at h3; simp at h3, fun d hd => L32 d (h2 d hd)⟩
  · exact ⟨h1, fun d hd => D32 d (h2 d hd)⟩
abbrev lwF : D → Ev.Env → Q := fun d r => match bindT (PI 12 []).io [8] true d r with
  | some r' => evSs (PI 12 []) lwBody r'
  | none => .no
abbrev LF (sc : Option W) (ds : List D) (ps : List Pc) (tn : Option W) (nb at_ : Int) (l : List Nat) (W0 : W) (kk kd tx : Option W) : Ev.Env := EL sc (some (ow ds)) (some (fz (.lst (ps.map pD)))) tn (some (fz (.int nb))) (some (fz (.int at_))) (some (fz (.str (mk l)))) (some W0) kk kd tx
theorem lw_step {sc tn kk kd0 tx0 : Option W} {ds : List D} {ps : List Pc} {nb : Int} {at_ : Option Nat} {g0 i : Nat} {segs : List Seg} {p : Pc} (hs : Sta ds) (hp : ps[i]? = some p) (hi : segs.length = i) (hany : okP p.1 p.2 ∨ koP p.1 p.2) (ht : p.2.length ≤ 13) (hps : ps.length ≤ 100)
    (hl : (sps g0 ++ body segs).length ≤ 2000) : ∃ g ds', Sta ds' ∧ g ≤ 3 ∧ (∀ q, ps[i + 1]? = some q → p.1 = "sign" ∨ q.1 = "sign" ∨ 1 ≤ g) ∧
      lwF (.int ((0 : Int) + (i : Int))) (LF sc ds ps tn nb (atI' at_) (sps g0 ++ body segs) (dueW g0 nb at_ segs) kk kd0 tx0) = .nx (LF sc ds' ps tn nb (atI' at_) (sps g0 ++ body (segs ++ [(p.1, p.2, g)])) (dueW g0 nb at_ (segs ++ [(p.1, p.2, g)])) (some (fz (.int i))) (some (fz (.str p.1))) (some (fz (.str (mk p.2))))) := by
  have h1 := any_ne hany
  have hlt : i < ps.length := (List.getElem?_eq_some_iff.mp hp).1
  have lenE : (sps g0 ++ body segs).length = g0 + (body segs).length := by simp
  obtain ⟨g, ds', s', hg, hq, e⟩ := lw_cd (sc := sc) (ds := ds) (ps := ps) (tn := tn) (nb := nb) (at_ := atI' at_) (i := i) (p := p) (l := sps g0 ++ body segs) (W0 := dueW g0 nb at_ (segs ++ [(p.1, p.2, 0)])) hs (by omega) (by omega) h1.1 h1.2 (by omega)
  have dg : dueW g0 nb at_ (segs ++ [(p.1, p.2, 0)]) = dueW g0 nb at_ (segs ++ [(p.1, p.2, g)]) := by
    cases at_ with
    | none => show ow _ = ow _; rw [toks_snoc, toks_snoc]
    | some j =>
      by_cases hj : j < segs.length
      · rw [due_at (s := segs[j]) (by rw [List.getElem?_append_left hj, List.getElem?_eq_getElem hj]), due_at (s := segs[j]) (by rw [List.getElem?_append_left hj, List.getElem?_eq_getElem hj]), List.take_append_of_le_length (by omega), List.take_append_of_le_length (by omega)]
      · by_cases hj2 : j = segs.length
        · subst hj2
          rw [due_at (s := (p.1, p.2, 0)) (by simp), due_at (s := (p.1, p.2, g)) (by simp)]
          simp
        · rw [due_no (by rw [List.getElem?_eq_none (by simp; omega)]), due_no (by rw [List.getElem?_eq_none (by simp; omega)]), toks_snoc, toks_snoc]
  refine ⟨g, ds', s', hg, hq, ?_⟩
  have a := lw_a (sc := sc) (tn := tn) (kd0 := kd0) (tx0 := tx0) (ds := ds) (nb := nb) (at_ := at_) (ln := sps g0 ++ body segs) (W0 := dueW g0 nb at_ segs) hp
  have b := due_snoc (sc := sc) (tn := tn) (ds := ds) (ps := ps) (nb := nb) (at_ := at_) (g0 := g0) (i := i) (segs := segs) (p := p) (ln := sps g0 ++ body segs) (by rw [toks_len]; omega) (by omega) lenE hi 0
  show evSs (PI 12 []) lwBody (EL sc (some (ow ds)) (some (fz (.lst (ps.map pD)))) tn (some (fz (.int nb))) (some (fz (.int (atI' at_)))) (some (fz (.str (mk (sps g0 ++ body segs))))) (some (dueW g0 nb at_ segs)) (some (fz (.int ((0 : Int) + (i : Int))))) kd0 tx0) = _
  rw [Int.zero_add, evSs, a, Qn, evSs, b, Qn]
  refine Eq.trans e ?_
  rw [dg, body_snoc, List.append_assoc]
theorem lw_loop {sc tn : Option W} {ps : List Pc} {nb : Int} {at_ : Option Nat} {g0 : Nat} (hv : ∀ p ∈ ps, (okP p.1 p.2 ∨ koP p.1 p.2) ∧ p.2.length ≤ 13) (hps : ps.length ≤ 50) (hg0 : g0 ≤ 100) : ∀ (r i : Nat) (segs : List Seg) (ds : List D) (kk kd tx : Option W), i + r = ps.length → segs.map pcOf = ps.take i → Sep segs →
      (∀ s q, segs.getLast? = some s → ps[i]? = some q → s.1 = "sign" ∨ q.1 = "sign" ∨ 1 ≤ s.2.2) → (∀ s ∈ segs, s.2.2 ≤ 3) → Sta ds →
      ∃ segs' ds' kk' kd' tx', segs'.map pcOf = ps ∧ Sep segs' ∧ (∀ s ∈ segs', s.2.2 ≤ 3) ∧ Sta ds' ∧
        forL lwF ((List.range' i r).map fun (i : Nat) => D.int ((0 : Int) + (i : Int))) (LF sc ds ps tn nb (atI' at_) (sps g0 ++ body segs) (dueW g0 nb at_ segs) kk kd tx) = .nx (LF sc ds' ps tn nb (atI' at_) (sps g0 ++ body segs') (dueW g0 nb at_ segs') kk' kd' tx')
  | 0, i, segs, ds, kk, kd, tx, h, hm, hs, hn, hg, hst => ⟨segs, ds, kk, kd, tx, by rw [hm, List.take_of_length_le (by omega)], hs, hg, hst, rfl⟩
  | r + 1, i, segs, ds, kk, kd, tx, h, hm, hs, hn, hg, hst => by
    have hi : i < ps.length := by omega
    have len : segs.length = i := by
      have := congrArg List.length hm
      simp at this
      omega
    have hp : ps[i]? = some ps[i] := List.getElem?_eq_getElem hi
    have hvp := hv ps[i] (List.getElem_mem hi)
    have small : ∀ s ∈ segs, s.2.1.length ≤ 13 ∧ s.2.2 ≤ 3 := fun s h => by
      refine ⟨?_, hg s h⟩
      have : pcOf s ∈ segs.map pcOf := List.mem_map_of_mem h
      rw [hm] at this
      exact (hv _ (List.mem_of_mem_take this)).2
    have bl := body_le small
    obtain ⟨g, ds1, s1, hg3, hq, e⟩ := lw_step (sc := sc) (tn := tn) (kk := kk) (kd0 := kd) (tx0 := tx) (nb := nb) (at_ := at_) (g0 := g0) hst hp len hvp.1 hvp.2 (by omega) (by simp; omega)
    obtain ⟨segs', ds', kk', kd', tx', q1, q2, q3, q4, q5⟩ := lw_loop hv hps hg0 r (i + 1) (segs ++ [(ps[i].1, ps[i].2, g)]) ds1 (some (fz (.int i))) (some (fz (.str ps[i].1))) (some (fz (.str (mk ps[i].2)))) (by omega)
      (by rw [List.map_append, hm, List.take_succ, hp]; rfl) (sep_snoc hs (fun s h => hn s ps[i] h hp))
      (fun s q h1 h2 => by
        rw [List.getLast?_concat] at h1
        cases h1
        exact hq q h2)
      (fun s h => by
        rcases List.mem_append.mp h with h | h
        · exact hg s h
        · simp at h; rw [h]; exact hg3) s1
    refine ⟨segs', ds', kk', kd', tx', q1, q2, q3, q4, ?_⟩
    rw [List.range'_succ, List.map_cons]
    show (match lwF (.int ((0 : Int) + (i : Int))) (LF sc ds ps tn nb (atI' at_) (sps g0 ++ body segs) (dueW g0 nb at_ segs) kk kd tx) with | .nx ρ2 => forL lwF _ ρ2 | .ct ρ2 => forL lwF _ ρ2 | .bk ρ2 => .nx ρ2 | .rt w ρ2 => .rt w ρ2 | .ex x gs ρ2 => .ex x gs ρ2 | .no => .no) = _
    rw [e]
    exact q5
/-! ### the same data -/
theorem eqS_lst {x : List D} (h : shp (.lst x) = true) : eqS (.lst x) (.lst x) = some true := by
  show (if shp (.lst x) = true ∧ shp (.lst x) = true then some (eqD (.lst x) (.lst x)) else none) = _
  rw [if_pos ⟨h, h⟩]
  have : eqD (.lst x) (.lst x) = true := PySem.SeqAt.eqv_refl _ (PySem.SeqAt.canLay_of_shaped h)
  rw [this]
theorem eqS_tup {x : List D} (h : shp (.tup x) = true) : eqS (.tup x) (.tup x) = some true := by
  show (if shp (.tup x) = true ∧ shp (.tup x) = true then some (eqD (.tup x) (.tup x)) else none) = _
  rw [if_pos ⟨h, h⟩]
  have : eqD (.tup x) (.tup x) = true := PySem.SeqAt.eqv_refl _ (PySem.SeqAt.canLay_of_shaped h)
  rw [this]
end K00

namespace K00
open PySem PySem.Spec PyProof.Rows L2 Ev
theorem ok_mk {t : List Nat} (h : ∀ c ∈ t, c < 0x110000) : PyData.strOk (mk t) = true := by
  show t.toArray.all (fun c => decide (c < 0x110000)) = true
  simp only [List.all_toArray, List.all_eq_true, decide_eq_true_eq]
  exact h
theorem ok_k {k : Str} (h : k = "sign" ∨ k = "word" ∨ k = "number" ∨ k = "character") : PyData.strOk k = true := by
  rcases h with e | e | e | e <;> subst e <;> decide +kernel
theorem ok_seg {k : Str} {t : List Nat} (h : okP k t) : PyData.strOk k = true ∧ PyData.strOk (mk t) = true := by
  have a : ∀ c ∈ Sg, c < 0x110000 := by decide
  have b : ∀ c ∈ Lt, c < 0x110000 := by decide
  have d : ∀ c ∈ Dg, c < 0x110000 := by decide
  rcases h with ⟨e, c, hc, e2⟩ | ⟨e, _, h2, _⟩ | ⟨e, _, h2, _⟩
  · exact ⟨ok_k (.inl e), ok_mk fun x hx => by rw [e2] at hx; simp at hx; rw [hx]; exact a c hc⟩
  · exact ⟨ok_k (.inr (.inl e)), ok_mk fun x hx => b x (h2 x hx)⟩
  · exact ⟨ok_k (.inr (.inr (.inl e))), ok_mk fun x hx => d x (h2 x hx)⟩
theorem toks_py : ∀ (x : List Seg) (p : Nat), (∀ s ∈ x, okP s.1 s.2.1) → PyData.canLayAll0 (pys (toks p x)) = true ∧ PyData.depthAll (pys (toks p x)) ≤ 1
  | [], p, _ => ⟨rfl, Nat.zero_le _⟩
  | (k, t, g) :: x, p, h => by
    obtain ⟨i1, i2⟩ := toks_py x (p + t.length + g) fun s hs => h s (List.mem_cons_of_mem _ hs)
    obtain ⟨o1, o2⟩ := ok_seg (h (k, t, g) List.mem_cons_self)
    have o1' : PyData.strOk k = true := o1
    have o2' : PyData.strOk (mk t) = true := o2
    constructor
    · show ((PyData.strOk k && (PyData.strOk (mk t) && (true && true))) && PyData.canLayAll0 (pys (toks (p + t.length + g) x))) = true
      rw [o1', o2', i1]; rfl
    · show max 1 (PyData.depthAll (pys (toks (p + t.length + g) x))) ≤ 1
      omega
theorem shp_toks {x : List Seg} {p : Nat} (h : ∀ s ∈ x, okP s.1 s.2.1) : shp (.lst (toks p x)) = true := by
  obtain ⟨i1, i2⟩ := toks_py x p h
  show (PyData.canLayAll0 (pys (toks p x)) && decide (PyData.depthAll (pys (toks p x)) + 1 ≤ 64)) = true
  rw [i1, decide_eq_true (by omega)]; rfl
theorem shp_err {a b : Int} {k : Str} {t : List Nat} (h : koP k t) : shp (.tup [.int a, .int b, .str k]) = true := by
  have o : PyData.strOk k = true := ok_k (by
    rcases h with ⟨e, _⟩ | ⟨e, _⟩ | ⟨e, _⟩
    · exact .inr (.inr (.inr e))
    · exact .inr (.inl e)
    · exact .inr (.inr (.inl e)))
  show ((true && (true && (PyData.strOk k && true))) && decide (1 ≤ 64)) = true
  rw [o]; rfl
theorem dcallG (k : Nat) {io : List Nat} {ρ ρ1 : Ev.Env} {i : Nat} {ds : List D} (h : ρ[i]? = some (some (ow ds))) (hs : Sta ds) {e : E} {m : Int} (he : evE (PI (k + 1) io) e (ρ.set i none) = .ok (fz (.int m)) ρ1) (hm : 0 < m) (hm2 : m < 2 ^ 30) :
    ∃ (v : Int) (ds' : List D), 0 ≤ v ∧ v < m ∧ Sta ds' ∧ evE (PI (k + 1) io) (.call "_law_draw" (.io i (.cons e .nil))) ρ = .ok (fz (.int v)) (ρ1.set i (some (ow ds'))) := by
  obtain ⟨v, ds', h1, h2, h3, h4⟩ := draw_ok k hs hm hm2
  refine ⟨v, ds', h1, h2, h3, e_call (fs_of f_law_draw) (ρ1 := ρ1) ?_ h4 rfl⟩
  rw [evA, h]
  show (evA (PI (k + 1) io) (.cons e .nil) (ρ.set i none)).bind _ = _
  rw [evA, he, Rb, evA, Rb, Rb]
section
variable {P : Pg} {ρ ρ1 ρ2 ρ3 : Ev.Env} {a : E} {lo hi : O} {x : W} {l h : Option Int} {m : Ev.Mk}
theorem e_sl (h1 : evE P a ρ = .ok x ρ1) (h2 : evO P lo ρ1 = .ok l ρ2) (h3 : evO P hi ρ2 = .ok h ρ3) (hm : slD x.d l h = some m) : evE P (.sl a lo hi) ρ = .ok m.w ρ3 := by
  rw [evE, h1, Rb, h2, Rb, h3, Rb, hm, Lf, Rb]
theorem o_none : evO P .none ρ = .ok none ρ := by rw [evO]
theorem o_some {i : Int} (h1 : evE P a ρ = .ok (fz (.int i)) ρ1) : evO P (.some a) ρ = .ok (some i) ρ1 := by rw [evO, h1, Rb]
theorem e_lst1 (h1 : evE P a ρ = .ok x ρ1) : evE P (.lst (.cons a .nil)) ρ = .ok (ow [x.d]) ρ1 := by
  rw [evE, evEs, h1, Rb, evEs, Rb, Rb, if_pos (show ([fz x.d] : List W).length ≤ sizeLine from (by rw [sizeLine_eq]; decide : 1 ≤ sizeLine))]
  rfl
theorem s_set {P : Pg} {i : Nat} {e : E} {ρ ρ1 : Ev.Env} {w : W} (h : evE P e ρ = .ok w ρ1) (hi : ¬ (P.io.contains i = true ∨ ρ1.length ≤ i)) : evS P (.set i e) ρ = .nx (ρ1.set i (some w)) := by
  rw [evS, h, Rst]
  unfold setE
  rw [if_neg hi]
end
theorem law1 (ns : List Int) : evS (PI 12 []) (.set 1 (.call "_law_state" (.cons (.var 0) .nil))) (EL (some (fz (.lst (ns.map D.int)))) none none none none none none none none none none) = .nx (EL (some (fz (.lst (ns.map D.int)))) (some (ow (dS ns 0 0 1 0))) none none none none none none none none none) := by
  have ha : evA (PI 12 []) (.cons (.var 0) .nil) (EL (some (fz (.lst (ns.map D.int)))) none none none none none none none none none none) = .ok [fz (.lst (ns.map D.int))] (EL (some (fz (.lst (ns.map D.int)))) none none none none none none none none none none) := by
    rw [evA, e_var (x := fz (.lst (ns.map D.int))) rfl, Rb, evA, Rb]; rfl
  have e := e_call (P := PI 12 []) (fs_of (k := 11) f_law_state) ha (state_ok 11 ns) (ρ' := EL (some (fz (.lst (ns.map D.int)))) none none none none none none none none none none) rfl
  rw [s_set e (show ¬ (([] : List Nat).contains 1 = true ∨ 11 ≤ 1) by decide)]
  rfl
theorem law2 (sc : Option W) {ds : List D} (hs : Sta ds) : ∃ (ps : List Pc) (ds' : List D), ps.length ≤ 8 ∧ (∀ p ∈ ps, okP p.1 p.2 ∧ p.2.length ≤ 12) ∧ Sta ds' ∧
    evS (PI 12 []) (.setC 2 "_law_turn" 3 (.call "_law_piece" (.io 1 .nil)) (.rng1 (.call "_law_draw" (.io 1 (.cons (.k (.int 9)) .nil))))) (EL sc (some (ow ds)) none none none none none none none none none) = .nx (EL sc (some (ow ds')) (some (ow (ps.map pD))) none none none none none none none none) := by
  obtain ⟨v, d1, a1, a2, s1, e1⟩ := dcall 11 (io := []) (ρ := EL sc (some (ow ds)) none none none none none none none none none) (i := 1) rfl hs (m := 9) (by decide) (by decide)
  obtain ⟨n, rfl⟩ := Int.eq_ofNat_of_zero_le a1
  have rg : evI (PI 12 []) (.rng1 (.call "_law_draw" (.io 1 (.cons (.k (.int 9)) .nil)))) (EL sc (some (ow ds)) none none none none none none none none none) = .ok (rngD 0 n) (EL sc (some (ow d1)) none none none none none none none none none) := by
    rw [evI, e1, Rb]
    show (if -(2 ^ 62) ≤ (n : Int) ∧ (n : Int) < 2 ^ 62 then _ else _) = _
    rw [if_pos (by omega)]
    rfl
  obtain ⟨ps, d2, h1, h2, s2, e2⟩ := comp_ok 10 sc (rngD 0 n) s1
  refine ⟨ps, d2, by rw [h1]; simp [rngD]; omega, h2, s2, ?_⟩
  rw [evS, evE, if_pos (show (PI 12 []).calm = true ∧ (PI 12 []).io.contains 3 = false from ⟨rfl, rfl⟩), rg, Rb, if_pos (by exact ⟨by simp [rngD, sizeLine_eq]; omega, by show 3 < 11; decide⟩)]
  show (R.st (R.bind (compL _ (rngD 0 n) (EL sc (some (ow d1)) none none none none none none none none none)) _) _) = _
  rw [e2, Rb, Rst]
  rfl
theorem law3 (sc pc : Option W) {ds : List D} (hs : Sta ds) : ∃ (nb : Int) (ds' : List D), nb.natAbs ≤ 1000000 ∧ Sta ds' ∧
    evS (PI 12 []) (.set 4 (.bin .Add (.k (.int 1)) (.call "_law_draw" (.io 1 (.cons (.k (.int 90)) .nil))))) (EL sc (some (ow ds)) pc none none none none none none none none) = .nx (EL sc (some (ow ds')) pc none (some (fz (.int nb))) none none none none none none) := by
  obtain ⟨v, d1, a1, a2, s1, e1⟩ := dcall 11 (io := []) (ρ := EL sc (some (ow ds)) pc none none none none none none none none) (i := 1) rfl hs (m := 90) (by decide) (by decide)
  refine ⟨1 + v, d1, by omega, s1, ?_⟩
  rw [s_set (e_bin (e_k (d := .int 1)) e1 o_add) (show ¬ (([] : List Nat).contains 4 = true ∨ 11 ≤ 4) by decide)]
  rfl
theorem law4 (sc st pc nb : Option W) : evS (PI 12 []) (.set 5 (.neg (.k (.int 1)))) (EL sc st pc none nb none none none none none none) = .nx (EL sc st pc none nb (some (fz (.int (-1)))) none none none none none) := by
  rw [s_set (e_neg (e_k (d := .int 1))) (show ¬ (([] : List Nat).contains 5 = true ∨ 11 ≤ 5) by decide)]
  rfl
/-- the pieces of the line and the place of the wrong one -/
def Pcs (ps : List Pc) (at_ : Option Nat) : Prop := ps.length ≤ 9 ∧ match at_ with
  | none => ∀ p ∈ ps, okP p.1 p.2 ∧ p.2.length ≤ 12
  | some j => ∃ (A B : List Pc) (w : Pc), ps = A ++ w :: B ∧ A.length = j ∧ (∀ p ∈ A, okP p.1 p.2 ∧ p.2.length ≤ 12) ∧ (∀ p ∈ B, okP p.1 p.2 ∧ p.2.length ≤ 12) ∧ koP w.1 w.2 ∧ w.2.length ≤ 13
abbrev lw5 : Ss := .cons (.set 5 (.call "_law_draw" (.io 1 (.cons (.bin .Add (.blt "len" (.cons (.var 2) .nil)) (.k (.int 1))) .nil)))) (.cons (.set 2 (.bin .Add (.bin .Add (.sl (.var 2) .none (.some (.var 5))) (.lst (.cons (.call "_law_wrong" (.io 1 .nil)) .nil))) (.sl (.var 2) (.some (.var 5)) .none))) .nil)
theorem law5b (sc nb a0 : Option W) {ds : List D} (hs : Sta ds) {ps : List Pc} (hl : ps.length ≤ 8) (hp : ∀ p ∈ ps, okP p.1 p.2 ∧ p.2.length ≤ 12) : ∃ (qs : List Pc) (j : Nat) (ds' : List D), Pcs qs (some j) ∧ Sta ds' ∧
    evSs (PI 12 []) lw5 (EL sc (some (ow ds)) (some (ow (ps.map pD))) none nb a0 none none none none none) = .nx (EL sc (some (ow ds')) (some (ow (qs.map pD))) none nb (some (fz (.int j))) none none none none none) := by
  have arg : evE (PI 12 []) (.bin .Add (.blt "len" (.cons (.var 2) .nil)) (.k (.int 1))) (EL sc none (some (ow (ps.map pD))) none nb a0 none none none none none) = .ok (fz (.int ((ps.length : Int) + 1))) (EL sc none (some (fz (.lst (ps.map pD)))) none nb a0 none none none none none) := by
    have q := e_bin (e_blt1 (e_var (P := PI 12 []) (ρ := EL sc none (some (ow (ps.map pD))) none nb a0 none none none none none) (x := ow (ps.map pD)) (j := 2) rfl) o_lenL) (e_k (d := .int 1)) o_add
    rw [List.length_map] at q
    exact q
  obtain ⟨v, d1, a1, a2, s1, e1⟩ := dcallG 11 (io := []) (ρ := EL sc (some (ow ds)) (some (ow (ps.map pD))) none nb a0 none none none none none) (i := 1) rfl hs arg (by omega) (by omega)
  obtain ⟨j, rfl⟩ := Int.eq_ofNat_of_zero_le a1
  obtain ⟨w, d2, w1, w2, s2, e2⟩ := wrong_ok 10 s1
  have hj : j ≤ ps.length := by omega
  have x1 := e_sl (e_var (P := PI 12 []) (ρ := EL sc (some (ow d1)) (some (fz (.lst (ps.map pD)))) none nb (some (fz (.int j))) none none none none none) (x := fz (.lst (ps.map pD))) (j := 2) rfl) o_none (o_some (e_var (x := fz (.int j)) (j := 5) rfl)) (cut_lo (xs := ps.map pD) (n := j))
  have x2 := e_lst1 (io_call (P := PI 12 []) (fs_of (k := 11) f_law_wrong) (i := 1) (ρ := EL sc (some (ow d1)) (some (fz (.lst (ps.map pD)))) none nb (some (fz (.int j))) none none none none none) rfl e2)
  have x3 := e_sl (e_var (P := PI 12 []) (ρ := EL sc (some (ow d2)) (some (fz (.lst (ps.map pD)))) none nb (some (fz (.int j))) none none none none none) (x := fz (.lst (ps.map pD))) (j := 2) rfl) (o_some (e_var (x := fz (.int j)) (j := 5) rfl)) o_none (cut_hi (xs := ps.map pD) (n := j))
  have y1 : binD .Add (.lst ((ps.map pD).take j)) (.lst [pD w]) = some (.lst ((ps.map pD).take j ++ [pD w])) := o_addL (by rw [sizeLine_eq]; simp; omega)
  have y2 : binD .Add (.lst ((ps.map pD).take j ++ [pD w])) (.lst ((ps.map pD).drop j)) = some (.lst ((ps.map pD).take j ++ [pD w] ++ (ps.map pD).drop j)) := o_addL (by rw [sizeLine_eq]; simp; omega)
  have z := e_bin (e_bin x1 x2 y1) x3 y2
  have fin : (ps.map pD).take j ++ [pD w] ++ (ps.map pD).drop j = (ps.take j ++ w :: ps.drop j).map pD := by simp [List.map_take, List.map_drop]
  refine ⟨ps.take j ++ w :: ps.drop j, j, d2, ⟨by simp; omega, ps.take j, ps.drop j, w, rfl, by simp; omega, fun p h => hp p (List.mem_of_mem_take h), fun p h => hp p (List.mem_of_mem_drop h), w1, w2⟩, s2, ?_⟩
  rw [evSs, s_set e1 (show ¬ (([] : List Nat).contains 5 = true ∨ 11 ≤ 5) by decide), Qn, evSs]
  refine Eq.trans (congrArg (fun q : Q => q.seq fun ρ1 => evSs (PI 12 []) .nil ρ1) (s_set z (show ¬ (([] : List Nat).contains 2 = true ∨ 11 ≤ 2) by decide))) ?_
  rw [fin]
  show (Q.seq (.nx _) _) = _
  rw [Qn, evSs]
  rfl
theorem law5 (sc nb : Option W) {ds : List D} (hs : Sta ds) {ps : List Pc} (hl : ps.length ≤ 8) (hp : ∀ p ∈ ps, okP p.1 p.2 ∧ p.2.length ≤ 12) : ∃ (qs : List Pc) (at_ : Option Nat) (ds' : List D), Pcs qs at_ ∧ Sta ds' ∧
    evS (PI 12 []) (.ifs (.cmp .Eq (.call "_law_draw" (.io 1 (.cons (.k (.int 2)) .nil))) (.k (.int 0))) lw5 .nil) (EL sc (some (ow ds)) (some (ow (ps.map pD))) none nb (some (fz (.int (-1)))) none none none none none) = .nx (EL sc (some (ow ds')) (some (ow (qs.map pD))) none nb (some (fz (.int (atI' at_)))) none none none none none) := by
  obtain ⟨v, d1, a1, a2, s1, e1⟩ := dcall 11 (io := []) (ρ := EL sc (some (ow ds)) (some (ow (ps.map pD))) none nb (some (fz (.int (-1)))) none none none none none) (i := 1) rfl hs (m := 2) (by decide) (by decide)
  have t := c_cmp e1 (e_k (d := .int 0)) o_eqI
  by_cases h : v = 0
  · rw [decide_eq_true h] at t
    obtain ⟨qs, j, d2, g1, g2, g3⟩ := law5b sc nb (some (fz (.int (-1)))) s1 hl hp
    exact ⟨qs, some j, d2, g1, g2, by rw [evS, t, Rst, if_pos rfl]; exact g3⟩
  · rw [decide_eq_false h] at t
    exact ⟨ps, none, d1, ⟨by omega, hp⟩, s1, by rw [evS, t, Rst, if_neg (by decide), evSs]; rfl⟩
theorem law6 (sc pc nb a0 : Option W) {ds : List D} (hs : Sta ds) : ∃ (g0 : Nat) (ds' : List D), g0 ≤ 2 ∧ Sta ds' ∧
    evS (PI 12 []) (.set 6 (.bin .Mult (.k (.str " ")) (.call "_law_draw" (.io 1 (.cons (.k (.int 3)) .nil))))) (EL sc (some (ow ds)) pc none nb a0 none none none none none) = .nx (EL sc (some (ow ds')) pc none nb a0 (some (fz (.str (mk (sps g0))))) none none none none) := by
  obtain ⟨v, d1, a1, a2, s1, e1⟩ := dcall 11 (io := []) (ρ := EL sc (some (ow ds)) pc none nb a0 none none none none none) (i := 1) rfl hs (m := 3) (by decide) (by decide)
  obtain ⟨n, rfl⟩ := Int.eq_ofNat_of_zero_le a1
  have rp := o_rep (v := (n : Int)) (by omega) (by omega)
  rw [Int.toNat_natCast] at rp
  have k1 : evE (PI 12 []) (.k (.str " ")) (EL sc (some (ow ds)) pc none nb a0 none none none none none) = .ok (fz (.str (mk [32]))) (EL sc (some (ow ds)) pc none nb a0 none none none none none) := by rw [e_k, s_sp]
  refine ⟨n, d1, by omega, s1, ?_⟩
  rw [s_set (e_bin k1 e1 rp) (show ¬ (([] : List Nat).contains 6 = true ∨ 11 ≤ 6) by decide)]
  rfl
end K00

namespace K00
open PySem PySem.Spec PyProof.Rows L2 Ev
theorem segs_ok {segs : List Seg} {ps : List Pc} (h : segs.map pcOf = ps) (hp : ∀ p ∈ ps, okP p.1 p.2 ∧ p.2.length ≤ 12) : ∀ s ∈ segs, okP s.1 s.2.1 ∧ s.2.1.length ≤ 12 := fun s hs => by
  have : pcOf s ∈ segs.map pcOf := List.mem_map_of_mem hs
  rw [h] at this
  exact hp _ this
theorem law9 {sc tn kk kd tx : Option W} {ds : List D} {ps : List Pc} {nb : Int} {at_ : Option Nat} {g0 : Nat} {segs : List Seg} (hP : Pcs ps at_) (hm : segs.map pcOf = ps) (hs : Sep segs) (hg : ∀ s ∈ segs, s.2.2 ≤ 3) (hg0 : g0 ≤ 2) (hn : nb.natAbs ≤ 1000000) :
    evS (PI 12 []) (.ret (.cmp .Eq (.call "_law_told" (.cons (.var 6) (.cons (.var 4) .nil))) (.var 7))) (LF sc ds ps tn nb (atI' at_) (sps g0 ++ body segs) (dueW g0 nb at_ segs) kk kd tx) = .rt (fz (.bl true)) ((LF sc ds ps tn nb (atI' at_) (sps g0 ++ body segs) (dueW g0 nb at_ segs) kk kd tx).set 7 (some (fz (dueW g0 nb at_ segs).d))) := by
  have ln : segs.length = ps.length := by rw [← hm]; simp
  have hl9 : ps.length ≤ 9 := hP.1
  have key : ∃ d, eqS d d = some true ∧ (dueW g0 nb at_ segs).d = d ∧ (∀ s ∈ segs, s.2.1.length ≤ 13) ∧ ((sps g0 ++ body segs).length ≤ 4000 → runF (PI 11 []) 3 2 b_law_told [fz (.str (mk (sps g0 ++ body segs))), fz (.int nb)] = .ok (fz d) []) := by
    cases at_ with
    | none =>
      have hp : ∀ p ∈ ps, okP p.1 p.2 ∧ p.2.length ≤ 12 := hP.2
      have so := segs_ok hm hp
      exact ⟨.lst (toks g0 segs), eqS_lst (shp_toks fun s h => (so s h).1), rfl, fun s h => by have := (so s h).2; omega, fun hl => line_ok 7 g0 segs nb hl hn (fun s h => (so s h).1) hs (by omega)⟩
    | some j =>
      obtain ⟨A, B, w, e, hA, hAo, hBo, hw, hwl⟩ := hP.2
      rw [e] at hm
      obtain ⟨X, Y', rfl, hX, hY'⟩ := List.map_eq_append_iff.mp hm
      obtain ⟨s, Y, rfl, hsw, hY⟩ := List.map_eq_cons_iff.mp hY'
      obtain ⟨kd', t, gp⟩ := s
      have hsw' : (kd', t) = w := hsw
      subst hsw'
      have xo := segs_ok hX hAo
      have yo := segs_ok hY hBo
      have xl : X.length = j := by rw [← hA, ← hX]; simp
      have du : dueW g0 nb (some j) (X ++ (kd', t, gp) :: Y) = fz (.tup [.int nb, .int (((g0 + (body X).length : Nat) : Int) + 1), .str kd']) := by
        rw [due_at (s := (kd', t, gp)) (by rw [← xl]; simp), ← xl]
        simp
      refine ⟨_, eqS_tup (shp_err (a := nb) (b := ((g0 + (body X).length : Nat) : Int) + 1) hw), by rw [du], fun s h => ?_, fun hl => line_bad 7 g0 X kd' t gp Y nb hl hn (fun s h => (xo s h).1) hw (fun s h => (yo s h).1) hs (by simp at ln; omega)⟩
      rcases List.mem_append.mp h with h | h
      · have := (xo s h).2; omega
      · rcases List.mem_cons.mp h with h | h
        · rw [h]; exact hwl
        · have := (yo s h).2; omega
  obtain ⟨d, hd, hdu, hsl, hrun⟩ := key
  have bl := body_le fun s h => ⟨hsl s h, hg s h⟩
  have r := hrun (by simp; omega)
  have ar : evA (PI 12 []) (.cons (.var 6) (.cons (.var 4) .nil)) (LF sc ds ps tn nb (atI' at_) (sps g0 ++ body segs) (dueW g0 nb at_ segs) kk kd tx) = .ok [fz (.str (mk (sps g0 ++ body segs))), fz (.int nb)] (LF sc ds ps tn nb (atI' at_) (sps g0 ++ body segs) (dueW g0 nb at_ segs) kk kd tx) := by
    rw [evA, e_var (x := fz (.str (mk (sps g0 ++ body segs)))) rfl, Rb, evA, e_var (x := fz (.int nb)) rfl, Rb, evA, Rb, Rb]
    rfl
  have c := e_call (P := PI 12 []) (fs_of (k := 11) f_law_told) ar r (ρ' := LF sc ds ps tn nb (atI' at_) (sps g0 ++ body segs) (dueW g0 nb at_ segs) kk kd tx) rfl
  have v := e_var (P := PI 12 []) (ρ := LF sc ds ps tn nb (atI' at_) (sps g0 ++ body segs) (dueW g0 nb at_ segs) kk kd tx) (x := dueW g0 nb at_ segs) (j := 7) rfl
  rw [evS, evE, c, Rb, v, Rb]
  show (R.st (R.bind (lift (eqS d (dueW g0 nb at_ segs).d) _) _) _) = _
  rw [hdu, hd, Lf, Rb, Rst]
theorem law_ok (ns : List Int) (h : ns.length ≤ 63) : runF { Pg0 with fs := sems Pg0 tab 12 } N_law.length 1 b_law [⟨.lst (ns.map D.int), false⟩] = .ok (fz (.bl true)) [] := by
  obtain ⟨ps1, d2, l2, p2, s2, e2⟩ := law2 (some (fz (.lst (ns.map D.int)))) (ds := dS ns 0 0 1 0) ⟨ns, 0, 0, 1, 0, rfl, h⟩
  obtain ⟨nb, d3, n3, s3, e3⟩ := law3 (some (fz (.lst (ns.map D.int)))) (some (ow (ps1.map pD))) s2
  obtain ⟨ps, at_, d5, P5, s5, e5⟩ := law5 (some (fz (.lst (ns.map D.int)))) (some (fz (.int nb))) s3 l2 p2
  obtain ⟨g0, d6, h6, s6, e6⟩ := law6 (some (fz (.lst (ns.map D.int)))) (some (ow (ps.map pD))) (some (fz (.int nb))) (some (fz (.int (atI' at_)))) s5
  have hv : ∀ p ∈ ps, (okP p.1 p.2 ∨ koP p.1 p.2) ∧ p.2.length ≤ 13 := by
    obtain ⟨_, P⟩ := P5
    cases at_ with
    | none => exact fun p hp => ⟨.inl (P p hp).1, by have := (P p hp).2; omega⟩
    | some j =>
      obtain ⟨A, B, w, e, _, hA, hB, hw, hwl⟩ := P
      intro p hp
      rw [e] at hp
      rcases List.mem_append.mp hp with hp | hp
      · exact ⟨.inl (hA p hp).1, by have := (hA p hp).2; omega⟩
      · rcases List.mem_cons.mp hp with hp | hp
        · rw [hp]; exact ⟨.inr hw, hwl⟩
        · exact ⟨.inl (hB p hp).1, by have := (hB p hp).2; omega⟩
  have hl9 : ps.length ≤ 9 := P5.1
  obtain ⟨segs, d8, kk, kd, tx, m1, m2, m3, s8, e8⟩ := lw_loop (sc := some (fz (.lst (ns.map D.int)))) (tn := none) (nb := nb) (at_ := at_) (g0 := g0) hv (by omega) (by omega) ps.length 0 [] d6 none none none (by omega) rfl trivial (fun s q h => by cases h) (fun s h => by cases h) s6
  have e9 := law9 (sc := some (fz (.lst (ns.map D.int)))) (tn := none) (kk := kk) (kd := kd) (tx := tx) (ds := d8) (g0 := g0) P5 m1 m2 m3 h6 n3
  have s7 : evS (PI 12 []) (.set 7 (.lst .nil)) (EL (some (fz (.lst (ns.map D.int)))) (some (ow d6)) (some (ow (ps.map pD))) none (some (fz (.int nb))) (some (fz (.int (atI' at_)))) (some (fz (.str (mk (sps g0))))) none none none none) =
      .nx (EL (some (fz (.lst (ns.map D.int)))) (some (ow d6)) (some (ow (ps.map pD))) none (some (fz (.int nb))) (some (fz (.int (atI' at_)))) (some (fz (.str (mk (sps g0))))) (some (ow [])) none none none) := by
    rw [evS, evE, evEs]; rfl
  have du0 : dueW g0 nb at_ [] = ow [] := by
    cases at_ with
    | none => rfl
    | some j => exact due_no rfl
  have it : evI (PI 12 []) (.rng1 (.blt "len" (.cons (.var 2) .nil))) (EL (some (fz (.lst (ns.map D.int)))) (some (ow d6)) (some (ow (ps.map pD))) none (some (fz (.int nb))) (some (fz (.int (atI' at_)))) (some (fz (.str (mk (sps g0))))) (some (ow [])) none none none) =
      .ok (rngD 0 ps.length) (EL (some (fz (.lst (ns.map D.int)))) (some (ow d6)) (some (fz (.lst (ps.map pD)))) none (some (fz (.int nb))) (some (fz (.int (atI' at_)))) (some (fz (.str (mk (sps g0))))) (some (ow [])) none none none) := by
    have q := e_blt1 (e_var (P := PI 12 []) (ρ := EL (some (fz (.lst (ns.map D.int)))) (some (ow d6)) (some (ow (ps.map pD))) none (some (fz (.int nb))) (some (fz (.int (atI' at_)))) (some (fz (.str (mk (sps g0))))) (some (ow [])) none none none) (x := ow (ps.map pD)) (j := 2) rfl) o_lenL
    rw [List.length_map] at q
    rw [evI, q, Rb]
    show (if -(2 ^ 62) ≤ (ps.length : Int) ∧ (ps.length : Int) < 2 ^ 62 then _ else _) = _
    rw [if_pos (by omega), Int.toNat_natCast]
    rfl
  have s8' : evS (PI 12 []) (.for_ [8] true (.rng1 (.blt "len" (.cons (.var 2) .nil))) lwBody) (EL (some (fz (.lst (ns.map D.int)))) (some (ow d6)) (some (ow (ps.map pD))) none (some (fz (.int nb))) (some (fz (.int (atI' at_)))) (some (fz (.str (mk (sps g0))))) (some (ow [])) none none none) =
      .nx (LF (some (fz (.lst (ns.map D.int)))) d8 ps none nb (atI' at_) (sps g0 ++ body segs) (dueW g0 nb at_ segs) kk kd tx) := by
    rw [evS, if_pos (show (PI 12 []).calm = true from rfl), it, Rst, ← e8, du0]
    show forL lwF (rngD 0 ps.length) _ = _
    unfold rngD
    rw [List.range_eq_range']
    rw [show sps g0 ++ body ([] : List Seg) = sps g0 by simp [body]]
  have main : evSs (PI 12 []) b_law (EL (some (fz (.lst (ns.map D.int)))) none none none none none none none none none none) = .rt (fz (.bl true)) ((LF (some (fz (.lst (ns.map D.int)))) d8 ps none nb (atI' at_) (sps g0 ++ body segs) (dueW g0 nb at_ segs) kk kd tx).set 7 (some (fz (dueW g0 nb at_ segs).d))) := by
    unfold b_law
    rw [evSs, law1, Qn, evSs, e2, Qn, evSs, e3, Qn, evSs, law4, Qn, evSs, e5, Qn, evSs, e6, Qn, evSs, s7, Qn, evSs, s8', Qn, evSs, e9, Qr]
  exact run_rt (k := 12) (io := []) (n := 11) (m := 1) rfl main rfl
end K00

namespace K00
open PySem PySem.Spec PyProof.Rows L2 Ev
theorem no_cx {P : Program} {w : World} {H : Hp} {s : Shared} {e : Value} {s' : Shared} (z : L2.CX P w [] H s (fun _ _ _ => False) e s') : False := by
  obtain ⟨a, B, H', cls, d, _, _, _, _, _, _, _, z⟩ := z
  exact z
theorem walk {l : PySem.W.OpenLaw} {q : Program} {loose : List Str} {XP : (Str → Option Value) → Heap → Prop} {YP : World → Heap → Prop} {d : DefRec} {K : Params → PySem.W.Frag} (hn : l.most = some 63) (hdf : d.params.defaults = [])
    (hY : ∀ (w : World) (h : Heap), YP w h → (K w.params).In h)
    (F : ∀ (w : World) (mg : Str → Option Value) (fa : Addr) (h : Heap), (K w.params).In h → h.Ns mainGlobals mg → mg d.name = some (.ref fa) →
      ∃ fd : FuncData, (∀ (s : Shared) (u : Value), BindsTo s fd ⟨[u], []⟩ [("script", u)]) ∧ ∀ base : Heap, (K w.params).In base → base.Ns mainGlobals mg → FnOk l.prog w (K w.params) mg base (L2.CX l.prog w) 17 fa fd ["script"] (spLaw (K w.params))) :
    PySem.W.WalkO q loose XP YP l.row.toRowW d [] (fun f vs => PySem.call f vs) :=
  L2.walk_of (n := 63) (k := 17) (x := "script") (CX := fun w => L2.CX l.prog w) (sp := fun w => spLaw (K w.params)) hn (by decide) hdf ⟨rfl, by decide, by decide⟩ hY F (fun _ _ a ns hl _ hS => ⟨a, ns, rfl, hS, hl, fun _ => rfl⟩) fun w H s e s' z => no_cx z
end K00
open PySem PySem.W PyProof.Rows in
set_option maxRecDepth 100000 in
set_option maxHeartbeats 0 in
theorem PySem.Challenge.cw_skewer_k00_tokens_of_a_line_holds : PySem.Challenge.rw_skewer_k00_tokens_of_a_line.Holds := by
  w_on; o_law; k_head; (case hw => w_witness2)
  k_fill
  refine K00.walk (l := PySem.Challenge.rw_skewer_k00_tokens_of_a_line) rfl rfl (fun w h Y => PySem.W.kIn_of Y) ?F
  case F =>
    intro w mg fa h KX G hmg
    refine' K00.all_mk K00.law_ok KX G hmg ?a_tokens ?l_tokens ?c_tokens ?k_tokens ?a_token_at ?l_token_at ?c_token_at ?k_token_at ?a_word_at ?l_word_at ?c_word_at ?k_word_at ?a_digits_at ?l_digits_at ?c_digits_at ?k_digits_at ?a_longest_row ?l_longest_row ?c_longest_row ?k_longest_row ?a_law_state ?l_law_state ?c_law_state ?k_law_state ?a_law_draw ?l_law_draw ?c_law_draw ?k_law_draw ?a_law_piece ?l_law_piece ?c_law_piece ?k_law_piece ?a_law_wrong ?l_law_wrong ?c_law_wrong ?k_law_wrong ?a_law_told ?l_law_told ?c_law_told ?k_law_told ?a_law ?l_law ?c_law ?k_law ?z_len ?z_list ?z_int ?z_str ?z_range ?z_isinstance ?z_sorted ?z_all ?z_any ?z_tuple ?z_set ?z_zip ?z_enumerate ?z_reversed ?z_min ?z_max ?z_sum ?z_super ?g_LETTERS ?g_MOST_LETTERS ?g_DIGITS ?g_SIGNS ?g_MOST_DIGITS ?aC ?aS ?xC ?sa ?n1 ?n2 ?n3 ?iC ?tI ?kC ?eC ?tC ?su ?sB ?sC ?op ?lI ?cI ?lD ?vD ?lc ?ga ?gg ?hd ?ic ?sS
    (case a_tokens => k_is)
    (case l_tokens => k_is)
    (case c_tokens => k_is)
    (case k_tokens => k_is)
    (case a_token_at => k_is)
    (case l_token_at => k_is)
    (case c_token_at => k_is)
    (case k_token_at => k_is)
    (case a_word_at => k_is)
    (case l_word_at => k_is)
    (case c_word_at => k_is)
    (case k_word_at => k_is)
    (case a_digits_at => k_is)
    (case l_digits_at => k_is)
    (case c_digits_at => k_is)
    (case k_digits_at => k_is)
    (case a_longest_row => k_is)
    (case l_longest_row => k_is)
    (case c_longest_row => k_is)
    (case k_longest_row => k_is)
    (case a_law_state => k_is)
    (case l_law_state => k_is)
    (case c_law_state => k_is)
    (case k_law_state => k_is)
    (case a_law_draw => k_is)
    (case l_law_draw => k_is)
    (case c_law_draw => k_is)
    (case k_law_draw => k_is)
    (case a_law_piece => k_is)
    (case l_law_piece => k_is)
    (case c_law_piece => k_is)
    (case k_law_piece => k_is)
    (case a_law_wrong => k_is)
    (case l_law_wrong => k_is)
    (case c_law_wrong => k_is)
    (case k_law_wrong => k_is)
    (case a_law_told => k_is)
    (case l_law_told => k_is)
    (case c_law_told => k_is)
    (case k_law_told => k_is)
    (case a_law => k_is)
    (case l_law => k_is)
    (case c_law => k_is)
    (case k_law => k_is)
    (case z_len => k_is)
    (case z_list => k_is)
    (case z_int => k_is)
    (case z_str => k_is)
    (case z_range => k_is)
    (case z_isinstance => k_is)
    (case z_sorted => k_is)
    (case z_all => k_is)
    (case z_any => k_is)
    (case z_tuple => k_is)
    (case z_set => k_is)
    (case z_zip => k_is)
    (case z_enumerate => k_is)
    (case z_reversed => k_is)
    (case z_min => k_is)
    (case z_max => k_is)
    (case z_sum => k_is)
    (case z_super => k_is)
    (case g_LETTERS => k_is)
    (case g_MOST_LETTERS => k_is)
    (case g_DIGITS => k_is)
    (case g_SIGNS => k_is)
    (case g_MOST_DIGITS => k_is)
    (case aC => k_is)
    (case aS => k_is)
    (case xC => k_is)
    (case sa => k_is)
    (case n1 => k_is)
    (case n2 => k_is)
    (case n3 => k_is)
    (case iC => k_is)
    (case tI => k_is)
    (case kC => k_is)
    (case eC => k_is)
    (case tC => k_is)
    (case su => ks_is)
    (case sB => k_is)
    (case sC => k_is)
    (case op => k_is)
    (case lI => k_is)
    (case cI => k_is)
    (case lD => k_is)
    (case vD => first | rfl | decide +kernel)
    (case lc => k_is)
    (case ga => k_is)
    (case gg => k_is)
    (case hd => k_is)
    (case ic => k_is)
    (case sS => first | rfl | k_is)

