import PyProof.Rows.All
import Wide.All
import OpenK.AllK
import Wide.FinOn
import Open.SpecLaws
import KE.OsHead
import KE.OsGo
import HandS.ForSpec
import HandS.Dict
import HandS.Iter
import HandS.Comp
import HandS.WordsDict
import HandS.SetFor
import HandS.Conv
import HandS.Walk
import HandS.ListItems
import PySem.Challenge.RW_bylabels_s01_answers
set_option Elab.async false
set_option maxRecDepth 100000
set_option maxHeartbeats 4000000
/-! The mathematics: what the specification's steps do to the state, and what stays true of it. -/
namespace By
open Ql75
/-! ### active labels -/
def acts (s : St) : List (Nat × Nat) := (s.owns.filter fun o => o.active).map fun o => (o.label, o.for_)
def lessH (p : Nat) (o : Own) : Own := { o with held := o.held.filter fun q => q != p }
def keep (o : Own) : Bool := o.active || !o.held.isEmpty
/-- what stays true of every state, within a call too -/
structure Wf (s : St) : Prop where
  waysL : s.ways.length = 32
  waysB : ∀ (f p : Nat), s.way f = some p → p ≤ 8
  upL : s.up.length = 8
  outL : s.out.length = 8
  heardL : s.heard.length = 8
  heardI : ∀ p, p < 8 → (s.heard.getD p []).length = 32
  outB : ∀ p, (s.waiting p).length ≤ 256
  outF : ∀ p, ∀ b ∈ s.waiting p, b.length ≤ 2000
  goneB : s.gone.length ≤ 64
  goneF : ∀ g ∈ s.gone, g.2.length ≤ 2000
  nd : (s.owns.map (·.label)).Nodup
  lab : ∀ o ∈ s.owns, 16 ≤ o.label ∧ o.label < 1040
  end_ : ∀ o ∈ s.owns, o.for_ < 32
  held : ∀ o ∈ s.owns, o.held.Nodup ∧ ∀ q ∈ o.held, q < 8
  kept : ∀ o ∈ s.owns, keep o = true
  one : ((acts s).map Prod.snd).Nodup
/-- between two calls: an end has a way on just if it has an active label -/
structure Ok (s : St) : Prop where
  wf : Wf s
  way : ∀ f, f < 32 → ((s.way f).isSome = true ↔ ∃ n, (n, f) ∈ acts s)
/-! ### lists -/
theorem getD_set_eq {α : Type} (l : List α) (i : Nat) (x d : α) (h : i < l.length) : (l.set i x).getD i d = x := by
  simp [List.getD_eq_getElem?_getD, h]
theorem getD_set_ne {α : Type} (l : List α) (i j : Nat) (x d : α) (h : i ≠ j) : (l.set i x).getD j d = l.getD j d := by
  simp [List.getD_eq_getElem?_getD, List.getElem?_set_ne h]
theorem getD_set_of {α : Type} (l : List α) (i j : Nat) (x d : α) : (l.set i x).getD j d = l.getD j d ∨ (i = j ∧ (l.set i x).getD j d = x) := by
  by_cases h : i = j
  · subst h
    by_cases hl : i < l.length
    · exact Or.inr ⟨rfl, getD_set_eq l i x d hl⟩
    · left
      rw [List.set_eq_of_length_le (by omega)]
  · exact Or.inl (getD_set_ne l i j x d h)
theorem getD_replicate {α : Type} (n i : Nat) (x : α) : (List.replicate n x).getD i x = x := by
  rw [List.getD_eq_getElem?_getD, List.getElem?_replicate]
  split <;> rfl
theorem filter_id {α : Type} {f : α → Bool} {l : List α} (h : ∀ x ∈ l, f x = true) : l.filter f = l := List.filter_eq_self.mpr h
/-! ### labels: a map that leaves label, end, activity; a filter that leaves the active -/
theorem acts_map {l : List Own} (g : Own → Own) (h1 : ∀ o, (g o).label = o.label) (h2 : ∀ o, (g o).for_ = o.for_) (h3 : ∀ o, (g o).active = o.active) :
    ((l.map g).filter fun o => o.active).map (fun o => (o.label, o.for_)) = (l.filter fun o => o.active).map fun o => (o.label, o.for_) := by
  induction l with
  | nil => rfl
  | cons o r ih =>
    rw [List.map_cons, List.filter_cons, List.filter_cons, h3]
    by_cases e : o.active = true
    · rw [if_pos e, if_pos e, List.map_cons, List.map_cons, h1, h2, ih]
    · rw [if_neg e, if_neg e, ih]
theorem acts_filter {l : List Own} (k : Own → Bool) (h : ∀ o : Own, o.active = true → k o = true) :
    ((l.filter k).filter fun o => o.active) = l.filter fun o => o.active := by
  induction l with
  | nil => rfl
  | cons o r ih =>
    by_cases e : o.active = true
    · rw [List.filter_cons, if_pos (h o e), List.filter_cons, if_pos e, List.filter_cons, if_pos e, ih]
    · have z : ((o :: r).filter fun o : Own => o.active) = r.filter fun o : Own => o.active := by rw [List.filter_cons, if_neg e]
      rw [z]
      by_cases e2 : k o = true
      · rw [List.filter_cons, if_pos e2, List.filter_cons, if_neg e, ih]
      · rw [List.filter_cons, if_neg e2, ih]
theorem keep_act (o : Own) (h : o.active = true) : keep o = true := by unfold keep; rw [h]; rfl
theorem labels_map {l : List Own} (g : Own → Own) (h1 : ∀ o, (g o).label = o.label) : (l.map g).map (·.label) = l.map (·.label) := by
  rw [List.map_map]
  exact List.map_congr_left fun o _ => h1 o
theorem nd_filter {l : List Own} (k : Own → Bool) (h : (l.map (·.label)).Nodup) : ((l.filter k).map (·.label)).Nodup :=
  h.sublist ((List.filter_sublist (p := k) (l := l)).map _)
theorem nd_eq {l : List Own} (h : (l.map (·.label)).Nodup) {a b : Own} (ha : a ∈ l) (hb : b ∈ l) (e : a.label = b.label) : a = b := by
  induction l with
  | nil => cases ha
  | cons o r ih =>
    obtain ⟨h1, h2⟩ := List.nodup_cons.mp (show (o.label :: r.map (·.label)).Nodup from h)
    rcases List.mem_cons.mp ha with rfl | ha'
    · rcases List.mem_cons.mp hb with rfl | hb'
      · rfl
      · exact absurd (List.mem_map.mpr ⟨b, hb', e.symm⟩) h1
    · rcases List.mem_cons.mp hb with rfl | hb'
      · exact absurd (List.mem_map.mpr ⟨a, ha', e⟩) h1
      · exact ih h2 ha' hb'
theorem mem_acts {s : St} {n f : Nat} : (n, f) ∈ acts s ↔ ∃ o ∈ s.owns, o.label = n ∧ o.for_ = f ∧ o.active = true := by
  unfold acts
  rw [List.mem_map]
  constructor
  · rintro ⟨o, ho, e⟩
    obtain ⟨h1, h2⟩ := List.mem_filter.mp ho
    exact ⟨o, h1, congrArg Prod.fst e, congrArg Prod.snd e, h2⟩
  · rintro ⟨o, h1, rfl, rfl, h2⟩
    exact ⟨o, List.mem_filter.mpr ⟨h1, h2⟩, rfl⟩
/-! ### down -/
theorem down_owns (s : St) (p : Nat) : (s.down p).owns = (s.owns.map (lessH p)).filter keep := rfl
theorem down_ways (s : St) (p : Nat) : (s.down p).ways = s.ways := rfl
theorem down_gone (s : St) (p : Nat) : (s.down p).gone = s.gone := rfl
theorem down_up (s : St) (p : Nat) : (s.down p).up = s.up.set p false := rfl
theorem down_out (s : St) (p : Nat) : (s.down p).out = s.out.set p [] := rfl
theorem down_heard (s : St) (p : Nat) : (s.down p).heard = s.heard.set p (List.replicate 32 none) := rfl
theorem down_acts (s : St) (p : Nat) : acts (s.down p) = acts s := by
  unfold acts
  rw [down_owns, acts_filter _ keep_act]
  exact acts_map (lessH p) (fun _ => rfl) (fun _ => rfl) (fun _ => rfl)
/-- what a step leaves of the labels: each that is there was there, with no more holders, but for those that h tells -/
def Less (h : Nat → Nat → Prop) (s s' : St) : Prop := ∀ o' ∈ s'.owns, ∃ o ∈ s.owns, o.label = o'.label ∧ o.for_ = o'.for_ ∧ ∀ q ∈ o'.held, q ∈ o.held ∨ h o.label q
theorem Less.refl (h : Nat → Nat → Prop) (s : St) : Less h s s := fun o ho => ⟨o, ho, rfl, rfl, fun _ hq => Or.inl hq⟩
theorem Less.trans {h : Nat → Nat → Prop} {s t u : St} (a : Less h s t) (b : Less h t u) : Less h s u := fun o ho => by
  obtain ⟨o1, h1, e1, e2, k1⟩ := b o ho
  obtain ⟨o2, h2, e3, e4, k2⟩ := a o1 h1
  refine ⟨o2, h2, e3.trans e1, e4.trans e2, fun q hq => ?_⟩
  rcases k1 q hq with z | z
  · exact k2 q z
  · rw [← e3] at z
    exact Or.inr z
theorem Less.mono {h h' : Nat → Nat → Prop} {s t : St} (a : Less h s t) (m : ∀ n q, h n q → h' n q) : Less h' s t := fun o ho => by
  obtain ⟨o1, h1, e1, e2, k1⟩ := a o ho
  exact ⟨o1, h1, e1, e2, fun q hq => (k1 q hq).imp id (m _ _)⟩
theorem down_less (h : Nat → Nat → Prop) (s : St) (p : Nat) : Less h s (s.down p) := fun o' ho => by
  rw [down_owns] at ho
  obtain ⟨o, h1, rfl⟩ := List.mem_map.mp (List.mem_filter.mp ho).1
  exact ⟨o, h1, rfl, rfl, fun q hq => Or.inl (List.mem_filter.mp hq).1⟩
theorem down_no (s : St) (p : Nat) : ∀ o ∈ (s.down p).owns, p ∉ o.held := fun o' ho => by
  rw [down_owns] at ho
  obtain ⟨o, h1, rfl⟩ := List.mem_map.mp (List.mem_filter.mp ho).1
  intro hq
  have := (List.mem_filter.mp hq).2
  simp at this
theorem Wf.down {s : St} (w : Wf s) (p : Nat) : Wf (s.down p) where
  waysL := w.waysL
  waysB := w.waysB
  upL := by rw [down_up, List.length_set]; exact w.upL
  outL := by rw [down_out, List.length_set]; exact w.outL
  heardL := by rw [down_heard, List.length_set]; exact w.heardL
  heardI := fun q hq => by
    rw [down_heard]
    rcases getD_set_of s.heard p q (List.replicate 32 none) [] with e | ⟨_, e⟩
    · rw [e]; exact w.heardI q hq
    · rw [e]; exact List.length_replicate
  outB := fun q => by
    unfold St.waiting
    rw [down_out]
    rcases getD_set_of s.out p q [] [] with e | ⟨_, e⟩
    · rw [e]; exact w.outB q
    · rw [e]; exact Nat.zero_le _
  outF := fun q b hb => by
    unfold St.waiting at hb
    rw [down_out] at hb
    rcases getD_set_of s.out p q [] [] with e | ⟨_, e⟩
    · rw [e] at hb; exact w.outF q b hb
    · rw [e] at hb; cases hb
  goneB := w.goneB
  goneF := w.goneF
  nd := by
    rw [down_owns]
    refine nd_filter _ ?_
    rw [labels_map (lessH p) (fun _ => rfl)]
    exact w.nd
  lab := fun o ho => by
    obtain ⟨o1, h1, e1, _⟩ := down_less (fun _ _ => False) s p o ho
    rw [← e1]; exact w.lab o1 h1
  end_ := fun o ho => by
    obtain ⟨o1, h1, _, e1, _⟩ := down_less (fun _ _ => False) s p o ho
    rw [← e1]; exact w.end_ o1 h1
  held := fun o ho => by
    rw [down_owns] at ho
    obtain ⟨o1, h1, rfl⟩ := List.mem_map.mp (List.mem_filter.mp ho).1
    exact ⟨(w.held o1 h1).1.sublist List.filter_sublist, fun q hq => (w.held o1 h1).2 q (List.mem_filter.mp hq).1⟩
  kept := fun o ho => by
    rw [down_owns] at ho
    exact (List.mem_filter.mp ho).2
  one := by rw [down_acts]; exact w.one
/-! ### a line's frames, one more -/
def addOut (s : St) (p : Nat) (b : Bytes) : St := { s with out := s.out.set p (s.waiting p ++ [b]) }
theorem Wf.addOut {s : St} (w : Wf s) {p : Nat} {b : Bytes} (hb : b.length ≤ 2000) (hl : (s.waiting p).length < 256) : Wf (addOut s p b) where
  waysL := w.waysL
  waysB := w.waysB
  upL := w.upL
  outL := by show (s.out.set p _).length = 8; rw [List.length_set]; exact w.outL
  heardL := w.heardL
  heardI := w.heardI
  outB := fun q => by
    show ((s.out.set p (s.waiting p ++ [b])).getD q []).length ≤ 256
    rcases getD_set_of s.out p q (s.waiting p ++ [b]) [] with e | ⟨_, e⟩
    · rw [e]; exact w.outB q
    · rw [e, List.length_append]; exact hl
  outF := fun q c hc => by
    have hc : c ∈ (s.out.set p (s.waiting p ++ [b])).getD q [] := hc
    rcases getD_set_of s.out p q (s.waiting p ++ [b]) [] with e | ⟨_, e⟩
    · rw [e] at hc; exact w.outF q c hc
    · rw [e] at hc
      rcases List.mem_append.mp hc with z | z
      · exact w.outF p c z
      · rw [List.mem_singleton.mp z]; exact hb
  goneB := w.goneB
  goneF := w.goneF
  nd := w.nd
  lab := w.lab
  end_ := w.end_
  held := w.held
  kept := w.kept
  one := w.one
/-! ### say -/
theorem say_cases (s : St) (p : Nat) (b : Bytes) : (s.isUp p = false ∧ s.say p b = s) ∨ (s.isUp p = true ∧ 256 ≤ (s.waiting p).length ∧ s.say p b = s.down p) ∨ (s.isUp p = true ∧ (s.waiting p).length < 256 ∧ s.say p b = addOut s p b) := by
  unfold St.say
  by_cases h : s.isUp p = false
  · exact Or.inl ⟨h, by rw [if_pos h]⟩
  · have h' : s.isUp p = true := by cases e : s.isUp p <;> simp_all
    rw [if_neg h]
    by_cases h2 : MESSAGES ≤ (s.waiting p).length
    · exact Or.inr (Or.inl ⟨h', h2, by rw [if_pos h2]⟩)
    · exact Or.inr (Or.inr ⟨h', Nat.lt_of_not_le h2, by rw [if_neg h2]; rfl⟩)
theorem say_acts (s : St) (p : Nat) (b : Bytes) : acts (s.say p b) = acts s := by
  rcases say_cases s p b with ⟨_, e⟩ | ⟨_, _, e⟩ | ⟨_, _, e⟩
  · rw [e]
  · rw [e, down_acts]
  · rw [e]; rfl
theorem say_ways (s : St) (p : Nat) (b : Bytes) : (s.say p b).ways = s.ways := by
  rcases say_cases s p b with ⟨_, e⟩ | ⟨_, _, e⟩ | ⟨_, _, e⟩ <;> rw [e] <;> rfl
theorem say_less (h : Nat → Nat → Prop) (s : St) (p : Nat) (b : Bytes) : Less h s (s.say p b) := by
  rcases say_cases s p b with ⟨_, e⟩ | ⟨_, _, e⟩ | ⟨_, _, e⟩
  · rw [e]; exact Less.refl h s
  · rw [e]; exact down_less h s p
  · rw [e]; exact fun o ho => ⟨o, ho, rfl, rfl, fun _ hq => Or.inl hq⟩
theorem Wf.say {s : St} (w : Wf s) (p : Nat) {b : Bytes} (hb : b.length ≤ 2000) : Wf (s.say p b) := by
  rcases say_cases s p b with ⟨_, e⟩ | ⟨_, _, e⟩ | ⟨_, h, e⟩
  · rw [e]; exact w
  · rw [e]; exact w.down p
  · rw [e]; exact w.addOut hb h
/-! ### gives -/
def addH (l p : Nat) (o : Own) : Own := if o.label = l ∧ o.held.contains p = false then { o with held := o.held ++ [p] } else o
theorem addH_label (l p : Nat) (o : Own) : (addH l p o).label = o.label := by unfold addH; split <;> rfl
theorem addH_for (l p : Nat) (o : Own) : (addH l p o).for_ = o.for_ := by unfold addH; split <;> rfl
theorem addH_active (l p : Nat) (o : Own) : (addH l p o).active = o.active := by unfold addH; split <;> rfl
theorem addH_held (l p : Nat) (o : Own) (q : Nat) (h : q ∈ (addH l p o).held) : q ∈ o.held ∨ (o.label = l ∧ q = p) := by
  unfold addH at h
  split at h
  · rename_i c
    rcases List.mem_append.mp h with z | z
    · exact Or.inl z
    · exact Or.inr ⟨c.1, List.mem_singleton.mp z⟩
  · exact Or.inl h
def withH (s : St) (l p : Nat) : St := { s with owns := s.owns.map (addH l p) }
theorem gives_eq (s : St) (l f p : Nat) : s.gives l f p = if s.isUp p = false then s else (withH s l p).say p (message 1 f l) := rfl
theorem withH_acts (s : St) (l p : Nat) : acts (withH s l p) = acts s := acts_map (addH l p) (addH_label l p) (addH_for l p) (addH_active l p)
theorem withH_less (s : St) (l p : Nat) : Less (fun n q => n = l ∧ q = p) s (withH s l p) := fun o' ho => by
  obtain ⟨o, h1, rfl⟩ := List.mem_map.mp (show o' ∈ s.owns.map (addH l p) from ho)
  exact ⟨o, h1, (addH_label l p o).symm, (addH_for l p o).symm, fun q hq => addH_held l p o q hq⟩
theorem Wf.withH {s : St} (w : Wf s) (l : Nat) {p : Nat} (hp : p < 8) : Wf (withH s l p) where
  waysL := w.waysL
  waysB := w.waysB
  upL := w.upL
  outL := w.outL
  heardL := w.heardL
  heardI := w.heardI
  outB := w.outB
  outF := w.outF
  goneB := w.goneB
  goneF := w.goneF
  nd := by
    show ((s.owns.map (addH l p)).map (·.label)).Nodup
    rw [labels_map _ (addH_label l p)]
    exact w.nd
  lab := fun o ho => by
    obtain ⟨o1, h1, e1, _⟩ := withH_less s l p o ho
    rw [← e1]; exact w.lab o1 h1
  end_ := fun o ho => by
    obtain ⟨o1, h1, _, e1, _⟩ := withH_less s l p o ho
    rw [← e1]; exact w.end_ o1 h1
  held := fun o ho => by
    obtain ⟨o1, h1, rfl⟩ := List.mem_map.mp (show o ∈ s.owns.map (addH l p) from ho)
    refine ⟨?_, fun q hq => ?_⟩
    · unfold addH
      split
      · rename_i c
        show (o1.held ++ [p]).Nodup
        refine List.nodup_append.mpr ⟨(w.held o1 h1).1, by simp, fun a ha b hb => ?_⟩
        rw [List.mem_singleton.mp hb]
        intro e
        rw [e] at ha
        have := c.2
        rw [List.contains_iff_mem.mpr ha] at this
        cases this
      · exact (w.held o1 h1).1
    · rcases addH_held l p o1 q hq with z | ⟨_, rfl⟩
      · exact (w.held o1 h1).2 q z
      · exact hp
  kept := fun o ho => by
    obtain ⟨o1, h1, rfl⟩ := List.mem_map.mp (show o ∈ s.owns.map (addH l p) from ho)
    have k := w.kept o1 h1
    unfold addH
    split
    · unfold keep at k ⊢
      show (o1.active || !(o1.held ++ [p]).isEmpty) = true
      simp
    · exact k
  one := by rw [withH_acts]; exact w.one
theorem message_length (k f l : Nat) : (message k f l).length ≤ 2000 := by show 5 ≤ 2000; decide
theorem gives_acts (s : St) (l f p : Nat) : acts (s.gives l f p) = acts s := by
  rw [gives_eq]
  split
  · rfl
  · rw [say_acts, withH_acts]
theorem gives_ways (s : St) (l f p : Nat) : (s.gives l f p).ways = s.ways := by
  rw [gives_eq]
  split
  · rfl
  · rw [say_ways]; rfl
theorem gives_less (s : St) (l f p : Nat) : Less (fun n q => n = l ∧ q = p) s (s.gives l f p) := by
  rw [gives_eq]
  split
  · exact Less.refl _ s
  · exact (withH_less s l p).trans (say_less _ _ p _)
theorem Wf.gives {s : St} (w : Wf s) (l f : Nat) {p : Nat} (hp : p < 8) : Wf (s.gives l f p) := by
  rw [gives_eq]
  split
  · exact w
  · exact (w.withH l hp).say p (message_length _ _ _)
end By

namespace By
open Ql75
/-! ### ways set: all else goes on alike -/
def setW (W : List (Option Nat)) (s : St) : St := { s with ways := W }
theorem setW_down (W : List (Option Nat)) (s : St) (p : Nat) : (setW W s).down p = setW W (s.down p) := rfl
theorem setW_say (W : List (Option Nat)) (s : St) (p : Nat) (b : Bytes) : (setW W s).say p b = setW W (s.say p b) := by
  unfold St.say
  show (if s.isUp p = false then setW W s else if MESSAGES ≤ (s.waiting p).length then setW W (s.down p) else _) = _
  split
  · rfl
  · split <;> rfl
theorem setW_gives (W : List (Option Nat)) (s : St) (l f p : Nat) : (setW W s).gives l f p = setW W (s.gives l f p) := by
  rw [gives_eq, gives_eq]
  show (if s.isUp p = false then setW W s else (setW W (withH s l p)).say p (message 1 f l)) = _
  rw [setW_say]
  split <;> rfl
theorem foldl_setW {α : Type} (W : List (Option Nat)) (g : St → α → St) (h : ∀ s a, g (setW W s) a = setW W (g s a)) : ∀ (l : List α) (s : St), l.foldl g (setW W s) = setW W (l.foldl g s)
  | [], _ => rfl
  | a :: r, s => by
    rw [List.foldl_cons, List.foldl_cons, h, foldl_setW W g h r]
theorem setW_freed (W : List (Option Nat)) (s : St) : (setW W s).freed = setW W s.freed := rfl
theorem Wf.setW {s : St} (w : Wf s) {f : Nat} {v : Option Nat} (hv : ∀ p, v = some p → p ≤ 8) : Wf (setW (s.ways.set f v) s) where
  waysL := by show (s.ways.set f v).length = 32; rw [List.length_set]; exact w.waysL
  waysB := fun g p e => by
    have e : (s.ways.set f v).getD g none = some p := e
    rcases getD_set_of s.ways f g v none with z | ⟨_, z⟩
    · rw [z] at e; exact w.waysB g p e
    · rw [z] at e; exact hv p e
  upL := w.upL
  outL := w.outL
  heardL := w.heardL
  heardI := w.heardI
  outB := w.outB
  outF := w.outF
  goneB := w.goneB
  goneF := w.goneF
  nd := w.nd
  lab := w.lab
  end_ := w.end_
  held := w.held
  kept := w.kept
  one := w.one
theorem setW_way (s : St) (f g : Nat) (v : Option Nat) (h : f < s.ways.length) : (setW (s.ways.set f v) s).way g = if g = f then v else s.way g := by
  show (s.ways.set f v).getD g none = _
  by_cases e : g = f
  · subst e; rw [if_pos rfl]; exact getD_set_eq _ _ _ _ h
  · rw [if_neg e]; exact getD_set_ne _ _ _ _ _ (fun q => e q.symm)
/-! ### labels as the program changes them -/
def dropH (n p : Nat) (l : List Own) : List Own := l.map fun o => if o.label = n then lessH p o else o
def setA (n : Nat) (l : List Own) : List Own := l.map fun o => if o.label = n then { o with active := false } else o
def frAt (n : Nat) (l : List Own) : List Own := l.filter fun o => o.label != n || keep o
def setO (l : List Own) (s : St) : St := { s with owns := l }
theorem map_off {n : Nat} {l : List Own} (g : Own → Own) (h : ∀ o ∈ l, o.label ≠ n) : (l.map fun o => if o.label = n then g o else o) = l := by
  have : (l.map fun o => if o.label = n then g o else o) = l.map id := List.map_congr_left fun o ho => if_neg (h o ho)
  rw [this, List.map_id]
theorem frAt_off {n : Nat} {l : List Own} (h : ∀ o ∈ l, o.label ≠ n) : frAt n l = l := filter_id fun o ho => by simp [h o ho]
theorem frAt_append (n : Nat) (a b : List Own) : frAt n (a ++ b) = frAt n a ++ frAt n b := List.filter_append ..
theorem dropH_append (n p : Nat) (a b : List Own) : dropH n p (a ++ b) = dropH n p a ++ dropH n p b := List.map_append ..
/-- all labels gone through from the front: the first i are done -/
def doneH (p i : Nat) (l : List Own) : List Own := ((l.take i).map (lessH p)).filter keep ++ l.drop i
theorem doneH_zero (p : Nat) (l : List Own) : doneH p 0 l = l := rfl
theorem doneH_all (p : Nat) (l : List Own) : doneH p l.length l = (l.map (lessH p)).filter keep := by
  unfold doneH
  rw [List.take_length, List.drop_length, List.append_nil]
theorem take_snoc {α : Type} : ∀ {l : List α} {i : Nat} {x : α}, l[i]? = some x → l.take (i + 1) = l.take i ++ [x]
  | [], i, x, h => by simp at h
  | a :: l, 0, x, h => by
    have e : a = x := Option.some.inj h
    subst e
    rfl
  | a :: l, i + 1, x, h => by
    have ih := take_snoc (l := l) (i := i) (x := x) h
    show a :: l.take (i + 1) = a :: l.take i ++ [x]
    rw [ih]
    rfl
theorem drop_cons {α : Type} : ∀ {l : List α} {i : Nat} {x : α}, l[i]? = some x → l.drop i = x :: l.drop (i + 1)
  | [], i, x, h => by simp at h
  | a :: l, 0, x, h => by
    have e : a = x := Option.some.inj h
    subst e
    rfl
  | a :: l, i + 1, x, h => drop_cons (l := l) (i := i) (x := x) h
theorem doneH_step {p i : Nat} {l : List Own} {o : Own} (nd : (l.map (·.label)).Nodup) (h : l[i]? = some o) : frAt o.label (dropH o.label p (doneH p i l)) = doneH p (i + 1) l := by
  have e0 : l = l.take i ++ (o :: l.drop (i + 1)) := by rw [← drop_cons h, List.take_append_drop]
  have nd2 : ((l.take i).map (·.label) ++ (o.label :: (l.drop (i + 1)).map (·.label))).Nodup := by
    rw [e0, List.map_append] at nd
    exact nd
  obtain ⟨_, n2, n3⟩ := List.nodup_append.mp nd2
  have off1 : ∀ x ∈ ((l.take i).map (lessH p)).filter keep, x.label ≠ o.label := fun x hx => by
    obtain ⟨y, hy, rfl⟩ := List.mem_map.mp (List.mem_filter.mp hx).1
    exact n3 y.label (List.mem_map.mpr ⟨y, hy, rfl⟩) o.label (List.mem_cons_self)
  have off2 : ∀ x ∈ l.drop (i + 1), x.label ≠ o.label := fun x hx e => (List.nodup_cons.mp n2).1 (List.mem_map.mpr ⟨x, hx, e⟩)
  unfold doneH
  rw [drop_cons h, take_snoc h, List.map_append, List.filter_append, dropH_append, frAt_append]
  have a1 : dropH o.label p (((l.take i).map (lessH p)).filter keep) = ((l.take i).map (lessH p)).filter keep := map_off _ off1
  rw [a1, frAt_off off1]
  have a2 : dropH o.label p (o :: l.drop (i + 1)) = lessH p o :: l.drop (i + 1) := by
    show (if o.label = o.label then lessH p o else o) :: dropH o.label p (l.drop (i + 1)) = _
    rw [if_pos rfl]
    exact congrArg _ (map_off _ off2)
  rw [a2]
  have a3 : frAt o.label (lessH p o :: l.drop (i + 1)) = [lessH p o].filter keep ++ l.drop (i + 1) := by
    have a4 : frAt o.label (l.drop (i + 1)) = l.drop (i + 1) := frAt_off off2
    unfold frAt at a4 ⊢
    rw [List.filter_cons, a4]
    have a5 : ((lessH p o).label != o.label || keep (lessH p o)) = keep (lessH p o) := by
      have : ((lessH p o).label != o.label) = false := by show (o.label != o.label) = false; simp
      rw [this]; rfl
    rw [a5, List.filter_cons, List.filter_nil]
    split <;> rfl
  rw [a3, List.map_cons, List.map_nil, List.append_assoc]
/-! ### the labels changed at one: what stays -/
theorem upd_labels (n : Nat) (g : Own → Own) (hg : ∀ o, (g o).label = o.label) (l : List Own) : (l.map fun o => if o.label = n then g o else o).map (·.label) = l.map (·.label) := by
  rw [List.map_map]
  refine List.map_congr_left fun o _ => ?_
  show (if o.label = n then g o else o).label = o.label
  split
  · exact hg o
  · rfl
theorem mem_upd {n : Nat} {g : Own → Own} {l : List Own} {x : Own} (h : x ∈ l.map fun o => if o.label = n then g o else o) : ∃ o ∈ l, (o.label = n ∧ x = g o) ∨ (o.label ≠ n ∧ x = o) := by
  obtain ⟨o, h1, rfl⟩ := List.mem_map.mp h
  by_cases e : o.label = n
  · exact ⟨o, h1, Or.inl ⟨e, if_pos e⟩⟩
  · exact ⟨o, h1, Or.inr ⟨e, if_neg e⟩⟩
theorem mem_upd' {n : Nat} {g : Own → Own} {l : List Own} {o : Own} (h : o ∈ l) (e : o.label = n) : g o ∈ l.map fun o => if o.label = n then g o else o :=
  List.mem_map.mpr ⟨o, h, if_pos e⟩
theorem mem_upd_ne {n : Nat} {g : Own → Own} {l : List Own} {o : Own} (h : o ∈ l) (e : o.label ≠ n) : o ∈ l.map fun o => if o.label = n then g o else o :=
  List.mem_map.mpr ⟨o, h, if_neg e⟩
/-- labels changed so that all is well but for being kept; then freed at n -/
theorem Wf.owns {s : St} (w : Wf s) {l : List Own} (hl : Less (fun _ _ => False) s (setO l s)) (nd : (l.map (·.label)).Nodup) (hh : ∀ o ∈ l, o.held.Nodup) (kp : ∀ o ∈ l, keep o = true) (one : ((acts (setO l s)).map Prod.snd).Nodup) : Wf (setO l s) where
  waysL := w.waysL
  waysB := w.waysB
  upL := w.upL
  outL := w.outL
  heardL := w.heardL
  heardI := w.heardI
  outB := w.outB
  outF := w.outF
  goneB := w.goneB
  goneF := w.goneF
  nd := nd
  lab := fun o ho => by
    obtain ⟨o1, h1, e1, _⟩ := hl o ho
    rw [← e1]; exact w.lab o1 h1
  end_ := fun o ho => by
    obtain ⟨o1, h1, _, e1, _⟩ := hl o ho
    rw [← e1]; exact w.end_ o1 h1
  held := fun o ho => by
    obtain ⟨o1, h1, _, _, k⟩ := hl o ho
    exact ⟨hh o ho, fun q hq => (k q hq).elim ((w.held o1 h1).2 q) False.elim⟩
  kept := kp
  one := one
theorem frAt_keep {n : Nat} {l : List Own} (h : ∀ o ∈ l, o.label ≠ n → keep o = true) : frAt n l = l.filter keep := by
  unfold frAt
  refine List.filter_congr fun o ho => ?_
  by_cases e : o.label = n
  · simp [e]
  · rw [h o ho e]; simp
/-- let go -/
def letGo (s : St) (n p : Nat) : St := setO (frAt n (dropH n p s.owns)) s
theorem letGo_less (s : St) (n p : Nat) : Less (fun _ _ => False) s (letGo s n p) := fun x hx => by
  obtain ⟨o, h1, h2⟩ := mem_upd (List.mem_filter.mp hx).1
  rcases h2 with ⟨_, rfl⟩ | ⟨_, rfl⟩
  · exact ⟨o, h1, rfl, rfl, fun q hq => Or.inl (List.mem_filter.mp hq).1⟩
  · exact ⟨x, h1, rfl, rfl, fun q hq => Or.inl hq⟩
theorem letGo_keep {s : St} (w : Wf s) (n p : Nat) : frAt n (dropH n p s.owns) = (dropH n p s.owns).filter keep := frAt_keep fun x hx e => by
  obtain ⟨o, h1, h2⟩ := mem_upd hx
  rcases h2 with ⟨e2, rfl⟩ | ⟨_, rfl⟩
  · exact absurd e2 e
  · exact w.kept x h1
theorem dropH_eq (n p : Nat) (l : List Own) : dropH n p l = l.map fun o => if o.label = n then lessH p o else o := rfl
theorem if_own (n : Nat) (g : Own → Own) (o : Own) (P : Own → Own → Prop) (h1 : P (g o) o) (h2 : P o o) : P (if o.label = n then g o else o) o := by split <;> assumption
theorem letGo_acts {s : St} (n p : Nat) : acts (letGo s n p) = acts s := by
  unfold acts
  show ((frAt n (dropH n p s.owns)).filter fun o => o.active).map _ = _
  unfold frAt
  rw [acts_filter _ (fun o h => by rw [keep_act o h]; simp), dropH_eq]
  exact acts_map _ (fun o => if_own n (lessH p) o (fun a b => a.label = b.label) rfl rfl) (fun o => if_own n (lessH p) o (fun a b => a.for_ = b.for_) rfl rfl) (fun o => if_own n (lessH p) o (fun a b => a.active = b.active) rfl rfl)
theorem Wf.letGo {s : St} (w : Wf s) (n p : Nat) : Wf (letGo s n p) := by
  refine w.owns (letGo_less s n p) ?_ (fun o ho => ?_) (fun o ho => ?_) ?_
  · refine nd_filter _ ?_
    rw [dropH_eq, upd_labels n (lessH p) (fun _ => rfl)]
    exact w.nd
  · obtain ⟨o1, h1, h2⟩ := mem_upd (List.mem_filter.mp ho).1
    rcases h2 with ⟨_, rfl⟩ | ⟨_, rfl⟩
    · exact (w.held o1 h1).1.sublist List.filter_sublist
    · exact (w.held o h1).1
  · rw [letGo_keep w] at ho
    exact (List.mem_filter.mp ho).2
  · show ((acts (By.letGo s n p)).map Prod.snd).Nodup
    rw [letGo_acts]; exact w.one
/-- the specification's own words for a label let go -/
theorem letGo_spec {s : St} (w : Wf s) {o : Own} {n f p : Nat} (ho : o ∈ s.owns) (hn : o.label = n) (hf : o.for_ = f) (ha : o.active = false) :
    ({ s with owns := s.owns.map fun o => if o.label = n ∧ o.for_ = f ∧ o.active = false then { o with held := o.held.filter fun q => q != p } else o } : St).freed = letGo s n p := by
  have e : (s.owns.map fun o => if o.label = n ∧ o.for_ = f ∧ o.active = false then { o with held := o.held.filter fun q => q != p } else o) = dropH n p s.owns := by
    refine List.map_congr_left fun x hx => ?_
    by_cases e : x.label = n
    · have : x = o := nd_eq w.nd hx ho (e.trans hn.symm)
      subst this
      rw [if_pos ⟨hn, hf, ha⟩, if_pos hn]; rfl
    · rw [if_neg fun z => e z.1, if_neg e]
  unfold By.letGo St.freed setO
  rw [e, letGo_keep w]
  rfl
theorem freed_id {s : St} (w : Wf s) : s.freed = s := by
  unfold St.freed
  have : (s.owns.filter fun o => o.active || !o.held.isEmpty) = s.owns := filter_id fun o ho => w.kept o ho
  rw [this]
theorem letGo_not {s : St} (w : Wf s) {n f p : Nat} (h : ∀ o ∈ s.owns, o.label = n → ¬ (o.for_ = f ∧ o.active = false)) :
    ({ s with owns := s.owns.map fun o => if o.label = n ∧ o.for_ = f ∧ o.active = false then { o with held := o.held.filter fun q => q != p } else o } : St).freed = s := by
  have e : (s.owns.map fun o => if o.label = n ∧ o.for_ = f ∧ o.active = false then { o with held := o.held.filter fun q => q != p } else o) = s.owns := by
    have : (s.owns.map fun o => if o.label = n ∧ o.for_ = f ∧ o.active = false then { o with held := o.held.filter fun q => q != p } else o) = s.owns.map id := List.map_congr_left fun x hx => if_neg fun z => h x hx z.1 z.2
    rw [this, List.map_id]
  rw [e]
  exact freed_id w
/-! ### the active label of an end -/
theorem active_some {s : St} {f : Nat} {o : Own} (h : s.active f = some o) : o ∈ s.owns ∧ o.active = true ∧ o.for_ = f := by
  unfold St.active at h
  have h1 := List.find?_some h
  simp at h1
  exact ⟨List.mem_of_find?_eq_some h, h1.1, h1.2⟩
theorem active_none {s : St} {f : Nat} (h : s.active f = none) : ∀ n, (n, f) ∉ acts s := fun n hn => by
  obtain ⟨o, h1, _, h3, h4⟩ := mem_acts.mp hn
  have := List.find?_eq_none.mp h o h1
  simp [h3, h4] at this
theorem active_iff {s : St} (k : Ok s) {f : Nat} (hf : f < 32) : (s.way f = none ∧ s.active f = none) ∨ (∃ p o, s.way f = some p ∧ s.active f = some o) := by
  have hk := k.way f hf
  cases e : s.active f with
  | none =>
    left
    refine ⟨?_, rfl⟩
    cases e2 : s.way f with
    | none => rfl
    | some p =>
      rw [e2] at hk
      obtain ⟨n, hn⟩ := hk.mp rfl
      exact absurd hn (active_none e n)
  | some o =>
    right
    obtain ⟨h1, h2, h3⟩ := active_some e
    have : (s.way f).isSome = true := hk.mpr ⟨o.label, mem_acts.mpr ⟨o, h1, rfl, h3, h2⟩⟩
    obtain ⟨p, hp⟩ := Option.isSome_iff_exists.mp this
    exact ⟨p, o, hp, rfl⟩
/-! ### the least label that's free -/
theorem free_none {s : St} (h : ∀ j, j < 1024 → ∃ o ∈ s.owns, o.label = 16 + j) : s.free = none := by
  unfold St.free
  refine List.find?_eq_none.mpr fun l hl => ?_
  obtain ⟨i, hi, rfl⟩ := List.mem_map.mp hl
  obtain ⟨o, h1, h2⟩ := h i (List.mem_range.mp hi)
  intro q
  have := List.all_eq_true.mp q o h1
  rw [h2] at this
  simp [LEAST] at this
theorem free_some {s : St} {i : Nat} (hi : i < 1024) (h : ∀ j, j < i → ∃ o ∈ s.owns, o.label = 16 + j) (hn : ∀ o ∈ s.owns, o.label ≠ 16 + i) : s.free = some (16 + i) := by
  unfold St.free
  rw [List.find?_map]
  have : (List.range LABELS).find? ((fun l => s.owns.all fun o => o.label != l) ∘ fun i => LEAST + i) = some i := by
    refine List.find?_range_eq_some.mpr ⟨?_, List.mem_range.mpr hi, fun j hj => ?_⟩
    · simp only [Function.comp, List.all_eq_true]
      intro o ho
      simpa [LEAST] using hn o ho
    · obtain ⟨o, h1, h2⟩ := h j hj
      have z : ((fun l => s.owns.all fun o => o.label != l) ∘ fun i => LEAST + i) j = false := by
        refine Bool.eq_false_iff.mpr fun q => ?_
        have := List.all_eq_true.mp q o h1
        rw [h2] at this
        simp [LEAST] at this
      rw [z]; rfl
  rw [this]
  rfl
/-! ### a way on where none was: a new label -/
def newO (l f : Nat) (s : St) : St := setO (s.owns ++ [⟨l, f, true, []⟩]) s
theorem newO_acts (l f : Nat) (s : St) : acts (newO l f s) = acts s ++ [(l, f)] := by
  unfold acts
  show ((s.owns ++ [(⟨l, f, true, []⟩ : Own)]).filter fun o : Own => o.active).map (fun o : Own => (o.label, o.for_)) = _
  rw [List.filter_append, List.map_append]
  rfl
theorem Wf.newO {s : St} (w : Wf s) {l f : Nat} (hl : 16 ≤ l ∧ l < 1040) (hf : f < 32) (hn : ∀ o ∈ s.owns, o.label ≠ l) (ha : s.active f = none) : Wf (newO l f s) where
  waysL := w.waysL
  waysB := w.waysB
  upL := w.upL
  outL := w.outL
  heardL := w.heardL
  heardI := w.heardI
  outB := w.outB
  outF := w.outF
  goneB := w.goneB
  goneF := w.goneF
  nd := by
    show ((s.owns ++ [(⟨l, f, true, []⟩ : Own)]).map fun o : Own => o.label).Nodup
    rw [List.map_append]
    refine List.nodup_append.mpr ⟨w.nd, by simp, fun a ha b hb => ?_⟩
    obtain ⟨o, h1, rfl⟩ := List.mem_map.mp ha
    rw [List.mem_singleton.mp hb]
    exact hn o h1
  lab := fun o ho => by
    rcases List.mem_append.mp ho with z | z
    · exact w.lab o z
    · rw [List.mem_singleton.mp z]; exact hl
  end_ := fun o ho => by
    rcases List.mem_append.mp ho with z | z
    · exact w.end_ o z
    · rw [List.mem_singleton.mp z]; exact hf
  held := fun o ho => by
    rcases List.mem_append.mp ho with z | z
    · exact w.held o z
    · rw [List.mem_singleton.mp z]; exact ⟨List.nodup_nil, fun q hq => by cases hq⟩
  kept := fun o ho => by
    rcases List.mem_append.mp ho with z | z
    · exact w.kept o z
    · rw [List.mem_singleton.mp z]; rfl
  one := by
    rw [newO_acts, List.map_append]
    refine List.nodup_append.mpr ⟨w.one, by simp, fun a ha' b hb => ?_⟩
    rw [List.mem_singleton.mp hb]
    obtain ⟨⟨n, g⟩, h1, rfl⟩ := List.mem_map.mp ha'
    intro e
    have e : g = f := e
    subst e
    exact active_none ha n h1
theorem told_new {s : St} {f t : Nat} (ha : s.active f = none) : s.told f (some t) = s.free.map fun l => setW (s.ways.set f (some t)) ((List.range 8).foldl (fun (s : St) p => s.gives l f p) (newO l f s)) := by
  unfold St.told
  rw [ha]
  show (s.free.map fun l => (List.range LINES).foldl (fun (s : St) p => s.gives l f p) (setW (s.ways.set f (some t)) (newO l f s))) = _
  congr 1
  funext l
  exact foldl_setW _ (fun (s : St) p => s.gives l f p) (fun s a => setW_gives _ s l f a) _ _
theorem gives_fold_acts (l f : Nat) : ∀ (ps : List Nat) (s : St), acts (ps.foldl (fun (s : St) p => s.gives l f p) s) = acts s
  | [], _ => rfl
  | p :: r, s => by rw [List.foldl_cons, gives_fold_acts l f r, gives_acts]
theorem gives_fold_ways (l f : Nat) : ∀ (ps : List Nat) (s : St), (ps.foldl (fun (s : St) p => s.gives l f p) s).ways = s.ways
  | [], _ => rfl
  | p :: r, s => by rw [List.foldl_cons, gives_fold_ways l f r, gives_ways]
/-! ### no way on where one was -/
def unA (n : Nat) (s : St) : St := setO (frAt n (setA n s.owns)) s
theorem unA_less (s : St) (n : Nat) : Less (fun _ _ => False) s (unA n s) := fun x hx => by
  obtain ⟨o, h1, h2⟩ := mem_upd (List.mem_filter.mp hx).1
  rcases h2 with ⟨_, rfl⟩ | ⟨_, rfl⟩
  · exact ⟨o, h1, rfl, rfl, fun q hq => Or.inl hq⟩
  · exact ⟨x, h1, rfl, rfl, fun q hq => Or.inl hq⟩
theorem unA_acts (s : St) (n : Nat) : ∀ a, a ∈ acts (unA n s) ↔ a ∈ acts s ∧ a.1 ≠ n := by
  rintro ⟨m, f⟩
  rw [mem_acts, mem_acts]
  constructor
  · rintro ⟨x, hx, rfl, rfl, hx3⟩
    obtain ⟨o, h1, h2⟩ := mem_upd (List.mem_filter.mp hx).1
    rcases h2 with ⟨_, rfl⟩ | ⟨e, rfl⟩
    · cases hx3
    · exact ⟨⟨x, h1, rfl, rfl, hx3⟩, e⟩
  · rintro ⟨⟨x, hx, rfl, rfl, hx3⟩, e⟩
    refine ⟨x, List.mem_filter.mpr ⟨mem_upd_ne hx e, ?_⟩, rfl, rfl, hx3⟩
    rw [keep_act x hx3]; simp
theorem unA_acts_eq (s : St) (n : Nat) : acts (unA n s) = (acts s).filter fun a => a.1 != n := by
  have key : ∀ l : List Own, ((frAt n (setA n l)).filter fun o => o.active).map (fun o => (o.label, o.for_)) = ((l.filter fun o => o.active).map fun o => (o.label, o.for_)).filter fun a => a.1 != n := by
    intro l
    have e1 : (frAt n (setA n l)).filter (fun o => o.active) = (setA n l).filter fun o => o.active := acts_filter _ fun o h => by rw [keep_act o h]; simp
    rw [e1]
    induction l with
    | nil => rfl
    | cons o r ih =>
      have ih := ih (acts_filter _ fun o h => by rw [keep_act o h]; simp)
      show ((((if o.label = n then { o with active := false } else o) :: setA n r).filter fun o => o.active).map fun o => (o.label, o.for_)) = _
      by_cases e : o.label = n
      · rw [if_pos e, List.filter_cons, if_neg (by simp), ih]
        by_cases a : o.active = true
        · have z : ((o :: r).filter fun o : Own => o.active) = o :: r.filter fun o : Own => o.active := by rw [List.filter_cons, if_pos a]
          rw [z, List.map_cons, List.filter_cons, if_neg (by simp [e])]
        · have z : ((o :: r).filter fun o : Own => o.active) = r.filter fun o : Own => o.active := by rw [List.filter_cons, if_neg a]
          rw [z]
      · rw [if_neg e]
        by_cases a : o.active = true
        · have z : ∀ l : List Own, ((o :: l).filter fun o : Own => o.active) = o :: l.filter fun o : Own => o.active := fun l => by rw [List.filter_cons, if_pos a]
          rw [z, z, List.map_cons, List.map_cons, List.filter_cons, if_pos (by simp [e]), ih]
        · have z : ∀ l : List Own, ((o :: l).filter fun o : Own => o.active) = l.filter fun o : Own => o.active := fun l => by rw [List.filter_cons, if_neg a]
          rw [z, z]
          exact ih
  exact key s.owns
theorem unA_keep {s : St} (w : Wf s) (n : Nat) : frAt n (setA n s.owns) = (setA n s.owns).filter keep := frAt_keep fun x hx e => by
  obtain ⟨o, h1, h2⟩ := mem_upd hx
  rcases h2 with ⟨e2, rfl⟩ | ⟨_, rfl⟩
  · exact absurd e2 e
  · exact w.kept x h1
theorem Wf.unA {s : St} (w : Wf s) (n : Nat) : Wf (unA n s) := by
  refine w.owns (unA_less s n) ?_ (fun o ho => ?_) (fun o ho => ?_) ?_
  · refine nd_filter _ ?_
    show ((s.owns.map fun o => if o.label = n then { o with active := false } else o).map (·.label)).Nodup
    rw [upd_labels n (fun o => { o with active := false }) (fun _ => rfl)]
    exact w.nd
  · obtain ⟨o1, h1, h2⟩ := mem_upd (List.mem_filter.mp ho).1
    rcases h2 with ⟨_, rfl⟩ | ⟨_, rfl⟩
    · exact (w.held o1 h1).1
    · exact (w.held o h1).1
  · rw [unA_keep w] at ho
    exact (List.mem_filter.mp ho).2
  · show ((acts (By.unA n s)).map Prod.snd).Nodup
    rw [unA_acts_eq]
    exact w.one.sublist ((List.filter_sublist).map _)
def takeBack (f : Nat) (o : Own) (s : St) : St := o.held.foldl (fun (s : St) p => s.say p (message 2 f o.label)) (unA o.label s)
theorem say_fold {m : Bytes} (hm : m.length ≤ 2000) : ∀ (ps : List Nat) (s : St), Wf s → Wf (ps.foldl (fun (s : St) p => s.say p m) s) ∧ acts (ps.foldl (fun (s : St) p => s.say p m) s) = acts s ∧ (ps.foldl (fun (s : St) p => s.say p m) s).ways = s.ways
  | [], s, w => ⟨w, rfl, rfl⟩
  | p :: r, s, w => by
    obtain ⟨a, b, c⟩ := say_fold hm r (s.say p m) (w.say p hm)
    rw [List.foldl_cons]
    exact ⟨a, b.trans (say_acts s p m), c.trans (say_ways s p m)⟩
theorem told_back {s : St} (w : Wf s) {f : Nat} {o : Own} (ha : s.active f = some o) : s.told f none = some (setW (s.ways.set f none) (takeBack f o s)) := by
  obtain ⟨h1, h2, h3⟩ := active_some ha
  unfold St.told
  rw [ha]
  show some ((o.held.foldl (fun (s : St) p => s.say p (message 2 f o.label)) (setW (s.ways.set f none) (setO (setA o.label s.owns) s))).freed) = _
  rw [foldl_setW _ (fun (s : St) p => s.say p (message 2 f o.label)) (fun s a => setW_say _ s a _), setW_freed]
  congr 2
  have e : setO ((setA o.label s.owns).filter keep) s = unA o.label s := by
    unfold By.unA
    rw [unA_keep w]
  cases hh : o.held with
  | nil =>
    unfold takeBack
    rw [hh]
    show (setO (setA o.label s.owns) s).freed = unA o.label s
    rw [← e]
    rfl
  | cons q r =>
    have e2 : setO (setA o.label s.owns) s = unA o.label s := by
      rw [← e]
      have : (setA o.label s.owns).filter keep = setA o.label s.owns := filter_id fun x hx => by
        obtain ⟨o1, g1, g2⟩ := mem_upd hx
        rcases g2 with ⟨e2, rfl⟩ | ⟨_, rfl⟩
        · have : o1 = o := nd_eq w.nd g1 h1 e2
          subst this
          unfold keep
          rw [show ({ o1 with active := false } : Own).held = q :: r from hh]
          simp
        · exact w.kept x g1
      rw [this]
    rw [e2]
    have t : takeBack f o s = (q :: r).foldl (fun (s : St) p => s.say p (message 2 f o.label)) (unA o.label s) := by unfold takeBack; rw [hh]
    rw [← t]
    refine freed_id ?_
    rw [t]
    exact (say_fold (message_length 2 f o.label) _ _ (w.unA o.label)).1
theorem told_same1 {s : St} {f p : Nat} {o : Own} (ha : s.active f = some o) : s.told f (some p) = some (setW (s.ways.set f (some p)) s) := by
  unfold St.told
  rw [ha]
  rfl
theorem told_same0 {s : St} {f : Nat} (ha : s.active f = none) : s.told f none = some (setW (s.ways.set f none) s) := by
  unfold St.told
  rw [ha]
  rfl
end By

namespace By
open Ql75
/-! ### a label given on one line behind another -/
def givesTo (l f i : Nat) (s : St) : St := (List.range i).foldl (fun (s : St) p => s.gives l f p) s
theorem givesTo_succ (l f i : Nat) (s : St) : givesTo l f (i + 1) s = (givesTo l f i s).gives l f i := by
  unfold givesTo
  rw [List.range_succ, List.foldl_append]
  rfl
theorem givesTo_all {s : St} (w : Wf s) (l f : Nat) : ∀ i, i ≤ 8 → Wf (givesTo l f i s) ∧ acts (givesTo l f i s) = acts s ∧ Less (fun n q => n = l ∧ q < i) s (givesTo l f i s)
  | 0, _ => ⟨w, rfl, Less.refl _ s⟩
  | i + 1, h => by
    obtain ⟨a, b, c⟩ := givesTo_all w l f i (by omega)
    rw [givesTo_succ]
    exact ⟨a.gives l f (by omega), (gives_acts _ l f i).trans b, (c.mono fun n q z => ⟨z.1, by omega⟩).trans ((gives_less _ l f i).mono fun n q z => ⟨z.1, by omega⟩)⟩
theorem givesTo_own {s : St} (w : Wf s) {o : Own} (ho : o ∈ s.owns) (ha : o.active = true) (hh : o.held = []) {i : Nat} (hi : i ≤ 8) : ∃ x ∈ (givesTo o.label o.for_ i s).owns, x.label = o.label ∧ x.for_ = o.for_ ∧ i ∉ x.held := by
  obtain ⟨a, b, c⟩ := givesTo_all w o.label o.for_ i hi
  obtain ⟨x, hx, e1, e2, _⟩ := mem_acts.mp (by rw [b]; exact mem_acts.mpr ⟨o, ho, rfl, rfl, ha⟩ : (o.label, o.for_) ∈ acts (givesTo o.label o.for_ i s))
  refine ⟨x, hx, e1, e2, fun q => ?_⟩
  obtain ⟨y, hy, e3, _, k⟩ := c x hx
  have : y = o := nd_eq w.nd hy ho (e3.trans e1)
  subst this
  rcases k i q with z | z
  · rw [hh] at z; cases z
  · exact absurd z.2 (Nat.lt_irrefl i)
/-! ### all labels given on a line -/
def lineTo (p i : Nat) (L : List Own) (s : St) : St := (L.take i).foldl (fun (s : St) o => s.gives o.label o.for_ p) s
theorem lineTo_succ {p i : Nat} {L : List Own} {o : Own} (h : L[i]? = some o) (s : St) : lineTo p (i + 1) L s = (lineTo p i L s).gives o.label o.for_ p := by
  unfold lineTo
  rw [take_snoc h, List.foldl_append]
  rfl
theorem lineTo_all {s : St} (w : Wf s) {p : Nat} (hp : p < 8) (L : List Own) : ∀ i, i ≤ L.length → Wf (lineTo p i L s) ∧ acts (lineTo p i L s) = acts s ∧ (lineTo p i L s).ways = s.ways ∧ Less (fun n q => q = p ∧ n ∈ (L.take i).map fun o => o.label) s (lineTo p i L s)
  | 0, _ => ⟨w, rfl, rfl, Less.refl _ s⟩
  | i + 1, h => by
    obtain ⟨a, b, b2, c⟩ := lineTo_all w hp L i (by omega)
    have hg : L[i]? = some L[i] := List.getElem?_eq_getElem h
    rw [lineTo_succ hg, take_snoc hg]
    refine ⟨a.gives _ _ hp, (gives_acts _ _ _ p).trans b, (gives_ways _ _ _ p).trans b2, (c.mono fun n q z => ⟨z.1, ?_⟩).trans ((gives_less _ _ _ p).mono fun n q z => ⟨z.2, ?_⟩)⟩
    · rw [List.map_append, z.1]; exact List.mem_append_right _ (List.mem_cons_self)
    · rw [List.map_append]; exact List.mem_append_left _ z.2
theorem filter_nd {l : List Own} (k : Own → Bool) (h : (l.map (·.label)).Nodup) : ((l.filter k).map (·.label)).Nodup := nd_filter k h
theorem lineTo_own {s : St} (w : Wf s) {p : Nat} (hp : p < 8) (hno : ∀ o ∈ s.owns, p ∉ o.held) {i : Nat} {o : Own} (hi : (s.owns.filter fun o => o.active)[i]? = some o) : ∃ x ∈ (lineTo p i (s.owns.filter fun o => o.active) s).owns, x.label = o.label ∧ x.for_ = o.for_ ∧ p ∉ x.held := by
  have hl := (List.getElem?_eq_some_iff.mp hi).1
  obtain ⟨a, b, _, c⟩ := lineTo_all w hp (s.owns.filter fun o => o.active) i (by omega)
  have mo := List.mem_of_getElem? hi
  obtain ⟨mo1, mo2⟩ := List.mem_filter.mp mo
  obtain ⟨x, hx, e1, e2, _⟩ := mem_acts.mp (by rw [b]; exact mem_acts.mpr ⟨o, mo1, rfl, rfl, mo2⟩ : (o.label, o.for_) ∈ acts (lineTo p i (s.owns.filter fun o => o.active) s))
  refine ⟨x, hx, e1, e2, fun q => ?_⟩
  obtain ⟨y, hy, e3, _, k⟩ := c x hx
  rcases k p q with z | z
  · exact hno y hy z
  · have nd := nd_filter (fun o => o.active) w.nd
    have z2 := z.2
    rw [e3, e1] at z2
    obtain ⟨u, hu, eu⟩ := List.mem_map.mp z2
    obtain ⟨j, hj, ej⟩ := List.mem_take_iff_getElem.mp hu
    have h1 : ((s.owns.filter fun o => o.active).map (·.label))[j]? = some o.label := by
      rw [List.getElem?_map, List.getElem?_eq_getElem (by omega), ej]
      exact congrArg some eu
    have h2 : ((s.owns.filter fun o => o.active).map (·.label))[i]? = some o.label := by rw [List.getElem?_map, hi]; rfl
    obtain ⟨l1, q1⟩ := List.getElem?_eq_some_iff.mp h1
    obtain ⟨l2, q2⟩ := List.getElem?_eq_some_iff.mp h2
    have := (List.getElem_inj nd).mp (q1.trans q2.symm)
    omega
/-! ### rise -/
theorem Wf.rise {s : St} (w : Wf s) (p : Nat) : Wf { s with up := s.up.set p true } where
  waysL := w.waysL
  waysB := w.waysB
  upL := by show (s.up.set p true).length = 8; rw [List.length_set]; exact w.upL
  outL := w.outL
  heardL := w.heardL
  heardI := w.heardI
  outB := w.outB
  outF := w.outF
  goneB := w.goneB
  goneF := w.goneF
  nd := w.nd
  lab := w.lab
  end_ := w.end_
  held := w.held
  kept := w.kept
  one := w.one
theorem Wf.fallen {s : St} (w : Wf s) (p : Nat) : Wf { s with up := s.up.set p false, heard := s.heard.set p (List.replicate 32 none), out := s.out.set p [] } := by
  have d := w.down p
  exact { waysL := d.waysL, waysB := d.waysB, upL := d.upL, outL := d.outL, heardL := d.heardL, heardI := d.heardI, outB := d.outB, outF := d.outF, goneB := d.goneB, goneF := d.goneF, nd := w.nd, lab := w.lab, end_ := w.end_, held := w.held, kept := w.kept, one := w.one }
theorem lineUp_eq (s : St) (p : Nat) : s.lineUp p = lineTo p ((s.down p).owns.filter fun o => o.active).length ((s.down p).owns.filter fun o => o.active) { s.down p with up := (s.down p).up.set p true } := by
  unfold lineTo
  rw [List.take_length]
  rfl
/-! ### hear -/
theorem Wf.hear {s : St} (w : Wf s) (p f : Nat) (n : Option Nat) : Wf (s.hear p f n) where
  waysL := w.waysL
  waysB := w.waysB
  upL := w.upL
  outL := w.outL
  heardL := by show (s.heard.set p _).length = 8; rw [List.length_set]; exact w.heardL
  heardI := fun q hq => by
    show ((s.heard.set p ((s.heard.getD p []).set f n)).getD q []).length = 32
    rcases getD_set_of s.heard p q ((s.heard.getD p []).set f n) [] with e | ⟨z, e⟩
    · rw [e]; exact w.heardI q hq
    · rw [e, List.length_set, z]; exact w.heardI q hq
  outB := w.outB
  outF := w.outF
  goneB := w.goneB
  goneF := w.goneF
  nd := w.nd
  lab := w.lab
  end_ := w.end_
  held := w.held
  kept := w.kept
  one := w.one
theorem Wf.gone {s : St} (w : Wf s) {g : List (Nat × Bytes)} (h1 : g.length ≤ 64) (h2 : ∀ x ∈ g, x.2.length ≤ 2000) : Wf { s with gone := g } where
  waysL := w.waysL
  waysB := w.waysB
  upL := w.upL
  outL := w.outL
  heardL := w.heardL
  heardI := w.heardI
  outB := w.outB
  outF := w.outF
  goneB := h1
  goneF := h2
  nd := w.nd
  lab := w.lab
  end_ := w.end_
  held := w.held
  kept := w.kept
  one := w.one
theorem Wf.outs {s : St} (w : Wf s) {p : Nat} {bs : List Bytes} (h1 : bs.length ≤ 256) (h2 : ∀ b ∈ bs, b.length ≤ 2000) : Wf { s with out := s.out.set p bs } where
  waysL := w.waysL
  waysB := w.waysB
  upL := w.upL
  outL := by show (s.out.set p bs).length = 8; rw [List.length_set]; exact w.outL
  heardL := w.heardL
  heardI := w.heardI
  outB := fun q => by
    show ((s.out.set p bs).getD q []).length ≤ 256
    rcases getD_set_of s.out p q bs [] with e | ⟨_, e⟩
    · rw [e]; exact w.outB q
    · rw [e]; exact h1
  outF := fun q c hc => by
    have hc : c ∈ (s.out.set p bs).getD q [] := hc
    rcases getD_set_of s.out p q bs [] with e | ⟨_, e⟩
    · rw [e] at hc; exact w.outF q c hc
    · rw [e] at hc; exact h2 c hc
  goneB := w.goneB
  goneF := w.goneF
  nd := w.nd
  lab := w.lab
  end_ := w.end_
  held := w.held
  kept := w.kept
  one := w.one
/-! ### takeBack, one holder behind another -/
def sayTo (m : Bytes) (i : Nat) (hs : List Nat) (s : St) : St := (hs.take i).foldl (fun (s : St) p => s.say p m) s
theorem sayTo_succ {m : Bytes} {i p : Nat} {hs : List Nat} (h : hs[i]? = some p) (s : St) : sayTo m (i + 1) hs s = (sayTo m i hs s).say p m := by
  unfold sayTo
  rw [take_snoc h, List.foldl_append]
  rfl
theorem takeBack_eq (f : Nat) (o : Own) (s : St) : takeBack f o s = sayTo (message 2 f o.label) o.held.length o.held (unA o.label s) := by
  unfold takeBack sayTo
  rw [List.take_length]
theorem Wf.begun : Wf Ql75.begun where
  waysL := rfl
  waysB := fun f p e => by
    have e : (List.replicate 32 (none : Option Nat)).getD f none = some p := e
    rw [getD_replicate] at e
    cases e
  upL := rfl
  outL := rfl
  heardL := rfl
  heardI := fun p hp => by
    show ((List.replicate 8 (List.replicate 32 (none : Option Nat))).getD p []).length = 32
    rw [List.getD_eq_getElem?_getD, List.getElem?_replicate, if_pos hp]
    rfl
  outB := fun p => by
    show ((List.replicate 8 ([] : List Bytes)).getD p []).length ≤ 256
    rw [getD_replicate]
    exact Nat.zero_le _
  outF := fun p b hb => by
    have hb : b ∈ (List.replicate 8 ([] : List Bytes)).getD p [] := hb
    rw [getD_replicate] at hb
    cases hb
  goneB := Nat.zero_le _
  goneF := fun g hg => by cases hg
  nd := List.nodup_nil
  lab := fun o ho => by cases ho
  end_ := fun o ho => by cases ho
  held := fun o ho => by cases ho
  kept := fun o ho => by cases ho
  one := List.nodup_nil
theorem Ok.begun : Ok Ql75.begun := ⟨Wf.begun, fun f _ => by
  have e : Ql75.begun.way f = none := by
    show (List.replicate 32 (none : Option Nat)).getD f none = none
    exact getD_replicate _ _ _
  rw [e]
  constructor
  · intro z; cases z
  · rintro ⟨n, h⟩; cases h⟩
end By

namespace By
open Ql75
theorem Ok.of {s t : St} (k : Ok s) (w : Wf t) (ha : acts t = acts s) (hw : t.ways = s.ways) : Ok t := ⟨w, fun f hf => by
  have e : t.way f = s.way f := by unfold St.way; rw [hw]
  rw [e, ha]
  exact k.way f hf⟩
theorem setW_acts (W : List (Option Nat)) (s : St) : acts (setW W s) = acts s := rfl
theorem map_inj_nd {α β : Type} {g : α → β} : ∀ {l : List α}, (l.map g).Nodup → ∀ {a b : α}, a ∈ l → b ∈ l → g a = g b → a = b
  | [], _, _, _, h, _, _ => by cases h
  | x :: r, nd, a, b, ha, hb, e => by
    obtain ⟨h1, h2⟩ := List.nodup_cons.mp (show (g x :: r.map g).Nodup from nd)
    rcases List.mem_cons.mp ha with rfl | ha'
    · rcases List.mem_cons.mp hb with rfl | hb'
      · rfl
      · exact absurd (List.mem_map.mpr ⟨b, hb', e.symm⟩) h1
    · rcases List.mem_cons.mp hb with rfl | hb'
      · exact absurd (List.mem_map.mpr ⟨a, ha', e⟩) h1
      · exact map_inj_nd h2 ha' hb' e
theorem free_range {s : St} {l : Nat} (h : s.free = some l) : (16 ≤ l ∧ l < 1040) ∧ ∀ o ∈ s.owns, o.label ≠ l := by
  unfold St.free at h
  have h1 := List.find?_some h
  have h2 := List.mem_of_find?_eq_some h
  obtain ⟨i, hi, rfl⟩ := List.mem_map.mp h2
  have hi := List.mem_range.mp hi
  refine ⟨⟨by show 16 ≤ 16 + i; omega, by show 16 + i < 1040; have : i < 1024 := hi; omega⟩, fun o ho e => ?_⟩
  have := List.all_eq_true.mp h1 o ho
  rw [e] at this
  simp at this
theorem Ok.told {s t : St} (k : Ok s) {f : Nat} (hf : f < 32) {v : Option Nat} (hv : ∀ p, v = some p → p ≤ 8) (h : s.told f v = some t) : Ok t := by
  have w := k.wf
  have hl : f < s.ways.length := by rw [w.waysL]; exact hf
  rcases active_iff k hf with ⟨e1, e2⟩ | ⟨p, o, e1, e2⟩
  · cases v with
    | none =>
      rw [told_same0 e2] at h
      cases h
      refine ⟨w.setW (fun p z => by cases z), fun g hg => ?_⟩
      rw [setW_way s f g none hl]
      by_cases e : g = f
      · subst e
        rw [if_pos rfl]
        have := k.way g hg
        rw [e1] at this
        exact this
      · rw [if_neg e]; exact k.way g hg
    | some p =>
      rw [told_new e2] at h
      cases e3 : s.free with
      | none => rw [e3] at h; cases h
      | some l =>
        rw [e3] at h
        have h : setW (s.ways.set f (some p)) (givesTo l f 8 (newO l f s)) = t := Option.some.inj h
        subst h
        obtain ⟨fr1, fr2⟩ := free_range e3
        have w1 := w.newO fr1 hf fr2 e2
        obtain ⟨w2, a2, _⟩ := givesTo_all w1 l f 8 (Nat.le_refl 8)
        have ew : (givesTo l f 8 (newO l f s)).ways = s.ways := gives_fold_ways l f _ _
        have es : setW (s.ways.set f (some p)) (givesTo l f 8 (newO l f s)) = setW ((givesTo l f 8 (newO l f s)).ways.set f (some p)) (givesTo l f 8 (newO l f s)) := by rw [ew]
        rw [es]
        refine ⟨w2.setW hv, fun g hg => ?_⟩
        rw [setW_way _ f g (some p) (by rw [ew]; exact hl)]
        rw [setW_acts, a2, newO_acts]
        by_cases e : g = f
        · subst e
          rw [if_pos rfl]
          exact ⟨fun _ => ⟨l, List.mem_append_right _ List.mem_cons_self⟩, fun _ => rfl⟩
        · rw [if_neg e]
          have ew2 : (givesTo l f 8 (newO l f s)).way g = s.way g := by unfold St.way; rw [ew]
          rw [ew2, k.way g hg]
          constructor
          · rintro ⟨n, hn⟩; exact ⟨n, List.mem_append_left _ hn⟩
          · rintro ⟨n, hn⟩
            rcases List.mem_append.mp hn with z | z
            · exact ⟨n, z⟩
            · exact absurd (congrArg Prod.snd (List.mem_singleton.mp z)) e
  · obtain ⟨ho, ha, hfo⟩ := active_some e2
    cases v with
    | some q =>
      rw [told_same1 e2] at h
      cases h
      refine ⟨w.setW hv, fun g hg => ?_⟩
      rw [setW_way s f g (some q) hl]
      by_cases e : g = f
      · subst e
        rw [if_pos rfl]
        have := k.way g hg
        rw [e1] at this
        exact this
      · rw [if_neg e]; exact k.way g hg
    | none =>
      rw [told_back w e2] at h
      have h : setW (s.ways.set f none) (takeBack f o s) = t := Option.some.inj h
      subst h
      obtain ⟨w2, a2, ew⟩ := say_fold (message_length 2 f o.label) o.held (unA o.label s) (w.unA o.label)
      have ew : (takeBack f o s).ways = s.ways := ew
      have es : setW (s.ways.set f none) (takeBack f o s) = setW ((takeBack f o s).ways.set f none) (takeBack f o s) := by rw [ew]
      rw [es]
      have w2 : Wf (takeBack f o s) := w2
      refine ⟨w2.setW (fun p z => by cases z), fun g hg => ?_⟩
      rw [setW_way _ f g none (by rw [ew]; exact hl)]
      have a2 : acts (takeBack f o s) = acts (unA o.label s) := a2
      rw [setW_acts, a2]
      have mo : (o.label, f) ∈ acts s := mem_acts.mpr ⟨o, ho, rfl, hfo, ha⟩
      by_cases e : g = f
      · subst e
        rw [if_pos rfl]
        constructor
        · intro z; cases z
        · rintro ⟨n, hn⟩
          obtain ⟨h1, h2⟩ := (unA_acts s o.label _).mp hn
          have := map_inj_nd w.one h1 mo rfl
          exact absurd (congrArg Prod.fst this) h2
      · rw [if_neg e]
        have ew2 : (takeBack f o s).way g = s.way g := by unfold St.way; rw [ew]
        rw [ew2, k.way g hg]
        constructor
        · rintro ⟨n, hn⟩
          refine ⟨n, (unA_acts s o.label _).mpr ⟨hn, fun z => ?_⟩⟩
          obtain ⟨o2, g1, g2, g3, g4⟩ := mem_acts.mp hn
          have : o2 = o := nd_eq w.nd g1 ho (g2.trans z)
          subst this
          exact e (g3.symm.trans hfo)
        · rintro ⟨n, hn⟩
          exact ⟨n, ((unA_acts s o.label _).mp hn).1⟩
theorem onward_cases (s : St) (f t : Nat) (b : Bytes) : s.onward f t b = s ∨ (s.gone.length < 64 ∧ s.onward f t b = { s with gone := s.gone ++ [(f, b)] }) ∨ ∃ p l, (s.waiting p).length < 128 ∧ s.onward f t b = addOut s p (packet (t - 1) l b) := by
  unfold St.onward
  cases s.way f with
  | none => exact .inl rfl
  | some p =>
    dsimp only
    by_cases h1 : p = HERE
    · rw [if_pos h1]
      by_cases h2 : LEAVE ≤ s.gone.length
      · exact .inl (if_pos h2)
      · exact .inr (.inl ⟨Nat.lt_of_not_le h2, if_neg h2⟩)
    · rw [if_neg h1]
      cases s.label p f with
      | none => exact .inl rfl
      | some l =>
        dsimp only
        by_cases h2 : t ≤ 1 ∨ s.isUp p = false ∨ PACKETS ≤ (s.waiting p).length
        · exact .inl (if_pos h2)
        · refine .inr (.inr ⟨p, l, ?_, if_neg h2⟩)
          have : ¬ PACKETS ≤ (s.waiting p).length := fun z => h2 (.inr (.inr z))
          exact Nat.lt_of_not_le this
theorem Ok.onward {s : St} (k : Ok s) (f t : Nat) {b : Bytes} (hb : b.length ≤ 1900) : Ok (s.onward f t b) := by
  rcases onward_cases s f t b with e | ⟨h, e⟩ | ⟨p, l, h, e⟩
  · rw [e]; exact k
  · rw [e]
    refine k.of (k.wf.gone (by rw [List.length_append]; show s.gone.length + 1 ≤ 64; omega) fun x hx => ?_) rfl rfl
    rcases List.mem_append.mp hx with z | z
    · exact k.wf.goneF x z
    · rw [List.mem_singleton.mp z]; show b.length ≤ 2000; omega
  · rw [e]
    refine k.of (k.wf.addOut ?_ (by omega)) rfl rfl
    show ([1, t - 1, l / 256, l % 256] ++ b).length ≤ 2000
    rw [List.length_append]
    show 4 + b.length ≤ 2000
    omega
theorem Ok.down {s : St} (k : Ok s) (p : Nat) : Ok (s.down p) := k.of (k.wf.down p) (down_acts s p) rfl
theorem Ok.lineUp {s : St} (k : Ok s) {p : Nat} (hp : p < 8) : Ok (s.lineUp p) := by
  rw [lineUp_eq]
  have w1 := (k.wf.down p).rise p
  obtain ⟨a, b, c, _⟩ := lineTo_all w1 hp ((s.down p).owns.filter fun o => o.active) _ (Nat.le_refl _)
  exact k.of a (b.trans (down_acts s p)) (c.trans rfl)
theorem Ok.letgo {s : St} (k : Ok s) (n f p : Nat) : Ok ({ s with owns := s.owns.map fun o => if o.label = n ∧ o.for_ = f ∧ o.active = false then { o with held := o.held.filter fun q => q != p } else o } : St).freed := by
  by_cases h : ∃ o ∈ s.owns, o.label = n ∧ o.for_ = f ∧ o.active = false
  · obtain ⟨o, h1, h2, h3, h4⟩ := h
    rw [letGo_spec k.wf h1 h2 h3 h4]
    exact k.of (k.wf.letGo n p) (letGo_acts n p) rfl
  · rw [letGo_not k.wf fun o ho hn z => h ⟨o, ho, hn, z.1, z.2⟩]
    exact k
/-- a frame taken, by its form -/
theorem Ok.take {s t : St} (k : Ok s) {p : Nat} {b : Bytes} (hb : b.length ≤ 1504) (h : s.take p b = some t) : Ok t := by
  unfold St.take at h
  split at h
  · rename_i kind f hh l
    dsimp only at h
    split at h
    · cases h
    · split at h
      · cases h
        exact k.of (k.wf.hear _ _ _) rfl rfl
      · split at h
        · cases h
          split
          · exact k.of ((k.wf.hear _ _ _).say _ (message_length _ _ _)) (say_acts _ _ _) (say_ways _ _ _)
          · exact k.of (k.wf.say _ (message_length _ _ _)) (say_acts _ _ _) (say_ways _ _ _)
        · cases h
          exact k.letgo _ _ _
  · rename_i ttl hh l r
    split at h
    · cases h
    · cases h
      split
      · exact k
      · refine k.onward _ _ ?_
        have : (1 :: ttl :: hh :: l :: r).length = r.length + 4 := rfl
        omega
  · cases h
def fits : Ql75.Call → Prop
  | .take _ b n => n = b.length
  | .enter _ b n => n = b.length
  | _ => True
theorem between_iff {z : Int} {lo hi : Nat} : between z lo hi = true ↔ (lo : Int) ≤ z ∧ z ≤ (hi : Int) := by
  unfold between
  rw [Bool.and_eq_true, decide_eq_true_iff, decide_eq_true_iff]
theorem between_not {z : Int} {lo hi : Nat} (h : ¬ between z lo hi = false) : (lo : Int) ≤ z ∧ z ≤ (hi : Int) := by
  rw [Bool.not_eq_false] at h
  exact between_iff.mp h
theorem Ok.spec {s s' : St} {c : Ql75.Call} {w : Ans} (k : Ok s) (hc : fits c) (h : Ql75.spec (some s) c = (some s', w)) : Ok s' := by
  have inj : ∀ {x : Abs} {y : Ans}, (x, y) = ((some s', w) : Abs × Ans) → x = some s' := fun e => congrArg Prod.fst e
  cases c with
  | begin_ =>
    have e : some Ql75.begun = some s' := inj (x := some Ql75.begun) (y := only 0) h
    cases e
    exact Ok.begun
  | way f to =>
    have h : (if between f 0 31 = false ∨ ¬ (to = -1 ∨ between to 0 8 = true) then ((some s : Abs), only (-2)) else (match s.told f.toNat (if to = -1 then none else some to.toNat) with
      | none => (some s, only (-1))
      | some t => (some t, only 0))) = (some s', w) := h
    split at h
    · have e : some s = some s' := inj h
      cases e; exact k
    · rename_i c
      have c1 : between f 0 31 = true := by
        cases z : between f 0 31 with
        | true => rfl
        | false => exact absurd (.inl z) c
      have c2 : to = -1 ∨ between to 0 8 = true := Decidable.byContradiction fun z => c (.inr z)
      obtain ⟨f1, f2⟩ := between_iff.mp c1
      cases e : s.told f.toNat (if to = -1 then none else some to.toNat) with
      | none =>
        rw [e] at h
        have e : some s = some s' := inj h
        cases e; exact k
      | some t =>
        rw [e] at h
        have e2 : some t = some s' := inj h
        cases e2
        refine k.told (by omega) (fun p hp => ?_) e
        by_cases z : to = -1
        · rw [if_pos z] at hp; cases hp
        · rw [if_neg z] at hp
          cases hp
          obtain ⟨g1, g2⟩ := between_iff.mp (c2.resolve_left z)
          omega
  | line p u =>
    have h : (if between p 0 7 = false then ((some s : Abs), only (-2)) else (some (if u = 0 then s.down p.toNat else s.lineUp p.toNat), only 0)) = (some s', w) := h
    split at h
    · have e : some s = some s' := inj h
      cases e; exact k
    · rename_i c
      obtain ⟨g1, g2⟩ := between_not c
      have e : some (if u = 0 then s.down p.toNat else s.lineUp p.toNat) = some s' := inj h
      cases e
      split
      · exact k.down _
      · exact k.lineUp (by omega)
  | take p b n =>
    have hc : n = b.length := hc
    have h : (if between p 0 7 = false ∨ n < 1 ∨ LONG + 4 < n then ((some s : Abs), only (-2)) else if s.isUp p.toNat = false then (some s, only (-1)) else (match s.take p.toNat b with
      | none => (some s, only (-3))
      | some t => (some t, only 0))) = (some s', w) := h
    split at h
    · have e : some s = some s' := inj h
      cases e; exact k
    · rename_i c
      split at h
      · have e : some s = some s' := inj h
        cases e; exact k
      · cases e : s.take p.toNat b with
        | none =>
          rw [e] at h
          have e : some s = some s' := inj h
          cases e; exact k
        | some t =>
          rw [e] at h
          have e2 : some t = some s' := inj h
          cases e2
          have : ¬ LONG + 4 < n := fun z => c (.inr (.inr z))
          have : ¬ 1504 < n := this
          exact k.take (by omega) e
  | enter f b n =>
    have hc : n = b.length := hc
    have h : (if between f 0 31 = false ∨ n < 1 ∨ LONG < n then ((some s : Abs), only (-2)) else (some (s.onward f.toNat FIRST b), only 0)) = (some s', w) := h
    split at h
    · have e : some s = some s' := inj h
      cases e; exact k
    · rename_i c
      have e : some (s.onward f.toNat FIRST b) = some s' := inj h
      cases e
      have : ¬ LONG < n := fun z => c (.inr (.inr z))
      have : ¬ 1500 < n := this
      exact k.onward _ _ (by omega)
  | next p room =>
    have h : (if between p 0 7 = false ∨ ROOM < room then ((some s : Abs), only (-2)) else (match s.waiting p.toNat with
      | [] => (some s, only (-1))
      | b :: r => if room < b.length then (some s, only (-5)) else (some { s with out := s.out.set p.toNat r }, ⟨(b.length : Nat), b⟩))) = (some s', w) := h
    split at h
    · have e : some s = some s' := inj h
      cases e; exact k
    · cases e : s.waiting p.toNat with
      | nil =>
        rw [e] at h
        have e : some s = some s' := inj h
        cases e; exact k
      | cons b r =>
        rw [e] at h
        dsimp only at h
        split at h
        · have e : some s = some s' := inj h
          cases e; exact k
        · have e2 : some ({ s with out := s.out.set p.toNat r } : St) = some s' := inj h
          cases e2
          have b1 := k.wf.outB p.toNat
          have b2 := k.wf.outF p.toNat
          rw [e] at b1 b2
          exact k.of (k.wf.outs (Nat.le_of_succ_le b1) fun x hx => b2 x (List.mem_cons_of_mem _ hx)) rfl rfl
  | gone room =>
    have h : (if ROOM < room then ((some s : Abs), only (-2)) else (match s.gone with
      | [] => (some s, only (-1))
      | g :: r => if room < g.2.length + 1 then (some s, only (-5)) else (some { s with gone := r }, ⟨((g.2.length + 1 : Nat) : Int), g.1 :: g.2⟩))) = (some s', w) := h
    split at h
    · have e : some s = some s' := inj h
      cases e; exact k
    · cases e : s.gone with
      | nil =>
        rw [e] at h
        have e : some s = some s' := inj h
        cases e; exact k
      | cons b r =>
        rw [e] at h
        dsimp only at h
        split at h
        · have e : some s = some s' := inj h
          cases e; exact k
        · have e2 : some ({ s with gone := r } : St) = some s' := inj h
          cases e2
          have b1 := k.wf.goneB
          have b2 := k.wf.goneF
          rw [e] at b1 b2
          exact k.of (k.wf.gone (Nat.le_of_succ_le b1) fun x hx => b2 x (List.mem_cons_of_mem _ hx)) rfl rfl
  | look u f p =>
    have e : some s = some s' := inj h
    cases e; exact k
end By

namespace By
open Ql75
/-! ### a call read off the list -/
inductive Read : List Int → List (List Int) → List Int → Prop
  | c0 (t : List Int) : Read (0 :: t) [[0]] t
  | c1 (x y : Int) (t : List Int) : Read (1 :: x :: y :: t) [[1, x, y]] t
  | c2 (x y : Int) (t : List Int) : Read (2 :: x :: y :: t) [[2, x, y]] t
  | c3 (x : Int) (b t : List Int) : Read (3 :: x :: (b.length : Int) :: (b ++ t)) [[3, x], b] t
  | c4 (x : Int) (b t : List Int) : Read (4 :: x :: (b.length : Int) :: (b ++ t)) [[4, x], b] t
  | c5 (x y : Int) (t : List Int) : Read (5 :: x :: y :: t) [[5, x, y]] t
  | c6 (x : Int) (t : List Int) : Read (6 :: x :: t) [[6, x]] t
  | c7 (x y z : Int) (t : List Int) : Read (7 :: x :: y :: z :: t) [[7, x, y, z]] t
theorem call_plain {p : Int} {r t : List Int} {c : List (List Int)} {n : Nat} (hs : PyQl75.shape p = some (n, 0)) (h : PyFlat.call PyQl75.shape (p :: r) = some (c, t)) : n ≤ r.length ∧ c = [p :: r.take n] ∧ t = r.drop n := by
  unfold PyFlat.call at h
  dsimp only at h
  rw [hs] at h
  dsimp only at h
  by_cases hl : r.length < n
  · rw [if_pos hl] at h; cases h
  · rw [if_neg hl] at h
    have h : some ((p :: r.take n) :: [], r.drop n) = some (c, t) := h
    cases h
    exact ⟨by omega, rfl, rfl⟩
theorem call_row {p : Int} {r t : List Int} {c : List (List Int)} (hs : PyQl75.shape p = some (1, 1)) (h : PyFlat.call PyQl75.shape (p :: r) = some (c, t)) : ∃ x b, r = x :: ((b.length : Nat) : Int) :: (b ++ t) ∧ c = [[p, x], b] := by
  unfold PyFlat.call at h
  dsimp only at h
  rw [hs] at h
  dsimp only at h
  by_cases hl : r.length < 1
  · rw [if_pos hl] at h; cases h
  · rw [if_neg hl] at h
    match r, hl with
    | [x], _ => cases h
    | x :: n :: r', _ =>
      have h : (match (match PyFlat.row (n :: r') with
        | none => none
        | some (x, s) => some ([x], s) : Option (List (List Int) × List Int)) with
        | none => none
        | some (xs, t) => some ((p :: [x]) :: xs, t)) = some (c, t) := h
      by_cases hn : 0 ≤ n ∧ n.toNat ≤ r'.length
      · have e : PyFlat.row (n :: r') = some (r'.take n.toNat, r'.drop n.toNat) := if_pos hn
        rw [e] at h
        cases h
        refine ⟨x, r'.take n.toNat, ?_, rfl⟩
        rw [List.take_append_drop, List.length_take, Nat.min_eq_left hn.2]
        congr 2
        omega
      · have e : PyFlat.row (n :: r') = none := if_neg hn
        rw [e] at h
        cases h
theorem call_cases {l t : List Int} {c : List (List Int)} (h : PyFlat.call PyQl75.shape l = some (c, t)) : Read l c t := by
  match l with
  | [] => cases h
  | p :: r =>
    by_cases h0 : p = 0
    · subst h0
      obtain ⟨a, b, d⟩ := call_plain (n := 0) rfl h
      subst b d
      exact .c0 _
    by_cases h1 : p = 1
    · subst h1
      obtain ⟨a, b, d⟩ := call_plain (n := 2) rfl h
      match r, a with
      | x :: y :: r', _ => subst b d; exact .c1 _ _ _
    by_cases h2 : p = 2
    · subst h2
      obtain ⟨a, b, d⟩ := call_plain (n := 2) rfl h
      match r, a with
      | x :: y :: r', _ => subst b d; exact .c2 _ _ _
    by_cases h3 : p = 3
    · subst h3
      obtain ⟨x, b, e1, e2⟩ := call_row rfl h
      subst e1 e2
      exact .c3 _ _ _
    by_cases h4 : p = 4
    · subst h4
      obtain ⟨x, b, e1, e2⟩ := call_row rfl h
      subst e1 e2
      exact .c4 _ _ _
    by_cases h5 : p = 5
    · subst h5
      obtain ⟨a, b, d⟩ := call_plain (n := 2) rfl h
      match r, a with
      | x :: y :: r', _ => subst b d; exact .c5 _ _ _
    by_cases h6 : p = 6
    · subst h6
      obtain ⟨a, b, d⟩ := call_plain (n := 1) rfl h
      match r, a with
      | x :: r', _ => subst b d; exact .c6 _ _
    by_cases h7 : p = 7
    · subst h7
      obtain ⟨a, b, d⟩ := call_plain (n := 3) rfl h
      match r, a with
      | x :: y :: z :: r', _ => subst b d; exact .c7 _ _ _ _
    · have hs : PyQl75.shape p = none := by
        unfold PyQl75.shape
        rw [if_neg h0, if_neg h1, if_neg h2, if_neg h3, if_neg h4, if_neg h5, if_neg h6, if_neg h7]
      unfold PyFlat.call at h
      dsimp only at h
      rw [hs] at h
      cases h
theorem calls_cons {f : Nat} {p : Int} {r : List Int} {cs : List (List (List Int))} (h : PyFlat.calls PyQl75.shape f (p :: r) = some cs) : ∃ f' c t cs', f = f' + 1 ∧ PyFlat.call PyQl75.shape (p :: r) = some (c, t) ∧ PyFlat.calls PyQl75.shape f' t = some cs' ∧ cs = c :: cs' := by
  cases f with
  | zero => cases h
  | succ f =>
    unfold PyFlat.calls at h
    cases e : PyFlat.call PyQl75.shape (p :: r) with
    | none => rw [e] at h; cases h
    | some ct =>
      obtain ⟨c, t⟩ := ct
      rw [e] at h
      dsimp only at h
      cases e2 : PyFlat.calls PyQl75.shape f t with
      | none => rw [e2] at h; cases h
      | some cs' =>
        rw [e2] at h
        exact ⟨f, c, t, cs', rfl, rfl, e2, (Option.some.inj h).symm⟩
theorem calls_nil {f : Nat} {cs : List (List (List Int))} (h : PyFlat.calls PyQl75.shape f [] = some cs) : cs = [] := by
  cases f <;> exact (Option.some.inj h).symm
theorem nats_cast : ∀ {b : List Int}, (b.all fun (z : Int) => Ql75Neutral.natural z 8) = true → (Ql75Neutral.nats b).map (fun n => ((n : Nat) : Int)) = b
  | [], _ => rfl
  | x :: r, h => by
    have h : (Ql75Neutral.natural x 8 && r.all fun (z : Int) => Ql75Neutral.natural z 8) = true := h
    rw [Bool.and_eq_true] at h
    have ih := nats_cast h.2
    have h1 : (decide (0 ≤ x) && decide (x < 2 ^ 8)) = true := h.1
    rw [Bool.and_eq_true] at h1
    have h2 : 0 ≤ x := of_decide_eq_true h1.1
    show ((x.toNat : Nat) : Int) :: (Ql75Neutral.nats r).map (fun n => ((n : Nat) : Int)) = x :: r
    rw [ih, Int.toNat_of_nonneg h2]
theorem nats_len (b : List Int) : (Ql75Neutral.nats b).length = b.length := List.length_map _
/-- the call as the specification has it -/
def specOf : List (List Int) → Option Ql75.Call := fun c => Ql75Neutral.callOf (PyQl75.whole c)
theorem step_of {st : Abs} {c : List (List Int)} {q : Ql75.Call} (h : Ql75Neutral.callOf (PyQl75.whole c) = some q) : Ql75Neutral.step st (PyQl75.whole c) = ((Ql75.spec st q).1, (Ql75.spec st q).2.v :: Ql75Neutral.ints (Ql75.spec st q).2.out) := by
  unfold Ql75Neutral.step
  rw [h]
theorem co0 : Ql75Neutral.callOf (PyQl75.whole [[0]]) = some .begin_ := rfl
theorem co1 (x y : Int) : Ql75Neutral.callOf (PyQl75.whole [[1, x, y]]) = some (.way x y) := rfl
theorem co2 (x y : Int) : Ql75Neutral.callOf (PyQl75.whole [[2, x, y]]) = some (.line x y) := rfl
theorem co3 (x : Int) (b : List Int) : Ql75Neutral.callOf (PyQl75.whole [[3, x], b]) = some (.take x (Ql75Neutral.nats b) (Ql75Neutral.nats b).length) := by rw [nats_len]; rfl
theorem co4 (x : Int) (b : List Int) : Ql75Neutral.callOf (PyQl75.whole [[4, x], b]) = some (.enter x (Ql75Neutral.nats b) (Ql75Neutral.nats b).length) := by rw [nats_len]; rfl
theorem co5 (x y : Int) : Ql75Neutral.callOf (PyQl75.whole [[5, x, y]]) = some (.next x y.toNat) := rfl
theorem co6 (x : Int) : Ql75Neutral.callOf (PyQl75.whole [[6, x]]) = some (.gone x.toNat) := rfl
theorem co7 (x y z : Int) : Ql75Neutral.callOf (PyQl75.whole [[7, x, y, z]]) = some (.look x y z) := rfl
theorem ask_bytes3 {x : Int} {b : List Int} (h : Ql75Neutral.asked1 (PyQl75.whole [[3, x], b]) = true) : (b.all fun (z : Int) => Ql75Neutral.natural z 8) = true := by
  have h : (Ql75Neutral.whole32 x && (Ql75Neutral.natural (b.length : Int) 32 && (b.all (fun (z : Int) => Ql75Neutral.natural z 8) && Ql75Neutral.long b (b.length : Int) 1 1504))) = true := h
  simp only [Bool.and_eq_true] at h
  exact h.2.2.1
theorem ask_bytes4 {x : Int} {b : List Int} (h : Ql75Neutral.asked1 (PyQl75.whole [[4, x], b]) = true) : (b.all fun (z : Int) => Ql75Neutral.natural z 8) = true := by
  have h : (Ql75Neutral.whole32 x && (Ql75Neutral.natural (b.length : Int) 32 && (b.all (fun (z : Int) => Ql75Neutral.natural z 8) && Ql75Neutral.long b (b.length : Int) 1 1500))) = true := h
  simp only [Bool.and_eq_true] at h
  exact h.2.2.1
theorem ask_most5 {x y : Int} (h : Ql75Neutral.asked1 (PyQl75.whole [[5, x, y]]) = true) : 0 ≤ y := by
  have h : (Ql75Neutral.whole32 x && (decide (0 ≤ y) && decide (y < 2 ^ 32))) = true := h
  simp only [Bool.and_eq_true, decide_eq_true_eq] at h
  exact h.2.1
theorem ask_most6 {y : Int} (h : Ql75Neutral.asked1 (PyQl75.whole [[6, y]]) = true) : 0 ≤ y := by
  have h : (decide (0 ≤ y) && decide (y < 2 ^ 32)) = true := h
  simp only [Bool.and_eq_true, decide_eq_true_eq] at h
  exact h.1
theorem Ok.stepN {st : Abs} {s s' : St} {l t : List Int} {c : List (List Int)} {ans : List Int} (k : Ok s) (hst : st = some s ∨ PyQl75.whole c = [[0]]) (r : Read l c t) (h : Ql75Neutral.step st (PyQl75.whole c) = (some s', ans)) : Ok s' := by
  have go : ∀ q, Ql75Neutral.callOf (PyQl75.whole c) = some q → fits q → (st = some s ∨ q = .begin_) → Ok s' := fun q hq hf hs => by
    rw [step_of hq] at h
    have h1 : (Ql75.spec st q).1 = some s' := congrArg Prod.fst h
    rcases hs with e | e
    · subst e
      exact k.spec (w := (Ql75.spec (some s) q).2) hf (Prod.ext h1 rfl)
    · subst e
      have : (some Ql75.begun : Abs) = some s' := h1
      cases this
      exact Ok.begun
  have no : ∀ {c' : List (List Int)}, PyQl75.whole c = c' → c' ≠ [[0]] → st = some s := fun e n => hst.resolve_right fun z => n (e.symm.trans z)
  cases r with
  | c0 => exact go _ co0 trivial (.inr rfl)
  | c1 x y => exact go _ (co1 x y) trivial (.inl (no rfl (by intro z; cases z)))
  | c2 x y => exact go _ (co2 x y) trivial (.inl (no rfl (by intro z; cases z)))
  | c3 x b => exact go _ (co3 x b) rfl (.inl (no rfl (by intro z; cases z)))
  | c4 x b => exact go _ (co4 x b) rfl (.inl (no rfl (by intro z; cases z)))
  | c5 x y => exact go _ (co5 x y) trivial (.inl (no rfl (by intro z; cases z)))
  | c6 x => exact go _ (co6 x) trivial (.inl (no rfl (by intro z; cases z)))
  | c7 x y z => exact go _ (co7 x y z) trivial (.inl (no rfl (by intro z; cases z)))
end By

namespace By
open PySem PySem.Spec PyProof.Rows L2
open Ql75 (Own Bytes)
abbrev SS := Ql75.St
/-! ### what an address is for; classes; the router's places -/
inductive Ro where
  | non | frame | rt | ways | lines | gone | book | dct
  | line (p : Nat) | heard (p : Nat) | wait (p : Nat) | lab (n : Nat) | hold (n : Nat)
abbrev Gm := Addr → Ro
structure Cs where
  rd : Addr
  rt : Addr
  bk : Addr
  lb : Addr
  ln : Addr
structure Ad where
  wa : Addr
  bk : Addr
  dc : Addr
  ls : Addr
  ga : Addr
  ln : Nat → Addr
  lb : Nat → Addr
def nV (n : Nat) : V := .int (n : Int)
def wV : Option Nat → V
  | none => .int (-1)
  | some p => .int (p : Int)
def rtF (wa bk ls ga : Addr) : List (Str × V) := [("ways", .ref wa), ("book", .ref bk), ("lines", .ref ls), ("leaving", .ref ga)]
def lnF (up : Bool) (h w : Addr) : List (Str × V) := [("up", .bl up), ("heard", .ref h), ("waiting", .ref w)]
def lbF (n e : Nat) (act : Bool) (h : Addr) : List (Str × V) := [("number", .int n), ("end", .int e), ("active", .bl act), ("holders", .ref h)]
def bkF (d : Addr) : List (Str × V) := [("given", .ref d)]
def rdF (a : Addr) (pl : Nat) : List (Str × V) := [("numbers", .ref a), ("place", .int pl)]
theorem lk_here {k : Str} {v : V} {r : List (Str × V)} : List.lookup k ((k, v) :: r) = some v := by
  have e : (k == k) = true := beq_self_eq_true k
  simp only [List.lookup, e]
theorem lk_past {k g : Str} {v : V} {r : List (Str × V)} (h : (k == g) = false) : List.lookup k ((g, v) :: r) = List.lookup k r := by
  simp only [List.lookup, h]
theorem put_here {f : Str} {v x : V} {r : List (Str × V)} : putF f v ((f, x) :: r) = (f, v) :: r := if_pos rfl
theorem put_past {f g : Str} {v x : V} {r : List (Str × V)} (h : ¬ g = f) : putF f v ((g, x) :: r) = (g, x) :: putF f v r := if_neg h
/-- none of these names -/
def noName (m : Str) (l : List (Str × V)) : Bool := l.all fun p => !(m == p.1)
theorem lk_no {m : Str} : ∀ {l : List (Str × V)}, noName m l = true → l.lookup m = none
  | [], _ => rfl
  | (g, v) :: r, h => by
    have h : (!(m == g) && noName m r) = true := h
    rw [Bool.and_eq_true] at h
    rw [lk_past (by simpa using h.1)]
    exact lk_no h.2
/-! ### what changes -/
/-- a label's object keeps its number and its end -/
def LbK (u o : HO) : Prop := ∀ (c dx : Addr) (n e : Nat) (a : Bool) (h : Addr), u = .ins c dx (lbF n e a h) → ∃ a' h', o = .ins c dx (lbF n e a' h')
theorem LbK.refl (u : HO) : LbK u u := fun _ _ _ _ a h e => ⟨a, h, e⟩
theorem LbK.trans {u v o : HO} (a : LbK u v) (b : LbK v o) : LbK u o := fun c dx n e x h q => by
  obtain ⟨x', h', q'⟩ := a c dx n e x h q
  exact b c dx n e x' h' q'
theorem LbK.lst {xs : List V} {o : HO} : LbK (.lst xs) o := fun _ _ _ _ _ _ q => by cases q
theorem LbK.dK {kvs : List (Key × V)} {o : HO} : LbK (.dK kvs) o := fun _ _ _ _ _ _ q => by cases q
theorem LbK.ln {c dx : Addr} {u : Bool} {h w : Addr} {o : HO} : LbK (.ins c dx (lnF u h w)) o := fun _ _ _ _ _ _ q => by
  have := congrArg List.length (HO.ins.inj q).2.2
  cases this
theorem LbK.few {c dx : Addr} {fs : List (Str × V)} {o : HO} (hl : fs.length < 4) : LbK (.ins c dx fs) o := fun _ _ _ _ _ _ q => by
  have := congrArg List.length (HO.ins.inj q).2.2
  have e : fs.length = 4 := this
  omega
theorem LbK.lb {c dx : Addr} {n e : Nat} {a a' : Bool} {h h' : Addr} : LbK (.ins c dx (lbF n e a h)) (.ins c dx (lbF n e a' h')) := fun c2 dx2 n2 e2 a2 h2 q => by
  obtain ⟨q1, q2, q3⟩ := HO.ins.inj q
  have l1 := List.cons.inj q3
  have l2 := List.cons.inj l1.2
  have e1 : (n : Int) = (n2 : Int) := V.int.inj (congrArg Prod.snd l1.1)
  have e3 : (e : Int) = (e2 : Int) := V.int.inj (congrArg Prod.snd l2.1)
  have e4 : n = n2 := by omega
  have e5 : e = e2 := by omega
  subst q1 q2 e4 e5
  exact ⟨a', h', rfl⟩
structure Step (S : Ro → Prop) (G : Gm) (H : Hp) (G' : Gm) (H' : Hp) : Prop where
  role : ∀ b o, H b = some o → G' b = G b
  keep : ∀ b o, H b = some o → ¬ S (G b) → H' b = some o
  live : ∀ b o, H b = some o → ∃ o', H' b = some o' ∧ LbK o o'
def WF (G : Gm) (H : Hp) : Prop := ∀ b, H b = none → G b = .non
theorem Step.refl (S : Ro → Prop) (G : Gm) (H : Hp) : Step S G H G H := ⟨fun _ _ _ => rfl, fun _ _ h _ => h, fun _ o h => ⟨o, h, LbK.refl o⟩⟩
theorem Step.trans {S : Ro → Prop} {G G1 G2 : Gm} {H H1 H2 : Hp} (a : Step S G H G1 H1) (b : Step S G1 H1 G2 H2) : Step S G H G2 H2 :=
  ⟨fun c o h => by
    obtain ⟨o', h', _⟩ := a.live c o h
    rw [b.role c o' h', a.role c o h],
   fun c o h n => b.keep c o (a.keep c o h n) (by rw [a.role c o h]; exact n),
   fun c o h => by
    obtain ⟨o', h', l1⟩ := a.live c o h
    obtain ⟨o2, h2, l2⟩ := b.live c o' h'
    exact ⟨o2, h2, l1.trans l2⟩⟩
theorem Step.mono {S T : Ro → Prop} {G G1 : Gm} {H H1 : Hp} (a : Step S G H G1 H1) (m : ∀ r, S r → T r) : Step T G H G1 H1 :=
  ⟨a.role, fun c o h n => a.keep c o h fun z => n (m _ z), a.live⟩
def noRo : Ro → Prop := fun _ => False
def inBook : Ro → Prop
  | .dct | .lab _ | .hold _ => True
  | _ => False
def inLine (p : Nat) : Ro → Prop
  | .line q | .heard q | .wait q => q = p
  | _ => False
def isMut : Ro → Prop
  | .non | .frame => False
  | _ => True
def mutNon (r : Ro) : Prop := isMut r ∨ r = .non
theorem noRo_mut : ∀ r, noRo r → isMut r := fun _ h => h.elim
theorem inBook_mut : ∀ r, inBook r → isMut r := fun r h => by cases r <;> first | exact h.elim | trivial
theorem inLine_mut {p : Nat} : ∀ r, inLine p r → isMut r := fun r h => by cases r <;> first | exact h.elim | trivial
/-- a new thing without a role, or a change to what has none: G stays -/
theorem Step.of {S : Ro → Prop} {G : Gm} {H H' : Hp} (keep : ∀ b o, H b = some o → ¬ S (G b) → H' b = some o) (live : ∀ b o, H b = some o → ∃ o', H' b = some o' ∧ LbK o o') : Step S G H G H' := ⟨fun _ _ _ => rfl, keep, live⟩
theorem Step.same {S : Ro → Prop} {G : Gm} {H H' : Hp} (k : ∀ b o, H b = some o → H' b = some o) : Step S G H G H' := ⟨fun _ _ _ => rfl, fun b o h _ => k b o h, fun b o h => ⟨o, k b o h, LbK.refl o⟩⟩
theorem one_live {H H' : Hp} {x : Addr} {u o : HO} (hx : H x = some u) (h1 : H' x = some o) (lk : LbK u o) (k : ∀ b, b ≠ x → H' b = H b) : ∀ b v, H b = some v → ∃ o', H' b = some o' ∧ LbK v o' := fun b v e => by
  by_cases z : b = x
  · subst z
    rw [hx] at e
    cases e
    exact ⟨o, h1, lk⟩
  · exact ⟨v, by rw [k b z]; exact e, LbK.refl v⟩
theorem WF.step {S : Ro → Prop} {G : Gm} {H H' : Hp} (w : WF G H) (a : Step S G H G H') : WF G H' := fun b hb => by
  refine w b ?_
  cases e : H b with
  | none => rfl
  | some o =>
    obtain ⟨o', h', _⟩ := a.live b o e
    rw [hb] at h'
    cases h'
/-- one role more -/
def setG (G : Gm) (a : Addr) (r : Ro) : Gm := fun b => if b = a then r else G b
theorem setG_same {G : Gm} {a : Addr} {r : Ro} : setG G a r a = r := if_pos rfl
theorem setG_ne {G : Gm} {a b : Addr} {r : Ro} (h : b ≠ a) : setG G a r b = G b := if_neg h
theorem Step.setG {S : Ro → Prop} {G : Gm} {H H' : Hp} (s : Step S G H G H') {a : Addr} (r : Ro) (h : H a = none) : Step S G H (setG G a r) H' :=
  ⟨fun b o e => setG_ne (ne_of_none e h), s.keep, s.live⟩
theorem WF.setG {G : Gm} {H : Hp} (w : WF G H) {a : Addr} {o : HO} (r : Ro) (h : H a = some o) : WF (setG G a r) H := fun b hb => by
  rw [setG_ne fun z => by rw [z, h] at hb; cases hb]
  exact w b hb
theorem ne_ro {G : Gm} {a b : Addr} (h : G a ≠ G b) : a ≠ b := fun e => h (by rw [e])
/-! ### frames -/
def FrAt (G : Gm) (H : Hp) (v : V) (b : Bytes) : Prop := ∃ a, v = .ref a ∧ H a = some (.lst (b.map nV)) ∧ G a = .frame
abbrev Frs (G : Gm) (H : Hp) : List V → List Bytes → Prop := Paired (FrAt G H)
theorem FrAt.step {S : Ro → Prop} {G G' : Gm} {H H' : Hp} {v : V} {b : Bytes} (f : FrAt G H v b) (s : Step S G H G' H') (n : ¬ S .frame) : FrAt G' H' v b := by
  obtain ⟨a, e, h, g⟩ := f
  exact ⟨a, e, s.keep a _ h (by rw [g]; exact n), by rw [s.role a _ h, g]⟩
theorem Frs.step {S : Ro → Prop} {G G' : Gm} {H H' : Hp} (s : Step S G H G' H') (n : ¬ S .frame) : ∀ {vs : List V} {bs : List Bytes}, Frs G H vs bs → Frs G' H' vs bs
  | _, _, .nil => .nil
  | _, _, .cons f r => .cons (f.step s n) (Frs.step s n r)
theorem Frs.snoc {G : Gm} {H : Hp} {v : V} {b : Bytes} (f : FrAt G H v b) : ∀ {vs : List V} {bs : List Bytes}, Frs G H vs bs → Frs G H (vs ++ [v]) (bs ++ [b])
  | _, _, .nil => .cons f .nil
  | _, _, .cons g r => .cons g (Frs.snoc f r)
/-! ### a line -/
def HdAt (kvs : List (Key × V)) (l : List (Option Nat)) : Prop :=
  (kvs.map (·.1)).Nodup ∧ (∀ k ∈ kvs.map (·.1), ∃ f : Nat, f < 32 ∧ k = .inl (f : Int)) ∧ ∀ f : Nat, f < 32 → valV kvs (.inl (f : Int)) = (l.getD f none).map nV
structure LineAt (C : Cs) (G : Gm) (H : Hp) (a : Addr) (p : Nat) (up : Bool) (hd : List (Option Nat)) (wt : List Bytes) : Prop where
  ex : ∃ dx h w kvs vs, H a = some (.ins C.ln dx (lnF up h w)) ∧ G a = .line p ∧ H h = some (.dK kvs) ∧ G h = .heard p ∧ HdAt kvs hd ∧ H w = some (.lst vs) ∧ G w = .wait p ∧ Frs G H vs wt
theorem LineAt.step {C : Cs} {S : Ro → Prop} {G G' : Gm} {H H' : Hp} {a : Addr} {p : Nat} {up : Bool} {hd : List (Option Nat)} {wt : List Bytes} (l : LineAt C G H a p up hd wt) (s : Step S G H G' H')
    (n0 : ¬ S .frame) (n1 : ¬ S (.line p)) (n2 : ¬ S (.heard p)) (n3 : ¬ S (.wait p)) : LineAt C G' H' a p up hd wt := by
  obtain ⟨dx, h, w, kvs, vs, e1, g1, e2, g2, hk, e3, g3, fr⟩ := l.ex
  exact ⟨dx, h, w, kvs, vs, s.keep a _ e1 (by rw [g1]; exact n1), by rw [s.role a _ e1, g1], s.keep h _ e2 (by rw [g2]; exact n2), by rw [s.role h _ e2, g2], hk,
    s.keep w _ e3 (by rw [g3]; exact n3), by rw [s.role w _ e3, g3], Frs.step s n0 fr⟩
/-! ### labels -/
structure LabAt (C : Cs) (G : Gm) (H : Hp) (a : Addr) (o : Own) : Prop where
  ex : ∃ dx h, H a = some (.ins C.lb dx (lbF o.label o.for_ o.active h)) ∧ G a = .lab o.label ∧ H h = some (.lst (o.held.map nV)) ∧ G h = .hold o.label
def kvO (A : Ad) (o : Own) : Key × V := (.inl (o.label : Int), .ref (A.lb o.label))
structure BookAt (C : Cs) (G : Gm) (H : Hp) (A : Ad) (l : List Own) : Prop where
  bk : ∃ dx, H A.bk = some (.ins C.bk dx (bkF A.dc))
  bkG : G A.bk = .book
  dc : H A.dc = some (.dK (l.map (kvO A)))
  dcG : G A.dc = .dct
  nd : (l.map (·.label)).Nodup
  few : l.length ≤ 1024
  lab : ∀ o ∈ l, LabAt C G H (A.lb o.label) o
theorem LabAt.step {C : Cs} {S : Ro → Prop} {G G' : Gm} {H H' : Hp} {a : Addr} {o : Own} (l : LabAt C G H a o) (s : Step S G H G' H') (n1 : ¬ S (.lab o.label)) (n2 : ¬ S (.hold o.label)) : LabAt C G' H' a o := by
  obtain ⟨dx, h, e1, g1, e2, g2⟩ := l.ex
  exact ⟨dx, h, s.keep a _ e1 (by rw [g1]; exact n1), by rw [s.role a _ e1, g1], s.keep h _ e2 (by rw [g2]; exact n2), by rw [s.role h _ e2, g2]⟩
theorem BookAt.step {C : Cs} {S : Ro → Prop} {G G' : Gm} {H H' : Hp} {A : Ad} {l : List Own} (b : BookAt C G H A l) (s : Step S G H G' H') (n0 : ¬ S .book) (n1 : ∀ r, inBook r → ¬ S r) : BookAt C G' H' A l := by
  obtain ⟨dx, e⟩ := b.bk
  exact ⟨⟨dx, s.keep _ _ e (by rw [b.bkG]; exact n0)⟩, by rw [s.role _ _ e, b.bkG], s.keep _ _ b.dc (by rw [b.dcG]; exact n1 _ trivial), by rw [s.role _ _ b.dc, b.dcG], b.nd, b.few,
    fun o ho => (b.lab o ho).step s (n1 _ trivial) (n1 _ trivial)⟩
/-! ### the router -/
structure RtAt (C : Cs) (G : Gm) (H : Hp) (r : Addr) (A : Ad) (s : SS) : Prop where
  wf : WF G H
  rt : ∃ dx, H r = some (.ins C.rt dx (rtF A.wa A.bk A.ls A.ga))
  rtG : G r = .rt
  ways : H A.wa = some (.lst (s.ways.map wV))
  waysG : G A.wa = .ways
  ls : H A.ls = some (.lst ((List.range 8).map fun p => V.ref (A.ln p)))
  lsG : G A.ls = .lines
  book : BookAt C G H A s.owns
  line : ∀ p, p < 8 → LineAt C G H (A.ln p) p (s.isUp p) (s.heard.getD p []) (s.waiting p)
  gone : ∃ vs, H A.ga = some (.lst vs) ∧ Frs G H vs (s.gone.map fun g => g.1 :: g.2)
  goneG : G A.ga = .gone
section
variable {C : Cs} {G G' : Gm} {H H' : Hp} {r : Addr} {A : Ad} {s : SS}
/-- the caller's changes -/
theorem RtAt.step {S : Ro → Prop} (R : RtAt C G H r A s) (t : Step S G H G' H') (n : ∀ r, S r → r = .non) (w : WF G' H') : RtAt C G' H' r A s := by
  have m : ∀ {q : Ro}, q ≠ .non → ¬ S q := fun h z => h (n _ z)
  obtain ⟨dx, e⟩ := R.rt
  obtain ⟨vs, e2, f⟩ := R.gone
  exact ⟨w, ⟨dx, t.keep _ _ e (by rw [R.rtG]; exact m (by intro z; cases z))⟩, by rw [t.role _ _ e, R.rtG], t.keep _ _ R.ways (by rw [R.waysG]; exact m (by intro z; cases z)), by rw [t.role _ _ R.ways, R.waysG],
    t.keep _ _ R.ls (by rw [R.lsG]; exact m (by intro z; cases z)), by rw [t.role _ _ R.ls, R.lsG], R.book.step t (m (by intro z; cases z)) (fun q hq => m (by rintro rfl; exact hq)),
    fun p hp => (R.line p hp).step t (m (by intro z; cases z)) (m (by intro z; cases z)) (m (by intro z; cases z)) (m (by intro z; cases z)),
    ⟨vs, t.keep _ _ e2 (by rw [R.goneG]; exact m (by intro z; cases z)), Frs.step t (m (by intro z; cases z)) f⟩, by rw [t.role _ _ e2, R.goneG]⟩
/-- a line's change -/
theorem RtAt.onLine {s' : SS} {p : Nat} (R : RtAt C G H r A s) (t : Step (inLine p) G H G' H') (w : WF G' H') (l : LineAt C G' H' (A.ln p) p (s'.isUp p) (s'.heard.getD p []) (s'.waiting p))
    (h1 : s'.ways = s.ways) (h2 : s'.owns = s.owns) (h3 : s'.gone = s.gone) (h4 : ∀ q, q ≠ p → s'.isUp q = s.isUp q ∧ s'.heard.getD q [] = s.heard.getD q [] ∧ s'.waiting q = s.waiting q) : RtAt C G' H' r A s' := by
  obtain ⟨dx, e⟩ := R.rt
  obtain ⟨vs, e2, f⟩ := R.gone
  refine ⟨w, ⟨dx, t.keep _ _ e (by rw [R.rtG]; exact id)⟩, by rw [t.role _ _ e, R.rtG], by rw [h1]; exact t.keep _ _ R.ways (by rw [R.waysG]; exact id), by rw [t.role _ _ R.ways, R.waysG],
    t.keep _ _ R.ls (by rw [R.lsG]; exact id), by rw [t.role _ _ R.ls, R.lsG], by rw [h2]; exact R.book.step t id (fun q hq => by cases q <;> first | exact hq.elim | exact id),
    fun q hq => ?_, ⟨vs, t.keep _ _ e2 (by rw [R.goneG]; exact id), by rw [h3]; exact Frs.step t id f⟩, by rw [t.role _ _ e2, R.goneG]⟩
  by_cases z : q = p
  · subst z; exact l
  · obtain ⟨a1, a2, a3⟩ := h4 q z
    rw [a1, a2, a3]
    exact (R.line q hq).step t id z z z
/-- the labels' change -/
theorem RtAt.onBook {l : List Own} {A' : Ad} (R : RtAt C G H r A s) (t : Step inBook G H G' H') (w : WF G' H') (b : BookAt C G' H' A' l) (e : A' = { A with lb := A'.lb }) : RtAt C G' H' r A' (setO l s) := by
  obtain ⟨dx, e1⟩ := R.rt
  obtain ⟨vs, e2, f⟩ := R.gone
  have ea : A'.wa = A.wa := by rw [e]
  have eb : A'.bk = A.bk := by rw [e]
  have ec : A'.ls = A.ls := by rw [e]
  have ed : A'.ga = A.ga := by rw [e]
  have ef : A'.ln = A.ln := by rw [e]
  refine ⟨w, ⟨dx, by rw [ea, eb, ec, ed]; exact t.keep _ _ e1 (by rw [R.rtG]; exact id)⟩, by rw [t.role _ _ e1, R.rtG], by rw [ea]; exact t.keep _ _ R.ways (by rw [R.waysG]; exact id), by rw [ea, t.role _ _ R.ways, R.waysG],
    by rw [ec, ef]; exact t.keep _ _ R.ls (by rw [R.lsG]; exact id), by rw [ec, t.role _ _ R.ls, R.lsG], b, fun q hq => by rw [ef]; exact (R.line q hq).step t id id id id,
    ⟨vs, by rw [ed]; exact t.keep _ _ e2 (by rw [R.goneG]; exact id), Frs.step t id f⟩, by rw [ed, t.role _ _ e2, R.goneG]⟩
/-- the ways' change -/
theorem RtAt.onWays {W : List (Option Nat)} (R : RtAt C G H r A s) (h : ∀ b, b ≠ A.wa → H' b = H b) (hw : H' A.wa = some (.lst (W.map wV))) : RtAt C G H' r A (setW W s) ∧ Step isMut G H G H' := by
  have t : Step (fun q => q = .ways) G H G H' := Step.of (fun b o e n => by
      rw [h b (by rintro rfl; exact n R.waysG)]; exact e) (one_live R.ways hw LbK.lst h)
  obtain ⟨dx, e⟩ := R.rt
  obtain ⟨vs, e2, f⟩ := R.gone
  refine ⟨⟨R.wf.step t, ⟨dx, t.keep _ _ e (by rw [R.rtG]; intro z; cases z)⟩, R.rtG, hw, R.waysG, t.keep _ _ R.ls (by rw [R.lsG]; intro z; cases z), R.lsG, R.book.step t (by intro z; cases z) (by rintro q hq rfl; exact hq),
    fun q hq => (R.line q hq).step t (by intro z; cases z) (by intro z; cases z) (by intro z; cases z) (by intro z; cases z), ⟨vs, t.keep _ _ e2 (by rw [R.goneG]; intro z; cases z), Frs.step t (by intro z; cases z) f⟩, R.goneG⟩,
    t.mono fun q z => by rw [z]; trivial⟩
/-- what leaves -/
theorem RtAt.onGone {g : List (Nat × Bytes)} {S : Ro → Prop} (R : RtAt C G H r A s) (t : Step S G H G' H') (n : ∀ q, S q → q = .gone) (w : WF G' H') (hg : ∃ vs, H' A.ga = some (.lst vs) ∧ Frs G' H' vs (g.map fun g => g.1 :: g.2)) : RtAt C G' H' r A { s with gone := g } := by
  have m : ∀ {q : Ro}, q ≠ .gone → ¬ S q := fun h z => h (n _ z)
  obtain ⟨dx, e⟩ := R.rt
  obtain ⟨vs, e2, f⟩ := R.gone
  exact ⟨w, ⟨dx, t.keep _ _ e (by rw [R.rtG]; exact m (by intro z; cases z))⟩, by rw [t.role _ _ e, R.rtG], t.keep _ _ R.ways (by rw [R.waysG]; exact m (by intro z; cases z)), by rw [t.role _ _ R.ways, R.waysG],
    t.keep _ _ R.ls (by rw [R.lsG]; exact m (by intro z; cases z)), by rw [t.role _ _ R.ls, R.lsG], R.book.step t (m (by intro z; cases z)) (fun q hq => m (by rintro rfl; exact hq)),
    fun p hp => (R.line p hp).step t (m (by intro z; cases z)) (m (by intro z; cases z)) (m (by intro z; cases z)) (m (by intro z; cases z)), hg, by rw [t.role _ _ e2, R.goneG]⟩
/-- the list handed in: tracked and nobody's, or written -/
def SqN (K : PySem.W.Frag) (G : Gm) (H : Hp) (a : Addr) (xs : List V) : Prop := (Rd H a (.lst xs) ∧ G a = .non) ∨ SqL K (fun _ => none) a xs
/-- the reader -/
structure RdAt (K : PySem.W.Frag) (C : Cs) (G : Gm) (H : Hp) (p a : Addr) (pl : Nat) (ns : List Int) : Prop where
  ob : ∃ dx, H p = some (.ins C.rd dx (rdF a pl))
  obG : G p = .non
  ls : SqN K G H a (ns.map V.int)
/-- the rest of a call, from the router behind it -/
def Post (C : Cs) (G : Gm) (H : Hp) (r : Addr) (A : Ad) (s' : SS) (Q : Hp → Prop) : Prop := ∀ G' H', RtAt C G' H' r A s' → Step isMut G H G' H' → Q H'
def PostA (C : Cs) (G : Gm) (H : Hp) (r : Addr) (s' : SS) (Q : Hp → Prop) : Prop := ∀ A' G' H', RtAt C G' H' r A' s' → Step isMut G H G' H' → Q H'
end
end By

namespace By
open PySem PySem.Spec PyProof.Rows L2
open Ql75 (Own Bytes)
/-! ### the text by places -/
def top (i : Nat) : Stmt := PySem.Challenge.pw_bylabels_s01_answers.main.body.getD i (.Pass ⟨0, 0, 0, 0⟩)
abbrev s_init_rd : Stmt := inClass (top 1) 0
abbrev s_has_more : Stmt := inClass (top 1) 1
abbrev s_read_number : Stmt := inClass (top 1) 2
abbrev s_read_row : Stmt := inClass (top 1) 3
abbrev s_message_frame : Stmt := top 23
abbrev s_packet_frame : Stmt := top 24
abbrev s_message_label : Stmt := top 25
abbrev s_packet_label : Stmt := top 26
abbrev s_is_message : Stmt := top 27
abbrev s_is_packet : Stmt := top 28
abbrev s_init_lb : Stmt := inClass (top 30) 0
abbrev s_init_bk : Stmt := inClass (top 31) 0
abbrev s_least_free : Stmt := inClass (top 31) 1
abbrev s_make : Stmt := inClass (top 31) 2
abbrev s_label_at : Stmt := inClass (top 31) 3
abbrev s_all_active : Stmt := inClass (top 31) 4
abbrev s_active_for : Stmt := inClass (top 31) 5
abbrev s_take_back : Stmt := inClass (top 31) 6
abbrev s_drop_holder : Stmt := inClass (top 31) 7
abbrev s_drop_holder_everywhere : Stmt := inClass (top 31) 8
abbrev s_free_if_unheld : Stmt := inClass (top 31) 9
abbrev s_init_ln : Stmt := inClass (top 33) 0
abbrev s_rise : Stmt := inClass (top 33) 1
abbrev s_fall : Stmt := inClass (top 33) 2
abbrev s_is_full : Stmt := inClass (top 33) 3
abbrev s_has_room_for_packet : Stmt := inClass (top 33) 4
abbrev s_hear : Stmt := inClass (top 33) 5
abbrev s_unhear : Stmt := inClass (top 33) 6
abbrev s_is_line : Stmt := top 45
abbrev s_is_end : Stmt := top 46
abbrev s_is_look : Stmt := top 47
abbrev s_take_first : Stmt := top 48
abbrev s_init_rt : Stmt := inClass (top 49) 0
abbrev s_lr_begin : Stmt := inClass (top 49) 1
abbrev s_lr_way : Stmt := inClass (top 49) 2
abbrev s_lr_line : Stmt := inClass (top 49) 3
abbrev s_lr_take : Stmt := inClass (top 49) 4
abbrev s_lr_enter : Stmt := inClass (top 49) 5
abbrev s_lr_next : Stmt := inClass (top 49) 6
abbrev s_lr_gone : Stmt := inClass (top 49) 7
abbrev s_lr_look : Stmt := inClass (top 49) 8
abbrev s_active_number : Stmt := inClass (top 49) 9
abbrev s_take_message : Stmt := inClass (top 49) 10
abbrev s_let_go : Stmt := inClass (top 49) 11
abbrev s_take_packet : Stmt := inClass (top 49) 12
abbrev s_go_on : Stmt := inClass (top 49) 13
abbrev s_leave : Stmt := inClass (top 49) 14
abbrev s_send_on : Stmt := inClass (top 49) 15
abbrev s_go_down : Stmt := inClass (top 49) 16
abbrev s_say : Stmt := inClass (top 49) 17
abbrev s_give : Stmt := inClass (top 49) 18
abbrev s_give_everywhere : Stmt := inClass (top 49) 19
abbrev s_take_back_everywhere : Stmt := inClass (top 49) 20
abbrev s_ask_way : Stmt := top 60
abbrev s_ask_line : Stmt := top 61
abbrev s_ask_take : Stmt := top 62
abbrev s_ask_enter : Stmt := top 63
abbrev s_ask_next : Stmt := top 64
abbrev s_ask_gone : Stmt := top 65
abbrev s_ask_look : Stmt := top 66
abbrev s_answer_one : Stmt := top 67
abbrev s_answers : Stmt := top 68
/-! ### what the top has written -/
def IsCon (mg : Str → Option Value) (x : Str) (z : Int) : Prop := ∃ u, mg x = some u ∧ RelV (.int z) u
structure Txt (K : PySem.W.Frag) (mg : Str → Option Value) (C : Cs) : Prop where
  cl_rd : Cls K C.rd
  g_Reader : mg "Reader" = some (.ref C.rd)
  n_rd_numbers : NoAttr K C.rd "numbers"
  n_rd_place : NoAttr K C.rd "place"
  cl_rt : Cls K C.rt
  g_Router : mg "Router" = some (.ref C.rt)
  n_rt_ways : NoAttr K C.rt "ways"
  n_rt_book : NoAttr K C.rt "book"
  n_rt_lines : NoAttr K C.rt "lines"
  n_rt_leaving : NoAttr K C.rt "leaving"
  cl_bk : Cls K C.bk
  g_LabelBook : mg "LabelBook" = some (.ref C.bk)
  n_bk_given : NoAttr K C.bk "given"
  cl_lb : Cls K C.lb
  g_Label : mg "Label" = some (.ref C.lb)
  n_lb_number : NoAttr K C.lb "number"
  n_lb_end : NoAttr K C.lb "end"
  n_lb_active : NoAttr K C.lb "active"
  n_lb_holders : NoAttr K C.lb "holders"
  cl_ln : Cls K C.ln
  g_Line : mg "Line" = some (.ref C.ln)
  n_ln_up : NoAttr K C.ln "up"
  n_ln_heard : NoAttr K C.ln "heard"
  n_ln_waiting : NoAttr K C.ln "waiting"
  c_LINES : IsCon mg "LINES" 8
  c_ENDS : IsCon mg "ENDS" 32
  c_NO_WAY : IsCon mg "NO_WAY" (-1)
  c_HERE : IsCon mg "HERE" 8
  c_FIRST_LABEL : IsCon mg "FIRST_LABEL" 16
  c_LAST_LABEL : IsCon mg "LAST_LABEL" 1039
  c_MOST_FRAMES : IsCon mg "MOST_FRAMES" 256
  c_MOST_FRAMES_FOR_A_PACKET : IsCon mg "MOST_FRAMES_FOR_A_PACKET" 128
  c_MOST_LEAVING : IsCon mg "MOST_LEAVING" 64
  c_LONGEST_FRAME : IsCon mg "LONGEST_FRAME" 1504
  c_LONGEST_PAYLOAD : IsCon mg "LONGEST_PAYLOAD" 1500
  c_GREATEST_MOST : IsCon mg "GREATEST_MOST" 65536
  c_STEPS_AT_FIRST : IsCon mg "STEPS_AT_FIRST" 64
  c_MESSAGE : IsCon mg "MESSAGE" 0
  c_PACKET : IsCon mg "PACKET" 1
  c_GIVEN : IsCon mg "GIVEN" 1
  c_TAKEN_BACK : IsCon mg "TAKEN_BACK" 2
  c_LET_GO : IsCon mg "LET_GO" 3
  c_MESSAGE_SIZE : IsCon mg "MESSAGE_SIZE" 5
  c_PACKET_HEAD : IsCon mg "PACKET_HEAD" 4
  c_DONE : IsCon mg "DONE" 0
  c_NOT_NOW : IsCon mg "NOT_NOW" (-1)
  c_OUT_OF_RANGE : IsCon mg "OUT_OF_RANGE" (-2)
  c_NO_SUCH_FRAME : IsCon mg "NO_SUCH_FRAME" (-3)
  c_TOO_LONG : IsCon mg "TOO_LONG" (-5)
  c_ACTIVE_LABEL : IsCon mg "ACTIVE_LABEL" 0
  c_HEARD_LABEL : IsCon mg "HEARD_LABEL" 1
  c_FRAMES_WAITING : IsCon mg "FRAMES_WAITING" 2
  c_LABELS_GIVEN : IsCon mg "LABELS_GIVEN" 3
  c_NO_LABEL : IsCon mg "NO_LABEL" (-1)
  c_BEGIN : IsCon mg "BEGIN" 0
  c_WAY : IsCon mg "WAY" 1
  c_LINE : IsCon mg "LINE" 2
  c_TAKE : IsCon mg "TAKE" 3
  c_ENTER : IsCon mg "ENTER" 4
  c_NEXT : IsCon mg "NEXT" 5
  c_GONE : IsCon mg "GONE" 6
  c_LOOK : IsCon mg "LOOK" 7
  b_len : mg "len" = none
  b_range : mg "range" = none
  b_list : mg "list" = none
theorem pe_k {X : Cx} {x : Str} {z : Int} {pos : Pos} (hg : Gl X x) (h : IsCon X.mg x z) (hd : (x == ("__debug__" : Str)) = false := by decide) : PE X (.Name x pos) (tC (.int z)) := by
  obtain ⟨u, h1, h2⟩ := h
  exact pe_glob hg h1 h2 hd
/-! ### list(d.values()) -/
def tListVals (te : TE) : TE := fun σ H Q => te σ H fun x H1 => ∃ (d : Addr) (kvs : List (Key × V)), x = .ref d ∧ H1 d = some (.dK kvs) ∧ ∀ p, H1 p = none → Q (.ref p) (upd H1 p (.lst (kvs.map (·.2))))
theorem pe_listVals {X : Cx} {e : Expr} {te : TE} {p apos cpos pos : Pos} (hc : X.calm = true) (he : PE X e te) (hg : Gl X "list") (hm : X.mg "list" = none) (hbase : attributeBase e "values" X.env (eval e X.env) = eval e X.env := by rfl) (hline : (apos.endLine == cpos.line) = true := by rfl)
    (hs : starEach [.Call (.Attribute e "values" apos) [] [] cpos] X.env = (false, eval (.Call (.Attribute e "values" apos) [] [] cpos) X.env) :: starEach [] X.env := by rfl) :
    PE X (.Call (.Name "list" p) [.Call (.Attribute e "values" apos) [] [] cpos] [] pos) (tListVals te) := by
  refine ⟨fun pins s σ H Q I hq => ?_⟩
  refine wpAny_Call_Name_kw (ld_blt I hg hm boot_list ?_)
  refine PyProof.Rows.callWith_type1 ?_ hs rfl
  rw [hs]
  show wpAny _ _ (spliced ((false, eval (.Call (.Attribute e "values" apos) [] [] cpos) X.env) :: backTo pos (starEach [] X.env))) _ _ s
  refine Calls.spliced_cons ?_
  refine wpAny_Call_method (T := "dict") (id := "dict.values") hbase rfl hline F.plainAttrs_dict F.slot_dict_values F.type_dict_values (thn (he.run pins s σ H _ I hq) fun u s1 ⟨x, H1, I1, rx, d, kvs, ex, hd, q⟩ => ?_)
  subst ex
  obtain rfl : u = Value.ref d := rx
  obtain ⟨hz, hs0, vs, kv, hdo⟩ := I1.hok d _ hd
  obtain ⟨ep, hat⟩ := hdo.dictAt
  have lk : kvs.length = vs.length := Paired.length kv
  have I2 : Inv X pins σ H1 { s1 with heap := s1.heap.push { cls := .type "dict_values", data := .fields #[.ref d] } } := I1.kept (t' := s1.toks) fun b ob q => Heap.get?_push_of_some _ q
  refine ⟨hdo.typeIs, hdo.mapOf.noDict, ?_⟩
  show wpAny _ _ (callWith cpos (.builtin "dict.values") [.ref d] [] []) _ X.xe s1
  refine method_meetsIn F.slot_dict_values F.entry_dict_values rfl (PySem.evalArgs_none ⟨rfl, hdo.typeIs, F.args_dict_values_1 _, _, meets_dict_values (mixKind X.prog X.w) d hs0, ⟨vs, hdo⟩, ?_⟩)
  refine Calls.spliced_nil ?_
  refine PySem.W.kdl_call (PySem.W.kdl_values (knd := mixKind X.prog X.w) (kvs := vs) (ep := ep)) (I2.ok.hd hc) ⟨⟨_, Heap.get?_push_size _ rfl, rfl, rfl⟩, hat.push _⟩ (by rw [← lk]; exact hz) fun h' tk acc' c' hkeep hS hacc => ?_
  have fr : H1 (s1.heap.push { cls := .type "dict_values", data := .fields #[.ref d] }).objs.size = none := I2.hok.fresh (Nat.le_refl _)
  refine ⟨.ref _, upd H1 _ (.lst (kvs.map (·.2))), I2.laid hkeep (Nat.le_refl _) (show ObjOk X.prog X.w _ _ _ (.lst (kvs.map (·.2))) from ⟨?_, acc'.toList, c', ?_, ?_⟩), rfl, q _ fr⟩
  · rw [List.length_map]; exact hz
  · have el : acc'.toList.length = acc'.size := by simp
    refine vals_of_at (by rw [List.length_map, el, hacc.1, lk]) fun j x w h1 h2 => ?_
    obtain ⟨k, hky⟩ := hacc.2 j w (by rw [← Array.getElem?_toList]; exact h2)
    rw [List.getElem?_map] at h1
    cases e1 : kvs[j]? with
    | none => rw [e1] at h1; cases h1
    | some kv0 =>
      rw [e1] at h1
      obtain ⟨y, g1, g2⟩ := LiI.paired_get kv e1
      rw [hky] at g1
      cases g1
      have e3 : kv0.2 = x := Option.some.inj h1
      rw [← e3]
      exact g2.2
  · rw [Array.toArray_toList]; exact hS
/-! ### defs -/
section
variable (P : Program) (w : World) (K : PySem.W.Frag) (mg : Str → Option Value) (base : Heap)
/-- a method stands in its class; a def stands at the top -/
def MDef (C : Addr) (m qual : Str) (st : Stmt) : Prop := ∃ f fd, Meth K C m f ∧ Fun K m qual st f fd
def IDef (C : Addr) (qual : Str) (st : Stmt) : Prop := ∃ f fd, Mk K C f ∧ Fun K "__init__" qual st f fd
def FDef (x : Str) (st : Stmt) : Prop := ∃ f fd, mg x = some (.ref f) ∧ Fun K x x st f fd
/-- it keeps its promise -/
def MOk (C : Addr) (m : Str) (k : Nat) (ps : List Str) (sp : Sp) : Prop := ∃ f fd, Meth K C m f ∧ Binds K fd ps [] ∧ FnOk P w K mg base CX0 k f fd ps sp
def IOk (C : Addr) (k : Nat) (ps : List Str) (sp : Sp) : Prop := ∃ f fd, Mk K C f ∧ Binds K fd ps [] ∧ FnOk P w K mg base CX0 k f fd ps sp
def FOk (x : Str) (k : Nat) (ps : List Str) (sp : Sp) : Prop := ∃ f fd, mg x = some (.ref f) ∧ PySem.W.keepIn K (.ref f) = true ∧ Binds K fd ps [] ∧ FnOk P w K mg base CX0 k f fd ps sp
end
def Sp1 (b : V → Hp → VK → Prop) : Sp := fun vs H Q _ => ∃ x, vs = [x] ∧ b x H Q
def Sp2 (b : V → V → Hp → VK → Prop) : Sp := fun vs H Q _ => ∃ x y, vs = [x, y] ∧ b x y H Q
def Sp3 (b : V → V → V → Hp → VK → Prop) : Sp := fun vs H Q _ => ∃ x y z, vs = [x, y, z] ∧ b x y z H Q
def Sp4 (b : V → V → V → V → Hp → VK → Prop) : Sp := fun vs H Q _ => ∃ x y z u, vs = [x, y, z, u] ∧ b x y z u H Q
def Sp5 (b : V → V → V → V → V → Hp → VK → Prop) : Sp := fun vs H Q _ => ∃ x y z u t, vs = [x, y, z, u, t] ∧ b x y z u t H Q
/-! ### fields -/
section
variable {a b c d h w : Addr} {n e : Nat} {u act : Bool}
theorem rt_ways : (rtF a b c d).lookup ("ways" : Str) = some (.ref a) := lk_here
theorem rt_book : (rtF a b c d).lookup ("book" : Str) = some (.ref b) := (lk_past (by decide +kernel)).trans (lk_here)
theorem rt_lines : (rtF a b c d).lookup ("lines" : Str) = some (.ref c) := (lk_past (by decide +kernel)).trans ((lk_past (by decide +kernel)).trans (lk_here))
theorem rt_leaving : (rtF a b c d).lookup ("leaving" : Str) = some (.ref d) := (lk_past (by decide +kernel)).trans ((lk_past (by decide +kernel)).trans ((lk_past (by decide +kernel)).trans (lk_here)))
theorem ln_up : (lnF u h w).lookup ("up" : Str) = some (.bl u) := lk_here
theorem ln_heard : (lnF u h w).lookup ("heard" : Str) = some (.ref h) := (lk_past (by decide +kernel)).trans (lk_here)
theorem ln_waiting : (lnF u h w).lookup ("waiting" : Str) = some (.ref w) := (lk_past (by decide +kernel)).trans ((lk_past (by decide +kernel)).trans (lk_here))
theorem lb_number : (lbF n e act h).lookup ("number" : Str) = some (.int n) := lk_here
theorem lb_end : (lbF n e act h).lookup ("end" : Str) = some (.int e) := (lk_past (by decide +kernel)).trans (lk_here)
theorem lb_active : (lbF n e act h).lookup ("active" : Str) = some (.bl act) := (lk_past (by decide +kernel)).trans ((lk_past (by decide +kernel)).trans (lk_here))
theorem lb_holders : (lbF n e act h).lookup ("holders" : Str) = some (.ref h) := (lk_past (by decide +kernel)).trans ((lk_past (by decide +kernel)).trans ((lk_past (by decide +kernel)).trans (lk_here)))
theorem bk_given : (bkF d).lookup ("given" : Str) = some (.ref d) := lk_here
theorem rd_numbers : (rdF a n).lookup ("numbers" : Str) = some (.ref a) := lk_here
theorem rd_place : (rdF a n).lookup ("place" : Str) = some (.int n) := (lk_past (by decide +kernel)).trans (lk_here)
end
end By

namespace By
open PySem PySem.Spec PyProof.Rows L2
open Ql75 (Own Bytes between)
def refs (vs : List Addr) : List V := vs.map V.ref
def labV (A : Ad) : Option Own → V
  | none => .non
  | some o => .ref (A.lb o.label)
def numV : Option Nat → V
  | none => .non
  | some n => nV n
def freeL (l : List Own) : Option Nat := ((List.range 1024).map fun i => 16 + i).find? fun n => l.all fun o => o.label != n
def setL (g : Nat → Addr) (n : Nat) (a : Addr) : Nat → Addr := fun m => if m = n then a else g m
def isMsg : Bytes → Bool
  | [a, k, f, h, l] => a == 0 && (decide (1 ≤ k) && decide (k ≤ 3)) && decide (f < 32) && decide (16 ≤ 256 * h + l)
  | _ => false
def isPkt (b : Bytes) : Bool := decide (4 < b.length) && b.head? == some 1
/-- a message taken, in the specification's words -/
def takeMsg (s : SS) (p k f n : Nat) : SS :=
  if k = 1 then s.hear p f (some n)
  else if k = 2 then (if s.label p f = some n then s.hear p f none else s).say p (Ql75.message 3 f n)
  else ({ s with owns := s.owns.map fun o => if o.label = n ∧ o.for_ = f ∧ o.active = false then { o with held := o.held.filter fun q => q != p } else o } : SS).freed
def takePkt (s : SS) (n t : Nat) (b : Bytes) : SS := match s.owns.find? fun o => o.active && o.label == n with
  | none => s
  | some o => s.onward o.for_ t b
def leaveS (s : SS) (f : Nat) (b : Bytes) : SS := if 64 ≤ s.gone.length then s else { s with gone := s.gone ++ [(f, b)] }
def sendS (s : SS) (p f t : Nat) (b : Bytes) : SS := match s.label p f with
  | none => s
  | some l => if t ≤ 1 ∨ s.isUp p = false ∨ 128 ≤ (s.waiting p).length then s else addOut s p (Ql75.packet (t - 1) l b)
def actZ (s : SS) (f : Nat) : Int := match s.active f with
  | some o => (o.label : Nat)
  | none => -1
section
variable (K : PySem.W.Frag) (C : Cs)
/-! ### the reader -/
def sp_init_rd (K : PySem.W.Frag) (C : Cs) : Sp := Sp2 fun x y H Q => ∃ p dx a, x = .ref p ∧ y = .ref a ∧ H p = some (.ins C.rd dx []) ∧ ∀ H' : Hp, H' p = some (.ins C.rd dx (rdF a 0)) → (∀ b, b ≠ p → H' b = H b) → Q .non H'
def sp_has_more (K : PySem.W.Frag) (C : Cs) : Sp := Sp1 fun x H Q => ∃ (p dx a : Addr) (pl : Nat) (ns : List Int), x = .ref p ∧ H p = some (.ins C.rd dx (rdF a pl)) ∧ SqL K H a (ns.map V.int) ∧ Q (.bl (decide (pl < ns.length))) H
def sp_read_number (K : PySem.W.Frag) (C : Cs) : Sp := Sp1 fun x H Q => ∃ (p dx a : Addr) (pl : Nat) (ns : List Int) (z : Int), x = .ref p ∧ H p = some (.ins C.rd dx (rdF a pl)) ∧ SqL K H a (ns.map V.int) ∧ ns[pl]? = some z ∧
  ∀ H' : Hp, H' p = some (.ins C.rd dx (rdF a (pl + 1))) → (∀ b, b ≠ p → H' b = H b) → Q (.int z) H'
def sp_read_row (K : PySem.W.Frag) (C : Cs) : Sp := Sp1 fun x H Q => ∃ (p dx a : Addr) (pl : Nat) (ns : List Int) (n : Nat), x = .ref p ∧ H p = some (.ins C.rd dx (rdF a pl)) ∧ SqL K H a (ns.map V.int) ∧ ns[pl]? = some (n : Int) ∧ pl + 1 + n ≤ ns.length ∧
  ∀ (l : Addr) (H' : Hp), H l = none → H' l = some (.lst (((ns.drop (pl + 1)).take n).map V.int)) → H' p = some (.ins C.rd dx (rdF a (pl + 1 + n))) → (∀ b, b ≠ p → b ≠ l → H' b = H b) → Q (.ref l) H'
/-! ### frames -/
def sp_message_frame (K : PySem.W.Frag) (C : Cs) : Sp := Sp3 fun x y z H Q => ∃ k f n, x = nV k ∧ y = nV f ∧ z = nV n ∧ ∀ (p : Addr) (H' : Hp), H p = none → H' p = some (.lst ((Ql75.message k f n).map nV)) → (∀ b, b ≠ p → H' b = H b) → Q (.ref p) H'
def sp_packet_frame (K : PySem.W.Frag) (C : Cs) : Sp := Sp3 fun x y z H Q => ∃ (t n : Nat) (a : Addr) (b : Bytes), x = nV t ∧ y = nV n ∧ z = .ref a ∧ H a = some (.lst (b.map nV)) ∧ b.length ≤ 2000 ∧
  ∀ (p : Addr) (H' : Hp), H p = none → H' p = some (.lst ((Ql75.packet t n b).map nV)) → (∀ b o, H b = some o → H' b = some o) → Q (.ref p) H'
def sp_message_label (K : PySem.W.Frag) (C : Cs) : Sp := Sp1 fun x H Q => ∃ (a : Addr) (b : Bytes) (h l : Nat), x = .ref a ∧ H a = some (.lst (b.map nV)) ∧ b[3]? = some h ∧ b[4]? = some l ∧ Q (nV (256 * h + l)) H
def sp_packet_label (K : PySem.W.Frag) (C : Cs) : Sp := Sp1 fun x H Q => ∃ (a : Addr) (b : Bytes) (h l : Nat), x = .ref a ∧ H a = some (.lst (b.map nV)) ∧ b[2]? = some h ∧ b[3]? = some l ∧ Q (nV (256 * h + l)) H
def sp_is_message (K : PySem.W.Frag) (C : Cs) : Sp := Sp1 fun x H Q => ∃ (a : Addr) (b : Bytes), x = .ref a ∧ H a = some (.lst (b.map nV)) ∧ Q (.bl (isMsg b)) H
def sp_is_packet (K : PySem.W.Frag) (C : Cs) : Sp := Sp1 fun x H Q => ∃ (a : Addr) (b : Bytes), x = .ref a ∧ H a = some (.lst (b.map nV)) ∧ Q (.bl (isPkt b)) H
/-! ### labels -/
def sp_init_lb (K : PySem.W.Frag) (C : Cs) : Sp := Sp3 fun x y z H Q => ∃ p dx n f, x = .ref p ∧ y = nV n ∧ z = nV f ∧ H p = some (.ins C.lb dx []) ∧
  ∀ (l : Addr) (H' : Hp), H l = none → H' p = some (.ins C.lb dx (lbF n f true l)) → H' l = some (.lst []) → (∀ b, b ≠ p → b ≠ l → H' b = H b) → Q .non H'
def sp_init_bk (K : PySem.W.Frag) (C : Cs) : Sp := Sp1 fun x H Q => ∃ p dx, x = .ref p ∧ H p = some (.ins C.bk dx []) ∧
  ∀ (d : Addr) (H' : Hp), H d = none → H' p = some (.ins C.bk dx (bkF d)) → H' d = some (.dK []) → (∀ b, b ≠ p → b ≠ d → H' b = H b) → Q .non H'
def sp_least_free (K : PySem.W.Frag) (C : Cs) : Sp := Sp1 fun x H Q => ∃ (G : Gm) (A : Ad) (l : List Own), x = .ref A.bk ∧ BookAt C G H A l ∧ Q (numV (freeL l)) H
def sp_make (K : PySem.W.Frag) (C : Cs) : Sp := Sp3 fun x y z H Q => ∃ (G : Gm) (A : Ad) (l : List Own) (n f : Nat), x = .ref A.bk ∧ y = nV n ∧ z = nV f ∧ BookAt C G H A l ∧ WF G H ∧ (∀ o ∈ l, o.label ≠ n) ∧ l.length < 1024 ∧
  ∀ (a : Addr) (G' : Gm) (H' : Hp), BookAt C G' H' { A with lb := setL A.lb n a } (l ++ [⟨n, f, true, []⟩]) → Step inBook G H G' H' → WF G' H' → Q (.ref a) H'
def sp_label_at (K : PySem.W.Frag) (C : Cs) : Sp := Sp2 fun x y H Q => ∃ (G : Gm) (A : Ad) (l : List Own) (n : Nat), x = .ref A.bk ∧ y = nV n ∧ BookAt C G H A l ∧ Q (labV A (l.find? fun o => o.label == n)) H
def sp_all_active (K : PySem.W.Frag) (C : Cs) : Sp := Sp1 fun x H Q => ∃ (G : Gm) (A : Ad) (l : List Own), x = .ref A.bk ∧ BookAt C G H A l ∧
  ∀ (p : Addr) (H' : Hp), H p = none → H' p = some (.lst ((l.filter fun o => o.active).map fun o => V.ref (A.lb o.label))) → (∀ b, b ≠ p → H' b = H b) → Q (.ref p) H'
def sp_active_for (K : PySem.W.Frag) (C : Cs) : Sp := Sp2 fun x y H Q => ∃ (G : Gm) (A : Ad) (l : List Own) (f : Nat), x = .ref A.bk ∧ y = nV f ∧ BookAt C G H A l ∧ ∀ H' : Hp, (∀ b o, H b = some o → H' b = some o) → Q (labV A (l.find? fun o => o.active && o.for_ == f)) H'
def sp_take_back (K : PySem.W.Frag) (C : Cs) : Sp := Sp2 fun x y H Q => ∃ (G : Gm) (A : Ad) (l : List Own), ∃ o : Own, x = .ref A.bk ∧ y = .ref (A.lb o.label) ∧ BookAt C G H A l ∧ o ∈ l ∧ ∀ H' : Hp, BookAt C G H' A (frAt o.label (setA o.label l)) → Step inBook G H G H' → Q .non H'
def sp_drop_holder (K : PySem.W.Frag) (C : Cs) : Sp := Sp3 fun x y z H Q => ∃ (G : Gm) (A : Ad) (l : List Own), ∃ o : Own, ∃ p : Nat, x = .ref A.bk ∧ y = .ref (A.lb o.label) ∧ z = nV p ∧ BookAt C G H A l ∧ o ∈ l ∧ o.held.Nodup ∧
  ∀ H' : Hp, BookAt C G H' A (frAt o.label (dropH o.label p l)) → Step inBook G H G H' → Q .non H'
def sp_drop_holder_everywhere (K : PySem.W.Frag) (C : Cs) : Sp := Sp2 fun x y H Q => ∃ (G : Gm) (A : Ad) (l : List Own), ∃ p : Nat, x = .ref A.bk ∧ y = nV p ∧ BookAt C G H A l ∧ WF G H ∧ (∀ o ∈ l, o.held.Nodup) ∧
  ∀ H' : Hp, BookAt C G H' A ((l.map (lessH p)).filter keep) → Step inBook G H G H' → Q .non H'
def sp_free_if_unheld (K : PySem.W.Frag) (C : Cs) : Sp := Sp2 fun x y H Q => ∃ (G : Gm) (A : Ad) (l : List Own), ∃ o : Own, x = .ref A.bk ∧ y = .ref (A.lb o.label) ∧ BookAt C G H A l ∧ o ∈ l ∧ ∀ H' : Hp, BookAt C G H' A (frAt o.label l) → Step inBook G H G H' → Q .non H'
/-! ### lines -/
def sp_init_ln (K : PySem.W.Frag) (C : Cs) : Sp := Sp1 fun x H Q => ∃ p dx, x = .ref p ∧ H p = some (.ins C.ln dx []) ∧
  ∀ (h l : Addr) (H' : Hp), H h = none → H l = none → h ≠ l → H' p = some (.ins C.ln dx (lnF false h l)) → H' h = some (.dK []) → H' l = some (.lst []) → (∀ b, b ≠ p → b ≠ h → b ≠ l → H' b = H b) → Q .non H'
def sp_rise (K : PySem.W.Frag) (C : Cs) : Sp := Sp1 fun x H Q => ∃ p dx u h l, x = .ref p ∧ H p = some (.ins C.ln dx (lnF u h l)) ∧ ∀ H' : Hp, H' p = some (.ins C.ln dx (lnF true h l)) → (∀ b, b ≠ p → H' b = H b) → Q .non H'
def sp_fall (K : PySem.W.Frag) (C : Cs) : Sp := Sp1 fun x H Q => ∃ p dx u h0 l0, x = .ref p ∧ H p = some (.ins C.ln dx (lnF u h0 l0)) ∧
  ∀ (h l : Addr) (H' : Hp), H h = none → H l = none → h ≠ l → H' p = some (.ins C.ln dx (lnF false h l)) → H' h = some (.dK []) → H' l = some (.lst []) → (∀ b, b ≠ p → b ≠ h → b ≠ l → H' b = H b) → Q .non H'
def sp_is_full (K : PySem.W.Frag) (C : Cs) : Sp := Sp1 fun x H Q => ∃ (p dx : Addr) (u : Bool) (h l : Addr) (vs : List V), x = .ref p ∧ H p = some (.ins C.ln dx (lnF u h l)) ∧ H l = some (.lst vs) ∧ Q (.bl (decide (256 ≤ vs.length))) H
def sp_has_room_for_packet (K : PySem.W.Frag) (C : Cs) : Sp := Sp1 fun x H Q => ∃ (p dx : Addr) (u : Bool) (h l : Addr) (vs : List V), x = .ref p ∧ H p = some (.ins C.ln dx (lnF u h l)) ∧ H l = some (.lst vs) ∧ Q (.bl (u && decide (vs.length < 128))) H
def sp_hear (K : PySem.W.Frag) (C : Cs) : Sp := Sp3 fun x y z H Q => ∃ (p dx : Addr) (u : Bool) (h l : Addr) (kvs : List (Key × V)) (f n : Nat), x = .ref p ∧ y = nV f ∧ z = nV n ∧ H p = some (.ins C.ln dx (lnF u h l)) ∧ H h = some (.dK kvs) ∧ kvs.length < 1000 ∧
  ∀ H' : Hp, H' h = some (.dK (putK kvs (.inl (f : Int)) (nV n))) → (∀ b, b ≠ h → H' b = H b) → Q .non H'
def sp_unhear (K : PySem.W.Frag) (C : Cs) : Sp := Sp3 fun x y z H Q => ∃ (p dx : Addr) (u : Bool) (h l : Addr) (kvs : List (Key × V)) (f n : Nat) (o : Option Nat), x = .ref p ∧ y = nV f ∧ z = nV n ∧ H p = some (.ins C.ln dx (lnF u h l)) ∧ H h = some (.dK kvs) ∧ valV kvs (.inl (f : Int)) = o.map nV ∧
  ∀ H' : Hp, H' h = some (.dK (if o = some n then dropK kvs (.inl (f : Int)) else kvs)) → (∀ b, b ≠ h → H' b = H b) → Q .non H'
/-! ### small defs -/
def sp_is_line (K : PySem.W.Frag) (C : Cs) : Sp := Sp1 fun x H Q => ∃ z, x = .int z ∧ Q (.bl (between z 0 7)) H
def sp_is_end (K : PySem.W.Frag) (C : Cs) : Sp := Sp1 fun x H Q => ∃ z, x = .int z ∧ Q (.bl (between z 0 31)) H
def sp_is_look (K : PySem.W.Frag) (C : Cs) : Sp := Sp1 fun x H Q => ∃ z, x = .int z ∧ Q (.bl (between z 0 3)) H
def sp_take_first (K : PySem.W.Frag) (C : Cs) : Sp := Sp2 fun x y H Q => ∃ (a : Addr) (vs : List V) (most : Int), x = .ref a ∧ y = .int most ∧ H a = some (.lst vs) ∧
  (vs = [] → ∀ (p : Addr) (H' : Hp), H p = none → H' p = some (.lst [V.int (-1)]) → (∀ b, b ≠ p → H' b = H b) → Q (.ref p) H') ∧
  (∀ v r, vs = v :: r → ∃ (fa : Addr) (b : Bytes), v = .ref fa ∧ fa ≠ a ∧ H fa = some (.lst (b.map nV)) ∧ b.length ≤ 3000 ∧
    (most < (b.length : Int) → ∀ (p : Addr) (H' : Hp), H p = none → H' p = some (.lst [V.int (-5)]) → (∀ b, b ≠ p → H' b = H b) → Q (.ref p) H') ∧
    (¬ most < (b.length : Int) → ∀ (p : Addr) (H' : Hp), H p = none → H' p = some (.lst (nV b.length :: b.map nV)) → H' a = some (.lst r) → (∀ c o, H c = some o → c ≠ a → H' c = some o) → Q (.ref p) H'))
/-! ### the router -/
def sp_lr_begin (K : PySem.W.Frag) (C : Cs) : Sp := Sp1 fun x H Q => ∃ r dx fs G, x = .ref r ∧ H r = some (.ins C.rt dx fs) ∧ (fs = [] ∨ ∃ a b c d, fs = rtF a b c d) ∧ G r = .rt ∧ WF G H ∧ PostA C G H r Ql75.begun (Q (.int 0))
def sp_init_rt (K : PySem.W.Frag) (C : Cs) : Sp := Sp1 fun x H Q => ∃ r dx G, x = .ref r ∧ H r = some (.ins C.rt dx []) ∧ G r = .rt ∧ WF G H ∧ PostA C G H r Ql75.begun (Q .non)
def sp_go_down (K : PySem.W.Frag) (C : Cs) : Sp := Sp2 fun x y H Q => ∃ (r : Addr) (G : Gm) (A : Ad) (s : SS), ∃ p : Nat, x = .ref r ∧ y = nV p ∧ RtAt C G H r A s ∧ Wf s ∧ p < 8 ∧ Post C G H r A (s.down p) (Q .non)
def sp_say (K : PySem.W.Frag) (C : Cs) : Sp := Sp3 fun x y z H Q => ∃ (r : Addr) (G : Gm) (A : Ad) (s : SS), ∃ (p : Nat) (fa : Addr) (b : Bytes), x = .ref r ∧ y = nV p ∧ z = .ref fa ∧ RtAt C G H r A s ∧ Wf s ∧ p < 8 ∧ H fa = some (.lst (b.map nV)) ∧ G fa = .frame ∧ Post C G H r A (s.say p b) (Q .non)
def sp_give (K : PySem.W.Frag) (C : Cs) : Sp := Sp3 fun x y z H Q => ∃ (r : Addr) (G : Gm) (A : Ad) (s : SS), ∃ (o : Own) (p : Nat), x = .ref r ∧ y = .ref (A.lb o.label) ∧ z = nV p ∧ RtAt C G H r A s ∧ Wf s ∧ p < 8 ∧ o ∈ s.owns ∧ p ∉ o.held ∧ Post C G H r A (s.gives o.label o.for_ p) (Q .non)
def sp_give_everywhere (K : PySem.W.Frag) (C : Cs) : Sp := Sp2 fun x y H Q => ∃ (r : Addr) (G : Gm) (A : Ad) (s : SS), ∃ o : Own, x = .ref r ∧ y = .ref (A.lb o.label) ∧ RtAt C G H r A s ∧ Wf s ∧ o ∈ s.owns ∧ o.active = true ∧ o.held = [] ∧
  Post C G H r A ((List.range 8).foldl (fun (s : SS) p => s.gives o.label o.for_ p) s) (Q .non)
def sp_take_back_everywhere (K : PySem.W.Frag) (C : Cs) : Sp := Sp2 fun x y H Q => ∃ (r : Addr) (G : Gm) (A : Ad) (s : SS), ∃ (o : Own) (f : Nat), x = .ref r ∧ y = .ref (A.lb o.label) ∧ RtAt C G H r A s ∧ Wf s ∧ s.active f = some o ∧ Post C G H r A (takeBack f o s) (Q .non)
def sp_send_on (K : PySem.W.Frag) (C : Cs) : Sp := Sp5 fun x y z u t H Q => ∃ (r : Addr) (G : Gm) (A : Ad) (s : SS), ∃ (p f k : Nat) (a : Addr) (b : Bytes), x = .ref r ∧ y = .ref (A.ln p) ∧ z = nV f ∧ u = nV k ∧ t = .ref a ∧ RtAt C G H r A s ∧ Wf s ∧ p < 8 ∧ f < 32 ∧ H a = some (.lst (b.map nV)) ∧ b.length ≤ 1900 ∧
  Post C G H r A (sendS s p f k b) (Q .non)
def sp_leave (K : PySem.W.Frag) (C : Cs) : Sp := Sp3 fun x y z H Q => ∃ (r : Addr) (G : Gm) (A : Ad) (s : SS), ∃ (f : Nat) (a : Addr) (b : Bytes), x = .ref r ∧ y = nV f ∧ z = .ref a ∧ RtAt C G H r A s ∧ Wf s ∧ H a = some (.lst (b.map nV)) ∧ b.length ≤ 1900 ∧ Post C G H r A (leaveS s f b) (Q .non)
def sp_go_on (K : PySem.W.Frag) (C : Cs) : Sp := Sp4 fun x y z u H Q => ∃ (r : Addr) (G : Gm) (A : Ad) (s : SS), ∃ (f k : Nat) (a : Addr) (b : Bytes), x = .ref r ∧ y = nV f ∧ z = nV k ∧ u = .ref a ∧ RtAt C G H r A s ∧ Wf s ∧ f < 32 ∧ H a = some (.lst (b.map nV)) ∧ b.length ≤ 1900 ∧
  Post C G H r A (s.onward f k b) (Q .non)
def sp_take_packet (K : PySem.W.Frag) (C : Cs) : Sp := Sp4 fun x y z u H Q => ∃ (r : Addr) (G : Gm) (A : Ad) (s : SS), ∃ (k n : Nat) (a : Addr) (b : Bytes), x = .ref r ∧ y = nV k ∧ z = nV n ∧ u = .ref a ∧ RtAt C G H r A s ∧ Wf s ∧ H a = some (.lst (b.map nV)) ∧ b.length ≤ 1900 ∧
  Post C G H r A (takePkt s n k b) (Q .non)
def sp_let_go (K : PySem.W.Frag) (C : Cs) : Sp := Sp4 fun x y z u H Q => ∃ (r : Addr) (G : Gm) (A : Ad) (s : SS), ∃ p f n : Nat, x = .ref r ∧ y = nV p ∧ z = nV f ∧ u = nV n ∧ RtAt C G H r A s ∧ Wf s ∧ Post C G H r A (takeMsg s p 3 f n) (Q .non)
def sp_take_message (K : PySem.W.Frag) (C : Cs) : Sp := Sp5 fun x y z u t H Q => ∃ (r : Addr) (G : Gm) (A : Ad) (s : SS), ∃ p k f n : Nat, x = .ref r ∧ y = nV p ∧ z = nV k ∧ u = nV f ∧ t = nV n ∧ RtAt C G H r A s ∧ Wf s ∧ p < 8 ∧ 1 ≤ k ∧ k ≤ 3 ∧ f < 32 ∧ Post C G H r A (takeMsg s p k f n) (Q .non)
def sp_active_number (K : PySem.W.Frag) (C : Cs) : Sp := Sp2 fun x y H Q => ∃ (r : Addr) (G : Gm) (A : Ad) (s : SS), ∃ f : Nat, x = .ref r ∧ y = nV f ∧ RtAt C G H r A s ∧ ∀ H' : Hp, (∀ b o, H b = some o → H' b = some o) → Q (.int (actZ s f)) H'
def sp_lr_way (K : PySem.W.Frag) (C : Cs) : Sp := Sp3 fun x y z H Q => ∃ (r : Addr) (G : Gm) (A : Ad) (s : SS), ∃ f t : Int, x = .ref r ∧ y = .int f ∧ z = .int t ∧ RtAt C G H r A s ∧ Ok s ∧ ∀ s' v, Ql75.spec (some s) (.way f t) = (some s', Ql75.only v) → PostA C G H r s' (Q (.int v))
def sp_lr_line (K : PySem.W.Frag) (C : Cs) : Sp := Sp3 fun x y z H Q => ∃ (r : Addr) (G : Gm) (A : Ad) (s : SS), ∃ p u : Int, x = .ref r ∧ y = .int p ∧ z = .int u ∧ RtAt C G H r A s ∧ Ok s ∧ ∀ s' v, Ql75.spec (some s) (.line p u) = (some s', Ql75.only v) → PostA C G H r s' (Q (.int v))
def sp_lr_take (K : PySem.W.Frag) (C : Cs) : Sp := Sp3 fun x y z H Q => ∃ (r : Addr) (G : Gm) (A : Ad) (s : SS), ∃ (p : Int) (a : Addr) (b : Bytes), x = .ref r ∧ y = .int p ∧ z = .ref a ∧ RtAt C G H r A s ∧ Ok s ∧ H a = some (.lst (b.map nV)) ∧ G a = .non ∧
  ∀ s' v, Ql75.spec (some s) (.take p b b.length) = (some s', Ql75.only v) → PostA C G H r s' (Q (.int v))
def sp_lr_enter (K : PySem.W.Frag) (C : Cs) : Sp := Sp3 fun x y z H Q => ∃ (r : Addr) (G : Gm) (A : Ad) (s : SS), ∃ (f : Int) (a : Addr) (b : Bytes), x = .ref r ∧ y = .int f ∧ z = .ref a ∧ RtAt C G H r A s ∧ Ok s ∧ H a = some (.lst (b.map nV)) ∧ G a = .non ∧
  ∀ s' v, Ql75.spec (some s) (.enter f b b.length) = (some s', Ql75.only v) → PostA C G H r s' (Q (.int v))
/-- what is answered stands in a new list -/
def PostL (G : Gm) (H : Hp) (r : Addr) (s' : SS) (v : Int) (out : Bytes) (Q : V → Hp → Prop) : Prop :=
  ∀ A' G' H' q, RtAt C G' H' r A' s' → Step isMut G H G' H' → H q = none → H' q = some (.lst ((v :: out.map fun n => ((n : Nat) : Int)).map V.int)) → G' q = .non → Q (.ref q) H'
def sp_lr_next (K : PySem.W.Frag) (C : Cs) : Sp := Sp3 fun x y z H Q => ∃ (r : Addr) (G : Gm) (A : Ad) (s : SS), ∃ p m : Int, x = .ref r ∧ y = .int p ∧ z = .int m ∧ RtAt C G H r A s ∧ Ok s ∧ 0 ≤ m ∧ ∀ s' v out, Ql75.spec (some s) (.next p m.toNat) = (some s', ⟨v, out⟩) → PostL C G H r s' v out Q
def sp_lr_gone (K : PySem.W.Frag) (C : Cs) : Sp := Sp2 fun x y H Q => ∃ (r : Addr) (G : Gm) (A : Ad) (s : SS), ∃ m : Int, x = .ref r ∧ y = .int m ∧ RtAt C G H r A s ∧ Ok s ∧ 0 ≤ m ∧ ∀ s' v out, Ql75.spec (some s) (.gone m.toNat) = (some s', ⟨v, out⟩) → PostL C G H r s' v out Q
def sp_lr_look (K : PySem.W.Frag) (C : Cs) : Sp := Sp4 fun x y z u H Q => ∃ (r : Addr) (G : Gm) (A : Ad) (s : SS), ∃ w f p : Int, x = .ref r ∧ y = .int w ∧ z = .int f ∧ u = .int p ∧ RtAt C G H r A s ∧ Ok s ∧ ∀ s' v, Ql75.spec (some s) (.look w f p) = (some s', Ql75.only v) → PostA C G H r s' (Q (.int v))
/-! ### the desk -/
/-- behind a call: the reader has gone on by n numbers; the answer stands in a new list -/
def PostD (G : Gm) (H : Hp) (r p a : Addr) (pl : Nat) (ns : List Int) (s' : SS) (ans : List Int) (Q : V → Hp → Prop) : Prop :=
  ∀ A' G' H' q, RtAt C G' H' r A' s' → Step mutNon G H G' H' → (∀ b o, H b = some o → G b = .non → b ≠ p → H' b = some o) → RdAt K C G' H' p a pl ns →
    H q = none → H' q = some (.lst (ans.map V.int)) → G' q = .non → Q (.ref q) H'
def DeskAt (H : Hp) (x y : V) (r p a : Addr) (G : Gm) (A : Ad) (s : SS) (pl : Nat) (ns : List Int) : Prop := x = .ref r ∧ y = .ref p ∧ RtAt C G H r A s ∧ Ok s ∧ RdAt K C G H p a pl ns
def ansZ (t : Ql75.Ans) : List Int := t.v :: t.out.map fun n => ((n : Nat) : Int)
def sp_ask_way (K : PySem.W.Frag) (C : Cs) : Sp := Sp2 fun x y H Q => ∃ (r p a : Addr) (G : Gm) (A : Ad) (s : SS) (pl : Nat) (ns : List Int), ∃ f t : Int, DeskAt K C H x y r p a G A s pl ns ∧ ns[pl]? = some f ∧ ns[pl + 1]? = some t ∧
  ∀ s' w, Ql75.spec (some s) (.way f t) = (some s', w) → PostD K C G H r p a (pl + 2) ns s' (ansZ w) Q
def sp_ask_line (K : PySem.W.Frag) (C : Cs) : Sp := Sp2 fun x y H Q => ∃ (r p a : Addr) (G : Gm) (A : Ad) (s : SS) (pl : Nat) (ns : List Int), ∃ f t : Int, DeskAt K C H x y r p a G A s pl ns ∧ ns[pl]? = some f ∧ ns[pl + 1]? = some t ∧
  ∀ s' w, Ql75.spec (some s) (.line f t) = (some s', w) → PostD K C G H r p a (pl + 2) ns s' (ansZ w) Q
def sp_ask_take (K : PySem.W.Frag) (C : Cs) : Sp := Sp2 fun x y H Q => ∃ (r p a : Addr) (G : Gm) (A : Ad) (s : SS) (pl : Nat) (ns : List Int), ∃ (f : Int) (b : Bytes), DeskAt K C H x y r p a G A s pl ns ∧ ns[pl]? = some f ∧ ns[pl + 1]? = some (b.length : Int) ∧ (ns.drop (pl + 2)).take b.length = b.map (fun n => ((n : Nat) : Int)) ∧
  ∀ s' w, Ql75.spec (some s) (.take f b b.length) = (some s', w) → PostD K C G H r p a (pl + 2 + b.length) ns s' (ansZ w) Q
def sp_ask_enter (K : PySem.W.Frag) (C : Cs) : Sp := Sp2 fun x y H Q => ∃ (r p a : Addr) (G : Gm) (A : Ad) (s : SS) (pl : Nat) (ns : List Int), ∃ (f : Int) (b : Bytes), DeskAt K C H x y r p a G A s pl ns ∧ ns[pl]? = some f ∧ ns[pl + 1]? = some (b.length : Int) ∧ (ns.drop (pl + 2)).take b.length = b.map (fun n => ((n : Nat) : Int)) ∧
  ∀ s' w, Ql75.spec (some s) (.enter f b b.length) = (some s', w) → PostD K C G H r p a (pl + 2 + b.length) ns s' (ansZ w) Q
def sp_ask_next (K : PySem.W.Frag) (C : Cs) : Sp := Sp2 fun x y H Q => ∃ (r p a : Addr) (G : Gm) (A : Ad) (s : SS) (pl : Nat) (ns : List Int), ∃ f m : Int, DeskAt K C H x y r p a G A s pl ns ∧ ns[pl]? = some f ∧ ns[pl + 1]? = some m ∧ 0 ≤ m ∧
  ∀ s' w, Ql75.spec (some s) (.next f m.toNat) = (some s', w) → PostD K C G H r p a (pl + 2) ns s' (ansZ w) Q
def sp_ask_gone (K : PySem.W.Frag) (C : Cs) : Sp := Sp2 fun x y H Q => ∃ (r p a : Addr) (G : Gm) (A : Ad) (s : SS) (pl : Nat) (ns : List Int), ∃ m : Int, DeskAt K C H x y r p a G A s pl ns ∧ ns[pl]? = some m ∧ 0 ≤ m ∧
  ∀ s' w, Ql75.spec (some s) (.gone m.toNat) = (some s', w) → PostD K C G H r p a (pl + 1) ns s' (ansZ w) Q
def sp_ask_look (K : PySem.W.Frag) (C : Cs) : Sp := Sp2 fun x y H Q => ∃ (r p a : Addr) (G : Gm) (A : Ad) (s : SS) (pl : Nat) (ns : List Int), ∃ u f q : Int, DeskAt K C H x y r p a G A s pl ns ∧ ns[pl]? = some u ∧ ns[pl + 1]? = some f ∧ ns[pl + 2]? = some q ∧
  ∀ s' w, Ql75.spec (some s) (.look u f q) = (some s', w) → PostD K C G H r p a (pl + 3) ns s' (ansZ w) Q
/-- one call of the list: what PyFlat reads at the reader's place -/
def sp_answer_one (K : PySem.W.Frag) (C : Cs) : Sp := Sp2 fun x y H Q => ∃ (r p a : Addr) (G : Gm) (A : Ad) (s : SS) (pl : Nat) (ns : List Int), ∃ (st : Ql75.Abs) (c : List (List Int)) (t : List Int), DeskAt K C H x y r p a G A s pl ns ∧ (st = some s ∨ PyQl75.whole c = [[0]]) ∧
  PyFlat.call PyQl75.shape (ns.drop pl) = some (c, t) ∧ Ql75Neutral.asked1 (PyQl75.whole c) = true ∧
  ∀ s' ans pl', Ql75Neutral.step st (PyQl75.whole c) = (some s', ans) → ns.drop pl' = t → PostD K C G H r p a pl' ns s' ans Q
def sp_answers (K : PySem.W.Frag) (C : Cs) : Sp := Sp1 fun x H Q => ∃ (a : Addr) (ns : List Int), x = .ref a ∧ SqL K H a (ns.map V.int) ∧ PyQl75.answers_asked ns = true ∧ ∀ (H' : Hp) (p : Addr), H' p = some (.lst ((PyQl75.answers ns).map V.int)) → Q (.ref p) H'
end
end By

namespace By
open PySem PySem.Spec PyProof.Rows L2
open Ql75 (Own Bytes between)
/-! ### fields stored, looked up -/
section
variable {a b c d h w h' w' x : Addr} {n e m : Nat} {u act y : Bool}
theorem pp1 {f g : Str} {v x : V} {r r' : List (Str × V)} (h : ¬ g = f) (k : putF f v r = r') : putF f v ((g, x) :: r) = (g, x) :: r' := (put_past h).trans (congrArg _ k)
theorem rd_new : putF "place" (.int 0) (putF "numbers" (.ref a) []) = rdF a 0 := pp1 (by decide +kernel) rfl
theorem rd_put : putF "place" (.int (m : Int)) (rdF a n) = rdF a m := pp1 (by decide +kernel) put_here
theorem lb_new : putF "holders" (.ref h) (putF "active" (.bl true) (putF "end" (.int (e : Int)) (putF "number" (.int (n : Int)) []))) = lbF n e true h := by
  have e1 : putF "end" (.int (e : Int)) (putF "number" (.int (n : Int)) []) = ([("number", .int n), ("end", .int e)] : List (Str × V)) := pp1 (by decide +kernel) rfl
  have e2 : putF "active" (.bl true) [(("number" : Str), V.int n), ("end", .int e)] = ([("number", .int n), ("end", .int e), ("active", .bl true)] : List (Str × V)) := pp1 (by decide +kernel) (pp1 (by decide +kernel) rfl)
  rw [e1, e2]
  exact pp1 (by decide +kernel) (pp1 (by decide +kernel) (pp1 (by decide +kernel) rfl))
theorem lb_put : putF "active" (.bl y) (lbF n e act h) = lbF n e y h := pp1 (by decide +kernel) (pp1 (by decide +kernel) put_here)
theorem ln_new : putF "waiting" (.ref w) (putF "heard" (.ref h) (putF "up" (.bl false) [])) = lnF false h w := by
  have e1 : putF "heard" (.ref h) (putF "up" (.bl false) []) = ([("up", .bl false), ("heard", .ref h)] : List (Str × V)) := pp1 (by decide +kernel) rfl
  rw [e1]
  exact pp1 (by decide +kernel) (pp1 (by decide +kernel) rfl)
theorem ln_put_up : putF "up" (.bl y) (lnF u h w) = lnF y h w := put_here
theorem ln_put_heard : putF "heard" (.ref h') (lnF u h w) = lnF u h' w := pp1 (by decide +kernel) put_here
theorem ln_put_waiting : putF "waiting" (.ref w') (lnF u h w) = lnF u h w' := pp1 (by decide +kernel) (pp1 (by decide +kernel) put_here)
theorem rt_put_ways : putF "ways" (.ref x) (rtF a b c d) = rtF x b c d := put_here
theorem rt_put_book : putF "book" (.ref x) (rtF a b c d) = rtF a x c d := pp1 (by decide +kernel) put_here
theorem rt_put_lines : putF "lines" (.ref x) (rtF a b c d) = rtF a b x d := pp1 (by decide +kernel) (pp1 (by decide +kernel) put_here)
theorem rt_put_leaving : putF "leaving" (.ref x) (rtF a b c d) = rtF a b c x := pp1 (by decide +kernel) (pp1 (by decide +kernel) (pp1 (by decide +kernel) put_here))
theorem rt_new : putF "leaving" (.ref d) (putF "lines" (.ref c) (putF "book" (.ref b) (putF "ways" (.ref a) []))) = rtF a b c d := by
  have e1 : putF "book" (.ref b) (putF "ways" (.ref a) []) = ([("ways", .ref a), ("book", .ref b)] : List (Str × V)) := pp1 (by decide +kernel) rfl
  have e2 : putF "lines" (.ref c) [(("ways" : Str), V.ref a), ("book", .ref b)] = ([("ways", .ref a), ("book", .ref b), ("lines", .ref c)] : List (Str × V)) := pp1 (by decide +kernel) (pp1 (by decide +kernel) rfl)
  rw [e1, e2]
  exact pp1 (by decide +kernel) (pp1 (by decide +kernel) (pp1 (by decide +kernel) rfl))
theorem noName_eq {m : Str} {l l' : List (Str × V)} (h : l.map (·.1) = l'.map (·.1)) : noName m l = noName m l' := by
  have e : ∀ l : List (Str × V), noName m l = (l.map (·.1)).all fun g => !(m == g) := fun l => by
    unfold noName
    rw [List.all_map]
    rfl
  rw [e, e, h]
theorem rd_no {m : Str} (k : noName m (rdF 0 0) = true) : (rdF a n).lookup m = none := lk_no ((noName_eq rfl).trans k)
theorem lb_no {m : Str} (k : noName m (lbF 0 0 true 0) = true) : (lbF n e act h).lookup m = none := lk_no ((noName_eq rfl).trans k)
theorem bk_no {m : Str} (k : noName m (bkF 0) = true) : (bkF d).lookup m = none := lk_no ((noName_eq rfl).trans k)
theorem ln_no {m : Str} (k : noName m (lnF true 0 0) = true) : (lnF u h w).lookup m = none := lk_no ((noName_eq rfl).trans k)
theorem rt_no {m : Str} (k : noName m (rtF 0 0 0 0) = true) : (rtF a b c d).lookup m = none := lk_no ((noName_eq rfl).trans k)
end
/-! ### small things -/
theorem sz {n : Nat} (h : n ≤ 10000000) : n < sizeLine := by rw [sizeLine_eq]; omega
theorem ins_eq {C dx : Addr} {fs fs' : List (Str × V)} {H : Hp} {a : Addr} (h : H a = some (.ins C dx fs)) (e : fs = fs') : H a = some (.ins C dx fs') := by rw [h, e]
theorem get_map {b : Bytes} {i : Nat} {x : Nat} (h : b[i]? = some x) : (b.map nV)[i]? = some (nV x) := by rw [List.getElem?_map, h]; rfl
theorem at_nat {xs : List V} {i : Nat} {v : V} (h : xs[i]? = some v) : atI xs (i : Int) = some v := atI_nat h
theorem ite_b {b : Bool} {A B : Prop} (h1 : b = true → A) (h2 : b = false → B) : if b = true then A else B := by
  cases b
  · exact iteF (h2 rfl)
  · exact iteT (h1 rfl)
/-- one new thing -/
theorem upd_same_keep {H : Hp} {p : Addr} {o : HO} (h : H p = none) : ∀ b u, H b = some u → (upd H p o) b = some u := fun b u e => by rw [upd_ne (ne_of_none e h)]; exact e
theorem qv {Q : VK} {v v' : V} {H : Hp} (q : Q v H) (e : v' = v) : Q v' H := by rw [e]; exact q
theorem sqL_off {K : PySem.W.Frag} {H H' : Hp} {a p C dx : Addr} {fs : List (Str × V)} {xs : List V} (s : SqL K H a xs) (hp : H p = some (.ins C dx fs)) (k : ∀ b o, H b = some o → b ≠ p → H' b = some o) : SqL K H' a xs := by
  rcases s with (h | ⟨o, h⟩) | h
  · exact .inl (.inl (k _ _ h (ne_of h hp (by intro z; cases z))))
  · exact .inl (.inr ⟨o, k _ _ h (ne_of h hp (by intro z; cases z))⟩)
  · exact .inr h
theorem sqL_step {K : PySem.W.Frag} {G G' : Gm} {H H' : Hp} {S : Ro → Prop} {a : Addr} {xs : List V} (s : SqL K H a xs) (t : Step S G H G' H') (n : ¬ S (G a)) : SqL K H' a xs := by
  rcases s with (h | ⟨o, h⟩) | h
  · exact .inl (.inl (t.keep _ _ h n))
  · exact .inl (.inr ⟨o, t.keep _ _ h n⟩)
  · exact .inr h
theorem cut_nat {xs : List V} {i j : Nat} (hj : j ≤ xs.length) (hi : i ≤ xs.length) : cutV xs (some (i : Int)) (some (j : Int)) = (xs.drop i).take (j - i) := by
  unfold cutV
  rw [HT.sIx_nat, HT.sIx_nat, Nat.min_eq_left hi, Nat.min_eq_left hj]
theorem cut_from {xs : List V} {i : Nat} (hi : i ≤ xs.length) : cutV xs (some (i : Int)) none = xs.drop i := by
  unfold cutV
  rw [HT.sIx_nat, HT.sIx_none, Nat.min_eq_left hi]
  exact List.take_of_length_le (by rw [List.length_drop]; exact Nat.le_refl _)
theorem inV_nat (p : Nat) : ∀ l : List Nat, inV (nV p) (l.map nV) = l.contains p
  | [] => rfl
  | x :: r => by
    have ih := inV_nat p r
    show (eqV (nV x) (nV p) || inV (nV p) (r.map nV)) = (p == x || r.contains p)
    rw [ih]
    have e : eqV (nV x) (nV p) = (p == x) := by
      show ((x : Int) == (p : Int)) = (p == x)
      by_cases h : p = x
      · subst h; simp
      · have h2 : ¬ ((x : Int) = (p : Int)) := fun z => h (by omega)
        exact (beq_false_of_ne h2).trans (beq_false_of_ne h).symm
    rw [e]
theorem flat_nat : ∀ l : List Nat, (l.map nV).all flatV = true
  | [] => rfl
  | _ :: r => flat_nat r
theorem nV_ints (l : List Nat) : (l.map fun n => ((n : Nat) : Int)).map V.int = l.map nV := by
  rw [List.map_map]
  rfl
theorem filter_off : ∀ {l : List Nat} {p : Nat}, p ∉ l → (l.filter fun q => q != p) = l := fun {l p} h => filter_id fun x hx => by
  have : x ≠ p := fun e => h (e ▸ hx)
  simp [this]
theorem erase_at : ∀ {l : List Nat} {j p : Nat}, l.Nodup → l[j]? = some p → l.eraseIdx j = l.filter fun q => q != p
  | [], j, p, _, h => by simp at h
  | a :: r, 0, p, n, h => by
    have e : a = p := Option.some.inj h
    subst e
    obtain ⟨n1, n2⟩ := List.nodup_cons.mp n
    rw [List.eraseIdx_cons_zero, List.filter_cons, if_neg (by simp), filter_off n1]
  | a :: r, j + 1, p, n, h => by
    obtain ⟨n1, n2⟩ := List.nodup_cons.mp n
    have h' : r[j]? = some p := h
    have ne : a ≠ p := fun e => n1 (e ▸ List.mem_of_getElem? h')
    rw [List.eraseIdx_cons_succ, List.filter_cons, if_pos (by simp [ne]), erase_at n2 h']
theorem mem_first : ∀ {l : List Nat} {p : Nat}, p ∈ l → ∃ j : Nat, l[j]? = some p ∧ ∀ m, m < j → l[m]? ≠ some p
  | [], p, h => by cases h
  | a :: r, p, h => by
    by_cases e : a = p
    · exact ⟨0, by rw [e]; rfl, fun m hm => by omega⟩
    · have h' : p ∈ r := (List.mem_cons.mp h).resolve_left fun z => e z.symm
      obtain ⟨j, h1, h2⟩ := mem_first h'
      refine ⟨j + 1, h1, fun m hm => ?_⟩
      cases m with
      | zero => exact fun z => e (Option.some.inj z)
      | succ m => exact h2 m (by omega)
/-! ### the labels' heap -/
theorem valV_owns (A : Ad) (n : Nat) : ∀ l : List Own, valV (l.map (kvO A)) (.inl (n : Int)) = (l.find? fun o => o.label == n).map fun o => V.ref (A.lb o.label)
  | [] => rfl
  | o :: r => by
    rw [List.map_cons, List.find?_cons]
    by_cases e : o.label = n
    · rw [valV_pos (show (kvO A o).1 = .inl (n : Int) by unfold kvO; rw [e])]
      simp [e, kvO]
    · rw [valV_neg (show ¬ (kvO A o).1 = .inl (n : Int) from fun z => e (by have := Sum.inl.inj z; omega)), valV_owns A n r]
      have z : (o.label == n) = false := beq_false_of_ne e
      rw [z]
theorem find_own {l : List Own} (nd : (l.map (·.label)).Nodup) {o : Own} (ho : o ∈ l) : (l.find? fun x => x.label == o.label) = some o := by
  cases e : l.find? fun x => x.label == o.label with
  | none =>
    have := List.find?_eq_none.mp e o ho
    simp at this
  | some x =>
    have h1 := List.find?_some e
    have h2 := List.mem_of_find?_eq_some e
    rw [nd_eq nd h2 ho (by simpa using h1)]
section
variable {C : Cs} {G : Gm} {H H' : Hp} {A : Ad} {l : List Own} {o : Own}
/-- a label's object or holders change -/
theorem BookAt.label (B : BookAt C G H A l) (ho : o ∈ l) (g : Own → Own) (hg : ∀ x, (g x).label = x.label) (L : LabAt C G H' (A.lb o.label) (g o)) (k : ∀ b u, H b = some u → G b ≠ .lab o.label → G b ≠ .hold o.label → H' b = some u) (lv : ∀ b u, H b = some u → ∃ u', H' b = some u' ∧ LbK u u') :
    BookAt C G H' A (l.map fun x => if x.label = o.label then g x else x) ∧ Step inBook G H G H' := by
  have t : Step (fun r => r = .lab o.label ∨ r = .hold o.label) G H G H' := Step.of (fun b u e n => k b u e (fun z => n (.inl z)) (fun z => n (.inr z))) lv
  obtain ⟨dx, e⟩ := B.bk
  have m : ∀ r : Ro, r ≠ .lab o.label → r ≠ .hold o.label → ¬ (r = .lab o.label ∨ r = .hold o.label) := fun r a b z => z.elim a b
  refine ⟨⟨⟨dx, t.keep _ _ e (by rw [B.bkG]; exact m _ (by intro z; cases z) (by intro z; cases z))⟩, B.bkG, ?_, B.dcG, ?_, by rw [List.length_map]; exact B.few, fun x hx => ?_⟩, t.mono fun r z => by rcases z with rfl | rfl <;> trivial⟩
  · have e2 : (l.map fun x => if x.label = o.label then g x else x).map (kvO A) = l.map (kvO A) := by
      rw [List.map_map]
      refine List.map_congr_left fun x _ => ?_
      show kvO A (if x.label = o.label then g x else x) = kvO A x
      split
      · unfold kvO; rw [hg]
      · rfl
    rw [e2]
    exact t.keep _ _ B.dc (by rw [B.dcG]; exact m _ (by intro z; cases z) (by intro z; cases z))
  · rw [upd_labels o.label g hg]; exact B.nd
  · obtain ⟨y, hy, z⟩ := mem_upd hx
    rcases z with ⟨e3, rfl⟩ | ⟨e3, rfl⟩
    · have : y = o := nd_eq B.nd hy ho e3
      subst this
      rw [hg]; exact L
    · exact (B.lab x hy).step t (m _ (fun z => e3 (Ro.lab.inj z)) (by intro z; cases z)) (m _ (by intro z; cases z) (fun z => e3 (Ro.hold.inj z)))
/-- a label taken out of the dict -/
theorem BookAt.freed (B : BookAt C G H A l) (ho : o ∈ l) (hk : keep o = false) (hd : H' A.dc = some (.dK (dropK (l.map (kvO A)) (.inl (o.label : Int))))) (k : ∀ b, b ≠ A.dc → H' b = H b) : BookAt C G H' A (frAt o.label l) ∧ Step inBook G H G H' := by
  have t : Step (fun r => r = .dct) G H G H' := Step.of (fun b u e n => by rw [k b (by rintro rfl; exact n B.dcG)]; exact e) (one_live B.dc hd LbK.dK k)
  obtain ⟨dx, e⟩ := B.bk
  have ef : frAt o.label l = l.filter fun x => x.label != o.label := by
    refine List.filter_congr fun x hx => ?_
    by_cases z : x.label = o.label
    · have : x = o := nd_eq B.nd hx ho z
      subst this
      simp [hk]
    · simp [z]
  refine ⟨⟨⟨dx, t.keep _ _ e (by rw [B.bkG]; intro z; cases z)⟩, B.bkG, ?_, B.dcG, nd_filter _ B.nd, Nat.le_trans (List.length_filter_le _ _) B.few, fun x hx => ?_⟩, t.mono fun r z => by rw [z]; trivial⟩
  · rw [hd, ef]
    congr 2
    unfold dropK
    rw [List.filter_map]
    congr 1
    refine List.filter_congr fun x _ => ?_
    show decide (¬ (kvO A x).1 = .inl (o.label : Int)) = (x.label != o.label)
    by_cases z : x.label = o.label
    · simp [kvO, z]
    · have : ¬ (x.label : Int) = (o.label : Int) := by omega
      simp [kvO, z, this]
  · exact (B.lab x (List.mem_filter.mp hx).1).step t (by intro z; cases z) (by intro z; cases z)
theorem frAt_kept (nd : (l.map (·.label)).Nodup) (ho : o ∈ l) (hk : keep o = true) : frAt o.label l = l := filter_id fun x hx => by
  by_cases z : x.label = o.label
  · have : x = o := nd_eq nd hx ho z
    subst this
    simp [hk]
  · simp [z]
end
theorem putF_le {f : Str} {v : V} : ∀ {l : List (Str × V)} {n : Nat}, l.length ≤ n → (putF f v l).length ≤ n + 1
  | [], n, h => Nat.succ_le_succ (Nat.zero_le n)
  | (g, x) :: r, 0, h => by cases h
  | (g, x) :: r, n + 1, h => by
    by_cases e : g = f
    · subst e
      rw [put_here]
      exact Nat.le_succ_of_le h
    · rw [put_past e]
      exact Nat.succ_le_succ (putF_le (Nat.le_of_succ_le_succ h))
theorem map_erase {α β : Type} (f : α → β) : ∀ (l : List α) (j : Nat), (l.eraseIdx j).map f = (l.map f).eraseIdx j
  | [], _ => rfl
  | _ :: _, 0 => rfl
  | a :: r, j + 1 => congrArg (f a :: ·) (map_erase f r j)
theorem seq0 {n : Nat} : seqIndex? 0 (n + 1) = some 0 := by
  unfold seqIndex?
  have e : (decide ((0 : Int) < ((n + 1 : Nat) : Int))) = true := decide_eq_true (by omega)
  show (if (decide ((0 : Int) ≤ 0) && decide ((0 : Int) < ((n + 1 : Nat) : Int))) = true then some (0 : Int).toNat else none) = some 0
  rw [e]
  rfl
theorem find_first {α : Type} {p : α → Bool} : ∀ {l : List α} {i : Nat} {x : α}, (∀ y ∈ l.take i, p y = false) → l[i]? = some x → p x = true → l.find? p = some x
  | [], i, x, _, h, _ => by simp at h
  | a :: r, 0, x, _, h, hp => by
    have e : a = x := Option.some.inj h
    subst e
    rw [List.find?_cons, hp]
  | a :: r, i + 1, x, h0, h, hp => by
    have ha : p a = false := h0 a (by rw [List.take_succ_cons]; exact List.mem_cons_self)
    rw [List.find?_cons, ha]
    exact find_first (fun y hy => h0 y (by rw [List.take_succ_cons]; exact List.mem_cons_of_mem _ hy)) h hp
theorem find_act (l : List Own) (f : Nat) : (l.find? fun o => o.active && o.for_ == f) = (l.filter fun o => o.active).find? fun o => o.for_ == f := by
  induction l with
  | nil => rfl
  | cons o r ih =>
    rw [List.find?_cons, List.filter_cons]
    cases h : o.active with
    | true =>
      rw [if_pos rfl, List.find?_cons, Bool.true_and, ih]
    | false =>
      rw [if_neg Bool.false_ne_true, Bool.false_and]
      exact ih
theorem map_get {α β : Type} {f : α → β} {l : List α} {i : Nat} {y : β} (h : (l.map f)[i]? = some y) : ∃ x, l[i]? = some x ∧ y = f x := by
  rw [List.getElem?_map] at h
  cases e : l[i]? with
  | none => rw [e] at h; cases h
  | some x => rw [e] at h; exact ⟨x, rfl, (Option.some.inj h).symm⟩
theorem free_eq (l : List Own) : freeL l = (setO l Ql75.begun).free := rfl
end By

namespace By
open PySem PySem.Spec PyProof.Rows L2
open Ql75 (Own Bytes between)
def fallen (s : SS) (p : Nat) : SS := { s with up := s.up.set p false, heard := s.heard.set p (List.replicate 32 none), out := s.out.set p [] }
def risen (s : SS) (p : Nat) : SS := { s with up := s.up.set p true }
def outS (s : SS) (p : Nat) (bs : List Bytes) : SS := { s with out := s.out.set p bs }
theorem down_eq (s : SS) (p : Nat) : s.down p = setO (((fallen s p).owns.map (lessH p)).filter keep) (fallen s p) := rfl
theorem addOut_eq (s : SS) (p : Nat) (b : Bytes) : addOut s p b = outS s p (s.waiting p ++ [b]) := rfl
theorem ls_get (A : Ad) {p : Nat} (hp : p < 8) : ((List.range 8).map fun p => V.ref (A.ln p))[p]? = some (.ref (A.ln p)) := by
  rw [List.getElem?_map, List.getElem?_range hp]
  rfl
theorem getD_off {α : Type} (l : List α) {p q : Nat} (x d : α) (h : q ≠ p) : (l.set p x).getD q d = l.getD q d := getD_set_ne l p q x d h.symm
section
variable {C : Cs} {G G' : Gm} {H H1 : Hp} {r : Addr} {A : Ad} {s : SS} {p : Nat}
theorem HdAt.none32 : HdAt [] (List.replicate 32 none) := by
  refine ⟨List.nodup_nil, ?_, ?_⟩
  · intro k hk
    cases hk
  · intro f _
    rw [getD_replicate]
    rfl
/-- the one address x of line p changes -/
theorem one_step {x : Addr} {u o : HO} (hx : H x = some u) (gx : inLine p (G x)) (h1 : H1 x = some o) (lk : LbK u o) (k : ∀ b, b ≠ x → H1 b = H b) : Step (inLine p) G H G H1 :=
  Step.of (fun b v e n => by rw [k b (by rintro rfl; exact n gx)]; exact e) (one_live hx h1 lk k)
/-- fall -/
theorem RtAt.fall {h l : Addr} {dx hh ww : Addr} {u : Bool} (R : RtAt C G H r A s) (W : Wf s) (hp : p < 8) (l1 : H (A.ln p) = some (.ins C.ln dx (lnF u hh ww))) (g1 : G (A.ln p) = .line p) (h0 : H h = none) (l0 : H l = none) (nhl : h ≠ l)
    (q1 : H1 (A.ln p) = some (.ins C.ln dx (lnF false h l))) (q2 : H1 h = some (.dK [])) (q3 : H1 l = some (.lst [])) (k1 : ∀ b, b ≠ A.ln p → b ≠ h → b ≠ l → H1 b = H b) : ∃ G1, RtAt C G1 H1 r A (fallen s p) ∧ Step isMut G H G1 H1 := by
  have t : Step (inLine p) G H (setG (setG G h (.heard p)) l (.wait p)) H1 := by
    refine ⟨fun b o e => by rw [setG_ne (ne_of_none e l0), setG_ne (ne_of_none e h0)], fun b o e n => ?_, fun b o e => ?_⟩
    · rw [k1 b (by rintro rfl; exact n (by rw [g1]; exact rfl)) (ne_of_none e h0) (ne_of_none e l0)]; exact e
    · by_cases z : b = A.ln p
      · rw [z] at e ⊢
        rw [l1] at e
        cases e
        exact ⟨_, q1, LbK.ln⟩
      · exact ⟨o, by rw [k1 b z (ne_of_none e h0) (ne_of_none e l0)]; exact e, LbK.refl o⟩
  have w : WF (setG (setG G h (.heard p)) l (.wait p)) H1 := fun b hb => by
    have z1 : b ≠ A.ln p := fun z => by rw [z, q1] at hb; cases hb
    have z2 : b ≠ h := fun z => by rw [z, q2] at hb; cases hb
    have z3 : b ≠ l := fun z => by rw [z, q3] at hb; cases hb
    rw [setG_ne z3, setG_ne z2]
    exact R.wf b (by rw [← k1 b z1 z2 z3]; exact hb)
  refine ⟨setG (setG G h (.heard p)) l (.wait p), R.onLine t w ⟨dx, h, l, [], [], ?_, by rw [t.role _ _ l1, g1], q2, by rw [setG_ne nhl, setG_same], ?_, q3, setG_same, ?_⟩ rfl rfl rfl (fun q hq => ⟨getD_off _ _ _ hq, getD_off _ _ _ hq, getD_off _ _ _ hq⟩), t.mono inLine_mut⟩
  · have e : (fallen s p).isUp p = false := getD_set_eq _ _ _ _ (by rw [W.upL]; exact hp)
    rw [e]; exact q1
  · have e : (fallen s p).heard.getD p [] = List.replicate 32 none := getD_set_eq _ _ _ _ (by rw [W.heardL]; exact hp)
    rw [e]; exact HdAt.none32
  · have e : (fallen s p).waiting p = [] := getD_set_eq _ _ _ _ (by rw [W.outL]; exact hp)
    rw [e]; exact .nil
/-- rise -/
theorem RtAt.rise {dx hh ww : Addr} {u : Bool} (R : RtAt C G H r A s) (W : Wf s) (hp : p < 8) (l1 : H (A.ln p) = some (.ins C.ln dx (lnF u hh ww))) (h1 : H1 (A.ln p) = some (.ins C.ln dx (lnF true hh ww))) (k : ∀ b, b ≠ A.ln p → H1 b = H b) : RtAt C G H1 r A (risen s p) ∧ Step isMut G H G H1 := by
  obtain ⟨dx', hh', ww', kvs, vs, a1, g1, a2, g2, hk, a3, g3, fr⟩ := (R.line p hp).ex
  rw [l1] at a1
  cases a1
  have t := one_step (G := G) (p := p) l1 (by rw [g1]; exact rfl) h1 LbK.ln k
  refine ⟨R.onLine t (R.wf.step t) ⟨dx, hh, ww, kvs, vs, ?_, g1, ?_, g2, hk, ?_, g3, Frs.step t id fr⟩ rfl rfl rfl (fun q hq => ⟨getD_off _ _ _ hq, rfl, rfl⟩), t.mono inLine_mut⟩
  · have e : (risen s p).isUp p = true := getD_set_eq _ _ _ _ (by rw [W.upL]; exact hp)
    rw [e]; exact h1
  · rw [k hh (ne_ro (G := G) (by rw [g1, g2]; intro z; cases z))]; exact a2
  · rw [k ww (ne_ro (G := G) (by rw [g1, g3]; intro z; cases z))]; exact a3
/-- the frames that wait become others -/
theorem RtAt.wait {dx hh ww : Addr} {u : Bool} {vs' : List V} {bs : List Bytes} (R : RtAt C G H r A s) (W : Wf s) (hp : p < 8) (l1 : H (A.ln p) = some (.ins C.ln dx (lnF u hh ww))) (h1 : H1 ww = some (.lst vs')) (k : ∀ b, b ≠ ww → H1 b = H b) (fr : Frs G H vs' bs) :
    RtAt C G H1 r A (outS s p bs) ∧ Step isMut G H G H1 := by
  obtain ⟨dx', hh', ww', kvs, vs, a1, g1, a2, g2, hk, a3, g3, fr0⟩ := (R.line p hp).ex
  rw [l1] at a1
  cases a1
  have t := one_step (G := G) (p := p) a3 (by rw [g3]; exact rfl) h1 LbK.lst k
  refine ⟨R.onLine t (R.wf.step t) ⟨dx, hh, ww, kvs, vs', ?_, g1, ?_, g2, hk, h1, g3, ?_⟩ rfl rfl rfl (fun q hq => ⟨rfl, rfl, getD_off _ _ _ hq⟩), t.mono inLine_mut⟩
  · rw [k _ (ne_ro (G := G) (by rw [g1, g3]; intro z; cases z))]; exact l1
  · rw [k hh (ne_ro (G := G) (by rw [g2, g3]; intro z; cases z))]; exact a2
  · have e : (outS s p bs).waiting p = bs := getD_set_eq _ _ _ _ (by rw [W.outL]; exact hp)
    rw [e]; exact Frs.step t id fr
/-- what is heard becomes another -/
theorem RtAt.hears {dx hh ww : Addr} {u : Bool} {kvs' : List (Key × V)} {f : Nat} {n : Option Nat} (R : RtAt C G H r A s) (W : Wf s) (hp : p < 8) (l1 : H (A.ln p) = some (.ins C.ln dx (lnF u hh ww))) (h1 : H1 hh = some (.dK kvs')) (k : ∀ b, b ≠ hh → H1 b = H b)
    (hk' : HdAt kvs' ((s.heard.getD p []).set f n)) : RtAt C G H1 r A (s.hear p f n) ∧ Step isMut G H G H1 := by
  obtain ⟨dx', hh', ww', kvs, vs, a1, g1, a2, g2, hk, a3, g3, fr0⟩ := (R.line p hp).ex
  rw [l1] at a1
  cases a1
  have t := one_step (G := G) (p := p) a2 (by rw [g2]; exact rfl) h1 LbK.dK k
  refine ⟨R.onLine t (R.wf.step t) ⟨dx, hh, ww, kvs', vs, ?_, g1, h1, g2, ?_, ?_, g3, Frs.step t id fr0⟩ rfl rfl rfl (fun q hq => ⟨rfl, getD_off _ _ _ hq, rfl⟩), t.mono inLine_mut⟩
  · rw [k _ (ne_ro (G := G) (by rw [g1, g2]; intro z; cases z))]; exact l1
  · have e : (s.hear p f n).heard.getD p [] = (s.heard.getD p []).set f n := getD_set_eq _ _ _ _ (by rw [W.heardL]; exact hp)
    rw [e]; exact hk'
  · rw [k ww (ne_ro (G := G) (by rw [g2, g3]; intro z; cases z))]; exact a3
/-- a new frame's role -/
theorem RtAt.frame {fa : Addr} {o : HO} (R : RtAt C G H r A s) (h0 : H fa = none) (h1 : H1 fa = some o) (k : ∀ b u, H b = some u → H1 b = some u) : RtAt C (setG G fa .frame) H1 r A s ∧ Step isMut G H (setG G fa .frame) H1 := by
  have t0 : Step noRo G H G H1 := Step.same k
  have t : Step noRo G H (setG G fa .frame) H1 := t0.setG _ h0
  exact ⟨R.step t (fun _ z => z.elim) ((R.wf.step t0).setG _ h1), t.mono noRo_mut⟩
/-- a new thing of no role -/
theorem RtAt.more (R : RtAt C G H r A s) (k : ∀ b u, H b = some u → H1 b = some u) : RtAt C G H1 r A s ∧ Step isMut G H G H1 := by
  have t : Step noRo G H G H1 := Step.same k
  exact ⟨R.step t (fun _ z => z.elim) (R.wf.step t), t.mono noRo_mut⟩
theorem HdAt.put {kvs : List (Key × V)} {l : List (Option Nat)} {f n : Nat} (h : HdAt kvs l) (hl : l.length = 32) (hf : f < 32) : HdAt (putK kvs (.inl (f : Int)) (nV n)) (l.set f (some n)) := by
  obtain ⟨h1, h2, h3⟩ := h
  have hv : ∀ g : Nat, g < 32 → valV (putK kvs (.inl (f : Int)) (nV n)) (.inl (g : Int)) = ((l.set f (some n)).getD g none).map nV := fun g hg => by
    rw [valV_put]
    by_cases e : g = f
    · subst e
      rw [if_pos rfl, getD_set_eq _ _ _ _ (by rw [hl]; exact hf)]
      rfl
    · rw [if_neg (fun z => e (by have := Sum.inl.inj z; omega)), getD_set_ne _ _ _ _ _ (fun z => e z.symm)]
      exact h3 g hg
  cases e : valV kvs (.inl (f : Int) : Key) with
  | none =>
    refine ⟨nd_putK _ h1 e, fun k hk => ?_, hv⟩
    rw [putK_new _ e, List.map_append] at hk
    rcases List.mem_append.mp hk with z | z
    · exact h2 k z
    · exact ⟨f, hf, List.mem_singleton.mp z⟩
  | some v =>
    have ek : (putK kvs (.inl (f : Int)) (nV n)).map (·.1) = kvs.map (·.1) := by
      unfold putK
      have : (kvs.any fun kv => decide (kv.1 = (.inl (f : Int) : Key))) = true := by rw [valV_any, e]; rfl
      rw [if_pos this, List.map_map]
      refine List.map_congr_left fun kv _ => ?_
      show (if kv.1 = _ then _ else kv).1 = kv.1
      split
      · rfl
      · rfl
    exact ⟨by rw [ek]; exact h1, fun k hk => by rw [ek] at hk; exact h2 k hk, hv⟩
theorem HdAt.drop {kvs : List (Key × V)} {l : List (Option Nat)} {f : Nat} (h : HdAt kvs l) (hl : l.length = 32) (hf : f < 32) : HdAt (dropK kvs (.inl (f : Int))) (l.set f none) := by
  obtain ⟨h1, h2, h3⟩ := h
  refine ⟨nd_dropK h1, fun k hk => ?_, fun g hg => ?_⟩
  · obtain ⟨q, hq, rfl⟩ := List.mem_map.mp hk
    exact h2 _ (List.mem_map.mpr ⟨q, dropK_mem hq, rfl⟩)
  · by_cases e : g = f
    · subst e
      rw [getD_set_eq _ _ _ _ (by rw [hl]; exact hf)]
      cases z : valV (dropK kvs (.inl (g : Int))) (.inl (g : Int) : Key) with
      | none => rfl
      | some v =>
        have m := valV_in z
        obtain ⟨q, hq, eq⟩ := List.mem_map.mp m
        have := (List.mem_filter.mp hq).2
        simp [eq] at this
    · rw [getD_set_ne _ _ _ _ _ (fun z => e z.symm), ← h3 g hg]
      unfold valV dropK
      rw [List.find?_filter]
      congr 2
      funext kv
      by_cases c : kv.1 = (.inl (g : Int) : Key)
      · have : ¬ (.inl (g : Int) : Key) = .inl (f : Int) := fun z => e (by have := Sum.inl.inj z; omega)
        simp [c, this]
      · simp [c]
/-- few keys -/
theorem nodup_few : ∀ (n : Nat) {l : List Nat}, l.Nodup → (∀ x ∈ l, x < n) → l.length ≤ n
  | 0, l, _, h => by
    cases l with
    | nil => exact Nat.le_refl _
    | cons a r => exact absurd (h a List.mem_cons_self) (Nat.not_lt_zero a)
  | n + 1, l, nd, h => by
    have h1 : (l.filter fun q => q != n).length ≤ n := nodup_few n (nd.sublist List.filter_sublist) fun x hx => by
      obtain ⟨m, ne⟩ := List.mem_filter.mp hx
      have := h x m
      have : x ≠ n := by simpa using ne
      omega
    by_cases hm : n ∈ l
    · obtain ⟨j, hj, _⟩ := mem_first hm
      rw [← erase_at nd hj, List.length_eraseIdx] at h1
      have := (List.getElem?_eq_some_iff.mp hj).1
      rw [if_pos this] at h1
      omega
    · rw [filter_off hm] at h1
      omega
theorem HdAt.few {kvs : List (Key × V)} {l : List (Option Nat)} (h : HdAt kvs l) : kvs.length ≤ 32 := by
  obtain ⟨h1, h2, _⟩ := h
  have e : ∀ {ks : List Key}, (∀ k ∈ ks, ∃ f : Nat, f < 32 ∧ k = .inl (f : Int)) → ∃ fs : List Nat, ks = fs.map (fun f => (.inl ((f : Nat) : Int) : Key)) ∧ ∀ f ∈ fs, f < 32 := by
    intro ks
    induction ks with
    | nil => exact fun _ => ⟨[], rfl, fun f hf => by cases hf⟩
    | cons k r ih =>
      intro hk
      obtain ⟨f, hf, rfl⟩ := hk k List.mem_cons_self
      obtain ⟨fs, e1, e2⟩ := ih fun k hk' => hk k (List.mem_cons_of_mem _ hk')
      exact ⟨f :: fs, by rw [e1]; rfl, fun g hg => by
        rcases List.mem_cons.mp hg with z | z
        · rw [z]; exact hf
        · exact e2 g z⟩
  obtain ⟨fs, e1, e2⟩ := e h2
  have nf : fs.Nodup := by
    rw [e1] at h1
    exact List.Pairwise.of_map (R := fun a b => a ≠ b) (f := fun f : Nat => (.inl (f : Int) : Key)) (fun a b hab z => hab (by rw [z])) h1
  have := nodup_few 32 nf e2
  have el : kvs.length = fs.length := by
    have := congrArg List.length e1
    rw [List.length_map, List.length_map] at this
    exact this
  omega
end
theorem Wf.few {s : SS} (w : Wf s) : s.owns.length ≤ 1024 := by
  have h := nodup_few 1024 (l := (s.owns.map (·.label)).map fun n => n - 16) ?_ ?_
  · rw [List.length_map, List.length_map] at h; exact h
  · refine List.Pairwise.map (R := fun a b => (a ≠ b ∧ 16 ≤ a) ∧ 16 ≤ b) _ (fun a b h z => ?_) ?_
    · omega
    · refine List.Pairwise.imp_of_mem (R := fun a b => a ≠ b) (fun {a b} ha hb h => ?_) w.nd
      obtain ⟨o, ho, rfl⟩ := List.mem_map.mp ha
      obtain ⟨o', ho', rfl⟩ := List.mem_map.mp hb
      exact ⟨⟨h, (w.lab o ho).1⟩, (w.lab o' ho').1⟩
  · intro x hx
    obtain ⟨n, hn, rfl⟩ := List.mem_map.mp hx
    obtain ⟨o, ho, rfl⟩ := List.mem_map.mp hn
    have := (w.lab o ho).2
    omega
theorem Wf.held_few {s : SS} (w : Wf s) {o : Own} (ho : o ∈ s.owns) : o.held.length ≤ 8 := nodup_few 8 (w.held o ho).1 (w.held o ho).2
end By

namespace By
open PySem PySem.Spec PyProof.Rows L2
open Ql75 (Own Bytes between)
/-! ### the specification, case by case -/
def toW (t : Int) : Option Nat := if t = -1 then none else some t.toNat
section
variable {s : SS}
theorem spec_way_bad {f t : Int} (h : between f 0 31 = false ∨ ¬ (t = -1 ∨ between t 0 8 = true)) : Ql75.spec (some s) (.way f t) = (some s, Ql75.only (-2)) := if_pos h
theorem spec_way_none {f t : Int} (h : ¬ (between f 0 31 = false ∨ ¬ (t = -1 ∨ between t 0 8 = true))) (e : s.told f.toNat (toW t) = none) : Ql75.spec (some s) (.way f t) = (some s, Ql75.only (-1)) := by
  refine (if_neg h).trans ?_
  have e : s.told f.toNat (if t = -1 then none else some t.toNat) = none := e
  rw [e]
theorem spec_way_some {f t : Int} {s' : SS} (h : ¬ (between f 0 31 = false ∨ ¬ (t = -1 ∨ between t 0 8 = true))) (e : s.told f.toNat (toW t) = some s') : Ql75.spec (some s) (.way f t) = (some s', Ql75.only 0) := by
  refine (if_neg h).trans ?_
  have e : s.told f.toNat (if t = -1 then none else some t.toNat) = some s' := e
  rw [e]
theorem spec_line_bad {p u : Int} (h : between p 0 7 = false) : Ql75.spec (some s) (.line p u) = (some s, Ql75.only (-2)) := if_pos h
theorem spec_line_down {p u : Int} (h : ¬ between p 0 7 = false) (hu : u = 0) : Ql75.spec (some s) (.line p u) = (some (s.down p.toNat), Ql75.only 0) := by
  refine (if_neg h).trans ?_
  rw [if_pos hu]
theorem spec_line_up {p u : Int} (h : ¬ between p 0 7 = false) (hu : ¬ u = 0) : Ql75.spec (some s) (.line p u) = (some (s.lineUp p.toNat), Ql75.only 0) := by
  refine (if_neg h).trans ?_
  rw [if_neg hu]
theorem spec_take_bad {p : Int} {b : Bytes} {n : Nat} (h : between p 0 7 = false ∨ n < 1 ∨ 1504 < n) : Ql75.spec (some s) (.take p b n) = (some s, Ql75.only (-2)) := if_pos h
theorem spec_take_down {p : Int} {b : Bytes} {n : Nat} (h : ¬ (between p 0 7 = false ∨ n < 1 ∨ 1504 < n)) (hu : s.isUp p.toNat = false) : Ql75.spec (some s) (.take p b n) = (some s, Ql75.only (-1)) := (if_neg h).trans (if_pos hu)
theorem spec_take_none {p : Int} {b : Bytes} {n : Nat} (h : ¬ (between p 0 7 = false ∨ n < 1 ∨ 1504 < n)) (hu : ¬ s.isUp p.toNat = false) (e : s.take p.toNat b = none) : Ql75.spec (some s) (.take p b n) = (some s, Ql75.only (-3)) := by
  refine (if_neg h).trans ((if_neg hu).trans ?_)
  rw [e]
theorem spec_take_some {p : Int} {b : Bytes} {n : Nat} {s' : SS} (h : ¬ (between p 0 7 = false ∨ n < 1 ∨ 1504 < n)) (hu : ¬ s.isUp p.toNat = false) (e : s.take p.toNat b = some s') : Ql75.spec (some s) (.take p b n) = (some s', Ql75.only 0) := by
  refine (if_neg h).trans ((if_neg hu).trans ?_)
  rw [e]
theorem spec_enter_bad {f : Int} {b : Bytes} {n : Nat} (h : between f 0 31 = false ∨ n < 1 ∨ 1500 < n) : Ql75.spec (some s) (.enter f b n) = (some s, Ql75.only (-2)) := if_pos h
theorem spec_enter_ok {f : Int} {b : Bytes} {n : Nat} (h : ¬ (between f 0 31 = false ∨ n < 1 ∨ 1500 < n)) : Ql75.spec (some s) (.enter f b n) = (some (s.onward f.toNat 64 b), Ql75.only 0) := if_neg h
theorem spec_next_bad {p : Int} {n : Nat} (h : between p 0 7 = false ∨ 65536 < n) : Ql75.spec (some s) (.next p n) = (some s, ⟨-2, []⟩) := if_pos h
theorem spec_next_nil {p : Int} {n : Nat} (h : ¬ (between p 0 7 = false ∨ 65536 < n)) (e : s.waiting p.toNat = []) : Ql75.spec (some s) (.next p n) = (some s, ⟨-1, []⟩) := by
  refine (if_neg h).trans ?_
  rw [e]
  rfl
theorem spec_next_long {p : Int} {n : Nat} {b : Bytes} {r : List Bytes} (h : ¬ (between p 0 7 = false ∨ 65536 < n)) (e : s.waiting p.toNat = b :: r) (hl : n < b.length) : Ql75.spec (some s) (.next p n) = (some s, ⟨-5, []⟩) := by
  refine (if_neg h).trans ?_
  rw [e]
  exact if_pos hl
theorem spec_next_ok {p : Int} {n : Nat} {b : Bytes} {r : List Bytes} (h : ¬ (between p 0 7 = false ∨ 65536 < n)) (e : s.waiting p.toNat = b :: r) (hl : ¬ n < b.length) : Ql75.spec (some s) (.next p n) = (some (outS s p.toNat r), ⟨(b.length : Nat), b⟩) := by
  refine (if_neg h).trans ?_
  rw [e]
  exact if_neg hl
theorem spec_gone_bad {n : Nat} (h : 65536 < n) : Ql75.spec (some s) (.gone n) = (some s, ⟨-2, []⟩) := if_pos h
theorem spec_gone_nil {n : Nat} (h : ¬ 65536 < n) (e : s.gone = []) : Ql75.spec (some s) (.gone n) = (some s, ⟨-1, []⟩) := by
  refine (if_neg h).trans ?_
  rw [e]
  rfl
theorem spec_gone_long {n : Nat} {g : Nat × Bytes} {r : List (Nat × Bytes)} (h : ¬ 65536 < n) (e : s.gone = g :: r) (hl : n < g.2.length + 1) : Ql75.spec (some s) (.gone n) = (some s, ⟨-5, []⟩) := by
  refine (if_neg h).trans ?_
  rw [e]
  exact if_pos hl
theorem spec_gone_ok {n : Nat} {g : Nat × Bytes} {r : List (Nat × Bytes)} (h : ¬ 65536 < n) (e : s.gone = g :: r) (hl : ¬ n < g.2.length + 1) : Ql75.spec (some s) (.gone n) = (some { s with gone := r }, ⟨((g.2.length + 1 : Nat) : Int), g.1 :: g.2⟩) := by
  refine (if_neg h).trans ?_
  rw [e]
  exact if_neg hl
def lookZ (s : SS) (w f p : Int) : Int :=
  if w = 0 then actZ s f.toNat else if w = 1 then (match s.label p.toNat f.toNat with
    | some l => (l : Nat)
    | none => -1) else if w = 2 then ((s.waiting p.toNat).length : Nat) else (s.owns.length : Nat)
theorem spec_look_bad {w f p : Int} (h : between w 0 3 = false ∨ between f 0 31 = false ∨ between p 0 7 = false) : Ql75.spec (some s) (.look w f p) = (some s, Ql75.only (-2)) := congrArg (Prod.mk (some s)) (if_pos h)
theorem spec_look_ok {w f p : Int} (h : ¬ (between w 0 3 = false ∨ between f 0 31 = false ∨ between p 0 7 = false)) : Ql75.spec (some s) (.look w f p) = (some s, Ql75.only (lookZ s w f p)) := by
  refine congrArg (Prod.mk (some s)) ((if_neg h).trans ?_)
  unfold lookZ
  by_cases h0 : w = 0
  · rw [if_pos h0, if_pos h0]
    unfold actZ
    cases s.active f.toNat <;> rfl
  · rw [if_neg h0, if_neg h0]
    by_cases h1 : w = 1
    · rw [if_pos h1, if_pos h1]
      cases s.label p.toNat f.toNat <;> rfl
    · rw [if_neg h1, if_neg h1]
      split <;> rfl
/-! ### a frame, by its form -/
theorem take_msg {b : Bytes} (h : isMsg b = true) (p : Nat) : ∃ k f x l : Nat, b = [0, k, f, x, l] ∧ 1 ≤ k ∧ k ≤ 3 ∧ f < 32 ∧ s.take p b = some (takeMsg s p k f (256 * x + l)) := by
  match b, h with
  | [a, k, f, x, l], h =>
    have h : (a == 0 && (decide (1 ≤ k) && decide (k ≤ 3)) && decide (f < 32) && decide (16 ≤ 256 * x + l)) = true := h
    simp only [Bool.and_eq_true, beq_iff_eq, decide_eq_true_eq] at h
    obtain ⟨⟨⟨rfl, h1, h2⟩, h3⟩, h4⟩ := h
    refine ⟨k, f, x, l, rfl, h1, h2, h3, ?_⟩
    show (if Ql75.ENDS ≤ f ∨ 256 * x + l < Ql75.LEAST ∨ k < 1 ∨ 3 < k then none else if k = 1 then some (s.hear p f (some (256 * x + l))) else if k = 2 then some ((if s.label p f = some (256 * x + l) then s.hear p f none else s).say p (Ql75.message 3 f (256 * x + l))) else some _) = _
    rw [if_neg (by show ¬ (32 ≤ f ∨ 256 * x + l < 16 ∨ k < 1 ∨ 3 < k); omega)]
    unfold takeMsg
    by_cases e1 : k = 1
    · rw [if_pos e1, if_pos e1]
    · rw [if_neg e1, if_neg e1]
      by_cases e2 : k = 2
      · rw [if_pos e2, if_pos e2]
      · rw [if_neg e2, if_neg e2]
theorem take_pkt {b : Bytes} (h : isPkt b = true) (p : Nat) : ∃ t x l y r, b = 1 :: t :: x :: l :: y :: r ∧ s.take p b = some (takePkt s (256 * x + l) t (y :: r)) := by
  unfold isPkt at h
  rw [Bool.and_eq_true] at h
  obtain ⟨h1, h2⟩ := h
  have h1 : 4 < b.length := of_decide_eq_true h1
  match b, h1, h2 with
  | a :: t :: x :: l :: y :: r, _, h2 =>
    have e : a = 1 := by simpa using h2
    subst e
    exact ⟨t, x, l, y, r, rfl, rfl⟩
theorem take_none {b : Bytes} (h1 : isMsg b = false) (h2 : isPkt b = false) (p : Nat) : s.take p b = none := by
  unfold Ql75.St.take
  split
  · rename_i k f x l
    have h : (decide (1 ≤ k) && decide (k ≤ 3) && decide (f < 32) && decide (16 ≤ 256 * x + l)) = false := h1
    dsimp only
    refine if_pos ?_
    show 32 ≤ f ∨ 256 * x + l < 16 ∨ k < 1 ∨ 3 < k
    by_cases c : 32 ≤ f ∨ 256 * x + l < 16 ∨ k < 1 ∨ 3 < k
    · exact c
    · rw [decide_eq_true (by omega), decide_eq_true (by omega), decide_eq_true (by omega), decide_eq_true (by omega)] at h
      cases h
  · rename_i t x l r
    cases r with
    | nil => rfl
    | cons y r =>
      have : isPkt (1 :: t :: x :: l :: y :: r) = true := by
        unfold isPkt
        rw [decide_eq_true (by show 4 < r.length + 5; omega)]
        rfl
      rw [this] at h2
      cases h2
  · rfl
end
theorem ways_get {s : SS} (W : Wf s) {f : Nat} (hf : f < 32) : (s.ways.map wV)[f]? = some (wV (s.way f)) := by
  rw [List.getElem?_map]
  have hl : f < s.ways.length := by rw [W.waysL]; exact hf
  rw [List.getElem?_eq_getElem hl]
  show some (wV s.ways[f]) = some (wV (s.ways.getD f none))
  rw [List.getD_eq_getElem?_getD, List.getElem?_eq_getElem hl]
  rfl
theorem LbK.rt {c dx a b d e : Addr} {o : HO} : LbK (.ins c dx (rtF a b d e)) o := fun _ _ _ _ _ _ q => by
  have l1 := List.cons.inj (HO.ins.inj q).2.2
  have : ("ways" : Str) = "number" := congrArg Prod.fst l1.1
  exact absurd this (by decide +kernel)
theorem nat_of {f : Int} {n : Nat} (h : between f 0 n = true) : ∃ m : Nat, f = (m : Int) ∧ m ≤ n := by
  obtain ⟨h1, h2⟩ := between_iff.mp h
  exact ⟨f.toNat, by omega, by omega⟩
theorem one_step' {G : Gm} {H H1 : Hp} {x : Addr} {u o : HO} {S : Ro → Prop} (hx : H x = some u) (gx : S (G x)) (h1 : H1 x = some o) (lk : LbK u o) (k : ∀ b v, H b = some v → b ≠ x → H1 b = some v) : Step S G H G H1 :=
  Step.of (fun b v e n => k b v e (by rintro rfl; exact n gx)) fun b v e => by
    by_cases z : b = x
    · subst z
      rw [hx] at e
      cases e
      exact ⟨o, h1, lk⟩
    · exact ⟨v, k b v e z, LbK.refl v⟩
theorem RtAt.wait' {C : Cs} {G : Gm} {H H1 : Hp} {r : Addr} {A : Ad} {s : SS} {p : Nat} {dx hh ww : Addr} {u : Bool} {vs' : List V} {bs : List Bytes} (R : RtAt C G H r A s) (W : Wf s) (hp : p < 8) (l1 : H (A.ln p) = some (.ins C.ln dx (lnF u hh ww))) (h1 : H1 ww = some (.lst vs'))
    (k : ∀ b v, H b = some v → b ≠ ww → H1 b = some v) (fr : Frs G H vs' bs) : RtAt C G H1 r A (outS s p bs) ∧ Step isMut G H G H1 := by
  obtain ⟨dx', hh', ww', kvs, vs, a1, g1, a2, g2, hk, a3, g3, fr0⟩ := (R.line p hp).ex
  rw [l1] at a1
  cases a1
  have t : Step (inLine p) G H G H1 := one_step' a3 (by rw [g3]; exact rfl) h1 LbK.lst k
  refine ⟨R.onLine t (R.wf.step t) ⟨dx, hh, ww, kvs, vs', ?_, g1, ?_, g2, hk, h1, g3, ?_⟩ rfl rfl rfl (fun q hq => ⟨rfl, rfl, getD_off _ _ _ hq⟩), t.mono inLine_mut⟩
  · exact k _ _ l1 (ne_ro (G := G) (by rw [g1, g3]; intro z; cases z))
  · exact k _ _ a2 (ne_ro (G := G) (by rw [g2, g3]; intro z; cases z))
  · have e : (outS s p bs).waiting p = bs := getD_set_eq _ _ _ _ (by rw [W.outL]; exact hp)
    rw [e]; exact Frs.step t id fr
theorem not_b {b : Bool} (h : (!b) = true) : b = false := by cases b <;> first | rfl | cases h
theorem not_b' {b : Bool} (h : (!b) = false) : b = true := by cases b <;> first | rfl | cases h
theorem map_cast (v : Int) (b : Bytes) : (v :: b.map fun n => ((n : Nat) : Int)).map V.int = V.int v :: b.map nV := by rw [List.map_cons, nV_ints]
end By

namespace By
open PySem PySem.Spec PyProof.Rows L2
open Ql75 (Own Bytes between)
theorem SqN.sq {K : PySem.W.Frag} {G : Gm} {H : Hp} {a : Addr} {xs : List V} (s : SqN K G H a xs) : SqL K H a xs := by
  rcases s with ⟨h, _⟩ | (h | ⟨o, h⟩) | h
  · exact .inl h
  · cases h
  · cases h
  · exact .inr h
theorem SqN.keep {K : PySem.W.Frag} {G G' : Gm} {H H' : Hp} {a : Addr} {xs : List V} (s : SqN K G H a xs) (k : ∀ b o, H b = some o → G b = .non → (∀ c dx fs, o ≠ .ins c dx fs) → H' b = some o ∧ G' b = .non) : SqN K G' H' a xs := by
  rcases s with ⟨h | ⟨o, h⟩, g⟩ | h
  · obtain ⟨h1, h2⟩ := k _ _ h g (fun _ _ _ z => by cases z)
    exact .inl ⟨.inl h1, h2⟩
  · obtain ⟨h1, h2⟩ := k _ _ h g (fun _ _ _ z => by cases z)
    exact .inl ⟨.inr ⟨o, h1⟩, h2⟩
  · exact .inr h
section
variable {K : PySem.W.Frag} {C : Cs} {G G' : Gm} {H H' : Hp} {r p a : Addr} {A A' : Ad} {s s' : SS} {pl pl' : Nat} {ns : List Int}
/-- a number read -/
theorem read_at {dx : Addr} (R : RtAt C G H r A s) (D : RdAt K C G H p a pl ns) (h0 : H p = some (.ins C.rd dx (rdF a pl))) (h1 : H' p = some (.ins C.rd dx (rdF a pl'))) (k : ∀ b o, H b = some o → b ≠ p → H' b = some o) :
    RtAt C G H' r A s ∧ RdAt K C G H' p a pl' ns ∧ Step mutNon G H G H' := by
  have t : Step (fun r => r = .non) G H G H' := one_step' h0 D.obG h1 (LbK.few (by show 2 < 4; decide)) k
  refine ⟨R.step t (fun _ z => z) (R.wf.step t), ⟨⟨dx, h1⟩, D.obG, D.ls.keep fun b o e g n => ⟨k b o e ?_, g⟩⟩, t.mono fun _ z => .inr z⟩
  rintro rfl
  rw [h0] at e
  cases e
  exact n _ _ _ rfl
/-- the reader behind a call of the router -/
theorem RdAt.step (D : RdAt K C G H p a pl ns) (t : Step isMut G H G' H') : RdAt K C G' H' p a pl ns := by
  obtain ⟨dx, h⟩ := D.ob
  exact ⟨⟨dx, t.keep _ _ h (by rw [D.obG]; exact id)⟩, by rw [t.role _ _ h, D.obG], D.ls.keep fun b o e g _ => ⟨t.keep b o e (by rw [g]; exact id), by rw [t.role b o e, g]⟩⟩
/-- a new list answered -/
theorem ans_at {q : Addr} {o : HO} (R : RtAt C G H r A s) (D : RdAt K C G H p a pl ns) (hq : H q = none) : RtAt C G (upd H q o) r A s ∧ RdAt K C G (upd H q o) p a pl ns ∧ Step isMut G H G (upd H q o) ∧ G q = .non := by
  obtain ⟨R1, t1⟩ := R.more (upd_same_keep (o := o) hq)
  exact ⟨R1, D.step t1, t1, R.wf q hq⟩
end
theorem isMut_mutNon : ∀ r, isMut r → mutNon r := fun _ h => .inl h
end By

namespace By
open PySem PySem.Spec PyProof.Rows L2
open Ql75 (Own Bytes between)
theorem PostD.back {K : PySem.W.Frag} {C : Cs} {G : Gm} {H H1 : Hp} {r p a : Addr} {pl : Nat} {ns : List Int} {s' : SS} {ans : List Int} {Q : V → Hp → Prop} (k : PostD K C G H r p a pl ns s' ans Q) (t : Step mutNon G H G H1) (same : ∀ b o, H b = some o → b ≠ p → H1 b = some o) :
    PostD K C G H1 r p a pl ns s' ans Q := fun A' G' H' q R t2 kp D hq hq1 gq => by
  refine k A' G' H' q R (t.trans t2) (fun b o e g n => kp b o (same b o e n) g n) D ?_ hq1 gq
  cases e : H q with
  | none => rfl
  | some o =>
    obtain ⟨o', e', _⟩ := t.live q o e
    rw [hq] at e'
    cases e'
theorem drop_get {ns : List Int} {pl : Nat} {z : Int} {r : List Int} (h : ns.drop pl = z :: r) : ns[pl]? = some z ∧ ns.drop (pl + 1) = r := by
  have hl : pl < ns.length := by
    by_cases c : pl < ns.length
    · exact c
    · rw [List.drop_eq_nil_of_le (by omega)] at h; cases h
  rw [List.drop_eq_getElem_cons hl] at h
  obtain ⟨h1, h2⟩ := List.cons.inj h
  exact ⟨by rw [List.getElem?_eq_getElem hl, h1], h2⟩
end By

namespace By
open PySem PySem.Spec PyProof.Rows L2
open Ql75 (Own Bytes between)

section
variable {P : Program} {w : World} {K : PySem.W.Frag} {mg : Str → Option Value} {base : Heap} {C : Cs}
theorem sc_init_rd : FnScope ["self", "numbers"] ["self", "numbers"] (defScope s_init_rd) := ⟨rfl, rfl, rfl, by decide +kernel, rfl, by decide +kernel, by decide +kernel⟩
theorem ok_init_rd (T : Txt K mg C) (D : IDef K C.rd "Reader.__init__" s_init_rd) : IOk P w K mg base C.rd 1 ["self", "numbers"] (sp_init_rd K C) := by
  obtain ⟨f, fd, M, F⟩ := D
  refine ⟨f, fd, M, F.binds (ps := ["self", "numbers"]) fun _ _ _ _ _ _ us hl => match us, hl with | [_, _], _ => rfl, F.ok sc_init_rd (fun vs H Q E h => ?_) (fun cdv A outer s H vs Q E hr h => ?_)⟩
  · obtain ⟨_, _, rfl, _⟩ := h
    rfl
  obtain ⟨x0, x1, rfl, h⟩ := h
  have hu := hu_of hr
  refine ⟨_, (pss_cons (ps_fld (pv 0) (pv 1) rfl)
      (pss_one (ps_fld (pv 0) pe_int rfl))), ?_⟩
  obtain ⟨p, dx, a, rfl, rfl, hp, k⟩ := h
  refine ⟨_, rfl, _, rfl, p, C.rd, dx, [], rfl, hp, T.cl_rd, T.n_rd_numbers, (by show 0 < 1000; decide), ?_⟩
  refine ⟨_, rfl, p, C.rd, dx, _, rfl, upd_same, T.cl_rd, T.n_rd_place, (by show 1 < 1000; decide), ?_⟩
  exact k _ (ins_eq upd_same rd_new) fun b hb => by rw [upd_ne hb, upd_ne hb]
end
end By

namespace By
open PySem PySem.Spec PyProof.Rows L2
open Ql75 (Own Bytes between)

section
variable {P : Program} {w : World} {K : PySem.W.Frag} {mg : Str → Option Value} {base : Heap} {C : Cs}
theorem sc_has_more : FnScope ["self"] ["self"] (defScope s_has_more) := ⟨rfl, rfl, rfl, by decide +kernel, rfl, by decide +kernel, by decide +kernel⟩
theorem ok_has_more (T : Txt K mg C) (D : MDef K C.rd "has_more" "Reader.has_more" s_has_more) : MOk P w K mg base C.rd "has_more" 1 ["self"] (sp_has_more K C) := by
  obtain ⟨f, fd, M, F⟩ := D
  refine ⟨f, fd, M, F.binds (ps := ["self"]) fun _ _ _ _ _ _ us hl => match us, hl with | [_], _ => rfl, F.ok sc_has_more (fun vs H Q E h => ?_) (fun cdv A outer s H vs Q E hr h => ?_)⟩
  · obtain ⟨_, rfl, _⟩ := h
    rfl
  obtain ⟨x0, rfl, h⟩ := h
  have hu := hu_of hr
  refine ⟨_, (pss_one (ps_ret (pe_cmpR op_lt (pe_fld (pv 0) rfl) (pe_callB call_len_seq (by rfl) T.b_len PySem.boot_len (pa_cons (pe_fld (pv 0) rfl) pa_nil)) (nomark _)))), ?_⟩
  obtain ⟨p, dx, a, pl, ns, rfl, hp, hs, q⟩ := h
  refine ⟨_, rfl, p, C.rd, dx, _, _, rfl, hp, T.cl_rd, T.n_rd_place, rd_place, ?_⟩
  refine ⟨_, rfl, p, C.rd, dx, _, _, rfl, hp, T.cl_rd, T.n_rd_numbers, rd_numbers, a, _, rfl, .inl hs, _, _, rfl, rfl, ?_⟩
  refine qv q ?_
  rw [List.length_map]
  show V.bl (decide ((pl : Int) < ((ns.length : Nat) : Int))) = V.bl (decide (pl < ns.length))
  simp
end
end By

namespace By
open PySem PySem.Spec PyProof.Rows L2
open Ql75 (Own Bytes between)

section
variable {P : Program} {w : World} {K : PySem.W.Frag} {mg : Str → Option Value} {base : Heap} {C : Cs}
theorem sc_read_number : FnScope ["self", "number"] ["self"] (defScope s_read_number) := ⟨rfl, rfl, rfl, by decide +kernel, rfl, by decide +kernel, by decide +kernel⟩
theorem ok_read_number (T : Txt K mg C) (D : MDef K C.rd "read_number" "Reader.read_number" s_read_number) : MOk P w K mg base C.rd "read_number" 1 ["self"] (sp_read_number K C) := by
  obtain ⟨f, fd, M, F⟩ := D
  refine ⟨f, fd, M, F.binds (ps := ["self"]) fun _ _ _ _ _ _ us hl => match us, hl with | [_], _ => rfl, F.ok sc_read_number (fun vs H Q E h => ?_) (fun cdv A outer s H vs Q E hr h => ?_)⟩
  · obtain ⟨_, rfl, _⟩ := h
    rfl
  obtain ⟨x0, rfl, h⟩ := h
  have hu := hu_of hr
  refine ⟨_, (pss_cons (ps_set (i := 1) sc_read_number.nd rfl (Or.inl rfl) (pe_ix ix_list (pe_fld (pv 0) rfl) (pe_fld (pv 0) rfl) (fun _ _ => rfl)))
      (pss_cons (ps_fld (pv 0) (pe_op op_add (pe_fld (pv 0) rfl) pe_int) rfl)
      (pss_one (ps_ret (pv 1))))), ?_⟩
  obtain ⟨p, dx, a, pl, ns, z, rfl, hp, hs, hz, k⟩ := h
  refine ⟨_, rfl, p, C.rd, dx, _, _, rfl, hp, T.cl_rd, T.n_rd_numbers, rd_numbers, _, rfl, p, C.rd, dx, _, _, rfl, hp, T.cl_rd, T.n_rd_place, rd_place, a, _, _, _, rfl, rfl, hs, at_nat (i := pl) (v := V.int z) (by rw [List.getElem?_map, hz]; rfl), ?_⟩
  refine ⟨_, rfl, p, C.rd, dx, _, _, rfl, hp, T.cl_rd, T.n_rd_place, rd_place, _, _, rfl, rfl, _, rfl, p, C.rd, dx, _, rfl, hp, T.cl_rd, T.n_rd_place, (by show 2 < 1000; decide), ?_⟩
  refine ⟨_, rfl, ?_⟩
  exact k _ (ins_eq upd_same (rd_put (m := pl + 1))) fun b hb => upd_ne hb
end
end By

namespace By
open PySem PySem.Spec PyProof.Rows L2
open Ql75 (Own Bytes between)

section
variable {P : Program} {w : World} {K : PySem.W.Frag} {mg : Str → Option Value} {base : Heap} {C : Cs}
theorem sc_read_row : FnScope ["self", "size", "start"] ["self"] (defScope s_read_row) := ⟨rfl, rfl, rfl, by decide +kernel, rfl, by decide +kernel, by decide +kernel⟩
theorem ok_read_row (T : Txt K mg C) (D : MDef K C.rd "read_row" "Reader.read_row" s_read_row) (h_read_number : MOk P w K mg base C.rd "read_number" 1 ["self"] (sp_read_number K C)) : MOk P w K mg base C.rd "read_row" 2 ["self"] (sp_read_row K C) := by
  obtain ⟨f_read_number, fd_read_number, M_read_number, b_read_number, G_read_number⟩ := h_read_number
  obtain ⟨f, fd, M, F⟩ := D
  refine ⟨f, fd, M, F.binds (ps := ["self"]) fun _ _ _ _ _ _ us hl => match us, hl with | [_], _ => rfl, F.ok sc_read_row (fun vs H Q E h => ?_) (fun cdv A outer s H vs Q E hr h => ?_)⟩
  · obtain ⟨_, rfl, _⟩ := h
    rfl
  obtain ⟨x0, rfl, h⟩ := h
  have hu := hu_of hr
  refine ⟨_, (pss_cons (ps_set (i := 1) sc_read_row.nd rfl (Or.inl rfl) (pe_meth0 (pv 0) T.cl_rd M_read_number G_read_number (hr.mono (by decide)) b_read_number .nil pass0))
      (pss_cons (ps_set (i := 2) sc_read_row.nd rfl (Or.inl rfl) (pe_fld (pv 0) rfl))
      (pss_cons (ps_fld (pv 0) (pe_op op_add (pv 2) (pv 1)) rfl)
      (pss_one (ps_ret (pe_slice sl_list (pe_fld (pv 0) rfl) (po_some (pv 2)) (po_some (pe_fld (pv 0) rfl)))))))), ?_⟩
  obtain ⟨p, dx, a, pl, ns, n, rfl, hp, hs, hz, hl, k⟩ := h
  refine ⟨_, rfl, p, dx, _, rfl, hp, rd_no (by decide +kernel), ?_⟩
  refine ⟨_, rfl, p, dx, a, pl, ns, (n : Int), rfl, hp, hs, hz, fun H1 h1 k1 => ?_⟩
  refine ⟨_, rfl, p, C.rd, dx, _, _, rfl, h1, T.cl_rd, T.n_rd_place, rd_place, ?_⟩
  refine ⟨_, rfl, _, rfl, _, _, rfl, rfl, _, rfl, p, C.rd, dx, _, rfl, h1, T.cl_rd, T.n_rd_place, (by show 2 < 1000; decide), ?_⟩
  have e1 : putF "place" (V.int (((pl + 1 : Nat) : Int) + (n : Int))) (rdF a (pl + 1)) = rdF a (pl + 1 + n) := rd_put (m := pl + 1 + n)
  have h2 : (upd H1 p (HO.ins C.rd dx (putF "place" (V.int (((pl + 1 : Nat) : Int) + (n : Int))) (rdF a (pl + 1))))) p = some (.ins C.rd dx (rdF a (pl + 1 + n))) := ins_eq upd_same e1
  have s2 : SqL K (upd H1 p (HO.ins C.rd dx (putF "place" (V.int (((pl + 1 : Nat) : Int) + (n : Int))) (rdF a (pl + 1))))) a (ns.map V.int) := sqL_off hs hp fun b o e nb => by rw [upd_ne nb, k1 b nb]; exact e
  refine ⟨_, rfl, p, C.rd, dx, _, _, rfl, h2, T.cl_rd, T.n_rd_numbers, rd_numbers, ?_⟩
  refine ⟨_, rfl, _, rfl, ?_⟩
  refine ⟨_, rfl, p, C.rd, dx, _, _, rfl, h2, T.cl_rd, T.n_rd_place, rd_place, _, rfl, ?_⟩
  refine ⟨a, _, rfl, s2, fun l hl0 => ?_⟩
  have np : p ≠ l := ne_of_none h2 hl0
  have hl1 : H l = none := by rw [← k1 l np.symm, ← upd_ne (H := H1) (o := HO.ins C.rd dx (putF "place" (V.int (((pl + 1 : Nat) : Int) + (n : Int))) (rdF a (pl + 1)))) np.symm]; exact hl0
  refine k l _ hl1 ?_ ?_ ?_
  · rw [upd_same]
    congr 2
    rw [cut_nat (by rw [List.length_map]; exact hl) (by rw [List.length_map]; omega), ← List.map_drop, ← List.map_take]
    congr 2
    omega
  · rw [upd_ne np]; exact h2
  · intro b hb1 hb2
    rw [upd_ne hb2, upd_ne hb1, k1 b hb1]
end
end By

namespace By
open PySem PySem.Spec PyProof.Rows L2
open Ql75 (Own Bytes between)

section
variable {P : Program} {w : World} {K : PySem.W.Frag} {mg : Str → Option Value} {base : Heap} {C : Cs}
theorem sc_message_frame : FnScope ["what", "end", "number"] ["what", "end", "number"] (defScope s_message_frame) := ⟨rfl, rfl, rfl, by decide +kernel, rfl, by decide +kernel, by decide +kernel⟩
theorem ok_message_frame (T : Txt K mg C) (D : FDef K mg "message_frame" s_message_frame) : FOk P w K mg base "message_frame" 1 ["what", "end", "number"] (sp_message_frame K C) := by
  obtain ⟨f, fd, m, F⟩ := D
  refine ⟨f, fd, m, F.kp, F.binds (ps := ["what", "end", "number"]) fun _ _ _ _ _ _ us hl => match us, hl with | [_, _, _], _ => rfl, F.ok sc_message_frame (fun vs H Q E h => ?_) (fun cdv A outer s H vs Q E hr h => ?_)⟩
  · obtain ⟨_, _, _, rfl, _⟩ := h
    rfl
  obtain ⟨x0, x1, x2, rfl, h⟩ := h
  have hu := hu_of hr
  refine ⟨_, (pss_one (ps_ret (pe_lst (pa_cons (pe_k rfl T.c_MESSAGE) (pa_cons (pv 0) (pa_cons (pv 1) (pa_cons (pe_op op_fdiv (pv 2) pe_int) (pa_cons (pe_op op_mod (pv 2) pe_int) pa_nil)))))))), ?_⟩
  obtain ⟨k, f, n, rfl, rfl, rfl, q⟩ := h
  refine ⟨_, rfl, _, rfl, _, rfl, _, _, rfl, rfl, ⟨by decide, by decide⟩, _, rfl, _, _, rfl, rfl, (by show (0 : Int) < 256; decide), (by show 5 ≤ sizeLine; decide), fun p hp => ?_⟩
  exact q p _ hp upd_same fun b hb => upd_ne hb
end
end By

namespace By
open PySem PySem.Spec PyProof.Rows L2
open Ql75 (Own Bytes between)

section
variable {P : Program} {w : World} {K : PySem.W.Frag} {mg : Str → Option Value} {base : Heap} {C : Cs}
theorem sc_packet_frame : FnScope ["steps", "number", "payload"] ["steps", "number", "payload"] (defScope s_packet_frame) := ⟨rfl, rfl, rfl, by decide +kernel, rfl, by decide +kernel, by decide +kernel⟩
theorem ok_packet_frame (T : Txt K mg C) (D : FDef K mg "packet_frame" s_packet_frame) : FOk P w K mg base "packet_frame" 1 ["steps", "number", "payload"] (sp_packet_frame K C) := by
  obtain ⟨f, fd, m, F⟩ := D
  refine ⟨f, fd, m, F.kp, F.binds (ps := ["steps", "number", "payload"]) fun _ _ _ _ _ _ us hl => match us, hl with | [_, _, _], _ => rfl, F.ok sc_packet_frame (fun vs H Q E h => ?_) (fun cdv A outer s H vs Q E hr h => ?_)⟩
  · obtain ⟨_, _, _, rfl, _⟩ := h
    rfl
  obtain ⟨x0, x1, x2, rfl, h⟩ := h
  have hu := hu_of hr
  refine ⟨_, (pss_one (ps_ret (pe_op op_cat (pe_lst (pa_cons (pe_k rfl T.c_PACKET) (pa_cons (pv 0) (pa_cons (pe_op op_fdiv (pv 1) pe_int) (pa_cons (pe_op op_mod (pv 1) pe_int) pa_nil))))) (pv 2)))), ?_⟩
  obtain ⟨t, n, a, b, rfl, rfl, rfl, ha, hb, q⟩ := h
  refine ⟨_, rfl, _, rfl, _, _, rfl, rfl, ⟨by decide, by decide⟩, _, rfl, _, _, rfl, rfl, (by show (0 : Int) < 256; decide), (by show 4 ≤ sizeLine; decide), fun l hl => ?_⟩
  have na : a ≠ l := ne_of_none ha hl
  refine ⟨_, rfl, l, a, _, _, rfl, rfl, upd_same, (by rw [upd_ne na]; exact ha), ?_, fun p hp => ?_⟩
  · rw [List.length_map, sizeLine_eq]
    show 4 + b.length ≤ 16777216
    omega
  · have npl : p ≠ l := fun e => by rw [e, upd_same] at hp; cases hp
    refine q p _ (by rw [upd_ne npl] at hp; exact hp) ?_ fun c o e => ?_
    · rw [upd_same]; rfl
    · rw [upd_ne (ne_of_none (by rw [upd_ne (ne_of_none e hl)]; exact e) hp), upd_ne (ne_of_none e hl)]; exact e
end
end By

namespace By
open PySem PySem.Spec PyProof.Rows L2
open Ql75 (Own Bytes between)

section
variable {P : Program} {w : World} {K : PySem.W.Frag} {mg : Str → Option Value} {base : Heap} {C : Cs}
theorem sc_message_label : FnScope ["frame"] ["frame"] (defScope s_message_label) := ⟨rfl, rfl, rfl, by decide +kernel, rfl, by decide +kernel, by decide +kernel⟩
theorem ok_message_label (T : Txt K mg C) (D : FDef K mg "message_label" s_message_label) : FOk P w K mg base "message_label" 1 ["frame"] (sp_message_label K C) := by
  obtain ⟨f, fd, m, F⟩ := D
  refine ⟨f, fd, m, F.kp, F.binds (ps := ["frame"]) fun _ _ _ _ _ _ us hl => match us, hl with | [_], _ => rfl, F.ok sc_message_label (fun vs H Q E h => ?_) (fun cdv A outer s H vs Q E hr h => ?_)⟩
  · obtain ⟨_, rfl, _⟩ := h
    rfl
  obtain ⟨x0, rfl, h⟩ := h
  have hu := hu_of hr
  refine ⟨_, (pss_one (ps_ret (pe_op op_add (pe_op op_mul (pe_ix ix_list (pv 0) pe_int (fun _ _ => rfl)) pe_int) (pe_ix ix_list (pv 0) pe_int (fun _ _ => rfl))))), ?_⟩
  obtain ⟨a, b, x, y, rfl, ha, h3, h4, q⟩ := h
  refine ⟨_, rfl, a, _, _, _, rfl, rfl, SqL.of ha, at_nat (i := 3) (get_map h3), _, _, rfl, rfl, .inr ⟨by decide, by decide⟩, _, rfl, a, _, _, _, rfl, rfl, SqL.of ha, at_nat (i := 4) (get_map h4), _, _, rfl, rfl, ?_⟩
  refine qv q ?_
  show V.int ((x : Int) * 256 + (y : Int)) = V.int ((256 * x + y : Nat) : Int)
  congr 1
  omega
end
end By

namespace By
open PySem PySem.Spec PyProof.Rows L2
open Ql75 (Own Bytes between)

section
variable {P : Program} {w : World} {K : PySem.W.Frag} {mg : Str → Option Value} {base : Heap} {C : Cs}
theorem sc_packet_label : FnScope ["frame"] ["frame"] (defScope s_packet_label) := ⟨rfl, rfl, rfl, by decide +kernel, rfl, by decide +kernel, by decide +kernel⟩
theorem ok_packet_label (T : Txt K mg C) (D : FDef K mg "packet_label" s_packet_label) : FOk P w K mg base "packet_label" 1 ["frame"] (sp_packet_label K C) := by
  obtain ⟨f, fd, m, F⟩ := D
  refine ⟨f, fd, m, F.kp, F.binds (ps := ["frame"]) fun _ _ _ _ _ _ us hl => match us, hl with | [_], _ => rfl, F.ok sc_packet_label (fun vs H Q E h => ?_) (fun cdv A outer s H vs Q E hr h => ?_)⟩
  · obtain ⟨_, rfl, _⟩ := h
    rfl
  obtain ⟨x0, rfl, h⟩ := h
  have hu := hu_of hr
  refine ⟨_, (pss_one (ps_ret (pe_op op_add (pe_op op_mul (pe_ix ix_list (pv 0) pe_int (fun _ _ => rfl)) pe_int) (pe_ix ix_list (pv 0) pe_int (fun _ _ => rfl))))), ?_⟩
  obtain ⟨a, b, x, y, rfl, ha, h3, h4, q⟩ := h
  refine ⟨_, rfl, a, _, _, _, rfl, rfl, SqL.of ha, at_nat (i := 2) (get_map h3), _, _, rfl, rfl, .inr ⟨by decide, by decide⟩, _, rfl, a, _, _, _, rfl, rfl, SqL.of ha, at_nat (i := 3) (get_map h4), _, _, rfl, rfl, ?_⟩
  refine qv q ?_
  show V.int ((x : Int) * 256 + (y : Int)) = V.int ((256 * x + y : Nat) : Int)
  congr 1
  omega
end
end By

namespace By
open PySem PySem.Spec PyProof.Rows L2
open Ql75 (Own Bytes between)

section
variable {P : Program} {w : World} {K : PySem.W.Frag} {mg : Str → Option Value} {base : Heap} {C : Cs}
theorem sc_is_message : FnScope ["frame"] ["frame"] (defScope s_is_message) := ⟨rfl, rfl, rfl, by decide +kernel, rfl, by decide +kernel, by decide +kernel⟩
theorem ok_is_message (T : Txt K mg C) (D : FDef K mg "is_message" s_is_message) (h_message_label : FOk P w K mg base "message_label" 1 ["frame"] (sp_message_label K C)) : FOk P w K mg base "is_message" 2 ["frame"] (sp_is_message K C) := by
  obtain ⟨f_message_label, fd_message_label, m_message_label, k_message_label, b_message_label, G_message_label⟩ := h_message_label
  obtain ⟨f, fd, m, F⟩ := D
  refine ⟨f, fd, m, F.kp, F.binds (ps := ["frame"]) fun _ _ _ _ _ _ us hl => match us, hl with | [_], _ => rfl, F.ok sc_is_message (fun vs H Q E h => ?_) (fun cdv A outer s H vs Q E hr h => ?_)⟩
  · obtain ⟨_, rfl, _⟩ := h
    rfl
  obtain ⟨x0, rfl, h⟩ := h
  have hu := hu_of hr
  refine ⟨_, (pss_cons (ps_if (PW.pt (pw_or (pt_cmpR op_ne (pe_callB call_len_seq (by rfl) T.b_len PySem.boot_len (pa_cons (pv 0) pa_nil)) (pe_k rfl T.c_MESSAGE_SIZE) (nomark _)) (pw_or1 (pt_cmpR op_ne (pe_ix ix_list (pv 0) pe_int (fun _ _ => rfl)) (pe_k rfl T.c_MESSAGE) (nomark _))))) (pss_one (ps_ret pe_bl)) pss_nil)
      (pss_one (ps_ret (pe_and (pe_chain op_le op_le (pe_k rfl T.c_GIVEN) (pe_ix ix_list (pv 0) pe_int (fun _ _ => rfl)) (pe_k rfl T.c_LET_GO)) (pe_and (pe_cmpR op_lt (pe_ix ix_list (pv 0) pe_int (fun _ _ => rfl)) (pe_k rfl T.c_ENDS) (nomark _)) (pe_one (pe_cmpR op_ge (pe_call G_message_label (hr.mono (by decide)) rfl m_message_label k_message_label b_message_label .nil pass0 (pa_cons (pv 0) pa_nil)) (pe_k rfl T.c_FIRST_LABEL) (nomark _)))))))), ?_⟩
  obtain ⟨a, b, rfl, ha, q⟩ := h
  refine ⟨_, rfl, a, _, rfl, .inl (SqL.of ha), rfl, _, rfl, ?_⟩
  rw [List.length_map]
  refine ite_b (fun c => ?_) fun c => ?_
  · refine iteT ?_
    refine qv q ?_
    have c : ¬ b.length = 5 := fun e => by
      rw [e] at c
      exact absurd c (by decide)
    show V.bl false = V.bl (isMsg b)
    congr 1
    match b, c with
    | [], _ => rfl
    | [_], _ => rfl
    | [_, _], _ => rfl
    | [_, _, _], _ => rfl
    | [_, _, _, _], _ => rfl
    | [_, _, _, _, _], c => exact absurd rfl c
    | _ :: _ :: _ :: _ :: _ :: _ :: _, _ => rfl
  · have c : b.length = 5 := by
      by_cases e : b.length = 5
      · exact e
      · have e2 : ¬ ((b.length : Nat) : Int) = 5 := by omega
        have e3 : ¬ V.int ((b.length : Nat) : Int) = V.int 5 := fun z => e2 (V.int.inj z)
        rw [decide_eq_false e3] at c
        cases c
    obtain ⟨b0, b1, b2, b3, b4, rfl⟩ : ∃ b0 b1 b2 b3 b4, b = [b0, b1, b2, b3, b4] := by
      match b, c with
      | [b0, b1, b2, b3, b4], _ => exact ⟨b0, b1, b2, b3, b4, rfl⟩
    refine ⟨_, rfl, a, _, _, _, rfl, rfl, SqL.of ha, at_nat (i := 0) (v := nV b0) rfl, rfl, _, rfl, ?_⟩
    refine ite_b (fun c0 => ?_) fun c0 => ?_
    · refine qv q ?_
      have c0 : ¬ b0 = 0 := fun e => by
        subst e
        exact absurd c0 (by decide)
      show V.bl false = V.bl (b0 == 0 && (decide (1 ≤ b1) && decide (b1 ≤ 3)) && decide (b2 < 32) && decide (16 ≤ 256 * b3 + b4))
      rw [beq_false_of_ne c0]
      rfl
    · have c0 : b0 = 0 := by
        by_cases e : b0 = 0
        · exact e
        · have e3 : ¬ nV b0 = V.int 0 := fun z => e (by have := V.int.inj z; omega)
          rw [decide_eq_false e3] at c0
          cases c0
      subst c0
      have goal : ∀ v, v = isMsg [0, b1, b2, b3, b4] → Q (.bl v) H := fun v e => by rw [e]; exact q
      have em : isMsg [0, b1, b2, b3, b4] = ((decide (1 ≤ b1) && decide (b1 ≤ 3)) && decide (b2 < 32) && decide (16 ≤ 256 * b3 + b4)) := by
        show ((0 : Nat) == 0 && (decide (1 ≤ b1) && decide (b1 ≤ 3)) && decide (b2 < 32) && decide (16 ≤ 256 * b3 + b4)) = _
        rfl
      refine ⟨_, rfl, a, _, _, _, rfl, rfl, SqL.of ha, at_nat (i := 1) (v := nV b1) rfl, _, _, rfl, rfl, _, rfl, ?_⟩
      have q2 : ((decide (1 ≤ b1) && decide (b1 ≤ 3)) = true → (decide (b2 < 32) && decide (16 ≤ 256 * b3 + b4)) = isMsg [0, b1, b2, b3, b4]) := fun e => by rw [em, e, Bool.true_and]
      have q3 : ((decide (1 ≤ b1) && decide (b1 ≤ 3)) = false → false = isMsg [0, b1, b2, b3, b4]) := fun e => by rw [em, e]; rfl
      refine ite_b (fun c1 => ?_) fun c1 => ?_
      · have c1 : (1 : Int) ≤ (b1 : Int) := of_decide_eq_true c1
        have d1 : decide (1 ≤ b1) = true := decide_eq_true (by omega)
        rw [d1, Bool.true_and] at q2 q3
        refine ⟨_, _, rfl, rfl, _, rfl, ?_⟩
        have d2 : decide ((b1 : Int) ≤ 3) = decide (b1 ≤ 3) := decide_eq_decide.mpr (by omega)
        refine ite_b (fun c2 => ?_) fun c2 => ?_
        · have c2 : decide ((b1 : Int) ≤ 3) = true := c2
          rw [d2] at c2
          have q2 := q2 c2
          refine ⟨_, rfl, a, _, _, _, rfl, rfl, SqL.of ha, at_nat (i := 2) (v := nV b2) rfl, _, _, rfl, rfl, _, rfl, ?_⟩
          have d3 : decide ((b2 : Int) < 32) = decide (b2 < 32) := decide_eq_decide.mpr (by omega)
          refine ite_b (fun c3 => ?_) fun c3 => ?_
          · have c3 : decide ((b2 : Int) < 32) = true := c3
            rw [d3] at c3
            rw [c3, Bool.true_and] at q2
            refine ⟨_, rfl, _, rfl, a, _, b3, b4, rfl, ha, rfl, rfl, _, _, rfl, rfl, ?_⟩
            refine goal _ (Eq.trans ?_ q2)
            exact decide_eq_decide.mpr (by omega)
          · have c3 : decide ((b2 : Int) < 32) = false := c3
            rw [d3] at c3
            rw [c3, Bool.false_and] at q2
            exact goal _ q2
        · have c2 : decide ((b1 : Int) ≤ 3) = false := c2
          rw [d2] at c2
          exact goal _ (q3 c2)
      · have c1 : ¬ (1 : Int) ≤ (b1 : Int) := of_decide_eq_false c1
        have d1 : decide (1 ≤ b1) = false := decide_eq_false (by omega)
        rw [d1, Bool.false_and] at q3
        exact ⟨false, rfl, iteF (goal _ (q3 rfl))⟩
end
end By

namespace By
open PySem PySem.Spec PyProof.Rows L2
open Ql75 (Own Bytes between)

section
variable {P : Program} {w : World} {K : PySem.W.Frag} {mg : Str → Option Value} {base : Heap} {C : Cs}
theorem sc_is_packet : FnScope ["frame"] ["frame"] (defScope s_is_packet) := ⟨rfl, rfl, rfl, by decide +kernel, rfl, by decide +kernel, by decide +kernel⟩
theorem ok_is_packet (T : Txt K mg C) (D : FDef K mg "is_packet" s_is_packet) : FOk P w K mg base "is_packet" 1 ["frame"] (sp_is_packet K C) := by
  obtain ⟨f, fd, m, F⟩ := D
  refine ⟨f, fd, m, F.kp, F.binds (ps := ["frame"]) fun _ _ _ _ _ _ us hl => match us, hl with | [_], _ => rfl, F.ok sc_is_packet (fun vs H Q E h => ?_) (fun cdv A outer s H vs Q E hr h => ?_)⟩
  · obtain ⟨_, rfl, _⟩ := h
    rfl
  obtain ⟨x0, rfl, h⟩ := h
  have hu := hu_of hr
  refine ⟨_, (pss_one (ps_ret (pe_and (pe_cmpR op_gt (pe_callB call_len_seq (by rfl) T.b_len PySem.boot_len (pa_cons (pv 0) pa_nil)) (pe_k rfl T.c_PACKET_HEAD) (nomark _)) (pe_one (pe_cmpR op_eq (pe_ix ix_list (pv 0) pe_int (fun _ _ => rfl)) (pe_k rfl T.c_PACKET) (nomark _)))))), ?_⟩
  obtain ⟨a, b, rfl, ha, q⟩ := h
  refine ⟨_, rfl, a, _, rfl, .inl (SqL.of ha), _, _, rfl, rfl, _, rfl, ?_⟩
  rw [List.length_map]
  refine ite_b (fun c => ?_) fun c => ?_
  · have c : (4 : Int) < ((b.length : Nat) : Int) := of_decide_eq_true c
    obtain ⟨x, r, rfl⟩ : ∃ x r, b = x :: r := by
      cases b with
      | nil => exact absurd c (by decide)
      | cons x r => exact ⟨x, r, rfl⟩
    refine ⟨_, rfl, a, _, _, _, rfl, rfl, SqL.of ha, at_nat (i := 0) (v := nV x) rfl, rfl, ?_⟩
    refine qv q ?_
    show V.bl (decide (V.int (x : Int) = V.int 1)) = V.bl (decide (4 < (x :: r).length) && some x == some 1)
    congr 1
    have c2 : 4 < (x :: r).length := by omega
    rw [decide_eq_true c2, Bool.true_and, dec_int]
    by_cases e : x = 1
    · subst e; rfl
    · have e2 : ¬ ((x : Int) = 1) := by omega
      rw [beq_false_of_ne e2]
      exact (beq_false_of_ne (fun z => e (Option.some.inj z))).symm
  · have c : ¬ (4 : Int) < ((b.length : Nat) : Int) := of_decide_eq_false c
    refine qv q ?_
    unfold isPkt
    rw [decide_eq_false (by omega : ¬ 4 < b.length)]
    rfl
end
end By

namespace By
open PySem PySem.Spec PyProof.Rows L2
open Ql75 (Own Bytes between)

section
variable {P : Program} {w : World} {K : PySem.W.Frag} {mg : Str → Option Value} {base : Heap} {C : Cs}
theorem sc_init_lb : FnScope ["self", "number", "end"] ["self", "number", "end"] (defScope s_init_lb) := ⟨rfl, rfl, rfl, by decide +kernel, rfl, by decide +kernel, by decide +kernel⟩
theorem ok_init_lb (T : Txt K mg C) (D : IDef K C.lb "Label.__init__" s_init_lb) : IOk P w K mg base C.lb 1 ["self", "number", "end"] (sp_init_lb K C) := by
  obtain ⟨f, fd, M, F⟩ := D
  refine ⟨f, fd, M, F.binds (ps := ["self", "number", "end"]) fun _ _ _ _ _ _ us hl => match us, hl with | [_, _, _], _ => rfl, F.ok sc_init_lb (fun vs H Q E h => ?_) (fun cdv A outer s H vs Q E hr h => ?_)⟩
  · obtain ⟨_, _, _, rfl, _⟩ := h
    rfl
  obtain ⟨x0, x1, x2, rfl, h⟩ := h
  have hu := hu_of hr
  refine ⟨_, (pss_cons (ps_fld (pv 0) (pv 1) rfl)
      (pss_cons (ps_fld (pv 0) (pv 2) rfl)
      (pss_cons (ps_fld (pv 0) pe_bl rfl)
      (pss_one (ps_fld (pv 0) (pe_lst pa_nil) rfl))))), ?_⟩
  obtain ⟨p, dx, n, f, rfl, rfl, rfl, hp, k⟩ := h
  refine ⟨_, rfl, _, rfl, p, C.lb, dx, [], rfl, hp, T.cl_lb, T.n_lb_number, (by show 0 < 1000; decide), ?_⟩
  refine ⟨_, rfl, _, rfl, p, C.lb, dx, _, rfl, upd_same, T.cl_lb, T.n_lb_end, (by show 1 < 1000; decide), ?_⟩
  refine ⟨_, rfl, p, C.lb, dx, _, rfl, upd_same, T.cl_lb, T.n_lb_active, (Nat.lt_of_le_of_lt (putF_le (putF_le (Nat.le_refl 0))) (by decide)), ?_⟩
  refine ⟨(by show 0 ≤ sizeLine; decide), fun l hl => ?_⟩
  have np : p ≠ l := ne_of_none upd_same hl
  refine ⟨_, rfl, p, C.lb, dx, _, rfl, (by rw [upd_ne np]; exact upd_same), T.cl_lb, T.n_lb_holders, (Nat.lt_of_le_of_lt (putF_le (putF_le (putF_le (Nat.le_refl 0)))) (by decide)), ?_⟩
  have hl1 : H l = none := by rw [upd_ne np.symm, upd_ne np.symm, upd_ne np.symm] at hl; exact hl
  refine k l _ hl1 (ins_eq upd_same lb_new) (by rw [upd_ne np.symm, upd_same]) fun b h1 h2 => ?_
  rw [upd_ne h1, upd_ne h2, upd_ne h1, upd_ne h1, upd_ne h1]
end
end By

namespace By
open PySem PySem.Spec PyProof.Rows L2
open Ql75 (Own Bytes between)

section
variable {P : Program} {w : World} {K : PySem.W.Frag} {mg : Str → Option Value} {base : Heap} {C : Cs}
theorem sc_init_bk : FnScope ["self"] ["self"] (defScope s_init_bk) := ⟨rfl, rfl, rfl, by decide +kernel, rfl, by decide +kernel, by decide +kernel⟩
theorem ok_init_bk (T : Txt K mg C) (D : IDef K C.bk "LabelBook.__init__" s_init_bk) : IOk P w K mg base C.bk 1 ["self"] (sp_init_bk K C) := by
  obtain ⟨f, fd, M, F⟩ := D
  refine ⟨f, fd, M, F.binds (ps := ["self"]) fun _ _ _ _ _ _ us hl => match us, hl with | [_], _ => rfl, F.ok sc_init_bk (fun vs H Q E h => ?_) (fun cdv A outer s H vs Q E hr h => ?_)⟩
  · obtain ⟨_, rfl, _⟩ := h
    rfl
  obtain ⟨x0, rfl, h⟩ := h
  have hu := hu_of hr
  refine ⟨_, (pss_one (ps_fld (pv 0) pe_dnewK rfl)), ?_⟩
  obtain ⟨p, dx, rfl, hp, k⟩ := h
  intro d hd
  have np : p ≠ d := ne_of_none hp hd
  refine ⟨_, rfl, p, C.bk, dx, [], rfl, (by rw [upd_ne np]; exact hp), T.cl_bk, T.n_bk_given, (by show 0 < 1000; decide), ?_⟩
  exact k d _ hd upd_same (by rw [upd_ne np.symm, upd_same]) fun b h1 h2 => by rw [upd_ne h1, upd_ne h2]
end
end By

namespace By
open PySem PySem.Spec PyProof.Rows L2
open Ql75 (Own Bytes between)

section
variable {P : Program} {w : World} {K : PySem.W.Frag} {mg : Str → Option Value} {base : Heap} {C : Cs}
theorem sc_least_free : FnScope ["self", "number"] ["self"] (defScope s_least_free) := ⟨rfl, rfl, rfl, by decide +kernel, rfl, by decide +kernel, by decide +kernel⟩
theorem ok_least_free (T : Txt K mg C) (D : MDef K C.bk "least_free" "LabelBook.least_free" s_least_free) : MOk P w K mg base C.bk "least_free" 1 ["self"] (sp_least_free K C) := by
  obtain ⟨f, fd, M, F⟩ := D
  refine ⟨f, fd, M, F.binds (ps := ["self"]) fun _ _ _ _ _ _ us hl => match us, hl with | [_], _ => rfl, F.ok sc_least_free (fun vs H Q E h => ?_) (fun cdv A outer s H vs Q E hr h => ?_)⟩
  · obtain ⟨_, rfl, _⟩ := h
    rfl
  obtain ⟨x0, rfl, h⟩ := h
  have hu := hu_of hr
  refine ⟨_, (pss_cons (ps_for PassesOwn.never rfl (pi_range2 rfl T.b_range (pa_cons (pe_k rfl T.c_FIRST_LABEL) (pa_cons (pe_op op_add (pe_k rfl T.c_LAST_LABEL) pe_int) pa_nil))) (pg_name (i := 1) sc_least_free.nd rfl (Or.inl rfl)) (pss_one (ps_if (pt_cmp (pc_dnotin hu (pv 1) (pe_fld (pv 0) rfl))) (pss_one (ps_ret (pv 1))) pss_nil)))
      (pss_one (ps_ret pe_non))), ?_⟩
  obtain ⟨G, A, l, rfl, B, q⟩ := h
  obtain ⟨dx, hb⟩ := B.bk
  refine ⟨_, _, rfl, rfl, _, _, rfl, ⟨by decide, by decide, by decide, by decide⟩, for_it (L2.walk_range (lo := 16) (n := 1024)) (fun i σ H' => (∃ v : Option V, σ = [some (.ref A.bk), v]) ∧ H' = H ∧ ∀ j, j < i → ∃ o ∈ l, o.label = 16 + j) ⟨⟨none, rfl⟩, rfl, fun j hj => absurd hj (Nat.not_lt_zero j)⟩ (fun _ _ _ _ _ => trivial) ?_ ?_⟩
  · rintro i x σ H1 H2 hi ⟨⟨v, rfl⟩, rfl, hj⟩ ⟨rfl, rfl⟩
    refine ⟨_, rfl, _, rfl, A.bk, C.bk, dx, _, _, rfl, hb, T.cl_bk, T.n_bk_given, bk_given, A.dc, _, rfl, DGet.k (k := Sum.inl ((16 : Int) + (i : Int))) B.dc, _, rfl, ?_⟩
    have ev : valV (l.map (kvO A)) (Sum.inl ((16 : Int) + (i : Int)) : Key) = (l.find? fun o => o.label == 16 + i).map fun o => V.ref (A.lb o.label) := valV_owns A (16 + i) l
    rw [ev]
    cases e : l.find? fun o => o.label == 16 + i with
    | none =>
      refine iteT ?_
      refine ⟨_, rfl, ?_⟩
      refine qv q ?_
      have hn : ∀ o ∈ l, o.label ≠ 16 + i := fun o ho z => by
        have := List.find?_eq_none.mp e o ho
        simp [z] at this
      rw [free_eq, free_some (s := setO l Ql75.begun) hi hj hn]
      rfl
    | some o =>
      refine iteF ?_
      refine ⟨⟨_, rfl⟩, rfl, fun j hj2 => ?_⟩
      by_cases z : j < i
      · exact hj j z
      · have : j = i := by omega
        subst this
        exact ⟨o, List.mem_of_find?_eq_some e, by simpa using List.find?_some e⟩
  · rintro σ H1 ⟨⟨v, rfl⟩, rfl, hj⟩
    refine qv q ?_
    rw [free_eq, free_none (s := setO l Ql75.begun) hj]
    rfl
end
end By

namespace By
open PySem PySem.Spec PyProof.Rows L2
open Ql75 (Own Bytes between)

section
variable {P : Program} {w : World} {K : PySem.W.Frag} {mg : Str → Option Value} {base : Heap} {C : Cs}
theorem sc_make : FnScope ["self", "number", "end", "label"] ["self", "number", "end"] (defScope s_make) := ⟨rfl, rfl, rfl, by decide +kernel, rfl, by decide +kernel, by decide +kernel⟩
theorem ok_make (T : Txt K mg C) (D : MDef K C.bk "make" "LabelBook.make" s_make) (h_init_lb : IOk P w K mg base C.lb 1 ["self", "number", "end"] (sp_init_lb K C)) : MOk P w K mg base C.bk "make" 3 ["self", "number", "end"] (sp_make K C) := by
  obtain ⟨f_init_lb, fd_init_lb, M_init_lb, b_init_lb, G_init_lb⟩ := h_init_lb
  obtain ⟨f, fd, M, F⟩ := D
  refine ⟨f, fd, M, F.binds (ps := ["self", "number", "end"]) fun _ _ _ _ _ _ us hl => match us, hl with | [_, _, _], _ => rfl, F.ok sc_make (fun vs H Q E h => ?_) (fun cdv A outer s H vs Q E hr h => ?_)⟩
  · obtain ⟨_, _, _, rfl, _⟩ := h
    rfl
  obtain ⟨x0, x1, x2, rfl, h⟩ := h
  have hu := hu_of hr
  refine ⟨_, (pss_cons (ps_set (i := 3) sc_make.nd rfl (Or.inl rfl) (pe_make M_init_lb G_init_lb (hr.mono (by decide)) rfl T.g_Label b_init_lb .nil pass0 (pa_cons (pv 1) (pa_cons (pv 2) pa_nil))))
      (pss_cons (ps_dput hu (pe_fld (pv 0) rfl) (pv 1) (pv 3) rfl)
      (pss_one (ps_ret (pv 3))))), ?_⟩
  obtain ⟨G, A, l, n, f, rfl, rfl, rfl, B, W, hn, hl, k⟩ := h
  obtain ⟨dx, hb⟩ := B.bk
  refine ⟨_, rfl, _, rfl, ?_⟩
  intro a da na nda ne
  refine ⟨_, _, _, rfl, a, da, n, f, rfl, rfl, rfl, upd_same, fun h H1 hh h1 h2 k1 => ⟨rfl, ?_⟩⟩
  have nha : h ≠ a := fun z => by rw [z, upd_same] at hh; cases hh
  have nhd : h ≠ da := fun z => by rw [upd_ne nha, z, upd_same] at hh; cases hh
  have hh0 : H h = none := by rw [upd_ne nha, upd_ne nhd] at hh; exact hh
  have s1 : ∀ b o, H b = some o → H1 b = some o := fun b o e => by
    rw [k1 b (ne_of_none e na) (ne_of_none e hh0), upd_ne (ne_of_none e na), upd_ne (ne_of_none e nda)]
    exact e
  refine ⟨_, rfl, _, rfl, A.bk, C.bk, dx, _, _, rfl, s1 _ _ hb, T.cl_bk, T.n_bk_given, bk_given, _, rfl, A.dc, _, rfl, DPut.k (k := Sum.inl (n : Int)) (s1 _ _ B.dc) (sz (by rw [List.length_map]; omega)), _, rfl, ?_⟩
  have fr : ∀ b, G b ≠ .non → b ≠ a ∧ b ≠ h := fun b z => ⟨fun e => z (by rw [e]; exact W a na), fun e => z (by rw [e]; exact W h hh0)⟩
  have nad : a ≠ A.dc := (fr A.dc (by rw [B.dcG]; intro z; cases z)).1.symm
  have nhd2 : h ≠ A.dc := (fr A.dc (by rw [B.dcG]; intro z; cases z)).2.symm
  have t : Step inBook G H (setG (setG G a (.lab n)) h (.hold n)) (upd H1 A.dc (.dK (putK (l.map (kvO A)) (Sum.inl (n : Int)) (V.ref a)))) := by
    refine ⟨fun b o e => ?_, fun b o e z => ?_, fun b o e => ?_⟩
    · rw [setG_ne (ne_of_none e hh0), setG_ne (ne_of_none e na)]
    · rw [upd_ne (fun y => z (by rw [y, B.dcG]; trivial))]
      exact s1 b o e
    · by_cases z : b = A.dc
      · rw [z] at e ⊢
        rw [B.dc] at e
        cases e
        exact ⟨_, upd_same, LbK.dK⟩
      · exact ⟨o, by rw [upd_ne z]; exact s1 b o e, LbK.refl o⟩
  have wf : WF (setG (setG G a (.lab n)) h (.hold n)) (upd H1 A.dc (.dK (putK (l.map (kvO A)) (Sum.inl (n : Int)) (V.ref a)))) := fun b hb2 => by
    have z1 : b ≠ A.dc := fun z => by rw [z, upd_same] at hb2; cases hb2
    rw [upd_ne z1] at hb2
    have z2 : b ≠ a := fun z => by rw [z, h1] at hb2; cases hb2
    have z3 : b ≠ h := fun z => by rw [z, h2] at hb2; cases hb2
    rw [setG_ne z3, setG_ne z2]
    refine W b ?_
    cases e : H b with
    | none => rfl
    | some o => rw [s1 b o e] at hb2; cases hb2
  have vn : valV (l.map (kvO A)) (Sum.inl (n : Int) : Key) = none := by
    rw [valV_owns]
    have : (l.find? fun o => o.label == n) = none := List.find?_eq_none.mpr fun o ho => by simpa using hn o ho
    rw [this]; rfl
  refine k a _ _ ⟨⟨dx, ?_⟩, ?_, ?_, ?_, ?_, by rw [List.length_append]; exact hl, fun o ho => ?_⟩ t wf
  · exact t.keep _ _ hb (by rw [B.bkG]; exact id)
  · show setG (setG G a (.lab n)) h (.hold n) A.bk = .book
    rw [t.role _ _ hb, B.bkG]
  · show upd H1 A.dc (.dK (putK (l.map (kvO A)) (Sum.inl (n : Int)) (V.ref a))) A.dc = _
    rw [upd_same, putK_new _ vn, List.map_append]
    congr 2
    have e1 : l.map (kvO { A with lb := setL A.lb n a }) = l.map (kvO A) := List.map_congr_left fun o ho => by
      show ((Sum.inl (o.label : Int) : Key), V.ref (setL A.lb n a o.label)) = _
      unfold setL
      rw [if_neg (hn o ho)]
      rfl
    rw [e1]
    congr 1
    show [((Sum.inl (n : Int) : Key), V.ref a)] = [((Sum.inl (n : Int) : Key), V.ref (setL A.lb n a n))]
    unfold setL
    rw [if_pos rfl]
  · show setG (setG G a (.lab n)) h (.hold n) A.dc = .dct
    rw [t.role _ _ B.dc, B.dcG]
  · rw [List.map_append]
    refine List.nodup_append.mpr ⟨B.nd, by simp, fun x hx y hy => ?_⟩
    obtain ⟨o, ho, rfl⟩ := List.mem_map.mp hx
    have hy : y = n := List.mem_singleton.mp hy
    rw [hy]
    exact hn o ho
  · rcases List.mem_append.mp ho with z | z
    · show LabAt C _ _ (setL A.lb n a o.label) o
      unfold setL
      rw [if_neg (hn o z)]
      obtain ⟨dl, hx, e1, g1, e2, g2⟩ := (B.lab o z).ex
      have e3 : A.lb o.label ≠ A.dc := ne_ro (G := G) (by rw [g1, B.dcG]; intro y; cases y)
      have e4 : hx ≠ A.dc := ne_ro (G := G) (by rw [g2, B.dcG]; intro y; cases y)
      exact ⟨dl, hx, by rw [upd_ne e3]; exact s1 _ _ e1, by rw [t.role _ _ e1, g1], by rw [upd_ne e4]; exact s1 _ _ e2, by rw [t.role _ _ e2, g2]⟩
    · have z : o = ⟨n, f, true, []⟩ := List.mem_singleton.mp z
      subst z
      show LabAt C _ _ (setL A.lb n a n) _
      unfold setL
      rw [if_pos rfl]
      exact ⟨da, h, by rw [upd_ne nad]; exact h1, by rw [setG_ne nha.symm, setG_same], by rw [upd_ne nhd2]; exact h2, setG_same⟩
end
end By

namespace By
open PySem PySem.Spec PyProof.Rows L2
open Ql75 (Own Bytes between)

section
variable {P : Program} {w : World} {K : PySem.W.Frag} {mg : Str → Option Value} {base : Heap} {C : Cs}
theorem sc_label_at : FnScope ["self", "number"] ["self", "number"] (defScope s_label_at) := ⟨rfl, rfl, rfl, by decide +kernel, rfl, by decide +kernel, by decide +kernel⟩
theorem ok_label_at (T : Txt K mg C) (D : MDef K C.bk "label_at" "LabelBook.label_at" s_label_at) : MOk P w K mg base C.bk "label_at" 1 ["self", "number"] (sp_label_at K C) := by
  obtain ⟨f, fd, M, F⟩ := D
  refine ⟨f, fd, M, F.binds (ps := ["self", "number"]) fun _ _ _ _ _ _ us hl => match us, hl with | [_, _], _ => rfl, F.ok sc_label_at (fun vs H Q E h => ?_) (fun cdv A outer s H vs Q E hr h => ?_)⟩
  · obtain ⟨_, _, rfl, _⟩ := h
    rfl
  obtain ⟨x0, x1, rfl, h⟩ := h
  have hu := hu_of hr
  refine ⟨_, (pss_one (ps_ret (pe_dget1 hu (pe_fld (pv 0) rfl) (pv 1) (M1.mk (by rfl) (by rfl) (by rfl) (by rfl))))), ?_⟩
  obtain ⟨G, A, l, n, rfl, rfl, B, q⟩ := h
  obtain ⟨dx, hb⟩ := B.bk
  refine ⟨_, rfl, A.bk, C.bk, dx, _, _, rfl, hb, T.cl_bk, T.n_bk_given, bk_given, A.dc, rfl, .inl ⟨_, .inl B.dc⟩, _, rfl, _, DGet.k (k := Sum.inl (n : Int)) B.dc, ?_⟩
  refine qv q ?_
  rw [valV_owns]
  cases l.find? fun o => o.label == n <;> rfl
end
end By

namespace By
open PySem PySem.Spec PyProof.Rows L2
open Ql75 (Own Bytes between)

section
variable {P : Program} {w : World} {K : PySem.W.Frag} {mg : Str → Option Value} {base : Heap} {C : Cs}
theorem sc_all_active : FnScope ["self", "label"] ["self"] (defScope s_all_active) := ⟨rfl, rfl, rfl, by decide +kernel, rfl, by decide +kernel, by decide +kernel⟩
theorem ok_all_active (T : Txt K mg C) (D : MDef K C.bk "all_active" "LabelBook.all_active" s_all_active) : MOk P w K mg base C.bk "all_active" 1 ["self"] (sp_all_active K C) := by
  obtain ⟨f, fd, M, F⟩ := D
  refine ⟨f, fd, M, F.binds (ps := ["self"]) fun _ _ _ _ _ _ us hl => match us, hl with | [_], _ => rfl, F.ok sc_all_active (fun vs H Q E h => ?_) (fun cdv A outer s H vs Q E hr h => ?_)⟩
  · obtain ⟨_, rfl, _⟩ := h
    rfl
  obtain ⟨x0, rfl, h⟩ := h
  have hu := hu_of hr
  refine ⟨_, (pss_one (ps_ret (pe_lock (pe_lc (tt := tTest (tFld K (tVar 1) "active")) (own := [("label", 1)]) (g := gName 1) (by rfl) sc_all_active.nd (pi_values (pe_fld (pv 0) rfl)) (blkOk_by (N := ["self", "label"]) (sc := defScope s_all_active) (by decide +kernel)) (fun _ _ _ _ _ => pg_name (i := 1) sc_all_active.nd rfl (Or.inl rfl)) (fun _ _ _ _ _ => by exact (pts_one (pt_val (pe_fld (pv 1) rfl)))) (fun _ _ _ _ _ => by exact (pv 1)))))), ?_⟩
  obtain ⟨G, A, l, rfl, B, k⟩ := h
  obtain ⟨dx, hb⟩ := B.bk
  refine ⟨A.dc, _, B.dc, trivial, fun od => ?_⟩
  have nb : A.bk ≠ A.dc := ne_ro (G := G) (by rw [B.bkG, B.dcG]; intro z; cases z)
  refine ⟨_, rfl, A.bk, C.bk, dx, _, _, rfl, (by rw [upd_ne nb]; exact hb), T.cl_bk, T.n_bk_given, bk_given, A.dc, od, _, rfl, upd_same, fun D hD => ?_⟩
  have nD : A.dc ≠ D := ne_of_none upd_same hD
  have hD0 : H D = none := by rw [upd_ne nD.symm] at hD; exact hD
  refine lc_it L2.walk_values (fun i H' => H' D = some (.lst (((l.take i).filter fun o => o.active).map fun o => V.ref (A.lb o.label))) ∧ ∀ b, b ≠ D → H' b = (upd H A.dc (.frz od (.dK (l.map (kvO A))))) b) ⟨upd_same, fun b hb => upd_ne hb⟩ (fun i H' _ z => by rw [z.2 A.dc nD, upd_same]) ?_ ?_
  · rintro i x H1 H2 hi ⟨p1, p2⟩ ⟨rfl, key, hk⟩
    obtain ⟨o, ho, ex⟩ := map_get hk
    have ex : x = V.ref (A.lb o.label) := congrArg Prod.snd ex
    subst ex
    have mo : o ∈ l := List.mem_of_getElem? ho
    obtain ⟨dl, hh, e1, g1, e2, g2⟩ := (B.lab o mo).ex
    have n1 : A.lb o.label ≠ A.dc := ne_ro (G := G) (by rw [g1, B.dcG]; intro y; cases y)
    have n2 : A.lb o.label ≠ D := ne_of_none e1 hD0
    have e3 : H2 (A.lb o.label) = some (.ins C.lb dl (lbF o.label o.for_ o.active hh)) := by rw [p2 _ n2, upd_ne n1]; exact e1
    refine ⟨rfl, _, rfl, _, C.lb, dl, _, _, rfl, e3, T.cl_lb, T.n_lb_active, lb_active, o.active, rfl, ?_⟩
    have hil : i < l.length := (List.getElem?_eq_some_iff.mp ho).1
    refine ite_b (fun c => ?_) fun c => ?_
    · refine ⟨_, rfl, _, p1, sz (by rw [List.length_map]; exact Nat.le_trans (List.length_filter_le _ _) (Nat.le_trans (by rw [List.length_take]; exact Nat.min_le_right _ _) (Nat.le_trans B.few (by decide)))), ?_, fun b hb => by rw [upd_ne hb]; exact p2 b hb⟩
      rw [upd_same, take_snoc ho, List.filter_append, List.map_append, List.filter_cons, if_pos c]
      rfl
    · refine ⟨?_, p2⟩
      rw [take_snoc ho, List.filter_append, List.filter_cons, if_neg (by rw [c]; exact Bool.false_ne_true), List.filter_nil, List.append_nil]
      exact p1
  · rintro H1 ⟨p1, p2⟩
    rw [List.length_map, List.take_length] at p1
    refine ⟨by rw [p2 A.dc nD, upd_same], ?_⟩
    refine k D _ hD0 (by rw [upd_ne nD.symm]; exact p1) fun b hb => ?_
    by_cases z : b = A.dc
    · rw [z, upd_same, B.dc]
    · rw [upd_ne z, p2 b hb, upd_ne z]
end
end By

namespace By
open PySem PySem.Spec PyProof.Rows L2
open Ql75 (Own Bytes between)

section
variable {P : Program} {w : World} {K : PySem.W.Frag} {mg : Str → Option Value} {base : Heap} {C : Cs}
theorem sc_active_for : FnScope ["self", "end", "label"] ["self", "end"] (defScope s_active_for) := ⟨rfl, rfl, rfl, by decide +kernel, rfl, by decide +kernel, by decide +kernel⟩
theorem ok_active_for (T : Txt K mg C) (D : MDef K C.bk "active_for" "LabelBook.active_for" s_active_for) (h_all_active : MOk P w K mg base C.bk "all_active" 1 ["self"] (sp_all_active K C)) : MOk P w K mg base C.bk "active_for" 2 ["self", "end"] (sp_active_for K C) := by
  obtain ⟨f_all_active, fd_all_active, M_all_active, b_all_active, G_all_active⟩ := h_all_active
  obtain ⟨f, fd, M, F⟩ := D
  refine ⟨f, fd, M, F.binds (ps := ["self", "end"]) fun _ _ _ _ _ _ us hl => match us, hl with | [_, _], _ => rfl, F.ok sc_active_for (fun vs H Q E h => ?_) (fun cdv A outer s H vs Q E hr h => ?_)⟩
  · obtain ⟨_, _, rfl, _⟩ := h
    rfl
  obtain ⟨x0, x1, rfl, h⟩ := h
  have hu := hu_of hr
  refine ⟨_, (pss_cons (ps_for PassesOwn.never rfl (pi_list (pe_meth0 (pv 0) T.cl_bk M_all_active G_all_active (hr.mono (by decide)) b_all_active .nil pass0)) (pg_name (i := 2) sc_active_for.nd rfl (Or.inl rfl)) (pss_one (ps_if (pt_cmpR op_eq (pe_fld (pv 2) rfl) (pv 1) (nomark _)) (pss_one (ps_ret (pv 2))) pss_nil)))
      (pss_one (ps_ret pe_non))), ?_⟩
  obtain ⟨G, A, l, f, rfl, rfl, B, k⟩ := h
  obtain ⟨dx, hb⟩ := B.bk
  refine ⟨_, rfl, A.bk, dx, _, rfl, hb, bk_no (by decide +kernel), ?_⟩
  refine ⟨_, rfl, G, A, l, rfl, B, fun p H1 hp hp1 k1 => ?_⟩
  have s1 : ∀ b o, H b = some o → H1 b = some o := fun b o e => by rw [k1 b (ne_of_none e hp)]; exact e
  refine ⟨p, rfl, ⟨_, SqL.of hp1⟩, for_list (K := K) (a := p) (xs := (l.filter fun o => o.active).map fun o => V.ref (A.lb o.label)) (fun i σ H' => (∃ v : Option V, σ = [some (.ref A.bk), some (nV f), v]) ∧ H' = H1 ∧ ∀ o ∈ (l.filter fun o => o.active).take i, (o.for_ == f) = false)
    ⟨⟨none, rfl⟩, rfl, fun o ho => by cases ho⟩ (fun i σ H' _ z => by rw [z.2.1]; exact SqL.of hp1) ?_ ?_⟩
  · rintro i y σ H2 hi ⟨⟨v, rfl⟩, rfl, hj⟩
    obtain ⟨o, ho, rfl⟩ := map_get hi
    have mo : o ∈ l := (List.mem_filter.mp (List.mem_of_getElem? ho)).1
    obtain ⟨dl, hh, e1, g1, e2, g2⟩ := (B.lab o mo).ex
    refine ⟨_, rfl, _, C.lb, dl, _, _, rfl, s1 _ _ e1, T.cl_lb, T.n_lb_end, lb_end, _, rfl, rfl, _, rfl, ?_⟩
    refine ite_b (fun c => ?_) fun c => ?_
    · have c : V.int (o.for_ : Int) = V.int (f : Int) := of_decide_eq_true c
      have e : o.for_ = f := by have := V.int.inj c; omega
      refine ⟨_, rfl, ?_⟩
      refine qv (k _ s1) ?_
      rw [find_act, find_first hj ho (by rw [e]; exact beq_self_eq_true f)]
      rfl
    · have c : ¬ V.int (o.for_ : Int) = V.int (f : Int) := of_decide_eq_false c
      refine ⟨⟨_, rfl⟩, rfl, fun o2 ho2 => ?_⟩
      rw [take_snoc ho] at ho2
      rcases List.mem_append.mp ho2 with z | z
      · exact hj o2 z
      · rw [List.mem_singleton.mp z]
        exact beq_false_of_ne fun z => c (by rw [z])
  · rintro σ H2 ⟨⟨v, rfl⟩, rfl, hj⟩
    refine qv (k _ s1) ?_
    rw [List.length_map, List.take_length] at hj
    have : (l.find? fun o => o.active && o.for_ == f) = none := by
      rw [find_act]
      exact List.find?_eq_none.mpr fun o ho => by rw [hj o ho]; exact Bool.false_ne_true
    rw [this]
    rfl
end
end By

namespace By
open PySem PySem.Spec PyProof.Rows L2
open Ql75 (Own Bytes between)

section
variable {P : Program} {w : World} {K : PySem.W.Frag} {mg : Str → Option Value} {base : Heap} {C : Cs}
theorem sc_free_if_unheld : FnScope ["self", "label"] ["self", "label"] (defScope s_free_if_unheld) := ⟨rfl, rfl, rfl, by decide +kernel, rfl, by decide +kernel, by decide +kernel⟩
theorem ok_free_if_unheld (T : Txt K mg C) (D : MDef K C.bk "free_if_unheld" "LabelBook.free_if_unheld" s_free_if_unheld) : MOk P w K mg base C.bk "free_if_unheld" 1 ["self", "label"] (sp_free_if_unheld K C) := by
  obtain ⟨f, fd, M, F⟩ := D
  refine ⟨f, fd, M, F.binds (ps := ["self", "label"]) fun _ _ _ _ _ _ us hl => match us, hl with | [_, _], _ => rfl, F.ok sc_free_if_unheld (fun vs H Q E h => ?_) (fun cdv A outer s H vs Q E hr h => ?_)⟩
  · obtain ⟨_, _, rfl, _⟩ := h
    rfl
  obtain ⟨x0, x1, rfl, h⟩ := h
  have hu := hu_of hr
  refine ⟨_, (pss_one (ps_if (PW.pt (pw_and (pt_not (pt_val (pe_fld (pv 1) rfl))) (pw_and1 (pt_cmpR op_eq (pe_callB call_len_seq (by rfl) T.b_len PySem.boot_len (pa_cons (pe_fld (pv 1) rfl) pa_nil)) pe_int (nomark _))))) (pss_one (ps_expr (pe_dpop1 (pe_fld (pv 0) rfl) (pe_fld (pv 1) rfl) (M1.mk (by rfl) (by rfl) (by rfl) (by rfl))))) pss_nil)), ?_⟩
  obtain ⟨G, A, l, o, rfl, rfl, B, ho, k⟩ := h
  obtain ⟨dl, hh, e1, g1, e2, g2⟩ := (B.lab o ho).ex
  obtain ⟨dx, hb⟩ := B.bk
  have same : BookAt C G H A l := B
  refine ⟨_, rfl, _, C.lb, dl, _, _, rfl, e1, T.cl_lb, T.n_lb_active, lb_active, _, rfl, ?_⟩
  cases ea : o.active with
  | true =>
    have kp : keep o = true := keep_act o ea
    refine iteF ?_
    refine iteF ?_
    exact k H (by rw [frAt_kept B.nd ho kp]; exact B) (Step.refl _ _ _)
  | false =>
    refine iteT ?_
    refine ⟨_, rfl, _, C.lb, dl, _, _, rfl, e1, T.cl_lb, T.n_lb_holders, lb_holders, hh, _, rfl, .inl (SqL.of e2), rfl, _, rfl, ?_⟩
    rw [List.length_map]
    refine ite_b (fun c => ?_) fun c => ?_
    · have c : ((o.held.length : Nat) : Int) = 0 := V.int.inj (of_decide_eq_true c)
      have hn : o.held = [] := List.eq_nil_of_length_eq_zero (by omega)
      have kp : keep o = false := by unfold keep; rw [ea, hn]; rfl
      refine ⟨_, rfl, A.bk, C.bk, dx, _, _, rfl, hb, T.cl_bk, T.n_bk_given, bk_given, A.dc, rfl, .inl ⟨_, .inl B.dc⟩, ?_⟩
      refine ⟨_, rfl, _, C.lb, dl, _, _, rfl, e1, T.cl_lb, T.n_lb_number, lb_number, _, Sum.inl (o.label : Int), _, B.dc, rfl, (by rw [valV_owns, find_own B.nd ho]; rfl), ?_⟩
      obtain ⟨b1, s1⟩ := B.freed ho kp (H' := upd H A.dc (.dK (dropK (l.map (kvO A)) (Sum.inl (o.label : Int))))) upd_same fun b hb => upd_ne hb
      exact k _ b1 s1
    · have c : ¬ V.int ((o.held.length : Nat) : Int) = V.int 0 := of_decide_eq_false c
      have kp : keep o = true := by
        unfold keep
        rw [ea]
        cases hn : o.held with
        | nil => rw [hn] at c; exact absurd rfl c
        | cons _ _ => rfl
      exact k H (by rw [frAt_kept B.nd ho kp]; exact B) (Step.refl _ _ _)
end
end By

namespace By
open PySem PySem.Spec PyProof.Rows L2
open Ql75 (Own Bytes between)

section
variable {P : Program} {w : World} {K : PySem.W.Frag} {mg : Str → Option Value} {base : Heap} {C : Cs}
theorem sc_take_back : FnScope ["self", "label"] ["self", "label"] (defScope s_take_back) := ⟨rfl, rfl, rfl, by decide +kernel, rfl, by decide +kernel, by decide +kernel⟩
theorem ok_take_back (T : Txt K mg C) (D : MDef K C.bk "take_back" "LabelBook.take_back" s_take_back) (h_free_if_unheld : MOk P w K mg base C.bk "free_if_unheld" 1 ["self", "label"] (sp_free_if_unheld K C)) : MOk P w K mg base C.bk "take_back" 2 ["self", "label"] (sp_take_back K C) := by
  obtain ⟨f_free_if_unheld, fd_free_if_unheld, M_free_if_unheld, b_free_if_unheld, G_free_if_unheld⟩ := h_free_if_unheld
  obtain ⟨f, fd, M, F⟩ := D
  refine ⟨f, fd, M, F.binds (ps := ["self", "label"]) fun _ _ _ _ _ _ us hl => match us, hl with | [_, _], _ => rfl, F.ok sc_take_back (fun vs H Q E h => ?_) (fun cdv A outer s H vs Q E hr h => ?_)⟩
  · obtain ⟨_, _, rfl, _⟩ := h
    rfl
  obtain ⟨x0, x1, rfl, h⟩ := h
  have hu := hu_of hr
  refine ⟨_, (pss_cons (ps_fld (pv 1) pe_bl rfl)
      (pss_one (ps_expr (pe_meth (pv 0) T.cl_bk M_free_if_unheld G_free_if_unheld (hr.mono (by decide)) b_free_if_unheld .nil pass0 (pa_cons (pv 1) pa_nil))))), ?_⟩
  obtain ⟨G, A, l, o, rfl, rfl, B, ho, k⟩ := h
  obtain ⟨dl, hh, e1, g1, e2, g2⟩ := (B.lab o ho).ex
  obtain ⟨dx, hb⟩ := B.bk
  refine ⟨_, rfl, _, C.lb, dl, _, rfl, e1, T.cl_lb, T.n_lb_active, (by show 4 < 1000; decide), ?_⟩
  have f1 : upd H (A.lb o.label) (HO.ins C.lb dl (putF "active" (V.bl false) (lbF o.label o.for_ o.active hh))) (A.lb o.label) = some (.ins C.lb dl (lbF o.label o.for_ false hh)) := ins_eq upd_same lb_put
  have nh : hh ≠ A.lb o.label := ne_ro (G := G) (by rw [g1, g2]; intro z; cases z)
  obtain ⟨B1, s1⟩ := B.label ho (fun x => { x with active := false }) (fun _ => rfl) (H' := upd H (A.lb o.label) (HO.ins C.lb dl (putF "active" (V.bl false) (lbF o.label o.for_ o.active hh))))
    ⟨dl, hh, f1, g1, by rw [upd_ne nh]; exact e2, g2⟩ (fun b u e n1 n2 => by rw [upd_ne (by rintro rfl; exact n1 g1)]; exact e) (one_live e1 f1 LbK.lb fun b hb => upd_ne hb)
  obtain ⟨dx1, hb1⟩ := B1.bk
  refine ⟨_, rfl, A.bk, dx1, _, rfl, hb1, bk_no (by decide +kernel), _, rfl, ?_⟩
  refine ⟨_, _, rfl, G, A, _, { o with active := false }, rfl, rfl, B1, mem_upd' (g := fun x => { x with active := false }) ho rfl, fun H2 B2 s2 => ?_⟩
  exact k H2 B2 (s1.trans s2)
end
end By

namespace By
open PySem PySem.Spec PyProof.Rows L2
open Ql75 (Own Bytes between)

section
variable {P : Program} {w : World} {K : PySem.W.Frag} {mg : Str → Option Value} {base : Heap} {C : Cs}
theorem sc_drop_holder : FnScope ["self", "label", "p"] ["self", "label", "p"] (defScope s_drop_holder) := ⟨rfl, rfl, rfl, by decide +kernel, rfl, by decide +kernel, by decide +kernel⟩
theorem ok_drop_holder (T : Txt K mg C) (D : MDef K C.bk "drop_holder" "LabelBook.drop_holder" s_drop_holder) (h_free_if_unheld : MOk P w K mg base C.bk "free_if_unheld" 1 ["self", "label"] (sp_free_if_unheld K C)) : MOk P w K mg base C.bk "drop_holder" 2 ["self", "label", "p"] (sp_drop_holder K C) := by
  obtain ⟨f_free_if_unheld, fd_free_if_unheld, M_free_if_unheld, b_free_if_unheld, G_free_if_unheld⟩ := h_free_if_unheld
  obtain ⟨f, fd, M, F⟩ := D
  refine ⟨f, fd, M, F.binds (ps := ["self", "label", "p"]) fun _ _ _ _ _ _ us hl => match us, hl with | [_, _, _], _ => rfl, F.ok sc_drop_holder (fun vs H Q E h => ?_) (fun cdv A outer s H vs Q E hr h => ?_)⟩
  · obtain ⟨_, _, _, rfl, _⟩ := h
    rfl
  obtain ⟨x0, x1, x2, rfl, h⟩ := h
  have hu := hu_of hr
  refine ⟨_, (pss_cons (ps_if (pt_cmpR op_in_seq (pv 2) (pe_fld (pv 1) rfl) (by rfl)) (pss_one (ps_expr (pe_bm PySem.F.plainAttrs_list PySem.F.slot_list_remove PySem.F.type_list_remove mt_remove (pe_fld (pv 1) rfl) (pa_cons (pv 2) pa_nil)))) pss_nil)
      (pss_one (ps_expr (pe_meth (pv 0) T.cl_bk M_free_if_unheld G_free_if_unheld (hr.mono (by decide)) b_free_if_unheld .nil pass0 (pa_cons (pv 1) pa_nil))))), ?_⟩
  obtain ⟨G, A, l, o, p, rfl, rfl, rfl, B, ho, nd, k⟩ := h
  obtain ⟨dl, hh, e1, g1, e2, g2⟩ := (B.lab o ho).ex
  obtain ⟨dx, hb⟩ := B.bk
  refine ⟨_, rfl, _, rfl, _, C.lb, dl, _, _, rfl, e1, T.cl_lb, T.n_lb_holders, lb_holders, hh, _, rfl, .inl (SqL.of e2), rfl, flat_nat _, _, rfl, ?_⟩
  have go : ∀ H1 : Hp, BookAt C G H1 A (dropH o.label p l) → Step inBook G H G H1 → tDrop (tMeth C.bk "free_if_unheld" (sp_free_if_unheld K C) [] E0 (tVar 0) (tCons (tVar 1) tNil)) { nx := fun x H' => Q V.non H', rt := Q } (L2.start ["self", "label", "p"] [V.ref A.bk, V.ref (A.lb o.label), nV p]) H1 := fun H1 B1 s1 => by
    obtain ⟨dx1, hb1⟩ := B1.bk
    refine ⟨_, rfl, A.bk, dx1, _, rfl, hb1, bk_no (by decide +kernel), _, rfl, ?_⟩
    refine ⟨_, _, rfl, G, A, _, lessH p o, rfl, rfl, B1, mem_upd' (g := lessH p) ho rfl, fun H2 B2 s2 => ?_⟩
    exact k H2 B2 (s1.trans s2)
  rw [if_neg Bool.false_ne_true, inV_nat]
  refine ite_b (fun c => ?_) fun c => ?_
  · have c : p ∈ o.held := List.contains_iff_mem.mp c
    obtain ⟨j, hj, hm⟩ := mem_first c
    refine ⟨_, rfl, _, C.lb, dl, _, _, rfl, e1, T.cl_lb, T.n_lb_holders, lb_holders, .inl ⟨rfl, _, SqL.of e2⟩, _, rfl, hh, o.held.map fun n => ((n : Nat) : Int), (p : Int), j, rfl, rfl, (by rw [nV_ints]; exact e2), (by rw [List.getElem?_map, hj]; rfl), (fun m hm1 z => ?_), ?_⟩
    · rw [List.getElem?_map] at z
      cases e : o.held[m]? with
      | none => rw [e] at z; cases z
      | some y =>
        rw [e] at z
        have z : (y : Int) = (p : Int) := Option.some.inj z
        exact hm m hm1 (by rw [e]; congr 1; omega)
    · have nh : hh ≠ A.lb o.label := ne_ro (G := G) (by rw [g1, g2]; intro z; cases z)
      have ev : ((o.held.map fun n => ((n : Nat) : Int)).eraseIdx j).map V.int = (o.held.filter fun q => q != p).map nV := by
        rw [← erase_at nd hj, map_erase, map_erase, nV_ints]
      obtain ⟨B1, s1⟩ := B.label ho (lessH p) (fun _ => rfl) (H' := upd H hh (.lst (((o.held.map fun n => ((n : Nat) : Int)).eraseIdx j).map V.int)))
        ⟨dl, hh, by rw [upd_ne nh.symm]; exact e1, g1, by rw [upd_same, ev]; rfl, g2⟩ (fun b u e n1 n2 => by rw [upd_ne (by rintro rfl; exact n2 g2)]; exact e) (one_live e2 upd_same LbK.lst fun b hb => upd_ne hb)
      exact go _ B1 s1
  · have c : p ∉ o.held := fun z => by rw [List.contains_iff_mem.mpr z] at c; cases c
    refine go H ?_ (Step.refl _ _ _)
    have e : dropH o.label p l = l := by
      have : dropH o.label p l = l.map id := List.map_congr_left fun x hx => by
        show (if x.label = o.label then lessH p x else x) = x
        by_cases z : x.label = o.label
        · have : x = o := nd_eq B.nd hx ho z
          subst this
          rw [if_pos rfl]
          unfold lessH
          rw [filter_off c]
        · rw [if_neg z]
      rw [this, List.map_id]
    rw [e]; exact B
end
end By

namespace By
open PySem PySem.Spec PyProof.Rows L2
open Ql75 (Own Bytes between)

section
variable {P : Program} {w : World} {K : PySem.W.Frag} {mg : Str → Option Value} {base : Heap} {C : Cs}
theorem sc_drop_holder_everywhere : FnScope ["self", "p", "label"] ["self", "p"] (defScope s_drop_holder_everywhere) := ⟨rfl, rfl, rfl, by decide +kernel, rfl, by decide +kernel, by decide +kernel⟩
theorem ok_drop_holder_everywhere (T : Txt K mg C) (D : MDef K C.bk "drop_holder_everywhere" "LabelBook.drop_holder_everywhere" s_drop_holder_everywhere) (h_drop_holder : MOk P w K mg base C.bk "drop_holder" 2 ["self", "label", "p"] (sp_drop_holder K C)) : MOk P w K mg base C.bk "drop_holder_everywhere" 3 ["self", "p"] (sp_drop_holder_everywhere K C) := by
  obtain ⟨f_drop_holder, fd_drop_holder, M_drop_holder, b_drop_holder, G_drop_holder⟩ := h_drop_holder
  obtain ⟨f, fd, M, F⟩ := D
  refine ⟨f, fd, M, F.binds (ps := ["self", "p"]) fun _ _ _ _ _ _ us hl => match us, hl with | [_, _], _ => rfl, F.ok sc_drop_holder_everywhere (fun vs H Q E h => ?_) (fun cdv A outer s H vs Q E hr h => ?_)⟩
  · obtain ⟨_, _, rfl, _⟩ := h
    rfl
  obtain ⟨x0, x1, rfl, h⟩ := h
  have hu := hu_of hr
  refine ⟨_, (pss_one (ps_for PassesOwn.never rfl (pi_list (pe_listVals (by rfl) (pe_fld (pv 0) rfl) (by rfl) T.b_list)) (pg_name (i := 2) sc_drop_holder_everywhere.nd rfl (Or.inl rfl)) (pss_one (ps_expr (pe_meth (pv 0) T.cl_bk M_drop_holder G_drop_holder (hr.mono (by decide)) b_drop_holder .nil pass0 (pa_cons (pv 2) (pa_cons (pv 1) pa_nil))))))), ?_⟩
  obtain ⟨G, A, l, p, rfl, rfl, B, W, nd, k⟩ := h
  obtain ⟨dx, hb⟩ := B.bk
  refine ⟨_, rfl, A.bk, C.bk, dx, _, _, rfl, hb, T.cl_bk, T.n_bk_given, bk_given, A.dc, _, rfl, B.dc, fun q hq => ?_⟩
  have s0 : Step inBook G H G (upd H q (.lst ((l.map (kvO A)).map (·.2)))) := Step.same (upd_same_keep hq)
  have B0 : BookAt C G (upd H q (.lst ((l.map (kvO A)).map (·.2)))) A l := B.step (S := noRo) (Step.same (upd_same_keep hq)) id (fun _ _ => id)
  have gq : G q = .non := W q hq
  refine ⟨q, rfl, ⟨_, SqL.of upd_same⟩, for_list (K := K) (a := q) (xs := (l.map (kvO A)).map (·.2)) (fun i σ H' => (∃ v : Option V, σ = [some (.ref A.bk), some (nV p), v]) ∧ BookAt C G H' A (doneH p i l) ∧ Step inBook G (upd H q (.lst ((l.map (kvO A)).map (·.2)))) G H')
    ⟨⟨none, rfl⟩, B0, Step.refl _ _ _⟩ (fun i σ H' _ z => SqL.of (z.2.2.keep q _ upd_same (by rw [gq]; exact id))) ?_ ?_⟩
  · rintro i y σ H2 hi ⟨⟨v, rfl⟩, B2, s2⟩
    rw [List.map_map] at hi
    obtain ⟨o, ho, rfl⟩ := map_get hi
    obtain ⟨dx2, hb2⟩ := B2.bk
    have mo : o ∈ doneH p i l := by
      unfold doneH
      rw [drop_cons ho]
      exact List.mem_append_right _ List.mem_cons_self
    refine ⟨_, rfl, A.bk, dx2, _, rfl, hb2, bk_no (by decide +kernel), _, rfl, _, rfl, ?_⟩
    refine ⟨_, _, _, rfl, G, A, _, o, p, rfl, rfl, rfl, B2, mo, nd o (List.mem_of_getElem? ho), fun H3 B3 s3 => ?_⟩
    rw [doneH_step B.nd ho] at B3
    exact ⟨⟨_, rfl⟩, B3, s2.trans s3⟩
  · rintro σ H2 ⟨⟨v, rfl⟩, B2, s2⟩
    rw [List.length_map, List.length_map, doneH_all] at B2
    exact k H2 B2 (s0.trans s2)
end
end By

namespace By
open PySem PySem.Spec PyProof.Rows L2
open Ql75 (Own Bytes between)

section
variable {P : Program} {w : World} {K : PySem.W.Frag} {mg : Str → Option Value} {base : Heap} {C : Cs}
theorem sc_init_ln : FnScope ["self"] ["self"] (defScope s_init_ln) := ⟨rfl, rfl, rfl, by decide +kernel, rfl, by decide +kernel, by decide +kernel⟩
theorem ok_init_ln (T : Txt K mg C) (D : IDef K C.ln "Line.__init__" s_init_ln) : IOk P w K mg base C.ln 1 ["self"] (sp_init_ln K C) := by
  obtain ⟨f, fd, M, F⟩ := D
  refine ⟨f, fd, M, F.binds (ps := ["self"]) fun _ _ _ _ _ _ us hl => match us, hl with | [_], _ => rfl, F.ok sc_init_ln (fun vs H Q E h => ?_) (fun cdv A outer s H vs Q E hr h => ?_)⟩
  · obtain ⟨_, rfl, _⟩ := h
    rfl
  obtain ⟨x0, rfl, h⟩ := h
  have hu := hu_of hr
  refine ⟨_, (pss_cons (ps_fld (pv 0) pe_bl rfl)
      (pss_cons (ps_fld (pv 0) pe_dnewK rfl)
      (pss_one (ps_fld (pv 0) (pe_lst pa_nil) rfl)))), ?_⟩
  obtain ⟨p, dx, rfl, hp, k⟩ := h
  refine ⟨_, rfl, p, C.ln, dx, [], rfl, hp, T.cl_ln, T.n_ln_up, (by show 0 < 1000; decide), ?_⟩
  intro d hd
  have npd : p ≠ d := ne_of_none upd_same hd
  refine ⟨_, rfl, p, C.ln, dx, _, rfl, (by rw [upd_ne npd]; exact upd_same), T.cl_ln, T.n_ln_heard, (Nat.lt_of_le_of_lt (putF_le (Nat.le_refl 0)) (by decide)), ?_⟩
  refine ⟨(by show 0 ≤ sizeLine; decide), fun l hl => ?_⟩
  have npl : p ≠ l := ne_of_none upd_same hl
  have hl2 := hl
  rw [upd_ne npl.symm] at hl2
  have ndl : d ≠ l := ne_of_none upd_same hl2
  refine ⟨_, rfl, p, C.ln, dx, _, rfl, (by rw [upd_ne npl]; exact upd_same), T.cl_ln, T.n_ln_waiting, (Nat.lt_of_le_of_lt (putF_le (putF_le (Nat.le_refl 0))) (by decide)), ?_⟩
  have hd1 : H d = none := by rw [upd_ne npd.symm] at hd; exact hd
  have hl1 : H l = none := by rw [upd_ne ndl.symm, upd_ne npl.symm] at hl2; exact hl2
  refine k d l _ hd1 hl1 ndl (ins_eq upd_same ln_new) ?_ ?_ fun b h1 h2 h3 => ?_
  · rw [upd_ne npd.symm, upd_ne ndl, upd_ne npd.symm, upd_same]
  · rw [upd_ne npl.symm, upd_same]
  · rw [upd_ne h1, upd_ne h3, upd_ne h1, upd_ne h2, upd_ne h1]
end
end By

namespace By
open PySem PySem.Spec PyProof.Rows L2
open Ql75 (Own Bytes between)

section
variable {P : Program} {w : World} {K : PySem.W.Frag} {mg : Str → Option Value} {base : Heap} {C : Cs}
theorem sc_rise : FnScope ["self"] ["self"] (defScope s_rise) := ⟨rfl, rfl, rfl, by decide +kernel, rfl, by decide +kernel, by decide +kernel⟩
theorem ok_rise (T : Txt K mg C) (D : MDef K C.ln "rise" "Line.rise" s_rise) : MOk P w K mg base C.ln "rise" 1 ["self"] (sp_rise K C) := by
  obtain ⟨f, fd, M, F⟩ := D
  refine ⟨f, fd, M, F.binds (ps := ["self"]) fun _ _ _ _ _ _ us hl => match us, hl with | [_], _ => rfl, F.ok sc_rise (fun vs H Q E h => ?_) (fun cdv A outer s H vs Q E hr h => ?_)⟩
  · obtain ⟨_, rfl, _⟩ := h
    rfl
  obtain ⟨x0, rfl, h⟩ := h
  have hu := hu_of hr
  refine ⟨_, (pss_one (ps_fld (pv 0) pe_bl rfl)), ?_⟩
  obtain ⟨p, dx, u, h, l, rfl, hp, k⟩ := h
  refine ⟨_, rfl, p, C.ln, dx, _, rfl, hp, T.cl_ln, T.n_ln_up, (by show 3 < 1000; decide), ?_⟩
  exact k _ (ins_eq upd_same ln_put_up) fun b hb => upd_ne hb
end
end By

namespace By
open PySem PySem.Spec PyProof.Rows L2
open Ql75 (Own Bytes between)

section
variable {P : Program} {w : World} {K : PySem.W.Frag} {mg : Str → Option Value} {base : Heap} {C : Cs}
theorem sc_fall : FnScope ["self"] ["self"] (defScope s_fall) := ⟨rfl, rfl, rfl, by decide +kernel, rfl, by decide +kernel, by decide +kernel⟩
theorem ok_fall (T : Txt K mg C) (D : MDef K C.ln "fall" "Line.fall" s_fall) : MOk P w K mg base C.ln "fall" 1 ["self"] (sp_fall K C) := by
  obtain ⟨f, fd, M, F⟩ := D
  refine ⟨f, fd, M, F.binds (ps := ["self"]) fun _ _ _ _ _ _ us hl => match us, hl with | [_], _ => rfl, F.ok sc_fall (fun vs H Q E h => ?_) (fun cdv A outer s H vs Q E hr h => ?_)⟩
  · obtain ⟨_, rfl, _⟩ := h
    rfl
  obtain ⟨x0, rfl, h⟩ := h
  have hu := hu_of hr
  refine ⟨_, (pss_cons (ps_fld (pv 0) pe_bl rfl)
      (pss_cons (ps_fld (pv 0) pe_dnewK rfl)
      (pss_one (ps_fld (pv 0) (pe_lst pa_nil) rfl)))), ?_⟩
  obtain ⟨p, dx, u, h0, l0, rfl, hp, k⟩ := h
  refine ⟨_, rfl, p, C.ln, dx, _, rfl, hp, T.cl_ln, T.n_ln_up, (by show 3 < 1000; decide), ?_⟩
  intro d hd
  have npd : p ≠ d := ne_of_none upd_same hd
  refine ⟨_, rfl, p, C.ln, dx, _, rfl, (by rw [upd_ne npd]; exact upd_same), T.cl_ln, T.n_ln_heard, (Nat.lt_of_le_of_lt (putF_le (n := 3) (by show 3 ≤ 3; decide)) (by decide)), ?_⟩
  refine ⟨(by show 0 ≤ sizeLine; decide), fun l hl => ?_⟩
  have npl : p ≠ l := ne_of_none upd_same hl
  have hl2 := hl
  rw [upd_ne npl.symm] at hl2
  have ndl : d ≠ l := ne_of_none upd_same hl2
  refine ⟨_, rfl, p, C.ln, dx, _, rfl, (by rw [upd_ne npl]; exact upd_same), T.cl_ln, T.n_ln_waiting, (Nat.lt_of_le_of_lt (putF_le (putF_le (n := 3) (by show 3 ≤ 3; decide))) (by decide)), ?_⟩
  have hd1 : H d = none := by rw [upd_ne npd.symm] at hd; exact hd
  have hl1 : H l = none := by rw [upd_ne ndl.symm, upd_ne npl.symm] at hl2; exact hl2
  refine k d l _ hd1 hl1 ndl (ins_eq upd_same (by rw [ln_put_up, ln_put_heard, ln_put_waiting])) ?_ ?_ fun b h1 h2 h3 => ?_
  · rw [upd_ne npd.symm, upd_ne ndl, upd_ne npd.symm, upd_same]
  · rw [upd_ne npl.symm, upd_same]
  · rw [upd_ne h1, upd_ne h3, upd_ne h1, upd_ne h2, upd_ne h1]
end
end By

namespace By
open PySem PySem.Spec PyProof.Rows L2
open Ql75 (Own Bytes between)

section
variable {P : Program} {w : World} {K : PySem.W.Frag} {mg : Str → Option Value} {base : Heap} {C : Cs}
theorem sc_is_full : FnScope ["self"] ["self"] (defScope s_is_full) := ⟨rfl, rfl, rfl, by decide +kernel, rfl, by decide +kernel, by decide +kernel⟩
theorem ok_is_full (T : Txt K mg C) (D : MDef K C.ln "is_full" "Line.is_full" s_is_full) : MOk P w K mg base C.ln "is_full" 1 ["self"] (sp_is_full K C) := by
  obtain ⟨f, fd, M, F⟩ := D
  refine ⟨f, fd, M, F.binds (ps := ["self"]) fun _ _ _ _ _ _ us hl => match us, hl with | [_], _ => rfl, F.ok sc_is_full (fun vs H Q E h => ?_) (fun cdv A outer s H vs Q E hr h => ?_)⟩
  · obtain ⟨_, rfl, _⟩ := h
    rfl
  obtain ⟨x0, rfl, h⟩ := h
  have hu := hu_of hr
  refine ⟨_, (pss_one (ps_ret (pe_cmpR op_ge (pe_callB call_len_seq (by rfl) T.b_len PySem.boot_len (pa_cons (pe_fld (pv 0) rfl) pa_nil)) (pe_k rfl T.c_MOST_FRAMES) (nomark _)))), ?_⟩
  obtain ⟨p, dx, u, h, l, vs, rfl, hp, hl, q⟩ := h
  refine ⟨_, rfl, p, C.ln, dx, _, _, rfl, hp, T.cl_ln, T.n_ln_waiting, ln_waiting, l, _, rfl, .inl (SqL.of hl), _, _, rfl, rfl, ?_⟩
  refine qv q ?_
  show V.bl (decide ((256 : Int) ≤ ((vs.length : Nat) : Int))) = V.bl (decide (256 ≤ vs.length))
  congr 1
  exact decide_eq_decide.mpr (by omega)
end
end By

namespace By
open PySem PySem.Spec PyProof.Rows L2
open Ql75 (Own Bytes between)

section
variable {P : Program} {w : World} {K : PySem.W.Frag} {mg : Str → Option Value} {base : Heap} {C : Cs}
theorem sc_has_room_for_packet : FnScope ["self"] ["self"] (defScope s_has_room_for_packet) := ⟨rfl, rfl, rfl, by decide +kernel, rfl, by decide +kernel, by decide +kernel⟩
theorem ok_has_room_for_packet (T : Txt K mg C) (D : MDef K C.ln "has_room_for_packet" "Line.has_room_for_packet" s_has_room_for_packet) : MOk P w K mg base C.ln "has_room_for_packet" 1 ["self"] (sp_has_room_for_packet K C) := by
  obtain ⟨f, fd, M, F⟩ := D
  refine ⟨f, fd, M, F.binds (ps := ["self"]) fun _ _ _ _ _ _ us hl => match us, hl with | [_], _ => rfl, F.ok sc_has_room_for_packet (fun vs H Q E h => ?_) (fun cdv A outer s H vs Q E hr h => ?_)⟩
  · obtain ⟨_, rfl, _⟩ := h
    rfl
  obtain ⟨x0, rfl, h⟩ := h
  have hu := hu_of hr
  refine ⟨_, (pss_one (ps_ret (pe_and (pe_fld (pv 0) rfl) (pe_one (pe_cmpR op_lt (pe_callB call_len_seq (by rfl) T.b_len PySem.boot_len (pa_cons (pe_fld (pv 0) rfl) pa_nil)) (pe_k rfl T.c_MOST_FRAMES_FOR_A_PACKET) (nomark _)))))), ?_⟩
  obtain ⟨p, dx, u, h, l, vs, rfl, hp, hl, q⟩ := h
  refine ⟨_, rfl, p, C.ln, dx, _, _, rfl, hp, T.cl_ln, T.n_ln_up, ln_up, u, rfl, ?_⟩
  cases u
  · exact iteF q
  · refine iteT ?_
    refine ⟨_, rfl, p, C.ln, dx, _, _, rfl, hp, T.cl_ln, T.n_ln_waiting, ln_waiting, l, _, rfl, .inl (SqL.of hl), _, _, rfl, rfl, ?_⟩
    refine qv q ?_
    show V.bl (decide (((vs.length : Nat) : Int) < (128 : Int))) = V.bl (true && decide (vs.length < 128))
    rw [Bool.true_and]
    congr 1
    exact decide_eq_decide.mpr (by omega)
end
end By

namespace By
open PySem PySem.Spec PyProof.Rows L2
open Ql75 (Own Bytes between)

section
variable {P : Program} {w : World} {K : PySem.W.Frag} {mg : Str → Option Value} {base : Heap} {C : Cs}
theorem sc_hear : FnScope ["self", "end", "number"] ["self", "end", "number"] (defScope s_hear) := ⟨rfl, rfl, rfl, by decide +kernel, rfl, by decide +kernel, by decide +kernel⟩
theorem ok_hear (T : Txt K mg C) (D : MDef K C.ln "hear" "Line.hear" s_hear) : MOk P w K mg base C.ln "hear" 1 ["self", "end", "number"] (sp_hear K C) := by
  obtain ⟨f, fd, M, F⟩ := D
  refine ⟨f, fd, M, F.binds (ps := ["self", "end", "number"]) fun _ _ _ _ _ _ us hl => match us, hl with | [_, _, _], _ => rfl, F.ok sc_hear (fun vs H Q E h => ?_) (fun cdv A outer s H vs Q E hr h => ?_)⟩
  · obtain ⟨_, _, _, rfl, _⟩ := h
    rfl
  obtain ⟨x0, x1, x2, rfl, h⟩ := h
  have hu := hu_of hr
  refine ⟨_, (pss_one (ps_dput hu (pe_fld (pv 0) rfl) (pv 1) (pv 2) rfl)), ?_⟩
  obtain ⟨p, dx, u, h, l, kvs, f, n, rfl, rfl, rfl, hp, hh, hl, k⟩ := h
  refine ⟨_, rfl, _, rfl, p, C.ln, dx, _, _, rfl, hp, T.cl_ln, T.n_ln_heard, ln_heard, _, rfl, h, _, rfl, DPut.k (k := Sum.inl (f : Int)) hh (sz (by omega)), ?_⟩
  exact k _ upd_same fun b hb => upd_ne hb
end
end By

namespace By
open PySem PySem.Spec PyProof.Rows L2
open Ql75 (Own Bytes between)

section
variable {P : Program} {w : World} {K : PySem.W.Frag} {mg : Str → Option Value} {base : Heap} {C : Cs}
theorem sc_unhear : FnScope ["self", "end", "number"] ["self", "end", "number"] (defScope s_unhear) := ⟨rfl, rfl, rfl, by decide +kernel, rfl, by decide +kernel, by decide +kernel⟩
theorem ok_unhear (T : Txt K mg C) (D : MDef K C.ln "unhear" "Line.unhear" s_unhear) : MOk P w K mg base C.ln "unhear" 1 ["self", "end", "number"] (sp_unhear K C) := by
  obtain ⟨f, fd, M, F⟩ := D
  refine ⟨f, fd, M, F.binds (ps := ["self", "end", "number"]) fun _ _ _ _ _ _ us hl => match us, hl with | [_, _, _], _ => rfl, F.ok sc_unhear (fun vs H Q E h => ?_) (fun cdv A outer s H vs Q E hr h => ?_)⟩
  · obtain ⟨_, _, _, rfl, _⟩ := h
    rfl
  obtain ⟨x0, x1, x2, rfl, h⟩ := h
  have hu := hu_of hr
  refine ⟨_, (pss_one (ps_if (pt_cmpR op_eq (pe_dget1 hu (pe_fld (pv 0) rfl) (pv 1) (M1.mk (by rfl) (by rfl) (by rfl) (by rfl))) (pv 2) (nomark _)) (pss_one (ps_expr (pe_dpop1 (pe_fld (pv 0) rfl) (pv 1) (M1.mk (by rfl) (by rfl) (by rfl) (by rfl))))) pss_nil)), ?_⟩
  obtain ⟨p, dx, u, h, l, kvs, f, n, o, rfl, rfl, rfl, hp, hh, ho, k⟩ := h
  refine ⟨_, rfl, p, C.ln, dx, _, _, rfl, hp, T.cl_ln, T.n_ln_heard, ln_heard, h, rfl, .inl ⟨_, .inl hh⟩, _, rfl, _, DGet.k (k := Sum.inl (f : Int)) hh, _, rfl, ?_⟩
  rw [ho]
  cases o with
  | none =>
    refine ⟨rfl, _, rfl, ?_⟩
    refine ite_b (fun c => ?_) fun c => ?_
    · exact absurd (of_decide_eq_true c) (by intro z; cases z)
    · exact k _ (by rw [if_neg (by intro z; cases z)]; exact hh) fun _ _ => rfl
  | some m =>
    refine ⟨rfl, _, rfl, ?_⟩
    refine ite_b (fun c => ?_) fun c => ?_
    · have c : V.int (m : Int) = V.int (n : Int) := of_decide_eq_true c
      have e : m = n := by have := V.int.inj c; omega
      subst e
      refine ⟨_, rfl, p, C.ln, dx, _, _, rfl, hp, T.cl_ln, T.n_ln_heard, ln_heard, h, rfl, .inl ⟨_, .inl hh⟩, _, rfl, kvs, Sum.inl (f : Int), _, hh, rfl, ho, ?_⟩
      exact k _ (by rw [if_pos rfl]; exact upd_same) fun b hb => upd_ne hb
    · have c : ¬ V.int (m : Int) = V.int (n : Int) := of_decide_eq_false c
      have e : ¬ some m = some n := fun z => c (by rw [Option.some.inj z])
      exact k _ (by rw [if_neg e]; exact hh) fun _ _ => rfl
end
end By

namespace By
open PySem PySem.Spec PyProof.Rows L2
open Ql75 (Own Bytes between)

section
variable {P : Program} {w : World} {K : PySem.W.Frag} {mg : Str → Option Value} {base : Heap} {C : Cs}
theorem sc_is_line : FnScope ["p"] ["p"] (defScope s_is_line) := ⟨rfl, rfl, rfl, by decide +kernel, rfl, by decide +kernel, by decide +kernel⟩
theorem ok_is_line (T : Txt K mg C) (D : FDef K mg "is_line" s_is_line) : FOk P w K mg base "is_line" 1 ["p"] (sp_is_line K C) := by
  obtain ⟨f, fd, m, F⟩ := D
  refine ⟨f, fd, m, F.kp, F.binds (ps := ["p"]) fun _ _ _ _ _ _ us hl => match us, hl with | [_], _ => rfl, F.ok sc_is_line (fun vs H Q E h => ?_) (fun cdv A outer s H vs Q E hr h => ?_)⟩
  · obtain ⟨_, rfl, _⟩ := h
    rfl
  obtain ⟨x0, rfl, h⟩ := h
  have hu := hu_of hr
  refine ⟨_, (pss_one (ps_ret (pe_chain op_le op_lt pe_int (pv 0) (pe_k rfl T.c_LINES)))), ?_⟩
  obtain ⟨z, rfl, q⟩ := h
  refine ⟨_, rfl, _, _, rfl, rfl, _, rfl, ?_⟩
  refine ite_b (fun c => ?_) fun c => ?_
  · refine ⟨_, _, rfl, rfl, ?_⟩
    refine qv q ?_
    show V.bl (decide (z < 8)) = V.bl (between z 0 7)
    have c : (0 : Int) ≤ z := of_decide_eq_true c
    unfold Ql75.between
    congr 1
    rw [Bool.eq_iff_iff]
    simp
    omega
  · refine qv q ?_
    have c : ¬ (0 : Int) ≤ z := of_decide_eq_false c
    unfold Ql75.between
    congr 1
    rw [Bool.eq_iff_iff]
    simp
    omega
end
end By

namespace By
open PySem PySem.Spec PyProof.Rows L2
open Ql75 (Own Bytes between)

section
variable {P : Program} {w : World} {K : PySem.W.Frag} {mg : Str → Option Value} {base : Heap} {C : Cs}
theorem sc_is_end : FnScope ["f"] ["f"] (defScope s_is_end) := ⟨rfl, rfl, rfl, by decide +kernel, rfl, by decide +kernel, by decide +kernel⟩
theorem ok_is_end (T : Txt K mg C) (D : FDef K mg "is_end" s_is_end) : FOk P w K mg base "is_end" 1 ["f"] (sp_is_end K C) := by
  obtain ⟨f, fd, m, F⟩ := D
  refine ⟨f, fd, m, F.kp, F.binds (ps := ["f"]) fun _ _ _ _ _ _ us hl => match us, hl with | [_], _ => rfl, F.ok sc_is_end (fun vs H Q E h => ?_) (fun cdv A outer s H vs Q E hr h => ?_)⟩
  · obtain ⟨_, rfl, _⟩ := h
    rfl
  obtain ⟨x0, rfl, h⟩ := h
  have hu := hu_of hr
  refine ⟨_, (pss_one (ps_ret (pe_chain op_le op_lt pe_int (pv 0) (pe_k rfl T.c_ENDS)))), ?_⟩
  obtain ⟨z, rfl, q⟩ := h
  refine ⟨_, rfl, _, _, rfl, rfl, _, rfl, ?_⟩
  refine ite_b (fun c => ?_) fun c => ?_
  · refine ⟨_, _, rfl, rfl, ?_⟩
    refine qv q ?_
    show V.bl (decide (z < 32)) = V.bl (between z 0 31)
    have c : (0 : Int) ≤ z := of_decide_eq_true c
    unfold Ql75.between
    congr 1
    rw [Bool.eq_iff_iff]
    simp
    omega
  · refine qv q ?_
    have c : ¬ (0 : Int) ≤ z := of_decide_eq_false c
    unfold Ql75.between
    congr 1
    rw [Bool.eq_iff_iff]
    simp
    omega
end
end By

namespace By
open PySem PySem.Spec PyProof.Rows L2
open Ql75 (Own Bytes between)

section
variable {P : Program} {w : World} {K : PySem.W.Frag} {mg : Str → Option Value} {base : Heap} {C : Cs}
theorem sc_is_look : FnScope ["what"] ["what"] (defScope s_is_look) := ⟨rfl, rfl, rfl, by decide +kernel, rfl, by decide +kernel, by decide +kernel⟩
theorem ok_is_look (T : Txt K mg C) (D : FDef K mg "is_look" s_is_look) : FOk P w K mg base "is_look" 1 ["what"] (sp_is_look K C) := by
  obtain ⟨f, fd, m, F⟩ := D
  refine ⟨f, fd, m, F.kp, F.binds (ps := ["what"]) fun _ _ _ _ _ _ us hl => match us, hl with | [_], _ => rfl, F.ok sc_is_look (fun vs H Q E h => ?_) (fun cdv A outer s H vs Q E hr h => ?_)⟩
  · obtain ⟨_, rfl, _⟩ := h
    rfl
  obtain ⟨x0, rfl, h⟩ := h
  have hu := hu_of hr
  refine ⟨_, (pss_one (ps_ret (pe_chain op_le op_le (pe_k rfl T.c_ACTIVE_LABEL) (pv 0) (pe_k rfl T.c_LABELS_GIVEN)))), ?_⟩
  obtain ⟨z, rfl, q⟩ := h
  refine ⟨_, rfl, _, _, rfl, rfl, _, rfl, ?_⟩
  refine ite_b (fun c => ?_) fun c => ?_
  · refine ⟨_, _, rfl, rfl, ?_⟩
    refine qv q ?_
    show V.bl (decide (z ≤ 3)) = V.bl (between z 0 3)
    have c : (0 : Int) ≤ z := of_decide_eq_true c
    unfold Ql75.between
    congr 1
    rw [Bool.eq_iff_iff]
    simp
    omega
  · refine qv q ?_
    have c : ¬ (0 : Int) ≤ z := of_decide_eq_false c
    unfold Ql75.between
    congr 1
    rw [Bool.eq_iff_iff]
    simp
    omega
end
end By

namespace By
open PySem PySem.Spec PyProof.Rows L2
open Ql75 (Own Bytes between)

section
variable {P : Program} {w : World} {K : PySem.W.Frag} {mg : Str → Option Value} {base : Heap} {C : Cs}
theorem sc_take_first : FnScope ["waiting", "most", "first"] ["waiting", "most"] (defScope s_take_first) := ⟨rfl, rfl, rfl, by decide +kernel, rfl, by decide +kernel, by decide +kernel⟩
theorem ok_take_first (T : Txt K mg C) (D : FDef K mg "take_first" s_take_first) : FOk P w K mg base "take_first" 1 ["waiting", "most"] (sp_take_first K C) := by
  obtain ⟨f, fd, m, F⟩ := D
  refine ⟨f, fd, m, F.kp, F.binds (ps := ["waiting", "most"]) fun _ _ _ _ _ _ us hl => match us, hl with | [_, _], _ => rfl, F.ok sc_take_first (fun vs H Q E h => ?_) (fun cdv A outer s H vs Q E hr h => ?_)⟩
  · obtain ⟨_, _, rfl, _⟩ := h
    rfl
  obtain ⟨x0, x1, rfl, h⟩ := h
  have hu := hu_of hr
  refine ⟨_, (pss_cons (ps_if (pt_cmpR op_eq (pe_callB call_len_seq (by rfl) T.b_len PySem.boot_len (pa_cons (pv 0) pa_nil)) pe_int (nomark _)) (pss_one (ps_ret (pe_lst (pa_cons (pe_k rfl T.c_NOT_NOW) pa_nil)))) pss_nil)
      (pss_cons (ps_if (pt_cmpR op_gt (pe_callB call_len_seq (by rfl) T.b_len PySem.boot_len (pa_cons (pe_ix ix_list (pv 0) pe_int (fun _ _ => rfl)) pa_nil)) (pv 1) (nomark _)) (pss_one (ps_ret (pe_lst (pa_cons (pe_k rfl T.c_TOO_LONG) pa_nil)))) pss_nil)
      (pss_cons (ps_set (i := 2) sc_take_first.nd rfl (Or.inl rfl) (pe_bm PySem.F.plainAttrs_list PySem.F.slot_list_pop PySem.F.type_list_pop mt_popAt (pv 0) (pa_cons pe_int pa_nil)))
      (pss_one (ps_ret (pe_op op_cat (pe_lst (pa_cons (pe_callB call_len_seq (by rfl) T.b_len PySem.boot_len (pa_cons (pv 2) pa_nil)) pa_nil)) (pv 2))))))), ?_⟩
  obtain ⟨a, vs, most, rfl, rfl, ha, k0, k1⟩ := h
  refine ⟨_, rfl, a, _, rfl, .inl (SqL.of ha), rfl, _, rfl, ?_⟩
  cases vs with
  | nil =>
    refine iteT ?_
    exact ⟨(by show 1 ≤ sizeLine; decide), fun p hp => k0 rfl p _ hp upd_same fun b hb => upd_ne hb⟩
  | cons v r =>
    obtain ⟨fa, b, rfl, nf, hf, hb, k2, k3⟩ := k1 v r rfl
    have e0 : decide (V.int (((V.ref fa :: r).length : Nat) : Int) = V.int 0) = false := decide_eq_false fun z => by
      have z : (((V.ref fa :: r).length : Nat) : Int) = 0 := V.int.inj z
      rw [List.length_cons] at z
      omega
    rw [e0]
    refine iteF ?_
    refine ⟨_, rfl, a, _, _, _, rfl, rfl, SqL.of ha, at_nat (i := 0) (v := V.ref fa) rfl, fa, _, rfl, .inl (SqL.of hf), _, rfl, _, _, rfl, rfl, _, rfl, ?_⟩
    rw [List.length_map]
    refine ite_b (fun c => ?_) fun c => ?_
    · exact ⟨(by show 1 ≤ sizeLine; decide), fun p hp => k2 (of_decide_eq_true c) p _ hp upd_same fun b hb => upd_ne hb⟩
    · refine ⟨_, rfl, .inl ⟨rfl, _, SqL.of ha⟩, a, _, 0, 0, _, rfl, rfl, ha, (by decide), (by decide), (by rw [List.length_cons]; exact seq0), rfl, ?_⟩
      have hf1 : (upd H a (HO.lst ((V.ref fa :: r).eraseIdx 0))) fa = some (.lst (b.map nV)) := by rw [upd_ne nf]; exact hf
      refine ⟨_, rfl, fa, _, rfl, .inl (SqL.of hf1), (by show 1 ≤ sizeLine; decide), fun t ht => ?_⟩
      have nft : fa ≠ t := ne_of_none hf1 ht
      refine ⟨_, rfl, t, fa, _, _, rfl, rfl, upd_same, (by rw [upd_ne nft]; exact hf1), (by rw [List.length_map, sizeLine_eq]; show 1 + b.length ≤ 16777216; omega), fun p hp => ?_⟩
      have npt : p ≠ t := fun e => by rw [e, upd_same] at hp; cases hp
      have npa : p ≠ a := fun e => by
        rw [upd_ne npt, e, upd_same] at hp
        cases hp
      have nat : a ≠ t := ne_of_none (H := upd H a (HO.lst ((V.ref fa :: r).eraseIdx 0))) upd_same ht
      have hp0 : H p = none := by rw [upd_ne npt, upd_ne npa] at hp; exact hp
      have ht0 : H t = none := by rw [upd_ne nat.symm] at ht; exact ht
      refine k3 (of_decide_eq_false c) p _ hp0 ?_ ?_ fun x o e na => ?_
      · rw [upd_same, List.length_map]; rfl
      · rw [upd_ne npa.symm, upd_ne nat, upd_same]; rfl
      · rw [upd_ne (ne_of_none e hp0), upd_ne (ne_of_none e ht0), upd_ne na]; exact e
end
end By

namespace By
open PySem PySem.Spec PyProof.Rows L2
open Ql75 (Own Bytes between)
theorem LineAt.mv {C : Cs} {G G' : Gm} {H H' : Hp} {a : Addr} {p : Nat} {u : Bool} {hd : List (Option Nat)} (l : LineAt C G H a p u hd []) (k : ∀ b o, H b = some o → inLine p (G b) → G' b = G b ∧ H' b = some o) : LineAt C G' H' a p u hd [] := by
  obtain ⟨dx, h, w, kvs, vs, e1, g1, e2, g2, hk, e3, g3, fr⟩ := l.ex
  cases fr
  obtain ⟨a1, b1⟩ := k _ _ e1 (by rw [g1]; exact rfl)
  obtain ⟨a2, b2⟩ := k _ _ e2 (by rw [g2]; exact rfl)
  obtain ⟨a3, b3⟩ := k _ _ e3 (by rw [g3]; exact rfl)
  exact ⟨dx, h, w, kvs, [], b1, a1.trans g1, b2, a2.trans g2, hk, b3, a3.trans g3, .nil⟩
section
variable {P : Program} {w : World} {K : PySem.W.Frag} {mg : Str → Option Value} {base : Heap} {C : Cs}
theorem sc_lr_begin : FnScope ["self", "p"] ["self"] (defScope s_lr_begin) := ⟨rfl, rfl, rfl, by decide +kernel, rfl, by decide +kernel, by decide +kernel⟩
theorem ok_lr_begin (T : Txt K mg C) (D : MDef K C.rt "lr_begin" "Router.lr_begin" s_lr_begin) (h_init_ln : IOk P w K mg base C.ln 1 ["self"] (sp_init_ln K C)) (h_init_bk : IOk P w K mg base C.bk 1 ["self"] (sp_init_bk K C)) : MOk P w K mg base C.rt "lr_begin" 3 ["self"] (sp_lr_begin K C) := by
  obtain ⟨f_init_ln, fd_init_ln, M_init_ln, b_init_ln, G_init_ln⟩ := h_init_ln
  obtain ⟨f_init_bk, fd_init_bk, M_init_bk, b_init_bk, G_init_bk⟩ := h_init_bk
  obtain ⟨f, fd, M, F⟩ := D
  refine ⟨f, fd, M, F.binds (ps := ["self"]) fun _ _ _ _ _ _ us hl => match us, hl with | [_], _ => rfl, F.ok sc_lr_begin (fun vs H Q E h => ?_) (fun cdv A outer s H vs Q E hr h => ?_)⟩
  · obtain ⟨_, rfl, _⟩ := h
    rfl
  obtain ⟨x0, rfl, h⟩ := h
  have hu := hu_of hr
  refine ⟨_, (pss_cons (ps_fld (pv 0) (pe_op op_rep (pe_lst (pa_cons (pe_k rfl T.c_NO_WAY) pa_nil)) (pe_k rfl T.c_ENDS)) rfl)
      (pss_cons (ps_fld (pv 0) (pe_make0 M_init_bk G_init_bk (hr.mono (by decide)) rfl T.g_LabelBook b_init_bk .nil pass0) rfl)
      (pss_cons (ps_fld (pv 0) (pe_lc (own := [("p", 1)]) (g := gName 1) (by rfl) sc_lr_begin.nd (pi_range1 rfl T.b_range (pa_cons (pe_k rfl T.c_LINES) pa_nil)) (blkOk_by (N := ["self", "p"]) (sc := defScope s_lr_begin) (by decide +kernel)) (fun _ _ _ _ _ => pg_name (i := 1) sc_lr_begin.nd rfl (Or.inl rfl)) (fun _ _ _ _ _ => pts_nil) (fun _ _ _ _ _ => by exact (pe_make0 M_init_ln G_init_ln (hr.mono (by decide)) rfl T.g_Line b_init_ln .nil pass0))) rfl)
      (pss_cons (ps_fld (pv 0) (pe_lst pa_nil) rfl)
      (pss_one (ps_ret (pe_k rfl T.c_DONE))))))), ?_⟩
  obtain ⟨r, dx, fs, G, rfl, hr0, hfs, gr, wf, k⟩ := h
  have lfs : fs.length ≤ 4 := by
    rcases hfs with rfl | ⟨_, _, _, _, rfl⟩
    · exact Nat.zero_le _
    · exact Nat.le_refl _
  refine ⟨(by show 1 ≤ sizeLine; decide), fun q hq => ?_⟩
  refine ⟨q, 32, _, rfl, rfl, upd_same, (by decide), (by decide), (by rw [sizeLine_eq]; decide), fun w hw => ?_⟩
  have nwq : w ≠ q := fun e => by rw [e, upd_same] at hw; cases hw
  have hw0 : H w = none := by rw [upd_ne nwq] at hw; exact hw
  have nrq : r ≠ q := ne_of_none hr0 hq
  have nrw : r ≠ w := ne_of_none hr0 hw0
  have hrep : (List.replicate (32 : Int).toNat [V.int (-1)]).flatten = Ql75.begun.ways.map wV := by decide +kernel
  refine ⟨_, rfl, r, C.rt, dx, fs, rfl, (by rw [upd_ne nrw, upd_ne nrq]; exact hr0), T.cl_rt, T.n_rt_ways, (by omega), ?_⟩
  generalize hH2 : upd (upd (upd H q (HO.lst [V.int (-1)])) w (HO.lst (List.replicate (32 : Int).toNat [V.int (-1)]).flatten)) r (HO.ins C.rt dx (putF "ways" (V.ref w) fs)) = H2
  have r2 : H2 r = some (.ins C.rt dx (putF "ways" (V.ref w) fs)) := by rw [← hH2, upd_same]
  have w2 : H2 w = some (.lst (Ql75.begun.ways.map wV)) := by rw [← hH2, upd_ne nrw.symm, upd_same, hrep]
  have o2 : ∀ b o, H b = some o → b ≠ r → H2 b = some o := fun b o e n => by rw [← hH2, upd_ne n, upd_ne (ne_of_none e hw0), upd_ne (ne_of_none e hq)]; exact e
  -- self.book = LabelBook()
  intro x dk nx ndk nex
  refine ⟨_, rfl, x, dk, rfl, upd_same, fun d H3 hd h31 h32 k3 => ⟨rfl, ?_⟩⟩
  have ndx : d ≠ x := fun e => by rw [e, upd_same] at hd; cases hd
  have hd2 : H2 d = none := by
    rw [upd_ne ndx] at hd
    by_cases e : d = dk
    · rw [e, upd_same] at hd; cases hd
    · rw [upd_ne e] at hd; exact hd
  have o3 : ∀ b o, H2 b = some o → H3 b = some o := fun b o e => by
    rw [k3 b (ne_of_none e nx) (ne_of_none e hd2), upd_ne (ne_of_none e nx), upd_ne (ne_of_none e ndk)]; exact e
  have nrx : r ≠ x := ne_of_none r2 nx
  have nrd : r ≠ d := ne_of_none r2 hd2
  refine ⟨_, rfl, r, C.rt, dx, _, rfl, o3 _ _ r2, T.cl_rt, T.n_rt_book, (Nat.lt_of_le_of_lt (putF_le (n := 4) lfs) (by decide)), ?_⟩
  generalize hH4 : upd H3 r (HO.ins C.rt dx (putF "book" (V.ref x) (putF "ways" (V.ref w) fs))) = H4
  have r4 : H4 r = some (.ins C.rt dx (putF "book" (V.ref x) (putF "ways" (V.ref w) fs))) := by rw [← hH4, upd_same]
  have w4 : H4 w = some (.lst (Ql75.begun.ways.map wV)) := by rw [← hH4, upd_ne nrw.symm]; exact o3 _ _ w2
  have x4 : H4 x = some (.ins C.bk dk (bkF d)) := by rw [← hH4, upd_ne nrx.symm]; exact h31
  have d4 : H4 d = some (.dK []) := by rw [← hH4, upd_ne nrd.symm]; exact h32
  have o4 : ∀ b o, H b = some o → b ≠ r → H4 b = some o := fun b o e n => by rw [← hH4, upd_ne n]; exact o3 _ _ (o2 b o e n)
  have wf4 : WF G H4 := fun b hb => by
    refine wf b ?_
    cases e : H b with
    | none => rfl
    | some o =>
      by_cases z : b = r
      · rw [z, r4] at hb; cases hb
      · rw [o4 b o e z] at hb; cases hb
  have nwx : w ≠ x := ne_of_none w2 nx
  have nwd : w ≠ d := ne_of_none w2 hd2
  -- self.lines = [Line() for p in range(LINES)]
  refine ⟨8, rfl, by decide, by decide, fun D hD => lc_it (L2.walk_range (lo := 0) (n := 8)) (fun i H' => ∃ (as : List Addr) (G' : Gm), as.length = i ∧ H' D = some (.lst (as.map V.ref)) ∧ (∀ b o, H4 b = some o → H' b = some o) ∧ (∀ b o, H4 b = some o → G' b = G b) ∧ G' D = .non ∧
      WF G' H' ∧ ∀ (j : Nat) (a : Addr), as[j]? = some a → LineAt C G' H' a j false (List.replicate 32 none) []) ?_ (fun _ _ _ _ => trivial) ?_ ?_⟩
  · refine ⟨[], G, rfl, upd_same, upd_same_keep hD, fun _ _ _ => rfl, wf4 D hD, ?_, fun j a z => by simp at z⟩
    intro b hb
    by_cases z : b = D
    · rw [z]; exact wf4 D hD
    · rw [upd_ne z] at hb; exact wf4 b hb
  · rintro i y H5 H6 hi ⟨as, G5, la, hD5, s5, g5, gD5, wf5, hl⟩ ⟨rfl, rfl⟩
    refine ⟨rfl, ?_⟩
    show ∀ a da, H6 a = none → H6 da = none → da ≠ a → _
    intro a da na nda nea
    refine ⟨_, rfl, a, da, rfl, upd_same, fun h l H7 hh hl0 nhl p1 p2 p3 k7 => ⟨rfl, ?_⟩⟩
    have nha : h ≠ a := fun e => by rw [e, upd_same] at hh; cases hh
    have nla : l ≠ a := fun e => by rw [e, upd_same] at hl0; cases hl0
    have hh6 : H6 h = none := by
      rw [upd_ne nha] at hh
      by_cases e : h = da
      · rw [e, upd_same] at hh; cases hh
      · rw [upd_ne e] at hh; exact hh
    have hl6 : H6 l = none := by
      rw [upd_ne nla] at hl0
      by_cases e : l = da
      · rw [e, upd_same] at hl0; cases hl0
      · rw [upd_ne e] at hl0; exact hl0
    have s7 : ∀ b o, H6 b = some o → H7 b = some o := fun b o e => by
      rw [k7 b (ne_of_none e na) (ne_of_none e hh6) (ne_of_none e hl6), upd_ne (ne_of_none e na), upd_ne (ne_of_none e nda)]; exact e
    have nDa : D ≠ a := ne_of_none hD5 na
    have nDh : D ≠ h := ne_of_none hD5 hh6
    have nDl : D ≠ l := ne_of_none hD5 hl6
    have off : ∀ b o, H6 b = some o → setG (setG (setG G5 a (.line i)) h (.heard i)) l (.wait i) b = G5 b := fun b o e => by
      rw [setG_ne (ne_of_none e hl6), setG_ne (ne_of_none e hh6), setG_ne (ne_of_none e na)]
    refine ⟨_, s7 _ _ hD5, sz (by rw [List.length_map]; omega), as ++ [a], setG (setG (setG G5 a (.line i)) h (.heard i)) l (.wait i), by rw [List.length_append, la]; rfl, by rw [upd_same, List.map_append]; rfl, fun b o e => ?_, fun b o e => ?_, ?_, ?_, fun j b hj => ?_⟩
    · rw [upd_ne (ne_of_none e hD)]; exact s7 _ _ (s5 b o e)
    · rw [off b o (s5 b o e)]; exact g5 b o e
    · rw [off D _ hD5]; exact gD5
    · intro b hb
      have z0 : b ≠ D := fun z => by rw [z, upd_same] at hb; cases hb
      rw [upd_ne z0] at hb
      have z1 : b ≠ a := fun z => by rw [z, p1] at hb; cases hb
      have z2 : b ≠ h := fun z => by rw [z, p2] at hb; cases hb
      have z3 : b ≠ l := fun z => by rw [z, p3] at hb; cases hb
      rw [setG_ne z3, setG_ne z2, setG_ne z1]
      refine wf5 b ?_
      cases e : H6 b with
      | none => rfl
      | some o => rw [s7 b o e] at hb; cases hb
    · by_cases z : j < as.length
      · rw [List.getElem?_append_left z] at hj
        refine (hl j b hj).mv fun c o e gc => ⟨off c o e, ?_⟩
        rw [upd_ne (by rintro rfl; rw [gD5] at gc; exact gc)]
        exact s7 c o e
      · rw [List.getElem?_append_right (by omega)] at hj
        have ej : j - as.length = 0 := by
          cases y : j - as.length with
          | zero => rfl
          | succ n => rw [y] at hj; simp at hj
        have ej2 : j = i := by omega
        rw [ej] at hj
        have eb : a = b := Option.some.inj hj
        subst eb ej2
        exact ⟨da, h, l, [], [], by rw [upd_ne nDa.symm]; exact p1, by rw [setG_ne nla.symm, setG_ne nha.symm, setG_same], by rw [upd_ne nDh.symm]; exact p2, by rw [setG_ne nhl, setG_same], HdAt.none32, by rw [upd_ne nDl.symm]; exact p3, setG_same, .nil⟩
  · rintro H5 ⟨as, G5, la, hD5, s5, g5, gD5, wf5, hl⟩
    have nrD : r ≠ D := ne_of_none r4 hD
    refine ⟨_, rfl, r, C.rt, dx, _, rfl, s5 _ _ r4, T.cl_rt, T.n_rt_lines, (Nat.lt_of_le_of_lt (putF_le (n := 5) (putF_le (n := 4) lfs)) (by decide)), ?_⟩
    refine ⟨(by show 0 ≤ sizeLine; decide), fun g hg => ?_⟩
    have nrg : r ≠ g := ne_of_none upd_same hg
    have hg5 : H5 g = none := by rw [upd_ne nrg.symm] at hg; exact hg
    refine ⟨_, rfl, r, C.rt, dx, _, rfl, (by rw [upd_ne nrg]; exact upd_same), T.cl_rt, T.n_rt_leaving, (Nat.lt_of_le_of_lt (putF_le (n := 6) (putF_le (n := 5) (putF_le (n := 4) lfs))) (by decide)), ?_⟩
    generalize hH6 : upd (upd (upd H5 r (HO.ins C.rt dx (putF "lines" (V.ref D) (putF "book" (V.ref x) (putF "ways" (V.ref w) fs))))) g (HO.lst [])) r (HO.ins C.rt dx (putF "leaving" (V.ref g) (putF "lines" (V.ref D) (putF "book" (V.ref x) (putF "ways" (V.ref w) fs))))) = H6
    have ef : putF "leaving" (V.ref g) (putF "lines" (V.ref D) (putF "book" (V.ref x) (putF "ways" (V.ref w) fs))) = rtF w x D g := by
      rcases hfs with rfl | ⟨_, _, _, _, rfl⟩
      · exact rt_new
      · rw [rt_put_ways, rt_put_book, rt_put_lines, rt_put_leaving]
    have r6 : H6 r = some (.ins C.rt dx (rtF w x D g)) := by rw [← hH6, upd_same, ef]
    have g6 : H6 g = some (.lst []) := by rw [← hH6, upd_ne nrg.symm, upd_same]
    have o6 : ∀ b o, H5 b = some o → b ≠ r → H6 b = some o := fun b o e n => by rw [← hH6, upd_ne n, upd_ne (ne_of_none e hg5), upd_ne n]; exact e
    have w5 := s5 _ _ w4
    have x5 := s5 _ _ x4
    have d5 := s5 _ _ d4
    have nwD : w ≠ D := ne_of_none w4 hD
    have nxD : x ≠ D := ne_of_none x4 hD
    have ndD : d ≠ D := ne_of_none d4 hD
    have nwg : w ≠ g := ne_of_none w5 hg5
    have nxg : x ≠ g := ne_of_none x5 hg5
    have ndg : d ≠ g := ne_of_none d5 hg5
    have nDg : D ≠ g := ne_of_none hD5 hg5
    have gg5 : G5 g = .non := wf5 g hg5
    have fresh : ∀ b, H b = none → G b = .non := wf
    have hx0 : H x = none := by
      cases e : H x with
      | none => rfl
      | some o => rw [o2 x o e nrx.symm] at nx; cases nx
    have hd0 : H d = none := by
      cases e : H d with
      | none => rfl
      | some o => rw [o2 d o e nrd.symm] at hd2; cases hd2
    have hD0 : H D = none := by
      cases e : H D with
      | none => rfl
      | some o => rw [o4 D o e nrD.symm] at hD; cases hD
    have hg0 : H g = none := by
      cases e : H g with
      | none => rfl
      | some o => rw [s5 _ _ (o4 g o e nrg.symm)] at hg5; cases hg5
    have gw : G5 w = .non := (g5 _ _ w4).trans (wf w hw0)
    have gx : G5 x = .non := (g5 _ _ x4).trans (wf x hx0)
    have gd : G5 d = .non := (g5 _ _ d4).trans (wf d hd0)
    have G6w : setG (setG (setG (setG (setG G5 w .ways) x .book) d .dct) D .lines) g .gone w = .ways := by rw [setG_ne nwg, setG_ne nwD, setG_ne nwd, setG_ne nwx, setG_same]
    have G6x : setG (setG (setG (setG (setG G5 w .ways) x .book) d .dct) D .lines) g .gone x = .book := by rw [setG_ne nxg, setG_ne nxD, setG_ne ndx.symm, setG_same]
    have G6d : setG (setG (setG (setG (setG G5 w .ways) x .book) d .dct) D .lines) g .gone d = .dct := by rw [setG_ne ndg, setG_ne ndD, setG_same]
    have G6D : setG (setG (setG (setG (setG G5 w .ways) x .book) d .dct) D .lines) g .gone D = .lines := by rw [setG_ne nDg, setG_same]
    have off : ∀ b, b ≠ w → b ≠ x → b ≠ d → b ≠ D → b ≠ g → setG (setG (setG (setG (setG G5 w .ways) x .book) d .dct) D .lines) g .gone b = G5 b := fun b n1 n2 n3 n4 n5 => by
      rw [setG_ne n5, setG_ne n4, setG_ne n3, setG_ne n2, setG_ne n1]
    have offH : ∀ b o, H b = some o → setG (setG (setG (setG (setG G5 w .ways) x .book) d .dct) D .lines) g .gone b = G b := fun b o e => by
      rw [off b (ne_of_none e hw0) (ne_of_none e hx0) (ne_of_none e hd0) (ne_of_none e hD0) (ne_of_none e hg0)]
      by_cases z : b = r
      · rw [z]; exact g5 _ _ r4
      · exact g5 _ _ (o4 b o e z)
    have R6 : RtAt C (setG (setG (setG (setG (setG G5 w .ways) x .book) d .dct) D .lines) g .gone) H6 r ⟨w, x, d, D, g, fun j => as.getD j 0, fun _ => 0⟩ Ql75.begun := by
      refine ⟨fun b hb => ?_, ⟨dx, r6⟩, by rw [offH _ _ hr0, gr], o6 _ _ w5 nrw.symm, G6w, ?_, G6D, ⟨⟨dk, o6 _ _ x5 nrx.symm⟩, G6x, o6 _ _ d5 nrd.symm, G6d, List.nodup_nil, Nat.zero_le _, fun o ho => by cases ho⟩, fun p hp => ?_, ⟨[], g6, .nil⟩, setG_same⟩
      · have z1 : b ≠ w := fun z => by rw [z, o6 _ _ w5 nrw.symm] at hb; cases hb
        have z2 : b ≠ x := fun z => by rw [z, o6 _ _ x5 nrx.symm] at hb; cases hb
        have z3 : b ≠ d := fun z => by rw [z, o6 _ _ d5 nrd.symm] at hb; cases hb
        have z4 : b ≠ D := fun z => by rw [z, o6 _ _ hD5 nrD.symm] at hb; cases hb
        have z5 : b ≠ g := fun z => by rw [z, g6] at hb; cases hb
        have z6 : b ≠ r := fun z => by rw [z, r6] at hb; cases hb
        rw [off b z1 z2 z3 z4 z5]
        refine wf5 b ?_
        cases e : H5 b with
        | none => rfl
        | some o => rw [o6 b o e z6] at hb; cases hb
      · show H6 D = _
        rw [o6 _ _ hD5 nrD.symm]
        have e8 : as = (List.range 8).map fun j => as.getD j 0 := by
          refine List.ext_getElem? fun j => ?_
          rw [List.getElem?_map]
          by_cases z : j < 8
          · rw [List.getElem?_range z]
            have z2 : j < as.length := by omega
            show as[j]? = some (as.getD j 0)
            rw [List.getD_eq_getElem?_getD, List.getElem?_eq_getElem z2]
            rfl
          · rw [List.getElem?_eq_none (by omega), List.getElem?_eq_none (by rw [List.length_range]; omega)]
            rfl
        have e9 : as.map V.ref = (List.range 8).map fun j => V.ref (as.getD j 0) := by
          have e10 : as.map V.ref = ((List.range 8).map fun j => as.getD j 0).map V.ref := congrArg (List.map V.ref) e8
          rw [e10, List.map_map]
          rfl
        rw [e9]
      · have z2 : p < as.length := by omega
        have hp2 : as[p]? = some (as.getD p 0) := by
          rw [List.getD_eq_getElem?_getD, List.getElem?_eq_getElem z2]
          rfl
        have e1 : Ql75.begun.isUp p = false := getD_replicate 8 p false
        have e2 : Ql75.begun.heard.getD p [] = List.replicate 32 none := by
          show (List.replicate 8 (List.replicate 32 (none : Option Nat))).getD p [] = _
          rw [List.getD_eq_getElem?_getD, List.getElem?_replicate, if_pos hp]
          rfl
        have e3 : Ql75.begun.waiting p = [] := getD_replicate 8 p []
        rw [e1, e2, e3]
        refine (hl p _ hp2).mv fun b o e gb => ⟨off b (by rintro rfl; rw [gw] at gb; exact gb) (by rintro rfl; rw [gx] at gb; exact gb) (by rintro rfl; rw [gd] at gb; exact gb) (by rintro rfl; rw [gD5] at gb; exact gb) (by rintro rfl; rw [gg5] at gb; exact gb), ?_⟩
        exact o6 b o e (by rintro rfl; rw [(g5 _ _ r4).trans gr] at gb; exact gb)
    refine k _ _ H6 R6 ⟨offH, fun b o e n => ?_, fun b o e => ?_⟩
    · have z : b ≠ r := fun z => n (by rw [z, gr]; trivial)
      exact o6 _ _ (s5 _ _ (o4 b o e z)) z
    · by_cases z : b = r
      · subst z
        rw [hr0] at e
        cases e
        refine ⟨_, r6, ?_⟩
        rcases hfs with rfl | ⟨_, _, _, _, rfl⟩
        · exact LbK.few (by decide)
        · exact LbK.rt
      · exact ⟨o, o6 _ _ (s5 _ _ (o4 b o e z)) z, LbK.refl o⟩
end
end By

namespace By
open PySem PySem.Spec PyProof.Rows L2
open Ql75 (Own Bytes between)

section
variable {P : Program} {w : World} {K : PySem.W.Frag} {mg : Str → Option Value} {base : Heap} {C : Cs}
theorem sc_init_rt : FnScope ["self"] ["self"] (defScope s_init_rt) := ⟨rfl, rfl, rfl, by decide +kernel, rfl, by decide +kernel, by decide +kernel⟩
theorem ok_init_rt (T : Txt K mg C) (D : IDef K C.rt "Router.__init__" s_init_rt) (h_lr_begin : MOk P w K mg base C.rt "lr_begin" 3 ["self"] (sp_lr_begin K C)) : IOk P w K mg base C.rt 4 ["self"] (sp_init_rt K C) := by
  obtain ⟨f_lr_begin, fd_lr_begin, M_lr_begin, b_lr_begin, G_lr_begin⟩ := h_lr_begin
  obtain ⟨f, fd, M, F⟩ := D
  refine ⟨f, fd, M, F.binds (ps := ["self"]) fun _ _ _ _ _ _ us hl => match us, hl with | [_], _ => rfl, F.ok sc_init_rt (fun vs H Q E h => ?_) (fun cdv A outer s H vs Q E hr h => ?_)⟩
  · obtain ⟨_, rfl, _⟩ := h
    rfl
  obtain ⟨x0, rfl, h⟩ := h
  have hu := hu_of hr
  refine ⟨_, (pss_one (ps_expr (pe_meth0 (pv 0) T.cl_rt M_lr_begin G_lr_begin (hr.mono (by decide)) b_lr_begin .nil pass0))), ?_⟩
  obtain ⟨r, dx, G, rfl, hr0, gr, wf, k⟩ := h
  refine ⟨_, rfl, r, dx, _, rfl, hr0, rfl, ?_⟩
  exact ⟨_, rfl, r, dx, [], G, rfl, hr0, .inl rfl, gr, wf, k⟩
end
end By

namespace By
open PySem PySem.Spec PyProof.Rows L2
open Ql75 (Own Bytes between)

section
variable {P : Program} {w : World} {K : PySem.W.Frag} {mg : Str → Option Value} {base : Heap} {C : Cs}
theorem sc_go_down : FnScope ["self", "p"] ["self", "p"] (defScope s_go_down) := ⟨rfl, rfl, rfl, by decide +kernel, rfl, by decide +kernel, by decide +kernel⟩
theorem ok_go_down (T : Txt K mg C) (D : MDef K C.rt "go_down" "Router.go_down" s_go_down) (h_drop_holder_everywhere : MOk P w K mg base C.bk "drop_holder_everywhere" 3 ["self", "p"] (sp_drop_holder_everywhere K C)) (h_fall : MOk P w K mg base C.ln "fall" 1 ["self"] (sp_fall K C)) : MOk P w K mg base C.rt "go_down" 4 ["self", "p"] (sp_go_down K C) := by
  obtain ⟨f_drop_holder_everywhere, fd_drop_holder_everywhere, M_drop_holder_everywhere, b_drop_holder_everywhere, G_drop_holder_everywhere⟩ := h_drop_holder_everywhere
  obtain ⟨f_fall, fd_fall, M_fall, b_fall, G_fall⟩ := h_fall
  obtain ⟨f, fd, M, F⟩ := D
  refine ⟨f, fd, M, F.binds (ps := ["self", "p"]) fun _ _ _ _ _ _ us hl => match us, hl with | [_, _], _ => rfl, F.ok sc_go_down (fun vs H Q E h => ?_) (fun cdv A outer s H vs Q E hr h => ?_)⟩
  · obtain ⟨_, _, rfl, _⟩ := h
    rfl
  obtain ⟨x0, x1, rfl, h⟩ := h
  have hu := hu_of hr
  refine ⟨_, (pss_cons (ps_expr (pe_meth0 (pe_ix ix_list (pe_fld (pv 0) rfl) (pv 1) (fun _ _ => rfl)) T.cl_ln M_fall G_fall (hr.mono (by decide)) b_fall .nil pass0))
      (pss_one (ps_expr (pe_meth (pe_fld (pv 0) rfl) T.cl_bk M_drop_holder_everywhere G_drop_holder_everywhere (hr.mono (by decide)) b_drop_holder_everywhere .nil pass0 (pa_cons (pv 1) pa_nil))))), ?_⟩
  obtain ⟨r, G, A, s0, p, rfl, rfl, R, W, hp, k⟩ := h
  obtain ⟨dr, e1⟩ := R.rt
  obtain ⟨dx, hh, ww, kvs, vs, l1, g1, l2, g2, hk, l3, g3, fr⟩ := (R.line p hp).ex
  refine ⟨_, rfl, r, C.rt, dr, _, _, rfl, e1, T.cl_rt, T.n_rt_lines, rt_lines, _, rfl, A.ls, _, _, _, rfl, rfl, SqL.of R.ls, at_nat (i := p) (ls_get A hp), A.ln p, dx, _, rfl, l1, ln_no (by decide +kernel), ?_⟩
  refine ⟨_, rfl, A.ln p, dx, _, hh, ww, rfl, l1, fun h l H1 h0 l0 nhl q1 q2 q3 k1 => ?_⟩
  obtain ⟨G1, R1, t1⟩ := R.fall W hp l1 g1 h0 l0 nhl q1 q2 q3 k1
  obtain ⟨dr1, e2⟩ := R1.rt
  obtain ⟨db, e3⟩ := R1.book.bk
  refine ⟨_, rfl, r, C.rt, dr1, _, _, rfl, e2, T.cl_rt, T.n_rt_book, rt_book, A.bk, db, _, rfl, e3, bk_no (by decide +kernel), _, rfl, ?_⟩
  refine ⟨_, _, rfl, G1, A, _, p, rfl, rfl, R1.book, R1.wf, fun o ho => (W.held o ho).1, fun H2 B2 t2 => ?_⟩
  have R2 := R1.onBook t2 (R1.wf.step t2) B2 rfl
  exact k G1 H2 R2 (t1.trans (t2.mono inBook_mut))
end
end By

namespace By
open PySem PySem.Spec PyProof.Rows L2
open Ql75 (Own Bytes between)

section
variable {P : Program} {w : World} {K : PySem.W.Frag} {mg : Str → Option Value} {base : Heap} {C : Cs}
theorem sc_say : FnScope ["self", "p", "frame", "line"] ["self", "p", "frame"] (defScope s_say) := ⟨rfl, rfl, rfl, by decide +kernel, rfl, by decide +kernel, by decide +kernel⟩
theorem ok_say (T : Txt K mg C) (D : MDef K C.rt "say" "Router.say" s_say) (h_is_full : MOk P w K mg base C.ln "is_full" 1 ["self"] (sp_is_full K C)) (h_go_down : MOk P w K mg base C.rt "go_down" 4 ["self", "p"] (sp_go_down K C)) : MOk P w K mg base C.rt "say" 5 ["self", "p", "frame"] (sp_say K C) := by
  obtain ⟨f_is_full, fd_is_full, M_is_full, b_is_full, G_is_full⟩ := h_is_full
  obtain ⟨f_go_down, fd_go_down, M_go_down, b_go_down, G_go_down⟩ := h_go_down
  obtain ⟨f, fd, M, F⟩ := D
  refine ⟨f, fd, M, F.binds (ps := ["self", "p", "frame"]) fun _ _ _ _ _ _ us hl => match us, hl with | [_, _, _], _ => rfl, F.ok sc_say (fun vs H Q E h => ?_) (fun cdv A outer s H vs Q E hr h => ?_)⟩
  · obtain ⟨_, _, _, rfl, _⟩ := h
    rfl
  obtain ⟨x0, x1, x2, rfl, h⟩ := h
  have hu := hu_of hr
  refine ⟨_, (pss_cons (ps_set (i := 3) sc_say.nd rfl (Or.inl rfl) (pe_ix ix_list (pe_fld (pv 0) rfl) (pv 1) (fun _ _ => rfl)))
      (pss_cons (ps_if (pt_not (pt_val (pe_fld (pv 3) rfl))) (pss_one ps_retN) pss_nil)
      (pss_one (ps_if (pt_val (pe_meth0 (pv 3) T.cl_ln M_is_full G_is_full (hr.mono (by decide)) b_is_full .nil pass0)) (pss_one (ps_expr (pe_meth (pv 0) T.cl_rt M_go_down G_go_down (hr.mono (by decide)) b_go_down .nil pass0 (pa_cons (pv 1) pa_nil)))) (pss_one (ps_expr (pe_bm PySem.F.plainAttrs_list PySem.F.slot_list_append PySem.F.type_list_append mt_append (pe_fld (pv 3) rfl) (pa_cons (pv 2) pa_nil)))))))), ?_⟩
  obtain ⟨r, G, A, s0, p, fa, b, rfl, rfl, rfl, R, W, hp, hf, gf, k⟩ := h
  obtain ⟨dr, e1⟩ := R.rt
  obtain ⟨dx, hh, ww, kvs, vs, l1, g1, l2, g2, hk, l3, g3, fr⟩ := (R.line p hp).ex
  have lv : vs.length = (s0.waiting p).length := Paired.length fr
  refine ⟨_, rfl, r, C.rt, dr, _, _, rfl, e1, T.cl_rt, T.n_rt_lines, rt_lines, _, rfl, A.ls, _, _, _, rfl, rfl, SqL.of R.ls, at_nat (i := p) (ls_get A hp), ?_⟩
  refine ⟨_, rfl, A.ln p, C.ln, dx, _, _, rfl, l1, T.cl_ln, T.n_ln_up, ln_up, _, rfl, ?_⟩
  rcases say_cases s0 p b with ⟨hu, e⟩ | ⟨hu, hl, e⟩ | ⟨hu, hl, e⟩
  · rw [hu]
    refine iteT ?_
    exact k G H (by rw [e]; exact R) (Step.refl _ _ _)
  · rw [hu] at l1 ⊢
    refine iteF ?_
    refine ⟨_, rfl, A.ln p, dx, _, rfl, l1, ln_no (by decide +kernel), ?_⟩
    refine ⟨_, rfl, A.ln p, dx, _, hh, ww, vs, rfl, l1, l3, _, rfl, ?_⟩
    rw [decide_eq_true (by omega : 256 ≤ vs.length)]
    refine iteT ?_
    refine ⟨_, rfl, r, dr, _, rfl, e1, rt_no (by decide +kernel), _, rfl, ?_⟩
    refine ⟨_, _, rfl, r, G, A, s0, p, rfl, rfl, R, W, hp, fun G1 H1 R1 t1 => ?_⟩
    exact k G1 H1 (by rw [e]; exact R1) t1
  · rw [hu] at l1 ⊢
    refine iteF ?_
    refine ⟨_, rfl, A.ln p, dx, _, rfl, l1, ln_no (by decide +kernel), ?_⟩
    refine ⟨_, rfl, A.ln p, dx, _, hh, ww, vs, rfl, l1, l3, _, rfl, ?_⟩
    rw [decide_eq_false (by omega : ¬ 256 ≤ vs.length)]
    refine iteF ?_
    refine ⟨_, rfl, A.ln p, C.ln, dx, _, _, rfl, l1, T.cl_ln, T.n_ln_waiting, ln_waiting, .inl ⟨rfl, _, SqL.of l3⟩, _, rfl, ww, _, _, rfl, rfl, l3, sz (by omega), ?_⟩
    obtain ⟨R1, t1⟩ := R.wait W hp l1 (H1 := upd H ww (.lst (vs ++ [.ref fa]))) upd_same (fun b hb => upd_ne hb) (Frs.snoc ⟨fa, rfl, hf, gf⟩ fr)
    exact k G _ (by rw [e, addOut_eq]; exact R1) t1
end
end By

namespace By
open PySem PySem.Spec PyProof.Rows L2
open Ql75 (Own Bytes between)

section
variable {P : Program} {w : World} {K : PySem.W.Frag} {mg : Str → Option Value} {base : Heap} {C : Cs}
theorem sc_take_back_everywhere : FnScope ["self", "label", "holders", "p"] ["self", "label"] (defScope s_take_back_everywhere) := ⟨rfl, rfl, rfl, by decide +kernel, rfl, by decide +kernel, by decide +kernel⟩
theorem ok_take_back_everywhere (T : Txt K mg C) (D : MDef K C.rt "take_back_everywhere" "Router.take_back_everywhere" s_take_back_everywhere) (h_say : MOk P w K mg base C.rt "say" 5 ["self", "p", "frame"] (sp_say K C)) (h_message_frame : FOk P w K mg base "message_frame" 1 ["what", "end", "number"] (sp_message_frame K C)) (h_take_back : MOk P w K mg base C.bk "take_back" 2 ["self", "label"] (sp_take_back K C)) : MOk P w K mg base C.rt "take_back_everywhere" 6 ["self", "label"] (sp_take_back_everywhere K C) := by
  obtain ⟨f_say, fd_say, M_say, b_say, G_say⟩ := h_say
  obtain ⟨f_message_frame, fd_message_frame, m_message_frame, k_message_frame, b_message_frame, G_message_frame⟩ := h_message_frame
  obtain ⟨f_take_back, fd_take_back, M_take_back, b_take_back, G_take_back⟩ := h_take_back
  obtain ⟨f, fd, M, F⟩ := D
  refine ⟨f, fd, M, F.binds (ps := ["self", "label"]) fun _ _ _ _ _ _ us hl => match us, hl with | [_, _], _ => rfl, F.ok sc_take_back_everywhere (fun vs H Q E h => ?_) (fun cdv A outer s H vs Q E hr h => ?_)⟩
  · obtain ⟨_, _, rfl, _⟩ := h
    rfl
  obtain ⟨x0, x1, rfl, h⟩ := h
  have hu := hu_of hr
  refine ⟨_, (pss_cons (ps_set (i := 2) sc_take_back_everywhere.nd rfl (Or.inl rfl) (pe_callTy call_list_of (by rfl) T.b_list boot_list (pa_cons (pe_fld (pv 1) rfl) pa_nil)))
      (pss_cons (ps_expr (pe_meth (pe_fld (pv 0) rfl) T.cl_bk M_take_back G_take_back (hr.mono (by decide)) b_take_back .nil pass0 (pa_cons (pv 1) pa_nil)))
      (pss_one (ps_for PassesOwn.never rfl (pi_list (pv 2)) (pg_name (i := 3) sc_take_back_everywhere.nd rfl (Or.inl rfl)) (pss_one (ps_expr (pe_meth (pv 0) T.cl_rt M_say G_say (hr.mono (by decide)) b_say .nil pass0 (pa_cons (pv 3) (pa_cons (pe_call G_message_frame (hr.mono (by decide)) rfl m_message_frame k_message_frame b_message_frame .nil pass0 (pa_cons (pe_k rfl T.c_TAKEN_BACK) (pa_cons (pe_fld (pv 1) rfl) (pa_cons (pe_fld (pv 1) rfl) pa_nil)))) pa_nil))))))))), ?_⟩
  obtain ⟨r, G, A, s0, o, f, rfl, rfl, R, W, hact, k⟩ := h
  obtain ⟨ho, ha, hf⟩ := active_some hact
  obtain ⟨dl, hs, o1, og1, o2, og2⟩ := (R.book.lab o ho).ex
  refine ⟨_, rfl, _, C.lb, dl, _, _, rfl, o1, T.cl_lb, T.n_lb_holders, lb_holders, hs, _, rfl, .inl (SqL.of o2), fun q hq => ?_⟩
  obtain ⟨R1, t1⟩ := R.more (upd_same_keep (o := .lst (o.held.map nV)) hq)
  obtain ⟨dr, e1⟩ := R1.rt
  obtain ⟨db, e2⟩ := R1.book.bk
  refine ⟨_, rfl, r, C.rt, dr, _, _, rfl, e1, T.cl_rt, T.n_rt_book, rt_book, A.bk, db, _, rfl, e2, bk_no (by decide +kernel), _, rfl, ?_⟩
  refine ⟨_, _, rfl, G, A, _, o, rfl, rfl, R1.book, ho, fun H2 B2 t2 => ?_⟩
  have R2 : RtAt C G H2 r A (unA o.label s0) := R1.onBook t2 (R1.wf.step t2) B2 rfl
  have W2 := W.unA o.label
  have gq : G q = .non := R.wf q hq
  have q2 : H2 q = some (.lst (o.held.map nV)) := t2.keep q _ upd_same (by rw [gq]; exact id)
  have o3 : (upd H q (.lst (o.held.map nV))) (A.lb o.label) = some (.ins C.lb dl (lbF o.label o.for_ o.active hs)) := by rw [upd_ne (ne_of_none o1 hq)]; exact o1
  refine ⟨_, rfl, q, rfl, ⟨_, SqL.of q2⟩, for_list (K := K) (a := q) (xs := o.held.map nV) (fun i σ H' => (∃ v : Option V, σ = [some (.ref r), some (.ref (A.lb o.label)), some (.ref q), v]) ∧ ∃ G', RtAt C G' H' r A (sayTo (Ql75.message 2 f o.label) i o.held (unA o.label s0)) ∧ Step isMut G (upd H q (.lst (o.held.map nV))) G' H')
    ⟨⟨none, rfl⟩, G, R2, t2.mono inBook_mut⟩ (fun i σ H' _ z => by
      obtain ⟨_, G', _, t'⟩ := z
      exact SqL.of (t'.keep q _ upd_same (by rw [gq]; exact id))) ?_ ?_⟩
  · rintro i y σ H3 hi ⟨⟨v, rfl⟩, G3, R3, t3⟩
    obtain ⟨p, hp, rfl⟩ := map_get hi
    have hp8 : p < 8 := (W.held o ho).2 p (List.mem_of_getElem? hp)
    have W3 : Wf (sayTo (Ql75.message 2 f o.label) i o.held (unA o.label s0)) := (say_fold (message_length 2 f o.label) _ _ W2).1
    obtain ⟨o4, ho4, lk⟩ := t3.live _ _ o3
    obtain ⟨a5, h5, e5⟩ := lk _ _ _ _ _ _ rfl
    subst e5
    obtain ⟨dr3, e3⟩ := R3.rt
    refine ⟨_, rfl, r, dr3, _, rfl, e3, rt_no (by decide +kernel), _, rfl, ?_⟩
    refine ⟨_, rfl, _, C.lb, dl, _, _, rfl, ho4, T.cl_lb, T.n_lb_end, lb_end, _, rfl, _, C.lb, dl, _, _, rfl, ho4, T.cl_lb, T.n_lb_number, lb_number, ?_⟩
    refine ⟨_, _, _, rfl, 2, o.for_, o.label, rfl, rfl, rfl, fun fa H4 hf0 hf1 k1 => ?_⟩
    obtain ⟨R4, t4⟩ := R3.frame hf0 hf1 fun b u e => by rw [k1 b (ne_of_none e hf0)]; exact e
    refine ⟨_, _, _, rfl, r, setG G3 fa .frame, A, _, p, fa, _, rfl, rfl, rfl, R4, W3, hp8, hf1, setG_same, fun G5 H5 R5 t5 => ?_⟩
    rw [hf, ← sayTo_succ hp] at R5
    exact ⟨⟨_, rfl⟩, G5, R5, t3.trans (t4.trans t5)⟩
  · rintro σ H3 ⟨⟨v, rfl⟩, G3, R3, t3⟩
    rw [List.length_map, ← takeBack_eq] at R3
    exact k G3 H3 R3 (t1.trans t3)
end
end By

namespace By
open PySem PySem.Spec PyProof.Rows L2
open Ql75 (Own Bytes between)

section
variable {P : Program} {w : World} {K : PySem.W.Frag} {mg : Str → Option Value} {base : Heap} {C : Cs}
theorem sc_give : FnScope ["self", "label", "p"] ["self", "label", "p"] (defScope s_give) := ⟨rfl, rfl, rfl, by decide +kernel, rfl, by decide +kernel, by decide +kernel⟩
theorem ok_give (T : Txt K mg C) (D : MDef K C.rt "give" "Router.give" s_give) (h_say : MOk P w K mg base C.rt "say" 5 ["self", "p", "frame"] (sp_say K C)) (h_message_frame : FOk P w K mg base "message_frame" 1 ["what", "end", "number"] (sp_message_frame K C)) : MOk P w K mg base C.rt "give" 6 ["self", "label", "p"] (sp_give K C) := by
  obtain ⟨f_say, fd_say, M_say, b_say, G_say⟩ := h_say
  obtain ⟨f_message_frame, fd_message_frame, m_message_frame, k_message_frame, b_message_frame, G_message_frame⟩ := h_message_frame
  obtain ⟨f, fd, M, F⟩ := D
  refine ⟨f, fd, M, F.binds (ps := ["self", "label", "p"]) fun _ _ _ _ _ _ us hl => match us, hl with | [_, _, _], _ => rfl, F.ok sc_give (fun vs H Q E h => ?_) (fun cdv A outer s H vs Q E hr h => ?_)⟩
  · obtain ⟨_, _, _, rfl, _⟩ := h
    rfl
  obtain ⟨x0, x1, x2, rfl, h⟩ := h
  have hu := hu_of hr
  refine ⟨_, (pss_one (ps_if (pt_val (pe_fld (pe_ix ix_list (pe_fld (pv 0) rfl) (pv 2) (fun _ _ => rfl)) rfl)) (pss_cons (ps_expr (pe_bm PySem.F.plainAttrs_list PySem.F.slot_list_append PySem.F.type_list_append mt_append (pe_fld (pv 1) rfl) (pa_cons (pv 2) pa_nil)))
      (pss_one (ps_expr (pe_meth (pv 0) T.cl_rt M_say G_say (hr.mono (by decide)) b_say .nil pass0 (pa_cons (pv 2) (pa_cons (pe_call G_message_frame (hr.mono (by decide)) rfl m_message_frame k_message_frame b_message_frame .nil pass0 (pa_cons (pe_k rfl T.c_GIVEN) (pa_cons (pe_fld (pv 1) rfl) (pa_cons (pe_fld (pv 1) rfl) pa_nil)))) pa_nil)))))) pss_nil)), ?_⟩
  obtain ⟨r, G, A, s0, o, p, rfl, rfl, rfl, R, W, hp, ho, hn, k⟩ := h
  obtain ⟨dr, e1⟩ := R.rt
  obtain ⟨dx, hh, ww, kvs, vs, l1, g1, l2, g2, hk, l3, g3, fr⟩ := (R.line p hp).ex
  obtain ⟨dl, hs, o1, og1, o2, og2⟩ := (R.book.lab o ho).ex
  refine ⟨_, rfl, r, C.rt, dr, _, _, rfl, e1, T.cl_rt, T.n_rt_lines, rt_lines, _, rfl, A.ls, _, _, _, rfl, rfl, SqL.of R.ls, at_nat (i := p) (ls_get A hp), A.ln p, C.ln, dx, _, _, rfl, l1, T.cl_ln, T.n_ln_up, ln_up, _, rfl, ?_⟩
  rw [gives_eq] at k
  cases hu : s0.isUp p with
  | false =>
    rw [hu, if_pos rfl] at k
    exact iteF (k G H R (Step.refl _ _ _))
  | true =>
    rw [hu, if_neg (by intro z; cases z)] at k
    refine iteT ?_
    refine ⟨_, rfl, _, C.lb, dl, _, _, rfl, o1, T.cl_lb, T.n_lb_holders, lb_holders, .inl ⟨rfl, _, SqL.of o2⟩, _, rfl, hs, _, _, rfl, rfl, o2, sz (by rw [List.length_map]; have := W.held_few ho; omega), ?_⟩
    have nh : hs ≠ A.lb o.label := ne_ro (G := G) (by rw [og1, og2]; intro z; cases z)
    have ea : addH o.label p o = { o with held := o.held ++ [p] } := if_pos ⟨rfl, by
      cases c : o.held.contains p with
      | false => rfl
      | true => exact absurd (List.contains_iff_mem.mp c) hn⟩
    obtain ⟨B1, t1⟩ := R.book.label ho (addH o.label p) (addH_label o.label p) (H' := upd H hs (.lst (o.held.map nV ++ [nV p])))
      ⟨dl, hs, by rw [ea, upd_ne nh.symm]; exact o1, by rw [ea]; exact og1, by rw [ea, upd_same]; show _ = some (HO.lst ((o.held ++ [p]).map nV)); rw [List.map_append]; rfl, by rw [ea]; exact og2⟩
      (fun b u e n1 n2 => by rw [upd_ne (by rintro rfl; exact n2 og2)]; exact e) (one_live o2 upd_same LbK.lst fun b hb => upd_ne hb)
    have em : (s0.owns.map fun x => if x.label = o.label then addH o.label p x else x) = s0.owns.map (addH o.label p) := List.map_congr_left fun x _ => by
      by_cases z : x.label = o.label
      · rw [if_pos z]
      · rw [if_neg z]
        unfold addH
        rw [if_neg fun y => z y.1]
    rw [em] at B1
    have R1 := R.onBook t1 (R.wf.step t1) B1 rfl
    have e2 : (upd H hs (.lst (o.held.map nV ++ [nV p]))) (A.lb o.label) = some (.ins C.lb dl (lbF o.label o.for_ o.active hs)) := by rw [upd_ne nh.symm]; exact o1
    obtain ⟨dr1, e3⟩ := R1.rt
    refine ⟨_, rfl, r, dr1, _, rfl, e3, rt_no (by decide +kernel), _, rfl, ?_⟩
    refine ⟨_, rfl, _, C.lb, dl, _, _, rfl, e2, T.cl_lb, T.n_lb_end, lb_end, _, rfl, _, C.lb, dl, _, _, rfl, e2, T.cl_lb, T.n_lb_number, lb_number, ?_⟩
    refine ⟨_, _, _, rfl, 1, o.for_, o.label, rfl, rfl, rfl, fun fa H2 hf0 hf1 k1 => ?_⟩
    obtain ⟨R2, t2⟩ := R1.frame hf0 hf1 fun b u e => by rw [k1 b (ne_of_none e hf0)]; exact e
    refine ⟨_, _, _, rfl, r, setG G fa .frame, A, _, p, fa, _, rfl, rfl, rfl, R2, W.withH o.label hp, hp, hf1, setG_same, fun G3 H3 R3 t3 => ?_⟩
    exact k G3 H3 R3 ((t1.mono inBook_mut).trans (t2.trans t3))
end
end By

namespace By
open PySem PySem.Spec PyProof.Rows L2
open Ql75 (Own Bytes between)

section
variable {P : Program} {w : World} {K : PySem.W.Frag} {mg : Str → Option Value} {base : Heap} {C : Cs}
theorem sc_give_everywhere : FnScope ["self", "label", "p"] ["self", "label"] (defScope s_give_everywhere) := ⟨rfl, rfl, rfl, by decide +kernel, rfl, by decide +kernel, by decide +kernel⟩
theorem ok_give_everywhere (T : Txt K mg C) (D : MDef K C.rt "give_everywhere" "Router.give_everywhere" s_give_everywhere) (h_give : MOk P w K mg base C.rt "give" 6 ["self", "label", "p"] (sp_give K C)) : MOk P w K mg base C.rt "give_everywhere" 7 ["self", "label"] (sp_give_everywhere K C) := by
  obtain ⟨f_give, fd_give, M_give, b_give, G_give⟩ := h_give
  obtain ⟨f, fd, M, F⟩ := D
  refine ⟨f, fd, M, F.binds (ps := ["self", "label"]) fun _ _ _ _ _ _ us hl => match us, hl with | [_, _], _ => rfl, F.ok sc_give_everywhere (fun vs H Q E h => ?_) (fun cdv A outer s H vs Q E hr h => ?_)⟩
  · obtain ⟨_, _, rfl, _⟩ := h
    rfl
  obtain ⟨x0, x1, rfl, h⟩ := h
  have hu := hu_of hr
  refine ⟨_, (pss_one (ps_for PassesOwn.never rfl (pi_range1 rfl T.b_range (pa_cons (pe_k rfl T.c_LINES) pa_nil)) (pg_name (i := 2) sc_give_everywhere.nd rfl (Or.inl rfl)) (pss_one (ps_expr (pe_meth (pv 0) T.cl_rt M_give G_give (hr.mono (by decide)) b_give .nil pass0 (pa_cons (pv 1) (pa_cons (pv 2) pa_nil))))))), ?_⟩
  obtain ⟨r, G, A, s0, o, rfl, rfl, R, W, ho, ha, hh, k⟩ := h
  refine ⟨8, rfl, by decide, by decide, for_it (L2.walk_range (lo := 0) (n := 8)) (fun i σ H' => (∃ v : Option V, σ = [some (.ref r), some (.ref (A.lb o.label)), v]) ∧ ∃ G', RtAt C G' H' r A (givesTo o.label o.for_ i s0) ∧ Step isMut G H G' H')
    ⟨⟨none, rfl⟩, G, R, Step.refl _ _ _⟩ (fun _ _ _ _ _ => trivial) ?_ ?_⟩
  · rintro i x σ H1 H2 hi ⟨⟨v, rfl⟩, G1, R1, t1⟩ ⟨rfl, rfl⟩
    obtain ⟨W1, _, _⟩ := givesTo_all W o.label o.for_ i (Nat.le_of_lt hi)
    obtain ⟨y, hy, e1, e2, hn⟩ := givesTo_own W ho ha hh (Nat.le_of_lt hi)
    obtain ⟨dr, e3⟩ := R1.rt
    refine ⟨_, rfl, r, dr, _, rfl, e3, rt_no (by decide +kernel), _, rfl, _, rfl, ?_⟩
    refine ⟨_, _, _, rfl, r, G1, A, _, y, i, rfl, (by rw [e1]), (by show V.int (0 + (i : Int)) = V.int (i : Int); rw [Int.zero_add]), R1, W1, hi, hy, hn, fun G2 H3 R2 t2 => ?_⟩
    rw [e1, e2, ← givesTo_succ] at R2
    exact ⟨⟨_, rfl⟩, G2, R2, t1.trans t2⟩
  · rintro σ H1 ⟨⟨v, rfl⟩, G1, R1, t1⟩
    exact k G1 H1 R1 t1
end
end By

namespace By
open PySem PySem.Spec PyProof.Rows L2
open Ql75 (Own Bytes between)

section
variable {P : Program} {w : World} {K : PySem.W.Frag} {mg : Str → Option Value} {base : Heap} {C : Cs}
theorem sc_lr_way : FnScope ["self", "f", "to", "before", "number"] ["self", "f", "to"] (defScope s_lr_way) := ⟨rfl, rfl, rfl, by decide +kernel, rfl, by decide +kernel, by decide +kernel⟩
theorem ok_lr_way (T : Txt K mg C) (D : MDef K C.rt "lr_way" "Router.lr_way" s_lr_way) (h_take_back_everywhere : MOk P w K mg base C.rt "take_back_everywhere" 6 ["self", "label"] (sp_take_back_everywhere K C)) (h_active_for : MOk P w K mg base C.bk "active_for" 2 ["self", "end"] (sp_active_for K C)) (h_give_everywhere : MOk P w K mg base C.rt "give_everywhere" 7 ["self", "label"] (sp_give_everywhere K C)) (h_make : MOk P w K mg base C.bk "make" 3 ["self", "number", "end"] (sp_make K C)) (h_least_free : MOk P w K mg base C.bk "least_free" 1 ["self"] (sp_least_free K C)) (h_is_end : FOk P w K mg base "is_end" 1 ["f"] (sp_is_end K C)) : MOk P w K mg base C.rt "lr_way" 8 ["self", "f", "to"] (sp_lr_way K C) := by
  obtain ⟨f_take_back_everywhere, fd_take_back_everywhere, M_take_back_everywhere, b_take_back_everywhere, G_take_back_everywhere⟩ := h_take_back_everywhere
  obtain ⟨f_active_for, fd_active_for, M_active_for, b_active_for, G_active_for⟩ := h_active_for
  obtain ⟨f_give_everywhere, fd_give_everywhere, M_give_everywhere, b_give_everywhere, G_give_everywhere⟩ := h_give_everywhere
  obtain ⟨f_make, fd_make, M_make, b_make, G_make⟩ := h_make
  obtain ⟨f_least_free, fd_least_free, M_least_free, b_least_free, G_least_free⟩ := h_least_free
  obtain ⟨f_is_end, fd_is_end, m_is_end, k_is_end, b_is_end, G_is_end⟩ := h_is_end
  obtain ⟨f, fd, M, F⟩ := D
  refine ⟨f, fd, M, F.binds (ps := ["self", "f", "to"]) fun _ _ _ _ _ _ us hl => match us, hl with | [_, _, _], _ => rfl, F.ok sc_lr_way (fun vs H Q E h => ?_) (fun cdv A outer s H vs Q E hr h => ?_)⟩
  · obtain ⟨_, _, _, rfl, _⟩ := h
    rfl
  obtain ⟨x0, x1, x2, rfl, h⟩ := h
  have hu := hu_of hr
  refine ⟨_, (pss_cons (ps_if (PW.pt (pw_or (pt_not (pt_val (pe_call G_is_end (hr.mono (by decide)) rfl m_is_end k_is_end b_is_end .nil pass0 (pa_cons (pv 1) pa_nil)))) (pw_or1 (pt_not (pt_chain op_le op_le (pe_k rfl T.c_NO_WAY) (pv 2) (pe_k rfl T.c_HERE)))))) (pss_one (ps_ret (pe_k rfl T.c_OUT_OF_RANGE))) pss_nil)
      (pss_cons (ps_set (i := 3) sc_lr_way.nd rfl (Or.inl rfl) (pe_ix ix_list (pe_fld (pv 0) rfl) (pv 1) (fun _ _ => rfl)))
      (pss_cons (ps_if (PW.pt (pw_and (pt_cmpR op_eq (pv 3) (pe_k rfl T.c_NO_WAY) (nomark _)) (pw_and1 (pt_cmpR op_ne (pv 2) (pe_k rfl T.c_NO_WAY) (nomark _))))) (pss_cons (ps_set (i := 4) sc_lr_way.nd rfl (Or.inl rfl) (pe_meth0 (pe_fld (pv 0) rfl) T.cl_bk M_least_free G_least_free (hr.mono (by decide)) b_least_free .nil pass0))
      (pss_cons (ps_if (pt_cmpR op_isN (pv 4) pe_non (nomark _)) (pss_one (ps_ret (pe_k rfl T.c_NOT_NOW))) pss_nil)
      (pss_one (ps_expr (pe_meth (pv 0) T.cl_rt M_give_everywhere G_give_everywhere (hr.mono (by decide)) b_give_everywhere .nil pass0 (pa_cons (pe_meth (pe_fld (pv 0) rfl) T.cl_bk M_make G_make (hr.mono (by decide)) b_make .nil pass0 (pa_cons (pv 4) (pa_cons (pv 1) pa_nil))) pa_nil)))))) pss_nil)
      (pss_cons (ps_if (PW.pt (pw_and (pt_cmpR op_ne (pv 3) (pe_k rfl T.c_NO_WAY) (nomark _)) (pw_and1 (pt_cmpR op_eq (pv 2) (pe_k rfl T.c_NO_WAY) (nomark _))))) (pss_one (ps_expr (pe_meth (pv 0) T.cl_rt M_take_back_everywhere G_take_back_everywhere (hr.mono (by decide)) b_take_back_everywhere .nil pass0 (pa_cons (pe_meth (pe_fld (pv 0) rfl) T.cl_bk M_active_for G_active_for (hr.mono (by decide)) b_active_for .nil pass0 (pa_cons (pv 1) pa_nil)) pa_nil)))) pss_nil)
      (pss_cons (ps_asg (pv 2) (pg_sub (pe_fld (pv 0) rfl) (pv 1) set_list))
      (pss_one (ps_ret (pe_k rfl T.c_DONE)))))))), ?_⟩
  obtain ⟨r, G, A, s0, f, t, rfl, rfl, rfl, R, k0, k⟩ := h
  have W := k0.wf
  obtain ⟨dr, e1⟩ := R.rt
  have bad : (between f 0 31 = false ∨ ¬ (t = -1 ∨ between t 0 8 = true)) → Q (.int (-2)) H := fun c => k _ _ (spec_way_bad c) A G H R (Step.refl _ _ _)
  refine ⟨_, rfl, _, rfl, f, rfl, _, rfl, ?_⟩
  refine ite_b (fun c => ?_) fun c => ?_
  · refine iteT ?_
    exact bad (.inl (not_b c))
  have hf := not_b' c
  obtain ⟨m, rfl, hm31⟩ := nat_of hf
  have hm : m < 32 := by omega
  refine ⟨_, rfl, _, _, rfl, rfl, _, rfl, ?_⟩
  refine ite_b (fun c1 => ?_) fun c1 => ?_
  rotate_left
  · have c1 : ¬ (-1 : Int) ≤ t := of_decide_eq_false c1
    refine ⟨_, rfl, iteT (bad (.inr fun z => ?_))⟩
    rcases z with z | z
    · omega
    · have := (between_iff.mp z).1; omega
  have c1 : (-1 : Int) ≤ t := of_decide_eq_true c1
  refine ⟨_, _, rfl, rfl, _, rfl, ?_⟩
  refine ite_b (fun c2 => ?_) fun c2 => ?_
  · have c2 : ¬ t ≤ 8 := of_decide_eq_false (not_b c2)
    refine bad (.inr fun z => ?_)
    rcases z with z | z
    · omega
    · have := (between_iff.mp z).2; omega
  have c2 : t ≤ 8 := of_decide_eq_true (not_b' c2)
  have good : ¬ (between (m : Int) 0 31 = false ∨ ¬ (t = -1 ∨ between t 0 8 = true)) := by
    rw [hf]
    rintro (z | z)
    · cases z
    · refine z ?_
      by_cases h : t = -1
      · exact .inl h
      · exact .inr (between_iff.mpr ⟨by omega, by omega⟩)
  -- before = self.ways[f]
  refine ⟨_, rfl, r, C.rt, dr, _, _, rfl, e1, T.cl_rt, T.n_rt_ways, rt_ways, _, rfl, A.wa, _, _, _, rfl, rfl, SqL.of R.ways, at_nat (i := m) (ways_get W hm), ?_⟩
  have ew : wV (toW t) = V.int t := by
    unfold toW
    by_cases h : t = -1
    · rw [if_pos h, h]; rfl
    · rw [if_neg h]
      show V.int ((t.toNat : Nat) : Int) = V.int t
      congr 1
      omega
  -- the end: self.ways[f] = to
  have fin : ∀ (v : Option V) (A1 : Ad) (G1 : Gm) (H1 : Hp) (s1 : SS), A1.wa = A.wa → RtAt C G1 H1 r A1 s1 → s1.ways = s0.ways → Step isMut G H G1 H1 → s0.told m (toW t) = some (setW (s0.ways.set m (toW t)) s1) →
      tSeq (tAsg (tVar 2) (gSub (tFld K (tVar 0) "ways") (tVar 1) rSetL)) (tRet (tC (V.int 0))) { nx := fun x H' => Q V.non H', rt := Q } [some (V.ref r), some (V.int (m : Int)), some (V.int t), some (wV (s0.way m)), v] H1 := fun v A1 G1 H1 s1 ea R1 ws t1 et => by
    obtain ⟨dr1, e2⟩ := R1.rt
    refine ⟨_, rfl, _, rfl, r, C.rt, dr1, _, _, rfl, e2, T.cl_rt, T.n_rt_ways, rt_ways, _, rfl, A1.wa, _, _, m, rfl, rfl, R1.ways, ?_, ?_⟩
    · rw [List.length_map, ws, W.waysL]
      unfold ixN
      rw [if_pos (by omega), if_pos (by omega)]
      rfl
    · obtain ⟨R2, t2⟩ := R1.onWays (W := s1.ways.set m (toW t)) (H' := upd H1 A1.wa (.lst ((s1.ways.map wV).set m (V.int t)))) (fun b hb => upd_ne hb) (by rw [upd_same, List.map_set, ew])
      have R3 : RtAt C G1 (upd H1 A1.wa (.lst ((s1.ways.map wV).set m (V.int t)))) r A1 (setW (s0.ways.set m (toW t)) s1) := by
        have e : s0.ways.set m (toW t) = s1.ways.set m (toW t) := by rw [ws]
        rw [e]
        exact R2
      exact k _ _ (spec_way_some good et) A1 G1 _ R3 (t1.trans t2)
  rcases active_iff k0 hm with ⟨y1, y2⟩ | ⟨w0, o, y1, y2⟩
  · -- none before
    rw [y1] at fin ⊢
    refine ⟨_, rfl, rfl, _, rfl, ?_⟩
    refine iteT ?_
    refine ⟨_, rfl, rfl, _, rfl, ?_⟩
    refine ite_b (fun c3 => ?_) fun c3 => ?_
    · have c3 : ¬ t = -1 := fun z => (of_decide_eq_false (not_b c3)) (by rw [z])
      have et : toW t = some t.toNat := if_neg c3
      obtain ⟨db, e2⟩ := R.book.bk
      refine ⟨_, rfl, r, C.rt, dr, _, _, rfl, e1, T.cl_rt, T.n_rt_book, rt_book, A.bk, db, _, rfl, e2, bk_no (by decide +kernel), ?_⟩
      refine ⟨_, rfl, G, A, _, rfl, R.book, ?_⟩
      have ef : freeL s0.owns = s0.free := rfl
      rw [ef]
      have etold := told_new (s := s0) (f := m) (t := t.toNat) y2
      cases e3 : s0.free with
      | none =>
        rw [e3] at etold
        refine ⟨_, rfl, rfl, _, rfl, ?_⟩
        refine iteT ?_
        exact k _ _ (spec_way_none good (by rw [et]; exact etold)) A G H R (Step.refl _ _ _)
      | some l =>
        rw [e3] at etold
        refine ⟨_, rfl, rfl, _, rfl, ?_⟩
        refine iteF ?_
        obtain ⟨fr1, fr2⟩ := free_range e3
        have w1 := W.newO fr1 hm fr2 y2
        have few1 : s0.owns.length < 1024 := by
          have := w1.few
          have el : (newO l m s0).owns.length = s0.owns.length + 1 := List.length_append
          omega
        refine ⟨_, rfl, r, dr, _, rfl, e1, rt_no (by decide +kernel), _, rfl, r, C.rt, dr, _, _, rfl, e1, T.cl_rt, T.n_rt_book, rt_book, A.bk, db, _, rfl, e2, bk_no (by decide +kernel), _, rfl, _, rfl, ?_⟩
        refine ⟨_, _, _, rfl, G, A, _, l, m, rfl, rfl, rfl, R.book, R.wf, fr2, few1, fun a G1 H1 B1 t1 wf1 => ?_⟩
        have R1 : RtAt C G1 H1 r { A with lb := setL A.lb l a } (newO l m s0) := R.onBook t1 wf1 B1 rfl
        have ea : (setL A.lb l a) l = a := if_pos rfl
        refine ⟨_, _, rfl, r, G1, _, newO l m s0, ⟨l, m, true, []⟩, rfl, (by show V.ref a = V.ref (setL A.lb l a l); rw [ea]), R1, w1, List.mem_append_right _ List.mem_cons_self, rfl, rfl, fun G2 H2 R2 t2 => ?_⟩
        have c4 : (!decide (wV none = V.int (-1))) = false := rfl
        refine ⟨_, rfl, rfl, _, rfl, ?_⟩
        refine iteF ?_
        refine iteF ?_
        exact fin _ { A with lb := setL A.lb l a } G2 H2 (givesTo l m 8 (newO l m s0)) rfl R2 (gives_fold_ways l m _ _) ((t1.mono inBook_mut).trans t2) (by rw [et]; exact etold)
    · have c3 : t = -1 := V.int.inj (of_decide_eq_true (not_b' c3))
      have et : toW t = none := if_pos c3
      refine ⟨_, rfl, rfl, _, rfl, ?_⟩
      refine iteF ?_
      refine iteF ?_
      exact fin _ A G H s0 rfl R rfl (Step.refl _ _ _) (by rw [et]; exact told_same0 y2)
  · -- one before
    rw [y1] at fin ⊢
    have c5 : decide (wV (some w0) = V.int (-1)) = false := decide_eq_false fun z => by have := V.int.inj z; omega
    refine ⟨_, rfl, rfl, _, rfl, ?_⟩
    rw [c5]
    refine iteF ?_
    refine iteF ?_
    refine ⟨_, rfl, rfl, _, rfl, ?_⟩
    rw [c5]
    refine iteT ?_
    refine ⟨_, rfl, rfl, _, rfl, ?_⟩
    refine ite_b (fun c3 => ?_) fun c3 => ?_
    · have c3 : t = -1 := V.int.inj (of_decide_eq_true c3)
      have et : toW t = none := if_pos c3
      obtain ⟨db, e2⟩ := R.book.bk
      refine ⟨_, rfl, r, dr, _, rfl, e1, rt_no (by decide +kernel), _, rfl, r, C.rt, dr, _, _, rfl, e1, T.cl_rt, T.n_rt_book, rt_book, A.bk, db, _, rfl, e2, bk_no (by decide +kernel), _, rfl, ?_⟩
      refine ⟨_, _, rfl, G, A, _, m, rfl, rfl, R.book, fun H1 s1 => ?_⟩
      have eo : (s0.owns.find? fun o => o.active && o.for_ == m) = some o := y2
      rw [eo]
      obtain ⟨R1, t1⟩ := R.more s1
      refine ⟨_, _, rfl, r, G, A, s0, o, m, rfl, rfl, R1, W, y2, fun G2 H2 R2 t2 => ?_⟩
      exact fin _ A G2 H2 _ rfl R2 (say_fold (message_length 2 m o.label) _ _ (W.unA o.label)).2.2 (t1.trans t2) (by rw [et]; exact told_back W y2)
    · have c3 : ¬ t = -1 := fun z => (of_decide_eq_false c3) (by rw [z])
      have et : toW t = some t.toNat := if_neg c3
      exact fin _ A G H s0 rfl R rfl (Step.refl _ _ _) (by rw [et]; exact told_same1 y2)
end
end By

namespace By
open PySem PySem.Spec PyProof.Rows L2
open Ql75 (Own Bytes between)

section
variable {P : Program} {w : World} {K : PySem.W.Frag} {mg : Str → Option Value} {base : Heap} {C : Cs}
theorem sc_lr_line : FnScope ["self", "p", "up", "label"] ["self", "p", "up"] (defScope s_lr_line) := ⟨rfl, rfl, rfl, by decide +kernel, rfl, by decide +kernel, by decide +kernel⟩
theorem ok_lr_line (T : Txt K mg C) (D : MDef K C.rt "lr_line" "Router.lr_line" s_lr_line) (h_all_active : MOk P w K mg base C.bk "all_active" 1 ["self"] (sp_all_active K C)) (h_give : MOk P w K mg base C.rt "give" 6 ["self", "label", "p"] (sp_give K C)) (h_rise : MOk P w K mg base C.ln "rise" 1 ["self"] (sp_rise K C)) (h_go_down : MOk P w K mg base C.rt "go_down" 4 ["self", "p"] (sp_go_down K C)) (h_is_line : FOk P w K mg base "is_line" 1 ["p"] (sp_is_line K C)) : MOk P w K mg base C.rt "lr_line" 7 ["self", "p", "up"] (sp_lr_line K C) := by
  obtain ⟨f_all_active, fd_all_active, M_all_active, b_all_active, G_all_active⟩ := h_all_active
  obtain ⟨f_give, fd_give, M_give, b_give, G_give⟩ := h_give
  obtain ⟨f_rise, fd_rise, M_rise, b_rise, G_rise⟩ := h_rise
  obtain ⟨f_go_down, fd_go_down, M_go_down, b_go_down, G_go_down⟩ := h_go_down
  obtain ⟨f_is_line, fd_is_line, m_is_line, k_is_line, b_is_line, G_is_line⟩ := h_is_line
  obtain ⟨f, fd, M, F⟩ := D
  refine ⟨f, fd, M, F.binds (ps := ["self", "p", "up"]) fun _ _ _ _ _ _ us hl => match us, hl with | [_, _, _], _ => rfl, F.ok sc_lr_line (fun vs H Q E h => ?_) (fun cdv A outer s H vs Q E hr h => ?_)⟩
  · obtain ⟨_, _, _, rfl, _⟩ := h
    rfl
  obtain ⟨x0, x1, x2, rfl, h⟩ := h
  have hu := hu_of hr
  refine ⟨_, (pss_cons (ps_if (pt_not (pt_val (pe_call G_is_line (hr.mono (by decide)) rfl m_is_line k_is_line b_is_line .nil pass0 (pa_cons (pv 1) pa_nil)))) (pss_one (ps_ret (pe_k rfl T.c_OUT_OF_RANGE))) pss_nil)
      (pss_cons (ps_expr (pe_meth (pv 0) T.cl_rt M_go_down G_go_down (hr.mono (by decide)) b_go_down .nil pass0 (pa_cons (pv 1) pa_nil)))
      (pss_cons (ps_if (pt_cmpR op_ne (pv 2) pe_int (nomark _)) (pss_cons (ps_expr (pe_meth0 (pe_ix ix_list (pe_fld (pv 0) rfl) (pv 1) (fun _ _ => rfl)) T.cl_ln M_rise G_rise (hr.mono (by decide)) b_rise .nil pass0))
      (pss_one (ps_for PassesOwn.never rfl (pi_list (pe_meth0 (pe_fld (pv 0) rfl) T.cl_bk M_all_active G_all_active (hr.mono (by decide)) b_all_active .nil pass0)) (pg_name (i := 3) sc_lr_line.nd rfl (Or.inl rfl)) (pss_one (ps_expr (pe_meth (pv 0) T.cl_rt M_give G_give (hr.mono (by decide)) b_give .nil pass0 (pa_cons (pv 3) (pa_cons (pv 1) pa_nil)))))))) pss_nil)
      (pss_one (ps_ret (pe_k rfl T.c_DONE)))))), ?_⟩
  obtain ⟨r, G, A, s0, p, u, rfl, rfl, rfl, R, k0, k⟩ := h
  have W := k0.wf
  obtain ⟨dr, e1⟩ := R.rt
  refine ⟨_, rfl, _, rfl, p, rfl, _, rfl, ?_⟩
  refine ite_b (fun c => ?_) fun c => ?_
  · exact k _ _ (spec_line_bad (not_b c)) A G H R (Step.refl _ _ _)
  · have hf := not_b' c
    have hf' : ¬ between p 0 7 = false := by rw [hf]; intro z; cases z
    obtain ⟨m, rfl, hm7⟩ := nat_of hf
    have hm : m < 8 := by omega
    refine ⟨_, rfl, r, dr, _, rfl, e1, rt_no (by decide +kernel), _, rfl, ?_⟩
    refine ⟨_, _, rfl, r, G, A, s0, m, rfl, rfl, R, W, hm, fun G1 H1 R1 t1 => ?_⟩
    have W1 := W.down m
    obtain ⟨dr1, e2⟩ := R1.rt
    refine ⟨_, rfl, rfl, _, rfl, ?_⟩
    refine ite_b (fun c1 => ?_) fun c1 => ?_
    · have hu : ¬ u = 0 := fun z => (of_decide_eq_false (not_b c1)) (by rw [z])
      obtain ⟨dx, hh, ww, kvs, vs, l1, g1, l2, g2, hk, l3, g3, fr⟩ := (R1.line m hm).ex
      refine ⟨_, rfl, r, C.rt, dr1, _, _, rfl, e2, T.cl_rt, T.n_rt_lines, rt_lines, _, rfl, A.ls, _, _, _, rfl, rfl, SqL.of R1.ls, at_nat (i := m) (ls_get A hm), A.ln m, dx, _, rfl, l1, ln_no (by decide +kernel), ?_⟩
      refine ⟨_, rfl, A.ln m, dx, _, hh, ww, rfl, l1, fun H2 h2 k2 => ?_⟩
      obtain ⟨R2, t2⟩ := R1.rise W1 hm l1 h2 k2
      have W2 : Wf (risen (s0.down m) m) := W1.rise m
      obtain ⟨dr2, e3⟩ := R2.rt
      obtain ⟨db, e4⟩ := R2.book.bk
      refine ⟨_, rfl, r, C.rt, dr2, _, _, rfl, e3, T.cl_rt, T.n_rt_book, rt_book, A.bk, db, _, rfl, e4, bk_no (by decide +kernel), ?_⟩
      refine ⟨_, rfl, G1, A, _, rfl, R2.book, fun q H3 hq hq1 k3 => ?_⟩
      obtain ⟨R3, t3⟩ := R2.more (H1 := H3) fun b o e => by rw [k3 b (ne_of_none e hq)]; exact e
      have gq : G1 q = .non := R2.wf q hq
      refine ⟨q, rfl, ⟨_, SqL.of hq1⟩, for_list (K := K) (a := q) (xs := ((risen (s0.down m) m).owns.filter fun o => o.active).map fun o => V.ref (A.lb o.label)) (fun i σ H' => (∃ v : Option V, σ = [some (.ref r), some (.int (m : Int)), some (.int u), v]) ∧ ∃ G', RtAt C G' H' r A (lineTo m i ((risen (s0.down m) m).owns.filter fun o => o.active) (risen (s0.down m) m)) ∧ Step isMut G1 H3 G' H')
        ⟨⟨none, rfl⟩, G1, R3, Step.refl _ _ _⟩ (fun i σ H' _ z => by
          obtain ⟨_, G', _, t'⟩ := z
          exact SqL.of (t'.keep q _ hq1 (by rw [gq]; exact id))) ?_ ?_⟩
      · rintro i y σ H4 hi ⟨⟨v, rfl⟩, G4, R4, t4⟩
        obtain ⟨o, ho, rfl⟩ := map_get hi
        have hil := (List.getElem?_eq_some_iff.mp ho).1
        obtain ⟨W4, _, _, _⟩ := lineTo_all W2 hm ((risen (s0.down m) m).owns.filter fun o => o.active) i (by omega)
        obtain ⟨z, hz, z1, z2, z3⟩ := lineTo_own W2 hm (down_no s0 m) ho
        obtain ⟨dr4, e5⟩ := R4.rt
        refine ⟨_, rfl, r, dr4, _, rfl, e5, rt_no (by decide +kernel), _, rfl, _, rfl, ?_⟩
        refine ⟨_, _, _, rfl, r, G4, A, _, z, m, rfl, (by rw [z1]), rfl, R4, W4, hm, hz, z3, fun G5 H5 R5 t5 => ?_⟩
        rw [z1, z2, ← lineTo_succ ho] at R5
        exact ⟨⟨_, rfl⟩, G5, R5, t4.trans t5⟩
      · rintro σ H4 ⟨⟨v, rfl⟩, G4, R4, t4⟩
        rw [List.length_map] at R4
        refine k _ _ (spec_line_up hf' hu) A G4 H4 ?_ (t1.trans (t2.trans (t3.trans t4)))
        rw [lineUp_eq]
        exact R4
    · have hu : u = 0 := V.int.inj (of_decide_eq_true (not_b' c1))
      exact k _ _ (spec_line_down hf' hu) A G1 H1 R1 t1
end
end By

namespace By
open PySem PySem.Spec PyProof.Rows L2
open Ql75 (Own Bytes between)

section
variable {P : Program} {w : World} {K : PySem.W.Frag} {mg : Str → Option Value} {base : Heap} {C : Cs}
theorem sc_let_go : FnScope ["self", "p", "end", "number", "label"] ["self", "p", "end", "number"] (defScope s_let_go) := ⟨rfl, rfl, rfl, by decide +kernel, rfl, by decide +kernel, by decide +kernel⟩
theorem ok_let_go (T : Txt K mg C) (D : MDef K C.rt "let_go" "Router.let_go" s_let_go) (h_drop_holder : MOk P w K mg base C.bk "drop_holder" 2 ["self", "label", "p"] (sp_drop_holder K C)) (h_label_at : MOk P w K mg base C.bk "label_at" 1 ["self", "number"] (sp_label_at K C)) : MOk P w K mg base C.rt "let_go" 3 ["self", "p", "end", "number"] (sp_let_go K C) := by
  obtain ⟨f_drop_holder, fd_drop_holder, M_drop_holder, b_drop_holder, G_drop_holder⟩ := h_drop_holder
  obtain ⟨f_label_at, fd_label_at, M_label_at, b_label_at, G_label_at⟩ := h_label_at
  obtain ⟨f, fd, M, F⟩ := D
  refine ⟨f, fd, M, F.binds (ps := ["self", "p", "end", "number"]) fun _ _ _ _ _ _ us hl => match us, hl with | [_, _, _, _], _ => rfl, F.ok sc_let_go (fun vs H Q E h => ?_) (fun cdv A outer s H vs Q E hr h => ?_)⟩
  · obtain ⟨_, _, _, _, rfl, _⟩ := h
    rfl
  obtain ⟨x0, x1, x2, x3, rfl, h⟩ := h
  have hu := hu_of hr
  refine ⟨_, (pss_cons (ps_set (i := 4) sc_let_go.nd rfl (Or.inl rfl) (pe_meth (pe_fld (pv 0) rfl) T.cl_bk M_label_at G_label_at (hr.mono (by decide)) b_label_at .nil pass0 (pa_cons (pv 3) pa_nil)))
      (pss_one (ps_if (PW.pt (pw_and (pt_cmpR op_notN (pv 4) pe_non (nomark _)) (pw_and (pt_cmpR op_eq (pe_fld (pv 4) rfl) (pv 2) (nomark _)) (pw_and1 (pt_not (pt_val (pe_fld (pv 4) rfl))))))) (pss_one (ps_expr (pe_meth (pe_fld (pv 0) rfl) T.cl_bk M_drop_holder G_drop_holder (hr.mono (by decide)) b_drop_holder .nil pass0 (pa_cons (pv 4) (pa_cons (pv 1) pa_nil))))) pss_nil))), ?_⟩
  obtain ⟨r, G, A, s0, p, f, n, rfl, rfl, rfl, rfl, R, W, k⟩ := h
  obtain ⟨dr, e1⟩ := R.rt
  obtain ⟨db, e2⟩ := R.book.bk
  have em : takeMsg s0 p 3 f n = ({ s0 with owns := s0.owns.map fun o => if o.label = n ∧ o.for_ = f ∧ o.active = false then { o with held := o.held.filter fun q => q != p } else o } : SS).freed := rfl
  rw [em] at k
  refine ⟨_, rfl, r, C.rt, dr, _, _, rfl, e1, T.cl_rt, T.n_rt_book, rt_book, A.bk, db, _, rfl, e2, bk_no (by decide +kernel), _, rfl, ?_⟩
  refine ⟨_, _, rfl, G, A, _, n, rfl, rfl, R.book, ?_⟩
  cases e : s0.owns.find? fun o => o.label == n with
  | none =>
    rw [letGo_not W fun o ho hn _ => by
      have := List.find?_eq_none.mp e o ho
      simp [hn] at this] at k
    refine ⟨_, rfl, rfl, _, rfl, ?_⟩
    refine iteF ?_
    refine iteF ?_
    exact k G H R (Step.refl _ _ _)
  | some o =>
    have ho := List.mem_of_find?_eq_some e
    have hn : o.label = n := by simpa using List.find?_some e
    obtain ⟨dl, hs, o1, og1, o2, og2⟩ := (R.book.lab o ho).ex
    have not : ¬ (o.for_ = f ∧ o.active = false) → Q .non H := fun z => by
      rw [letGo_not W fun o' ho' hn' => by
        rw [nd_eq W.nd ho' ho (hn'.trans hn.symm)]
        exact z] at k
      exact k G H R (Step.refl _ _ _)
    refine ⟨_, rfl, rfl, _, rfl, ?_⟩
    refine iteT ?_
    refine ⟨_, rfl, _, C.lb, dl, _, _, rfl, o1, T.cl_lb, T.n_lb_end, lb_end, _, rfl, rfl, _, rfl, ?_⟩
    refine ite_b (fun c => ?_) fun c => ?_
    · have c : o.for_ = f := by
        have c : V.int (o.for_ : Int) = V.int (f : Int) := of_decide_eq_true c
        have := V.int.inj c
        omega
      refine ⟨_, rfl, _, C.lb, dl, _, _, rfl, o1, T.cl_lb, T.n_lb_active, lb_active, _, rfl, ?_⟩
      cases ea : o.active with
      | true => exact iteF (not fun z => by rw [ea] at z; cases z.2)
      | false =>
        rw [letGo_spec W ho hn c ea] at k
        refine iteT ?_
        refine ⟨_, rfl, r, C.rt, dr, _, _, rfl, e1, T.cl_rt, T.n_rt_book, rt_book, A.bk, db, _, rfl, e2, bk_no (by decide +kernel), _, rfl, _, rfl, ?_⟩
        refine ⟨_, _, _, rfl, G, A, _, o, p, rfl, rfl, rfl, R.book, ho, (W.held o ho).1, fun H1 B1 t1 => ?_⟩
        rw [hn] at B1
        exact k G H1 (R.onBook t1 (R.wf.step t1) B1 rfl) (t1.mono inBook_mut)
    · have c : ¬ V.int (o.for_ : Int) = V.int (f : Int) := of_decide_eq_false c
      exact iteF (not fun z => c (by rw [z.1]))
end
end By

namespace By
open PySem PySem.Spec PyProof.Rows L2
open Ql75 (Own Bytes between)

section
variable {P : Program} {w : World} {K : PySem.W.Frag} {mg : Str → Option Value} {base : Heap} {C : Cs}
theorem sc_take_message : FnScope ["self", "p", "what", "end", "number"] ["self", "p", "what", "end", "number"] (defScope s_take_message) := ⟨rfl, rfl, rfl, by decide +kernel, rfl, by decide +kernel, by decide +kernel⟩
theorem ok_take_message (T : Txt K mg C) (D : MDef K C.rt "take_message" "Router.take_message" s_take_message) (h_hear : MOk P w K mg base C.ln "hear" 1 ["self", "end", "number"] (sp_hear K C)) (h_say : MOk P w K mg base C.rt "say" 5 ["self", "p", "frame"] (sp_say K C)) (h_message_frame : FOk P w K mg base "message_frame" 1 ["what", "end", "number"] (sp_message_frame K C)) (h_unhear : MOk P w K mg base C.ln "unhear" 1 ["self", "end", "number"] (sp_unhear K C)) (h_let_go : MOk P w K mg base C.rt "let_go" 3 ["self", "p", "end", "number"] (sp_let_go K C)) : MOk P w K mg base C.rt "take_message" 6 ["self", "p", "what", "end", "number"] (sp_take_message K C) := by
  obtain ⟨f_hear, fd_hear, M_hear, b_hear, G_hear⟩ := h_hear
  obtain ⟨f_say, fd_say, M_say, b_say, G_say⟩ := h_say
  obtain ⟨f_message_frame, fd_message_frame, m_message_frame, k_message_frame, b_message_frame, G_message_frame⟩ := h_message_frame
  obtain ⟨f_unhear, fd_unhear, M_unhear, b_unhear, G_unhear⟩ := h_unhear
  obtain ⟨f_let_go, fd_let_go, M_let_go, b_let_go, G_let_go⟩ := h_let_go
  obtain ⟨f, fd, M, F⟩ := D
  refine ⟨f, fd, M, F.binds (ps := ["self", "p", "what", "end", "number"]) fun _ _ _ _ _ _ us hl => match us, hl with | [_, _, _, _, _], _ => rfl, F.ok sc_take_message (fun vs H Q E h => ?_) (fun cdv A outer s H vs Q E hr h => ?_)⟩
  · obtain ⟨_, _, _, _, _, rfl, _⟩ := h
    rfl
  obtain ⟨x0, x1, x2, x3, x4, rfl, h⟩ := h
  have hu := hu_of hr
  refine ⟨_, (pss_one (ps_if (pt_cmpR op_eq (pv 2) (pe_k rfl T.c_GIVEN) (nomark _)) (pss_one (ps_expr (pe_meth (pe_ix ix_list (pe_fld (pv 0) rfl) (pv 1) (fun _ _ => rfl)) T.cl_ln M_hear G_hear (hr.mono (by decide)) b_hear .nil pass0 (pa_cons (pv 3) (pa_cons (pv 4) pa_nil))))) (pss_one (ps_if (pt_cmpR op_eq (pv 2) (pe_k rfl T.c_TAKEN_BACK) (nomark _)) (pss_cons (ps_expr (pe_meth (pe_ix ix_list (pe_fld (pv 0) rfl) (pv 1) (fun _ _ => rfl)) T.cl_ln M_unhear G_unhear (hr.mono (by decide)) b_unhear .nil pass0 (pa_cons (pv 3) (pa_cons (pv 4) pa_nil))))
      (pss_one (ps_expr (pe_meth (pv 0) T.cl_rt M_say G_say (hr.mono (by decide)) b_say .nil pass0 (pa_cons (pv 1) (pa_cons (pe_call G_message_frame (hr.mono (by decide)) rfl m_message_frame k_message_frame b_message_frame .nil pass0 (pa_cons (pe_k rfl T.c_LET_GO) (pa_cons (pv 3) (pa_cons (pv 4) pa_nil)))) pa_nil)))))) (pss_one (ps_expr (pe_meth (pv 0) T.cl_rt M_let_go G_let_go (hr.mono (by decide)) b_let_go .nil pass0 (pa_cons (pv 1) (pa_cons (pv 3) (pa_cons (pv 4) pa_nil)))))))))), ?_⟩
  obtain ⟨r, G, A, s0, p, c, f, n, rfl, rfl, rfl, rfl, rfl, R, W, hp, hc1, hc3, hf, k⟩ := h
  obtain ⟨dr, e1⟩ := R.rt
  obtain ⟨dx, hh, ww, kvs, vs, l1, g1, l2, g2, hk, l3, g3, fr⟩ := (R.line p hp).ex
  refine ⟨_, rfl, rfl, _, rfl, ?_⟩
  refine ite_b (fun z => ?_) fun z => ?_
  · have z : c = 1 := by
      have z : V.int (c : Int) = V.int 1 := of_decide_eq_true z
      have := V.int.inj z
      omega
    have es : takeMsg s0 p c f n = s0.hear p f (some n) := if_pos z
    refine ⟨_, rfl, r, C.rt, dr, _, _, rfl, e1, T.cl_rt, T.n_rt_lines, rt_lines, _, rfl, A.ls, _, _, _, rfl, rfl, SqL.of R.ls, at_nat (i := p) (ls_get A hp), A.ln p, dx, _, rfl, l1, ln_no (by decide +kernel), _, rfl, _, rfl, ?_⟩
    refine ⟨_, _, _, rfl, A.ln p, dx, _, hh, ww, kvs, f, n, rfl, rfl, rfl, l1, l2, (by have := hk.few; omega), fun H1 h1 k1 => ?_⟩
    obtain ⟨R1, t1⟩ := R.hears W hp l1 h1 k1 (hk.put (W.heardI p hp) hf)
    exact k G H1 (by rw [es]; exact R1) t1
  · have z : ¬ c = 1 := fun y => by
      have z : ¬ V.int (c : Int) = V.int 1 := of_decide_eq_false z
      exact z (by rw [y]; rfl)
    refine ⟨_, rfl, rfl, _, rfl, ?_⟩
    refine ite_b (fun z2 => ?_) fun z2 => ?_
    · have z2 : c = 2 := by
        have z2 : V.int (c : Int) = V.int 2 := of_decide_eq_true z2
        have := V.int.inj z2
        omega
      have es : takeMsg s0 p c f n = (if s0.label p f = some n then s0.hear p f none else s0).say p (Ql75.message 3 f n) := (if_neg z).trans (if_pos z2)
      refine ⟨_, rfl, r, C.rt, dr, _, _, rfl, e1, T.cl_rt, T.n_rt_lines, rt_lines, _, rfl, A.ls, _, _, _, rfl, rfl, SqL.of R.ls, at_nat (i := p) (ls_get A hp), A.ln p, dx, _, rfl, l1, ln_no (by decide +kernel), _, rfl, _, rfl, ?_⟩
      refine ⟨_, _, _, rfl, A.ln p, dx, _, hh, ww, kvs, f, n, s0.label p f, rfl, rfl, rfl, l1, l2, hk.2.2 f hf, fun H1 h1 k1 => ?_⟩
      obtain ⟨R1, t1, W1⟩ : RtAt C G H1 r A (if s0.label p f = some n then s0.hear p f none else s0) ∧ Step isMut G H G H1 ∧ Wf (if s0.label p f = some n then s0.hear p f none else s0) := by
        by_cases y : s0.label p f = some n
        · rw [if_pos y] at h1 ⊢
          obtain ⟨R1, t1⟩ := R.hears W hp l1 h1 k1 (hk.drop (W.heardI p hp) hf)
          exact ⟨R1, t1, W.hear p f none⟩
        · rw [if_neg y] at h1 ⊢
          have same : ∀ b u, H b = some u → H1 b = some u := fun b u e => by
            by_cases q : b = hh
            · rw [q] at e ⊢; rw [h1, ← l2, e]
            · rw [k1 b q]; exact e
          obtain ⟨R1, t1⟩ := R.more same
          exact ⟨R1, t1, W⟩
      obtain ⟨dr1, e2⟩ := R1.rt
      refine ⟨_, rfl, r, dr1, _, rfl, e2, rt_no (by decide +kernel), _, rfl, _, rfl, _, rfl, ?_⟩
      refine ⟨_, _, _, rfl, 3, f, n, rfl, rfl, rfl, fun fa H2 hf0 hf1 k2 => ?_⟩
      obtain ⟨R2, t2⟩ := R1.frame hf0 hf1 fun b u e => by rw [k2 b (ne_of_none e hf0)]; exact e
      refine ⟨_, _, _, rfl, r, setG G fa .frame, A, _, p, fa, _, rfl, rfl, rfl, R2, W1, hp, hf1, setG_same, fun G3 H3 R3 t3 => ?_⟩
      exact k G3 H3 (by rw [es]; exact R3) (t1.trans (t2.trans t3))
    · have z2 : ¬ c = 2 := fun y => by
        have z2 : ¬ V.int (c : Int) = V.int 2 := of_decide_eq_false z2
        exact z2 (by rw [y]; rfl)
      have z3 : c = 3 := by omega
      subst z3
      refine ⟨_, rfl, r, dr, _, rfl, e1, rt_no (by decide +kernel), _, rfl, _, rfl, _, rfl, ?_⟩
      exact ⟨_, _, _, _, rfl, r, G, A, s0, p, f, n, rfl, rfl, rfl, rfl, R, W, k⟩
end
end By

namespace By
open PySem PySem.Spec PyProof.Rows L2
open Ql75 (Own Bytes between)

section
variable {P : Program} {w : World} {K : PySem.W.Frag} {mg : Str → Option Value} {base : Heap} {C : Cs}
theorem sc_leave : FnScope ["self", "end", "payload"] ["self", "end", "payload"] (defScope s_leave) := ⟨rfl, rfl, rfl, by decide +kernel, rfl, by decide +kernel, by decide +kernel⟩
theorem ok_leave (T : Txt K mg C) (D : MDef K C.rt "leave" "Router.leave" s_leave) : MOk P w K mg base C.rt "leave" 1 ["self", "end", "payload"] (sp_leave K C) := by
  obtain ⟨f, fd, M, F⟩ := D
  refine ⟨f, fd, M, F.binds (ps := ["self", "end", "payload"]) fun _ _ _ _ _ _ us hl => match us, hl with | [_, _, _], _ => rfl, F.ok sc_leave (fun vs H Q E h => ?_) (fun cdv A outer s H vs Q E hr h => ?_)⟩
  · obtain ⟨_, _, _, rfl, _⟩ := h
    rfl
  obtain ⟨x0, x1, x2, rfl, h⟩ := h
  have hu := hu_of hr
  refine ⟨_, (pss_one (ps_if (pt_cmpR op_lt (pe_callB call_len_seq (by rfl) T.b_len PySem.boot_len (pa_cons (pe_fld (pv 0) rfl) pa_nil)) (pe_k rfl T.c_MOST_LEAVING) (nomark _)) (pss_one (ps_expr (pe_bm PySem.F.plainAttrs_list PySem.F.slot_list_append PySem.F.type_list_append mt_append (pe_fld (pv 0) rfl) (pa_cons (pe_op op_cat (pe_lst (pa_cons (pv 1) pa_nil)) (pv 2)) pa_nil)))) pss_nil)), ?_⟩
  obtain ⟨r, G, A, s0, f, a, b, rfl, rfl, rfl, R, W, ha, hb, k⟩ := h
  obtain ⟨dr, e1⟩ := R.rt
  obtain ⟨vs, e2, fr⟩ := R.gone
  have lv : vs.length = s0.gone.length := by have := Paired.length fr; rw [List.length_map] at this; exact this
  refine ⟨_, rfl, r, C.rt, dr, _, _, rfl, e1, T.cl_rt, T.n_rt_leaving, rt_leaving, A.ga, _, rfl, .inl (SqL.of e2), _, _, rfl, rfl, _, rfl, ?_⟩
  refine ite_b (fun c => ?_) fun c => ?_
  · have c : ((vs.length : Nat) : Int) < 64 := of_decide_eq_true c
    have es : leaveS s0 f b = { s0 with gone := s0.gone ++ [(f, b)] } := if_neg (by omega)
    refine ⟨_, rfl, r, C.rt, dr, _, _, rfl, e1, T.cl_rt, T.n_rt_leaving, rt_leaving, .inl ⟨rfl, _, SqL.of e2⟩, ?_⟩
    refine ⟨_, rfl, (by show 1 ≤ sizeLine; decide), fun q hq => ?_⟩
    have naq : a ≠ q := ne_of_none ha hq
    refine ⟨_, rfl, q, a, _, _, rfl, rfl, upd_same, (by rw [upd_ne naq]; exact ha), (by rw [List.length_map, sizeLine_eq]; show 1 + b.length ≤ 16777216; omega), fun fa hfa => ?_⟩
    have s1 : ∀ x u, H x = some u → (upd (upd H q (.lst [nV f])) fa (.lst ([nV f] ++ b.map nV))) x = some u := fun x u e => by
      rw [upd_ne (ne_of_none (by rw [upd_ne (ne_of_none e hq)]; exact e) hfa), upd_ne (ne_of_none e hq)]; exact e
    have nfq : fa ≠ q := fun e => by rw [e, upd_same] at hfa; cases hfa
    have hf0 : H fa = none := by rw [upd_ne nfq] at hfa; exact hfa
    obtain ⟨R1, t1⟩ := R.frame hf0 (H1 := upd (upd H q (.lst [nV f])) fa (.lst ([nV f] ++ b.map nV))) upd_same s1
    obtain ⟨vs1, e3, fr1⟩ := R1.gone
    have e4 := s1 _ _ e2
    rw [e4] at e3
    cases e3
    refine ⟨A.ga, _, _, rfl, rfl, e4, sz (by omega), ?_⟩
    have ngf : A.ga ≠ fa := ne_of_none e2 hf0
    have t2 : Step (fun ro => ro = .gone) (setG G fa .frame) (upd (upd H q (.lst [nV f])) fa (.lst ([nV f] ++ b.map nV))) (setG G fa .frame) (upd (upd (upd H q (.lst [nV f])) fa (.lst ([nV f] ++ b.map nV))) A.ga (.lst (vs ++ [.ref fa]))) :=
      Step.of (fun x u e n => by rw [upd_ne (by rintro rfl; exact n R1.goneG)]; exact e) (one_live e4 upd_same LbK.lst fun x hx => upd_ne hx)
    have R2 := R1.onGone (g := s0.gone ++ [(f, b)]) t2 (fun _ z => z) (R1.wf.step t2) ⟨_, upd_same, by
      rw [List.map_append]
      exact Frs.snoc (b := f :: b) ⟨fa, rfl, by rw [upd_ne ngf.symm, upd_same]; rfl, setG_same⟩ (Frs.step t2 (by intro z; cases z) fr1)⟩
    exact k _ _ (by rw [es]; exact R2) (t1.trans (t2.mono fun ro z => by rw [z]; trivial))
  · have c : ¬ ((vs.length : Nat) : Int) < 64 := of_decide_eq_false c
    have es : leaveS s0 f b = s0 := if_pos (by omega)
    exact k G H (by rw [es]; exact R) (Step.refl _ _ _)
end
end By

namespace By
open PySem PySem.Spec PyProof.Rows L2
open Ql75 (Own Bytes between)

section
variable {P : Program} {w : World} {K : PySem.W.Frag} {mg : Str → Option Value} {base : Heap} {C : Cs}
theorem sc_send_on : FnScope ["self", "line", "end", "steps", "payload"] ["self", "line", "end", "steps", "payload"] (defScope s_send_on) := ⟨rfl, rfl, rfl, by decide +kernel, rfl, by decide +kernel, by decide +kernel⟩
theorem ok_send_on (T : Txt K mg C) (D : MDef K C.rt "send_on" "Router.send_on" s_send_on) (h_has_room_for_packet : MOk P w K mg base C.ln "has_room_for_packet" 1 ["self"] (sp_has_room_for_packet K C)) (h_packet_frame : FOk P w K mg base "packet_frame" 1 ["steps", "number", "payload"] (sp_packet_frame K C)) : MOk P w K mg base C.rt "send_on" 2 ["self", "line", "end", "steps", "payload"] (sp_send_on K C) := by
  obtain ⟨f_has_room_for_packet, fd_has_room_for_packet, M_has_room_for_packet, b_has_room_for_packet, G_has_room_for_packet⟩ := h_has_room_for_packet
  obtain ⟨f_packet_frame, fd_packet_frame, m_packet_frame, k_packet_frame, b_packet_frame, G_packet_frame⟩ := h_packet_frame
  obtain ⟨f, fd, M, F⟩ := D
  refine ⟨f, fd, M, F.binds (ps := ["self", "line", "end", "steps", "payload"]) fun _ _ _ _ _ _ us hl => match us, hl with | [_, _, _, _, _], _ => rfl, F.ok sc_send_on (fun vs H Q E h => ?_) (fun cdv A outer s H vs Q E hr h => ?_)⟩
  · obtain ⟨_, _, _, _, _, rfl, _⟩ := h
    rfl
  obtain ⟨x0, x1, x2, x3, x4, rfl, h⟩ := h
  have hu := hu_of hr
  refine ⟨_, (pss_one (ps_if (PW.pt (pw_and (pt_cmp (pc_din hu (pv 2) (pe_fld (pv 1) rfl))) (pw_and (pt_cmpR op_gt (pv 3) pe_int (nomark _)) (pw_and1 (pt_val (pe_meth0 (pv 1) T.cl_ln M_has_room_for_packet G_has_room_for_packet (hr.mono (by decide)) b_has_room_for_packet .nil pass0)))))) (pss_one (ps_expr (pe_bm PySem.F.plainAttrs_list PySem.F.slot_list_append PySem.F.type_list_append mt_append (pe_fld (pv 1) rfl) (pa_cons (pe_call G_packet_frame (hr.mono (by decide)) rfl m_packet_frame k_packet_frame b_packet_frame .nil pass0 (pa_cons (pe_op op_sub (pv 3) pe_int) (pa_cons (pe_dget hu (pe_fld (pv 1) rfl) (pv 2) (fun _ _ => rfl)) (pa_cons (pv 4) pa_nil)))) pa_nil)))) pss_nil)), ?_⟩
  obtain ⟨r, G, A, s0, p, f, t, a, b, rfl, rfl, rfl, rfl, rfl, R, W, hp, hf, ha, hb, k⟩ := h
  obtain ⟨dx, hh, ww, kvs, vs, l1, g1, l2, g2, hk, l3, g3, fr⟩ := (R.line p hp).ex
  have lv : vs.length = (s0.waiting p).length := Paired.length fr
  have hv : valV kvs (Sum.inl (f : Int) : Key) = (s0.label p f).map nV := hk.2.2 f hf
  refine ⟨_, rfl, _, rfl, A.ln p, C.ln, dx, _, _, rfl, l1, T.cl_ln, T.n_ln_heard, ln_heard, hh, _, rfl, DGet.k (k := Sum.inl (f : Int)) l2, _, rfl, ?_⟩
  rw [hv]
  have same : sendS s0 p f t b = s0 → Q .non H := fun e => k G H (by rw [e]; exact R) (Step.refl _ _ _)
  cases el : s0.label p f with
  | none =>
    refine iteF ?_
    refine iteF ?_
    exact same (by unfold sendS; rw [el])
  | some l =>
    have es : sendS s0 p f t b = if t ≤ 1 ∨ s0.isUp p = false ∨ 128 ≤ (s0.waiting p).length then s0 else addOut s0 p (Ql75.packet (t - 1) l b) := by unfold sendS; rw [el]
    refine iteT ?_
    refine ⟨_, rfl, _, _, rfl, rfl, _, rfl, ?_⟩
    refine ite_b (fun c => ?_) fun c => ?_
    · have c : (1 : Int) < (t : Int) := of_decide_eq_true c
      refine ⟨_, rfl, A.ln p, dx, _, rfl, l1, ln_no (by decide +kernel), ?_⟩
      refine ⟨_, rfl, A.ln p, dx, _, hh, ww, vs, rfl, l1, l3, _, rfl, ?_⟩
      refine ite_b (fun c2 => ?_) fun c2 => ?_
      · rw [Bool.and_eq_true] at c2
        obtain ⟨hu, c3⟩ := c2
        have c3 : vs.length < 128 := of_decide_eq_true c3
        rw [if_neg (by
          rw [hu, ← lv]
          rintro (z | z | z)
          · omega
          · cases z
          · omega)] at es
        refine ⟨_, rfl, A.ln p, C.ln, dx, _, _, rfl, l1, T.cl_ln, T.n_ln_waiting, ln_waiting, .inl ⟨rfl, _, SqL.of l3⟩, ?_⟩
        refine ⟨_, rfl, _, _, rfl, rfl, _, rfl, A.ln p, C.ln, dx, _, _, rfl, l1, T.cl_ln, T.n_ln_heard, ln_heard, _, rfl, hh, _, rfl, (by
          have z := DGet.k (k := Sum.inl (f : Int)) l2
          rw [hv, el] at z
          exact z), _, rfl, ?_⟩
        have et : (t : Int) - 1 = ((t - 1 : Nat) : Int) := by omega
        refine ⟨_, _, _, rfl, t - 1, l, a, b, (by show V.int ((t : Int) - 1) = _; rw [et]; rfl), rfl, rfl, ha, (by omega), fun fa H1 hf0 hf1 s1 => ?_⟩
        obtain ⟨R1, t1⟩ := R.frame hf0 hf1 s1
        have gw : ∀ x u, H x = some u → setG G fa .frame x = G x := fun x u e => setG_ne (ne_of_none e hf0)
        refine ⟨ww, _, _, rfl, rfl, s1 _ _ l3, sz (by omega), ?_⟩
        obtain ⟨R2, t2⟩ := R1.wait (bs := s0.waiting p ++ [Ql75.packet (t - 1) l b]) W hp (s1 _ _ l1) (H1 := upd H1 ww (.lst (vs ++ [.ref fa]))) upd_same (fun b hb => upd_ne hb) (Frs.snoc ⟨fa, rfl, hf1, setG_same⟩ (Frs.step (S := noRo) ((Step.same s1).setG _ hf0) id fr))
        exact k _ _ (by rw [es]; exact R2) (t1.trans t2)
      · have e : sendS s0 p f t b = s0 := by
          rw [es, if_pos]
          rw [Bool.and_eq_false_iff] at c2
          rcases c2 with c2 | c2
          · exact .inr (.inl c2)
          · exact .inr (.inr (by have := of_decide_eq_false c2; omega))
        exact same e
    · have c : ¬ (1 : Int) < (t : Int) := of_decide_eq_false c
      refine iteF ?_
      exact same (by rw [es, if_pos (.inl (by omega))])
end
end By

namespace By
open PySem PySem.Spec PyProof.Rows L2
open Ql75 (Own Bytes between)

section
variable {P : Program} {w : World} {K : PySem.W.Frag} {mg : Str → Option Value} {base : Heap} {C : Cs}
theorem sc_go_on : FnScope ["self", "end", "steps", "payload", "way"] ["self", "end", "steps", "payload"] (defScope s_go_on) := ⟨rfl, rfl, rfl, by decide +kernel, rfl, by decide +kernel, by decide +kernel⟩
theorem ok_go_on (T : Txt K mg C) (D : MDef K C.rt "go_on" "Router.go_on" s_go_on) (h_leave : MOk P w K mg base C.rt "leave" 1 ["self", "end", "payload"] (sp_leave K C)) (h_send_on : MOk P w K mg base C.rt "send_on" 2 ["self", "line", "end", "steps", "payload"] (sp_send_on K C)) : MOk P w K mg base C.rt "go_on" 3 ["self", "end", "steps", "payload"] (sp_go_on K C) := by
  obtain ⟨f_leave, fd_leave, M_leave, b_leave, G_leave⟩ := h_leave
  obtain ⟨f_send_on, fd_send_on, M_send_on, b_send_on, G_send_on⟩ := h_send_on
  obtain ⟨f, fd, M, F⟩ := D
  refine ⟨f, fd, M, F.binds (ps := ["self", "end", "steps", "payload"]) fun _ _ _ _ _ _ us hl => match us, hl with | [_, _, _, _], _ => rfl, F.ok sc_go_on (fun vs H Q E h => ?_) (fun cdv A outer s H vs Q E hr h => ?_)⟩
  · obtain ⟨_, _, _, _, rfl, _⟩ := h
    rfl
  obtain ⟨x0, x1, x2, x3, rfl, h⟩ := h
  have hu := hu_of hr
  refine ⟨_, (pss_cons (ps_set (i := 4) sc_go_on.nd rfl (Or.inl rfl) (pe_ix ix_list (pe_fld (pv 0) rfl) (pv 1) (fun _ _ => rfl)))
      (pss_one (ps_if (pt_cmpR op_eq (pv 4) (pe_k rfl T.c_HERE) (nomark _)) (pss_one (ps_expr (pe_meth (pv 0) T.cl_rt M_leave G_leave (hr.mono (by decide)) b_leave .nil pass0 (pa_cons (pv 1) (pa_cons (pv 3) pa_nil))))) (pss_one (ps_if (pt_cmpR op_ne (pv 4) (pe_k rfl T.c_NO_WAY) (nomark _)) (pss_one (ps_expr (pe_meth (pv 0) T.cl_rt M_send_on G_send_on (hr.mono (by decide)) b_send_on .nil pass0 (pa_cons (pe_ix ix_list (pe_fld (pv 0) rfl) (pv 4) (fun _ _ => rfl)) (pa_cons (pv 1) (pa_cons (pv 2) (pa_cons (pv 3) pa_nil))))))) pss_nil))))), ?_⟩
  obtain ⟨r, G, A, s0, f, t, a, b, rfl, rfl, rfl, rfl, R, W, hf, ha, hb, k⟩ := h
  obtain ⟨dr, e1⟩ := R.rt
  have hg : (s0.ways.map wV)[f]? = some (wV (s0.way f)) := by
    rw [List.getElem?_map]
    have hl : f < s0.ways.length := by rw [W.waysL]; exact hf
    rw [List.getElem?_eq_getElem hl]
    show some (wV s0.ways[f]) = some (wV (s0.ways.getD f none))
    rw [List.getD_eq_getElem?_getD, List.getElem?_eq_getElem hl]
    rfl
  refine ⟨_, rfl, r, C.rt, dr, _, _, rfl, e1, T.cl_rt, T.n_rt_ways, rt_ways, _, rfl, A.wa, _, _, _, rfl, rfl, SqL.of R.ways, at_nat (i := f) hg, ?_⟩
  cases ew : s0.way f with
  | none =>
    have es : s0.onward f t b = s0 := by unfold Ql75.St.onward; rw [ew]
    refine ⟨_, rfl, rfl, _, rfl, ?_⟩
    refine iteF ?_
    refine ⟨_, rfl, rfl, _, rfl, ?_⟩
    refine iteF ?_
    exact k G H (by rw [es]; exact R) (Step.refl _ _ _)
  | some p =>
    have hp8 := W.waysB f p ew
    refine ⟨_, rfl, rfl, _, rfl, ?_⟩
    refine ite_b (fun c => ?_) fun c => ?_
    · have c : p = 8 := by
        have c : V.int (p : Int) = V.int 8 := of_decide_eq_true c
        have := V.int.inj c
        omega
      have es : s0.onward f t b = leaveS s0 f b := by unfold Ql75.St.onward; rw [ew]; exact if_pos c
      refine ⟨_, rfl, r, dr, _, rfl, e1, rt_no (by decide +kernel), _, rfl, _, rfl, ?_⟩
      exact ⟨_, _, _, rfl, r, G, A, s0, f, a, b, rfl, rfl, rfl, R, W, ha, hb, fun G1 H1 R1 t1 => k G1 H1 (by rw [es]; exact R1) t1⟩
    · have c : p < 8 := by
        have c : ¬ V.int (p : Int) = V.int 8 := of_decide_eq_false c
        have : ¬ p = 8 := fun z => c (by rw [z]; rfl)
        omega
      have es : s0.onward f t b = sendS s0 p f t b := by unfold Ql75.St.onward; rw [ew]; exact if_neg (by show ¬ p = 8; omega)
      refine ⟨_, rfl, rfl, _, rfl, ?_⟩
      have e0 : (!decide (wV (some p) = V.int (-1))) = true := by
        have : ¬ wV (some p) = V.int (-1) := fun z => by have := V.int.inj z; omega
        rw [decide_eq_false this]; rfl
      rw [e0]
      refine iteT ?_
      refine ⟨_, rfl, r, dr, _, rfl, e1, rt_no (by decide +kernel), ?_⟩
      refine ⟨_, rfl, r, C.rt, dr, _, _, rfl, e1, T.cl_rt, T.n_rt_lines, rt_lines, _, rfl, A.ls, _, _, _, rfl, rfl, SqL.of R.ls, at_nat (i := p) (ls_get A c), _, rfl, _, rfl, _, rfl, ?_⟩
      exact ⟨_, _, _, _, _, rfl, r, G, A, s0, p, f, t, a, b, rfl, rfl, rfl, rfl, rfl, R, W, c, hf, ha, hb, fun G1 H1 R1 t1 => k G1 H1 (by rw [es]; exact R1) t1⟩
end
end By

namespace By
open PySem PySem.Spec PyProof.Rows L2
open Ql75 (Own Bytes between)

section
variable {P : Program} {w : World} {K : PySem.W.Frag} {mg : Str → Option Value} {base : Heap} {C : Cs}
theorem sc_take_packet : FnScope ["self", "steps", "number", "payload", "label"] ["self", "steps", "number", "payload"] (defScope s_take_packet) := ⟨rfl, rfl, rfl, by decide +kernel, rfl, by decide +kernel, by decide +kernel⟩
theorem ok_take_packet (T : Txt K mg C) (D : MDef K C.rt "take_packet" "Router.take_packet" s_take_packet) (h_go_on : MOk P w K mg base C.rt "go_on" 3 ["self", "end", "steps", "payload"] (sp_go_on K C)) (h_label_at : MOk P w K mg base C.bk "label_at" 1 ["self", "number"] (sp_label_at K C)) : MOk P w K mg base C.rt "take_packet" 4 ["self", "steps", "number", "payload"] (sp_take_packet K C) := by
  obtain ⟨f_go_on, fd_go_on, M_go_on, b_go_on, G_go_on⟩ := h_go_on
  obtain ⟨f_label_at, fd_label_at, M_label_at, b_label_at, G_label_at⟩ := h_label_at
  obtain ⟨f, fd, M, F⟩ := D
  refine ⟨f, fd, M, F.binds (ps := ["self", "steps", "number", "payload"]) fun _ _ _ _ _ _ us hl => match us, hl with | [_, _, _, _], _ => rfl, F.ok sc_take_packet (fun vs H Q E h => ?_) (fun cdv A outer s H vs Q E hr h => ?_)⟩
  · obtain ⟨_, _, _, _, rfl, _⟩ := h
    rfl
  obtain ⟨x0, x1, x2, x3, rfl, h⟩ := h
  have hu := hu_of hr
  refine ⟨_, (pss_cons (ps_set (i := 4) sc_take_packet.nd rfl (Or.inl rfl) (pe_meth (pe_fld (pv 0) rfl) T.cl_bk M_label_at G_label_at (hr.mono (by decide)) b_label_at .nil pass0 (pa_cons (pv 2) pa_nil)))
      (pss_one (ps_if (PW.pt (pw_and (pt_cmpR op_notN (pv 4) pe_non (nomark _)) (pw_and1 (pt_val (pe_fld (pv 4) rfl))))) (pss_one (ps_expr (pe_meth (pv 0) T.cl_rt M_go_on G_go_on (hr.mono (by decide)) b_go_on .nil pass0 (pa_cons (pe_fld (pv 4) rfl) (pa_cons (pv 1) (pa_cons (pv 3) pa_nil)))))) pss_nil))), ?_⟩
  obtain ⟨r, G, A, s0, t, n, a, b, rfl, rfl, rfl, rfl, R, W, ha, hb, k⟩ := h
  obtain ⟨dr, e1⟩ := R.rt
  obtain ⟨db, e2⟩ := R.book.bk
  refine ⟨_, rfl, r, C.rt, dr, _, _, rfl, e1, T.cl_rt, T.n_rt_book, rt_book, A.bk, db, _, rfl, e2, bk_no (by decide +kernel), _, rfl, ?_⟩
  refine ⟨_, _, rfl, G, A, _, n, rfl, rfl, R.book, ?_⟩
  cases e : s0.owns.find? fun o => o.label == n with
  | none =>
    have es : takePkt s0 n t b = s0 := by
      unfold takePkt
      have : (s0.owns.find? fun o => o.active && o.label == n) = none := List.find?_eq_none.mpr fun o ho z => by
        have := List.find?_eq_none.mp e o ho
        rw [Bool.and_eq_true] at z
        exact this z.2
      rw [this]
    refine ⟨_, rfl, rfl, _, rfl, ?_⟩
    refine iteF ?_
    refine iteF ?_
    exact k G H (by rw [es]; exact R) (Step.refl _ _ _)
  | some o =>
    have ho := List.mem_of_find?_eq_some e
    have hn : o.label = n := by simpa using List.find?_some e
    obtain ⟨dl, hs, o1, og1, o2, og2⟩ := (R.book.lab o ho).ex
    refine ⟨_, rfl, rfl, _, rfl, ?_⟩
    refine iteT ?_
    refine ⟨_, rfl, _, C.lb, dl, _, _, rfl, o1, T.cl_lb, T.n_lb_active, lb_active, _, rfl, ?_⟩
    refine ite_b (fun c => ?_) fun c => ?_
    · have es : takePkt s0 n t b = s0.onward o.for_ t b := by
        unfold takePkt
        have : (s0.owns.find? fun o => o.active && o.label == n) = some o := by
          cases q : s0.owns.find? fun o => o.active && o.label == n with
          | none =>
            have := List.find?_eq_none.mp q o ho
            simp [c, hn] at this
          | some o' =>
            have z := List.find?_some q
            rw [Bool.and_eq_true] at z
            have z2 : o'.label = n := by simpa using z.2
            rw [nd_eq W.nd (List.mem_of_find?_eq_some q) ho (z2.trans hn.symm)]
        rw [this]
      refine ⟨_, rfl, r, dr, _, rfl, e1, rt_no (by decide +kernel), _, rfl, _, C.lb, dl, _, _, rfl, o1, T.cl_lb, T.n_lb_end, lb_end, _, rfl, _, rfl, ?_⟩
      exact ⟨_, _, _, _, rfl, r, G, A, s0, o.for_, t, a, b, rfl, rfl, rfl, rfl, R, W, W.end_ o ho, ha, hb, fun G1 H1 R1 t1 => k G1 H1 (by rw [es]; exact R1) t1⟩
    · have es : takePkt s0 n t b = s0 := by
        unfold takePkt
        have : (s0.owns.find? fun o => o.active && o.label == n) = none := List.find?_eq_none.mpr fun o' ho' z => by
          rw [Bool.and_eq_true] at z
          have z2 : o'.label = n := by simpa using z.2
          rw [nd_eq W.nd ho' ho (z2.trans hn.symm), c] at z
          cases z.1
        rw [this]
      exact k G H (by rw [es]; exact R) (Step.refl _ _ _)
end
end By

namespace By
open PySem PySem.Spec PyProof.Rows L2
open Ql75 (Own Bytes between)

section
variable {P : Program} {w : World} {K : PySem.W.Frag} {mg : Str → Option Value} {base : Heap} {C : Cs}
theorem sc_lr_take : FnScope ["self", "p", "frame"] ["self", "p", "frame"] (defScope s_lr_take) := ⟨rfl, rfl, rfl, by decide +kernel, rfl, by decide +kernel, by decide +kernel⟩
theorem ok_lr_take (T : Txt K mg C) (D : MDef K C.rt "lr_take" "Router.lr_take" s_lr_take) (h_is_message : FOk P w K mg base "is_message" 2 ["frame"] (sp_is_message K C)) (h_take_message : MOk P w K mg base C.rt "take_message" 6 ["self", "p", "what", "end", "number"] (sp_take_message K C)) (h_message_label : FOk P w K mg base "message_label" 1 ["frame"] (sp_message_label K C)) (h_is_packet : FOk P w K mg base "is_packet" 1 ["frame"] (sp_is_packet K C)) (h_take_packet : MOk P w K mg base C.rt "take_packet" 4 ["self", "steps", "number", "payload"] (sp_take_packet K C)) (h_packet_label : FOk P w K mg base "packet_label" 1 ["frame"] (sp_packet_label K C)) (h_is_line : FOk P w K mg base "is_line" 1 ["p"] (sp_is_line K C)) : MOk P w K mg base C.rt "lr_take" 7 ["self", "p", "frame"] (sp_lr_take K C) := by
  obtain ⟨f_is_message, fd_is_message, m_is_message, k_is_message, b_is_message, G_is_message⟩ := h_is_message
  obtain ⟨f_take_message, fd_take_message, M_take_message, b_take_message, G_take_message⟩ := h_take_message
  obtain ⟨f_message_label, fd_message_label, m_message_label, k_message_label, b_message_label, G_message_label⟩ := h_message_label
  obtain ⟨f_is_packet, fd_is_packet, m_is_packet, k_is_packet, b_is_packet, G_is_packet⟩ := h_is_packet
  obtain ⟨f_take_packet, fd_take_packet, M_take_packet, b_take_packet, G_take_packet⟩ := h_take_packet
  obtain ⟨f_packet_label, fd_packet_label, m_packet_label, k_packet_label, b_packet_label, G_packet_label⟩ := h_packet_label
  obtain ⟨f_is_line, fd_is_line, m_is_line, k_is_line, b_is_line, G_is_line⟩ := h_is_line
  obtain ⟨f, fd, M, F⟩ := D
  refine ⟨f, fd, M, F.binds (ps := ["self", "p", "frame"]) fun _ _ _ _ _ _ us hl => match us, hl with | [_, _, _], _ => rfl, F.ok sc_lr_take (fun vs H Q E h => ?_) (fun cdv A outer s H vs Q E hr h => ?_)⟩
  · obtain ⟨_, _, _, rfl, _⟩ := h
    rfl
  obtain ⟨x0, x1, x2, rfl, h⟩ := h
  have hu := hu_of hr
  refine ⟨_, (pss_cons (ps_if (PW.pt (pw_or (pt_not (pt_val (pe_call G_is_line (hr.mono (by decide)) rfl m_is_line k_is_line b_is_line .nil pass0 (pa_cons (pv 1) pa_nil)))) (pw_or1 (pt_not (pt_chain op_le op_le pe_int (pe_callB call_len_seq (by rfl) T.b_len PySem.boot_len (pa_cons (pv 2) pa_nil)) (pe_k rfl T.c_LONGEST_FRAME)))))) (pss_one (ps_ret (pe_k rfl T.c_OUT_OF_RANGE))) pss_nil)
      (pss_cons (ps_if (pt_not (pt_val (pe_fld (pe_ix ix_list (pe_fld (pv 0) rfl) (pv 1) (fun _ _ => rfl)) rfl))) (pss_one (ps_ret (pe_k rfl T.c_NOT_NOW))) pss_nil)
      (pss_cons (ps_if (pt_val (pe_call G_is_message (hr.mono (by decide)) rfl m_is_message k_is_message b_is_message .nil pass0 (pa_cons (pv 2) pa_nil))) (pss_one (ps_expr (pe_meth (pv 0) T.cl_rt M_take_message G_take_message (hr.mono (by decide)) b_take_message .nil pass0 (pa_cons (pv 1) (pa_cons (pe_ix ix_list (pv 2) pe_int (fun _ _ => rfl)) (pa_cons (pe_ix ix_list (pv 2) pe_int (fun _ _ => rfl)) (pa_cons (pe_call G_message_label (hr.mono (by decide)) rfl m_message_label k_message_label b_message_label .nil pass0 (pa_cons (pv 2) pa_nil)) pa_nil))))))) (pss_one (ps_if (pt_val (pe_call G_is_packet (hr.mono (by decide)) rfl m_is_packet k_is_packet b_is_packet .nil pass0 (pa_cons (pv 2) pa_nil))) (pss_one (ps_expr (pe_meth (pv 0) T.cl_rt M_take_packet G_take_packet (hr.mono (by decide)) b_take_packet .nil pass0 (pa_cons (pe_ix ix_list (pv 2) pe_int (fun _ _ => rfl)) (pa_cons (pe_call G_packet_label (hr.mono (by decide)) rfl m_packet_label k_packet_label b_packet_label .nil pass0 (pa_cons (pv 2) pa_nil)) (pa_cons (pe_slice sl_list (pv 2) (po_some (pe_k rfl T.c_PACKET_HEAD)) po_none) pa_nil)))))) (pss_one (ps_ret (pe_k rfl T.c_NO_SUCH_FRAME))))))
      (pss_one (ps_ret (pe_k rfl T.c_DONE)))))), ?_⟩
  obtain ⟨r, G, A, s0, p, a, b, rfl, rfl, rfl, R, k0, ha, ga, k⟩ := h
  have W := k0.wf
  obtain ⟨dr, e1⟩ := R.rt
  refine ⟨_, rfl, _, rfl, p, rfl, _, rfl, ?_⟩
  have bad : (between p 0 7 = false ∨ b.length < 1 ∨ 1504 < b.length) → Q (.int (-2)) H := fun c => k _ _ (spec_take_bad c) A G H R (Step.refl _ _ _)
  refine ite_b (fun c => ?_) fun c => ?_
  · refine iteT ?_
    exact bad (.inl (not_b c))
  · have hf := not_b' c
    obtain ⟨m, rfl, hm7⟩ := nat_of hf
    have hm : m < 8 := by omega
    refine ⟨_, rfl, a, _, rfl, .inl (SqL.of ha), _, _, rfl, rfl, _, rfl, ?_⟩
    rw [List.length_map]
    refine ite_b (fun c1 => ?_) fun c1 => ?_
    · have c1 : (1 : Int) ≤ ((b.length : Nat) : Int) := of_decide_eq_true c1
      refine ⟨_, _, rfl, rfl, _, rfl, ?_⟩
      refine ite_b (fun c2 => ?_) fun c2 => ?_
      · have c2 : ¬ ((b.length : Nat) : Int) ≤ 1504 := of_decide_eq_false (not_b c2)
        exact bad (.inr (.inr (by omega)))
      · have c2 : ((b.length : Nat) : Int) ≤ 1504 := of_decide_eq_true (not_b' c2)
        have good : ¬ (between (m : Int) 0 7 = false ∨ b.length < 1 ∨ 1504 < b.length) := by
          rw [hf]
          rintro (z | z | z)
          · cases z
          · omega
          · omega
        obtain ⟨dx, hh, ww, kvs, vs, l1, g1, l2, g2, hk, l3, g3, fr⟩ := (R.line m hm).ex
        refine ⟨_, rfl, r, C.rt, dr, _, _, rfl, e1, T.cl_rt, T.n_rt_lines, rt_lines, _, rfl, A.ls, _, _, _, rfl, rfl, SqL.of R.ls, at_nat (i := m) (ls_get A hm), A.ln m, C.ln, dx, _, _, rfl, l1, T.cl_ln, T.n_ln_up, ln_up, _, rfl, ?_⟩
        cases hu : s0.isUp m with
        | false =>
          refine iteT ?_
          exact k _ _ (spec_take_down good hu) A G H R (Step.refl _ _ _)
        | true =>
          have hu' : ¬ s0.isUp m = false := by rw [hu]; intro z; cases z
          refine iteF ?_
          refine ⟨_, rfl, _, rfl, a, b, rfl, ha, _, rfl, ?_⟩
          refine ite_b (fun c3 => ?_) fun c3 => ?_
          · obtain ⟨x, f, y, l, rfl, h1, h3, hf32, et⟩ := take_msg (s := s0) c3 m
            refine ⟨_, rfl, r, dr, _, rfl, e1, rt_no (by decide +kernel), _, rfl, _, rfl, a, _, _, _, rfl, rfl, SqL.of ha, at_nat (i := 1) (v := nV x) rfl, _, rfl, a, _, _, _, rfl, rfl, SqL.of ha, at_nat (i := 2) (v := nV f) rfl, _, rfl, _, rfl, a, _, y, l, rfl, ha, rfl, rfl, ?_⟩
            exact ⟨_, _, _, _, _, rfl, r, G, A, s0, m, x, f, 256 * y + l, rfl, rfl, rfl, rfl, rfl, R, W, hm, h1, h3, hf32, fun G1 H1 R1 t1 => k _ _ (spec_take_some good hu' et) A G1 H1 R1 t1⟩
          · refine ⟨_, rfl, _, rfl, a, b, rfl, ha, _, rfl, ?_⟩
            refine ite_b (fun c4 => ?_) fun c4 => ?_
            · obtain ⟨t, x, l, y, q, rfl, et⟩ := take_pkt (s := s0) c4 m
              refine ⟨_, rfl, r, dr, _, rfl, e1, rt_no (by decide +kernel), _, rfl, a, _, _, _, rfl, rfl, SqL.of ha, at_nat (i := 1) (v := nV t) rfl, _, rfl, _, rfl, a, _, x, l, rfl, ha, rfl, rfl, _, rfl, _, rfl, a, _, rfl, SqL.of ha, fun d hd => ?_⟩
              obtain ⟨R1, t1⟩ := R.more (upd_same_keep (o := .lst (cutV ((1 :: t :: x :: l :: y :: q).map nV) (some 4) none)) hd)
              have ec : cutV ((1 :: t :: x :: l :: y :: q).map nV) (some 4) none = (y :: q).map nV := by
                have := cut_from (xs := (1 :: t :: x :: l :: y :: q).map nV) (i := 4) (by rw [List.length_map]; show 4 ≤ q.length + 5; omega)
                exact this
              exact ⟨_, _, _, _, rfl, r, G, A, s0, t, 256 * x + l, d, y :: q, rfl, rfl, rfl, rfl, R1, W, by rw [upd_same, ec], by have : (1 :: t :: x :: l :: y :: q).length = (y :: q).length + 4 := rfl; omega, fun G2 H2 R2 t2 => k _ _ (spec_take_some good hu' et) A G2 H2 R2 (t1.trans t2)⟩
            · exact k _ _ (spec_take_none good hu' (take_none c3 c4 m)) A G H R (Step.refl _ _ _)
    · have c1 : ¬ (1 : Int) ≤ ((b.length : Nat) : Int) := of_decide_eq_false c1
      exact ⟨_, rfl, iteT (bad (.inr (.inl (by omega))))⟩
end
end By

namespace By
open PySem PySem.Spec PyProof.Rows L2
open Ql75 (Own Bytes between)

section
variable {P : Program} {w : World} {K : PySem.W.Frag} {mg : Str → Option Value} {base : Heap} {C : Cs}
theorem sc_lr_enter : FnScope ["self", "f", "payload"] ["self", "f", "payload"] (defScope s_lr_enter) := ⟨rfl, rfl, rfl, by decide +kernel, rfl, by decide +kernel, by decide +kernel⟩
theorem ok_lr_enter (T : Txt K mg C) (D : MDef K C.rt "lr_enter" "Router.lr_enter" s_lr_enter) (h_go_on : MOk P w K mg base C.rt "go_on" 3 ["self", "end", "steps", "payload"] (sp_go_on K C)) (h_is_end : FOk P w K mg base "is_end" 1 ["f"] (sp_is_end K C)) : MOk P w K mg base C.rt "lr_enter" 4 ["self", "f", "payload"] (sp_lr_enter K C) := by
  obtain ⟨f_go_on, fd_go_on, M_go_on, b_go_on, G_go_on⟩ := h_go_on
  obtain ⟨f_is_end, fd_is_end, m_is_end, k_is_end, b_is_end, G_is_end⟩ := h_is_end
  obtain ⟨f, fd, M, F⟩ := D
  refine ⟨f, fd, M, F.binds (ps := ["self", "f", "payload"]) fun _ _ _ _ _ _ us hl => match us, hl with | [_, _, _], _ => rfl, F.ok sc_lr_enter (fun vs H Q E h => ?_) (fun cdv A outer s H vs Q E hr h => ?_)⟩
  · obtain ⟨_, _, _, rfl, _⟩ := h
    rfl
  obtain ⟨x0, x1, x2, rfl, h⟩ := h
  have hu := hu_of hr
  refine ⟨_, (pss_cons (ps_if (PW.pt (pw_or (pt_not (pt_val (pe_call G_is_end (hr.mono (by decide)) rfl m_is_end k_is_end b_is_end .nil pass0 (pa_cons (pv 1) pa_nil)))) (pw_or1 (pt_not (pt_chain op_le op_le pe_int (pe_callB call_len_seq (by rfl) T.b_len PySem.boot_len (pa_cons (pv 2) pa_nil)) (pe_k rfl T.c_LONGEST_PAYLOAD)))))) (pss_one (ps_ret (pe_k rfl T.c_OUT_OF_RANGE))) pss_nil)
      (pss_cons (ps_expr (pe_meth (pv 0) T.cl_rt M_go_on G_go_on (hr.mono (by decide)) b_go_on .nil pass0 (pa_cons (pv 1) (pa_cons (pe_k rfl T.c_STEPS_AT_FIRST) (pa_cons (pv 2) pa_nil)))))
      (pss_one (ps_ret (pe_k rfl T.c_DONE))))), ?_⟩
  obtain ⟨r, G, A, s0, f, a, b, rfl, rfl, rfl, R, k0, ha, ga, k⟩ := h
  have W := k0.wf
  obtain ⟨dr, e1⟩ := R.rt
  refine ⟨_, rfl, _, rfl, f, rfl, _, rfl, ?_⟩
  have bad : (between f 0 31 = false ∨ b.length < 1 ∨ 1500 < b.length) → Q (.int (-2)) H := fun c => k _ _ (spec_enter_bad c) A G H R (Step.refl _ _ _)
  refine ite_b (fun c => ?_) fun c => ?_
  · refine iteT ?_
    exact bad (.inl (not_b c))
  · have hf := not_b' c
    obtain ⟨m, rfl, hm⟩ := nat_of hf
    refine ⟨_, rfl, a, _, rfl, .inl (SqL.of ha), _, _, rfl, rfl, _, rfl, ?_⟩
    rw [List.length_map]
    refine ite_b (fun c1 => ?_) fun c1 => ?_
    · have c1 : (1 : Int) ≤ ((b.length : Nat) : Int) := of_decide_eq_true c1
      refine ⟨_, _, rfl, rfl, _, rfl, ?_⟩
      refine ite_b (fun c2 => ?_) fun c2 => ?_
      · have c2 : ¬ ((b.length : Nat) : Int) ≤ 1500 := of_decide_eq_false (not_b c2)
        exact bad (.inr (.inr (by omega)))
      · have c2 : ((b.length : Nat) : Int) ≤ 1500 := of_decide_eq_true (not_b' c2)
        refine ⟨_, rfl, r, dr, _, rfl, e1, rt_no (by decide +kernel), _, rfl, _, rfl, ?_⟩
        refine ⟨_, _, _, _, rfl, r, G, A, s0, m, 64, a, b, rfl, rfl, rfl, rfl, R, W, by omega, ha, by omega, fun G1 H1 R1 t1 => k _ _ (spec_enter_ok ?_) A G1 H1 R1 t1⟩
        rw [hf]
        rintro (z | z | z)
        · cases z
        · omega
        · omega
    · have c1 : ¬ (1 : Int) ≤ ((b.length : Nat) : Int) := of_decide_eq_false c1
      exact ⟨_, rfl, iteT (bad (.inr (.inl (by omega))))⟩
end
end By

namespace By
open PySem PySem.Spec PyProof.Rows L2
open Ql75 (Own Bytes between)

section
variable {P : Program} {w : World} {K : PySem.W.Frag} {mg : Str → Option Value} {base : Heap} {C : Cs}
theorem sc_lr_next : FnScope ["self", "p", "most"] ["self", "p", "most"] (defScope s_lr_next) := ⟨rfl, rfl, rfl, by decide +kernel, rfl, by decide +kernel, by decide +kernel⟩
theorem ok_lr_next (T : Txt K mg C) (D : MDef K C.rt "lr_next" "Router.lr_next" s_lr_next) (h_take_first : FOk P w K mg base "take_first" 1 ["waiting", "most"] (sp_take_first K C)) (h_is_line : FOk P w K mg base "is_line" 1 ["p"] (sp_is_line K C)) : MOk P w K mg base C.rt "lr_next" 2 ["self", "p", "most"] (sp_lr_next K C) := by
  obtain ⟨f_take_first, fd_take_first, m_take_first, k_take_first, b_take_first, G_take_first⟩ := h_take_first
  obtain ⟨f_is_line, fd_is_line, m_is_line, k_is_line, b_is_line, G_is_line⟩ := h_is_line
  obtain ⟨f, fd, M, F⟩ := D
  refine ⟨f, fd, M, F.binds (ps := ["self", "p", "most"]) fun _ _ _ _ _ _ us hl => match us, hl with | [_, _, _], _ => rfl, F.ok sc_lr_next (fun vs H Q E h => ?_) (fun cdv A outer s H vs Q E hr h => ?_)⟩
  · obtain ⟨_, _, _, rfl, _⟩ := h
    rfl
  obtain ⟨x0, x1, x2, rfl, h⟩ := h
  have hu := hu_of hr
  refine ⟨_, (pss_cons (ps_if (PW.pt (pw_or (pt_not (pt_val (pe_call G_is_line (hr.mono (by decide)) rfl m_is_line k_is_line b_is_line .nil pass0 (pa_cons (pv 1) pa_nil)))) (pw_or1 (pt_cmpR op_gt (pv 2) (pe_k rfl T.c_GREATEST_MOST) (nomark _))))) (pss_one (ps_ret (pe_lst (pa_cons (pe_k rfl T.c_OUT_OF_RANGE) pa_nil)))) pss_nil)
      (pss_one (ps_ret (pe_call G_take_first (hr.mono (by decide)) rfl m_take_first k_take_first b_take_first .nil pass0 (pa_cons (pe_fld (pe_ix ix_list (pe_fld (pv 0) rfl) (pv 1) (fun _ _ => rfl)) rfl) (pa_cons (pv 2) pa_nil)))))), ?_⟩
  obtain ⟨r, G, A, s0, p, n, rfl, rfl, rfl, R, k0, hn, k⟩ := h
  have W := k0.wf
  obtain ⟨dr, e1⟩ := R.rt
  refine ⟨_, rfl, _, rfl, p, rfl, _, rfl, ?_⟩
  have bad : (between p 0 7 = false ∨ 65536 < n.toNat) → ∀ q, H q = none → Q (.ref q) (upd H q (.lst [V.int (-2)])) := fun c q hq => by
    obtain ⟨R1, t1⟩ := R.more (upd_same_keep (o := .lst [V.int (-2)]) hq)
    exact k _ _ _ (spec_next_bad c) A G _ q R1 t1 hq upd_same (R.wf q hq)
  refine ite_b (fun c => ?_) fun c => ?_
  · refine iteT ?_
    exact ⟨by show 1 ≤ sizeLine; decide, bad (.inl (not_b c))⟩
  · have hf := not_b' c
    obtain ⟨m, rfl, hm7⟩ := nat_of hf
    have hm : m < 8 := by omega
    refine ⟨_, rfl, _, _, rfl, rfl, _, rfl, ?_⟩
    refine ite_b (fun c1 => ?_) fun c1 => ?_
    · have c1 : (65536 : Int) < n := of_decide_eq_true c1
      exact ⟨by show 1 ≤ sizeLine; decide, bad (.inr (by omega))⟩
    · have c1 : ¬ (65536 : Int) < n := of_decide_eq_false c1
      have good : ¬ (between (m : Int) 0 7 = false ∨ 65536 < n.toNat) := by
        rw [hf]
        rintro (z | z)
        · cases z
        · omega
      obtain ⟨dx, hh, ww, kvs, vs, l1, g1, l2, g2, hk, l3, g3, fr⟩ := (R.line m hm).ex
      refine ⟨_, rfl, r, C.rt, dr, _, _, rfl, e1, T.cl_rt, T.n_rt_lines, rt_lines, _, rfl, A.ls, _, _, _, rfl, rfl, SqL.of R.ls, at_nat (i := m) (ls_get A hm), A.ln m, C.ln, dx, _, _, rfl, l1, T.cl_ln, T.n_ln_waiting, ln_waiting, _, rfl, ?_⟩
      refine ⟨_, _, rfl, ww, vs, n, rfl, rfl, l3, fun ev q H1 hq hq1 k1 => ?_, fun v vr ev => ?_⟩
      · have ew : s0.waiting m = [] := by
          rw [ev] at fr
          cases h : s0.waiting m with
          | nil => rfl
          | cons _ _ => rw [h] at fr; cases fr
        obtain ⟨R1, t1⟩ := R.more (H1 := H1) fun b o e => by rw [k1 b (ne_of_none e hq)]; exact e
        exact k _ _ _ (spec_next_nil good ew) A G H1 q R1 t1 hq hq1 (R.wf q hq)
      · rw [ev] at fr l3
        cases ew : s0.waiting m with
        | nil => rw [ew] at fr; cases fr
        | cons b bs =>
          rw [ew] at fr
          cases fr with
          | cons f1 f2 =>
            obtain ⟨fa, rfl, hfa, gfa⟩ := f1
            have b2 := W.outF m b (by rw [ew]; exact List.mem_cons_self)
            refine ⟨fa, b, rfl, ne_ro (G := G) (by rw [gfa, g3]; intro z; cases z), hfa, by omega, fun c2 q H1 hq hq1 k1 => ?_, fun c2 q H1 hq hq1 hw k1 => ?_⟩
            · obtain ⟨R1, t1⟩ := R.more (H1 := H1) fun b o e => by rw [k1 b (ne_of_none e hq)]; exact e
              exact k _ _ _ (spec_next_long good ew (by omega)) A G H1 q R1 t1 hq hq1 (R.wf q hq)
            · obtain ⟨R1, t1⟩ := R.wait' W hm l1 hw k1 f2
              exact k _ _ _ (spec_next_ok good ew (by omega)) A G H1 q R1 t1 hq (by rw [map_cast]; exact hq1) (R.wf q hq)
end
end By

namespace By
open PySem PySem.Spec PyProof.Rows L2
open Ql75 (Own Bytes between)

section
variable {P : Program} {w : World} {K : PySem.W.Frag} {mg : Str → Option Value} {base : Heap} {C : Cs}
theorem sc_lr_gone : FnScope ["self", "most"] ["self", "most"] (defScope s_lr_gone) := ⟨rfl, rfl, rfl, by decide +kernel, rfl, by decide +kernel, by decide +kernel⟩
theorem ok_lr_gone (T : Txt K mg C) (D : MDef K C.rt "lr_gone" "Router.lr_gone" s_lr_gone) (h_take_first : FOk P w K mg base "take_first" 1 ["waiting", "most"] (sp_take_first K C)) : MOk P w K mg base C.rt "lr_gone" 2 ["self", "most"] (sp_lr_gone K C) := by
  obtain ⟨f_take_first, fd_take_first, m_take_first, k_take_first, b_take_first, G_take_first⟩ := h_take_first
  obtain ⟨f, fd, M, F⟩ := D
  refine ⟨f, fd, M, F.binds (ps := ["self", "most"]) fun _ _ _ _ _ _ us hl => match us, hl with | [_, _], _ => rfl, F.ok sc_lr_gone (fun vs H Q E h => ?_) (fun cdv A outer s H vs Q E hr h => ?_)⟩
  · obtain ⟨_, _, rfl, _⟩ := h
    rfl
  obtain ⟨x0, x1, rfl, h⟩ := h
  have hu := hu_of hr
  refine ⟨_, (pss_cons (ps_if (pt_cmpR op_gt (pv 1) (pe_k rfl T.c_GREATEST_MOST) (nomark _)) (pss_one (ps_ret (pe_lst (pa_cons (pe_k rfl T.c_OUT_OF_RANGE) pa_nil)))) pss_nil)
      (pss_one (ps_ret (pe_call G_take_first (hr.mono (by decide)) rfl m_take_first k_take_first b_take_first .nil pass0 (pa_cons (pe_fld (pv 0) rfl) (pa_cons (pv 1) pa_nil)))))), ?_⟩
  obtain ⟨r, G, A, s0, n, rfl, rfl, R, k0, hn, k⟩ := h
  have W := k0.wf
  obtain ⟨dr, e1⟩ := R.rt
  refine ⟨_, rfl, _, _, rfl, rfl, _, rfl, ?_⟩
  refine ite_b (fun c1 => ?_) fun c1 => ?_
  · have c1 : (65536 : Int) < n := of_decide_eq_true c1
    refine ⟨by show 1 ≤ sizeLine; decide, fun q hq => ?_⟩
    obtain ⟨R1, t1⟩ := R.more (upd_same_keep (o := .lst [V.int (-2)]) hq)
    exact k _ _ _ (spec_gone_bad (by omega)) A G _ q R1 t1 hq upd_same (R.wf q hq)
  · have c1 : ¬ (65536 : Int) < n := of_decide_eq_false c1
    have good : ¬ 65536 < n.toNat := by omega
    obtain ⟨vs, e2, fr⟩ := R.gone
    refine ⟨_, rfl, r, C.rt, dr, _, _, rfl, e1, T.cl_rt, T.n_rt_leaving, rt_leaving, _, rfl, ?_⟩
    refine ⟨_, _, rfl, A.ga, vs, n, rfl, rfl, e2, fun ev q H1 hq hq1 k1 => ?_, fun v vr ev => ?_⟩
    · have ew : s0.gone = [] := by
        rw [ev] at fr
        cases h : s0.gone with
        | nil => rfl
        | cons _ _ => rw [h] at fr; cases fr
      obtain ⟨R1, t1⟩ := R.more (H1 := H1) fun b o e => by rw [k1 b (ne_of_none e hq)]; exact e
      exact k _ _ _ (spec_gone_nil good ew) A G H1 q R1 t1 hq hq1 (R.wf q hq)
    · rw [ev] at fr e2
      cases ew : s0.gone with
      | nil => rw [ew] at fr; cases fr
      | cons g gs =>
        rw [ew] at fr
        cases fr with
        | cons f1 f2 =>
          obtain ⟨fa, rfl, hfa, gfa⟩ := f1
          have b2 := W.goneF g (by rw [ew]; exact List.mem_cons_self)
          have ln : (g.1 :: g.2).length = g.2.length + 1 := rfl
          refine ⟨fa, g.1 :: g.2, rfl, ne_ro (G := G) (by rw [gfa, R.goneG]; intro z; cases z), hfa, by omega, fun c2 q H1 hq hq1 k1 => ?_, fun c2 q H1 hq hq1 hw k1 => ?_⟩
          · obtain ⟨R1, t1⟩ := R.more (H1 := H1) fun b o e => by rw [k1 b (ne_of_none e hq)]; exact e
            exact k _ _ _ (spec_gone_long good ew (by omega)) A G H1 q R1 t1 hq hq1 (R.wf q hq)
          · have t1 : Step (fun ro => ro = .gone) G H G H1 := one_step' e2 R.goneG hw LbK.lst k1
            have R1 := R.onGone (g := gs) t1 (fun _ z => z) (R.wf.step t1) ⟨_, hw, Frs.step t1 (by intro z; cases z) f2⟩
            exact k _ _ _ (spec_gone_ok good ew (by omega)) A G H1 q R1 (t1.mono fun ro z => by rw [z]; trivial) hq (by rw [map_cast]; exact hq1) (R.wf q hq)
end
end By

namespace By
open PySem PySem.Spec PyProof.Rows L2
open Ql75 (Own Bytes between)

section
variable {P : Program} {w : World} {K : PySem.W.Frag} {mg : Str → Option Value} {base : Heap} {C : Cs}
theorem sc_active_number : FnScope ["self", "f", "label"] ["self", "f"] (defScope s_active_number) := ⟨rfl, rfl, rfl, by decide +kernel, rfl, by decide +kernel, by decide +kernel⟩
theorem ok_active_number (T : Txt K mg C) (D : MDef K C.rt "active_number" "Router.active_number" s_active_number) (h_active_for : MOk P w K mg base C.bk "active_for" 2 ["self", "end"] (sp_active_for K C)) : MOk P w K mg base C.rt "active_number" 3 ["self", "f"] (sp_active_number K C) := by
  obtain ⟨f_active_for, fd_active_for, M_active_for, b_active_for, G_active_for⟩ := h_active_for
  obtain ⟨f, fd, M, F⟩ := D
  refine ⟨f, fd, M, F.binds (ps := ["self", "f"]) fun _ _ _ _ _ _ us hl => match us, hl with | [_, _], _ => rfl, F.ok sc_active_number (fun vs H Q E h => ?_) (fun cdv A outer s H vs Q E hr h => ?_)⟩
  · obtain ⟨_, _, rfl, _⟩ := h
    rfl
  obtain ⟨x0, x1, rfl, h⟩ := h
  have hu := hu_of hr
  refine ⟨_, (pss_cons (ps_set (i := 2) sc_active_number.nd rfl (Or.inl rfl) (pe_meth (pe_fld (pv 0) rfl) T.cl_bk M_active_for G_active_for (hr.mono (by decide)) b_active_for .nil pass0 (pa_cons (pv 1) pa_nil)))
      (pss_one (ps_ret (pe_ifExp (pt_cmpR op_isN (pv 2) pe_non (nomark _)) (pe_k rfl T.c_NO_LABEL) (pe_fld (pv 2) rfl))))), ?_⟩
  obtain ⟨r, G, A, s0, f, rfl, rfl, R, k⟩ := h
  obtain ⟨dr, e1⟩ := R.rt
  obtain ⟨db, e2⟩ := R.book.bk
  refine ⟨_, rfl, r, C.rt, dr, _, _, rfl, e1, T.cl_rt, T.n_rt_book, rt_book, A.bk, db, _, rfl, e2, bk_no (by decide +kernel), _, rfl, ?_⟩
  refine ⟨_, _, rfl, G, A, _, f, rfl, rfl, R.book, fun H1 s1 => ?_⟩
  have ea : (s0.owns.find? fun o => o.active && o.for_ == f) = s0.active f := rfl
  rw [ea]
  refine ⟨_, rfl, rfl, _, rfl, ?_⟩
  cases e : s0.active f with
  | none =>
    refine iteT ?_
    refine qv (k H1 s1) ?_
    unfold actZ
    rw [e]
  | some o =>
    refine iteF ?_
    obtain ⟨ho, _, _⟩ := active_some e
    obtain ⟨dl, hs, o1, og1, o2, og2⟩ := (R.book.lab o ho).ex
    refine ⟨_, rfl, _, C.lb, dl, _, _, rfl, s1 _ _ o1, T.cl_lb, T.n_lb_number, lb_number, ?_⟩
    refine qv (k H1 s1) ?_
    unfold actZ
    rw [e]
end
end By

namespace By
open PySem PySem.Spec PyProof.Rows L2
open Ql75 (Own Bytes between)

section
variable {P : Program} {w : World} {K : PySem.W.Frag} {mg : Str → Option Value} {base : Heap} {C : Cs}
theorem sc_lr_look : FnScope ["self", "what", "f", "p"] ["self", "what", "f", "p"] (defScope s_lr_look) := ⟨rfl, rfl, rfl, by decide +kernel, rfl, by decide +kernel, by decide +kernel⟩
theorem ok_lr_look (T : Txt K mg C) (D : MDef K C.rt "lr_look" "Router.lr_look" s_lr_look) (h_active_number : MOk P w K mg base C.rt "active_number" 3 ["self", "f"] (sp_active_number K C)) (h_is_line : FOk P w K mg base "is_line" 1 ["p"] (sp_is_line K C)) (h_is_end : FOk P w K mg base "is_end" 1 ["f"] (sp_is_end K C)) (h_is_look : FOk P w K mg base "is_look" 1 ["what"] (sp_is_look K C)) : MOk P w K mg base C.rt "lr_look" 4 ["self", "what", "f", "p"] (sp_lr_look K C) := by
  obtain ⟨f_active_number, fd_active_number, M_active_number, b_active_number, G_active_number⟩ := h_active_number
  obtain ⟨f_is_line, fd_is_line, m_is_line, k_is_line, b_is_line, G_is_line⟩ := h_is_line
  obtain ⟨f_is_end, fd_is_end, m_is_end, k_is_end, b_is_end, G_is_end⟩ := h_is_end
  obtain ⟨f_is_look, fd_is_look, m_is_look, k_is_look, b_is_look, G_is_look⟩ := h_is_look
  obtain ⟨f, fd, M, F⟩ := D
  refine ⟨f, fd, M, F.binds (ps := ["self", "what", "f", "p"]) fun _ _ _ _ _ _ us hl => match us, hl with | [_, _, _, _], _ => rfl, F.ok sc_lr_look (fun vs H Q E h => ?_) (fun cdv A outer s H vs Q E hr h => ?_)⟩
  · obtain ⟨_, _, _, _, rfl, _⟩ := h
    rfl
  obtain ⟨x0, x1, x2, x3, rfl, h⟩ := h
  have hu := hu_of hr
  refine ⟨_, (pss_cons (ps_if (PW.pt (pw_or (pt_not (pt_val (pe_call G_is_look (hr.mono (by decide)) rfl m_is_look k_is_look b_is_look .nil pass0 (pa_cons (pv 1) pa_nil)))) (pw_or (pt_not (pt_val (pe_call G_is_end (hr.mono (by decide)) rfl m_is_end k_is_end b_is_end .nil pass0 (pa_cons (pv 2) pa_nil)))) (pw_or1 (pt_not (pt_val (pe_call G_is_line (hr.mono (by decide)) rfl m_is_line k_is_line b_is_line .nil pass0 (pa_cons (pv 3) pa_nil)))))))) (pss_one (ps_ret (pe_k rfl T.c_OUT_OF_RANGE))) pss_nil)
      (pss_cons (ps_if (pt_cmpR op_eq (pv 1) (pe_k rfl T.c_ACTIVE_LABEL) (nomark _)) (pss_one (ps_ret (pe_meth (pv 0) T.cl_rt M_active_number G_active_number (hr.mono (by decide)) b_active_number .nil pass0 (pa_cons (pv 2) pa_nil)))) pss_nil)
      (pss_cons (ps_if (pt_cmpR op_eq (pv 1) (pe_k rfl T.c_HEARD_LABEL) (nomark _)) (pss_one (ps_ret (pe_dget2 hu (pe_fld (pe_ix ix_list (pe_fld (pv 0) rfl) (pv 3) (fun _ _ => rfl)) rfl) (pv 2) (pe_k rfl T.c_NO_LABEL) (M2.mk (by rfl) (by rfl) (by rfl) (by rfl))))) pss_nil)
      (pss_cons (ps_if (pt_cmpR op_eq (pv 1) (pe_k rfl T.c_FRAMES_WAITING) (nomark _)) (pss_one (ps_ret (pe_callB call_len_seq (by rfl) T.b_len PySem.boot_len (pa_cons (pe_fld (pe_ix ix_list (pe_fld (pv 0) rfl) (pv 3) (fun _ _ => rfl)) rfl) pa_nil)))) pss_nil)
      (pss_one (ps_ret (pe_callB call_lenD (by rfl) T.b_len PySem.boot_len (pa_cons (pe_fld (pe_fld (pv 0) rfl) rfl) pa_nil)))))))), ?_⟩
  obtain ⟨r, G, A, s0, u, f, p, rfl, rfl, rfl, rfl, R, k0, k⟩ := h
  have W := k0.wf
  obtain ⟨dr, e1⟩ := R.rt
  have bad : (between u 0 3 = false ∨ between f 0 31 = false ∨ between p 0 7 = false) → Q (.int (-2)) H := fun c => k _ _ (spec_look_bad c) A G H R (Step.refl _ _ _)
  refine ⟨_, rfl, _, rfl, u, rfl, _, rfl, ?_⟩
  refine ite_b (fun c => ?_) fun c => ?_
  · refine iteT ?_
    exact bad (.inl (not_b c))
  have hu := not_b' c
  refine ⟨_, rfl, _, rfl, f, rfl, _, rfl, ?_⟩
  refine ite_b (fun c => ?_) fun c => ?_
  · refine iteT ?_
    exact bad (.inr (.inl (not_b c)))
  have hf := not_b' c
  refine ⟨_, rfl, _, rfl, p, rfl, _, rfl, ?_⟩
  refine ite_b (fun c => ?_) fun c => ?_
  · exact bad (.inr (.inr (not_b c)))
  have hp := not_b' c
  have good : ¬ (between u 0 3 = false ∨ between f 0 31 = false ∨ between p 0 7 = false) := by
    rw [hu, hf, hp]
    rintro (z | z | z) <;> cases z
  have fin : ∀ v, v = lookZ s0 u f p → ∀ H1 : Hp, (∀ b o, H b = some o → H1 b = some o) → Q (.int v) H1 := fun v e H1 s1 => by
    subst e
    obtain ⟨R1, t1⟩ := R.more s1
    exact k _ _ (spec_look_ok good) A G H1 R1 t1
  obtain ⟨u0, rfl, hu3⟩ := nat_of hu
  obtain ⟨m, rfl, hm⟩ := nat_of hf
  obtain ⟨q, rfl, hq7⟩ := nat_of hp
  have hq : q < 8 := by omega
  obtain ⟨dx, hh, ww, kvs, vs, l1, g1, l2, g2, hk, l3, g3, fr⟩ := (R.line q hq).ex
  have nz : ∀ {n : Nat}, (decide (V.int (u0 : Int) = V.int (n : Int)) = true → u0 = n) ∧ (decide (V.int (u0 : Int) = V.int (n : Int)) = false → ¬ u0 = n) := fun {n} => ⟨fun z => by
      have := V.int.inj (of_decide_eq_true z)
      omega, fun z y => (of_decide_eq_false z) (by rw [y])⟩
  refine ⟨_, rfl, rfl, _, rfl, ?_⟩
  refine ite_b (fun c => ?_) fun c => ?_
  · have c := (nz (n := 0)).1 c
    subst c
    refine ⟨_, rfl, r, dr, _, rfl, e1, rt_no (by decide +kernel), _, rfl, ?_⟩
    exact ⟨_, _, rfl, r, G, A, s0, m, rfl, rfl, R, fun H1 s1 => fin _ rfl H1 s1⟩
  have c0 := (nz (n := 0)).2 c
  refine ⟨_, rfl, rfl, _, rfl, ?_⟩
  refine ite_b (fun c => ?_) fun c => ?_
  · have c := (nz (n := 1)).1 c
    subst c
    refine ⟨_, rfl, r, C.rt, dr, _, _, rfl, e1, T.cl_rt, T.n_rt_lines, rt_lines, _, rfl, A.ls, _, _, _, rfl, rfl, SqL.of R.ls, at_nat (i := q) (ls_get A hq), A.ln q, C.ln, dx, _, _, rfl, l1, T.cl_ln, T.n_ln_heard, ln_heard, hh, rfl, .inl ⟨_, .inl l2⟩, _, rfl, _, DGet.k (k := Sum.inl (m : Int)) l2, ?_⟩
    have hv : valV kvs (Sum.inl (m : Int) : Key) = (s0.label q m).map nV := hk.2.2 m (by omega)
    rw [hv]
    refine qv (fin _ rfl H fun _ _ h => h) ?_
    have el : lookZ s0 ((1 : Nat) : Int) (m : Int) (q : Int) = (match s0.label q m with
      | some l => ((l : Nat) : Int)
      | none => -1) := rfl
    rw [el]
    cases s0.label q m <;> rfl
  have c1 := (nz (n := 1)).2 c
  refine ⟨_, rfl, rfl, _, rfl, ?_⟩
  refine ite_b (fun c => ?_) fun c => ?_
  · have c := (nz (n := 2)).1 c
    subst c
    refine ⟨_, rfl, r, C.rt, dr, _, _, rfl, e1, T.cl_rt, T.n_rt_lines, rt_lines, _, rfl, A.ls, _, _, _, rfl, rfl, SqL.of R.ls, at_nat (i := q) (ls_get A hq), A.ln q, C.ln, dx, _, _, rfl, l1, T.cl_ln, T.n_ln_waiting, ln_waiting, ww, _, rfl, .inl (SqL.of l3), ?_⟩
    refine fin _ ?_ H fun _ _ h => h
    rw [Paired.length fr]
    rfl
  have c2 := (nz (n := 2)).2 c
  have c3 : u0 = 3 := by omega
  subst c3
  obtain ⟨db, e2⟩ := R.book.bk
  refine ⟨_, rfl, r, C.rt, dr, _, _, rfl, e1, T.cl_rt, T.n_rt_book, rt_book, A.bk, C.bk, db, _, _, rfl, e2, T.cl_bk, T.n_bk_given, bk_given, A.dc, _, rfl, R.book.dc, ?_⟩
  refine fin _ ?_ H fun _ _ h => h
  rw [List.length_map]
  rfl
end
end By

namespace By
open PySem PySem.Spec PyProof.Rows L2
open Ql75 (Own Bytes between)

section
variable {P : Program} {w : World} {K : PySem.W.Frag} {mg : Str → Option Value} {base : Heap} {C : Cs}
theorem sc_ask_way : FnScope ["router", "reader", "f", "to"] ["router", "reader"] (defScope s_ask_way) := ⟨rfl, rfl, rfl, by decide +kernel, rfl, by decide +kernel, by decide +kernel⟩
theorem ok_ask_way (T : Txt K mg C) (D : FDef K mg "ask_way" s_ask_way) (h_lr_way : MOk P w K mg base C.rt "lr_way" 8 ["self", "f", "to"] (sp_lr_way K C)) (h_read_number : MOk P w K mg base C.rd "read_number" 1 ["self"] (sp_read_number K C)) : FOk P w K mg base "ask_way" 9 ["router", "reader"] (sp_ask_way K C) := by
  obtain ⟨f_lr_way, fd_lr_way, M_lr_way, b_lr_way, G_lr_way⟩ := h_lr_way
  obtain ⟨f_read_number, fd_read_number, M_read_number, b_read_number, G_read_number⟩ := h_read_number
  obtain ⟨f, fd, m, F⟩ := D
  refine ⟨f, fd, m, F.kp, F.binds (ps := ["router", "reader"]) fun _ _ _ _ _ _ us hl => match us, hl with | [_, _], _ => rfl, F.ok sc_ask_way (fun vs H Q E h => ?_) (fun cdv A outer s H vs Q E hr h => ?_)⟩
  · obtain ⟨_, _, rfl, _⟩ := h
    rfl
  obtain ⟨x0, x1, rfl, h⟩ := h
  have hu := hu_of hr
  refine ⟨_, (pss_cons (ps_set (i := 2) sc_ask_way.nd rfl (Or.inl rfl) (pe_meth0 (pv 1) T.cl_rd M_read_number G_read_number (hr.mono (by decide)) b_read_number .nil pass0))
      (pss_cons (ps_set (i := 3) sc_ask_way.nd rfl (Or.inl rfl) (pe_meth0 (pv 1) T.cl_rd M_read_number G_read_number (hr.mono (by decide)) b_read_number .nil pass0))
      (pss_one (ps_ret (pe_lst (pa_cons (pe_meth (pv 0) T.cl_rt M_lr_way G_lr_way (hr.mono (by decide)) b_lr_way .nil pass0 (pa_cons (pv 2) (pa_cons (pv 3) pa_nil))) pa_nil)))))), ?_⟩
  obtain ⟨r, p, a, G, A, s0, pl, ns, f, t, ⟨rfl, rfl, R, k0, D⟩, hf, ht, k⟩ := h
  obtain ⟨dx, hp⟩ := D.ob
  refine ⟨_, rfl, p, dx, _, rfl, hp, rd_no (by decide +kernel), ?_⟩
  refine ⟨_, rfl, p, dx, a, pl, ns, f, rfl, hp, D.ls.sq, hf, fun H1 h1 k1 => ?_⟩
  obtain ⟨R1, D1, t1⟩ := read_at R D hp h1 fun b o e n => by rw [k1 b n]; exact e
  refine ⟨_, rfl, p, dx, _, rfl, h1, rd_no (by decide +kernel), ?_⟩
  refine ⟨_, rfl, p, dx, a, pl + 1, ns, t, rfl, h1, D1.ls.sq, ht, fun H2 h2 k2 => ?_⟩
  obtain ⟨R2, D2, t2⟩ := read_at R1 D1 h1 h2 fun b o e n => by rw [k2 b n]; exact e
  obtain ⟨dr, e1⟩ := R2.rt
  refine ⟨_, rfl, r, dr, _, rfl, e1, rt_no (by decide +kernel), _, rfl, _, rfl, ?_⟩
  refine ⟨_, _, _, rfl, r, G, A, s0, f, t, rfl, rfl, rfl, R2, k0, fun s' v es A3 G3 H3 R3 t3 => ?_⟩
  refine ⟨by show 1 ≤ sizeLine; decide, fun q hq => ?_⟩
  obtain ⟨R4, D4, t4, gq⟩ := ans_at (o := .lst [V.int v]) R3 (D2.step t3) hq
  have same : ∀ b o, H b = some o → G b = .non → b ≠ p → H3 b = some o := fun b o e g n => t3.keep b o (by rw [k2 b n, k1 b n]; exact e) (by rw [g]; exact id)
  refine k s' _ es A3 G3 _ q R4 ((t1.trans t2).trans ((t3.trans t4).mono isMut_mutNon)) (fun b o e g n => ?_) D4 ?_ upd_same gq
  · have := same b o e g n
    rw [upd_ne (ne_of_none this hq)]; exact this
  · cases e : H q with
    | none => rfl
    | some o =>
      obtain ⟨o', e', _⟩ := ((t1.trans t2).trans (t3.mono isMut_mutNon)).live q o e
      rw [hq] at e'
      cases e'
end
end By

namespace By
open PySem PySem.Spec PyProof.Rows L2
open Ql75 (Own Bytes between)

section
variable {P : Program} {w : World} {K : PySem.W.Frag} {mg : Str → Option Value} {base : Heap} {C : Cs}
theorem sc_ask_line : FnScope ["router", "reader", "p", "up"] ["router", "reader"] (defScope s_ask_line) := ⟨rfl, rfl, rfl, by decide +kernel, rfl, by decide +kernel, by decide +kernel⟩
theorem ok_ask_line (T : Txt K mg C) (D : FDef K mg "ask_line" s_ask_line) (h_lr_line : MOk P w K mg base C.rt "lr_line" 7 ["self", "p", "up"] (sp_lr_line K C)) (h_read_number : MOk P w K mg base C.rd "read_number" 1 ["self"] (sp_read_number K C)) : FOk P w K mg base "ask_line" 8 ["router", "reader"] (sp_ask_line K C) := by
  obtain ⟨f_lr_line, fd_lr_line, M_lr_line, b_lr_line, G_lr_line⟩ := h_lr_line
  obtain ⟨f_read_number, fd_read_number, M_read_number, b_read_number, G_read_number⟩ := h_read_number
  obtain ⟨f, fd, m, F⟩ := D
  refine ⟨f, fd, m, F.kp, F.binds (ps := ["router", "reader"]) fun _ _ _ _ _ _ us hl => match us, hl with | [_, _], _ => rfl, F.ok sc_ask_line (fun vs H Q E h => ?_) (fun cdv A outer s H vs Q E hr h => ?_)⟩
  · obtain ⟨_, _, rfl, _⟩ := h
    rfl
  obtain ⟨x0, x1, rfl, h⟩ := h
  have hu := hu_of hr
  refine ⟨_, (pss_cons (ps_set (i := 2) sc_ask_line.nd rfl (Or.inl rfl) (pe_meth0 (pv 1) T.cl_rd M_read_number G_read_number (hr.mono (by decide)) b_read_number .nil pass0))
      (pss_cons (ps_set (i := 3) sc_ask_line.nd rfl (Or.inl rfl) (pe_meth0 (pv 1) T.cl_rd M_read_number G_read_number (hr.mono (by decide)) b_read_number .nil pass0))
      (pss_one (ps_ret (pe_lst (pa_cons (pe_meth (pv 0) T.cl_rt M_lr_line G_lr_line (hr.mono (by decide)) b_lr_line .nil pass0 (pa_cons (pv 2) (pa_cons (pv 3) pa_nil))) pa_nil)))))), ?_⟩
  obtain ⟨r, p, a, G, A, s0, pl, ns, f, t, ⟨rfl, rfl, R, k0, D⟩, hf, ht, k⟩ := h
  obtain ⟨dx, hp⟩ := D.ob
  refine ⟨_, rfl, p, dx, _, rfl, hp, rd_no (by decide +kernel), ?_⟩
  refine ⟨_, rfl, p, dx, a, pl, ns, f, rfl, hp, D.ls.sq, hf, fun H1 h1 k1 => ?_⟩
  obtain ⟨R1, D1, t1⟩ := read_at R D hp h1 fun b o e n => by rw [k1 b n]; exact e
  refine ⟨_, rfl, p, dx, _, rfl, h1, rd_no (by decide +kernel), ?_⟩
  refine ⟨_, rfl, p, dx, a, pl + 1, ns, t, rfl, h1, D1.ls.sq, ht, fun H2 h2 k2 => ?_⟩
  obtain ⟨R2, D2, t2⟩ := read_at R1 D1 h1 h2 fun b o e n => by rw [k2 b n]; exact e
  obtain ⟨dr, e1⟩ := R2.rt
  refine ⟨_, rfl, r, dr, _, rfl, e1, rt_no (by decide +kernel), _, rfl, _, rfl, ?_⟩
  refine ⟨_, _, _, rfl, r, G, A, s0, f, t, rfl, rfl, rfl, R2, k0, fun s' v es A3 G3 H3 R3 t3 => ?_⟩
  refine ⟨by show 1 ≤ sizeLine; decide, fun q hq => ?_⟩
  obtain ⟨R4, D4, t4, gq⟩ := ans_at (o := .lst [V.int v]) R3 (D2.step t3) hq
  have same : ∀ b o, H b = some o → G b = .non → b ≠ p → H3 b = some o := fun b o e g n => t3.keep b o (by rw [k2 b n, k1 b n]; exact e) (by rw [g]; exact id)
  refine k s' _ es A3 G3 _ q R4 ((t1.trans t2).trans ((t3.trans t4).mono isMut_mutNon)) (fun b o e g n => ?_) D4 ?_ upd_same gq
  · have := same b o e g n
    rw [upd_ne (ne_of_none this hq)]; exact this
  · cases e : H q with
    | none => rfl
    | some o =>
      obtain ⟨o', e', _⟩ := ((t1.trans t2).trans (t3.mono isMut_mutNon)).live q o e
      rw [hq] at e'
      cases e'
end
end By

namespace By
open PySem PySem.Spec PyProof.Rows L2
open Ql75 (Own Bytes between)

section
variable {P : Program} {w : World} {K : PySem.W.Frag} {mg : Str → Option Value} {base : Heap} {C : Cs}
theorem sc_ask_take : FnScope ["router", "reader", "p", "frame"] ["router", "reader"] (defScope s_ask_take) := ⟨rfl, rfl, rfl, by decide +kernel, rfl, by decide +kernel, by decide +kernel⟩
theorem ok_ask_take (T : Txt K mg C) (D : FDef K mg "ask_take" s_ask_take) (h_lr_take : MOk P w K mg base C.rt "lr_take" 7 ["self", "p", "frame"] (sp_lr_take K C)) (h_read_row : MOk P w K mg base C.rd "read_row" 2 ["self"] (sp_read_row K C)) (h_read_number : MOk P w K mg base C.rd "read_number" 1 ["self"] (sp_read_number K C)) : FOk P w K mg base "ask_take" 8 ["router", "reader"] (sp_ask_take K C) := by
  obtain ⟨f_lr_take, fd_lr_take, M_lr_take, b_lr_take, G_lr_take⟩ := h_lr_take
  obtain ⟨f_read_row, fd_read_row, M_read_row, b_read_row, G_read_row⟩ := h_read_row
  obtain ⟨f_read_number, fd_read_number, M_read_number, b_read_number, G_read_number⟩ := h_read_number
  obtain ⟨f, fd, m, F⟩ := D
  refine ⟨f, fd, m, F.kp, F.binds (ps := ["router", "reader"]) fun _ _ _ _ _ _ us hl => match us, hl with | [_, _], _ => rfl, F.ok sc_ask_take (fun vs H Q E h => ?_) (fun cdv A outer s H vs Q E hr h => ?_)⟩
  · obtain ⟨_, _, rfl, _⟩ := h
    rfl
  obtain ⟨x0, x1, rfl, h⟩ := h
  have hu := hu_of hr
  refine ⟨_, (pss_cons (ps_set (i := 2) sc_ask_take.nd rfl (Or.inl rfl) (pe_meth0 (pv 1) T.cl_rd M_read_number G_read_number (hr.mono (by decide)) b_read_number .nil pass0))
      (pss_cons (ps_set (i := 3) sc_ask_take.nd rfl (Or.inl rfl) (pe_meth0 (pv 1) T.cl_rd M_read_row G_read_row (hr.mono (by decide)) b_read_row .nil pass0))
      (pss_one (ps_ret (pe_lst (pa_cons (pe_meth (pv 0) T.cl_rt M_lr_take G_lr_take (hr.mono (by decide)) b_lr_take .nil pass0 (pa_cons (pv 2) (pa_cons (pv 3) pa_nil))) pa_nil)))))), ?_⟩
  obtain ⟨r, p, a, G, A, s0, pl, ns, f, b, ⟨rfl, rfl, R, k0, D⟩, hf, hn, hb, k⟩ := h
  obtain ⟨dx, hp⟩ := D.ob
  have lb : pl + 2 + b.length ≤ ns.length := by
    have h1 := congrArg List.length hb
    rw [List.length_take, List.length_drop, List.length_map] at h1
    have h2 := (List.getElem?_eq_some_iff.mp hn).1
    omega
  refine ⟨_, rfl, p, dx, _, rfl, hp, rd_no (by decide +kernel), ?_⟩
  refine ⟨_, rfl, p, dx, a, pl, ns, f, rfl, hp, D.ls.sq, hf, fun H1 h1 k1 => ?_⟩
  obtain ⟨R1, D1, t1⟩ := read_at R D hp h1 fun b o e n => by rw [k1 b n]; exact e
  refine ⟨_, rfl, p, dx, _, rfl, h1, rd_no (by decide +kernel), ?_⟩
  refine ⟨_, rfl, p, dx, a, pl + 1, ns, b.length, rfl, h1, D1.ls.sq, hn, lb, fun l H2 l0 l1 h2 k2 => ?_⟩
  have npl : p ≠ l := ne_of_none h1 l0
  obtain ⟨R2, D2, t2⟩ := read_at R1 D1 h1 h2 fun b o e n => by rw [k2 b n (ne_of_none e l0)]; exact e
  have gl : G l = .non := R1.wf l l0
  have l2 : H2 l = some (.lst (b.map nV)) := by
    rw [l1]
    have e : pl + 1 + 1 = pl + 2 := rfl
    rw [e, hb, nV_ints]
  obtain ⟨dr, e1⟩ := R2.rt
  refine ⟨_, rfl, r, dr, _, rfl, e1, rt_no (by decide +kernel), _, rfl, _, rfl, ?_⟩
  refine ⟨_, _, _, rfl, r, G, A, s0, f, l, b, rfl, rfl, rfl, R2, k0, l2, gl, fun s' v es A3 G3 H3 R3 t3 => ?_⟩
  refine ⟨by show 1 ≤ sizeLine; decide, fun q hq => ?_⟩
  obtain ⟨R4, D4, t4, gq⟩ := ans_at (o := .lst [V.int v]) R3 (D2.step t3) hq
  have same : ∀ b o, H b = some o → G b = .non → b ≠ p → H3 b = some o := fun b o e g n => t3.keep b o (by
    have e1 : H1 b = some o := by rw [k1 b n]; exact e
    rw [k2 b n (ne_of_none e1 l0)]; exact e1) (by rw [g]; exact id)
  refine k s' _ es A3 G3 _ q R4 ((t1.trans t2).trans ((t3.trans t4).mono isMut_mutNon)) (fun b o e g n => ?_) D4 ?_ upd_same gq
  · have := same b o e g n
    rw [upd_ne (ne_of_none this hq)]; exact this
  · cases e : H q with
    | none => rfl
    | some o =>
      obtain ⟨o', e', _⟩ := ((t1.trans t2).trans (t3.mono isMut_mutNon)).live q o e
      rw [hq] at e'
      cases e'
end
end By

namespace By
open PySem PySem.Spec PyProof.Rows L2
open Ql75 (Own Bytes between)

section
variable {P : Program} {w : World} {K : PySem.W.Frag} {mg : Str → Option Value} {base : Heap} {C : Cs}
theorem sc_ask_enter : FnScope ["router", "reader", "f", "payload"] ["router", "reader"] (defScope s_ask_enter) := ⟨rfl, rfl, rfl, by decide +kernel, rfl, by decide +kernel, by decide +kernel⟩
theorem ok_ask_enter (T : Txt K mg C) (D : FDef K mg "ask_enter" s_ask_enter) (h_lr_enter : MOk P w K mg base C.rt "lr_enter" 4 ["self", "f", "payload"] (sp_lr_enter K C)) (h_read_row : MOk P w K mg base C.rd "read_row" 2 ["self"] (sp_read_row K C)) (h_read_number : MOk P w K mg base C.rd "read_number" 1 ["self"] (sp_read_number K C)) : FOk P w K mg base "ask_enter" 5 ["router", "reader"] (sp_ask_enter K C) := by
  obtain ⟨f_lr_enter, fd_lr_enter, M_lr_enter, b_lr_enter, G_lr_enter⟩ := h_lr_enter
  obtain ⟨f_read_row, fd_read_row, M_read_row, b_read_row, G_read_row⟩ := h_read_row
  obtain ⟨f_read_number, fd_read_number, M_read_number, b_read_number, G_read_number⟩ := h_read_number
  obtain ⟨f, fd, m, F⟩ := D
  refine ⟨f, fd, m, F.kp, F.binds (ps := ["router", "reader"]) fun _ _ _ _ _ _ us hl => match us, hl with | [_, _], _ => rfl, F.ok sc_ask_enter (fun vs H Q E h => ?_) (fun cdv A outer s H vs Q E hr h => ?_)⟩
  · obtain ⟨_, _, rfl, _⟩ := h
    rfl
  obtain ⟨x0, x1, rfl, h⟩ := h
  have hu := hu_of hr
  refine ⟨_, (pss_cons (ps_set (i := 2) sc_ask_enter.nd rfl (Or.inl rfl) (pe_meth0 (pv 1) T.cl_rd M_read_number G_read_number (hr.mono (by decide)) b_read_number .nil pass0))
      (pss_cons (ps_set (i := 3) sc_ask_enter.nd rfl (Or.inl rfl) (pe_meth0 (pv 1) T.cl_rd M_read_row G_read_row (hr.mono (by decide)) b_read_row .nil pass0))
      (pss_one (ps_ret (pe_lst (pa_cons (pe_meth (pv 0) T.cl_rt M_lr_enter G_lr_enter (hr.mono (by decide)) b_lr_enter .nil pass0 (pa_cons (pv 2) (pa_cons (pv 3) pa_nil))) pa_nil)))))), ?_⟩
  obtain ⟨r, p, a, G, A, s0, pl, ns, f, b, ⟨rfl, rfl, R, k0, D⟩, hf, hn, hb, k⟩ := h
  obtain ⟨dx, hp⟩ := D.ob
  have lb : pl + 2 + b.length ≤ ns.length := by
    have h1 := congrArg List.length hb
    rw [List.length_take, List.length_drop, List.length_map] at h1
    have h2 := (List.getElem?_eq_some_iff.mp hn).1
    omega
  refine ⟨_, rfl, p, dx, _, rfl, hp, rd_no (by decide +kernel), ?_⟩
  refine ⟨_, rfl, p, dx, a, pl, ns, f, rfl, hp, D.ls.sq, hf, fun H1 h1 k1 => ?_⟩
  obtain ⟨R1, D1, t1⟩ := read_at R D hp h1 fun b o e n => by rw [k1 b n]; exact e
  refine ⟨_, rfl, p, dx, _, rfl, h1, rd_no (by decide +kernel), ?_⟩
  refine ⟨_, rfl, p, dx, a, pl + 1, ns, b.length, rfl, h1, D1.ls.sq, hn, lb, fun l H2 l0 l1 h2 k2 => ?_⟩
  have npl : p ≠ l := ne_of_none h1 l0
  obtain ⟨R2, D2, t2⟩ := read_at R1 D1 h1 h2 fun b o e n => by rw [k2 b n (ne_of_none e l0)]; exact e
  have gl : G l = .non := R1.wf l l0
  have l2 : H2 l = some (.lst (b.map nV)) := by
    rw [l1]
    have e : pl + 1 + 1 = pl + 2 := rfl
    rw [e, hb, nV_ints]
  obtain ⟨dr, e1⟩ := R2.rt
  refine ⟨_, rfl, r, dr, _, rfl, e1, rt_no (by decide +kernel), _, rfl, _, rfl, ?_⟩
  refine ⟨_, _, _, rfl, r, G, A, s0, f, l, b, rfl, rfl, rfl, R2, k0, l2, gl, fun s' v es A3 G3 H3 R3 t3 => ?_⟩
  refine ⟨by show 1 ≤ sizeLine; decide, fun q hq => ?_⟩
  obtain ⟨R4, D4, t4, gq⟩ := ans_at (o := .lst [V.int v]) R3 (D2.step t3) hq
  have same : ∀ b o, H b = some o → G b = .non → b ≠ p → H3 b = some o := fun b o e g n => t3.keep b o (by
    have e1 : H1 b = some o := by rw [k1 b n]; exact e
    rw [k2 b n (ne_of_none e1 l0)]; exact e1) (by rw [g]; exact id)
  refine k s' _ es A3 G3 _ q R4 ((t1.trans t2).trans ((t3.trans t4).mono isMut_mutNon)) (fun b o e g n => ?_) D4 ?_ upd_same gq
  · have := same b o e g n
    rw [upd_ne (ne_of_none this hq)]; exact this
  · cases e : H q with
    | none => rfl
    | some o =>
      obtain ⟨o', e', _⟩ := ((t1.trans t2).trans (t3.mono isMut_mutNon)).live q o e
      rw [hq] at e'
      cases e'
end
end By

namespace By
open PySem PySem.Spec PyProof.Rows L2
open Ql75 (Own Bytes between)

section
variable {P : Program} {w : World} {K : PySem.W.Frag} {mg : Str → Option Value} {base : Heap} {C : Cs}
theorem sc_ask_next : FnScope ["router", "reader", "p", "most"] ["router", "reader"] (defScope s_ask_next) := ⟨rfl, rfl, rfl, by decide +kernel, rfl, by decide +kernel, by decide +kernel⟩
theorem ok_ask_next (T : Txt K mg C) (D : FDef K mg "ask_next" s_ask_next) (h_lr_next : MOk P w K mg base C.rt "lr_next" 2 ["self", "p", "most"] (sp_lr_next K C)) (h_read_number : MOk P w K mg base C.rd "read_number" 1 ["self"] (sp_read_number K C)) : FOk P w K mg base "ask_next" 3 ["router", "reader"] (sp_ask_next K C) := by
  obtain ⟨f_lr_next, fd_lr_next, M_lr_next, b_lr_next, G_lr_next⟩ := h_lr_next
  obtain ⟨f_read_number, fd_read_number, M_read_number, b_read_number, G_read_number⟩ := h_read_number
  obtain ⟨f, fd, m, F⟩ := D
  refine ⟨f, fd, m, F.kp, F.binds (ps := ["router", "reader"]) fun _ _ _ _ _ _ us hl => match us, hl with | [_, _], _ => rfl, F.ok sc_ask_next (fun vs H Q E h => ?_) (fun cdv A outer s H vs Q E hr h => ?_)⟩
  · obtain ⟨_, _, rfl, _⟩ := h
    rfl
  obtain ⟨x0, x1, rfl, h⟩ := h
  have hu := hu_of hr
  refine ⟨_, (pss_cons (ps_set (i := 2) sc_ask_next.nd rfl (Or.inl rfl) (pe_meth0 (pv 1) T.cl_rd M_read_number G_read_number (hr.mono (by decide)) b_read_number .nil pass0))
      (pss_cons (ps_set (i := 3) sc_ask_next.nd rfl (Or.inl rfl) (pe_meth0 (pv 1) T.cl_rd M_read_number G_read_number (hr.mono (by decide)) b_read_number .nil pass0))
      (pss_one (ps_ret (pe_meth (pv 0) T.cl_rt M_lr_next G_lr_next (hr.mono (by decide)) b_lr_next .nil pass0 (pa_cons (pv 2) (pa_cons (pv 3) pa_nil))))))), ?_⟩
  obtain ⟨r, p, a, G, A, s0, pl, ns, f, t, ⟨rfl, rfl, R, k0, D⟩, hf, ht, h0, k⟩ := h
  obtain ⟨dx, hp⟩ := D.ob
  refine ⟨_, rfl, p, dx, _, rfl, hp, rd_no (by decide +kernel), ?_⟩
  refine ⟨_, rfl, p, dx, a, pl, ns, f, rfl, hp, D.ls.sq, hf, fun H1 h1 k1 => ?_⟩
  obtain ⟨R1, D1, t1⟩ := read_at R D hp h1 fun b o e n => by rw [k1 b n]; exact e
  refine ⟨_, rfl, p, dx, _, rfl, h1, rd_no (by decide +kernel), ?_⟩
  refine ⟨_, rfl, p, dx, a, pl + 1, ns, t, rfl, h1, D1.ls.sq, ht, fun H2 h2 k2 => ?_⟩
  obtain ⟨R2, D2, t2⟩ := read_at R1 D1 h1 h2 fun b o e n => by rw [k2 b n]; exact e
  obtain ⟨dr, e1⟩ := R2.rt
  refine ⟨_, rfl, r, dr, _, rfl, e1, rt_no (by decide +kernel), _, rfl, _, rfl, ?_⟩
  refine ⟨_, _, _, rfl, r, G, A, s0, f, t, rfl, rfl, rfl, R2, k0, h0, fun s' v out es A3 G3 H3 q R3 t3 hq hq1 gq => ?_⟩
  refine k s' _ es A3 G3 _ q R3 ((t1.trans t2).trans (t3.mono isMut_mutNon)) (fun b o e g n => t3.keep b o (by rw [k2 b n, k1 b n]; exact e) (by rw [g]; exact id)) (D2.step t3) ?_ hq1 gq
  cases e : H q with
  | none => rfl
  | some o =>
    obtain ⟨o', e', _⟩ := (t1.trans t2).live q o e
    rw [hq] at e'
    cases e'
end
end By

namespace By
open PySem PySem.Spec PyProof.Rows L2
open Ql75 (Own Bytes between)

section
variable {P : Program} {w : World} {K : PySem.W.Frag} {mg : Str → Option Value} {base : Heap} {C : Cs}
theorem sc_ask_gone : FnScope ["router", "reader", "most"] ["router", "reader"] (defScope s_ask_gone) := ⟨rfl, rfl, rfl, by decide +kernel, rfl, by decide +kernel, by decide +kernel⟩
theorem ok_ask_gone (T : Txt K mg C) (D : FDef K mg "ask_gone" s_ask_gone) (h_lr_gone : MOk P w K mg base C.rt "lr_gone" 2 ["self", "most"] (sp_lr_gone K C)) (h_read_number : MOk P w K mg base C.rd "read_number" 1 ["self"] (sp_read_number K C)) : FOk P w K mg base "ask_gone" 3 ["router", "reader"] (sp_ask_gone K C) := by
  obtain ⟨f_lr_gone, fd_lr_gone, M_lr_gone, b_lr_gone, G_lr_gone⟩ := h_lr_gone
  obtain ⟨f_read_number, fd_read_number, M_read_number, b_read_number, G_read_number⟩ := h_read_number
  obtain ⟨f, fd, m, F⟩ := D
  refine ⟨f, fd, m, F.kp, F.binds (ps := ["router", "reader"]) fun _ _ _ _ _ _ us hl => match us, hl with | [_, _], _ => rfl, F.ok sc_ask_gone (fun vs H Q E h => ?_) (fun cdv A outer s H vs Q E hr h => ?_)⟩
  · obtain ⟨_, _, rfl, _⟩ := h
    rfl
  obtain ⟨x0, x1, rfl, h⟩ := h
  have hu := hu_of hr
  refine ⟨_, (pss_cons (ps_set (i := 2) sc_ask_gone.nd rfl (Or.inl rfl) (pe_meth0 (pv 1) T.cl_rd M_read_number G_read_number (hr.mono (by decide)) b_read_number .nil pass0))
      (pss_one (ps_ret (pe_meth (pv 0) T.cl_rt M_lr_gone G_lr_gone (hr.mono (by decide)) b_lr_gone .nil pass0 (pa_cons (pv 2) pa_nil))))), ?_⟩
  obtain ⟨r, p, a, G, A, s0, pl, ns, t, ⟨rfl, rfl, R, k0, D⟩, ht, h0, k⟩ := h
  obtain ⟨dx, hp⟩ := D.ob
  refine ⟨_, rfl, p, dx, _, rfl, hp, rd_no (by decide +kernel), ?_⟩
  refine ⟨_, rfl, p, dx, a, pl, ns, t, rfl, hp, D.ls.sq, ht, fun H1 h1 k1 => ?_⟩
  obtain ⟨R1, D1, t1⟩ := read_at R D hp h1 fun b o e n => by rw [k1 b n]; exact e
  obtain ⟨dr, e1⟩ := R1.rt
  refine ⟨_, rfl, r, dr, _, rfl, e1, rt_no (by decide +kernel), _, rfl, ?_⟩
  refine ⟨_, _, rfl, r, G, A, s0, t, rfl, rfl, R1, k0, h0, fun s' v out es A3 G3 H3 q R3 t3 hq hq1 gq => ?_⟩
  refine k s' _ es A3 G3 _ q R3 (t1.trans (t3.mono isMut_mutNon)) (fun b o e g n => t3.keep b o (by rw [k1 b n]; exact e) (by rw [g]; exact id)) (D1.step t3) ?_ hq1 gq
  cases e : H q with
  | none => rfl
  | some o =>
    obtain ⟨o', e', _⟩ := t1.live q o e
    rw [hq] at e'
    cases e'
end
end By

namespace By
open PySem PySem.Spec PyProof.Rows L2
open Ql75 (Own Bytes between)

section
variable {P : Program} {w : World} {K : PySem.W.Frag} {mg : Str → Option Value} {base : Heap} {C : Cs}
theorem sc_ask_look : FnScope ["router", "reader", "what", "f", "p"] ["router", "reader"] (defScope s_ask_look) := ⟨rfl, rfl, rfl, by decide +kernel, rfl, by decide +kernel, by decide +kernel⟩
theorem ok_ask_look (T : Txt K mg C) (D : FDef K mg "ask_look" s_ask_look) (h_lr_look : MOk P w K mg base C.rt "lr_look" 4 ["self", "what", "f", "p"] (sp_lr_look K C)) (h_read_number : MOk P w K mg base C.rd "read_number" 1 ["self"] (sp_read_number K C)) : FOk P w K mg base "ask_look" 5 ["router", "reader"] (sp_ask_look K C) := by
  obtain ⟨f_lr_look, fd_lr_look, M_lr_look, b_lr_look, G_lr_look⟩ := h_lr_look
  obtain ⟨f_read_number, fd_read_number, M_read_number, b_read_number, G_read_number⟩ := h_read_number
  obtain ⟨f, fd, m, F⟩ := D
  refine ⟨f, fd, m, F.kp, F.binds (ps := ["router", "reader"]) fun _ _ _ _ _ _ us hl => match us, hl with | [_, _], _ => rfl, F.ok sc_ask_look (fun vs H Q E h => ?_) (fun cdv A outer s H vs Q E hr h => ?_)⟩
  · obtain ⟨_, _, rfl, _⟩ := h
    rfl
  obtain ⟨x0, x1, rfl, h⟩ := h
  have hu := hu_of hr
  refine ⟨_, (pss_cons (ps_set (i := 2) sc_ask_look.nd rfl (Or.inl rfl) (pe_meth0 (pv 1) T.cl_rd M_read_number G_read_number (hr.mono (by decide)) b_read_number .nil pass0))
      (pss_cons (ps_set (i := 3) sc_ask_look.nd rfl (Or.inl rfl) (pe_meth0 (pv 1) T.cl_rd M_read_number G_read_number (hr.mono (by decide)) b_read_number .nil pass0))
      (pss_cons (ps_set (i := 4) sc_ask_look.nd rfl (Or.inl rfl) (pe_meth0 (pv 1) T.cl_rd M_read_number G_read_number (hr.mono (by decide)) b_read_number .nil pass0))
      (pss_one (ps_ret (pe_lst (pa_cons (pe_meth (pv 0) T.cl_rt M_lr_look G_lr_look (hr.mono (by decide)) b_lr_look .nil pass0 (pa_cons (pv 2) (pa_cons (pv 3) (pa_cons (pv 4) pa_nil)))) pa_nil))))))), ?_⟩
  obtain ⟨r, p, a, G, A, s0, pl, ns, f, t, y, ⟨rfl, rfl, R, k0, D⟩, hf, ht, hy, k⟩ := h
  obtain ⟨dx, hp⟩ := D.ob
  refine ⟨_, rfl, p, dx, _, rfl, hp, rd_no (by decide +kernel), ?_⟩
  refine ⟨_, rfl, p, dx, a, pl, ns, f, rfl, hp, D.ls.sq, hf, fun H1 h1 k1 => ?_⟩
  obtain ⟨R1, D1, t1⟩ := read_at R D hp h1 fun b o e n => by rw [k1 b n]; exact e
  refine ⟨_, rfl, p, dx, _, rfl, h1, rd_no (by decide +kernel), ?_⟩
  refine ⟨_, rfl, p, dx, a, pl + 1, ns, t, rfl, h1, D1.ls.sq, ht, fun H2 h2 k2 => ?_⟩
  obtain ⟨R2, D2, t2⟩ := read_at R1 D1 h1 h2 fun b o e n => by rw [k2 b n]; exact e
  refine ⟨_, rfl, p, dx, _, rfl, h2, rd_no (by decide +kernel), ?_⟩
  refine ⟨_, rfl, p, dx, a, pl + 2, ns, y, rfl, h2, D2.ls.sq, hy, fun H5 h5 k5 => ?_⟩
  obtain ⟨R5, D5, t5⟩ := read_at R2 D2 h2 h5 fun b o e n => by rw [k5 b n]; exact e
  obtain ⟨dr, e1⟩ := R5.rt
  refine ⟨_, rfl, r, dr, _, rfl, e1, rt_no (by decide +kernel), _, rfl, _, rfl, _, rfl, ?_⟩
  refine ⟨_, _, _, _, rfl, r, G, A, s0, f, t, y, rfl, rfl, rfl, rfl, R5, k0, fun s' v es A3 G3 H3 R3 t3 => ?_⟩
  refine ⟨by show 1 ≤ sizeLine; decide, fun q hq => ?_⟩
  obtain ⟨R4, D4, t4, gq⟩ := ans_at (o := .lst [V.int v]) R3 (D5.step t3) hq
  have same : ∀ b o, H b = some o → G b = .non → b ≠ p → H3 b = some o := fun b o e g n => t3.keep b o (by rw [k5 b n, k2 b n, k1 b n]; exact e) (by rw [g]; exact id)
  refine k s' _ es A3 G3 _ q R4 (((t1.trans t2).trans t5).trans ((t3.trans t4).mono isMut_mutNon)) (fun b o e g n => ?_) D4 ?_ upd_same gq
  · have := same b o e g n
    rw [upd_ne (ne_of_none this hq)]; exact this
  · cases e : H q with
    | none => rfl
    | some o =>
      obtain ⟨o', e', _⟩ := (((t1.trans t2).trans t5).trans (t3.mono isMut_mutNon)).live q o e
      rw [hq] at e'
      cases e'
end
end By

namespace By
open PySem PySem.Spec PyProof.Rows L2
open Ql75 (Own Bytes between)

section
variable {P : Program} {w : World} {K : PySem.W.Frag} {mg : Str → Option Value} {base : Heap} {C : Cs}
theorem sc_answer_one : FnScope ["router", "reader", "call"] ["router", "reader"] (defScope s_answer_one) := ⟨rfl, rfl, rfl, by decide +kernel, rfl, by decide +kernel, by decide +kernel⟩
theorem ok_answer_one (T : Txt K mg C) (D : FDef K mg "answer_one" s_answer_one) (h_ask_look : FOk P w K mg base "ask_look" 5 ["router", "reader"] (sp_ask_look K C)) (h_ask_gone : FOk P w K mg base "ask_gone" 3 ["router", "reader"] (sp_ask_gone K C)) (h_ask_next : FOk P w K mg base "ask_next" 3 ["router", "reader"] (sp_ask_next K C)) (h_ask_enter : FOk P w K mg base "ask_enter" 5 ["router", "reader"] (sp_ask_enter K C)) (h_ask_take : FOk P w K mg base "ask_take" 8 ["router", "reader"] (sp_ask_take K C)) (h_ask_line : FOk P w K mg base "ask_line" 8 ["router", "reader"] (sp_ask_line K C)) (h_ask_way : FOk P w K mg base "ask_way" 9 ["router", "reader"] (sp_ask_way K C)) (h_lr_begin : MOk P w K mg base C.rt "lr_begin" 3 ["self"] (sp_lr_begin K C)) (h_read_number : MOk P w K mg base C.rd "read_number" 1 ["self"] (sp_read_number K C)) : FOk P w K mg base "answer_one" 10 ["router", "reader"] (sp_answer_one K C) := by
  obtain ⟨f_ask_look, fd_ask_look, m_ask_look, k_ask_look, b_ask_look, G_ask_look⟩ := h_ask_look
  obtain ⟨f_ask_gone, fd_ask_gone, m_ask_gone, k_ask_gone, b_ask_gone, G_ask_gone⟩ := h_ask_gone
  obtain ⟨f_ask_next, fd_ask_next, m_ask_next, k_ask_next, b_ask_next, G_ask_next⟩ := h_ask_next
  obtain ⟨f_ask_enter, fd_ask_enter, m_ask_enter, k_ask_enter, b_ask_enter, G_ask_enter⟩ := h_ask_enter
  obtain ⟨f_ask_take, fd_ask_take, m_ask_take, k_ask_take, b_ask_take, G_ask_take⟩ := h_ask_take
  obtain ⟨f_ask_line, fd_ask_line, m_ask_line, k_ask_line, b_ask_line, G_ask_line⟩ := h_ask_line
  obtain ⟨f_ask_way, fd_ask_way, m_ask_way, k_ask_way, b_ask_way, G_ask_way⟩ := h_ask_way
  obtain ⟨f_lr_begin, fd_lr_begin, M_lr_begin, b_lr_begin, G_lr_begin⟩ := h_lr_begin
  obtain ⟨f_read_number, fd_read_number, M_read_number, b_read_number, G_read_number⟩ := h_read_number
  obtain ⟨f, fd, m, F⟩ := D
  refine ⟨f, fd, m, F.kp, F.binds (ps := ["router", "reader"]) fun _ _ _ _ _ _ us hl => match us, hl with | [_, _], _ => rfl, F.ok sc_answer_one (fun vs H Q E h => ?_) (fun cdv A outer s H vs Q E hr h => ?_)⟩
  · obtain ⟨_, _, rfl, _⟩ := h
    rfl
  obtain ⟨x0, x1, rfl, h⟩ := h
  have hu := hu_of hr
  refine ⟨_, (pss_cons (ps_set (i := 2) sc_answer_one.nd rfl (Or.inl rfl) (pe_meth0 (pv 1) T.cl_rd M_read_number G_read_number (hr.mono (by decide)) b_read_number .nil pass0))
      (pss_cons (ps_if (pt_cmpR op_eq (pv 2) (pe_k rfl T.c_BEGIN) (nomark _)) (pss_one (ps_ret (pe_lst (pa_cons (pe_meth0 (pv 0) T.cl_rt M_lr_begin G_lr_begin (hr.mono (by decide)) b_lr_begin .nil pass0) pa_nil)))) pss_nil)
      (pss_cons (ps_if (pt_cmpR op_eq (pv 2) (pe_k rfl T.c_WAY) (nomark _)) (pss_one (ps_ret (pe_call G_ask_way (hr.mono (by decide)) rfl m_ask_way k_ask_way b_ask_way .nil pass0 (pa_cons (pv 0) (pa_cons (pv 1) pa_nil))))) pss_nil)
      (pss_cons (ps_if (pt_cmpR op_eq (pv 2) (pe_k rfl T.c_LINE) (nomark _)) (pss_one (ps_ret (pe_call G_ask_line (hr.mono (by decide)) rfl m_ask_line k_ask_line b_ask_line .nil pass0 (pa_cons (pv 0) (pa_cons (pv 1) pa_nil))))) pss_nil)
      (pss_cons (ps_if (pt_cmpR op_eq (pv 2) (pe_k rfl T.c_TAKE) (nomark _)) (pss_one (ps_ret (pe_call G_ask_take (hr.mono (by decide)) rfl m_ask_take k_ask_take b_ask_take .nil pass0 (pa_cons (pv 0) (pa_cons (pv 1) pa_nil))))) pss_nil)
      (pss_cons (ps_if (pt_cmpR op_eq (pv 2) (pe_k rfl T.c_ENTER) (nomark _)) (pss_one (ps_ret (pe_call G_ask_enter (hr.mono (by decide)) rfl m_ask_enter k_ask_enter b_ask_enter .nil pass0 (pa_cons (pv 0) (pa_cons (pv 1) pa_nil))))) pss_nil)
      (pss_cons (ps_if (pt_cmpR op_eq (pv 2) (pe_k rfl T.c_NEXT) (nomark _)) (pss_one (ps_ret (pe_call G_ask_next (hr.mono (by decide)) rfl m_ask_next k_ask_next b_ask_next .nil pass0 (pa_cons (pv 0) (pa_cons (pv 1) pa_nil))))) pss_nil)
      (pss_cons (ps_if (pt_cmpR op_eq (pv 2) (pe_k rfl T.c_GONE) (nomark _)) (pss_one (ps_ret (pe_call G_ask_gone (hr.mono (by decide)) rfl m_ask_gone k_ask_gone b_ask_gone .nil pass0 (pa_cons (pv 0) (pa_cons (pv 1) pa_nil))))) pss_nil)
      (pss_cons (ps_if (pt_cmpR op_eq (pv 2) (pe_k rfl T.c_LOOK) (nomark _)) (pss_one (ps_ret (pe_call G_ask_look (hr.mono (by decide)) rfl m_ask_look k_ask_look b_ask_look .nil pass0 (pa_cons (pv 0) (pa_cons (pv 1) pa_nil))))) pss_nil)
      (pss_one ps_never)))))))))), ?_⟩
  obtain ⟨r, p, a, G, A, s0, pl, ns, st, c, t, ⟨rfl, rfl, R, k0, D⟩, hst, hc, hask, k⟩ := h
  obtain ⟨dx, hp⟩ := D.ob
  refine ⟨_, rfl, p, dx, _, rfl, hp, rd_no (by decide +kernel), ?_⟩
  have no : ∀ {c' : List (List Int)}, PyQl75.whole c = c' → c' ≠ [[0]] → st = some s0 := fun e n => hst.resolve_right fun z => n (e.symm.trans z)
  have rd := call_cases hc
  generalize hl : ns.drop pl = l at rd
  cases rd with
  | c0 =>
    obtain ⟨hz, hd⟩ := drop_get hl
    refine ⟨_, rfl, p, dx, a, pl, ns, 0, rfl, hp, D.ls.sq, hz, fun H1 h1 k1 => ?_⟩
    have sm : ∀ b o, H b = some o → b ≠ p → H1 b = some o := fun b o e n => by rw [k1 b n]; exact e
    obtain ⟨R1, D1, t1⟩ := read_at R D hp h1 sm
    refine ⟨_, rfl, rfl, _, rfl, ?_⟩
    refine iteT ?_
    obtain ⟨dr, e1⟩ := R1.rt
    refine ⟨_, rfl, r, dr, _, rfl, e1, rt_no (by decide +kernel), ?_⟩
    refine ⟨_, rfl, r, dr, _, G, rfl, e1, .inr ⟨_, _, _, _, rfl⟩, R1.rtG, R1.wf, fun A3 G3 H3 R3 t3 => ?_⟩
    refine ⟨by show 1 ≤ sizeLine; decide, fun q hq => ?_⟩
    obtain ⟨R4, D4, t4, gq⟩ := ans_at (o := .lst [V.int 0]) R3 (D1.step t3) hq
    have es : Ql75Neutral.step st (PyQl75.whole [[0]]) = (some Ql75.begun, [0]) := step_of co0
    refine (k _ _ (pl + 1) es hd).back t1 sm A3 G3 _ q R4 ((t3.trans t4).mono isMut_mutNon) (fun b o e g n => ?_) D4 ?_ upd_same gq
    · have := t3.keep b o e (by rw [g]; exact id)
      rw [upd_ne (ne_of_none this hq)]; exact this
    · cases e : H1 q with
      | none => rfl
      | some o =>
        obtain ⟨o', e', _⟩ := t3.live q o e
        rw [hq] at e'
        cases e'
  | c1 x y =>
    obtain ⟨hz, hd⟩ := drop_get hl
    refine ⟨_, rfl, p, dx, a, pl, ns, 1, rfl, hp, D.ls.sq, hz, fun H1 h1 k1 => ?_⟩
    have sm : ∀ b o, H b = some o → b ≠ p → H1 b = some o := fun b o e n => by rw [k1 b n]; exact e
    obtain ⟨R1, D1, t1⟩ := read_at R D hp h1 sm
    refine ⟨_, rfl, rfl, _, rfl, ?_⟩
    refine iteF ?_
    refine ⟨_, rfl, rfl, _, rfl, ?_⟩
    refine iteT ?_
    obtain rfl := no rfl (by intro z; cases z)
    obtain ⟨hz1, hd1⟩ := drop_get hd
    obtain ⟨hz2, hd2⟩ := drop_get hd1
    refine ⟨_, rfl, _, rfl, ?_⟩
    refine ⟨_, _, rfl, r, p, a, G, A, s0, pl + 1, ns, x, y, ⟨rfl, rfl, R1, k0, D1⟩, hz1, hz2, fun s' w es => ?_⟩
    refine (k s' (ansZ w) (pl + 3) ?_ hd2).back t1 sm
    rw [step_of (co1 x y), es]
    rfl
  | c2 x y =>
    obtain ⟨hz, hd⟩ := drop_get hl
    refine ⟨_, rfl, p, dx, a, pl, ns, 2, rfl, hp, D.ls.sq, hz, fun H1 h1 k1 => ?_⟩
    have sm : ∀ b o, H b = some o → b ≠ p → H1 b = some o := fun b o e n => by rw [k1 b n]; exact e
    obtain ⟨R1, D1, t1⟩ := read_at R D hp h1 sm
    refine ⟨_, rfl, rfl, _, rfl, ?_⟩
    refine iteF ?_
    refine ⟨_, rfl, rfl, _, rfl, ?_⟩
    refine iteF ?_
    refine ⟨_, rfl, rfl, _, rfl, ?_⟩
    refine iteT ?_
    obtain rfl := no rfl (by intro z; cases z)
    obtain ⟨hz1, hd1⟩ := drop_get hd
    obtain ⟨hz2, hd2⟩ := drop_get hd1
    refine ⟨_, rfl, _, rfl, ?_⟩
    refine ⟨_, _, rfl, r, p, a, G, A, s0, pl + 1, ns, x, y, ⟨rfl, rfl, R1, k0, D1⟩, hz1, hz2, fun s' w es => ?_⟩
    refine (k s' (ansZ w) (pl + 3) ?_ hd2).back t1 sm
    rw [step_of (co2 x y), es]
    rfl
  | c3 x b =>
    obtain ⟨hz, hd⟩ := drop_get hl
    refine ⟨_, rfl, p, dx, a, pl, ns, 3, rfl, hp, D.ls.sq, hz, fun H1 h1 k1 => ?_⟩
    have sm : ∀ b o, H b = some o → b ≠ p → H1 b = some o := fun b o e n => by rw [k1 b n]; exact e
    obtain ⟨R1, D1, t1⟩ := read_at R D hp h1 sm
    refine ⟨_, rfl, rfl, _, rfl, ?_⟩
    refine iteF ?_
    refine ⟨_, rfl, rfl, _, rfl, ?_⟩
    refine iteF ?_
    refine ⟨_, rfl, rfl, _, rfl, ?_⟩
    refine iteF ?_
    refine ⟨_, rfl, rfl, _, rfl, ?_⟩
    refine iteT ?_
    obtain rfl := no rfl (by intro z; cases z)
    obtain ⟨hz1, hd1⟩ := drop_get hd
    obtain ⟨hz2, hd2⟩ := drop_get hd1
    have eb := nats_cast (ask_bytes3 hask)
    refine ⟨_, rfl, _, rfl, ?_⟩
    refine ⟨_, _, rfl, r, p, a, G, A, s0, pl + 1, ns, x, Ql75Neutral.nats b, ⟨rfl, rfl, R1, k0, D1⟩, hz1, (by rw [nats_len]; exact hz2), (by
      have e : pl + 1 + 2 = pl + 1 + 1 + 1 := rfl
      rw [e, hd2, nats_len, List.take_left, eb]), fun s' w es => ?_⟩
    refine (k s' (ansZ w) (pl + 1 + 2 + (Ql75Neutral.nats b).length) ?_ ?_).back t1 sm
    · rw [step_of (co3 x b), es]
      rfl
    · have e : pl + 1 + 2 + (Ql75Neutral.nats b).length = (pl + 1 + 1 + 1) + b.length := by rw [nats_len]
      rw [e, ← List.drop_drop, hd2, List.drop_left]
  | c4 x b =>
    obtain ⟨hz, hd⟩ := drop_get hl
    refine ⟨_, rfl, p, dx, a, pl, ns, 4, rfl, hp, D.ls.sq, hz, fun H1 h1 k1 => ?_⟩
    have sm : ∀ b o, H b = some o → b ≠ p → H1 b = some o := fun b o e n => by rw [k1 b n]; exact e
    obtain ⟨R1, D1, t1⟩ := read_at R D hp h1 sm
    refine ⟨_, rfl, rfl, _, rfl, ?_⟩
    refine iteF ?_
    refine ⟨_, rfl, rfl, _, rfl, ?_⟩
    refine iteF ?_
    refine ⟨_, rfl, rfl, _, rfl, ?_⟩
    refine iteF ?_
    refine ⟨_, rfl, rfl, _, rfl, ?_⟩
    refine iteF ?_
    refine ⟨_, rfl, rfl, _, rfl, ?_⟩
    refine iteT ?_
    obtain rfl := no rfl (by intro z; cases z)
    obtain ⟨hz1, hd1⟩ := drop_get hd
    obtain ⟨hz2, hd2⟩ := drop_get hd1
    have eb := nats_cast (ask_bytes4 hask)
    refine ⟨_, rfl, _, rfl, ?_⟩
    refine ⟨_, _, rfl, r, p, a, G, A, s0, pl + 1, ns, x, Ql75Neutral.nats b, ⟨rfl, rfl, R1, k0, D1⟩, hz1, (by rw [nats_len]; exact hz2), (by
      have e : pl + 1 + 2 = pl + 1 + 1 + 1 := rfl
      rw [e, hd2, nats_len, List.take_left, eb]), fun s' w es => ?_⟩
    refine (k s' (ansZ w) (pl + 1 + 2 + (Ql75Neutral.nats b).length) ?_ ?_).back t1 sm
    · rw [step_of (co4 x b), es]
      rfl
    · have e : pl + 1 + 2 + (Ql75Neutral.nats b).length = (pl + 1 + 1 + 1) + b.length := by rw [nats_len]
      rw [e, ← List.drop_drop, hd2, List.drop_left]
  | c5 x y =>
    obtain ⟨hz, hd⟩ := drop_get hl
    refine ⟨_, rfl, p, dx, a, pl, ns, 5, rfl, hp, D.ls.sq, hz, fun H1 h1 k1 => ?_⟩
    have sm : ∀ b o, H b = some o → b ≠ p → H1 b = some o := fun b o e n => by rw [k1 b n]; exact e
    obtain ⟨R1, D1, t1⟩ := read_at R D hp h1 sm
    refine ⟨_, rfl, rfl, _, rfl, ?_⟩
    refine iteF ?_
    refine ⟨_, rfl, rfl, _, rfl, ?_⟩
    refine iteF ?_
    refine ⟨_, rfl, rfl, _, rfl, ?_⟩
    refine iteF ?_
    refine ⟨_, rfl, rfl, _, rfl, ?_⟩
    refine iteF ?_
    refine ⟨_, rfl, rfl, _, rfl, ?_⟩
    refine iteF ?_
    refine ⟨_, rfl, rfl, _, rfl, ?_⟩
    refine iteT ?_
    obtain rfl := no rfl (by intro z; cases z)
    obtain ⟨hz1, hd1⟩ := drop_get hd
    obtain ⟨hz2, hd2⟩ := drop_get hd1
    refine ⟨_, rfl, _, rfl, ?_⟩
    refine ⟨_, _, rfl, r, p, a, G, A, s0, pl + 1, ns, x, y, ⟨rfl, rfl, R1, k0, D1⟩, hz1, hz2, ask_most5 hask, fun s' w es => ?_⟩
    refine (k s' (ansZ w) (pl + 3) ?_ hd2).back t1 sm
    rw [step_of (co5 x y), es]
    rfl
  | c6 x =>
    obtain ⟨hz, hd⟩ := drop_get hl
    refine ⟨_, rfl, p, dx, a, pl, ns, 6, rfl, hp, D.ls.sq, hz, fun H1 h1 k1 => ?_⟩
    have sm : ∀ b o, H b = some o → b ≠ p → H1 b = some o := fun b o e n => by rw [k1 b n]; exact e
    obtain ⟨R1, D1, t1⟩ := read_at R D hp h1 sm
    refine ⟨_, rfl, rfl, _, rfl, ?_⟩
    refine iteF ?_
    refine ⟨_, rfl, rfl, _, rfl, ?_⟩
    refine iteF ?_
    refine ⟨_, rfl, rfl, _, rfl, ?_⟩
    refine iteF ?_
    refine ⟨_, rfl, rfl, _, rfl, ?_⟩
    refine iteF ?_
    refine ⟨_, rfl, rfl, _, rfl, ?_⟩
    refine iteF ?_
    refine ⟨_, rfl, rfl, _, rfl, ?_⟩
    refine iteF ?_
    refine ⟨_, rfl, rfl, _, rfl, ?_⟩
    refine iteT ?_
    obtain rfl := no rfl (by intro z; cases z)
    obtain ⟨hz1, hd1⟩ := drop_get hd
    refine ⟨_, rfl, _, rfl, ?_⟩
    refine ⟨_, _, rfl, r, p, a, G, A, s0, pl + 1, ns, x, ⟨rfl, rfl, R1, k0, D1⟩, hz1, ask_most6 hask, fun s' w es => ?_⟩
    refine (k s' (ansZ w) (pl + 2) ?_ hd1).back t1 sm
    rw [step_of (co6 x), es]
    rfl
  | c7 x y z =>
    obtain ⟨hz, hd⟩ := drop_get hl
    refine ⟨_, rfl, p, dx, a, pl, ns, 7, rfl, hp, D.ls.sq, hz, fun H1 h1 k1 => ?_⟩
    have sm : ∀ b o, H b = some o → b ≠ p → H1 b = some o := fun b o e n => by rw [k1 b n]; exact e
    obtain ⟨R1, D1, t1⟩ := read_at R D hp h1 sm
    refine ⟨_, rfl, rfl, _, rfl, ?_⟩
    refine iteF ?_
    refine ⟨_, rfl, rfl, _, rfl, ?_⟩
    refine iteF ?_
    refine ⟨_, rfl, rfl, _, rfl, ?_⟩
    refine iteF ?_
    refine ⟨_, rfl, rfl, _, rfl, ?_⟩
    refine iteF ?_
    refine ⟨_, rfl, rfl, _, rfl, ?_⟩
    refine iteF ?_
    refine ⟨_, rfl, rfl, _, rfl, ?_⟩
    refine iteF ?_
    refine ⟨_, rfl, rfl, _, rfl, ?_⟩
    refine iteF ?_
    refine ⟨_, rfl, rfl, _, rfl, ?_⟩
    refine iteT ?_
    obtain rfl := no rfl (by intro z; cases z)
    obtain ⟨hz1, hd1⟩ := drop_get hd
    obtain ⟨hz2, hd2⟩ := drop_get hd1
    obtain ⟨hz3, hd3⟩ := drop_get hd2
    refine ⟨_, rfl, _, rfl, ?_⟩
    refine ⟨_, _, rfl, r, p, a, G, A, s0, pl + 1, ns, x, y, z, ⟨rfl, rfl, R1, k0, D1⟩, hz1, hz2, hz3, fun s' w es => ?_⟩
    refine (k s' (ansZ w) (pl + 4) ?_ hd3).back t1 sm
    rw [step_of (co7 x y z), es]
    rfl
end
end By

namespace By
open PySem PySem.Spec PyProof.Rows L2
open Ql75 (Own Bytes between)
theorem begins_iff {c : List (List Int)} (h : Ql75Neutral.begins c = true) : c = [[0]] := by
  unfold Ql75Neutral.begins at h
  split at h
  · rfl
  · cases h
theorem asked_facts {ns : List Int} (h : PyQl75.answers_asked ns = true) : ∃ raw, PyFlat.calls PyQl75.shape ns.length ns = some raw ∧ (∃ c r, raw = c :: r ∧ PyQl75.whole c = [[0]]) ∧ (∀ c ∈ raw, Ql75Neutral.asked1 (PyQl75.whole c) = true) ∧
    PyFlat.told (PyFlat.played Ql75Neutral.step none (raw.map PyQl75.whole)) = PyQl75.answers ns ∧ (PyQl75.answers ns).length ≤ 10000000 := by
  unfold PyQl75.answers_asked at h
  cases e : PyFlat.calls PyQl75.shape ns.length ns with
  | none => rw [e] at h; cases h
  | some raw =>
    rw [e] at h
    dsimp only at h
    rw [Bool.and_eq_true, Bool.and_eq_true, Bool.and_eq_true, Bool.and_eq_true] at h
    obtain ⟨⟨⟨⟨h1, h2⟩, h3⟩, h4⟩, h5⟩ := h
    unfold Ql75Neutral.asked at h4
    rw [Bool.and_eq_true, Bool.and_eq_true] at h4
    obtain ⟨a1, a2, _⟩ := h4
    refine ⟨raw, rfl, ?_, fun c hc => List.all_eq_true.mp a1 _ (List.mem_map.mpr ⟨c, hc, rfl⟩), ?_, of_decide_eq_true h5⟩
    · cases raw with
      | nil => cases h1
      | cons c r => exact ⟨c, r, rfl, begins_iff a2⟩
    · have ec : PyQl75.calls ns = some (raw.map PyQl75.whole) := by
        unfold PyQl75.calls
        rw [e]
      unfold PyQl75.answers
      rw [ec]
      rfl
def AnsInv (K : PySem.W.Frag) (C : Cs) (a x y z : Addr) (ns : List Int) (m : Nat) (σ : L2.St) (H' : Hp) : Prop :=
  ∃ (v : Option V) (G : Gm) (A : Ad) (s : SS) (st : Ql75.Abs) (pl fuel : Nat) (rest : List (List (List Int))) (out : List Int), σ = [some (.ref a), some (.ref x), some (.ref y), some (.ref z), v] ∧ RtAt C G H' y A s ∧ Ok s ∧ RdAt K C G H' x a pl ns ∧ H' z = some (.lst (out.map V.int)) ∧ G z = .non ∧
    PyFlat.calls PyQl75.shape fuel (ns.drop pl) = some rest ∧ m = rest.length ∧ (st = some s ∨ ∃ c r, rest = c :: r ∧ PyQl75.whole c = [[0]]) ∧ (∀ c ∈ rest, Ql75Neutral.asked1 (PyQl75.whole c) = true) ∧
    out ++ PyFlat.told (PyFlat.played Ql75Neutral.step st (rest.map PyQl75.whole)) = PyQl75.answers ns
/-- what is told so far grows -/
theorem told_at {K : PySem.W.Frag} {C : Cs} {G : Gm} {H : Hp} {r p a z : Addr} {A : Ad} {s : SS} {pl : Nat} {ns : List Int} {xs ys : List V} (R : RtAt C G H r A s) (D : RdAt K C G H p a pl ns) (hz : H z = some (.lst xs)) (gz : G z = .non) (haz : a ≠ z ∨ SqL K (fun _ => none) a (ns.map V.int)) :
    RtAt C G (upd H z (.lst ys)) r A s ∧ RdAt K C G (upd H z (.lst ys)) p a pl ns := by
  have t : Step (fun r => r = .non) G H G (upd H z (.lst ys)) := one_step' hz gz upd_same LbK.lst fun b v e n => by rw [upd_ne n]; exact e
  obtain ⟨dx, h⟩ := D.ob
  refine ⟨R.step t (fun _ z => z) (R.wf.step t), ⟨⟨dx, ?_⟩, D.obG, ?_⟩⟩
  · rw [upd_ne (ne_of h hz (by intro q; cases q))]; exact h
  · rcases haz with n | w
    · rcases D.ls with ⟨h | ⟨o, h⟩, g⟩ | w
      · exact .inl ⟨.inl (by rw [upd_ne n]; exact h), g⟩
      · exact .inl ⟨.inr ⟨o, by rw [upd_ne n]; exact h⟩, g⟩
      · exact .inr w
    · exact .inr w
section
variable {P : Program} {w : World} {K : PySem.W.Frag} {mg : Str → Option Value} {base : Heap} {C : Cs}
theorem sc_answers : FnScope ["calls", "reader", "router", "told", "answer"] ["calls"] (defScope s_answers) := ⟨rfl, rfl, rfl, by decide +kernel, rfl, by decide +kernel, by decide +kernel⟩
theorem ok_answers {f : Addr} {fd : FuncData} (T : Txt K mg C) (F : Fun K "answers" "answers" s_answers f fd) (h_has_more : MOk P w K mg base C.rd "has_more" 1 ["self"] (sp_has_more K C)) (h_answer_one : FOk P w K mg base "answer_one" 10 ["router", "reader"] (sp_answer_one K C)) (h_init_rt : IOk P w K mg base C.rt 4 ["self"] (sp_init_rt K C)) (h_init_rd : IOk P w K mg base C.rd 1 ["self", "numbers"] (sp_init_rd K C)) : FnOk P w K mg base CX0 11 f fd ["calls"] (sp_answers K C) := by
  obtain ⟨f_has_more, fd_has_more, M_has_more, b_has_more, G_has_more⟩ := h_has_more
  obtain ⟨f_answer_one, fd_answer_one, m_answer_one, k_answer_one, b_answer_one, G_answer_one⟩ := h_answer_one
  obtain ⟨f_init_rt, fd_init_rt, M_init_rt, b_init_rt, G_init_rt⟩ := h_init_rt
  obtain ⟨f_init_rd, fd_init_rd, M_init_rd, b_init_rd, G_init_rd⟩ := h_init_rd
  refine F.ok sc_answers (fun vs H Q E h => ?_) (fun cdv A outer s H vs Q E hr h => ?_)
  · obtain ⟨_, rfl, _⟩ := h
    rfl
  obtain ⟨x0, rfl, h⟩ := h
  have hu := hu_of hr
  refine ⟨_, (pss_cons (ps_set (i := 1) sc_answers.nd rfl (Or.inl rfl) (pe_make M_init_rd G_init_rd (hr.mono (by decide)) rfl T.g_Reader b_init_rd .nil pass0 (pa_cons (pv 0) pa_nil)))
      (pss_cons (ps_set (i := 2) sc_answers.nd rfl (Or.inl rfl) (pe_make0 M_init_rt G_init_rt (hr.mono (by decide)) rfl T.g_Router b_init_rt .nil pass0))
      (pss_cons (ps_set (i := 3) sc_answers.nd rfl (Or.inl rfl) (pe_lst pa_nil))
      (pss_cons (ps_while PassesOwn.never (pt_val (pe_meth0 (pv 1) T.cl_rd M_has_more G_has_more (hr.mono (by decide)) b_has_more .nil pass0)) (pss_cons (ps_set (i := 4) sc_answers.nd rfl (Or.inl rfl) (pe_call G_answer_one (hr.mono (by decide)) rfl m_answer_one k_answer_one b_answer_one .nil pass0 (pa_cons (pv 2) (pa_cons (pv 1) pa_nil))))
      (pss_cons (ps_expr (pe_bm PySem.F.plainAttrs_list PySem.F.slot_list_append PySem.F.type_list_append mt_append (pv 3) (pa_cons (pe_callB call_len_seq (by rfl) T.b_len PySem.boot_len (pa_cons (pv 4) pa_nil)) pa_nil)))
      (pss_one (ps_expr (pe_bm PySem.F.plainAttrs_list PySem.F.slot_list_extend PySem.F.type_list_extend mt_extend (pv 3) (pa_cons (pv 4) pa_nil)))))))
      (pss_one (ps_ret (pv 3))))))), ?_⟩
  obtain ⟨a, ns, rfl, hS, hask, k⟩ := h
  obtain ⟨raw, q1, q2, q3, q4, q5⟩ := asked_facts hask
  -- reader = Reader(calls)
  refine ⟨_, rfl, ?_⟩
  intro x dx nx ndx ne
  refine ⟨_, _, rfl, x, dx, a, rfl, rfl, upd_same, fun H1 h1 k1 => ⟨rfl, ?_⟩⟩
  have s1 : ∀ b o, H b = some o → H1 b = some o := fun b o e => by
    rw [k1 b (ne_of_none e nx), upd_ne (ne_of_none e nx), upd_ne (ne_of_none e ndx)]; exact e
  -- router = Router()
  intro y dy ny ndy ne2
  refine ⟨_, rfl, y, dy, setG (fun _ => .non) y .rt, rfl, upd_same, setG_same, fun b hb => ?_, fun A G2 H2 R2 t2 => ⟨rfl, ?_⟩⟩
  · rw [setG_ne fun z => by rw [z, upd_same] at hb; cases hb]
  have nxy : x ≠ y := ne_of_none h1 ny
  have s2 : ∀ b o, H1 b = some o → H2 b = some o ∧ G2 b = .non := fun b o e => by
    have nb : b ≠ y := ne_of_none e ny
    have e2 : (upd (upd H1 dy (.own y)) y (.ins C.rt dy [])) b = some o := by rw [upd_ne nb, upd_ne (ne_of_none e ndy)]; exact e
    have g0 : setG (fun _ => .non) y .rt b = .non := setG_ne nb
    exact ⟨t2.keep b o e2 (by rw [g0]; exact id), by rw [t2.role b o e2, g0]⟩
  have D2 : RdAt K C G2 H2 x a 0 ns := by
    refine ⟨⟨dx, (s2 _ _ h1).1⟩, (s2 _ _ h1).2, ?_⟩
    rcases hS with (h | ⟨o, h⟩) | h
    · obtain ⟨u1, u2⟩ := s2 _ _ (s1 _ _ h)
      exact .inl ⟨.inl u1, u2⟩
    · obtain ⟨u1, u2⟩ := s2 _ _ (s1 _ _ h)
      exact .inl ⟨.inr ⟨o, u1⟩, u2⟩
    · exact .inr (.inr h)
  -- told = []
  refine ⟨(by show 0 ≤ sizeLine; decide), fun z hz => ?_⟩
  obtain ⟨R3, t3⟩ := R2.more (upd_same_keep (o := .lst []) hz)
  have D3 := D2.step t3
  have haz : a ≠ z ∨ SqL K (fun _ => none) a (ns.map V.int) := by
    rcases hS with (h | ⟨o, h⟩) | h
    · exact .inl (ne_of_none (s2 _ _ (s1 _ _ h)).1 hz)
    · exact .inl (ne_of_none (s2 _ _ (s1 _ _ h)).1 hz)
    · exact .inr (.inr h)
  refine ⟨AnsInv K C a x y z ns, ⟨raw.length, none, G2, A, _, none, 0, ns.length, raw, [], rfl, R3, Ok.begun, D3, upd_same, R2.wf z hz, q1, rfl, .inr q2, q3, q4⟩, ?_⟩
  rintro m σ H' ⟨v, G, A', s0, st, pl, fuel, rest, out, rfl, R, k0, D, hz1, gz, hc, hm, hst, ha1, hout⟩
  obtain ⟨dx', hx⟩ := D.ob
  refine ⟨_, rfl, x, dx', _, rfl, hx, rd_no (by decide +kernel), ?_⟩
  refine ⟨_, rfl, x, dx', a, pl, ns, rfl, hx, D.ls.sq, _, rfl, ?_⟩
  have lout : out.length + (PyFlat.told (PyFlat.played Ql75Neutral.step st (rest.map PyQl75.whole))).length ≤ 10000000 := by
    have := congrArg List.length hout
    rw [List.length_append] at this
    omega
  refine ite_b (fun c => ?_) fun c => ?_
  · have c : pl < ns.length := of_decide_eq_true c
    rw [List.drop_eq_getElem_cons c] at hc
    obtain ⟨f', cc, t, cs', rfl, hcall, hcalls, rfl⟩ := calls_cons hc
    rw [← List.drop_eq_getElem_cons c] at hcall
    refine ⟨AnsInv K C a x y z ns cs'.length, fun σ' H5 i => ⟨cs'.length, by rw [hm]; exact Nat.lt_succ_self _, i⟩, ?_⟩
    have hst' : st = some s0 ∨ PyQl75.whole cc = [[0]] := hst.imp id fun ⟨c1, r1, e, w⟩ => by
      rw [(List.cons.inj e).1]; exact w
    refine ⟨_, rfl, _, rfl, ?_⟩
    refine ⟨_, _, rfl, y, x, a, G, A', s0, pl, ns, st, cc, t, ⟨rfl, rfl, R, k0, D⟩, hst', hcall, ha1 cc List.mem_cons_self, fun s' ans pl' es hpl A5 G5 H5 q R5 t5 kp D5 hq hq1 gq => ?_⟩
    have nzx : z ≠ x := ne_of hz1 hx (by intro q; cases q)
    have hz5 := kp z _ hz1 gz nzx
    have gz5 : G5 z = .non := by rw [t5.role z _ hz1, gz]
    have nqz : q ≠ z := fun e => by rw [e, hz1] at hq; cases hq
    have ek : PyFlat.told (PyFlat.played Ql75Neutral.step st ((cc :: cs').map PyQl75.whole)) = ((ans.length : Nat) : Int) :: (ans ++ PyFlat.told (PyFlat.played Ql75Neutral.step (some s') (cs'.map PyQl75.whole))) := by
      show PyFlat.told ((Ql75Neutral.step st (PyQl75.whole cc)).2 :: PyFlat.played Ql75Neutral.step (Ql75Neutral.step st (PyQl75.whole cc)).1 (cs'.map PyQl75.whole)) = _
      rw [es]
      rfl
    rw [ek] at hout lout
    rw [List.length_cons, List.length_append] at lout
    refine ⟨_, rfl, .inl ⟨rfl, _, SqL.of hz5⟩, _, rfl, q, _, rfl, .inl (SqL.of hq1), z, _, _, rfl, rfl, hz5, sz (by rw [List.length_map]; omega), ?_⟩
    refine ⟨_, rfl, .inl ⟨rfl, _, SqL.of upd_same⟩, _, rfl, z, q, _, _, rfl, rfl, upd_same, (by rw [upd_ne nqz]; exact hq1), ?_, ?_⟩
    · rw [List.length_append, List.length_map, List.length_map, sizeLine_eq]
      show out.length + 1 + ans.length ≤ 16777216
      omega
    · obtain ⟨R6, D6⟩ := told_at (ys := out.map V.int ++ [V.int (((ans.map V.int).length : Nat) : Int)]) R5 D5 hz5 gz5 haz
      obtain ⟨R7, D7⟩ := told_at (ys := (out.map V.int ++ [V.int (((ans.map V.int).length : Nat) : Int)]) ++ ans.map V.int) R6 D6 upd_same gz5 haz
      refine ⟨_, G5, A5, s', some s', pl', f', cs', out ++ (((ans.length : Nat) : Int) :: ans), rfl, R7, k0.stepN hst' (call_cases hcall) es, D7, ?_, gz5, by rw [hpl]; exact hcalls, rfl, .inl rfl, fun c hc => ha1 c (List.mem_cons_of_mem _ hc), ?_⟩
      · rw [upd_same, List.length_map, List.map_append, List.map_cons, List.append_assoc]
        rfl
      · rw [← hout, List.append_assoc]
        rfl
  · have c : ¬ pl < ns.length := of_decide_eq_false c
    rw [List.drop_eq_nil_of_le (by omega)] at hc
    have er := calls_nil hc
    subst er
    have e0 : out = PyQl75.answers ns := by
      rw [← hout]
      exact (List.append_nil out).symm
    refine ⟨_, rfl, ?_⟩
    exact k H' z (by rw [hz1, e0])
end
end By

namespace By
open PySem PySem.Spec PyProof.Rows L2
open Ql75 (Own Bytes between)
theorem mdef_mk {K : PySem.W.Frag} {C f : Addr} {m qual : Str} {st : Stmt} {oc : Value} {od an : Option Addr} {osl : Array (Option Value)} {kV doc pm cdv ct : Value} (a : PySem.W.findIn K (.ref C) m = some (some (.ref f))) (i : PySem.W.isFn K (.ref f) = true)
    (l : K.lookup f = some ⟨oc, od, .func (PySem.W.fnOf m qual (defArgs st) (defBody st) (defScope st) .none kV doc pm an cdv ct), osl⟩) (c : PySem.W.codeIn K cdv qual = true) (k : PySem.W.keepIn K (.ref f) = true) : MDef K C m qual st := ⟨f, _, ⟨a, i, k⟩, fun_mk l c k⟩
theorem idef_mk {K : PySem.W.Frag} {C f : Addr} {qual : Str} {st : Stmt} {oc : Value} {od an : Option Addr} {osl : Array (Option Value)} {kV doc pm cdv ct : Value} (a : PySem.W.findIn K (.ref C) "__init__" = some (some (.ref f))) (i : PySem.W.isFn K (.ref f) = true)
    (l : K.lookup f = some ⟨oc, od, .func (PySem.W.fnOf "__init__" qual (defArgs st) (defBody st) (defScope st) .none kV doc pm an cdv ct), osl⟩) (c : PySem.W.codeIn K cdv qual = true) (k : PySem.W.keepIn K (.ref f) = true) (mk : PySem.W.makesIn K C = true) (kc : PySem.W.keepIn K (.ref C) = true) : IDef K C qual st := ⟨f, _, ⟨mk, a, i, kc⟩, fun_mk l c k⟩
theorem fdef_mk {K : PySem.W.Frag} {h : Heap} {mg : Str → Option Value} {f : Addr} {x : Str} {st : Stmt} {oc : Value} {od an : Option Addr} {osl : Array (Option Value)} {kV doc pm cdv ct : Value} (X : K.In h) (G : h.Ns mainGlobals mg) (a : PySem.W.nsIn K mainGlobals x = some (some (.ref f)))
    (l : K.lookup f = some ⟨oc, od, .func (PySem.W.fnOf x x (defArgs st) (defBody st) (defScope st) .none kV doc pm an cdv ct), osl⟩) (c : PySem.W.codeIn K cdv x = true) (k : PySem.W.keepIn K (.ref f) = true) : FDef K mg x st := ⟨f, _, PySem.W.mg_of X G a, fun_mk l c k⟩
theorem con_mk {K : PySem.W.Frag} {h : Heap} {mg : Str → Option Value} {x : Str} {z : Int} {t : Tok} (X : K.In h) (G : h.Ns mainGlobals mg) (a : PySem.W.nsIn K mainGlobals x = some (some (.int z t))) : IsCon mg x z := ⟨_, PySem.W.mg_of X G a, ⟨t, rfl⟩⟩
theorem all_mk {P : Program} {w : World} {K : PySem.W.Frag} {h : Heap} {mg : Str → Option Value} {fa c_rd c_rt c_bk c_lb c_ln : Addr} (X : K.In h) (G : h.Ns mainGlobals mg) (hfa : mg "answers" = some (.ref fa))
    (g_Reader : PySem.W.nsIn K mainGlobals "Reader" = some (some (.ref c_rd)))
    (g_Router : PySem.W.nsIn K mainGlobals "Router" = some (some (.ref c_rt)))
    (g_LabelBook : PySem.W.nsIn K mainGlobals "LabelBook" = some (some (.ref c_bk)))
    (g_Label : PySem.W.nsIn K mainGlobals "Label" = some (some (.ref c_lb)))
    (g_Line : PySem.W.nsIn K mainGlobals "Line" = some (some (.ref c_ln)))
    (pg_rd : PySem.W.plainGet K c_rd Str.empty = true) (hd_rd : PySem.W.hasDictIn K c_rd = true) (po_rd : PySem.W.plainOver K c_rd = true) (sa_rd : PySem.W.findIn K (.ref c_rd) "__setattr__" = some (some (.builtin "object.__setattr__")))
    (n_rd_numbers : PySem.W.findIn K (.ref c_rd) "numbers" = some none)
    (n_rd_place : PySem.W.findIn K (.ref c_rd) "place" = some none)
    (pg_rt : PySem.W.plainGet K c_rt Str.empty = true) (hd_rt : PySem.W.hasDictIn K c_rt = true) (po_rt : PySem.W.plainOver K c_rt = true) (sa_rt : PySem.W.findIn K (.ref c_rt) "__setattr__" = some (some (.builtin "object.__setattr__")))
    (n_rt_ways : PySem.W.findIn K (.ref c_rt) "ways" = some none)
    (n_rt_book : PySem.W.findIn K (.ref c_rt) "book" = some none)
    (n_rt_lines : PySem.W.findIn K (.ref c_rt) "lines" = some none)
    (n_rt_leaving : PySem.W.findIn K (.ref c_rt) "leaving" = some none)
    (pg_bk : PySem.W.plainGet K c_bk Str.empty = true) (hd_bk : PySem.W.hasDictIn K c_bk = true) (po_bk : PySem.W.plainOver K c_bk = true) (sa_bk : PySem.W.findIn K (.ref c_bk) "__setattr__" = some (some (.builtin "object.__setattr__")))
    (n_bk_given : PySem.W.findIn K (.ref c_bk) "given" = some none)
    (pg_lb : PySem.W.plainGet K c_lb Str.empty = true) (hd_lb : PySem.W.hasDictIn K c_lb = true) (po_lb : PySem.W.plainOver K c_lb = true) (sa_lb : PySem.W.findIn K (.ref c_lb) "__setattr__" = some (some (.builtin "object.__setattr__")))
    (n_lb_number : PySem.W.findIn K (.ref c_lb) "number" = some none)
    (n_lb_end : PySem.W.findIn K (.ref c_lb) "end" = some none)
    (n_lb_active : PySem.W.findIn K (.ref c_lb) "active" = some none)
    (n_lb_holders : PySem.W.findIn K (.ref c_lb) "holders" = some none)
    (pg_ln : PySem.W.plainGet K c_ln Str.empty = true) (hd_ln : PySem.W.hasDictIn K c_ln = true) (po_ln : PySem.W.plainOver K c_ln = true) (sa_ln : PySem.W.findIn K (.ref c_ln) "__setattr__" = some (some (.builtin "object.__setattr__")))
    (n_ln_up : PySem.W.findIn K (.ref c_ln) "up" = some none)
    (n_ln_heard : PySem.W.findIn K (.ref c_ln) "heard" = some none)
    (n_ln_waiting : PySem.W.findIn K (.ref c_ln) "waiting" = some none)
    (c_LINES : IsCon mg "LINES" 8)
    (c_ENDS : IsCon mg "ENDS" 32)
    (c_NO_WAY : IsCon mg "NO_WAY" (-1))
    (c_HERE : IsCon mg "HERE" 8)
    (c_FIRST_LABEL : IsCon mg "FIRST_LABEL" 16)
    (c_LAST_LABEL : IsCon mg "LAST_LABEL" 1039)
    (c_MOST_FRAMES : IsCon mg "MOST_FRAMES" 256)
    (c_MOST_FRAMES_FOR_A_PACKET : IsCon mg "MOST_FRAMES_FOR_A_PACKET" 128)
    (c_MOST_LEAVING : IsCon mg "MOST_LEAVING" 64)
    (c_LONGEST_FRAME : IsCon mg "LONGEST_FRAME" 1504)
    (c_LONGEST_PAYLOAD : IsCon mg "LONGEST_PAYLOAD" 1500)
    (c_GREATEST_MOST : IsCon mg "GREATEST_MOST" 65536)
    (c_STEPS_AT_FIRST : IsCon mg "STEPS_AT_FIRST" 64)
    (c_MESSAGE : IsCon mg "MESSAGE" 0)
    (c_PACKET : IsCon mg "PACKET" 1)
    (c_GIVEN : IsCon mg "GIVEN" 1)
    (c_TAKEN_BACK : IsCon mg "TAKEN_BACK" 2)
    (c_LET_GO : IsCon mg "LET_GO" 3)
    (c_MESSAGE_SIZE : IsCon mg "MESSAGE_SIZE" 5)
    (c_PACKET_HEAD : IsCon mg "PACKET_HEAD" 4)
    (c_DONE : IsCon mg "DONE" 0)
    (c_NOT_NOW : IsCon mg "NOT_NOW" (-1))
    (c_OUT_OF_RANGE : IsCon mg "OUT_OF_RANGE" (-2))
    (c_NO_SUCH_FRAME : IsCon mg "NO_SUCH_FRAME" (-3))
    (c_TOO_LONG : IsCon mg "TOO_LONG" (-5))
    (c_ACTIVE_LABEL : IsCon mg "ACTIVE_LABEL" 0)
    (c_HEARD_LABEL : IsCon mg "HEARD_LABEL" 1)
    (c_FRAMES_WAITING : IsCon mg "FRAMES_WAITING" 2)
    (c_LABELS_GIVEN : IsCon mg "LABELS_GIVEN" 3)
    (c_NO_LABEL : IsCon mg "NO_LABEL" (-1))
    (c_BEGIN : IsCon mg "BEGIN" 0)
    (c_WAY : IsCon mg "WAY" 1)
    (c_LINE : IsCon mg "LINE" 2)
    (c_TAKE : IsCon mg "TAKE" 3)
    (c_ENTER : IsCon mg "ENTER" 4)
    (c_NEXT : IsCon mg "NEXT" 5)
    (c_GONE : IsCon mg "GONE" 6)
    (c_LOOK : IsCon mg "LOOK" 7)
    (b_len : PySem.W.nsIn K mainGlobals "len" = some none)
    (b_range : PySem.W.nsIn K mainGlobals "range" = some none)
    (b_list : PySem.W.nsIn K mainGlobals "list" = some none)
    (d_init_rd : IDef K c_rd "Reader.__init__" s_init_rd)
    (d_has_more : MDef K c_rd "has_more" "Reader.has_more" s_has_more)
    (d_read_number : MDef K c_rd "read_number" "Reader.read_number" s_read_number)
    (d_read_row : MDef K c_rd "read_row" "Reader.read_row" s_read_row)
    (d_message_frame : FDef K mg "message_frame" s_message_frame)
    (d_packet_frame : FDef K mg "packet_frame" s_packet_frame)
    (d_message_label : FDef K mg "message_label" s_message_label)
    (d_packet_label : FDef K mg "packet_label" s_packet_label)
    (d_is_message : FDef K mg "is_message" s_is_message)
    (d_is_packet : FDef K mg "is_packet" s_is_packet)
    (d_init_lb : IDef K c_lb "Label.__init__" s_init_lb)
    (d_init_bk : IDef K c_bk "LabelBook.__init__" s_init_bk)
    (d_least_free : MDef K c_bk "least_free" "LabelBook.least_free" s_least_free)
    (d_make : MDef K c_bk "make" "LabelBook.make" s_make)
    (d_label_at : MDef K c_bk "label_at" "LabelBook.label_at" s_label_at)
    (d_all_active : MDef K c_bk "all_active" "LabelBook.all_active" s_all_active)
    (d_active_for : MDef K c_bk "active_for" "LabelBook.active_for" s_active_for)
    (d_free_if_unheld : MDef K c_bk "free_if_unheld" "LabelBook.free_if_unheld" s_free_if_unheld)
    (d_take_back : MDef K c_bk "take_back" "LabelBook.take_back" s_take_back)
    (d_drop_holder : MDef K c_bk "drop_holder" "LabelBook.drop_holder" s_drop_holder)
    (d_drop_holder_everywhere : MDef K c_bk "drop_holder_everywhere" "LabelBook.drop_holder_everywhere" s_drop_holder_everywhere)
    (d_init_ln : IDef K c_ln "Line.__init__" s_init_ln)
    (d_rise : MDef K c_ln "rise" "Line.rise" s_rise)
    (d_fall : MDef K c_ln "fall" "Line.fall" s_fall)
    (d_is_full : MDef K c_ln "is_full" "Line.is_full" s_is_full)
    (d_has_room_for_packet : MDef K c_ln "has_room_for_packet" "Line.has_room_for_packet" s_has_room_for_packet)
    (d_hear : MDef K c_ln "hear" "Line.hear" s_hear)
    (d_unhear : MDef K c_ln "unhear" "Line.unhear" s_unhear)
    (d_is_line : FDef K mg "is_line" s_is_line)
    (d_is_end : FDef K mg "is_end" s_is_end)
    (d_is_look : FDef K mg "is_look" s_is_look)
    (d_take_first : FDef K mg "take_first" s_take_first)
    (d_lr_begin : MDef K c_rt "lr_begin" "Router.lr_begin" s_lr_begin)
    (d_init_rt : IDef K c_rt "Router.__init__" s_init_rt)
    (d_go_down : MDef K c_rt "go_down" "Router.go_down" s_go_down)
    (d_say : MDef K c_rt "say" "Router.say" s_say)
    (d_take_back_everywhere : MDef K c_rt "take_back_everywhere" "Router.take_back_everywhere" s_take_back_everywhere)
    (d_give : MDef K c_rt "give" "Router.give" s_give)
    (d_give_everywhere : MDef K c_rt "give_everywhere" "Router.give_everywhere" s_give_everywhere)
    (d_lr_way : MDef K c_rt "lr_way" "Router.lr_way" s_lr_way)
    (d_lr_line : MDef K c_rt "lr_line" "Router.lr_line" s_lr_line)
    (d_let_go : MDef K c_rt "let_go" "Router.let_go" s_let_go)
    (d_take_message : MDef K c_rt "take_message" "Router.take_message" s_take_message)
    (d_leave : MDef K c_rt "leave" "Router.leave" s_leave)
    (d_send_on : MDef K c_rt "send_on" "Router.send_on" s_send_on)
    (d_go_on : MDef K c_rt "go_on" "Router.go_on" s_go_on)
    (d_take_packet : MDef K c_rt "take_packet" "Router.take_packet" s_take_packet)
    (d_lr_take : MDef K c_rt "lr_take" "Router.lr_take" s_lr_take)
    (d_lr_enter : MDef K c_rt "lr_enter" "Router.lr_enter" s_lr_enter)
    (d_lr_next : MDef K c_rt "lr_next" "Router.lr_next" s_lr_next)
    (d_lr_gone : MDef K c_rt "lr_gone" "Router.lr_gone" s_lr_gone)
    (d_active_number : MDef K c_rt "active_number" "Router.active_number" s_active_number)
    (d_lr_look : MDef K c_rt "lr_look" "Router.lr_look" s_lr_look)
    (d_ask_way : FDef K mg "ask_way" s_ask_way)
    (d_ask_line : FDef K mg "ask_line" s_ask_line)
    (d_ask_take : FDef K mg "ask_take" s_ask_take)
    (d_ask_enter : FDef K mg "ask_enter" s_ask_enter)
    (d_ask_next : FDef K mg "ask_next" s_ask_next)
    (d_ask_gone : FDef K mg "ask_gone" s_ask_gone)
    (d_ask_look : FDef K mg "ask_look" s_ask_look)
    (d_answer_one : FDef K mg "answer_one" s_answer_one)
    (d_answers : FDef K mg "answers" s_answers)
    : ∃ fd : FuncData, (∀ (s : Shared) (us : List Value), us.length = (["calls"] : List Str).length → BindsTo s fd ⟨us, []⟩ ((["calls"] : List Str).zip us)) ∧ ∀ base : Heap, K.In base → base.Ns mainGlobals mg → FnOk P w K mg base CX0 11 fa fd ["calls"] (sp_answers K ⟨0, 0, 0, 0, 0⟩) := by
  have T : Txt K mg ⟨c_rd, c_rt, c_bk, c_lb, c_ln⟩ := {
    cl_rd := ⟨pg_rd, hd_rd, po_rd, sa_rd⟩,
    g_Reader := PySem.W.mg_of X G g_Reader,
    n_rd_numbers := n_rd_numbers,
    n_rd_place := n_rd_place,
    cl_rt := ⟨pg_rt, hd_rt, po_rt, sa_rt⟩,
    g_Router := PySem.W.mg_of X G g_Router,
    n_rt_ways := n_rt_ways,
    n_rt_book := n_rt_book,
    n_rt_lines := n_rt_lines,
    n_rt_leaving := n_rt_leaving,
    cl_bk := ⟨pg_bk, hd_bk, po_bk, sa_bk⟩,
    g_LabelBook := PySem.W.mg_of X G g_LabelBook,
    n_bk_given := n_bk_given,
    cl_lb := ⟨pg_lb, hd_lb, po_lb, sa_lb⟩,
    g_Label := PySem.W.mg_of X G g_Label,
    n_lb_number := n_lb_number,
    n_lb_end := n_lb_end,
    n_lb_active := n_lb_active,
    n_lb_holders := n_lb_holders,
    cl_ln := ⟨pg_ln, hd_ln, po_ln, sa_ln⟩,
    g_Line := PySem.W.mg_of X G g_Line,
    n_ln_up := n_ln_up,
    n_ln_heard := n_ln_heard,
    n_ln_waiting := n_ln_waiting,
    c_LINES := c_LINES,
    c_ENDS := c_ENDS,
    c_NO_WAY := c_NO_WAY,
    c_HERE := c_HERE,
    c_FIRST_LABEL := c_FIRST_LABEL,
    c_LAST_LABEL := c_LAST_LABEL,
    c_MOST_FRAMES := c_MOST_FRAMES,
    c_MOST_FRAMES_FOR_A_PACKET := c_MOST_FRAMES_FOR_A_PACKET,
    c_MOST_LEAVING := c_MOST_LEAVING,
    c_LONGEST_FRAME := c_LONGEST_FRAME,
    c_LONGEST_PAYLOAD := c_LONGEST_PAYLOAD,
    c_GREATEST_MOST := c_GREATEST_MOST,
    c_STEPS_AT_FIRST := c_STEPS_AT_FIRST,
    c_MESSAGE := c_MESSAGE,
    c_PACKET := c_PACKET,
    c_GIVEN := c_GIVEN,
    c_TAKEN_BACK := c_TAKEN_BACK,
    c_LET_GO := c_LET_GO,
    c_MESSAGE_SIZE := c_MESSAGE_SIZE,
    c_PACKET_HEAD := c_PACKET_HEAD,
    c_DONE := c_DONE,
    c_NOT_NOW := c_NOT_NOW,
    c_OUT_OF_RANGE := c_OUT_OF_RANGE,
    c_NO_SUCH_FRAME := c_NO_SUCH_FRAME,
    c_TOO_LONG := c_TOO_LONG,
    c_ACTIVE_LABEL := c_ACTIVE_LABEL,
    c_HEARD_LABEL := c_HEARD_LABEL,
    c_FRAMES_WAITING := c_FRAMES_WAITING,
    c_LABELS_GIVEN := c_LABELS_GIVEN,
    c_NO_LABEL := c_NO_LABEL,
    c_BEGIN := c_BEGIN,
    c_WAY := c_WAY,
    c_LINE := c_LINE,
    c_TAKE := c_TAKE,
    c_ENTER := c_ENTER,
    c_NEXT := c_NEXT,
    c_GONE := c_GONE,
    c_LOOK := c_LOOK,
    b_len := PySem.W.mg_none_of X G b_len,
    b_range := PySem.W.mg_none_of X G b_range,
    b_list := PySem.W.mg_none_of X G b_list }
  obtain ⟨f, fd, m, F⟩ := d_answers
  obtain rfl : f = fa := by
    rw [hfa] at m
    cases m
    rfl
  refine ⟨fd, fun s us hu => ?_, fun base _ _ => ?_⟩
  · obtain ⟨oc, od, kV, doc, pm, an, cdv, ct, osl, rfl, _, _⟩ := F.ex
    exact match us, hu with | [_], _ => .of_eq rfl
  have o_init_rd : IOk P w K mg base c_rd 1 ["self", "numbers"] (sp_init_rd K ⟨c_rd, c_rt, c_bk, c_lb, c_ln⟩) := ok_init_rd T d_init_rd
  have o_has_more : MOk P w K mg base c_rd "has_more" 1 ["self"] (sp_has_more K ⟨c_rd, c_rt, c_bk, c_lb, c_ln⟩) := ok_has_more T d_has_more
  have o_read_number : MOk P w K mg base c_rd "read_number" 1 ["self"] (sp_read_number K ⟨c_rd, c_rt, c_bk, c_lb, c_ln⟩) := ok_read_number T d_read_number
  have o_read_row : MOk P w K mg base c_rd "read_row" 2 ["self"] (sp_read_row K ⟨c_rd, c_rt, c_bk, c_lb, c_ln⟩) := ok_read_row T d_read_row o_read_number
  have o_message_frame : FOk P w K mg base "message_frame" 1 ["what", "end", "number"] (sp_message_frame K ⟨c_rd, c_rt, c_bk, c_lb, c_ln⟩) := ok_message_frame T d_message_frame
  have o_packet_frame : FOk P w K mg base "packet_frame" 1 ["steps", "number", "payload"] (sp_packet_frame K ⟨c_rd, c_rt, c_bk, c_lb, c_ln⟩) := ok_packet_frame T d_packet_frame
  have o_message_label : FOk P w K mg base "message_label" 1 ["frame"] (sp_message_label K ⟨c_rd, c_rt, c_bk, c_lb, c_ln⟩) := ok_message_label T d_message_label
  have o_packet_label : FOk P w K mg base "packet_label" 1 ["frame"] (sp_packet_label K ⟨c_rd, c_rt, c_bk, c_lb, c_ln⟩) := ok_packet_label T d_packet_label
  have o_is_message : FOk P w K mg base "is_message" 2 ["frame"] (sp_is_message K ⟨c_rd, c_rt, c_bk, c_lb, c_ln⟩) := ok_is_message T d_is_message o_message_label
  have o_is_packet : FOk P w K mg base "is_packet" 1 ["frame"] (sp_is_packet K ⟨c_rd, c_rt, c_bk, c_lb, c_ln⟩) := ok_is_packet T d_is_packet
  have o_init_lb : IOk P w K mg base c_lb 1 ["self", "number", "end"] (sp_init_lb K ⟨c_rd, c_rt, c_bk, c_lb, c_ln⟩) := ok_init_lb T d_init_lb
  have o_init_bk : IOk P w K mg base c_bk 1 ["self"] (sp_init_bk K ⟨c_rd, c_rt, c_bk, c_lb, c_ln⟩) := ok_init_bk T d_init_bk
  have o_least_free : MOk P w K mg base c_bk "least_free" 1 ["self"] (sp_least_free K ⟨c_rd, c_rt, c_bk, c_lb, c_ln⟩) := ok_least_free T d_least_free
  have o_make : MOk P w K mg base c_bk "make" 3 ["self", "number", "end"] (sp_make K ⟨c_rd, c_rt, c_bk, c_lb, c_ln⟩) := ok_make T d_make o_init_lb
  have o_label_at : MOk P w K mg base c_bk "label_at" 1 ["self", "number"] (sp_label_at K ⟨c_rd, c_rt, c_bk, c_lb, c_ln⟩) := ok_label_at T d_label_at
  have o_all_active : MOk P w K mg base c_bk "all_active" 1 ["self"] (sp_all_active K ⟨c_rd, c_rt, c_bk, c_lb, c_ln⟩) := ok_all_active T d_all_active
  have o_active_for : MOk P w K mg base c_bk "active_for" 2 ["self", "end"] (sp_active_for K ⟨c_rd, c_rt, c_bk, c_lb, c_ln⟩) := ok_active_for T d_active_for o_all_active
  have o_free_if_unheld : MOk P w K mg base c_bk "free_if_unheld" 1 ["self", "label"] (sp_free_if_unheld K ⟨c_rd, c_rt, c_bk, c_lb, c_ln⟩) := ok_free_if_unheld T d_free_if_unheld
  have o_take_back : MOk P w K mg base c_bk "take_back" 2 ["self", "label"] (sp_take_back K ⟨c_rd, c_rt, c_bk, c_lb, c_ln⟩) := ok_take_back T d_take_back o_free_if_unheld
  have o_drop_holder : MOk P w K mg base c_bk "drop_holder" 2 ["self", "label", "p"] (sp_drop_holder K ⟨c_rd, c_rt, c_bk, c_lb, c_ln⟩) := ok_drop_holder T d_drop_holder o_free_if_unheld
  have o_drop_holder_everywhere : MOk P w K mg base c_bk "drop_holder_everywhere" 3 ["self", "p"] (sp_drop_holder_everywhere K ⟨c_rd, c_rt, c_bk, c_lb, c_ln⟩) := ok_drop_holder_everywhere T d_drop_holder_everywhere o_drop_holder
  have o_init_ln : IOk P w K mg base c_ln 1 ["self"] (sp_init_ln K ⟨c_rd, c_rt, c_bk, c_lb, c_ln⟩) := ok_init_ln T d_init_ln
  have o_rise : MOk P w K mg base c_ln "rise" 1 ["self"] (sp_rise K ⟨c_rd, c_rt, c_bk, c_lb, c_ln⟩) := ok_rise T d_rise
  have o_fall : MOk P w K mg base c_ln "fall" 1 ["self"] (sp_fall K ⟨c_rd, c_rt, c_bk, c_lb, c_ln⟩) := ok_fall T d_fall
  have o_is_full : MOk P w K mg base c_ln "is_full" 1 ["self"] (sp_is_full K ⟨c_rd, c_rt, c_bk, c_lb, c_ln⟩) := ok_is_full T d_is_full
  have o_has_room_for_packet : MOk P w K mg base c_ln "has_room_for_packet" 1 ["self"] (sp_has_room_for_packet K ⟨c_rd, c_rt, c_bk, c_lb, c_ln⟩) := ok_has_room_for_packet T d_has_room_for_packet
  have o_hear : MOk P w K mg base c_ln "hear" 1 ["self", "end", "number"] (sp_hear K ⟨c_rd, c_rt, c_bk, c_lb, c_ln⟩) := ok_hear T d_hear
  have o_unhear : MOk P w K mg base c_ln "unhear" 1 ["self", "end", "number"] (sp_unhear K ⟨c_rd, c_rt, c_bk, c_lb, c_ln⟩) := ok_unhear T d_unhear
  have o_is_line : FOk P w K mg base "is_line" 1 ["p"] (sp_is_line K ⟨c_rd, c_rt, c_bk, c_lb, c_ln⟩) := ok_is_line T d_is_line
  have o_is_end : FOk P w K mg base "is_end" 1 ["f"] (sp_is_end K ⟨c_rd, c_rt, c_bk, c_lb, c_ln⟩) := ok_is_end T d_is_end
  have o_is_look : FOk P w K mg base "is_look" 1 ["what"] (sp_is_look K ⟨c_rd, c_rt, c_bk, c_lb, c_ln⟩) := ok_is_look T d_is_look
  have o_take_first : FOk P w K mg base "take_first" 1 ["waiting", "most"] (sp_take_first K ⟨c_rd, c_rt, c_bk, c_lb, c_ln⟩) := ok_take_first T d_take_first
  have o_lr_begin : MOk P w K mg base c_rt "lr_begin" 3 ["self"] (sp_lr_begin K ⟨c_rd, c_rt, c_bk, c_lb, c_ln⟩) := ok_lr_begin T d_lr_begin o_init_ln o_init_bk
  have o_init_rt : IOk P w K mg base c_rt 4 ["self"] (sp_init_rt K ⟨c_rd, c_rt, c_bk, c_lb, c_ln⟩) := ok_init_rt T d_init_rt o_lr_begin
  have o_go_down : MOk P w K mg base c_rt "go_down" 4 ["self", "p"] (sp_go_down K ⟨c_rd, c_rt, c_bk, c_lb, c_ln⟩) := ok_go_down T d_go_down o_drop_holder_everywhere o_fall
  have o_say : MOk P w K mg base c_rt "say" 5 ["self", "p", "frame"] (sp_say K ⟨c_rd, c_rt, c_bk, c_lb, c_ln⟩) := ok_say T d_say o_is_full o_go_down
  have o_take_back_everywhere : MOk P w K mg base c_rt "take_back_everywhere" 6 ["self", "label"] (sp_take_back_everywhere K ⟨c_rd, c_rt, c_bk, c_lb, c_ln⟩) := ok_take_back_everywhere T d_take_back_everywhere o_say o_message_frame o_take_back
  have o_give : MOk P w K mg base c_rt "give" 6 ["self", "label", "p"] (sp_give K ⟨c_rd, c_rt, c_bk, c_lb, c_ln⟩) := ok_give T d_give o_say o_message_frame
  have o_give_everywhere : MOk P w K mg base c_rt "give_everywhere" 7 ["self", "label"] (sp_give_everywhere K ⟨c_rd, c_rt, c_bk, c_lb, c_ln⟩) := ok_give_everywhere T d_give_everywhere o_give
  have o_lr_way : MOk P w K mg base c_rt "lr_way" 8 ["self", "f", "to"] (sp_lr_way K ⟨c_rd, c_rt, c_bk, c_lb, c_ln⟩) := ok_lr_way T d_lr_way o_take_back_everywhere o_active_for o_give_everywhere o_make o_least_free o_is_end
  have o_lr_line : MOk P w K mg base c_rt "lr_line" 7 ["self", "p", "up"] (sp_lr_line K ⟨c_rd, c_rt, c_bk, c_lb, c_ln⟩) := ok_lr_line T d_lr_line o_all_active o_give o_rise o_go_down o_is_line
  have o_let_go : MOk P w K mg base c_rt "let_go" 3 ["self", "p", "end", "number"] (sp_let_go K ⟨c_rd, c_rt, c_bk, c_lb, c_ln⟩) := ok_let_go T d_let_go o_drop_holder o_label_at
  have o_take_message : MOk P w K mg base c_rt "take_message" 6 ["self", "p", "what", "end", "number"] (sp_take_message K ⟨c_rd, c_rt, c_bk, c_lb, c_ln⟩) := ok_take_message T d_take_message o_hear o_say o_message_frame o_unhear o_let_go
  have o_leave : MOk P w K mg base c_rt "leave" 1 ["self", "end", "payload"] (sp_leave K ⟨c_rd, c_rt, c_bk, c_lb, c_ln⟩) := ok_leave T d_leave
  have o_send_on : MOk P w K mg base c_rt "send_on" 2 ["self", "line", "end", "steps", "payload"] (sp_send_on K ⟨c_rd, c_rt, c_bk, c_lb, c_ln⟩) := ok_send_on T d_send_on o_has_room_for_packet o_packet_frame
  have o_go_on : MOk P w K mg base c_rt "go_on" 3 ["self", "end", "steps", "payload"] (sp_go_on K ⟨c_rd, c_rt, c_bk, c_lb, c_ln⟩) := ok_go_on T d_go_on o_leave o_send_on
  have o_take_packet : MOk P w K mg base c_rt "take_packet" 4 ["self", "steps", "number", "payload"] (sp_take_packet K ⟨c_rd, c_rt, c_bk, c_lb, c_ln⟩) := ok_take_packet T d_take_packet o_go_on o_label_at
  have o_lr_take : MOk P w K mg base c_rt "lr_take" 7 ["self", "p", "frame"] (sp_lr_take K ⟨c_rd, c_rt, c_bk, c_lb, c_ln⟩) := ok_lr_take T d_lr_take o_is_message o_take_message o_message_label o_is_packet o_take_packet o_packet_label o_is_line
  have o_lr_enter : MOk P w K mg base c_rt "lr_enter" 4 ["self", "f", "payload"] (sp_lr_enter K ⟨c_rd, c_rt, c_bk, c_lb, c_ln⟩) := ok_lr_enter T d_lr_enter o_go_on o_is_end
  have o_lr_next : MOk P w K mg base c_rt "lr_next" 2 ["self", "p", "most"] (sp_lr_next K ⟨c_rd, c_rt, c_bk, c_lb, c_ln⟩) := ok_lr_next T d_lr_next o_take_first o_is_line
  have o_lr_gone : MOk P w K mg base c_rt "lr_gone" 2 ["self", "most"] (sp_lr_gone K ⟨c_rd, c_rt, c_bk, c_lb, c_ln⟩) := ok_lr_gone T d_lr_gone o_take_first
  have o_active_number : MOk P w K mg base c_rt "active_number" 3 ["self", "f"] (sp_active_number K ⟨c_rd, c_rt, c_bk, c_lb, c_ln⟩) := ok_active_number T d_active_number o_active_for
  have o_lr_look : MOk P w K mg base c_rt "lr_look" 4 ["self", "what", "f", "p"] (sp_lr_look K ⟨c_rd, c_rt, c_bk, c_lb, c_ln⟩) := ok_lr_look T d_lr_look o_active_number o_is_line o_is_end o_is_look
  have o_ask_way : FOk P w K mg base "ask_way" 9 ["router", "reader"] (sp_ask_way K ⟨c_rd, c_rt, c_bk, c_lb, c_ln⟩) := ok_ask_way T d_ask_way o_lr_way o_read_number
  have o_ask_line : FOk P w K mg base "ask_line" 8 ["router", "reader"] (sp_ask_line K ⟨c_rd, c_rt, c_bk, c_lb, c_ln⟩) := ok_ask_line T d_ask_line o_lr_line o_read_number
  have o_ask_take : FOk P w K mg base "ask_take" 8 ["router", "reader"] (sp_ask_take K ⟨c_rd, c_rt, c_bk, c_lb, c_ln⟩) := ok_ask_take T d_ask_take o_lr_take o_read_row o_read_number
  have o_ask_enter : FOk P w K mg base "ask_enter" 5 ["router", "reader"] (sp_ask_enter K ⟨c_rd, c_rt, c_bk, c_lb, c_ln⟩) := ok_ask_enter T d_ask_enter o_lr_enter o_read_row o_read_number
  have o_ask_next : FOk P w K mg base "ask_next" 3 ["router", "reader"] (sp_ask_next K ⟨c_rd, c_rt, c_bk, c_lb, c_ln⟩) := ok_ask_next T d_ask_next o_lr_next o_read_number
  have o_ask_gone : FOk P w K mg base "ask_gone" 3 ["router", "reader"] (sp_ask_gone K ⟨c_rd, c_rt, c_bk, c_lb, c_ln⟩) := ok_ask_gone T d_ask_gone o_lr_gone o_read_number
  have o_ask_look : FOk P w K mg base "ask_look" 5 ["router", "reader"] (sp_ask_look K ⟨c_rd, c_rt, c_bk, c_lb, c_ln⟩) := ok_ask_look T d_ask_look o_lr_look o_read_number
  have o_answer_one : FOk P w K mg base "answer_one" 10 ["router", "reader"] (sp_answer_one K ⟨c_rd, c_rt, c_bk, c_lb, c_ln⟩) := ok_answer_one T d_answer_one o_ask_look o_ask_gone o_ask_next o_ask_enter o_ask_take o_ask_line o_ask_way o_lr_begin o_read_number
  have o_answers : FnOk P w K mg base CX0 11 f fd ["calls"] (sp_answers K ⟨c_rd, c_rt, c_bk, c_lb, c_ln⟩) := ok_answers T F o_has_more o_answer_one o_init_rt o_init_rd
  exact o_answers
end By
open PySem PySem.W PyProof.Rows
set_option maxRecDepth 100000 in
set_option maxHeartbeats 0 in
theorem PySem.Challenge.cw_bylabels_s01_answers_holds : PySem.Challenge.rw_bylabels_s01_answers.Holds := by
  w_on; k_headS; (case hw => exact ⟨[.list [.int 0]], by decide +kernel, by decide +kernel⟩)
  k_fillS
  refine L2.walk_specK (r := PySem.Challenge.rw_bylabels_s01_answers) (k := 11) (CX := L2.CX0) (ps := ["calls"]) (sp := fun K => By.sp_answers K ⟨0, 0, 0, 0, 0⟩) (by decide +kernel) rfl rfl ⟨rfl, by decide, by decide⟩ (fun w h Y => PySem.W.kIn_of Y) ?F ?S (fun _ _ _ _ z => z)
  case F =>
    intro w mg fa h Y KX G hmg
    refine' By.all_mk KX G hmg ?g_Reader ?g_Router ?g_LabelBook ?g_Label ?g_Line ?pg_rd ?hd_rd ?po_rd ?sa_rd ?n_rd_numbers ?n_rd_place ?pg_rt ?hd_rt ?po_rt ?sa_rt ?n_rt_ways ?n_rt_book ?n_rt_lines ?n_rt_leaving ?pg_bk ?hd_bk ?po_bk ?sa_bk ?n_bk_given ?pg_lb ?hd_lb ?po_lb ?sa_lb ?n_lb_number ?n_lb_end ?n_lb_active ?n_lb_holders ?pg_ln ?hd_ln ?po_ln ?sa_ln ?n_ln_up ?n_ln_heard ?n_ln_waiting ?c_LINES ?c_ENDS ?c_NO_WAY ?c_HERE ?c_FIRST_LABEL ?c_LAST_LABEL ?c_MOST_FRAMES ?c_MOST_FRAMES_FOR_A_PACKET ?c_MOST_LEAVING ?c_LONGEST_FRAME ?c_LONGEST_PAYLOAD ?c_GREATEST_MOST ?c_STEPS_AT_FIRST ?c_MESSAGE ?c_PACKET ?c_GIVEN ?c_TAKEN_BACK ?c_LET_GO ?c_MESSAGE_SIZE ?c_PACKET_HEAD ?c_DONE ?c_NOT_NOW ?c_OUT_OF_RANGE ?c_NO_SUCH_FRAME ?c_TOO_LONG ?c_ACTIVE_LABEL ?c_HEARD_LABEL ?c_FRAMES_WAITING ?c_LABELS_GIVEN ?c_NO_LABEL ?c_BEGIN ?c_WAY ?c_LINE ?c_TAKE ?c_ENTER ?c_NEXT ?c_GONE ?c_LOOK ?b_len ?b_range ?b_list ?d_init_rd ?d_has_more ?d_read_number ?d_read_row ?d_message_frame ?d_packet_frame ?d_message_label ?d_packet_label ?d_is_message ?d_is_packet ?d_init_lb ?d_init_bk ?d_least_free ?d_make ?d_label_at ?d_all_active ?d_active_for ?d_free_if_unheld ?d_take_back ?d_drop_holder ?d_drop_holder_everywhere ?d_init_ln ?d_rise ?d_fall ?d_is_full ?d_has_room_for_packet ?d_hear ?d_unhear ?d_is_line ?d_is_end ?d_is_look ?d_take_first ?d_lr_begin ?d_init_rt ?d_go_down ?d_say ?d_take_back_everywhere ?d_give ?d_give_everywhere ?d_lr_way ?d_lr_line ?d_let_go ?d_take_message ?d_leave ?d_send_on ?d_go_on ?d_take_packet ?d_lr_take ?d_lr_enter ?d_lr_next ?d_lr_gone ?d_active_number ?d_lr_look ?d_ask_way ?d_ask_line ?d_ask_take ?d_ask_enter ?d_ask_next ?d_ask_gone ?d_ask_look ?d_answer_one ?d_answers
    (case g_Reader => k_is)
    (case g_Router => k_is)
    (case g_LabelBook => k_is)
    (case g_Label => k_is)
    (case g_Line => k_is)
    (case pg_rd => k_is)
    (case hd_rd => k_is)
    (case po_rd => k_is)
    (case sa_rd => k_is)
    (case n_rd_numbers => k_is)
    (case n_rd_place => k_is)
    (case pg_rt => k_is)
    (case hd_rt => k_is)
    (case po_rt => k_is)
    (case sa_rt => k_is)
    (case n_rt_ways => k_is)
    (case n_rt_book => k_is)
    (case n_rt_lines => k_is)
    (case n_rt_leaving => k_is)
    (case pg_bk => k_is)
    (case hd_bk => k_is)
    (case po_bk => k_is)
    (case sa_bk => k_is)
    (case n_bk_given => k_is)
    (case pg_lb => k_is)
    (case hd_lb => k_is)
    (case po_lb => k_is)
    (case sa_lb => k_is)
    (case n_lb_number => k_is)
    (case n_lb_end => k_is)
    (case n_lb_active => k_is)
    (case n_lb_holders => k_is)
    (case pg_ln => k_is)
    (case hd_ln => k_is)
    (case po_ln => k_is)
    (case sa_ln => k_is)
    (case n_ln_up => k_is)
    (case n_ln_heard => k_is)
    (case n_ln_waiting => k_is)
    (case c_LINES => refine' By.con_mk KX G ?a; (case a => k_is))
    (case c_ENDS => refine' By.con_mk KX G ?a; (case a => k_is))
    (case c_NO_WAY => refine' By.con_mk KX G ?a; (case a => k_is))
    (case c_HERE => refine' By.con_mk KX G ?a; (case a => k_is))
    (case c_FIRST_LABEL => refine' By.con_mk KX G ?a; (case a => k_is))
    (case c_LAST_LABEL => refine' By.con_mk KX G ?a; (case a => k_is))
    (case c_MOST_FRAMES => refine' By.con_mk KX G ?a; (case a => k_is))
    (case c_MOST_FRAMES_FOR_A_PACKET => refine' By.con_mk KX G ?a; (case a => k_is))
    (case c_MOST_LEAVING => refine' By.con_mk KX G ?a; (case a => k_is))
    (case c_LONGEST_FRAME => refine' By.con_mk KX G ?a; (case a => k_is))
    (case c_LONGEST_PAYLOAD => refine' By.con_mk KX G ?a; (case a => k_is))
    (case c_GREATEST_MOST => refine' By.con_mk KX G ?a; (case a => k_is))
    (case c_STEPS_AT_FIRST => refine' By.con_mk KX G ?a; (case a => k_is))
    (case c_MESSAGE => refine' By.con_mk KX G ?a; (case a => k_is))
    (case c_PACKET => refine' By.con_mk KX G ?a; (case a => k_is))
    (case c_GIVEN => refine' By.con_mk KX G ?a; (case a => k_is))
    (case c_TAKEN_BACK => refine' By.con_mk KX G ?a; (case a => k_is))
    (case c_LET_GO => refine' By.con_mk KX G ?a; (case a => k_is))
    (case c_MESSAGE_SIZE => refine' By.con_mk KX G ?a; (case a => k_is))
    (case c_PACKET_HEAD => refine' By.con_mk KX G ?a; (case a => k_is))
    (case c_DONE => refine' By.con_mk KX G ?a; (case a => k_is))
    (case c_NOT_NOW => refine' By.con_mk KX G ?a; (case a => k_is))
    (case c_OUT_OF_RANGE => refine' By.con_mk KX G ?a; (case a => k_is))
    (case c_NO_SUCH_FRAME => refine' By.con_mk KX G ?a; (case a => k_is))
    (case c_TOO_LONG => refine' By.con_mk KX G ?a; (case a => k_is))
    (case c_ACTIVE_LABEL => refine' By.con_mk KX G ?a; (case a => k_is))
    (case c_HEARD_LABEL => refine' By.con_mk KX G ?a; (case a => k_is))
    (case c_FRAMES_WAITING => refine' By.con_mk KX G ?a; (case a => k_is))
    (case c_LABELS_GIVEN => refine' By.con_mk KX G ?a; (case a => k_is))
    (case c_NO_LABEL => refine' By.con_mk KX G ?a; (case a => k_is))
    (case c_BEGIN => refine' By.con_mk KX G ?a; (case a => k_is))
    (case c_WAY => refine' By.con_mk KX G ?a; (case a => k_is))
    (case c_LINE => refine' By.con_mk KX G ?a; (case a => k_is))
    (case c_TAKE => refine' By.con_mk KX G ?a; (case a => k_is))
    (case c_ENTER => refine' By.con_mk KX G ?a; (case a => k_is))
    (case c_NEXT => refine' By.con_mk KX G ?a; (case a => k_is))
    (case c_GONE => refine' By.con_mk KX G ?a; (case a => k_is))
    (case c_LOOK => refine' By.con_mk KX G ?a; (case a => k_is))
    (case b_len => k_is)
    (case b_range => k_is)
    (case b_list => k_is)
    (case d_init_rd => refine' By.idef_mk ?a ?i ?l ?c ?k ?mk ?kc; (case a => k_is); (case i => k_is); (case l => k_is); (case c => k_is); (case k => k_is); (case mk => k_is); (case kc => k_is))
    (case d_has_more => refine' By.mdef_mk ?a ?i ?l ?c ?k; (case a => k_is); (case i => k_is); (case l => k_is); (case c => k_is); (case k => k_is))
    (case d_read_number => refine' By.mdef_mk ?a ?i ?l ?c ?k; (case a => k_is); (case i => k_is); (case l => k_is); (case c => k_is); (case k => k_is))
    (case d_read_row => refine' By.mdef_mk ?a ?i ?l ?c ?k; (case a => k_is); (case i => k_is); (case l => k_is); (case c => k_is); (case k => k_is))
    (case d_message_frame => refine' By.fdef_mk KX G ?a ?l ?c ?k; (case a => k_is); (case l => k_is); (case c => k_is); (case k => k_is))
    (case d_packet_frame => refine' By.fdef_mk KX G ?a ?l ?c ?k; (case a => k_is); (case l => k_is); (case c => k_is); (case k => k_is))
    (case d_message_label => refine' By.fdef_mk KX G ?a ?l ?c ?k; (case a => k_is); (case l => k_is); (case c => k_is); (case k => k_is))
    (case d_packet_label => refine' By.fdef_mk KX G ?a ?l ?c ?k; (case a => k_is); (case l => k_is); (case c => k_is); (case k => k_is))
    (case d_is_message => refine' By.fdef_mk KX G ?a ?l ?c ?k; (case a => k_is); (case l => k_is); (case c => k_is); (case k => k_is))
    (case d_is_packet => refine' By.fdef_mk KX G ?a ?l ?c ?k; (case a => k_is); (case l => k_is); (case c => k_is); (case k => k_is))
    (case d_init_lb => refine' By.idef_mk ?a ?i ?l ?c ?k ?mk ?kc; (case a => k_is); (case i => k_is); (case l => k_is); (case c => k_is); (case k => k_is); (case mk => k_is); (case kc => k_is))
    (case d_init_bk => refine' By.idef_mk ?a ?i ?l ?c ?k ?mk ?kc; (case a => k_is); (case i => k_is); (case l => k_is); (case c => k_is); (case k => k_is); (case mk => k_is); (case kc => k_is))
    (case d_least_free => refine' By.mdef_mk ?a ?i ?l ?c ?k; (case a => k_is); (case i => k_is); (case l => k_is); (case c => k_is); (case k => k_is))
    (case d_make => refine' By.mdef_mk ?a ?i ?l ?c ?k; (case a => k_is); (case i => k_is); (case l => k_is); (case c => k_is); (case k => k_is))
    (case d_label_at => refine' By.mdef_mk ?a ?i ?l ?c ?k; (case a => k_is); (case i => k_is); (case l => k_is); (case c => k_is); (case k => k_is))
    (case d_all_active => refine' By.mdef_mk ?a ?i ?l ?c ?k; (case a => k_is); (case i => k_is); (case l => k_is); (case c => k_is); (case k => k_is))
    (case d_active_for => refine' By.mdef_mk ?a ?i ?l ?c ?k; (case a => k_is); (case i => k_is); (case l => k_is); (case c => k_is); (case k => k_is))
    (case d_free_if_unheld => refine' By.mdef_mk ?a ?i ?l ?c ?k; (case a => k_is); (case i => k_is); (case l => k_is); (case c => k_is); (case k => k_is))
    (case d_take_back => refine' By.mdef_mk ?a ?i ?l ?c ?k; (case a => k_is); (case i => k_is); (case l => k_is); (case c => k_is); (case k => k_is))
    (case d_drop_holder => refine' By.mdef_mk ?a ?i ?l ?c ?k; (case a => k_is); (case i => k_is); (case l => k_is); (case c => k_is); (case k => k_is))
    (case d_drop_holder_everywhere => refine' By.mdef_mk ?a ?i ?l ?c ?k; (case a => k_is); (case i => k_is); (case l => k_is); (case c => k_is); (case k => k_is))
    (case d_init_ln => refine' By.idef_mk ?a ?i ?l ?c ?k ?mk ?kc; (case a => k_is); (case i => k_is); (case l => k_is); (case c => k_is); (case k => k_is); (case mk => k_is); (case kc => k_is))
    (case d_rise => refine' By.mdef_mk ?a ?i ?l ?c ?k; (case a => k_is); (case i => k_is); (case l => k_is); (case c => k_is); (case k => k_is))
    (case d_fall => refine' By.mdef_mk ?a ?i ?l ?c ?k; (case a => k_is); (case i => k_is); (case l => k_is); (case c => k_is); (case k => k_is))
    (case d_is_full => refine' By.mdef_mk ?a ?i ?l ?c ?k; (case a => k_is); (case i => k_is); (case l => k_is); (case c => k_is); (case k => k_is))
    (case d_has_room_for_packet => refine' By.mdef_mk ?a ?i ?l ?c ?k; (case a => k_is); (case i => k_is); (case l => k_is); (case c => k_is); (case k => k_is))
    (case d_hear => refine' By.mdef_mk ?a ?i ?l ?c ?k; (case a => k_is); (case i => k_is); (case l => k_is); (case c => k_is); (case k => k_is))
    (case d_unhear => refine' By.mdef_mk ?a ?i ?l ?c ?k; (case a => k_is); (case i => k_is); (case l => k_is); (case c => k_is); (case k => k_is))
    (case d_is_line => refine' By.fdef_mk KX G ?a ?l ?c ?k; (case a => k_is); (case l => k_is); (case c => k_is); (case k => k_is))
    (case d_is_end => refine' By.fdef_mk KX G ?a ?l ?c ?k; (case a => k_is); (case l => k_is); (case c => k_is); (case k => k_is))
    (case d_is_look => refine' By.fdef_mk KX G ?a ?l ?c ?k; (case a => k_is); (case l => k_is); (case c => k_is); (case k => k_is))
    (case d_take_first => refine' By.fdef_mk KX G ?a ?l ?c ?k; (case a => k_is); (case l => k_is); (case c => k_is); (case k => k_is))
    (case d_lr_begin => refine' By.mdef_mk ?a ?i ?l ?c ?k; (case a => k_is); (case i => k_is); (case l => k_is); (case c => k_is); (case k => k_is))
    (case d_init_rt => refine' By.idef_mk ?a ?i ?l ?c ?k ?mk ?kc; (case a => k_is); (case i => k_is); (case l => k_is); (case c => k_is); (case k => k_is); (case mk => k_is); (case kc => k_is))
    (case d_go_down => refine' By.mdef_mk ?a ?i ?l ?c ?k; (case a => k_is); (case i => k_is); (case l => k_is); (case c => k_is); (case k => k_is))
    (case d_say => refine' By.mdef_mk ?a ?i ?l ?c ?k; (case a => k_is); (case i => k_is); (case l => k_is); (case c => k_is); (case k => k_is))
    (case d_take_back_everywhere => refine' By.mdef_mk ?a ?i ?l ?c ?k; (case a => k_is); (case i => k_is); (case l => k_is); (case c => k_is); (case k => k_is))
    (case d_give => refine' By.mdef_mk ?a ?i ?l ?c ?k; (case a => k_is); (case i => k_is); (case l => k_is); (case c => k_is); (case k => k_is))
    (case d_give_everywhere => refine' By.mdef_mk ?a ?i ?l ?c ?k; (case a => k_is); (case i => k_is); (case l => k_is); (case c => k_is); (case k => k_is))
    (case d_lr_way => refine' By.mdef_mk ?a ?i ?l ?c ?k; (case a => k_is); (case i => k_is); (case l => k_is); (case c => k_is); (case k => k_is))
    (case d_lr_line => refine' By.mdef_mk ?a ?i ?l ?c ?k; (case a => k_is); (case i => k_is); (case l => k_is); (case c => k_is); (case k => k_is))
    (case d_let_go => refine' By.mdef_mk ?a ?i ?l ?c ?k; (case a => k_is); (case i => k_is); (case l => k_is); (case c => k_is); (case k => k_is))
    (case d_take_message => refine' By.mdef_mk ?a ?i ?l ?c ?k; (case a => k_is); (case i => k_is); (case l => k_is); (case c => k_is); (case k => k_is))
    (case d_leave => refine' By.mdef_mk ?a ?i ?l ?c ?k; (case a => k_is); (case i => k_is); (case l => k_is); (case c => k_is); (case k => k_is))
    (case d_send_on => refine' By.mdef_mk ?a ?i ?l ?c ?k; (case a => k_is); (case i => k_is); (case l => k_is); (case c => k_is); (case k => k_is))
    (case d_go_on => refine' By.mdef_mk ?a ?i ?l ?c ?k; (case a => k_is); (case i => k_is); (case l => k_is); (case c => k_is); (case k => k_is))
    (case d_take_packet => refine' By.mdef_mk ?a ?i ?l ?c ?k; (case a => k_is); (case i => k_is); (case l => k_is); (case c => k_is); (case k => k_is))
    (case d_lr_take => refine' By.mdef_mk ?a ?i ?l ?c ?k; (case a => k_is); (case i => k_is); (case l => k_is); (case c => k_is); (case k => k_is))
    (case d_lr_enter => refine' By.mdef_mk ?a ?i ?l ?c ?k; (case a => k_is); (case i => k_is); (case l => k_is); (case c => k_is); (case k => k_is))
    (case d_lr_next => refine' By.mdef_mk ?a ?i ?l ?c ?k; (case a => k_is); (case i => k_is); (case l => k_is); (case c => k_is); (case k => k_is))
    (case d_lr_gone => refine' By.mdef_mk ?a ?i ?l ?c ?k; (case a => k_is); (case i => k_is); (case l => k_is); (case c => k_is); (case k => k_is))
    (case d_active_number => refine' By.mdef_mk ?a ?i ?l ?c ?k; (case a => k_is); (case i => k_is); (case l => k_is); (case c => k_is); (case k => k_is))
    (case d_lr_look => refine' By.mdef_mk ?a ?i ?l ?c ?k; (case a => k_is); (case i => k_is); (case l => k_is); (case c => k_is); (case k => k_is))
    (case d_ask_way => refine' By.fdef_mk KX G ?a ?l ?c ?k; (case a => k_is); (case l => k_is); (case c => k_is); (case k => k_is))
    (case d_ask_line => refine' By.fdef_mk KX G ?a ?l ?c ?k; (case a => k_is); (case l => k_is); (case c => k_is); (case k => k_is))
    (case d_ask_take => refine' By.fdef_mk KX G ?a ?l ?c ?k; (case a => k_is); (case l => k_is); (case c => k_is); (case k => k_is))
    (case d_ask_enter => refine' By.fdef_mk KX G ?a ?l ?c ?k; (case a => k_is); (case l => k_is); (case c => k_is); (case k => k_is))
    (case d_ask_next => refine' By.fdef_mk KX G ?a ?l ?c ?k; (case a => k_is); (case l => k_is); (case c => k_is); (case k => k_is))
    (case d_ask_gone => refine' By.fdef_mk KX G ?a ?l ?c ?k; (case a => k_is); (case l => k_is); (case c => k_is); (case k => k_is))
    (case d_ask_look => refine' By.fdef_mk KX G ?a ?l ?c ?k; (case a => k_is); (case l => k_is); (case c => k_is); (case k => k_is))
    (case d_answer_one => refine' By.fdef_mk KX G ?a ?l ?c ?k; (case a => k_is); (case l => k_is); (case c => k_is); (case k => k_is))
    (case d_answers => refine' By.fdef_mk KX G ?a ?l ?c ?k; (case a => k_is); (case l => k_is); (case c => k_is); (case k => k_is))
  case S =>
    intro K H xs a hO hwi hask hx
    cases hx with
    | cons h1 h2 =>
      cases h2
      cases h1 with
      | lst hs ha =>
        have e := L2.ints_dw a.1 _ ha
        subst e
        exact ⟨_, rfl, _, a.1, rfl, hs, hask, fun H' p hp => .lst (L2.SqL.of hp) (L2.dw_ints _)⟩
#print axioms PySem.Challenge.cw_bylabels_s01_answers_holds
