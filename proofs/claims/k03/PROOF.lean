import PyProof.Rows.All
import Wide.All
import OpenK.AllK
import Wide.FinOn
import HandS.ForMost
import HandS.IsInst
import HandS.TupAny
import HandS.Codes
import HandS.Conv
import HandS.Flow
import HandS.Evl
import PyProof.ListStr
import HandS.Zip
import HandS.ExcValue
import KE.GoesMore
import KE.GoesEnum
import KE.KDictZip
import HandS.Rev
import HandS.RevRange
import HandS.Star
import PySem.Challenge.RW_notslower_k03_places_and_parts
set_option Elab.async false
set_option maxRecDepth 100000
set_option maxHeartbeats 4000000
set_option linter.all false
/-! Data: immutable trees of texts, ints, bools, tuples, lists; what a reading evaluates to, as data. -/
namespace Nz
open PySem L2
/-- a datum -/
inductive D where
  | s (x : Str) | i (n : Int) | b (x : Bool) | n
  | t (xs : List D) | l (xs : List D)

mutual
/-- in the heap H, outside of the volatile addresses S, the value v is the datum -/
def IsD (S : Addr → Prop) (H : Hp) : D → V → Prop
  | .s x, v => v = .str x
  | .i n, v => v = .int n
  | .b x, v => v = .bl x
  | .n, v => v = .non
  | .t ds, v => ∃ a vs, v = .ref a ∧ ¬ S a ∧ H a = some (.tup vs) ∧ IsDs S H ds vs
  | .l ds, v => ∃ a vs, v = .ref a ∧ ¬ S a ∧ H a = some (.lst vs) ∧ IsDs S H ds vs
def IsDs (S : Addr → Prop) (H : Hp) : List D → List V → Prop
  | [], vs => vs = []
  | d :: ds, vs => ∃ v r, vs = v :: r ∧ IsD S H d v ∧ IsDs S H ds r
end

/-- the heap has grown; what is volatile may have changed -/
def Gr (S : Addr → Prop) (H H' : Hp) : Prop := ∀ a o, ¬ S a → H a = some o → H' a = some o
def N0 : Addr → Prop := fun _ => False
variable {S T : Addr → Prop} {H H1 H2 H' : Hp}
theorem Gr.refl (S : Addr → Prop) (H : Hp) : Gr S H H := fun _ _ _ h => h
theorem Gr.trans (a : Gr S H H1) (b : Gr S H1 H2) : Gr S H H2 := fun x o n h => b x o n (a x o n h)
theorem Gr.of (e : Same H H') : Gr S H H' := fun a o _ h => e a o h
theorem Gr.same (e : Gr N0 H H') : Same H H' := fun a o h => e a o (fun z => z) h
theorem Gr.put {a : Addr} {o : HO} (h : S a) : Gr S H (L2.upd H a o) := fun b u n e => by
  have ne : b ≠ a := fun z => by
    subst z
    exact n h
  rw [upd_ne ne]
  exact e
theorem Gr.new {a : Addr} {o : HO} (h : H a = none) : Gr S H (L2.upd H a o) := fun b u _ e => by
  rw [upd_ne (ne_of_none e h)]
  exact e
theorem Gr.wide (h : ∀ a, T a → S a) (g : Gr T H H') : Gr S H H' := fun a o n e => g a o (fun z => n (h a z)) e
theorem Same.new {a : Addr} {o : HO} (h : H a = none) : Same H (L2.upd H a o) := fun b u e => by
  rw [upd_ne (ne_of_none e h)]
  exact e
theorem Same.fresh {a : Addr} (e : Same H H') (h : H' a = none) : H a = none := e.free h

mutual
theorem IsD.mono (g : Gr S H H') : ∀ {d : D} {v : V}, IsD S H d v → IsD S H' d v
  | .s _, _, h => h
  | .i _, _, h => h
  | .b _, _, h => h
  | .n, _, h => h
  | .t _, _, h => by
    obtain ⟨a, vs, e, n, ha, q⟩ := h
    exact ⟨a, vs, e, n, g a _ n ha, IsDs.mono g q⟩
  | .l _, _, h => by
    obtain ⟨a, vs, e, n, ha, q⟩ := h
    exact ⟨a, vs, e, n, g a _ n ha, IsDs.mono g q⟩
theorem IsDs.mono (g : Gr S H H') : ∀ {ds : List D} {vs : List V}, IsDs S H ds vs → IsDs S H' ds vs
  | [], _, h => h
  | _ :: _, _, h => by
    obtain ⟨v, r, e, q, t⟩ := h
    exact ⟨v, r, e, IsD.mono g q, IsDs.mono g t⟩
end
mutual
theorem IsD.wide (g : ∀ a, T a → S a) : ∀ {d : D} {v : V}, IsD S H d v → IsD T H d v
  | .s _, _, h => h
  | .i _, _, h => h
  | .b _, _, h => h
  | .n, _, h => h
  | .t _, _, h => by
    obtain ⟨a, vs, e, n, ha, q⟩ := h
    exact ⟨a, vs, e, fun z => n (g a z), ha, IsDs.wide g q⟩
  | .l _, _, h => by
    obtain ⟨a, vs, e, n, ha, q⟩ := h
    exact ⟨a, vs, e, fun z => n (g a z), ha, IsDs.wide g q⟩
theorem IsDs.wide (g : ∀ a, T a → S a) : ∀ {ds : List D} {vs : List V}, IsDs S H ds vs → IsDs T H ds vs
  | [], _, h => h
  | _ :: _, _, h => by
    obtain ⟨v, r, e, q, t⟩ := h
    exact ⟨v, r, e, IsD.wide g q, IsDs.wide g t⟩
end
mutual
/-- addresses that are not in use may be made volatile -/
theorem IsD.more {a : Addr} (n : H a = none) : ∀ {d : D} {v : V}, IsD S H d v → IsD (fun b => S b ∨ b = a) H d v
  | .s _, _, h => h
  | .i _, _, h => h
  | .b _, _, h => h
  | .n, _, h => h
  | .t _, _, h => by
    obtain ⟨c, vs, e, m, ha, q⟩ := h
    exact ⟨c, vs, e, fun z => z.elim m (ne_of_none ha n), ha, IsDs.more n q⟩
  | .l _, _, h => by
    obtain ⟨c, vs, e, m, ha, q⟩ := h
    exact ⟨c, vs, e, fun z => z.elim m (ne_of_none ha n), ha, IsDs.more n q⟩
theorem IsDs.more {a : Addr} (n : H a = none) : ∀ {ds : List D} {vs : List V}, IsDs S H ds vs → IsDs (fun b => S b ∨ b = a) H ds vs
  | [], _, h => h
  | _ :: _, _, h => by
    obtain ⟨v, r, e, q, t⟩ := h
    exact ⟨v, r, e, IsD.more n q, IsDs.more n t⟩
end
theorem IsDs.length : ∀ {ds : List D} {vs : List V}, IsDs S H ds vs → vs.length = ds.length
  | [], _, h => by cases h; rfl
  | _ :: _, _, h => by
    obtain ⟨v, r, e, q, t⟩ := h
    subst e
    show r.length + 1 = _ + 1
    rw [IsDs.length t]
theorem IsDs.get : ∀ {ds : List D} {vs : List V} {j : Nat} {d : D}, IsDs S H ds vs → ds[j]? = some d → ∃ v, vs[j]? = some v ∧ IsD S H d v
  | [], _, _, _, _, h => by simp at h
  | _ :: _, _, 0, _, h, e => by
    obtain ⟨v, r, rfl, q, t⟩ := h
    simp at e
    subst e
    exact ⟨v, rfl, q⟩
  | _ :: _, _, j + 1, d, h, e => by
    obtain ⟨v, r, rfl, q, t⟩ := h
    obtain ⟨w, h1, h2⟩ := IsDs.get (j := j) (d := d) t (by simpa using e)
    exact ⟨w, by simpa using h1, h2⟩
theorem IsDs.getV : ∀ {ds : List D} {vs : List V} {j : Nat} {v : V}, IsDs S H ds vs → vs[j]? = some v → ∃ d, ds[j]? = some d ∧ IsD S H d v
  | [], _, _, _, h, e => by cases h; simp at e
  | d :: _, _, 0, _, h, e => by
    obtain ⟨v, r, rfl, q, t⟩ := h
    simp at e
    subst e
    exact ⟨d, rfl, q⟩
  | _ :: _, _, j + 1, v, h, e => by
    obtain ⟨v', r, rfl, q, t⟩ := h
    obtain ⟨w, h1, h2⟩ := IsDs.getV (j := j) (v := v) t (by simpa using e)
    exact ⟨w, by simpa using h1, h2⟩
theorem IsDs.app : ∀ {ds es : List D} {vs ws : List V}, IsDs S H ds vs → IsDs S H es ws → IsDs S H (ds ++ es) (vs ++ ws)
  | [], _, _, _, h, k => by cases h; exact k
  | _ :: _, _, _, _, h, k => by
    obtain ⟨v, r, rfl, q, t⟩ := h
    exact ⟨v, _, rfl, q, IsDs.app t k⟩
theorem IsDs.drop : ∀ (n : Nat) {ds : List D} {vs : List V}, IsDs S H ds vs → IsDs S H (ds.drop n) (vs.drop n)
  | 0, _, _, h => h
  | _ + 1, [], _, h => by cases h; rfl
  | n + 1, _ :: _, _, h => by
    obtain ⟨v, r, rfl, q, t⟩ := h
    exact IsDs.drop n t
theorem IsDs.take : ∀ (n : Nat) {ds : List D} {vs : List V}, IsDs S H ds vs → IsDs S H (ds.take n) (vs.take n)
  | 0, _, _, h => rfl
  | _ + 1, [], _, h => by cases h; rfl
  | n + 1, _ :: _, _, h => by
    obtain ⟨v, r, rfl, q, t⟩ := h
    exact ⟨v, _, rfl, q, IsDs.take n t⟩
theorem IsDs.nil : IsDs S H [] [] := rfl
theorem IsDs.cons {d : D} {ds : List D} {v : V} {vs : List V} (h : IsD S H d v) (t : IsDs S H ds vs) : IsDs S H (d :: ds) (v :: vs) := ⟨v, vs, rfl, h, t⟩
theorem IsDs.one {d : D} {v : V} (h : IsD S H d v) : IsDs S H [d] [v] := IsDs.cons h IsDs.nil
theorem IsDs.strs : ∀ {xs : List Str} {vs : List V}, IsDs S H (xs.map D.s) vs → vs = xs.map V.str
  | [], _, h => h
  | x :: xs, _, h => by
    obtain ⟨v, r, rfl, q, t⟩ := h
    have e : v = .str x := q
    rw [e, IsDs.strs (xs := xs) t]
    rfl
theorem IsDs.ofStrs : ∀ (xs : List Str), IsDs S H (xs.map D.s) (xs.map V.str)
  | [] => rfl
  | x :: xs => ⟨.str x, _, rfl, rfl, IsDs.ofStrs xs⟩
/-- what an own object holds: a list, a dict with keys that are ints or texts -/
inductive Cn where
  | l (xs : List D) | m (kvs : List (Key × D))
def IsC (S : Addr → Prop) (H : Hp) : Cn → HO → Prop
  | .l xs, o => ∃ vs, o = .lst vs ∧ IsDs S H xs vs
  | .m kvs, o => ∃ ps : List (Key × V), o = .dK ps ∧ ps.map (·.1) = kvs.map (·.1) ∧ IsDs S H (kvs.map (·.2)) (ps.map (·.2))
theorem IsC.mono (g : Gr S H H') : ∀ {c : Cn} {o : HO}, IsC S H c o → IsC S H' c o
  | .l _, _, ⟨vs, e, q⟩ => ⟨vs, e, q.mono g⟩
  | .m _, _, ⟨ps, e, k, q⟩ => ⟨ps, e, k, q.mono g⟩
theorem IsC.wide (g : ∀ a, T a → S a) : ∀ {c : Cn} {o : HO}, IsC S H c o → IsC T H c o
  | .l _, _, ⟨vs, e, q⟩ => ⟨vs, e, q.wide g⟩
  | .m _, _, ⟨ps, e, k, q⟩ => ⟨ps, e, k, q.wide g⟩
theorem IsC.more {a : Addr} (n : H a = none) : ∀ {c : Cn} {o : HO}, IsC S H c o → IsC (fun b => S b ∨ b = a) H c o
  | .l _, _, ⟨vs, e, q⟩ => ⟨vs, e, q.more n⟩
  | .m _, _, ⟨ps, e, k, q⟩ => ⟨ps, e, k, q.more n⟩
end Nz
/-! The calculus: slots hold data or own lists; expressions, tests, statements over them. -/
namespace Nz
open PySem L2
/-- what a slot holds: nothing that is known, a datum, a list of the def's own -/
inductive Sl where
  | no | d (x : D) | o (c : Cn) | r (v : V)
abbrev Es := List Sl
/-- the addresses of the own lists, by slot -/
def Own (A : Nat → Addr) (es : Es) (a : Addr) : Prop := ∃ (i : Nat) (xs : Cn), es[i]? = some (Sl.o xs) ∧ a = A i
abbrev Sx (S : Addr → Prop) (A : Nat → Addr) (es : Es) : Addr → Prop := fun a => S a ∨ Own A es a
/-- S's addresses are in use -/
def Dm (S : Addr → Prop) (H : Hp) : Prop := ∀ a, S a → H a ≠ none
theorem Dm.same {S : Addr → Prop} {H H' : Hp} (d : Dm S H) (e : Same H H') : Dm S H' := fun a s => by
  cases q : H a with
  | none => exact absurd q (d a s)
  | some o =>
    rw [e a o q]
    exact fun z => nomatch z
theorem Dm.not {S : Addr → Prop} {H : Hp} {p : Addr} (d : Dm S H) (h : H p = none) : ¬ S p := fun s => d p s h
theorem Dm.n0 {H : Hp} : Dm N0 H := fun _ s => s.elim
structure En (S : Addr → Prop) (A : Nat → Addr) (B H : Hp) (σ : St) (es : Es) : Prop where
  dat : ∀ (i : Nat) (x : D), es[i]? = some (.d x) → ∃ v, σ[i]? = some (some v) ∧ IsD (Sx S A es) H x v
  own : ∀ (i : Nat) (xs : Cn), es[i]? = some (.o xs) → σ[i]? = some (some (.ref (A i))) ∧ ¬ S (A i) ∧ B (A i) = none ∧ ∃ vs, H (A i) = some vs ∧ IsC (Sx S A es) H xs vs
  apart : ∀ (i j : Nat) (xs ys : Cn), i ≠ j → es[i]? = some (.o xs) → es[j]? = some (.o ys) → A i ≠ A j
  raw : ∀ (i : Nat) (v : V), es[i]? = some (.r v) → σ[i]? = some (some v)
  same : Same B H
  dm : Dm S H
  len : σ.length = es.length
section
variable {S : Addr → Prop} {A : Nat → Addr} {B H H' : Hp} {σ : St} {es : Es}
theorem En.mono (E : En S A B H σ es) (e : Same H H') : En S A B H' σ es where
  dat := fun i x h => by
    obtain ⟨v, h1, h2⟩ := E.dat i x h
    exact ⟨v, h1, h2.mono (Gr.of e)⟩
  own := fun i xs h => by
    obtain ⟨h1, h2, h3, vs, h4, h5⟩ := E.own i xs h
    exact ⟨h1, h2, h3, vs, e _ _ h4, h5.mono (Gr.of e)⟩
  apart := E.apart
  raw := E.raw
  same := E.same.trans e
  dm := E.dm.same e
  len := E.len
theorem En.dmx (E : En S A B H σ es) : Dm (Sx S A es) H := fun a s => by
  rcases s with s | ⟨i, xs, h, rfl⟩
  · exact E.dm a s
  · obtain ⟨_, _, _, vs, h4, _⟩ := E.own i xs h
    rw [h4]
    exact fun z => nomatch z
theorem raw_set {k : Nat} {x : Sl} {u : Option V} (E : En S A B H σ es) (hx : ∀ v, x = .r v → u = some v) : ∀ (i : Nat) (v : V), (es.set k x)[i]? = some (.r v) → (σ.set k u)[i]? = some (some v) := fun i v h => by
  rw [List.getElem?_set] at h ⊢
  by_cases c : k = i
  · subst c
    rw [if_pos rfl] at h ⊢
    split at h
    · rename_i hl
      rw [if_pos (by rw [E.len]; exact hl), hx v (Option.some.inj h)]
    · cases h
  · rw [if_neg c] at h ⊢
    exact E.raw i v h
theorem own_set_d {k : Nat} {x : Sl} (hx : ∀ xs, x ≠ .o xs) {a : Addr} (h : Own A (es.set k x) a) : Own A es a := by
  obtain ⟨i, xs, e, rfl⟩ := h
  refine ⟨i, xs, ?_, rfl⟩
  rw [List.getElem?_set] at e
  split at e
  · split at e
    · exact absurd (Option.some.inj e) (hx xs)
    · cases e
  · exact e
/-- a slot gets a datum -/
theorem En.setD (E : En S A B H σ es) {k : Nat} {x : D} {v : V} (hv : IsD (Sx S A es) H x v) : En S A B H (σ.set k (some v)) (es.set k (.d x)) := by
  have w : ∀ a, Sx S A (es.set k (.d x)) a → Sx S A es a := fun a s => s.imp id (own_set_d (by intro xs z; cases z))
  refine ⟨fun i y h => ?_, fun i xs h => ?_, fun i j xs ys n h1 h2 => ?_, raw_set E (by intro v z; cases z), E.same, E.dm, by rw [List.length_set, List.length_set]; exact E.len⟩
  · rw [List.getElem?_set] at h ⊢
    by_cases c : k = i
    · subst c
      rw [if_pos rfl] at h ⊢
      split at h
      · rename_i hl
        cases h
        rw [if_pos (by rw [E.len]; exact hl)]
        exact ⟨v, rfl, hv.wide w⟩
      · cases h
    · rw [if_neg c] at h ⊢
      obtain ⟨u, h1, h2⟩ := E.dat i y h
      exact ⟨u, h1, h2.wide w⟩
  · rw [List.getElem?_set] at h ⊢
    by_cases c : k = i
    · subst c
      rw [if_pos rfl] at h
      split at h <;> cases h
    · rw [if_neg c] at h ⊢
      obtain ⟨h1, h2, h3, vs, h4, h5⟩ := E.own i xs h
      exact ⟨h1, h2, h3, vs, h4, h5.wide w⟩
  · rw [List.getElem?_set] at h1 h2
    by_cases c : k = i
    · rw [if_pos c] at h1
      split at h1 <;> cases h1
    · by_cases c2 : k = j
      · rw [if_pos c2] at h2
        split at h2 <;> cases h2
      · rw [if_neg c] at h1
        rw [if_neg c2] at h2
        exact E.apart i j xs ys n h1 h2
/-- a slot gets anything: nothing is known of it -/
theorem En.setN (E : En S A B H σ es) {k : Nat} {v : Option V} : En S A B H (σ.set k v) (es.set k .no) := by
  have w : ∀ a, Sx S A (es.set k .no) a → Sx S A es a := fun a s => s.imp id (own_set_d (by intro xs z; cases z))
  refine ⟨fun i y h => ?_, fun i xs h => ?_, fun i j xs ys n h1 h2 => ?_, raw_set E (by intro v z; cases z), E.same, E.dm, by rw [List.length_set, List.length_set]; exact E.len⟩
  · rw [List.getElem?_set] at h ⊢
    by_cases c : k = i
    · subst c
      rw [if_pos rfl] at h
      split at h <;> cases h
    · rw [if_neg c] at h ⊢
      obtain ⟨u, h1, h2⟩ := E.dat i y h
      exact ⟨u, h1, h2.wide w⟩
  · rw [List.getElem?_set] at h ⊢
    by_cases c : k = i
    · subst c
      rw [if_pos rfl] at h
      split at h <;> cases h
    · rw [if_neg c] at h ⊢
      obtain ⟨h1, h2, h3, vs, h4, h5⟩ := E.own i xs h
      exact ⟨h1, h2, h3, vs, h4, h5.wide w⟩
  · rw [List.getElem?_set] at h1 h2
    by_cases c : k = i
    · rw [if_pos c] at h1
      split at h1 <;> cases h1
    · by_cases c2 : k = j
      · rw [if_pos c2] at h2
        split at h2 <;> cases h2
      · rw [if_neg c] at h1
        rw [if_neg c2] at h2
        exact E.apart i j xs ys n h1 h2
/-- the addresses with slot k's own list at p -/
def A1 (A : Nat → Addr) (k : Nat) (p : Addr) : Nat → Addr := fun i => if i = k then p else A i
theorem own_set_o {k : Nat} {p : Addr} {xs : Cn} {a : Addr} (h : Own (A1 A k p) (es.set k (.o xs)) a) : Own A es a ∨ a = p := by
  obtain ⟨i, ys, e, rfl⟩ := h
  by_cases c : i = k
  · right
    show (if i = k then p else A i) = p
    rw [if_pos c]
  · left
    refine ⟨i, ys, ?_, ?_⟩
    · rw [List.getElem?_set, if_neg (fun z => c z.symm)] at e
      exact e
    · show (if i = k then p else A i) = A i
      rw [if_neg c]
/-- a slot gets a new list of its own -/
theorem En.setO (E : En S A B H σ es) {k : Nat} {xs : Cn} {p : Addr} {vs : HO} (g : Same H H') (hp : H p = none) (h' : H' p = some vs) (hv : IsC (fun a => Sx S A es a ∨ a = p) H' xs vs) :
    En S (A1 A k p) B H' (σ.set k (some (.ref p))) (es.set k (.o xs)) := by
  have w : ∀ a, Sx S (A1 A k p) (es.set k (.o xs)) a → Sx S A es a ∨ a = p := fun a s => by
    rcases s with s | s
    · exact .inl (.inl s)
    · rcases own_set_o s with s | s
      · exact .inl (.inr s)
      · exact .inr s
  have hB : B p = none := E.same.free hp
  refine ⟨fun i y h => ?_, fun i ys h => ?_, fun i j ys zs n h1 h2 => ?_, raw_set E (by intro v z; cases z), E.same.trans g, E.dm.same g, by rw [List.length_set, List.length_set]; exact E.len⟩
  · rw [List.getElem?_set] at h ⊢
    by_cases c : k = i
    · subst c
      rw [if_pos rfl] at h
      split at h <;> cases h
    · rw [if_neg c] at h ⊢
      obtain ⟨u, h1, h2⟩ := E.dat i y h
      exact ⟨u, h1, ((h2.more hp).mono (Gr.of g)).wide w⟩
  · rw [List.getElem?_set] at h ⊢
    by_cases c : k = i
    · subst c
      rw [if_pos rfl] at h ⊢
      split at h
      · rename_i hl
        cases h
        rw [if_pos (by rw [E.len]; exact hl)]
        have e : A1 A k p k = p := if_pos rfl
        rw [e]
        exact ⟨rfl, E.dm.not hp, hB, vs, h', hv.wide w⟩
      · cases h
    · rw [if_neg c] at h ⊢
      obtain ⟨h1, h2, h3, us, h4, h5⟩ := E.own i ys h
      have e : A1 A k p i = A i := if_neg fun z => c z.symm
      rw [e]
      exact ⟨h1, h2, h3, us, g _ _ h4, ((h5.more hp).mono (Gr.of g)).wide w⟩
  · rw [List.getElem?_set] at h1 h2
    have ne : ∀ (i : Nat) (ys : Cn), es[i]? = some (.o ys) → A i ≠ p := fun i ys h => by
      obtain ⟨_, _, _, us, h4, _⟩ := E.own i ys h
      exact ne_of_none h4 hp
    by_cases c : k = i
    · by_cases c2 : k = j
      · exact absurd (c.symm.trans c2) n
      · rw [if_neg c2] at h2
        have e : A1 A k p j = A j := if_neg fun z => c2 z.symm
        have e2 : A1 A k p i = p := if_pos c.symm
        rw [e, e2]
        exact fun z => ne j zs h2 z.symm
    · rw [if_neg c] at h1
      have e : A1 A k p i = A i := if_neg fun z => c z.symm
      rw [e]
      by_cases c2 : k = j
      · have e2 : A1 A k p j = p := if_pos c2.symm
        rw [e2]
        exact ne i ys h1
      · rw [if_neg c2] at h2
        have e2 : A1 A k p j = A j := if_neg fun z => c2 z.symm
        rw [e2]
        exact E.apart i j ys zs n h1 h2
/-- an address that is new ahead becomes volatile -/
theorem En.vol (E : En S A B H σ es) {p : Addr} (g : Same H H') (hp : H p = none) (h' : H' p ≠ none) : En (fun a => S a ∨ a = p) A B H' σ es := by
  have w : ∀ a, Sx (fun a => S a ∨ a = p) A es a → Sx S A es a ∨ a = p := fun a s => by
    rcases s with (s | s) | s
    · exact .inl (.inl s)
    · exact .inr s
    · exact .inl (.inr s)
  refine ⟨fun i y h => ?_, fun i ys h => ?_, E.apart, E.raw, E.same.trans g, fun a s => ?_, E.len⟩
  · obtain ⟨u, h1, h2⟩ := E.dat i y h
    exact ⟨u, h1, ((h2.more hp).mono (Gr.of g)).wide w⟩
  · obtain ⟨h1, h2, h3, us, h4, h5⟩ := E.own i ys h
    exact ⟨h1, fun z => z.elim h2 (ne_of_none h4 hp), h3, us, g _ _ h4, ((h5.more hp).mono (Gr.of g)).wide w⟩
  · rcases s with s | rfl
    · exact (E.dm.same g) a s
    · exact h'
/-- a volatile address that the start does not know changes -/
theorem En.chg (E : En S A B H σ es) {p : Addr} {o : HO} (hp : S p) (hB : B p = none) : En S A B (upd H p o) σ es := by
  have g : Gr (Sx S A es) H (upd H p o) := Gr.put (.inl hp)
  refine ⟨fun i y h => ?_, fun i ys h => ?_, E.apart, E.raw, fun b u e => ?_, fun a s => ?_, E.len⟩
  · obtain ⟨u, h1, h2⟩ := E.dat i y h
    exact ⟨u, h1, h2.mono g⟩
  · obtain ⟨h1, h2, h3, us, h4, h5⟩ := E.own i ys h
    have ne : A i ≠ p := fun z => by
      rw [z] at h2
      exact h2 hp
    exact ⟨h1, h2, h3, us, by rw [upd_ne ne]; exact h4, h5.mono g⟩
  · rw [upd_ne (ne_of_none e hB)]
    exact E.same b u e
  · by_cases c : a = p
    · subst c
      rw [upd_same]
      exact fun z => nomatch z
    · rw [upd_ne c]
      exact E.dm a s
/-- an own list changes -/
theorem En.put (E : En S A B H σ es) {k : Nat} {xs ys : Cn} {vs : HO} (hk : es[k]? = some (.o xs)) (hv : IsC (Sx S A es) H ys vs) :
    En S A B (upd H (A k) vs) σ (es.set k (.o ys)) := by
  have hl : k < es.length := (List.getElem?_eq_some_iff.mp hk).1
  have own : Own A es (A k) := ⟨k, xs, hk, rfl⟩
  have g : Gr (Sx S A es) H (upd H (A k) vs) := Gr.put (.inr own)
  have w : ∀ a, Sx S A (es.set k (.o ys)) a → Sx S A es a := fun a s => by
    rcases s with s | ⟨i, zs, e, rfl⟩
    · exact .inl s
    · rw [List.getElem?_set] at e
      by_cases c : k = i
      · subst c
        exact .inr own
      · rw [if_neg c] at e
        exact .inr ⟨i, zs, e, rfl⟩
  obtain ⟨k1, k2, k3, _⟩ := E.own k xs hk
  have dm' : Dm S (upd H (A k) vs) := fun a s => by
    have ne : a ≠ A k := fun z => by
      rw [z] at s
      exact k2 s
    rw [upd_ne ne]
    exact E.dm a s
  have raw' : ∀ (i : Nat) (v : V), (es.set k (.o ys))[i]? = some (.r v) → σ[i]? = some (some v) := fun i v h => by
    rw [List.getElem?_set] at h
    by_cases c : k = i
    · subst c
      rw [if_pos rfl, if_pos hl] at h
      cases h
    · rw [if_neg c] at h
      exact E.raw i v h
  refine ⟨fun i y h => ?_, fun i zs h => ?_, fun i j zs us n h1 h2 => ?_, raw', fun b o e => ?_, dm', by rw [List.length_set]; exact E.len⟩
  · rw [List.getElem?_set] at h
    by_cases c : k = i
    · subst c
      rw [if_pos rfl, if_pos hl] at h
      cases h
    · rw [if_neg c] at h
      obtain ⟨u, h1, h2⟩ := E.dat i y h
      exact ⟨u, h1, (h2.mono g).wide w⟩
  · rw [List.getElem?_set] at h
    by_cases c : k = i
    · subst c
      rw [if_pos rfl, if_pos hl] at h
      cases h
      exact ⟨k1, k2, k3, vs, upd_same, (hv.mono g).wide w⟩
    · rw [if_neg c] at h
      obtain ⟨h1, h2, h3, us, h4, h5⟩ := E.own i zs h
      exact ⟨h1, h2, h3, us, by rw [upd_ne (E.apart i k zs xs (fun z => c z.symm) h hk)]; exact h4, (h5.mono g).wide w⟩
  · have f : ∀ (m : Nat) (ws : Cn), (es.set k (.o ys))[m]? = some (.o ws) → ∃ ts, es[m]? = some (.o ts) := fun m ws h => by
      rw [List.getElem?_set] at h
      by_cases c : k = m
      · subst c
        exact ⟨xs, hk⟩
      · rw [if_neg c] at h
        exact ⟨ws, h⟩
    obtain ⟨t1, e1⟩ := f i zs h1
    obtain ⟨t2, e2⟩ := f j us h2
    exact E.apart i j t1 t2 n e1 e2
  · have ne : b ≠ A k := ne_of_none e k3
    rw [upd_ne ne]
    exact E.same b o e
/-- a def's start: the arguments -/
theorem env_start {N : List Str} {ds : List D} {vs : List V} (dm : Dm S H) (h : IsDs S H ds vs) (hl : ds.length ≤ N.length) :
    En S (fun _ => 0) H H (L2.start N vs) (ds.map Sl.d ++ List.replicate (N.length - ds.length) .no) := by
  have hv := h.length
  have noown : ∀ (i : Nat) (xs : Cn), (ds.map Sl.d ++ List.replicate (N.length - ds.length) Sl.no)[i]? = some (Sl.o xs) → False := fun i xs e => by
    rcases List.mem_append.mp (List.mem_of_getElem? e) with m | m
    · obtain ⟨y, _, z⟩ := List.mem_map.mp m
      cases z
    · have z := (List.mem_replicate.mp m).2
      cases z
  have w : ∀ a, Sx S (fun _ => 0) (ds.map Sl.d ++ List.replicate (N.length - ds.length) Sl.no) a → S a := fun a s => by
    rcases s with s | ⟨i, xs, e, _⟩
    · exact s
    · exact (noown i xs e).elim
  have noraw : ∀ (i : Nat) (v : V), (ds.map Sl.d ++ List.replicate (N.length - ds.length) Sl.no)[i]? = some (Sl.r v) → False := fun i v e => by
    rcases List.mem_append.mp (List.mem_of_getElem? e) with m | m
    · obtain ⟨y, _, z⟩ := List.mem_map.mp m
      cases z
    · have z := (List.mem_replicate.mp m).2
      cases z
  refine ⟨fun i x e => ?_, fun i xs e => (noown i xs e).elim, fun i j xs ys _ e _ => (noown i xs e).elim, fun i v e => (noraw i v e).elim, Same.refl H, dm, ?_⟩
  · by_cases c : i < ds.length
    · rw [List.getElem?_append_left (by rw [List.length_map]; exact c), List.getElem?_map] at e
      cases q : ds[i]? with
      | none =>
        rw [q] at e
        cases e
      | some d =>
        rw [q] at e
        cases e
        obtain ⟨v, h1, h2⟩ := h.get q
        refine ⟨v, ?_, h2.wide w⟩
        unfold L2.start
        first
          | rw [List.getElem?_append_left (by rw [List.length_map, hv]; exact c), List.getElem?_map, h1]; rfl
          | simp [h1, hv, c]
    · have z := List.mem_of_getElem? e
      rw [List.getElem?_append_right (by rw [List.length_map]; omega)] at e
      have z := (List.mem_replicate.mp (List.mem_of_getElem? e)).2
      cases z
  · unfold L2.start
    simp [hv]
/-- what is volatile for a part of what runs (V) may change -/
theorem En.gr {V : Addr → Prop} (E : En S A B H σ es) (g : Gr V H H') (hV : ∀ a, V a → S a ∧ B a = none) (hd : ∀ a, V a → H' a ≠ none) : En S A B H' σ es := by
  have g' : Gr (Sx S A es) H H' := fun a o n e => g a o (fun z => n (.inl (hV a z).1)) e
  refine ⟨fun i x h => ?_, fun i xs h => ?_, E.apart, E.raw, fun b o e => ?_, fun a s => ?_, E.len⟩
  · obtain ⟨v, h1, h2⟩ := E.dat i x h
    exact ⟨v, h1, h2.mono g'⟩
  · obtain ⟨h1, h2, h3, vs, h4, h5⟩ := E.own i xs h
    exact ⟨h1, h2, h3, vs, g _ _ (fun z => h2 (hV _ z).1) h4, h5.mono g'⟩
  · refine g b o (fun z => ?_) (E.same b o e)
    rw [(hV b z).2] at e
    cases e
  · by_cases c : V a
    · exact hd a c
    · cases q : H a with
      | none => exact absurd q (E.dm a s)
      | some o =>
        rw [g a o c q]
        exact fun z => nomatch z
end
end Nz
/-! Expressions and tests, as data. -/
namespace Nz
open PySem L2
/-- te is worth the datum d (apart from the own lists) -/
def ED (te : TE) (es : Es) (d : D) : Prop := ∀ (S : Addr → Prop) (A : Nat → Addr) (B H : Hp) (σ : St), En S A B H σ es → ∀ Q : VK, (∀ v H2, Same H H2 → IsD (Sx S A es) H2 d v → Q v H2) → te σ H Q
/-- te is worth d; it may be an own list -/
def EX (te : TE) (es : Es) (d : D) : Prop := ∀ (S : Addr → Prop) (A : Nat → Addr) (B H : Hp) (σ : St), En S A B H σ es → ∀ Q : VK, (∀ v H2, Same H H2 → IsD S H2 d v → Q v H2) → te σ H Q
/-- te gives a new list -/
def EL (te : TE) (es : Es) (ds : List D) : Prop := ∀ (S : Addr → Prop) (A : Nat → Addr) (B H : Hp) (σ : St), En S A B H σ es →
  ∀ Q : VK, (∀ p vs H2, Same H H2 → H p = none → H2 p = some (.lst vs) → IsDs (fun a => Sx S A es a ∨ a = p) H2 ds vs → Q (.ref p) H2) → te σ H Q
def EDs (ta : TA) (es : Es) (ds : List D) : Prop := ∀ (S : Addr → Prop) (A : Nat → Addr) (B H : Hp) (σ : St), En S A B H σ es → ∀ Q : List V → Hp → Prop, (∀ vs H2, Same H H2 → IsDs (Sx S A es) H2 ds vs → Q vs H2) → ta σ H Q
def EXs (ta : TA) (es : Es) (ds : List D) : Prop := ∀ (S : Addr → Prop) (A : Nat → Addr) (B H : Hp) (σ : St), En S A B H σ es → ∀ Q : List V → Hp → Prop, (∀ vs H2, Same H H2 → IsDs S H2 ds vs → Q vs H2) → ta σ H Q
def ET (tt : TT) (es : Es) (b : Bool) : Prop := ∀ (S : Addr → Prop) (A : Nat → Addr) (B H : Hp) (σ : St), En S A B H σ es → ∀ Q : Bool → Hp → Prop, (∀ H2, Same H H2 → Q b H2) → tt σ H Q
def EO (to : TO) (es : Es) (o : Option Int) : Prop := ∀ (S : Addr → Prop) (A : Nat → Addr) (B H : Hp) (σ : St), En S A B H σ es → ∀ Q : Option Int → Hp → Prop, (∀ H2, Same H H2 → Q o H2) → to σ H Q
/-- an operation on data; a call on data -/
def RD (r : R2) (x y z : D) : Prop := ∀ (S : Addr → Prop) (H : Hp) (u v : V), Dm S H → IsD S H x u → IsD S H y v → ∀ Q : VK, (∀ w H2, Same H H2 → IsD S H2 z w → Q w H2) → r u v H Q
def RL (r : R2) (x y : D) (zs : List D) : Prop := ∀ (S : Addr → Prop) (H : Hp) (u v : V), Dm S H → IsD S H x u → IsD S H y v →
  ∀ Q : VK, (∀ p ws H2, Same H H2 → H p = none → H2 p = some (.lst ws) → IsDs (fun a => S a ∨ a = p) H2 zs ws → Q (.ref p) H2) → r u v H Q
def RC (r : List V → Hp → VK → Prop) (xs : List D) (z : D) : Prop := ∀ (S : Addr → Prop) (H : Hp) (us : List V), Dm S H → IsDs S H xs us → ∀ Q : VK, (∀ w H2, Same H H2 → IsD S H2 z w → Q w H2) → r us H Q
def RCL (r : List V → Hp → VK → Prop) (xs zs : List D) : Prop := ∀ (S : Addr → Prop) (H : Hp) (us : List V), Dm S H → IsDs S H xs us →
  ∀ Q : VK, (∀ p ws H2, Same H H2 → H p = none → H2 p = some (.lst ws) → IsDs (fun a => S a ∨ a = p) H2 zs ws → Q (.ref p) H2) → r us H Q
def flD : D → Bool
  | .t _ => false
  | .l _ => false
  | _ => true
theorem flat_any {S T : Addr → Prop} {H H' : Hp} {d : D} {v : V} (h : flD d = true) (q : IsD S H d v) : IsD T H' d v := by
  cases d <;> first | exact q | (simp [flD] at h)
section
variable {K : PySem.W.Frag} {es : Es} {ta tb te : TE} {tas : TA} {t u : TT} {x y z d : D} {xs ys ds : List D} {r : R2}
theorem ED.toX (h : ED te es d) : EX te es d := fun S A B H σ E Q q => h S A B H σ E Q fun v H2 e i => q v H2 e (i.wide fun _ s => .inl s)
theorem EDs.toX (h : EDs tas es ds) : EXs tas es ds := fun S A B H σ E Q q => h S A B H σ E Q fun v H2 e i => q v H2 e (i.wide fun _ s => .inl s)
theorem EX.toD (h : EX te es d) (f : flD d = true) : ED te es d := fun S A B H σ E Q q => h S A B H σ E Q fun v H2 e i => q v H2 e (flat_any f i)
theorem EL.toD (h : EL te es ds) : ED te es (.l ds) := fun S A B H σ E Q q => h S A B H σ E Q fun p vs H2 e n a i =>
  q _ H2 e ⟨p, vs, rfl, E.dmx.not n, a, i.wide fun _ s => .inl s⟩
theorem ed_var {i : Nat} (h : es[i]? = some (.d d)) : ED (tVar i) es d := fun S A B H σ E Q q => by
  obtain ⟨v, h1, h2⟩ := E.dat i d h
  exact ⟨v, h1, q v H (Same.refl H) h2⟩
theorem ex_own {i : Nat} (h : es[i]? = some (.o (.l ds))) : EX (tVar i) es (.l ds) := fun S A B H σ E Q q => by
  obtain ⟨h1, h2, h3, _, h4, vs, rfl, h5⟩ := E.own i _ h
  exact ⟨_, h1, q _ H (Same.refl H) ⟨_, vs, rfl, h2, h4, h5.wide fun _ s => .inl s⟩⟩
theorem ed_str {x : Str} : ED (tC (.str x)) es (.s x) := fun S A B H σ E Q q => q _ H (Same.refl H) rfl
theorem ed_int {x : Int} : ED (tC (.int x)) es (.i x) := fun S A B H σ E Q q => q _ H (Same.refl H) rfl
theorem ed_bl {x : Bool} : ED (tC (.bl x)) es (.b x) := fun S A B H σ E Q q => q _ H (Same.refl H) rfl
theorem ed_non : ED (tC .non) es .n := fun S A B H σ E Q q => q _ H (Same.refl H) rfl
theorem ea_nil : EDs tNil es [] := fun S A B H σ E Q q => q _ H (Same.refl H) rfl
theorem ea_cons {tr : TA} (h : ED te es d) (k : EDs tr es ds) : EDs (tCons te tr) es (d :: ds) := fun S A B H σ E Q q =>
  h S A B H σ E _ fun v H2 e i => k S A B H2 σ (E.mono e) _ fun vs H3 e3 is => q _ H3 (e.trans e3) (IsDs.cons (i.mono (Gr.of e3)) is)
theorem ex_nil : EXs tNil es [] := fun S A B H σ E Q q => q _ H (Same.refl H) rfl
theorem ex_cons {tr : TA} (h : EX te es d) (k : EXs tr es ds) : EXs (tCons te tr) es (d :: ds) := fun S A B H σ E Q q =>
  h S A B H σ E _ fun v H2 e i => k S A B H2 σ (E.mono e) _ fun vs H3 e3 is => q _ H3 (e.trans e3) (IsDs.cons (i.mono (Gr.of e3)) is)
theorem ed_tup (h : EDs tas es ds) (hl : ds.length ≤ sizeLine) : ED (tTup tas) es (.t ds) := fun S A B H σ E Q q =>
  h S A B H σ E _ fun vs H2 e i => ⟨by rw [i.length]; exact hl, fun p hp => q _ _ (e.trans (Same.new hp)) ⟨p, vs, rfl, (E.mono e).dmx.not hp, upd_same, i.mono (Gr.new hp)⟩⟩
theorem el_lst (h : EDs tas es ds) (hl : ds.length ≤ sizeLine) : EL (tLst tas) es ds := fun S A B H σ E Q q =>
  h S A B H σ E _ fun vs H2 e i => ⟨by rw [i.length]; exact hl, fun p hp => q p vs _ (e.trans (Same.new hp)) (e.free hp) upd_same ((i.more hp).mono (Gr.of (Same.new hp)))⟩
theorem ed_op (ha : ED ta es x) (hb : ED tb es y) (hr : RD r x y z) : ED (tOp r ta tb) es z := fun S A B H σ E Q q =>
  ha S A B H σ E _ fun u H2 e2 i => hb S A B H2 σ (E.mono e2) _ fun v H3 e3 j => hr _ H3 u v ((E.mono e2).mono e3).dmx (i.mono (Gr.of e3)) j Q fun w H4 e4 k => q w H4 ((e2.trans e3).trans e4) k
theorem ex_op (ha : EX ta es x) (hb : EX tb es y) (hr : RD r x y z) : EX (tOp r ta tb) es z := fun S A B H σ E Q q =>
  ha S A B H σ E _ fun u H2 e2 i => hb S A B H2 σ (E.mono e2) _ fun v H3 e3 j => hr _ H3 u v ((E.mono e2).mono e3).dm (i.mono (Gr.of e3)) j Q fun w H4 e4 k => q w H4 ((e2.trans e3).trans e4) k
/-- own lists among the operands, the value flat -/
theorem ed_opx (ha : EX ta es x) (hb : EX tb es y) (hr : RD r x y z) (f : flD z = true) : ED (tOp r ta tb) es z := (ex_op ha hb hr).toD f
theorem el_op (ha : ED ta es x) (hb : ED tb es y) (hr : RL r x y ds) : EL (tOp r ta tb) es ds := fun S A B H σ E Q q =>
  ha S A B H σ E _ fun u H2 e2 i => hb S A B H2 σ (E.mono e2) _ fun v H3 e3 j => hr _ H3 u v ((E.mono e2).mono e3).dmx (i.mono (Gr.of e3)) j Q fun p ws H4 e4 n a k => q p ws H4 ((e2.trans e3).trans e4) ((e2.trans e3).free n) a k
/-- xs[k] of an own list -/
theorem ed_ixo {i : Nat} {k : Int} (h : es[i]? = some (.o (.l ds))) (hb : ED tb es (.i k)) (hk : atI ds k = some d) : ED (tOp (rIxL K) (tVar i) tb) es d := fun S A B H σ E Q q => by
  obtain ⟨h1, h2, h3, _, h4, vs, rfl, h5⟩ := E.own i _ h
  refine ⟨_, h1, hb S A B H σ E _ fun v H2 e2 j => ?_⟩
  cases j
  have hl := h5.length
  unfold atI at hk
  rw [← hl] at hk
  cases q1 : ixN vs.length k with
  | none =>
    rw [q1] at hk
    cases hk
  | some m =>
    rw [q1] at hk
    obtain ⟨w, w1, w2⟩ := h5.get (j := m) (d := d) hk
    refine ⟨_, vs, k, w, rfl, rfl, SqL.of (e2 _ _ h4), ?_, q w H2 e2 (w2.mono (Gr.of e2))⟩
    unfold atI
    rw [q1]
    exact w1
/-! ### operations -/
theorem rd_int {g : Int → Int → V} {a b c : Int} (e : g a b = .int c) : RD (rI0 g) (.i a) (.i b) (.i c) := fun S H u v _ i j Q q => by
  cases i; cases j
  exact ⟨a, b, rfl, rfl, by rw [e]; exact q _ H (Same.refl H) rfl⟩
theorem rd_bool {g : Int → Int → V} {a b : Int} {c : Bool} (e : g a b = .bl c) : RD (rI0 g) (.i a) (.i b) (.b c) := fun S H u v _ i j Q q => by
  cases i; cases j
  exact ⟨a, b, rfl, rfl, by rw [e]; exact q _ H (Same.refl H) rfl⟩
theorem rd_intC {C : Int → Int → Prop} {g : Int → Int → V} {a b c : Int} (hc : C a b) (e : g a b = .int c) : RD (rI C g) (.i a) (.i b) (.i c) := fun S H u v _ i j Q q => by
  cases i; cases j
  exact ⟨a, b, rfl, rfl, hc, by rw [e]; exact q _ H (Same.refl H) rfl⟩
theorem dec_V {a b : Str} : decide (V.str a = V.str b) = decide (a = b) := by
  by_cases h : a = b
  · rw [h, decide_eq_true rfl, decide_eq_true rfl]
  · rw [decide_eq_false h, decide_eq_false fun z => h (V.str.inj z)]
theorem dec_I {a b : Int} : decide (V.int a = V.int b) = decide (a = b) := by
  by_cases h : a = b
  · rw [h, decide_eq_true rfl, decide_eq_true rfl]
  · rw [decide_eq_false h, decide_eq_false fun z => h (V.int.inj z)]
theorem rd_eqS {a b : Str} : RD rEq (.s a) (.s b) (.b (decide (a = b))) := fun S H u v _ i j Q q => by
  cases i; cases j
  exact ⟨rfl, by rw [dec_V]; exact q _ H (Same.refl H) rfl⟩
theorem rd_neS {a b : Str} : RD rNe (.s a) (.s b) (.b (!decide (a = b))) := fun S H u v _ i j Q q => by
  cases i; cases j
  exact ⟨rfl, by rw [dec_V]; exact q _ H (Same.refl H) rfl⟩
theorem rd_eqI {a b : Int} : RD rEq (.i a) (.i b) (.b (decide (a = b))) := fun S H u v _ i j Q q => by
  cases i; cases j
  exact ⟨rfl, by rw [dec_I]; exact q _ H (Same.refl H) rfl⟩
theorem rd_neI {a b : Int} : RD rNe (.i a) (.i b) (.b (!decide (a = b))) := fun S H u v _ i j Q q => by
  cases i; cases j
  exact ⟨rfl, by rw [dec_I]; exact q _ H (Same.refl H) rfl⟩
def vD : D → V
  | .s x => .str x
  | .i x => .int x
  | .b x => .bl x
  | _ => .non
theorem isD_flat {S : Addr → Prop} {H : Hp} {d : D} {v : V} (f : flD d = true) (q : IsD S H d v) : v = vD d ∧ flatV v = true := by
  cases d <;> first | (cases q; exact ⟨rfl, rfl⟩) | (simp [flD] at f)
theorem isDs_flat {S : Addr → Prop} {H : Hp} : ∀ {ds : List D} {vs : List V}, ds.all flD = true → IsDs S H ds vs → vs = ds.map vD ∧ vs.all flatV = true
  | [], _, _, q => by cases q; exact ⟨rfl, rfl⟩
  | d :: ds, _, f, q => by
    obtain ⟨v, r, rfl, h, t⟩ := q
    rw [List.all_cons, Bool.and_eq_true] at f
    obtain ⟨e1, e2⟩ := isD_flat f.1 h
    obtain ⟨e3, e4⟩ := isDs_flat f.2 t
    subst e1 e3
    exact ⟨rfl, by rw [List.all_cons, e2, e4]; rfl⟩
/-- x in xs, of flat data -/
def inD (x : D) (ds : List D) : Bool := inV (vD x) (ds.map vD)
theorem rd_inT {neg : Bool} (fx : flD x = true) (fs : ds.all flD = true) : RD (rIn K neg) x (.t ds) (.b (if neg then !inD x ds else inD x ds)) := fun S H u v _ i j Q q => by
  obtain ⟨a, vs, rfl, _, ha, is⟩ := j
  obtain ⟨rfl, e2⟩ := isD_flat fx i
  obtain ⟨rfl, e4⟩ := isDs_flat fs is
  exact ⟨a, _, rfl, .inr (SqT.of ha), e2, e4, q _ H (Same.refl H) rfl⟩
theorem rd_inL {neg : Bool} (fx : flD x = true) (fs : ds.all flD = true) : RD (rIn K neg) x (.l ds) (.b (if neg then !inD x ds else inD x ds)) := fun S H u v _ i j Q q => by
  obtain ⟨a, vs, rfl, _, ha, is⟩ := j
  obtain ⟨rfl, e2⟩ := isD_flat fx i
  obtain ⟨rfl, e4⟩ := isDs_flat fs is
  exact ⟨a, _, rfl, .inl (SqL.of ha), e2, e4, q _ H (Same.refl H) rfl⟩
theorem flD_strs : ∀ (xs : List Str), (xs.map D.s).all flD = true
  | [] => rfl
  | _ :: r => by rw [List.map_cons, List.all_cons, flD_strs r]; rfl
theorem inD_strs {a : Str} : ∀ {xs : List Str}, inD (.s a) (xs.map D.s) = decide (a ∈ xs)
  | [] => rfl
  | b :: r => by
    have ih := inD_strs (a := a) (xs := r)
    unfold inD inV at ih ⊢
    show (eqV (V.str b) (V.str a) || ((r.map D.s).map vD).any fun y => eqV y (vD (.s a))) = _
    rw [ih]
    show ((b == a) || decide (a ∈ r)) = decide (a ∈ b :: r)
    by_cases h : a = b
    · subst h
      simp
    · have h2 : ¬ b = a := fun z => h z.symm
      simp [h, h2]
theorem atI_map {α β : Type} {xs : List α} {f : α → β} {k : Int} {y : α} (h : atI xs k = some y) : atI (xs.map f) k = some (f y) := by
  unfold atI at h ⊢
  rw [List.length_map]
  cases q : ixN xs.length k with
  | none =>
    rw [q] at h
    cases h
  | some j =>
    rw [q] at h
    show (xs.map f)[j]? = some (f y)
    have h' : xs[j]? = some y := h
    rw [List.getElem?_map, h']
    rfl
theorem atI_isDs {S : Addr → Prop} {H : Hp} {vs : List V} {k : Int} (is : IsDs S H ds vs) (hk : atI ds k = some d) : ∃ v, atI vs k = some v ∧ IsD S H d v := by
  have hl := is.length
  unfold atI at hk ⊢
  rw [hl]
  cases q1 : ixN ds.length k with
  | none =>
    rw [q1] at hk
    cases hk
  | some m =>
    rw [q1] at hk
    obtain ⟨w, w1, w2⟩ := is.get (j := m) (d := d) hk
    exact ⟨w, w1, w2⟩
theorem rd_ixT {k : Int} (hk : atI ds k = some d) : RD (rIxT K) (.t ds) (.i k) d := fun S H u v _ i j Q q => by
  obtain ⟨a, vs, rfl, _, ha, is⟩ := i
  cases j
  obtain ⟨w, w1, w2⟩ := atI_isDs is hk
  exact ⟨a, vs, k, w, rfl, rfl, SqT.of ha, w1, q w H (Same.refl H) w2⟩
theorem rd_ixL {k : Int} (hk : atI ds k = some d) : RD (rIxL K) (.l ds) (.i k) d := fun S H u v _ i j Q q => by
  obtain ⟨a, vs, rfl, _, ha, is⟩ := i
  cases j
  obtain ⟨w, w1, w2⟩ := atI_isDs is hk
  exact ⟨a, vs, k, w, rfl, rfl, SqL.of ha, w1, q w H (Same.refl H) w2⟩
theorem rd_ixS {x : Str} {k : Int} {c : Nat} (hl : x.length ≤ sizeLine) (hk : atI x.cps.toList k = some c) : RD rIxS (.s x) (.i k) (.s ⟨#[c]⟩) := fun S H u v _ i j Q q => by
  cases i; cases j
  exact ⟨x, k, c, rfl, rfl, hl, hk, q _ H (Same.refl H) rfl⟩
theorem rd_catT (hl : xs.length + ys.length ≤ sizeLine) : RD (rCatA K) (.t xs) (.t ys) (.t (xs ++ ys)) := fun S H u v dm i j Q q => by
  obtain ⟨a, vs, rfl, n1, ha, is⟩ := i
  obtain ⟨b, ws, rfl, n2, hb, js⟩ := j
  refine ⟨a, b, vs, ws, rfl, rfl, SqT.of ha, SqT.of hb, by rw [is.length, js.length]; exact hl, fun e => ?_, fun _ e => ?_, fun _ _ p hp => ?_⟩
  · subst e
    have e2 : xs = [] := List.length_eq_zero_iff.mp (by rw [← is.length]; rfl)
    subst e2
    exact q _ H (Same.refl H) ⟨b, ws, rfl, n2, hb, js⟩
  · subst e
    have e2 : ys = [] := List.length_eq_zero_iff.mp (by rw [← js.length]; rfl)
    subst e2
    rw [List.append_nil] at q
    exact q _ H (Same.refl H) ⟨a, vs, rfl, n1, ha, is⟩
  · exact q _ _ (Same.new hp) ⟨p, _, rfl, dm.not hp, upd_same, (is.app js).mono (Gr.new hp)⟩
theorem rl_cat (hl : xs.length + ys.length ≤ sizeLine) : RL rCat (.l xs) (.l ys) (xs ++ ys) := fun S H u v dm i j Q q => by
  obtain ⟨a, vs, rfl, n1, ha, is⟩ := i
  obtain ⟨b, ws, rfl, n2, hb, js⟩ := j
  refine ⟨a, b, vs, ws, rfl, rfl, ha, hb, by rw [is.length, js.length]; exact hl, fun p hp => ?_⟩
  exact q p _ _ (Same.new hp) hp upd_same (((is.app js).more hp).mono (Gr.of (Same.new hp)))
def rAddS : R2 := fun x y H Q => ∃ i j, x = .str i ∧ y = .str j ∧ i.length + j.length ≤ sizeLine ∧ Q (.str (i ++ j)) H
theorem op_addS {X : Cx} : OpR X (binaryOp .Add) rAddS := op_add_str
theorem rd_addS {a b : Str} (hl : a.length + b.length ≤ sizeLine) : RD rAddS (.s a) (.s b) (.s (a ++ b)) := fun S H u v _ i j Q q => by
  cases i; cases j
  exact ⟨a, b, rfl, rfl, hl, q _ H (Same.refl H) rfl⟩
/-! ### calls of built-ins -/
theorem ed_cb {r : List V → Hp → VK → Prop} (h : EDs tas es xs) (hr : RC r xs z) : ED (tCB r tas) es z := fun S A B H σ E Q q =>
  h S A B H σ E _ fun vs H2 e i => hr _ H2 vs (E.mono e).dmx i Q fun w H3 e3 k => q w H3 (e.trans e3) k
theorem ed_cbx {r : List V → Hp → VK → Prop} (h : EXs tas es xs) (hr : RC r xs z) (f : flD z = true) : ED (tCB r tas) es z := fun S A B H σ E Q q =>
  h S A B H σ E _ fun vs H2 e i => hr _ H2 vs (E.mono e).dm i Q fun w H3 e3 k => q w H3 (e.trans e3) (flat_any f k)
theorem el_cb {r : List V → Hp → VK → Prop} (h : EDs tas es xs) (hr : RCL r xs ds) : EL (tCB r tas) es ds := fun S A B H σ E Q q =>
  h S A B H σ E _ fun vs H2 e i => hr _ H2 vs (E.mono e).dmx i Q fun p ws H3 e3 n a k => q p ws H3 (e.trans e3) (e.free n) a k
def rLen (K : PySem.W.Frag) : List V → Hp → VK → Prop := fun xs H Q => ∃ p ys, xs = [.ref p] ∧ (SqL K H p ys ∨ SqT K H p ys) ∧ Q (.int ys.length) H
theorem c_len {X : Cx} : CallR X (.builtin "len") (rLen X.K) := call_len_seq
theorem rc_lenL : RC (rLen K) [.l xs] (.i (xs.length : Nat)) := fun S H us _ is Q q => by
  obtain ⟨v, r, rfl, ⟨a, vs, rfl, _, ha, js⟩, rfl⟩ := is
  exact ⟨a, vs, rfl, .inl (SqL.of ha), by rw [js.length]; exact q _ H (Same.refl H) rfl⟩
theorem rc_lenT : RC (rLen K) [.t xs] (.i (xs.length : Nat)) := fun S H us _ is Q q => by
  obtain ⟨v, r, rfl, ⟨a, vs, rfl, _, ha, js⟩, rfl⟩ := is
  exact ⟨a, vs, rfl, .inr (SqT.of ha), by rw [js.length]; exact q _ H (Same.refl H) rfl⟩
def rTup (K : PySem.W.Frag) : List V → Hp → VK → Prop := fun xs H Q => ∃ p ys, xs = [.ref p] ∧ ((SqL K H p ys ∧ ∀ l, H l = none → Q (.ref l) (upd H l (.tup ys))) ∨ (SqT K H p ys ∧ Q (.ref p) H))
theorem c_tup {X : Cx} : CallR X (.type "tuple") (rTup X.K) := call_tuple_of
theorem rc_tupL : RC (rTup K) [.l xs] (.t xs) := fun S H us dm is Q q => by
  obtain ⟨v, r, rfl, ⟨a, vs, rfl, _, ha, js⟩, rfl⟩ := is
  exact ⟨a, vs, rfl, .inl ⟨SqL.of ha, fun p hp => q _ _ (Same.new hp) ⟨p, vs, rfl, dm.not hp, upd_same, js.mono (Gr.new hp)⟩⟩⟩
theorem rc_tupT : RC (rTup K) [.t xs] (.t xs) := fun S H us dm is Q q => by
  obtain ⟨v, r, rfl, ⟨a, vs, rfl, n, ha, js⟩, rfl⟩ := is
  exact ⟨a, vs, rfl, .inr ⟨SqT.of ha, q _ H (Same.refl H) ⟨a, vs, rfl, n, ha, js⟩⟩⟩
/-- tuple(xs) of an own list -/
theorem ed_tupo {i : Nat} (h : es[i]? = some (.o (.l ds))) : ED (tCB (rTup K) (tCons (tVar i) tNil)) es (.t ds) := fun S A B H σ E Q q => by
  obtain ⟨h1, h2, h3, _, h4, vs, rfl, h5⟩ := E.own i _ h
  exact ⟨_, h1, _, vs, rfl, .inl ⟨SqL.of h4, fun p hp => q _ _ (Same.new hp) ⟨p, vs, rfl, E.dmx.not hp, upd_same, h5.mono (Gr.new hp)⟩⟩⟩
def rLst (K : PySem.W.Frag) : List V → Hp → VK → Prop := fun xs H Q => ∃ p ys, xs = [.ref p] ∧ (SqL K H p ys ∨ SqT K H p ys) ∧ ∀ l, H l = none → Q (.ref l) (upd H l (.lst ys))
theorem c_lst {X : Cx} : CallR X (.type "list") (rLst X.K) := call_list_of
theorem rc_lstL : RCL (rLst K) [.l xs] xs := fun S H us dm is Q q => by
  obtain ⟨v, r, rfl, ⟨a, vs, rfl, n, ha, js⟩, rfl⟩ := is
  exact ⟨a, vs, rfl, .inl (SqL.of ha), fun p hp => q p vs _ (Same.new hp) hp upd_same ((js.more hp).mono (Gr.of (Same.new hp)))⟩
theorem rc_lstT : RCL (rLst K) [.t xs] xs := fun S H us dm is Q q => by
  obtain ⟨v, r, rfl, ⟨a, vs, rfl, n, ha, js⟩, rfl⟩ := is
  exact ⟨a, vs, rfl, .inr (SqT.of ha), fun p hp => q p vs _ (Same.new hp) hp upd_same ((js.more hp).mono (Gr.of (Same.new hp)))⟩
/-! ### slices -/
theorem eo_none : EO tNoPart es none := fun S A B H σ E Q q => q H (Same.refl H)
theorem eo_some {k : Int} (h : ED te es (.i k)) : EO (tPart te) es (some k) := fun S A B H σ E Q q =>
  h S A B H σ E _ fun v H2 e i => by cases i; exact ⟨k, rfl, q H2 e⟩
def cutD (xs : List D) (lo hi : Option Int) : List D := (xs.drop (HT.sIx xs.length 0 lo)).take (HT.sIx xs.length xs.length hi - HT.sIx xs.length 0 lo)
theorem cut_isDs {S : Addr → Prop} {H : Hp} {vs : List V} {lo hi : Option Int} (is : IsDs S H ds vs) : IsDs S H (cutD ds lo hi) (cutV vs lo hi) := by
  unfold cutD cutV
  rw [is.length]
  exact (is.drop _).take _
theorem ed_slT {tl th : TO} {lo hi : Option Int} (h : ED te es (.t xs)) (h1 : EO tl es lo) (h2 : EO th es hi) : ED (tSl (rSlA K) te tl th) es (.t (cutD xs lo hi)) := fun S A B H σ E Q q =>
  h S A B H σ E _ fun v H2 e i => h1 S A B H2 σ (E.mono e) _ fun H3 e3 => h2 S A B H3 σ ((E.mono e).mono e3) _ fun H4 e4 => by
    have E4 := ((E.mono e).mono e3).mono e4
    have i4 := i.mono (Gr.of (e3.trans e4))
    obtain ⟨a, vs, rfl, n, ha, is⟩ := i4
    refine ⟨a, vs, rfl, SqT.of ha, fun w => ?_, fun _ p hp => ?_⟩
    · refine q _ H4 (e.trans (e3.trans e4)) ⟨a, vs, rfl, n, ha, ?_⟩
      have c : cutV vs lo hi = vs := by
        unfold cutV
        rw [w.1, w.2, List.drop_zero, Nat.sub_zero, List.take_length]
      rw [← c]
      exact cut_isDs is
    · exact q _ _ ((e.trans (e3.trans e4)).trans (Same.new hp)) ⟨p, _, rfl, E4.dmx.not hp, upd_same, (cut_isDs is).mono (Gr.new hp)⟩
theorem el_slL {tl th : TO} {lo hi : Option Int} (h : ED te es (.l xs)) (h1 : EO tl es lo) (h2 : EO th es hi) : EL (tSl (rSlL K) te tl th) es (cutD xs lo hi) := fun S A B H σ E Q q =>
  h S A B H σ E _ fun v H2 e i => h1 S A B H2 σ (E.mono e) _ fun H3 e3 => h2 S A B H3 σ ((E.mono e).mono e3) _ fun H4 e4 => by
    have E4 := ((E.mono e).mono e3).mono e4
    have i4 := i.mono (Gr.of (e3.trans e4))
    obtain ⟨a, vs, rfl, n, ha, is⟩ := i4
    refine ⟨a, vs, rfl, SqL.of ha, fun p hp => ?_⟩
    exact q p _ _ ((e.trans (e3.trans e4)).trans (Same.new hp)) ((e.trans (e3.trans e4)).free hp) upd_same (((cut_isDs is).more hp).mono (Gr.of (Same.new hp)))
/-! ### tests -/
theorem et_test {b : Bool} (h : ED te es (.b b)) : ET (tTest te) es b := fun S A B H σ E Q q => h S A B H σ E _ fun v H2 e i => by cases i; exact ⟨b, rfl, q H2 e⟩
theorem et_B {b : Bool} (h : ED te es (.b b)) : ET (tB te) es b := fun S A B H σ E Q q => h S A B H σ E _ fun v H2 e i => by cases i; exact ⟨b, rfl, q H2 e⟩
theorem et_not {b : Bool} (h : ET t es b) : ET (tNot t) es (!b) := fun S A B H σ E Q q => h S A B H σ E _ fun H2 e => q H2 e
theorem et_and {a b : Bool} (h1 : ET t es a) (h2 : a = true → ET u es b) : ET (tAnd t u) es (a && b) := fun S A B H σ E Q q => h1 S A B H σ E _ fun H2 e => by
  cases a with
  | true => exact h2 rfl S A B H2 σ (E.mono e) Q fun H3 e3 => q H3 (e.trans e3)
  | false => exact q H2 e
theorem et_or {a b : Bool} (h1 : ET t es a) (h2 : a = false → ET u es b) : ET (tOr t u) es (a || b) := fun S A B H σ E Q q => h1 S A B H σ E _ fun H2 e => by
  cases a with
  | true => exact q H2 e
  | false => exact h2 rfl S A B H2 σ (E.mono e) Q fun H3 e3 => q H3 (e.trans e3)
theorem ed_andV {a b : Bool} (h1 : ED ta es (.b a)) (h2 : a = true → ED tb es (.b b)) : ED (tAndV ta tb) es (.b (a && b)) := fun S A B H σ E Q q => h1 S A B H σ E _ fun v H2 e i => by
  cases i
  cases a with
  | true => exact ⟨true, rfl, h2 rfl S A B H2 σ (E.mono e) Q fun w H3 e3 k => q w H3 (e.trans e3) k⟩
  | false => exact ⟨false, rfl, q _ H2 e rfl⟩
theorem ed_orV {a b : Bool} (h1 : ED ta es (.b a)) (h2 : a = false → ED tb es (.b b)) : ED (tOrV ta tb) es (.b (a || b)) := fun S A B H σ E Q q => h1 S A B H σ E _ fun v H2 e i => by
  cases i
  cases a with
  | true => exact ⟨true, rfl, q _ H2 e rfl⟩
  | false => exact ⟨false, rfl, h2 rfl S A B H2 σ (E.mono e) Q fun w H3 e3 k => q w H3 (e.trans e3) k⟩
theorem ed_notV {a : Bool} (h1 : ED ta es (.b a)) : ED (tNotV ta) es (.b (!a)) := fun S A B H σ E Q q => h1 S A B H σ E _ fun v H2 e i => by
  cases i
  exact ⟨a, rfl, q _ H2 e rfl⟩
theorem ed_if {b : Bool} (h : ET t es b) (h1 : b = true → ED ta es d) (h2 : b = false → ED tb es d) : ED (tIf t ta tb) es d := fun S A B H σ E Q q => h S A B H σ E _ fun H2 e => by
  cases b with
  | true => exact h1 rfl S A B H2 σ (E.mono e) Q fun w H3 e3 k => q w H3 (e.trans e3) k
  | false => exact h2 rfl S A B H2 σ (E.mono e) Q fun w H3 e3 k => q w H3 (e.trans e3) k
/-- the truth of a list -/
def tTru (K : PySem.W.Frag) (ta : TE) : TT := fun σ H Q => ta σ H fun x H' => ∃ k, TruV K x H' k ∧ Q k H'
theorem pt_tru {X : Cx} {a : Expr} (ha : PE X a ta) (he : ∀ whole, isTrue a X.env whole = (do let v ← whole; standAt a.pos; holding [v] (truthy v)) := by intro _; rfl) : PT X a (tTru X.K ta) := pt_truth ha he
theorem et_truL (h : EX ta es (.l xs)) : ET (tTru K ta) es (!xs.isEmpty) := fun S A B H σ E Q q => h S A B H σ E _ fun v H2 e i => by
  obtain ⟨a, vs, rfl, n, ha, is⟩ := i
  have e2 : vs.isEmpty = xs.isEmpty := by
    have := is.length
    cases vs <;> cases xs <;> first | rfl | (simp at this)
  exact ⟨!xs.isEmpty, .inl ⟨vs, SqL.of ha, by rw [e2]⟩, q H2 e⟩
theorem et_eq {a b : Bool} (h : ET t es a) (e : a = b) : ET t es b := by
  subst e
  exact h
theorem ed_eq (h : ED te es x) (e : x = y) : ED te es y := by
  subst e
  exact h
theorem el_eq (h : EL te es xs) (e : xs = ys) : EL te es ys := by
  subst e
  exact h
/-! ### calls of defs -/
/-- a def that is a relation of data: arguments ds, value d -/
def spR (R : List D → D → Prop) : Sp := fun vs H Q _ => ∃ (S : Addr → Prop) (ds : List D) (d : D), Dm S H ∧ IsDs S H ds vs ∧ R ds d ∧ ∀ v H', Same H H' → IsD S H' d v → Q v H'
/-- a def whose value is a new list -/
def spL (R : List D → List D → Prop) : Sp := fun vs H Q _ => ∃ (S : Addr → Prop) (ds xs : List D), Dm S H ∧ IsDs S H ds vs ∧ R ds xs ∧
  ∀ p ws H', Same H H' → H p = none → H' p = some (.lst ws) → IsDs (fun a => S a ∨ a = p) H' xs ws → Q (.ref p) H'
theorem ed_call {R : List D → D → Prop} {E : XK} (h : EDs tas es xs) (hr : R xs z) : ED (tCall (spR R) [] E tas) es z := fun S A B H σ En' Q q =>
  h S A B H σ En' _ fun vs H2 e i => ⟨_, xs, z, (En'.mono e).dmx, by rw [List.append_nil]; exact i, hr, fun w H3 e3 k => q w H3 (e.trans e3) k⟩
theorem ed_callx {R : List D → D → Prop} {E : XK} (h : EXs tas es xs) (hr : R xs z) (f : flD z = true) : ED (tCall (spR R) [] E tas) es z := fun S A B H σ En' Q q =>
  h S A B H σ En' _ fun vs H2 e i => ⟨_, xs, z, (En'.mono e).dm, by rw [List.append_nil]; exact i, hr, fun w H3 e3 k => q w H3 (e.trans e3) (flat_any f k)⟩
theorem el_call {R : List D → List D → Prop} {E : XK} (h : EDs tas es xs) (hr : R xs ds) : EL (tCall (spL R) [] E tas) es ds := fun S A B H σ En' Q q =>
  h S A B H σ En' _ fun vs H2 e i => ⟨_, xs, ds, (En'.mono e).dmx, by rw [List.append_nil]; exact i, hr, fun p ws H3 e3 n a k => q p ws H3 (e.trans e3) (e.free n) a k⟩
end
end Nz
/-! Statements, loops, comprehensions, as data; a def by its body. -/
namespace Nz
open PySem L2
/-- what runs: V its volatile addresses, K0 what is true of the start, J1 what is true of each heap -/
structure Wd where
  V : Addr → Prop
  K0 : Hp → Prop
  J1 : Hp → Prop
  use : ∀ H a, J1 H → V a → H a ≠ none
  stay : ∀ H H', J1 H → (∀ a, V a → H' a = H a) → J1 H'
  up : ∀ B C, K0 B → Same B C → K0 C
/-- nothing is volatile -/
def W0 : Wd := ⟨N0, fun _ => True, fun _ => True, fun _ _ _ h => h.elim, fun _ _ _ _ => trivial, fun _ _ _ _ => trivial⟩
structure WOk (W : Wd) (S : Addr → Prop) (B H : Hp) : Prop where
  vol : ∀ a, W.V a → S a ∧ B a = none
  k0 : W.K0 B
  j1 : W.J1 H
theorem wok0 {S : Addr → Prop} {B H : Hp} : WOk W0 S B H := ⟨fun _ h => h.elim, trivial, trivial⟩
theorem Wd.J1.same {W : Wd} {H H' : Hp} (j : W.J1 H) (e : Same H H') : W.J1 H' := W.stay H H' j fun a v => by
  cases q : H a with
  | none => exact absurd q (W.use H a j v)
  | some o => exact e a o q
theorem WOk.same {W : Wd} {S : Addr → Prop} {B H H' : Hp} (w : WOk W S B H) (e : Same H H') : WOk W S B H' := ⟨w.vol, w.k0, w.j1.same e⟩
theorem WOk.put {W : Wd} {S : Addr → Prop} {B H : Hp} {p : Addr} {o : HO} (w : WOk W S B H) (n : ¬ W.V p) : WOk W S B (upd H p o) := ⟨w.vol, w.k0, W.stay H _ w.j1 fun a v => by
  have ne : a ≠ p := fun z => by
    subst z
    exact n v
  rw [upd_ne ne]⟩
theorem WOk.at {W : Wd} {S : Addr → Prop} {B H H' : Hp} (w : WOk W S B H) (j : W.J1 H') : WOk W S B H' := ⟨w.vol, w.k0, j⟩
structure Po where
  nx : Es → Prop
  rt : D → Prop
  rl : List D → Prop := fun _ => False
  bk : Es → Prop := fun _ => False
  ct : Es → Prop := fun _ => False
/-- what follows a statement -/
structure Ok (W : Wd) (S : Addr → Prop) (B : Hp) (P : Po) (F : Ends) : Prop where
  nx : ∀ es' A' σ' H', P.nx es' → En S A' B H' σ' es' → W.J1 H' → F.nx σ' H'
  rt : ∀ d v H', P.rt d → Same B H' → W.J1 H' → IsD S H' d v → F.rt v H'
  rl : ∀ xs p vs H', P.rl xs → Same B H' → W.J1 H' → B p = none → ¬ S p → H' p = some (.lst vs) → IsDs (fun a => S a ∨ a = p) H' xs vs → F.rt (.ref p) H'
  bk : ∀ es' A' σ' H', P.bk es' → En S A' B H' σ' es' → W.J1 H' → F.bk σ' H'
  ct : ∀ es' A' σ' H', P.ct es' → En S A' B H' σ' es' → W.J1 H' → F.ct σ' H'
def SD (W : Wd) (u : TS) (es : Es) (P : Po) : Prop := ∀ (S : Addr → Prop) (A : Nat → Addr) (B H : Hp) (σ : St), En S A B H σ es → WOk W S B H → ∀ F : Ends, Ok W S B P F → u F σ H
section
variable {W : Wd} {K : PySem.W.Frag} {es : Es} {ta tb te : TE} {tas : TA} {tc : TT} {t u : TS} {x y z d : D} {xs ys ds : List D} {P : Po}
theorem sd_imp {P' : Po} (h : SD W t es P) (n : ∀ e, P.nx e → P'.nx e) (r : ∀ d, P.rt d → P'.rt d) (l : ∀ d, P.rl d → P'.rl d) (b : ∀ e, P.bk e → P'.bk e) (c : ∀ e, P.ct e → P'.ct e) : SD W t es P' := fun S A B H σ E w F k =>
  h S A B H σ E w F ⟨fun _ _ _ _ p => k.nx _ _ _ _ (n _ p), fun _ _ _ p => k.rt _ _ _ (r _ p), fun _ _ _ _ p => k.rl _ _ _ _ (l _ p), fun _ _ _ _ p => k.bk _ _ _ _ (b _ p), fun _ _ _ _ p => k.ct _ _ _ _ (c _ p)⟩
theorem sd_next (h : P.nx es) : SD W tNext es P := fun S A B H σ E w F k => k.nx _ _ _ _ h E w.j1
theorem sd_break (h : P.bk es) : SD W tBreak es P := fun S A B H σ E w F k => k.bk _ _ _ _ h E w.j1
theorem sd_cont (h : P.ct es) : SD W tCont es P := fun S A B H σ E w F k => k.ct _ _ _ _ h E w.j1
theorem sd_seq (N : Es → Prop) (h : SD W t es { P with nx := N }) (k : ∀ e, N e → SD W u e P) : SD W (tSeq t u) es P := fun S A B H σ E w F q =>
  h S A B H σ E w { F with nx := u F } ⟨fun es' A' σ' H' n E' j => k es' n S A' B H' σ' E' (w.at j) F q, q.rt, q.rl, q.bk, q.ct⟩
/-- the next state is one -/
theorem sd_seq1 {e' : Es} (h : SD W t es { P with nx := fun e => e = e' }) (k : SD W u e' P) : SD W (tSeq t u) es P := sd_seq (fun e => e = e') h (fun e z => by cases z; exact k)
theorem sd_if {b : Bool} (h : ET tc es b) (h1 : b = true → SD W t es P) (h2 : b = false → SD W u es P) : SD W (tIfS tc t u) es P := fun S A B H σ E w F k => h S A B H σ E _ fun H2 e => by
  cases b with
  | true => exact h1 rfl S A B H2 σ (E.mono e) (w.same e) F k
  | false => exact h2 rfl S A B H2 σ (E.mono e) (w.same e) F k
theorem sd_ret (h : ED te es d) (k : P.rt d) : SD W (tRet te) es P := fun S A B H σ E w F q => h S A B H σ E _ fun v H2 e i => q.rt d v H2 k (E.same.trans e) (w.same e).j1 (i.wide fun _ s => .inl s)
theorem sd_retX (h : EX te es d) (k : P.rt d) : SD W (tRet te) es P := fun S A B H σ E w F q => h S A B H σ E _ fun v H2 e i => q.rt d v H2 k (E.same.trans e) (w.same e).j1 i
theorem sd_retL (h : EL te es ds) (k : P.rl ds) : SD W (tRet te) es P := fun S A B H σ E w F q => h S A B H σ E _ fun p vs H2 e n a i =>
  q.rl ds p vs H2 k (E.same.trans e) (w.same e).j1 (E.same.free n) (E.dm.not n) a (i.wide fun _ s => s.imp .inl id)
theorem sd_retO {i : Nat} (h : es[i]? = some (.o (.l ds))) (k : P.rl ds) : SD W (tRet (tVar i)) es P := fun S A B H σ E w F q => by
  obtain ⟨h1, h2, h3, _, h4, vs, rfl, h5⟩ := E.own i _ h
  refine ⟨_, h1, q.rl ds (A i) vs H k E.same w.j1 h3 h2 h4 (h5.wide fun a s => ?_)⟩
  rcases s with s | s
  · exact .inl s
  · exact .inr ⟨i, _, h, s⟩
/-! ### stores -/
def GD (g : TG) (d : D) (es es' : Es) : Prop := ∀ (S : Addr → Prop) (A : Nat → Addr) (B H : Hp) (σ : St) (v : V), En S A B H σ es → IsD (Sx S A es) H d v → ∀ Q : St → Hp → Prop, (∀ σ', En S A B H σ' es' → (∀ a, Sx S A es' a → Sx S A es a) → Q σ' H) → g v σ H Q
def GDs (g : TGs) (ds : List D) (es es' : Es) : Prop := ∀ (S : Addr → Prop) (A : Nat → Addr) (B H : Hp) (σ : St) (vs : List V), En S A B H σ es → IsDs (Sx S A es) H ds vs → ∀ Q : St → Hp → Prop, (∀ σ', En S A B H σ' es' → (∀ a, Sx S A es' a → Sx S A es a) → Q σ' H) → g vs σ H Q
theorem gd_name {j : Nat} : GD (gName j) d es (es.set j (.d d)) := fun S A B H σ v E i Q q => q _ (E.setD i) fun a s => s.imp id (own_set_d (by intro xs z; cases z))
theorem gds_nil : GDs gNil [] es es := fun S A B H σ vs E i Q q => ⟨i, q σ E fun _ s => s⟩
theorem gds_cons {g : TG} {gs : TGs} {e1 e2 : Es} (h : GD g d es e1) (k : GDs gs ds e1 e2) : GDs (gCons g gs) (d :: ds) es e2 := fun S A B H σ vs E i Q q => by
  obtain ⟨v, r, rfl, i1, i2⟩ := i
  exact ⟨v, r, rfl, h S A B H σ v E i1 _ fun σ' E' w => k S A B H σ' r E' (i2.wide w) _ fun σ2 E2 w2 => q σ2 E2 fun a s => w a (w2 a s)⟩
theorem gd_tup {gs : TGs} {n : Nat} {e' : Es} (h : GDs gs ds es e') (hn : ds.length = n) : GD (gTup K n gs) (.t ds) es e' := fun S A B H σ v E i Q q => by
  obtain ⟨a, vs, rfl, _, ha, is⟩ := i
  exact ⟨a, vs, rfl, SqT.of ha, by rw [is.length]; exact hn, h S A B H σ vs E is Q q⟩
theorem sd_asg {g : TG} {e' : Es} (h : ED te es d) (hg : GD g d es e') (k : P.nx e') : SD W (tAsg te g) es P := fun S A B H σ E w F q =>
  h S A B H σ E _ fun v H2 e i => hg S A B H2 σ v (E.mono e) i _ fun σ' E' _ => q.nx _ _ _ _ k E' (w.same e).j1
theorem sd_set {j : Nat} (h : ED te es d) (k : P.nx (es.set j (.d d))) : SD W (tAsg te (gName j)) es P := sd_asg h gd_name k
theorem sd_setO {j : Nat} (h : EL te es ds) (k : P.nx (es.set j (.o (.l ds)))) : SD W (tAsg te (gName j)) es P := fun S A B H σ E w F q =>
  h S A B H σ E _ fun p vs H2 e n a i => q.nx _ _ _ _ k (E.setO e n a ⟨vs, rfl, i⟩) (w.same e).j1
/-- x = e, then the rest -/
theorem sq_set {j : Nat} (h : ED te es d) (k : SD W u (es.set j (.d d)) P) : SD W (tSeq (tAsg te (gName j)) u) es P := sd_seq1 (sd_set h rfl) k
theorem sq_setO {j : Nat} (h : EL te es ds) (k : SD W u (es.set j (.o (.l ds))) P) : SD W (tSeq (tAsg te (gName j)) u) es P := sd_seq1 (sd_setO h rfl) k
theorem sq_asg {g : TG} {e' : Es} (h : ED te es d) (hg : GD g d es e') (k : SD W u e' P) : SD W (tSeq (tAsg te g) u) es P := sd_seq1 (sd_asg h hg rfl) k
/-- if c: return ..; the rest -/
theorem sq_if {b : Bool} (h : ET tc es b) (h1 : b = true → SD W (tSeq t u) es P) (h2 : b = false → SD W u es P) : SD W (tSeq (tIfS tc t tNext) u) es P := fun S A B H σ E w F k => h S A B H σ E _ fun H2 e => by
  cases b with
  | true => exact h1 rfl S A B H2 σ (E.mono e) (w.same e) F k
  | false => exact h2 rfl S A B H2 σ (E.mono e) (w.same e) F k
theorem sq_ret (h : ED te es d) (k : P.rt d) : SD W (tSeq (tRet te) u) es P := sd_seq (fun _ => False) (sd_ret h k) fun _ z => z.elim
theorem sq_retL (h : EL te es ds) (k : P.rl ds) : SD W (tSeq (tRet te) u) es P := sd_seq (fun _ => False) (sd_retL h k) fun _ z => z.elim
theorem sq_assoc {w : TS} (h : SD W (tSeq t (tSeq u w)) es P) : SD W (tSeq (tSeq t u) w) es P := h
theorem sq_next (h : SD W u es P) : SD W (tSeq tNext u) es P := h
theorem sq_if2 {b : Bool} {w : TS} (h : ET tc es b) (h1 : b = true → SD W (tSeq t w) es P) (h2 : b = false → SD W (tSeq u w) es P) : SD W (tSeq (tIfS tc t u) w) es P := fun S A B H σ E w F k => h S A B H σ E _ fun H2 e => by
  cases b with
  | true => exact h1 rfl S A B H2 σ (E.mono e) (w.same e) F k
  | false => exact h2 rfl S A B H2 σ (E.mono e) (w.same e) F k
/-! ### own lists -/
theorem sd_app {i : Nat} (h : es[i]? = some (.o (.l xs))) (hd : ED te es d) (hl : xs.length < sizeLine) (k : P.nx (es.set i (.o (.l (xs ++ [d]))))) : SD W (tDrop (tBM K "list" rAppend (tVar i) (tCons te tNil))) es P := fun S A B H σ E w F q => by
  obtain ⟨h1, h2, h3, _, h4, vs, rfl, h5⟩ := E.own i _ h
  refine ⟨_, h1, .inl ⟨rfl, vs, SqL.of h4⟩, hd S A B H σ E _ fun v H2 e j => ?_⟩
  refine ⟨A i, vs, v, rfl, rfl, e _ _ h4, by rw [h5.length]; exact hl, ?_⟩
  exact q.nx _ _ _ _ k ((E.mono e).put h ⟨_, rfl, (h5.mono (Gr.of e)).app (IsDs.one j)⟩) ((w.same e).put fun z => h2 (w.vol _ z).1).j1
theorem sq_app {i : Nat} (h : es[i]? = some (.o (.l xs))) (hd : ED te es d) (hl : xs.length < sizeLine) (k : SD W u (es.set i (.o (.l (xs ++ [d])))) P) : SD W (tSeq (tDrop (tBM K "list" rAppend (tVar i) (tCons te tNil))) u) es P := sd_seq1 (sd_app h hd hl rfl) k
theorem sd_ext {i : Nat} (h : es[i]? = some (.o (.l xs))) (hd : ED te es (.l ds)) (hl : xs.length + ds.length ≤ sizeLine) (k : P.nx (es.set i (.o (.l (xs ++ ds))))) : SD W (tDrop (tBM K "list" rExtend (tVar i) (tCons te tNil))) es P := fun S A B H σ E w F q => by
  obtain ⟨h1, h2, h3, _, h4, vs, rfl, h5⟩ := E.own i _ h
  refine ⟨_, h1, .inl ⟨rfl, vs, SqL.of h4⟩, hd S A B H σ E _ fun v H2 e j => ?_⟩
  obtain ⟨b, ws, rfl, n, hb, js⟩ := j
  refine ⟨A i, b, vs, ws, rfl, rfl, e _ _ h4, hb, by rw [h5.length, js.length]; exact hl, ?_⟩
  exact q.nx _ _ _ _ k ((E.mono e).put h ⟨_, rfl, (h5.mono (Gr.of e)).app js⟩) ((w.same e).put fun z => h2 (w.vol _ z).1).j1
theorem sq_ext {i : Nat} (h : es[i]? = some (.o (.l xs))) (hd : ED te es (.l ds)) (hl : xs.length + ds.length ≤ sizeLine) (k : SD W u (es.set i (.o (.l (xs ++ ds)))) P) : SD W (tSeq (tDrop (tBM K "list" rExtend (tVar i) (tCons te tNil))) u) es P := sd_seq1 (sd_ext h hd hl rfl) k
/-- x = xs.pop() -/
theorem sd_pop {i : Nat} {g : TG} {e' : Es} (h : es[i]? = some (.o (.l (xs ++ [d])))) (hg : GD g d (es.set i (.o (.l xs))) e') (k : P.nx e') : SD W (tAsg (tBM0 K "list" rPop (tVar i)) g) es P := fun S A B H σ E w F q => by
  obtain ⟨h1, h2, h3, _, h4, vs, rfl, h5⟩ := E.own i _ h
  have hl := h5.length
  rw [List.length_append] at hl
  obtain ⟨v, hv, hi⟩ := h5.get (j := xs.length) (d := d) (by simp)
  have e1 : vs.length - 1 = xs.length := by rw [hl]; rfl
  have e2 : vs.dropLast = vs.take xs.length := by
    rw [List.dropLast_eq_take, e1]
  have h6 : IsDs (Sx S A es) H xs vs.dropLast := by
    rw [e2]
    have z := h5.take xs.length
    rw [List.take_left'] at z
    · exact z
    · rfl
  refine ⟨_, h1, .inl ⟨rfl, vs, SqL.of h4⟩, A i, vs, v, rfl, rfl, h4, by rw [e1]; exact hv, ?_⟩
  have E2 := E.put (ys := .l xs) (vs := .lst vs.dropLast) h ⟨_, rfl, h6⟩
  have w' : ∀ a, Sx S A (es.set i (.o (.l xs))) a → Sx S A es a := fun a s => by
    rcases s with s | ⟨m, zs, e, rfl⟩
    · exact .inl s
    · rw [List.getElem?_set] at e
      by_cases c : i = m
      · subst c
        exact .inr ⟨i, _, h, rfl⟩
      · rw [if_neg c] at e
        exact .inr ⟨m, zs, e, rfl⟩
  have hi2 : IsD (Sx S A (es.set i (.o (.l xs)))) (upd H (A i) (.lst vs.dropLast)) d v := (hi.mono (Gr.put (.inr ⟨i, _, h, rfl⟩))).wide w'
  exact hg S A B _ σ v E2 hi2 _ fun σ' E' _ => q.nx _ _ _ _ k E' (w.put fun z => h2 (w.vol _ z).1).j1
theorem sq_pop {i : Nat} {g : TG} {e' : Es} (h : es[i]? = some (.o (.l (xs ++ [d])))) (hg : GD g d (es.set i (.o (.l xs))) e') (k : SD W u e' P) : SD W (tSeq (tAsg (tBM0 K "list" rPop (tVar i)) g) u) es P := sd_seq1 (sd_pop h hg rfl) k
/-- an own list is no longer changed: it is a datum -/
theorem En.freeze {S : Addr → Prop} {A : Nat → Addr} {B H : Hp} {σ : St} {i : Nat} (E : En S A B H σ es) (h : es[i]? = some (.o (.l xs))) : En S A B H σ (es.set i (.d (.l xs))) := by
  obtain ⟨h1, h2, h3, _, h4, vs, rfl, h5⟩ := E.own i _ h
  have n : ¬ Sx S A (es.set i (.d (.l xs))) (A i) := fun s => by
    rcases s with s | ⟨m, zs, e, q⟩
    · exact h2 s
    · rw [List.getElem?_set] at e
      by_cases c : i = m
      · subst c
        rw [if_pos rfl] at e
        split at e <;> cases e
      · rw [if_neg c] at e
        exact E.apart i m _ zs c h e q
  have w : ∀ a, Sx S A (es.set i (.d (.l xs))) a → Sx S A es a := fun a s => s.imp id (own_set_d (by intro xs z; cases z))
  refine ⟨fun k y e => ?_, fun k ys e => ?_, fun k j ys zs m e1 e2 => ?_, fun k v e => ?_, E.same, E.dm, by rw [List.length_set]; exact E.len⟩
  · rw [List.getElem?_set] at e
    by_cases c : i = k
    · subst c
      rw [if_pos rfl] at e
      split at e
      · cases e
        exact ⟨_, h1, A i, vs, rfl, n, h4, h5.wide w⟩
      · cases e
    · rw [if_neg c] at e
      obtain ⟨u, e1, e2⟩ := E.dat k y e
      exact ⟨u, e1, e2.wide w⟩
  · rw [List.getElem?_set] at e
    by_cases c : i = k
    · subst c
      rw [if_pos rfl] at e
      split at e <;> cases e
    · rw [if_neg c] at e
      obtain ⟨k1, k2, k3, us, k4, k5⟩ := E.own k ys e
      exact ⟨k1, k2, k3, us, k4, k5.wide w⟩
  · rw [List.getElem?_set] at e1 e2
    by_cases c : i = k
    · rw [if_pos c] at e1
      split at e1 <;> cases e1
    · by_cases c2 : i = j
      · rw [if_pos c2] at e2
        split at e2 <;> cases e2
      · rw [if_neg c] at e1
        rw [if_neg c2] at e2
        exact E.apart k j ys zs m e1 e2
  · rw [List.getElem?_set] at e
    by_cases c : i = k
    · rw [if_pos c] at e
      split at e <;> cases e
    · rw [if_neg c] at e
      exact E.raw k v e
theorem sd_freeze {i : Nat} (h : es[i]? = some (.o (.l xs))) (k : SD W u (es.set i (.d (.l xs))) P) : SD W u es P := fun S A B H σ E w F q => k S A B H σ (E.freeze h) w F q
end
/-! ### walks -/
mutual
theorem IsD.dom {T T' : Addr → Prop} {C : Hp} (g : ∀ a o, C a = some o → T' a → T a) : ∀ {d : D} {v : V}, IsD T C d v → IsD T' C d v
  | .s _, _, h => h
  | .i _, _, h => h
  | .b _, _, h => h
  | .n, _, h => h
  | .t _, _, h => by
    obtain ⟨a, vs, e, n, ha, q⟩ := h
    exact ⟨a, vs, e, fun z => n (g a _ ha z), ha, IsDs.dom g q⟩
  | .l _, _, h => by
    obtain ⟨a, vs, e, n, ha, q⟩ := h
    exact ⟨a, vs, e, fun z => n (g a _ ha z), ha, IsDs.dom g q⟩
theorem IsDs.dom {T T' : Addr → Prop} {C : Hp} (g : ∀ a o, C a = some o → T' a → T a) : ∀ {ds : List D} {vs : List V}, IsDs T C ds vs → IsDs T' C ds vs
  | [], _, h => h
  | _ :: _, _, h => by
    obtain ⟨v, r, e, q, t⟩ := h
    exact ⟨v, r, e, IsD.dom g q, IsDs.dom g t⟩
end
structure Gd (J : It) (xs : List V) (G : Hp → Prop) : Prop where
  go : ∀ i H, G H → i < xs.length → J.go i H
  yld : ∀ i H x H', G H → i < xs.length → J.yld i H x H' → H' = H ∧ xs[i]? = some x
  stop : ∀ i H, G H → xs.length ≤ i → J.stop i H
/-- what a for walks: the data ds; L: the objects that must stand meanwhile -/
def Src (wi : TI) (es : Es) (ds : List D) : Prop := ∀ (S : Addr → Prop) (A : Nat → Addr) (B H : Hp) (σ : St), En S A B H σ es → ∀ R : It → Hp → Prop,
  (∀ J H2 xs (L : List (Addr × HO)), Same H H2 → (∀ p ∈ L, ¬ Sx S A es p.1 ∧ H2 p.1 = some p.2) → Gd J xs (fun H => ∀ p ∈ L, H p.1 = some p.2) → IsDs (Sx S A es) H2 ds xs → R J H2) → wi σ H R
section
variable {W : Wd} {K : PySem.W.Frag} {es : Es} {ta tb te tl : TE} {tas : TA} {tc : TT} {t u : TS} {x y z d : D} {xs ys ds : List D} {P : Po}
theorem src_list (h : ED tl es (.l ds)) : Src (iList K tl) es ds := fun S A B H σ E R r => h S A B H σ E _ fun v H2 e i => by
  obtain ⟨a, vs, rfl, n, ha, is⟩ := i
  refine ⟨a, rfl, ⟨vs, SqL.of ha⟩, r _ H2 vs [(a, .lst vs)] e (fun p hp => ?_) ⟨fun j H3 g hj => ?_, fun j H3 x H4 g hj y => ?_, fun j H3 g hj => ?_⟩ is⟩
  · cases List.mem_singleton.mp hp
    exact ⟨n, ha⟩
  · exact ⟨vs, vs[j], SqL.of (g _ (List.mem_singleton.mpr rfl)), List.getElem?_eq_getElem hj⟩
  · exact ⟨y.1, y.2 vs (SqL.of (g _ (List.mem_singleton.mpr rfl)))⟩
  · exact ⟨vs, SqL.of (g _ (List.mem_singleton.mpr rfl)), hj⟩
theorem src_tup (h : ED tl es (.t ds)) : Src (iTup K tl) es ds := fun S A B H σ E R r => h S A B H σ E _ fun v H2 e i => by
  obtain ⟨a, vs, rfl, n, ha, is⟩ := i
  refine ⟨a, rfl, ⟨vs, SqT.of ha⟩, r _ H2 vs [(a, .tup vs)] e (fun p hp => ?_) ⟨fun j H3 g hj => ?_, fun j H3 x H4 g hj y => ?_, fun j H3 g hj => ?_⟩ is⟩
  · cases List.mem_singleton.mp hp
    exact ⟨n, ha⟩
  · exact ⟨vs, vs[j], SqT.of (g _ (List.mem_singleton.mpr rfl)), List.getElem?_eq_getElem hj⟩
  · exact ⟨y.1, y.2 vs (SqT.of (g _ (List.mem_singleton.mpr rfl)))⟩
  · exact ⟨vs, SqT.of (g _ (List.mem_singleton.mpr rfl)), hj⟩
def rngD (n : Nat) : List D := (List.range n).map fun (k : Nat) => D.i (k : Int)
theorem isDs_rng {S : Addr → Prop} {H : Hp} : ∀ (l : List Nat), IsDs S H (l.map fun (k : Nat) => D.i (k : Int)) (l.map fun (k : Nat) => V.int (k : Int))
  | [] => rfl
  | _ :: r => ⟨_, _, rfl, rfl, isDs_rng r⟩
theorem src_rng {n : Nat} (h : EDs tas es [.i (n : Int)]) (hn : n ≤ 1000000) : Src (iRng1 tas) es (rngD n) := fun S A B H σ E R r => h S A B H σ E _ fun vs H2 e i => by
  obtain ⟨v, q, rfl, i1, i2⟩ := i
  cases i1; cases i2
  refine ⟨(n : Int), rfl, by omega, by omega, ?_⟩
  rw [Int.toNat_natCast]
  refine r _ H2 ((List.range n).map fun (k : Nat) => V.int (k : Int)) [] e (fun p hp => by cases hp) ⟨fun j H3 g hj => ?_, fun j H3 x H4 g hj y => ?_, fun j H3 g hj => ?_⟩ (isDs_rng _)
  · show j < n
    simpa using hj
  · have hj' : j < n := by simpa using hj
    refine ⟨y.1, ?_⟩
    rw [List.getElem?_map, List.getElem?_range hj', y.2, Int.zero_add]
    rfl
  · show n ≤ j
    simpa using hj
/-! ### for -/
/-- another start: all that stands now but the own lists and what is volatile -/
theorem En.cut {S : Addr → Prop} {A : Nat → Addr} {B H : Hp} {σ : St} (E : En S A B H σ es) (V : Addr → Prop) (hV : ∀ a, V a → S a ∧ B a = none) : ∃ C : Hp, En S A C H σ es ∧ Same B C ∧ Gr (Sx S A es) H C ∧ ∀ a, V a → C a = none := by
  refine ⟨fun b => @ite _ (Own A es b ∨ V b) (Classical.propDecidable _) none (H b), ⟨E.dat, fun i ys h => ?_, E.apart, E.raw, fun b o e => ?_, E.dm, E.len⟩, fun b o e => ?_, fun b o n e => ?_, fun a o => ?_⟩
  · obtain ⟨h1, h2, _, h4⟩ := E.own i ys h
    exact ⟨h1, h2, if_pos (.inl ⟨i, ys, h, rfl⟩), h4⟩
  · by_cases c : Own A es b ∨ V b
    · rw [if_pos c] at e
      cases e
    · rw [if_neg c] at e
      exact e
  · have c : ¬ (Own A es b ∨ V b) := fun z => by
      rcases z with ⟨i, ys, h, q⟩ | z
      · obtain ⟨_, _, h3, _⟩ := E.own i ys h
        rw [← q, e] at h3
        cases h3
      · rw [(hV b z).2] at e
        cases e
    show (@ite _ (Own A es b ∨ V b) (Classical.propDecidable _) none (H b)) = some o
    rw [if_neg c]
    exact E.same b o e
  · have c : ¬ (Own A es b ∨ V b) := fun z => z.elim (fun z => n (.inr z)) fun z => n (.inl (hV b z).1)
    show (@ite _ (Own A es b ∨ V b) (Classical.propDecidable _) none (H b)) = some o
    rw [if_neg c]
    exact e
  · exact if_pos (.inr o)
theorem En.back {S : Addr → Prop} {A : Nat → Addr} {B C H : Hp} {σ : St} (E : En S A C H σ es) (s : Same B C) : En S A B H σ es :=
  ⟨E.dat, fun i ys h => by
    obtain ⟨h1, h2, h3, h4⟩ := E.own i ys h
    exact ⟨h1, h2, s.free h3, h4⟩, E.apart, E.raw, s.trans E.same, E.dm, E.len⟩
theorem Ok.cut {S : Addr → Prop} {B C : Hp} {F : Ends} (k : Ok W S B P F) (s : Same B C) : Ok W S C P F :=
  ⟨fun _ _ _ _ p E => k.nx _ _ _ _ p (E.back s), fun _ _ _ p e => k.rt _ _ _ p (s.trans e), fun _ _ _ _ p e j n => k.rl _ _ _ _ p (s.trans e) j (s.free n), fun _ _ _ _ p E => k.bk _ _ _ _ p (E.back s), fun _ _ _ _ p E => k.ct _ _ _ _ p (E.back s)⟩
theorem sd_for {wi : TI} {g : TG} {tb : TS} (h : Src wi es ds) (I : Nat → Es → Prop) (h0 : I 0 es)
    (hs : ∀ i d e, ds[i]? = some d → I i e → ∃ e', GD g d e e' ∧ SD W tb e' { P with nx := I (i + 1), ct := I (i + 1), bk := P.nx }) (hd : ∀ e, I ds.length e → P.nx e) : SD W (tFor wi g tb) es P := fun S A B H σ E w F k =>
  h S A B H σ E _ fun J H2 xs L e hL G is => by
    obtain ⟨C, E2, sBC, gr, hvol⟩ := (E.mono e).cut W.V w.vol
    have k2 := k.cut sBC
    have w2 : WOk W S C H2 := ⟨fun a v => ⟨(w.vol a v).1, hvol a v⟩, W.up _ _ w.k0 sBC, (w.same e).j1⟩
    have isC : IsDs (fun a => S a ∨ C a = none) C ds xs := (is.mono gr).dom fun a o ha s => by
      rcases s with s | s
      · exact .inl s
      · rw [ha] at s
        cases s
    have LC : ∀ p ∈ L, C p.1 = some p.2 := fun p hp => gr _ _ (hL p hp).1 (hL p hp).2
    have hlen := is.length
    refine ⟨fun i m σ' H' => m = xs.length - i ∧ i ≤ xs.length ∧ ∃ e' A', I i e' ∧ En S A' C H' σ' e' ∧ W.J1 H', ⟨_, rfl, Nat.zero_le _, es, A, h0, E2, w2.j1⟩, ?_⟩
    rintro i m σ' H' ⟨rfl, hi, e', A', hI, E', j'⟩
    have g' : ∀ p ∈ L, H' p.1 = some p.2 := fun p hp => E'.same _ _ (LC p hp)
    by_cases hlt : i < xs.length
    · refine .inr ⟨G.go i H' g' hlt, fun σ2 H2 => ∃ e2 A2, I (i + 1) e2 ∧ En S A2 C H2 σ2 e2 ∧ W.J1 H2, fun σ2 H3 ⟨e2, A2, q1, q2⟩ => ⟨xs.length - (i + 1), by omega, rfl, hlt, e2, A2, q1, q2⟩, fun v H3 y => ?_⟩
      obtain ⟨rfl, hv⟩ := G.yld i H' v H3 g' hlt y
      obtain ⟨d, hd1, hd2⟩ := isC.getV hv
      obtain ⟨e3, hg, hb⟩ := hs i d e' hd1 hI
      have hd3 : IsD (Sx S A' e') H3 d v := (hd2.mono (Gr.of E'.same)).wide fun a s => by
        rcases s with s | ⟨j, ys, q, rfl⟩
        · exact .inl s
        · obtain ⟨_, _, h3, _⟩ := E'.own j ys q
          exact .inr h3
      refine hg S A' C H3 σ' v E' hd3 _ fun σ4 E4 _ => hb S A' C H3 σ4 E4 (w2.at j') _ ⟨fun e5 A5 σ5 H5 p q j => ⟨e5, A5, p, q, j⟩, k2.rt, k2.rl, k2.nx, fun e5 A5 σ5 H5 p q j => ⟨e5, A5, p, q, j⟩⟩
    · have ei : i = xs.length := by omega
      refine .inl ⟨G.stop i H' g' (by omega), k2.nx e' A' σ' H' (hd e' (by rw [← hlen, ← ei]; exact hI)) E' j'⟩
theorem sd_while {tb : TS} (I : Es → Prop) (μ : Es → Nat) (h0 : I es)
    (hs : ∀ e, I e → ∃ b, ET tc e b ∧ (b = true → SD W tb e { P with nx := fun e' => I e' ∧ μ e' < μ e, ct := fun e' => I e' ∧ μ e' < μ e, bk := P.nx }) ∧ (b = false → P.nx e)) : SD W (tWhile tc tb) es P := fun S A B H σ E w F k => by
  refine ⟨fun m σ' H' => ∃ e' A', m = μ e' ∧ I e' ∧ En S A' B H' σ' e' ∧ W.J1 H', ⟨_, es, A, rfl, h0, E, w.j1⟩, ?_⟩
  rintro m σ' H' ⟨e', A', rfl, hI, E', j'⟩
  obtain ⟨b, hb, ht, hf⟩ := hs e' hI
  refine hb S A' B H' σ' E' _ fun H2 e => ?_
  cases b with
  | true => exact ⟨fun σ2 H3 => ∃ e2 A2, (I e2 ∧ μ e2 < μ e') ∧ En S A2 B H3 σ2 e2 ∧ W.J1 H3, fun σ2 H3 ⟨e2, A2, q1, q2⟩ => ⟨_, q1.2, e2, A2, rfl, q1.1, q2⟩, ht rfl S A' B H2 σ' (E'.mono e) ((w.at j').same e) _ ⟨fun e5 A5 σ5 H5 p q j => ⟨e5, A5, p, q, j⟩, k.rt, k.rl, k.nx, fun e5 A5 σ5 H5 p q j => ⟨e5, A5, p, q, j⟩⟩⟩
  | false => exact k.nx e' A' σ' H2 (hf rfl) (E'.mono e) ((w.at j').same e).j1
end
end Nz
/-! List comprehensions; a def by its body. -/
namespace Nz
open PySem L2
def wipeE (es : Es) : List Nat → Es
  | [] => es
  | v :: vs => (wipeE es vs).set v .no
/-- none of these slots is an own list -/
def noOwn (es : Es) (vs : List Nat) : Bool := vs.all fun i => match es[i]? with
  | some (.o _) => false
  | _ => true
theorem En.wiped {S : Addr → Prop} {A : Nat → Addr} {B H : Hp} {σ : St} {es : Es} (E : En S A B H σ es) : ∀ vs : List Nat, En S A B H (wipe σ vs) (wipeE es vs)
  | [] => E
  | v :: vs => (E.wiped vs).setN
theorem wiped_own {es : Es} {i : Nat} {xs : Cn} : ∀ {vs : List Nat}, noOwn es vs = true → es[i]? = some (.o xs) → (wipeE es vs)[i]? = some (.o xs)
  | [], _, h => h
  | v :: vs, n, h => by
    have n' : (match es[v]? with | some (.o _) => false | _ => true) = true ∧ noOwn es vs = true := by
      unfold noOwn at n
      rw [List.all_cons, Bool.and_eq_true] at n
      exact n
    have c : v ≠ i := fun z => by
      subst z
      rw [h] at n'
      exact absurd n'.1 (by simp)
    show ((wipeE es vs).set v .no)[i]? = _
    rw [List.getElem?_set, if_neg c]
    exact wiped_own n'.2 h
theorem own_wiped {A : Nat → Addr} {es : Es} {vs : List Nat} (n : noOwn es vs = true) {a : Addr} (h : Own A es a) : Own A (wipeE es vs) a := by
  obtain ⟨i, xs, e, q⟩ := h
  exact ⟨i, xs, wiped_own n e, q⟩
theorem wiped_of {es : Es} {i : Nat} {xs : Cn} : ∀ {vs : List Nat}, (wipeE es vs)[i]? = some (.o xs) → es[i]? = some (.o xs)
  | [], h => h
  | v :: vs, h => by
    have h' : ((wipeE es vs).set v .no)[i]? = some (.o xs) := h
    rw [List.getElem?_set] at h'
    by_cases c : v = i
    · rw [if_pos c] at h'
      split at h' <;> cases h'
    · rw [if_neg c] at h'
      exact wiped_of h'
theorem own_of_wiped {A : Nat → Addr} {es : Es} {vs : List Nat} {a : Addr} (h : Own A (wipeE es vs) a) : Own A es a := by
  obtain ⟨i, xs, e, q⟩ := h
  exact ⟨i, xs, wiped_of e, q⟩
/-- the target of a comprehension: d is stored into the wiped slots -/
structure GW (g : TG) (d : D) (vs : List Nat) (es e' : Es) : Prop where
  run : ∀ (S : Addr → Prop) (A : Nat → Addr) (B H : Hp) (σ : St) (v : V), En S A B H (wipe σ vs) (wipeE es vs) → IsD (Sx S A (wipeE es vs)) H d v → ∀ Q : St → Hp → Prop, (∀ σ', En S A B H σ' e' → wipe σ' vs = wipe σ vs → Q σ' H) → g v (wipe σ vs) H Q
  own : ∀ A a, Own A es a → Own A e' a
theorem own_set_no {A : Nat → Addr} {es : Es} {j : Nat} {x : Sl} {a : Addr} (n : ∀ xs, es[j]? ≠ some (.o xs)) (h : Own A es a) : Own A (es.set j x) a := by
  obtain ⟨i, xs, e, q⟩ := h
  refine ⟨i, xs, ?_, q⟩
  have c : j ≠ i := fun z => by
    subst z
    exact n xs e
  rw [List.getElem?_set, if_neg c]
  exact e
theorem set_not_o {es : Es} {j : Nat} {x : Sl} (hx : ∀ xs, x ≠ .o xs) : ∀ xs, (es.set j x)[j]? ≠ some (.o xs) := fun xs h => by
  rw [List.getElem?_set, if_pos rfl] at h
  split at h
  · exact hx xs (Option.some.inj h)
  · cases h
theorem gw_name {d : D} {j : Nat} {es : Es} (n : noOwn es [j] = true) : GW (gName j) d [j] es ((es.set j .no).set j (.d d)) where
  run := fun S A B H σ v E i Q q => q _ (E.setD i) (by
    show ((σ.set j none).set j (some v)).set j none = σ.set j none
    rw [List.set_set, List.set_set])
  own := fun A a h => own_set_no (set_not_o (by intro xs z; cases z)) (own_wiped (vs := [j]) n h)
theorem set_comm2 {σ : St} {i j : Nat} {a b : Option V} (h : i ≠ j) : (σ.set i a).set j b = (σ.set j b).set i a := List.set_comm a b h
theorem gw_tup2 {K : PySem.W.Frag} {d1 d2 : D} {i j : Nat} {es : Es} (ij : i ≠ j) (n : noOwn es [i, j] = true) : GW (gTup K 2 (gCons (gName i) (gCons (gName j) gNil))) (.t [d1, d2]) [i, j] es ((((es.set j .no).set i .no).set i (.d d1)).set j (.d d2)) where
  run := fun S A B H σ v E i' Q q => by
    obtain ⟨a, vs, rfl, n1, ha, is⟩ := i'
    refine ⟨a, vs, rfl, SqT.of ha, by rw [is.length]; rfl, ?_⟩
    obtain ⟨v1, r1, rfl, i1, v2, r2, rfl, i2, rfl⟩ := is
    refine ⟨v1, _, rfl, v2, _, rfl, rfl, ?_⟩
    have E1 : En S A B H ((wipe σ [i, j]).set i (some v1)) ((wipeE es [i, j]).set i (.d d1)) := E.setD i1
    have w : ∀ a, Sx S A ((wipeE es [i, j]).set i (.d d1)) a → Sx S A (wipeE es [i, j]) a := fun a s => s.imp id (own_set_d (by intro xs z; cases z))
    refine q _ (E1.setD (i2.wide w)) ?_
    show (((((σ.set j none).set i none).set i (some v1)).set j (some v2)).set j none).set i none = (σ.set j none).set i none
    rw [List.set_set, List.set_set]
    rw [set_comm2 ij, List.set_set, List.set_set]
  own := fun A a h => by
    refine own_set_no ?_ (own_set_no (set_not_o (by intro xs z; cases z)) (own_wiped (vs := [i, j]) n h))
    intro xs h
    rw [List.getElem?_set, if_neg ij] at h
    have h2 : ((es.set j .no).set i .no)[j]? = some (.o xs) := h
    rw [List.getElem?_set, if_neg ij, List.getElem?_set, if_pos rfl] at h2
    split at h2 <;> cases h2
section
variable {K : PySem.W.Frag} {es : Es} {te : TE} {tt : TT} {d : D} {ds : List D} {P : Po} {α : Type}
/-- what a comprehension walks: it may be an own list -/
def SrcC (wi : TI) (es : Es) (ds : List D) : Prop := ∀ (S : Addr → Prop) (A : Nat → Addr) (B H : Hp) (σ : St), En S A B H σ es → ∀ R : It → Hp → Prop,
  (∀ J H2 xs (L : List (Addr × HO)), Same H H2 → (∀ p ∈ L, H2 p.1 = some p.2) → Gd J xs (fun H => ∀ p ∈ L, H p.1 = some p.2) → IsDs (Sx S A es) H2 ds xs → R J H2) → wi σ H R
theorem Src.c {wi : TI} (h : Src wi es ds) : SrcC wi es ds := fun S A B H σ E R r => h S A B H σ E R fun J H2 xs L e hL G i => r J H2 xs L e (fun p hp => (hL p hp).2) G i
theorem src_own {i : Nat} (h : es[i]? = some (.o (.l ds))) : SrcC (iList K (tVar i)) es ds := fun S A B H σ E R r => by
  obtain ⟨h1, h2, h3, _, h4, vs, rfl, h5⟩ := E.own i _ h
  refine ⟨_, h1, A i, rfl, ⟨vs, SqL.of h4⟩, r _ H vs [(A i, .lst vs)] (Same.refl H) (fun p hp => ?_) ⟨fun j H3 g hj => ?_, fun j H3 x H4 g hj y => ?_, fun j H3 g hj => ?_⟩ h5⟩
  · cases List.mem_singleton.mp hp
    exact h4
  · exact ⟨vs, vs[j], SqL.of (g _ (List.mem_singleton.mpr rfl)), List.getElem?_eq_getElem hj⟩
  · exact ⟨y.1, y.2 vs (SqL.of (g _ (List.mem_singleton.mpr rfl)))⟩
  · exact ⟨vs, SqL.of (g _ (List.mem_singleton.mpr rfl)), hj⟩
/-- [e for x in xs if t]: zs stand for the items (by h), b is the test, k the element -/
theorem el_lcFc {wi : TI} {g : TG} {vs : List Nat} (zs : List α) (h : α → D) (b : α → Bool) (k : α → D) (hz : zs.length ≤ sizeLine) (n : noOwn es vs = true) (src : SrcC wi es (zs.map h))
    (hs : ∀ z ∈ zs, ∃ e', GW g (h z) vs es e' ∧ ET tt e' (b z) ∧ (b z = true → ED te e' (k z))) : EL (tLc wi g tt te vs) es ((zs.filter b).map k) := fun S A B H σ E Q q =>
  src S A B H σ E _ fun J H1 xs L e1 hL G is D hD => by
    have E1 := E.mono e1
    have gD : Same H1 (upd H1 D (.lst [])) := Same.new hD
    have E2 := (E1.vol gD hD (by rw [upd_same]; exact fun z => nomatch z)).wiped vs
    have w0 : ∀ a, Sx (fun a => S a ∨ a = D) A (wipeE es vs) a → Sx S A es a ∨ a = D := fun a s => by
      rcases s with (s | s) | s
      · exact .inl (.inl s)
      · exact .inr s
      · exact .inl (.inr (own_of_wiped s))
    have hlen : xs.length = zs.length := by rw [is.length, List.length_map]
    have LD : ∀ p ∈ L, p.1 ≠ D := fun p hp => ne_of_none (hL p hp) hD
    refine ⟨fun i m H' => m = xs.length - i ∧ i ≤ xs.length ∧ Same H1 H' ∧ En (fun a => S a ∨ a = D) A B H' (wipe σ vs) (wipeE es vs) ∧ ∃ acc, H' D = some (.lst acc) ∧ IsDs (fun a => Sx S A es a ∨ a = D) H' (((zs.take i).filter b).map k) acc,
      ⟨_, rfl, Nat.zero_le _, gD, E2, [], upd_same, rfl⟩, ?_⟩
    rintro i m H' ⟨rfl, hi, s1, E', acc, hacc, iacc⟩
    have g' : ∀ p ∈ L, H' p.1 = some p.2 := fun p hp => s1 _ _ (hL p hp)
    by_cases hlt : i < xs.length
    · refine .inr ⟨G.go i H' g' hlt, fun H2 => Same H1 H2 ∧ En (fun a => S a ∨ a = D) A B H2 (wipe σ vs) (wipeE es vs) ∧ ∃ acc, H2 D = some (.lst acc) ∧ IsDs (fun a => Sx S A es a ∨ a = D) H2 (((zs.take (i + 1)).filter b).map k) acc,
        fun H2 r => ⟨_, by omega, rfl, hlt, r⟩, fun v H3 y => ?_⟩
      obtain ⟨rfl, hv⟩ := G.yld i H' v H3 g' hlt y
      obtain ⟨d, hd1, hd2⟩ := is.getV hv
      have hzi : i < zs.length := by omega
      have ez : zs[i]? = some zs[i] := List.getElem?_eq_getElem hzi
      rw [List.getElem?_map, ez] at hd1
      cases hd1
      obtain ⟨e', gw, ht, hk⟩ := hs zs[i] (List.getElem_mem hzi)
      have hd3 : IsD (Sx (fun a => S a ∨ a = D) A (wipeE es vs)) H3 (h zs[i]) v := ((hd2.more hD).mono (Gr.of s1)).wide w0
      have tk : zs.take (i + 1) = zs.take i ++ [zs[i]] := by rw [List.take_succ, ez]; rfl
      refine gw.run _ A B H3 σ v E' hd3 _ fun σ' E4 hw => ⟨hw, ht _ A B H3 σ' E4 _ fun H4 e4 => ?_⟩
      cases hb : b zs[i] with
      | false =>
        show _ ∧ _
        refine ⟨s1.trans e4, E'.mono e4, acc, e4 _ _ hacc, ?_⟩
        rw [tk, List.filter_append, List.filter_cons, hb]
        rw [if_neg Bool.false_ne_true, List.filter_nil, List.append_nil]
        exact iacc.mono (Gr.of e4)
      | true =>
        refine hk hb _ A B H4 σ' (E4.mono e4) _ fun y H5 e5 iy => ?_
        have s5 : Same H3 H5 := e4.trans e5
        have al : acc.length ≤ i := by
          rw [iacc.length, List.length_map]
          exact Nat.le_trans (List.length_filter_le _ _) (by rw [List.length_take]; omega)
        refine ⟨acc, s5 _ _ hacc, by omega, ?_, ?_, acc ++ [y], upd_same, ?_⟩
        · intro a o ha
          rw [upd_ne (ne_of_none ha hD)]
          exact s5 _ _ (s1 _ _ ha)
        · exact (E'.mono s5).chg (.inr rfl) (E1.same.free hD)
        · rw [tk, List.filter_append, List.map_append]
          have gd : Gr (fun a => Sx S A es a ∨ a = D) H5 (upd H5 D (.lst (acc ++ [y]))) := Gr.put (.inr rfl)
          refine ((iacc.mono (Gr.of s5)).app ?_).mono gd
          rw [List.filter_cons, hb, if_pos rfl]
          refine IsDs.one (iy.wide fun a s => ?_)
          rcases s with (s | s) | s
          · exact .inl (.inl s)
          · exact .inr (gw.own A a s)
          · exact .inl (.inr s)
    · have ei : i = zs.length := by omega
      refine .inl ⟨G.stop i H' g' (by omega), ?_⟩
      rw [ei, List.take_length] at iacc
      exact q D acc H' (e1.trans s1) (e1.free hD) hacc iacc
theorem el_lcF {wi : TI} {g : TG} {vs : List Nat} (zs : List α) (h : α → D) (b : α → Bool) (k : α → D) (hz : zs.length ≤ sizeLine) (n : noOwn es vs = true) (src : Src wi es (zs.map h))
    (hs : ∀ z ∈ zs, ∃ e', GW g (h z) vs es e' ∧ ET tt e' (b z) ∧ (b z = true → ED te e' (k z))) : EL (tLc wi g tt te vs) es ((zs.filter b).map k) := el_lcFc zs h b k hz n src.c hs
/-- the test of a comprehension without one -/
theorem et_yes : ET tYes es true := fun S A B H σ E Q q => q H (Same.refl H)
/-- [e for x in xs] -/
theorem el_lcMc {wi : TI} {g : TG} {vs : List Nat} (zs : List α) (h : α → D) (k : α → D) (hz : zs.length ≤ sizeLine) (n : noOwn es vs = true) (src : SrcC wi es (zs.map h))
    (hs : ∀ z ∈ zs, ∃ e', GW g (h z) vs es e' ∧ ED te e' (k z)) : EL (tLc wi g tYes te vs) es (zs.map k) := by
  have q := el_lcFc (te := te) (tt := tYes) (vs := vs) zs h (fun _ => true) k hz n src fun z hz => by
    obtain ⟨e', h1, h2⟩ := hs z hz
    exact ⟨e', h1, et_yes, fun _ => h2⟩
  have e : zs.filter (fun _ => true) = zs := List.filter_eq_self.mpr fun _ _ => rfl
  rw [e] at q
  exact q
theorem el_lcM {wi : TI} {g : TG} {vs : List Nat} (zs : List α) (h : α → D) (k : α → D) (hz : zs.length ≤ sizeLine) (n : noOwn es vs = true) (src : Src wi es (zs.map h))
    (hs : ∀ z ∈ zs, ∃ e', GW g (h z) vs es e' ∧ ED te e' (k z)) : EL (tLc wi g tYes te vs) es (zs.map k) := el_lcMc zs h k hz n src.c hs
/-! ### a def -/
theorem fn_R {P : Program} {w : World} {K : PySem.W.Frag} {mg : Str → Option Value} {base : Heap} {x : Str} {st : Stmt} {f : Addr} {fd : FuncData} {N ps : List Str} {k : Nat} {R : List D → D → Prop}
    (F : L2.Fun K x x st f fd) (S : FnScope N ps (defScope st)) (hN : ps.length ≤ N.length) (len : ∀ ds d, R ds d → ds.length = ps.length)
    (hbody : ∀ (cdv : Value) (A : Around) (outer : List Env) (s : Shared) (H : Hp) (E : XK), Room k (A.deeper (PyProof.Rows.envOfC x (defScope st) s.heap.objs.size f cdv)) →
      ∃ t, PSs (cxOf CX0 P w K mg base N x (defScope st) f cdv A outer s H E).nox (defBody st) t ∧ ∀ ds d, R ds d → SD W0 t (ds.map Sl.d ++ List.replicate (N.length - ds.length) .no) ⟨fun _ => d = .n, fun d' => d' = d, fun xs => d = .l xs, fun _ => False, fun _ => False⟩) :
    FnOk P w K mg base CX0 (k + 1) f fd ps (spR R) := by
  refine F.ok S (fun vs H Q E h => ?_) (fun cdv A outer s H vs Q E hr h => ?_)
  · obtain ⟨T, ds, d, dm, is, hR, q⟩ := h
    rw [is.length]
    exact len ds d hR
  · obtain ⟨T, ds, d, dm, is, hR, q⟩ := h
    obtain ⟨t, h1, h2⟩ := hbody cdv A outer s H E hr
    have hl : ds.length ≤ N.length := by rw [len ds d hR]; exact hN
    refine ⟨t, h1, h2 ds d hR T _ H H _ (env_start dm is hl) wok0 _ ⟨fun es' A' σ' H' p E' _ => ?_, fun d' v H' p e _ i => ?_, fun xs p vs' H' e s _ n _ h i => ?_, fun _ _ _ _ p _ => p.elim, fun _ _ _ _ p _ => p.elim⟩⟩
    · have p' : d = .n := p
      subst p'
      exact q .non H' E'.same rfl
    · have p' : d' = d := p
      subst p'
      exact q v H' e i
    · have e' : d = .l xs := e
      subst e'
      exact q _ H' s ⟨p, vs', rfl, dm.not n, h, i.wide fun a z => .inl z⟩
theorem fn_L {P : Program} {w : World} {K : PySem.W.Frag} {mg : Str → Option Value} {base : Heap} {x : Str} {st : Stmt} {f : Addr} {fd : FuncData} {N ps : List Str} {k : Nat} {R : List D → List D → Prop}
    (F : L2.Fun K x x st f fd) (S : FnScope N ps (defScope st)) (hN : ps.length ≤ N.length) (len : ∀ ds d, R ds d → ds.length = ps.length)
    (hbody : ∀ (cdv : Value) (A : Around) (outer : List Env) (s : Shared) (H : Hp) (E : XK), Room k (A.deeper (PyProof.Rows.envOfC x (defScope st) s.heap.objs.size f cdv)) →
      ∃ t, PSs (cxOf CX0 P w K mg base N x (defScope st) f cdv A outer s H E).nox (defBody st) t ∧ ∀ ds xs, R ds xs → SD W0 t (ds.map Sl.d ++ List.replicate (N.length - ds.length) .no) ⟨fun _ => False, fun _ => False, fun xs' => xs' = xs, fun _ => False, fun _ => False⟩) :
    FnOk P w K mg base CX0 (k + 1) f fd ps (spL R) := by
  refine F.ok S (fun vs H Q E h => ?_) (fun cdv A outer s H vs Q E hr h => ?_)
  · obtain ⟨T, ds, d, dm, is, hR, q⟩ := h
    rw [is.length]
    exact len ds d hR
  · obtain ⟨T, ds, xs, dm, is, hR, q⟩ := h
    obtain ⟨t, h1, h2⟩ := hbody cdv A outer s H E hr
    have hl : ds.length ≤ N.length := by rw [len ds xs hR]; exact hN
    refine ⟨t, h1, h2 ds xs hR T _ H H _ (env_start dm is hl) wok0 _ ⟨fun es' A' σ' H' p E' => p.elim, fun d' v H' p e i => p.elim, fun xs' p vs' H' e s _ n _ h i => ?_, fun _ _ _ _ p _ => p.elim, fun _ _ _ _ p _ => p.elim⟩⟩
    have e' : xs' = xs := e
    subst e'
    exact q p vs' H' s n h i
end
end Nz
/-! Dicts of one's own; built-ins; the facts of a def. -/
namespace Nz
open PySem L2
theorem boot_bool : bootBuiltins "bool" = some (.type "bool") := by decide +kernel
theorem boot_int : bootBuiltins "int" = some (.type "int") := by decide +kernel
theorem boot_str : bootBuiltins "str" = some (.type "str") := by decide +kernel
theorem boot_list : bootBuiltins "list" = some (.type "list") := by decide +kernel
theorem boot_tuple : bootBuiltins "tuple" = some (.type "tuple") := by decide +kernel
theorem boot_isinstance : bootBuiltins "isinstance" = some (.builtin "isinstance") := by decide +kernel
theorem boot_len : bootBuiltins "len" = some (.builtin "len") := by decide +kernel
theorem boot_min : bootBuiltins "min" = some (.builtin "min") := by decide +kernel
theorem boot_max : bootBuiltins "max" = some (.builtin "max") := by decide +kernel
theorem boot_sum : bootBuiltins "sum" = some (.builtin "sum") := by decide +kernel
section
variable {W : Wd} {K : PySem.W.Frag} {es : Es} {ta tb te : TE} {tas : TA} {t u : TS} {x y z d : D} {xs ys ds : List D} {P : Po}
/-! ### own dicts -/
def keyD : Key → D
  | .inl i => .i i
  | .inr x => .s x
theorem keyD_is {S : Addr → Prop} {H : Hp} {k : Key} {v : V} (h : IsD S H (keyD k) v) : v = kV k := by
  cases k <;> exact h
theorem isD_key {S : Addr → Prop} {H : Hp} (k : Key) : IsD S H (keyD k) (kV k) := by
  cases k <;> exact rfl
theorem sd_setM {j : Nat} (k : P.nx (es.set j (.o (.m [])))) : SD W (tAsg tDNewK (gName j)) es P := fun S A B H σ E w F q => fun p hp =>
  q.nx _ _ _ _ k (E.setO (Same.new hp) hp upd_same ⟨[], rfl, rfl, rfl⟩) (w.same (Same.new hp)).j1
theorem sq_setM {j : Nat} (k : SD W u (es.set j (.o (.m []))) P) : SD W (tSeq (tAsg tDNewK (gName j)) u) es P := sd_seq1 (sd_setM rfl) k
def putD (kvs : List (Key × D)) (k : Key) (v : D) : List (Key × D) :=
  if (kvs.any fun kv => decide (kv.1 = k)) = true then kvs.map (fun kv => if kv.1 = k then (kv.1, v) else kv) else kvs ++ [(k, v)]
theorem isDs_put {S : Addr → Prop} {H : Hp} {k : Key} {v : D} {w : V} (hw : IsD S H v w) : ∀ {kvs : List (Key × D)} {ps : List (Key × V)}, ps.map (·.1) = kvs.map (·.1) → IsDs S H (kvs.map (·.2)) (ps.map (·.2)) →
    (kvs.map fun kv => if kv.1 = k then (kv.1, v) else kv).map (·.1) = (ps.map fun kv => if kv.1 = k then (kv.1, w) else kv).map (·.1) ∧ IsDs S H ((kvs.map fun kv => if kv.1 = k then (kv.1, v) else kv).map (·.2)) ((ps.map fun kv => if kv.1 = k then (kv.1, w) else kv).map (·.2))
  | [], [], _, _ => ⟨rfl, rfl⟩
  | [], _ :: _, e, _ => by cases e
  | _ :: _, [], e, _ => by cases e
  | (k1, d1) :: r, (k2, v2) :: s, e, i => by
    have e1 : k2 = k1 := (List.cons.inj e).1
    have e2 : s.map (·.1) = r.map (·.1) := (List.cons.inj e).2
    subst e1
    obtain ⟨v', r', q, i1, i2⟩ := i
    have q1 : v2 = v' := (List.cons.inj q).1
    have q2 : s.map (·.2) = r' := (List.cons.inj q).2
    subst q1 q2
    obtain ⟨ih1, ih2⟩ := isDs_put hw e2 i2
    by_cases c : k2 = k
    · refine ⟨?_, ?_⟩
      · simp only [List.map_cons, if_pos c]
        exact congrArg _ ih1
      · simp only [List.map_cons, if_pos c]
        exact ⟨_, _, rfl, hw, ih2⟩
    · refine ⟨?_, ?_⟩
      · simp only [List.map_cons, if_neg c]
        exact congrArg _ ih1
      · simp only [List.map_cons, if_neg c]
        exact ⟨_, _, rfl, i1, ih2⟩
theorem isC_put {S : Addr → Prop} {H : Hp} {k : Key} {v : D} {w : V} (hw : IsD S H v w) {kvs : List (Key × D)} {ps : List (Key × V)} (e : ps.map (·.1) = kvs.map (·.1)) (i : IsDs S H (kvs.map (·.2)) (ps.map (·.2))) :
    IsC S H (.m (putD kvs k v)) (.dK (putK ps k w)) := by
  have a : (ps.any fun kv => decide (kv.1 = k)) = (kvs.any fun kv => decide (kv.1 = k)) := by
    have e1 : ∀ l : List (Key × V), (l.any fun kv => decide (kv.1 = k)) = (l.map (·.1)).any fun z => decide (z = k) := fun l => by rw [List.any_map]; rfl
    have e2 : ∀ l : List (Key × D), (l.any fun kv => decide (kv.1 = k)) = (l.map (·.1)).any fun z => decide (z = k) := fun l => by rw [List.any_map]; rfl
    rw [e1, e2, e]
  refine ⟨_, rfl, ?_, ?_⟩
  · unfold putK putD
    rw [a]
    split
    · exact (isDs_put hw e i).1.symm
    · rw [List.map_append, List.map_append, e]
      rfl
  · unfold putK putD
    rw [a]
    split
    · exact (isDs_put hw e i).2
    · rw [List.map_append, List.map_append]
      exact i.app (IsDs.one hw)
theorem sd_dput {j : Nat} {kvs : List (Key × D)} {k : Key} (h : es[j]? = some (.o (.m kvs))) (hk : ED ta es (keyD k)) (hv : ED te es d) (hl : kvs.length < sizeLine) (q : P.nx (es.set j (.o (.m (putD kvs k d))))) : SD W (sDPut (tVar j) ta te) es P := fun S A B H σ E w F f =>
  hv S A B H σ E _ fun v H1 e1 i1 => by
    have E1 := E.mono e1
    obtain ⟨h1, h2, h3, o, h4, ps, rfl, h5, h6⟩ := E1.own j _ h
    refine ⟨_, h1, hk S A B H1 σ E1 _ fun y H2 e2 i2 => ?_⟩
    have E2 := E1.mono e2
    have hy := keyD_is i2
    subst hy
    refine ⟨A j, _, rfl, DPut.k (e2 _ _ h4) ?_, f.nx _ _ _ _ q (E2.put h ?_) (((w.same e1).same e2).put fun z => h2 (w.vol _ z).1).j1⟩
    · have := congrArg List.length h5
      rw [List.length_map, List.length_map] at this
      omega
    · exact isC_put (i1.mono (Gr.of e2)) h5 (h6.mono (Gr.of e2))
theorem sq_dput {j : Nat} {kvs : List (Key × D)} {k : Key} (h : es[j]? = some (.o (.m kvs))) (hk : ED ta es (keyD k)) (hv : ED te es d) (hl : kvs.length < sizeLine) (q : SD W u (es.set j (.o (.m (putD kvs k d)))) P) : SD W (tSeq (sDPut (tVar j) ta te) u) es P := sd_seq1 (sd_dput h hk hv hl rfl) q
theorem isDs_keys {S : Addr → Prop} {H : Hp} : ∀ {kvs : List (Key × D)} {ps : List (Key × V)}, ps.map (·.1) = kvs.map (·.1) → IsDs S H (kvs.map fun kv => keyD kv.1) (ps.map fun kv => kV kv.1)
  | [], [], _ => rfl
  | [], _ :: _, e => by cases e
  | _ :: _, [], e => by cases e
  | (k1, d1) :: r, (k2, v2) :: s, e => by
    have e1 : k2 = k1 := (List.cons.inj e).1
    subst e1
    exact ⟨_, _, rfl, isD_key _, isDs_keys (List.cons.inj e).2⟩
/-- list(d) of an own dict: its keys -/
theorem el_listM {j : Nat} {kvs : List (Key × D)} (h : es[j]? = some (.o (.m kvs))) : EL (tCB rListD (tCons (tVar j) tNil)) es (kvs.map fun kv => keyD kv.1) := fun S A B H σ E Q q => by
  obtain ⟨h1, h2, h3, o, h4, ps, rfl, h5, h6⟩ := E.own j _ h
  refine ⟨_, h1, _, ps, rfl, h4, fun p hp => ?_⟩
  exact q p _ _ (Same.new hp) hp upd_same (isDs_keys h5)
/-! ### built-ins -/
def rInt : List V → Hp → VK → Prop := fun xs H Q => (∃ i, xs = [.int i] ∧ Q (.int i) H) ∨ ∃ k, xs = [.bl k] ∧ Q (.int (if k then 1 else 0)) H
theorem c_int {X : Cx} : CallR X (.type "int") rInt := call_int1
theorem rc_int {n : Int} : RC rInt [.i n] (.i n) := fun S H us _ is Q q => by
  obtain ⟨v, r, rfl, i1, i2⟩ := is
  cases i1; cases i2
  exact .inl ⟨n, rfl, q _ H (Same.refl H) rfl⟩
theorem rc_intB {b : Bool} : RC rInt [.b b] (.i (if b then 1 else 0)) := fun S H us _ is Q q => by
  obtain ⟨v, r, rfl, i1, i2⟩ := is
  cases i1; cases i2
  exact .inr ⟨b, rfl, q _ H (Same.refl H) rfl⟩
def rMin2 : List V → Hp → VK → Prop := fun xs H Q => ∃ i j, xs = [.int i, .int j] ∧ Q (.int (if j < i then j else i)) H
theorem c_min2 {X : Cx} (hc : X.calm = true) : CallR X (.builtin "min") rMin2 := call_min2 hc
theorem rc_min2 {a b : Int} : RC rMin2 [.i a, .i b] (.i (if b < a then b else a)) := fun S H us _ is Q q => by
  obtain ⟨v, r, rfl, i1, w, s, rfl, i2, i3⟩ := is
  cases i1; cases i2; cases i3
  exact ⟨a, b, rfl, q _ H (Same.refl H) rfl⟩
def tyD : D → String
  | .s _ => "str" | .i _ => "int" | .b _ => "bool" | .n => "NoneType" | .t _ => "tuple" | .l _ => "list"
theorem tyX_of {S : Addr → Prop} {H : Hp} {d : D} {v : V} (h : IsD S H d v) : TyX K H v (.type (tyD d)) := by
  cases d with
  | s x => cases h; exact .base (.str _)
  | i x => cases h; exact .base (.int _)
  | b x => cases h; exact .base (.bl _)
  | n => cases h; exact .base .non
  | t xs => obtain ⟨a, vs, rfl, _, ha, _⟩ := h; exact .base (.tup ha)
  | l xs => obtain ⟨a, vs, rfl, _, ha, _⟩ := h; exact .base (.lst ha)
theorem ed_isi {T : String} {b : Bool} (h : EX ta es x) (e : kitB (tyD x) T = some b) : ED (tCB (rIsi K) (tCons ta (tCons (tC (.ty T)) tNil))) es (.b b) := fun S A B H σ E Q q => h S A B H σ E _ fun v H2 e2 i =>
  ⟨v, .ty T, .type (tyD x), .type T, b, rfl, .ty T, tyX_of i, kit_ty e, q _ H2 e2 rfl⟩
end
/-! ### the rules with the written part told -/
section
variable {X : Cx} (K : PySem.W.Frag)
theorem ixT (e : X.K = K := by rfl) : IxR X (rIxT K) := by subst e; exact ix_tup
theorem ixL (e : X.K = K := by rfl) : IxR X (rIxL K) := by subst e; exact ix_list
theorem ixQ (e : X.K = K := by rfl) : IxR X (rIx K) := by subst e; exact ix_seq
theorem inQ (e : X.K = K := by rfl) : OpR X (compareOp .In) (rIn K false) := by subst e; exact op_in_seq
theorem ninQ (e : X.K = K := by rfl) : OpR X (compareOp .NotIn) (rIn K true) := by subst e; exact op_notIn_seq
theorem catA (e : X.K = K := by rfl) : OpR X (binaryOp .Add) (rCatA K) := by subst e; exact op_catA
theorem slA (e : X.K = K := by rfl) : SlR X (rSlA K) := by subst e; exact sl_tupA
theorem slL (e : X.K = K := by rfl) : SlR X (rSlL K) := by subst e; exact sl_list
theorem cLen (e : X.K = K := by rfl) : CallR X (.builtin "len") (rLen K) := by subst e; exact c_len
theorem cTup (e : X.K = K := by rfl) : CallR X (.type "tuple") (rTup K) := by subst e; exact c_tup
theorem cLst (e : X.K = K := by rfl) : CallR X (.type "list") (rLst K) := by subst e; exact c_lst
theorem cIsi (e : X.K = K := by rfl) : CallR X (.builtin "isinstance") (rIsi K) := by subst e; exact call_isi
theorem piL {tg l : Expr} {tl : TE} (hl : PE X l tl) (e : X.K = K := by rfl) : PI X tg l (iList K tl) := by subst e; exact pi_list hl
theorem piT {tg l : Expr} {tl : TE} (hl : PE X l tl) (e : X.K = K := by rfl) : PI X tg l (iTup K tl) := by subst e; exact pi_tup hl
theorem ptTru {a : Expr} {ta : TE} (ha : PE X a ta) (e : X.K = K := by rfl) (he : ∀ whole, isTrue a X.env whole = (do let v ← whole; standAt a.pos; holding [v] (truthy v)) := by intro _; rfl) : PT X a (tTru K ta) := by subst e; exact pt_truth ha he
end
section
variable {K : PySem.W.Frag} {ds : List D} {d : D}
theorem rd_ixQt {k : Int} (hk : atI ds k = some d) : RD (rIx K) (.t ds) (.i k) d := fun S H u v dm i j Q q => .inr (.inl (rd_ixT (K := K) hk S H u v dm i j Q q))
theorem rd_ixQl {k : Int} (hk : atI ds k = some d) : RD (rIx K) (.l ds) (.i k) d := fun S H u v dm i j Q q => .inl (rd_ixL (K := K) hk S H u v dm i j Q q)
theorem rd_eqB {a b : Bool} : RD rEq (.b a) (.b b) (.b (a == b)) := fun S H u v _ i j Q q => by
  cases i; cases j
  exact ⟨rfl, by rw [dec_bl]; exact q _ H (Same.refl H) rfl⟩
theorem rd_neB {a b : Bool} : RD rNe (.b a) (.b b) (.b (!(a == b))) := fun S H u v _ i j Q q => by
  cases i; cases j
  exact ⟨rfl, by rw [dec_bl]; exact q _ H (Same.refl H) rfl⟩
theorem rd_eqN : RD rEq .n .n (.b true) := fun S H u v _ i j Q q => by
  cases i; cases j
  exact ⟨rfl, q _ H (Same.refl H) rfl⟩
def isNon : D → Bool
  | .n => true
  | _ => false
def rIsN1 : R2 := fun x y H Q => y = .non ∧ Q (.bl (decide (x = .non))) H
theorem op_isNn {X : Cx} : OpR X (compareOp .Is) rIsN1 := op_isN
theorem rd_isN : RD rIsN1 d .n (.b (isNon d)) := fun S H u v _ i j Q q => by
  cases j
  have e : decide (u = .non) = isNon d := by
    cases d with
    | n => cases i; rfl
    | s x => cases i; rfl
    | i x => cases i; rfl
    | b x => cases i; rfl
    | t x => obtain ⟨a, vs, rfl, _⟩ := i; rfl
    | l x => obtain ⟨a, vs, rfl, _⟩ := i; rfl
  exact ⟨rfl, by rw [e]; exact q _ H (Same.refl H) rfl⟩
end
/-! ### the facts of a def -/
structure DefF (K : PySem.W.Frag) (mg : Str → Option Value) (x : Str) (st : Stmt) (ps : List Str) : Prop where
  ex : ∃ (f : Addr) (fd : FuncData), L2.Fun K x x st f fd ∧ mg x = some (.ref f) ∧ Binds K fd ps []
section
variable {P : Program} {w : World} {K : PySem.W.Frag} {mg : Str → Option Value} {base : Heap} {x : Str} {st : Stmt} {N ps : List Str} {k : Nat}
theorem DefF.cal {sp : Sp} (F : DefF K mg x st ps) (h : ∀ f fd, L2.Fun K x x st f fd → FnOk P w K mg base CX0 k f fd ps sp) : C8.Cal P w K mg base k x sp [] := by
  obtain ⟨f, fd, hf, hm, hb⟩ := F.ex
  exact ⟨f, fd, ps, [], h f fd hf, hm, hf.kp, hb, .nil⟩
theorem DefF.R {R : List D → D → Prop} (F : DefF K mg x st ps) (S : FnScope N ps (defScope st)) (hN : ps.length ≤ N.length) (len : ∀ ds d, R ds d → ds.length = ps.length)
    (hbody : ∀ (f : Addr) (cdv : Value) (A : Around) (outer : List Env) (s : Shared) (H : Hp) (E : XK), Room k (A.deeper (PyProof.Rows.envOfC x (defScope st) s.heap.objs.size f cdv)) →
      ∃ t, PSs (cxOf CX0 P w K mg base N x (defScope st) f cdv A outer s H E).nox (defBody st) t ∧ ∀ ds d, R ds d → SD W0 t (ds.map Sl.d ++ List.replicate (N.length - ds.length) .no) ⟨fun _ => d = .n, fun d' => d' = d, fun xs => d = .l xs, fun _ => False, fun _ => False⟩) :
    C8.Cal P w K mg base (k + 1) x (spR R) [] := F.cal fun f fd hf => fn_R hf S hN len (hbody f)
theorem DefF.L {R : List D → List D → Prop} (F : DefF K mg x st ps) (S : FnScope N ps (defScope st)) (hN : ps.length ≤ N.length) (len : ∀ ds d, R ds d → ds.length = ps.length)
    (hbody : ∀ (f : Addr) (cdv : Value) (A : Around) (outer : List Env) (s : Shared) (H : Hp) (E : XK), Room k (A.deeper (PyProof.Rows.envOfC x (defScope st) s.heap.objs.size f cdv)) →
      ∃ t, PSs (cxOf CX0 P w K mg base N x (defScope st) f cdv A outer s H E).nox (defBody st) t ∧ ∀ ds xs, R ds xs → SD W0 t (ds.map Sl.d ++ List.replicate (N.length - ds.length) .no) ⟨fun _ => False, fun _ => False, fun xs' => xs' = xs, fun _ => False, fun _ => False⟩) :
    C8.Cal P w K mg base (k + 1) x (spL R) [] := F.cal fun f fd hf => fn_L hf S hN len (hbody f)
end
end Nz
/-! Terms: heads and parts. -/
namespace Nz
open PySem L2
inductive Hd where
  | var (x : Str) | num (n : Int) | mk (c : Str) (xs : List Str) | hole | fn (x : Str) | call (x : Str) | lets (xs : List Str) | case (rs : List (Str × List Str)) | op (w : Str)
inductive Tm where
  | nd (h : Hd) (ks : List Tm)
def tS (xs : List Str) : D := .t (xs.map D.s)
def rowD (p : (Str × List Str) × D) : D := .t [.s p.1.1, tS p.1.2, p.2]
def pairD (p : Str × D) : D := .t [.s p.1, p.2]
def encH : Hd → List D → D
  | .var x, _ => .t [.s "var", .s x]
  | .num n, _ => .t [.s "number", .i n]
  | .mk c xs, _ => .t [.s "make", .s c, tS xs]
  | .hole, _ => .t [.s "hole"]
  | .fn x, ks => .t [.s "fun", .s x, ks.getD 0 .n]
  | .call x, ks => .t [.s "call", ks.getD 0 .n, .s x]
  | .lets xs, ks => .t [.s "let", .t ((xs.zip ks).map pairD), ks.getD xs.length .n]
  | .case rs, ks => .t [.s "case", ks.getD 0 .n, .t ((rs.zip ks.tail).map rowD)]
  | .op w, ks => .t (.s w :: ks)
mutual
def enc : Tm → D
  | .nd h ks => encH h (encs ks)
def encs : List Tm → List D
  | [] => []
  | k :: r => enc k :: encs r
end
theorem encs_map : ∀ ks : List Tm, encs ks = ks.map enc
  | [] => rfl
  | k :: r => by
    show enc k :: encs r = enc k :: r.map enc
    rw [encs_map r]
def arities : List (Str × Nat) := [("ifzero", 3), ("tick", 1), ("waste", 1), ("+", 2), ("-", 2), ("*", 2), ("/", 2), ("<", 2), ("=", 2)]
def okH : Hd → Nat → Prop
  | .var _, n => n = 0
  | .num _, n => n = 0
  | .mk _ xs, n => n = 0 ∧ xs.length ≤ 4
  | .hole, n => n = 0
  | .fn _, n => n = 1
  | .call _, n => n = 1
  | .lets xs, n => n = xs.length + 1 ∧ xs.length ≤ 4
  | .case rs, n => n = rs.length + 1 ∧ rs.length ≤ 4 ∧ ∀ r ∈ rs, r.2.length ≤ 4
  | .op w, n => (w, n) ∈ arities
mutual
def Wf : Tm → Prop
  | .nd h ks => okH h ks.length ∧ Wfs ks
def Wfs : List Tm → Prop
  | [] => True
  | k :: r => Wf k ∧ Wfs r
end
theorem wfs_all : ∀ {ks : List Tm}, Wfs ks ↔ ∀ k ∈ ks, Wf k
  | [] => ⟨fun _ => (fun x hx => nomatch hx), fun _ => trivial⟩
  | k :: r => by
    have ih := wfs_all (ks := r)
    refine ⟨fun h x hx => ?_, fun h => ⟨h k (List.mem_cons_self ..), ih.mpr fun x hx => h x (List.mem_cons_of_mem _ hx)⟩⟩
    rcases List.mem_cons.mp hx with rfl | hx
    · exact h.1
    · exact ih.mp h.2 x hx
/-- the names that each part gets -/
def binds : Hd → Nat → List (List Str)
  | .fn x, _ => [[x]]
  | .lets xs, n => List.replicate n xs
  | .case rs, _ => [] :: rs.map (·.2)
  | _, n => List.replicate n []
def kids : Tm → List Tm
  | .nd _ ks => ks
def prs : Tm → List (Tm × List Str)
  | .nd h ks => ks.zip (binds h ks.length)
def prD (p : Tm × List Str) : D := .t [enc p.1, tS p.2]
def uses : Tm → List Str
  | .nd (.var x) _ => [x]
  | .nd (.call x) _ => [x]
  | .nd (.mk _ xs) _ => xs
  | _ => []
theorem zip_rep {α β : Type} (b : β) : ∀ ks : List α, ks.zip (List.replicate ks.length b) = ks.map fun k => (k, b)
  | [] => rfl
  | k :: r => by
    show (k, b) :: r.zip (List.replicate r.length b) = _
    rw [zip_rep b r]
    rfl
theorem one_of {α : Type} : ∀ {ks : List α}, ks.length = 1 → ∃ k, ks = [k]
  | [k], _ => ⟨k, rfl⟩
/-- the last of n + 1 -/
theorem last_of {α : Type} {n : Nat} : ∀ {ks : List α}, ks.length = n + 1 → ∃ ms m, ks = ms ++ [m] ∧ ms.length = n := fun {ks} h => by
  rcases List.eq_nil_or_concat ks with rfl | ⟨ms, m, rfl⟩
  · cases h
  · refine ⟨ms, m, by simp, ?_⟩
    simpa using h
theorem cons_of {α : Type} {n : Nat} : ∀ {ks : List α}, ks.length = n + 1 → ∃ k r, ks = k :: r ∧ r.length = n
  | k :: r, h => ⟨k, r, rfl, by simpa using h⟩
theorem zip_app1 {α β : Type} : ∀ {xs : List α} {ms : List β} {m : β}, ms.length = xs.length → xs.zip (ms ++ [m]) = xs.zip ms
  | [], [], _, _ => rfl
  | x :: xs, k :: ms, m, h => by
    show (x, k) :: xs.zip (ms ++ [m]) = (x, k) :: xs.zip ms
    rw [zip_app1 (by simpa using h)]
theorem getD_last {α : Type} {d m : α} : ∀ {ms : List α}, (ms ++ [m]).getD ms.length d = m
  | [] => rfl
  | _ :: r => getD_last (ms := r)
theorem enc_lets {xs : List Str} {ms : List Tm} {m : Tm} (h : ms.length = xs.length) : enc (.nd (.lets xs) (ms ++ [m])) = .t [.s "let", .t ((xs.zip ms).map fun p => .t [.s p.1, enc p.2]), enc m] := by
  show encH (.lets xs) (encs (ms ++ [m])) = _
  rw [encs_map, List.map_append]
  show D.t [_, .t ((xs.zip (ms.map enc ++ [enc m])).map pairD), (ms.map enc ++ [enc m]).getD xs.length .n] = _
  have e1 : (ms.map enc ++ [enc m]).getD xs.length .n = enc m := by
    rw [← h, show ms.length = (ms.map enc).length by rw [List.length_map]]
    exact getD_last
  rw [zip_app1 (by rw [List.length_map]; exact h), e1]
  have e : (xs.zip (ms.map enc)).map pairD = (xs.zip ms).map fun p => .t [.s p.1, enc p.2] := by
    rw [List.zip_map_right, List.map_map]
    rfl
  rw [e]
theorem enc_case {rs : List (Str × List Str)} {m : Tm} {ms : List Tm} : enc (.nd (.case rs) (m :: ms)) = .t [.s "case", enc m, .t ((rs.zip ms).map fun p => .t [.s p.1.1, tS p.1.2, enc p.2])] := by
  show encH (.case rs) (encs (m :: ms)) = _
  rw [encs_map]
  show D.t [_, enc m, .t ((rs.zip (ms.map enc)).map rowD)] = _
  have e : (rs.zip (ms.map enc)).map rowD = (rs.zip ms).map fun p => .t [.s p.1.1, tS p.1.2, enc p.2] := by
    rw [List.zip_map_right, List.map_map]
    rfl
  rw [e]
theorem enc_op {w : Str} {ks : List Tm} : enc (.nd (.op w) ks) = .t (.s w :: ks.map enc) := by
  show encH (.op w) (encs ks) = _
  rw [encs_map]
  rfl
theorem prs_lets {xs : List Str} {ms : List Tm} {m : Tm} : prs (.nd (.lets xs) (ms ++ [m])) = (ms.map fun k => (k, xs)) ++ [(m, xs)] := by
  show (ms ++ [m]).zip (List.replicate (ms ++ [m]).length xs) = _
  rw [zip_rep, List.map_append]
  rfl
theorem zip_snd {α β γ : Type} {f : α → γ} : ∀ {rs : List α} {ms : List β}, ms.length = rs.length → ms.zip (rs.map f) = (rs.zip ms).map fun p => (p.2, f p.1)
  | [], [], _ => rfl
  | r :: rs, m :: ms, h => by
    show (m, f r) :: ms.zip (rs.map f) = (m, f r) :: (rs.zip ms).map fun p => (p.2, f p.1)
    rw [zip_snd (by simpa using h)]
theorem prs_case {rs : List (Str × List Str)} {m : Tm} {ms : List Tm} (h : ms.length = rs.length) : prs (.nd (.case rs) (m :: ms)) = (m, []) :: (rs.zip ms).map fun p => (p.2, p.1.2) := by
  show (m, ([] : List Str)) :: ms.zip (rs.map (·.2)) = _
  rw [zip_snd h]
theorem prs_op {w : Str} {ks : List Tm} : prs (.nd (.op w) ks) = ks.map fun k => (k, []) := zip_rep [] ks
theorem map_zip_snd {α β γ : Type} {f : β → γ} : ∀ {xs : List α} {ms : List β}, ms.length = xs.length → (xs.zip ms).map (fun p => f p.2) = ms.map f
  | [], [], _ => rfl
  | x :: xs, m :: ms, h => by
    show f m :: (xs.zip ms).map (fun p => f p.2) = f m :: ms.map f
    rw [map_zip_snd (by simpa using h)]
theorem map_zip_fst {α β γ : Type} {f : α → γ} : ∀ {xs : List α} {ms : List β}, ms.length = xs.length → (xs.zip ms).map (fun p => f p.1) = xs.map f
  | [], [], _ => rfl
  | x :: xs, m :: ms, h => by
    show f x :: (xs.zip ms).map (fun p => f p.1) = f x :: xs.map f
    rw [map_zip_fst (by simpa using h)]
/-- a list written out of at most n items -/
def shortL : List D → Nat → Bool
  | [], _ => true
  | _ :: r, n + 1 => shortL r n
  | _ :: _, 0 => false
theorem shortL_le : ∀ {xs : List D} {n : Nat}, shortL xs n = true → xs.length ≤ n
  | [], _, _ => Nat.zero_le _
  | _ :: r, n + 1, h => Nat.succ_le_succ (shortL_le (xs := r) h)
theorem short_size {xs : List D} (h : shortL xs 40 = true) : xs.length ≤ sizeLine := Nat.le_trans (shortL_le h) (by decide)
/-! ### tests in short -/
section
variable {W : Wd} {es : Es} {tc : TT} {t u w : TS} {P : Po} {b : Bool}
theorem sq_ifT (h : ET tc es b) (hb : b = true) (k : SD W (tSeq t u) es P) : SD W (tSeq (tIfS tc t tNext) u) es P := by
  subst hb
  exact sq_if h (fun _ => k) (fun z => by cases z)
theorem sq_ifF (h : ET tc es b) (hb : b = false) (k : SD W u es P) : SD W (tSeq (tIfS tc t tNext) u) es P := by
  subst hb
  exact sq_if h (fun z => by cases z) (fun _ => k)
theorem rd_eqSb {a b : Str} {c : Bool} (e : decide (a = b) = c) : RD rEq (.s a) (.s b) (.b c) := by
  subst e
  exact rd_eqS
theorem rd_neSb {a b : Str} {c : Bool} (e : (!decide (a = b)) = c) : RD rNe (.s a) (.s b) (.b c) := by
  subst e
  exact rd_neS
theorem rd_eqIb {a b : Int} {c : Bool} (e : decide (a = b) = c) : RD rEq (.i a) (.i b) (.b c) := by
  subst e
  exact rd_eqI
theorem rd_neIb {a b : Int} {c : Bool} (e : (!decide (a = b)) = c) : RD rNe (.i a) (.i b) (.b c) := by
  subst e
  exact rd_neI
/-- a value that is told otherwise -/
theorem sd_retE {te : TE} {d d' : D} (h : ED te es d) (e : d = d') (k : P.rt d') : SD W (tRet te) es P := by
  subst e
  exact sd_ret h k
theorem rd_inTc {K : PySem.W.Frag} {neg b : Bool} {x : D} {ds : List D} (fx : flD x = true) (fs : ds.all flD = true) (e : (if neg then !inD x ds else inD x ds) = b) : RD (rIn K neg) x (.t ds) (.b b) := by
  subst e
  exact rd_inT fx fs
theorem op_cases {w : Str} {ks : List Tm} (h : (w, ks.length) ∈ arities) : (w = "ifzero" ∧ ∃ a b c, ks = [a, b, c]) ∨ (w = "tick" ∧ ∃ a, ks = [a]) ∨ (w = "waste" ∧ ∃ a, ks = [a]) ∨ (w = "+" ∧ ∃ a b, ks = [a, b]) ∨
    (w = "-" ∧ ∃ a b, ks = [a, b]) ∨ (w = "*" ∧ ∃ a b, ks = [a, b]) ∨ (w = "/" ∧ ∃ a b, ks = [a, b]) ∨ (w = "<" ∧ ∃ a b, ks = [a, b]) ∨ (w = "=" ∧ ∃ a b, ks = [a, b]) := by
  have h1 : ks.length = 1 → ∃ a, ks = [a] := one_of
  have h2 : ks.length = 2 → ∃ a b, ks = [a, b] := fun e => match ks, e with | [a, b], _ => ⟨a, b, rfl⟩
  have h3 : ks.length = 3 → ∃ a b c, ks = [a, b, c] := fun e => match ks, e with | [a, b, c], _ => ⟨a, b, c, rfl⟩
  simp only [arities, List.mem_cons, List.not_mem_nil, or_false, Prod.mk.injEq] at h
  rcases h with ⟨e, l⟩ | ⟨e, l⟩ | ⟨e, l⟩ | ⟨e, l⟩ | ⟨e, l⟩ | ⟨e, l⟩ | ⟨e, l⟩ | ⟨e, l⟩ | ⟨e, l⟩
  · exact .inl ⟨e, h3 l⟩
  · exact .inr (.inl ⟨e, h1 l⟩)
  · exact .inr (.inr (.inl ⟨e, h1 l⟩))
  · exact .inr (.inr (.inr (.inl ⟨e, h2 l⟩)))
  · exact .inr (.inr (.inr (.inr (.inl ⟨e, h2 l⟩))))
  · exact .inr (.inr (.inr (.inr (.inr (.inl ⟨e, h2 l⟩)))))
  · exact .inr (.inr (.inr (.inr (.inr (.inr (.inl ⟨e, h2 l⟩))))))
  · exact .inr (.inr (.inr (.inr (.inr (.inr (.inr (.inl ⟨e, h2 l⟩)))))))
  · exact .inr (.inr (.inr (.inr (.inr (.inr (.inr (.inr ⟨e, h2 l⟩)))))))
section
variable {K : PySem.W.Frag} {x y z : D} {r : List D}
theorem rd_ixT0 : RD (rIxT K) (.t (x :: r)) (.i 0) x := rd_ixT (atI_nat (j := 0) rfl)
theorem rd_ixT1 : RD (rIxT K) (.t (x :: y :: r)) (.i 1) y := rd_ixT (atI_nat (j := 1) rfl)
theorem rd_ixT2 : RD (rIxT K) (.t (x :: y :: z :: r)) (.i 2) z := rd_ixT (atI_nat (j := 2) rfl)
end
end
end Nz
/-! The mathematics of uses: where names are used, what is bound there, what captures. -/
namespace Nz
open PySem L2
def keepU (k : Nat) (b : List Str) (us : List (List Nat × Str)) : List (List Nat × Str) := (us.filter fun p => decide (p.2 ∉ b)).map fun p => (k :: p.1, p.2)
mutual
def usesP : Tm → List (List Nat × Str)
  | .nd h ks => (uses (.nd h ks)).map (fun x => ([], x)) ++ usesPs 0 ks (binds h ks.length)
def usesPs : Nat → List Tm → List (List Str) → List (List Nat × Str)
  | _, [], _ => []
  | k, t :: r, bs => keepU k (bs.headD []) (usesP t) ++ usesPs (k + 1) r bs.tail
end
mutual
def sz : Tm → Nat
  | .nd _ ks => szs ks + 1
def szs : List Tm → Nat
  | [] => 0
  | k :: r => sz k + szs r
end
theorem usesPs_snoc (t : Tm) : ∀ (l : List Tm) (j : Nat) (bs : List (List Str)), usesPs j (l ++ [t]) bs = usesPs j l bs ++ keepU (j + l.length) (bs.getD l.length []) (usesP t)
  | [], j, bs => by
    show keepU j (bs.headD []) (usesP t) ++ [] = [] ++ keepU (j + 0) (bs.getD 0 []) (usesP t)
    rw [List.append_nil, List.nil_append]
    cases bs <;> rfl
  | k :: l, j, bs => by
    show keepU j (bs.headD []) (usesP k) ++ usesPs (j + 1) (l ++ [t]) bs.tail = (keepU j (bs.headD []) (usesP k) ++ usesPs (j + 1) l bs.tail) ++ keepU (j + (l.length + 1)) (bs.getD (l.length + 1) []) (usesP t)
    rw [usesPs_snoc t l (j + 1) bs.tail, List.append_assoc]
    have e1 : j + 1 + l.length = j + (l.length + 1) := by omega
    have e2 : bs.tail.getD l.length [] = bs.getD (l.length + 1) [] := by cases bs <;> rfl
    rw [e1, e2]
theorem binds_len {h : Hd} {n : Nat} (ok : okH h n) : (binds h n).length = n := by
  cases h with
  | fn x => cases ok; rfl
  | case rs => rw [ok.1]; simp [binds]
  | _ => simp [binds]
/-- what is found behind i of the parts -/
def accU : Tm → Nat → List (List Nat × Str)
  | .nd h ks, i => (uses (.nd h ks)).map (fun x => ([], x)) ++ usesPs 0 (ks.take i) (binds h ks.length)
theorem accU_zero (t : Tm) : accU t 0 = (uses t).map fun x => ([], x) := by
  cases t
  show _ ++ [] = _
  rw [List.append_nil]
theorem accU_all {h : Hd} {ks : List Tm} : accU (.nd h ks) ks.length = usesP (.nd h ks) := by
  show _ ++ usesPs 0 (ks.take ks.length) _ = _
  rw [List.take_length]
  rfl
theorem accU_step {t u : Tm} {b : List Str} {i : Nat} (e : (prs t)[i]? = some (u, b)) : accU t (i + 1) = accU t i ++ keepU i b (usesP u) := by
  cases t with
  | nd h ks =>
    have e' : (ks.zip (binds h ks.length))[i]? = some (u, b) := e
    rw [List.getElem?_zip_eq_some] at e'
    obtain ⟨e1, e2⟩ := e'
    have hl : i < ks.length := (List.getElem?_eq_some_iff.mp e1).1
    show _ ++ usesPs 0 (ks.take (i + 1)) _ = (_ ++ usesPs 0 (ks.take i) _) ++ _
    have tk : ks.take (i + 1) = ks.take i ++ [u] := by rw [List.take_succ, e1]; rfl
    have tl : (ks.take i).length = i := by rw [List.length_take]; omega
    rw [tk, usesPs_snoc, tl, List.append_assoc, Nat.zero_add]
    have : (binds h ks.length).getD i [] = b := by rw [List.getD_eq_getElem?_getD, e2]; rfl
    rw [this]
theorem prs_len {h : Hd} {ks : List Tm} (ok : okH h ks.length) : (prs (.nd h ks)).length = ks.length := by
  show (ks.zip (binds h ks.length)).length = _
  rw [List.length_zip, binds_len ok, Nat.min_self]
/-- an item of the uses of the parts -/
theorem mem_usesPs {p : List Nat × Str} : ∀ {ks : List Tm} {bs : List (List Str)} {j : Nat}, bs.length = ks.length → (p ∈ usesPs j ks bs ↔ ∃ i u b, (ks.zip bs)[i]? = some (u, b) ∧ p ∈ keepU (j + i) b (usesP u))
  | [], [], j, _ => ⟨fun h => (by cases h), fun ⟨i, u, b, h, _⟩ => by simp at h⟩
  | k :: ks, b :: bs, j, hl => by
    have ih := mem_usesPs (p := p) (ks := ks) (bs := bs) (j := j + 1) (by simpa using hl)
    show p ∈ keepU j b (usesP k) ++ usesPs (j + 1) ks bs ↔ _
    rw [List.mem_append, ih]
    constructor
    · rintro (h | ⟨i, u, c, h1, h2⟩)
      · exact ⟨0, k, b, rfl, h⟩
      · exact ⟨i + 1, u, c, h1, by rw [show j + (i + 1) = j + 1 + i by omega]; exact h2⟩
    · rintro ⟨i, u, c, h1, h2⟩
      cases i with
      | zero =>
        cases h1
        exact .inl h2
      | succ i =>
        exact .inr ⟨i, u, c, h1, by rw [show j + 1 + i = j + (i + 1) by omega]; exact h2⟩
theorem mem_usesP {h : Hd} {ks : List Tm} {p : List Nat × Str} (ok : okH h ks.length) : p ∈ usesP (.nd h ks) ↔ (p.1 = [] ∧ p.2 ∈ uses (.nd h ks)) ∨ ∃ i u b q, (prs (.nd h ks))[i]? = some (u, b) ∧ q ∈ usesP u ∧ q.2 ∉ b ∧ p = (i :: q.1, q.2) := by
  show p ∈ _ ++ usesPs 0 ks (binds h ks.length) ↔ _
  rw [List.mem_append, mem_usesPs (binds_len ok)]
  constructor
  · rintro (h | ⟨i, u, b, h1, h2⟩)
    · obtain ⟨x, hx, rfl⟩ := List.mem_map.mp h
      exact .inl ⟨rfl, hx⟩
    · unfold keepU at h2
      obtain ⟨q, hq, rfl⟩ := List.mem_map.mp h2
      obtain ⟨q1, q2⟩ := List.mem_filter.mp hq
      exact .inr ⟨i, u, b, q, h1, q1, of_decide_eq_true q2, by rw [Nat.zero_add]⟩
  · rintro (⟨h1, h2⟩ | ⟨i, u, b, q, h1, h2, h3, rfl⟩)
    · exact .inl (List.mem_map.mpr ⟨p.2, h2, by rw [← h1]⟩)
    · refine .inr ⟨i, u, b, h1, ?_⟩
      unfold keepU
      exact List.mem_map.mpr ⟨q, List.mem_filter.mpr ⟨h2, decide_eq_true h3⟩, by rw [Nat.zero_add]⟩
/-- x is free in t -/
def fvm (t : Tm) (x : Str) : Prop := ∃ p ∈ usesP t, p.2 = x
theorem fvm_nd {h : Hd} {ks : List Tm} {x : Str} (ok : okH h ks.length) : fvm (.nd h ks) x ↔ x ∈ uses (.nd h ks) ∨ ∃ q ∈ prs (.nd h ks), fvm q.1 x ∧ x ∉ q.2 := by
  constructor
  · rintro ⟨p, hp, rfl⟩
    rcases (mem_usesP ok).mp hp with ⟨_, h⟩ | ⟨i, u, b, q, h1, h2, h3, rfl⟩
    · exact .inl h
    · exact .inr ⟨(u, b), List.mem_of_getElem? h1, ⟨q, h2, rfl⟩, h3⟩
  · rintro (h | ⟨⟨u, b⟩, hq, ⟨q, h2, rfl⟩, h3⟩)
    · exact ⟨([], x), (mem_usesP ok).mpr (.inl ⟨rfl, h⟩), rfl⟩
    · obtain ⟨i, hi⟩ := List.mem_iff_getElem?.mp hq
      exact ⟨(i :: q.1, q.2), (mem_usesP ok).mpr (.inr ⟨i, u, b, q, hi, h2, h3, rfl⟩), rfl⟩
/-! ### what is bound at a place -/
def stepB (s : Tm × List Str) (k : Nat) : Option (Tm × List Str) := ((prs s.1)[k]?).map fun p => (p.1, s.2 ++ p.2)
def bnd (t : Tm) (path : List Nat) : Option (Tm × List Str) := path.foldlM stepB (t, [])
theorem foldB : ∀ (r : List Nat) (u : Tm) (b : List Str), r.foldlM stepB (u, b) = (r.foldlM stepB (u, [])).map fun p => (p.1, b ++ p.2)
  | [], u, b => by
    show some (u, b) = some (u, b ++ [])
    rw [List.append_nil]
  | k :: r, u, b => by
    rw [List.foldlM_cons, List.foldlM_cons]
    unfold stepB
    cases e : (prs u)[k]? with
    | none => rfl
    | some p =>
      show r.foldlM stepB (p.1, b ++ p.2) = Option.map _ (r.foldlM stepB (p.1, [] ++ p.2))
      rw [foldB r p.1 (b ++ p.2), foldB r p.1 ([] ++ p.2), Option.map_map]
      congr 1
      funext q
      show (q.1, b ++ p.2 ++ q.2) = (q.1, b ++ ([] ++ p.2 ++ q.2))
      rw [List.nil_append, List.append_assoc]
theorem bnd_cons {t u : Tm} {b : List Str} {k : Nat} {r : List Nat} (e : (prs t)[k]? = some (u, b)) : bnd t (k :: r) = (bnd u r).map fun p => (p.1, b ++ p.2) := by
  unfold bnd
  rw [List.foldlM_cons]
  unfold stepB
  rw [e]
  show r.foldlM stepB (u, [] ++ b) = _
  rw [foldB r u ([] ++ b)]
  rfl
theorem bnd_snoc {t : Tm} {path : List Nat} {k : Nat} : bnd t (path ++ [k]) = (bnd t path).bind fun s => stepB s k := by
  unfold bnd
  rw [List.foldlM_append]
  show (List.foldlM stepB (t, []) path >>= fun s => List.foldlM stepB s [k]) = _
  cases path.foldlM stepB (t, []) with
  | none => rfl
  | some s =>
    show List.foldlM stepB s [k] = stepB s k
    rw [List.foldlM_cons]
    cases stepB s k <;> rfl
theorem prs_mem {h : Hd} {ks : List Tm} {q : Tm × List Str} (m : q ∈ prs (.nd h ks)) : q.1 ∈ ks := (List.of_mem_zip (show (q.1, q.2) ∈ ks.zip _ from m)).1
theorem prs_wf {t : Tm} (w : Wf t) {q : Tm × List Str} (m : q ∈ prs t) : Wf q.1 := by
  cases t with
  | nd h ks => exact wfs_all.mp w.2 _ (prs_mem m)
/-- at each use something is bound: the place is one -/
theorem use_bnd : ∀ (path : List Nat) (t : Tm) (x : Str), Wf t → (path, x) ∈ usesP t → ∃ u b, bnd t path = some (u, b)
  | [], t, _, _, _ => ⟨t, [], rfl⟩
  | k :: r, .nd h ks, x, w, m => by
    rcases (mem_usesP w.1).mp m with ⟨e, _⟩ | ⟨i, u, b, q, h1, h2, h3, e⟩
    · cases e
    · have e1 : k = i := (List.cons.inj (Prod.mk.inj e).1).1
      have e2 : r = q.1 := (List.cons.inj (Prod.mk.inj e).1).2
      have e3 : x = q.2 := (Prod.mk.inj e).2
      have h2' : (r, x) ∈ usesP u := by rw [e2, e3]; exact h2
      obtain ⟨v, c, hv⟩ := use_bnd r u x (prs_wf (t := .nd h ks) w (List.mem_of_getElem? h1)) h2'
      exact ⟨v, b ++ c, by rw [e1, bnd_cons h1, hv]; rfl⟩
def inB (t : Tm) (path : List Nat) (y : Str) : Bool := match bnd t path with
  | some (_, b) => decide (y ∈ b)
  | none => false
def capB (t : Tm) (x y : Str) (o : Bool) : Bool := (usesP t).any fun p => decide (p.2 = x) && (o || inB t p.1 y)
theorem inB_cons {t u : Tm} {b : List Str} {k : Nat} {r : List Nat} {y : Str} (e : (prs t)[k]? = some (u, b)) (h : ∃ v c, bnd u r = some (v, c)) : inB t (k :: r) y = (decide (y ∈ b) || inB u r y) := by
  obtain ⟨v, c, hv⟩ := h
  unfold inB
  rw [bnd_cons e, hv]
  show decide (y ∈ b ++ c) = (decide (y ∈ b) || decide (y ∈ c))
  rw [Bool.eq_iff_iff]
  simp
theorem capB_nd {h : Hd} {ks : List Tm} {x y : Str} {o : Bool} (w : Wf (.nd h ks)) : capB (.nd h ks) x y o = ((o && decide (x ∈ uses (.nd h ks))) || (prs (.nd h ks)).any fun q => decide (x ∉ q.2) && capB q.1 x y (o || decide (y ∈ q.2))) := by
  rw [Bool.eq_iff_iff]
  unfold capB
  rw [List.any_eq_true, Bool.or_eq_true, List.any_eq_true]
  constructor
  · rintro ⟨p, hp, hc⟩
    rw [Bool.and_eq_true] at hc
    have hx := of_decide_eq_true hc.1
    rcases (mem_usesP w.1).mp hp with ⟨e, m⟩ | ⟨i, u, b, q, h1, h2, h3, rfl⟩
    · left
      rw [Bool.and_eq_true]
      refine ⟨?_, decide_eq_true (by rw [← hx]; exact m)⟩
      have h2 := hc.2
      rw [e] at h2
      have e3 : inB (.nd h ks) [] y = false := rfl
      rw [e3, Bool.or_false] at h2
      exact h2
    · right
      refine ⟨(u, b), List.mem_of_getElem? h1, ?_⟩
      have hb := use_bnd q.1 u q.2 (prs_wf w (List.mem_of_getElem? h1)) h2
      rw [Bool.and_eq_true]
      refine ⟨decide_eq_true (by rw [← hx]; exact h3), ?_⟩
      rw [List.any_eq_true]
      refine ⟨q, h2, ?_⟩
      rw [Bool.and_eq_true]
      refine ⟨decide_eq_true hx, ?_⟩
      have h4 := hc.2
      rw [inB_cons h1 hb, ← Bool.or_assoc] at h4
      exact h4
  · rintro (h1 | ⟨⟨u, b⟩, hq, hc⟩)
    · rw [Bool.and_eq_true] at h1
      refine ⟨([], x), (mem_usesP w.1).mpr (.inl ⟨rfl, of_decide_eq_true h1.2⟩), ?_⟩
      rw [h1.1]
      simp
    · rw [Bool.and_eq_true, List.any_eq_true] at hc
      obtain ⟨h3, q, h2, h4⟩ := hc
      obtain ⟨i, hi⟩ := List.mem_iff_getElem?.mp hq
      rw [Bool.and_eq_true] at h4
      have hx := of_decide_eq_true h4.1
      have hb := use_bnd q.1 u q.2 (prs_wf w hq) h2
      refine ⟨(i :: q.1, q.2), (mem_usesP w.1).mpr (.inr ⟨i, u, b, q, hi, h2, by rw [hx]; exact of_decide_eq_true h3, rfl⟩), ?_⟩
      rw [Bool.and_eq_true]
      refine ⟨h4.1, ?_⟩
      rw [inB_cons hi hb, ← Bool.or_assoc]
      exact h4.2
/-! ### sizes -/
theorem sz_mem : ∀ {ks : List Tm} {k : Tm}, k ∈ ks → sz k ≤ szs ks
  | a :: r, k, m => by
    show sz k ≤ sz a + szs r
    rcases List.mem_cons.mp m with rfl | m
    · omega
    · have := sz_mem m
      omega
theorem uses_len {t : Tm} (w : Wf t) : (uses t).length ≤ 4 := by
  cases t with
  | nd h ks =>
    cases h with
    | mk c xs => exact w.1.2
    | var x => show 1 ≤ 4; decide
    | call x => show 1 ≤ 4; decide
    | _ => exact Nat.zero_le _
mutual
theorem usesP_len : ∀ {t : Tm}, Wf t → (usesP t).length ≤ 4 * sz t
  | .nd h ks, w => by
    show (_ ++ usesPs 0 ks (binds h ks.length)).length ≤ 4 * (szs ks + 1)
    rw [List.length_append, List.length_map]
    have h1 := uses_len w
    have h2 := usesPs_len (ks := ks) (j := 0) (bs := binds h ks.length) w.2
    omega
theorem usesPs_len : ∀ {ks : List Tm} {j : Nat} {bs : List (List Str)}, Wfs ks → (usesPs j ks bs).length ≤ 4 * szs ks
  | [], _, _, _ => Nat.zero_le _
  | k :: r, j, bs, w => by
    show (keepU j (bs.headD []) (usesP k) ++ usesPs (j + 1) r bs.tail).length ≤ 4 * (sz k + szs r)
    rw [List.length_append]
    have h1 := usesP_len (t := k) w.1
    have h2 := usesPs_len (ks := r) (j := j + 1) (bs := bs.tail) w.2
    have h3 : (keepU j (bs.headD []) (usesP k)).length ≤ (usesP k).length := by
      unfold keepU
      rw [List.length_map]
      exact List.length_filter_le _ _
    omega
end
theorem accU_len {t : Tm} {i : Nat} (w : Wf t) : (accU t i).length ≤ 4 * sz t := by
  cases t with
  | nd h ks =>
    show (_ ++ usesPs 0 (ks.take i) (binds h ks.length)).length ≤ 4 * (szs ks + 1)
    rw [List.length_append, List.length_map]
    have h1 := uses_len w
    have h2 := usesPs_len (ks := ks.take i) (j := 0) (bs := binds h ks.length) (wfs_all.mpr fun k m => wfs_all.mp w.2 k (List.mem_of_mem_take m))
    have h3 : ∀ (l : List Tm) (n : Nat), szs (l.take n) ≤ szs l := fun l => by
      induction l with
      | nil => intro n; simp
      | cons a r ih =>
        intro n
        cases n with
        | zero => exact Nat.zero_le _
        | succ n =>
          show sz a + szs (r.take n) ≤ sz a + szs r
          have := ih n
          omega
    have := h3 ks i
    omega
end Nz
/-! Expressions that change what is volatile: their values are told by a property. -/
namespace Nz
open PySem L2
/-- te is worth some datum of which R is true; meanwhile W's volatile objects may change -/
def XD (W : Wd) (te : TE) (es : Es) (R : D → Prop) : Prop := ∀ (S : Addr → Prop) (A : Nat → Addr) (B H : Hp) (σ : St), En S A B H σ es → WOk W S B H →
  ∀ Q : VK, (∀ v H2 d, R d → Gr W.V H H2 → W.J1 H2 → IsD (Sx S A es) H2 d v → Q v H2) → te σ H Q
def XDs (W : Wd) (ta : TA) (es : Es) (R : List D → Prop) : Prop := ∀ (S : Addr → Prop) (A : Nat → Addr) (B H : Hp) (σ : St), En S A B H σ es → WOk W S B H →
  ∀ Q : List V → Hp → Prop, (∀ vs H2 ds, R ds → Gr W.V H H2 → W.J1 H2 → IsDs (Sx S A es) H2 ds vs → Q vs H2) → ta σ H Q
def XL (W : Wd) (te : TE) (es : Es) (R : List D → Prop) : Prop := ∀ (S : Addr → Prop) (A : Nat → Addr) (B H : Hp) (σ : St), En S A B H σ es → WOk W S B H →
  ∀ Q : VK, (∀ p vs H2 ds, R ds → Gr W.V H H2 → W.J1 H2 → H p = none → H2 p = some (.lst vs) → IsDs (fun a => Sx S A es a ∨ a = p) H2 ds vs → Q (.ref p) H2) → te σ H Q
def XT (W : Wd) (tt : TT) (es : Es) (R : Bool → Prop) : Prop := ∀ (S : Addr → Prop) (A : Nat → Addr) (B H : Hp) (σ : St), En S A B H σ es → WOk W S B H →
  ∀ Q : Bool → Hp → Prop, (∀ b H2, R b → Gr W.V H H2 → W.J1 H2 → Q b H2) → tt σ H Q
section
variable {W : Wd} {K : PySem.W.Frag} {es : Es} {ta tb te : TE} {tas : TA} {tc : TT} {t u : TS} {x y z d : D} {xs ys ds : List D} {P : Po} {r : R2}
theorem WOk.en {S : Addr → Prop} {A : Nat → Addr} {B H H2 : Hp} {σ : St} (w : WOk W S B H) (E : En S A B H σ es) (g : Gr W.V H H2) (j : W.J1 H2) : En S A B H2 σ es := E.gr g w.vol fun a v => W.use H2 a j v
theorem WOk.gx {S : Addr → Prop} {A : Nat → Addr} {B H H2 H3 : Hp} (w : WOk W S B H) (g : Gr W.V H2 H3) : Gr (Sx S A es) H2 H3 := Gr.wide (fun a v => .inl (w.vol a v).1) g
theorem xd_ed (h : ED te es d) : XD W te es (fun z => z = d) := fun S A B H σ E w Q q => h S A B H σ E Q fun v H2 e i => q v H2 d rfl (Gr.of e) (w.same e).j1 i
theorem xd_imp {R R' : D → Prop} (h : XD W te es R) (k : ∀ d, R d → R' d) : XD W te es R' := fun S A B H σ E w Q q => h S A B H σ E w Q fun v H2 d r g j i => q v H2 d (k d r) g j i
theorem xds_imp {R R' : List D → Prop} (h : XDs W tas es R) (k : ∀ d, R d → R' d) : XDs W tas es R' := fun S A B H σ E w Q q => h S A B H σ E w Q fun v H2 d r g j i => q v H2 d (k d r) g j i
theorem xl_imp {R R' : List D → Prop} (h : XL W te es R) (k : ∀ d, R d → R' d) : XL W te es R' := fun S A B H σ E w Q q => h S A B H σ E w Q fun p v H2 d r g j i => q p v H2 d (k d r) g j i
theorem xt_imp {R R' : Bool → Prop} (h : XT W tc es R) (k : ∀ d, R d → R' d) : XT W tc es R' := fun S A B H σ E w Q q => h S A B H σ E w Q fun b H2 r g j => q b H2 (k b r) g j
theorem xl_toD {R : List D → Prop} (h : XL W te es R) : XD W te es (fun z => ∃ ds, z = .l ds ∧ R ds) := fun S A B H σ E w Q q => h S A B H σ E w Q fun p vs H2 ds r g j n a i =>
  q _ H2 _ ⟨ds, rfl, r⟩ g j ⟨p, vs, rfl, E.dmx.not n, a, i.wide fun _ s => .inl s⟩
theorem xt_et {b : Bool} (h : ET tc es b) : XT W tc es (fun z => z = b) := fun S A B H σ E w Q q => h S A B H σ E Q fun H2 e => q b H2 rfl (Gr.of e) (w.same e).j1
theorem xs_nil : XDs W tNil es (fun z => z = []) := fun S A B H σ E w Q q => q [] H [] rfl (Gr.refl _ H) w.j1 rfl
theorem xs_cons {tr : TA} {R : D → Prop} {R2 : D → List D → Prop} (h : XD W te es R) (k : ∀ d, R d → XDs W tr es (R2 d)) : XDs W (tCons te tr) es (fun z => ∃ d ds, z = d :: ds ∧ R d ∧ R2 d ds) := fun S A B H σ E w Q q =>
  h S A B H σ E w _ fun v H2 d r g j i => k d r S A B H2 σ (w.en E g j) (w.at j) _ fun vs H3 ds r3 g3 j3 i3 => q _ H3 _ ⟨d, ds, rfl, r, r3⟩ (g.trans g3) j3 (IsDs.cons (i.mono (w.gx g3)) i3)
theorem xs_eds (h : EDs tas es ds) : XDs W tas es (fun z => z = ds) := fun S A B H σ E w Q q => h S A B H σ E Q fun v H2 e i => q v H2 ds rfl (Gr.of e) (w.same e).j1 i
theorem xd_tup {R : List D → Prop} (h : XDs W tas es R) (hl : ∀ ds, R ds → ds.length ≤ sizeLine) : XD W (tTup tas) es (fun z => ∃ ds, z = .t ds ∧ R ds) := fun S A B H σ E w Q q =>
  h S A B H σ E w _ fun vs H2 ds r g j i => ⟨by rw [i.length]; exact hl ds r, fun p hp => q _ _ _ ⟨ds, rfl, r⟩ (g.trans (Gr.new hp)) ((w.at j).same (Same.new hp)).j1 ⟨p, vs, rfl, (w.en E g j).dmx.not hp, upd_same, i.mono (Gr.new hp)⟩⟩
/-- free ahead of a change of what is volatile -/
theorem WOk.free {S : Addr → Prop} {B H H2 : Hp} {p : Addr} (w : WOk W S B H) (g : Gr W.V H H2) (hp : H2 p = none) (j : W.J1 H2) : H p = none := by
  cases q : H p with
  | none => rfl
  | some o =>
    by_cases c : W.V p
    · exact absurd hp (W.use H2 p j c)
    · rw [g p o c q] at hp
      cases hp
theorem xl_lst {R : List D → Prop} (h : XDs W tas es R) (hl : ∀ ds, R ds → ds.length ≤ sizeLine) : XL W (tLst tas) es R := fun S A B H σ E w Q q =>
  h S A B H σ E w _ fun vs H2 ds r g j i => ⟨by rw [i.length]; exact hl ds r, fun p hp => q p vs _ ds r (g.trans (Gr.new hp)) ((w.at j).same (Same.new hp)).j1 (w.free g hp j) upd_same ((i.more hp).mono (Gr.of (Same.new hp)))⟩
theorem xd_op {R : D → Prop} {R2 : D → D → Prop} {R3 : D → D → D → Prop} (ha : XD W ta es R) (hb : ∀ x, R x → XD W tb es (R2 x)) (hr : ∀ x y, R x → R2 x y → ∃ z, RD r x y z ∧ R3 x y z) : XD W (tOp r ta tb) es (fun z => ∃ x y, R x ∧ R2 x y ∧ R3 x y z) := fun S A B H σ E w Q q =>
  ha S A B H σ E w _ fun u H2 x r1 g2 j2 i => hb x r1 S A B H2 σ (w.en E g2 j2) (w.at j2) _ fun v H3 y r2 g3 j3 k => by
    obtain ⟨z, h3, h4⟩ := hr x y r1 r2
    have E3 := (w.at j2).en (w.en E g2 j2) g3 j3
    exact h3 _ H3 u v E3.dmx (i.mono (w.gx g3)) k Q fun w' H4 e4 m => q w' H4 z ⟨x, y, r1, r2, h4⟩ ((g2.trans g3).trans (Gr.of e4)) ((w.at j3).same e4).j1 m
/-- an operation with a pure value, or of a pure value -/
theorem xd_opL {R : D → Prop} {R3 : D → D → Prop} (ha : XD W ta es R) (hb : ED tb es y) (hr : ∀ x, R x → ∃ z, RD r x y z ∧ R3 x z) : XD W (tOp r ta tb) es (fun z => ∃ x, R x ∧ R3 x z) :=
  xd_imp (xd_op (R2 := fun _ z => z = y) (R3 := fun x _ z => R3 x z) ha (fun _ _ => xd_ed hb) (fun x y' r1 e => by cases e; exact hr x r1)) fun d ⟨x, _, r1, _, r3⟩ => ⟨x, r1, r3⟩
theorem xd_opR {R : D → Prop} {R3 : D → D → Prop} (ha : ED ta es x) (hb : XD W tb es R) (hr : ∀ y, R y → ∃ z, RD r x y z ∧ R3 y z) : XD W (tOp r ta tb) es (fun z => ∃ y, R y ∧ R3 y z) :=
  xd_imp (xd_op (R := fun z => z = x) (R2 := fun _ => R) (R3 := fun _ y z => R3 y z) (xd_ed ha) (fun _ _ => hb) (fun x' y e r2 => by cases e; exact hr y r2)) fun d ⟨_, y, _, r2, r3⟩ => ⟨y, r2, r3⟩
theorem xt_test {R : Bool → Prop} (h : XD W te es (fun z => ∃ b, z = .b b ∧ R b)) : XT W (tTest te) es R := fun S A B H σ E w Q q => h S A B H σ E w _ fun v H2 d ⟨b, e, r⟩ g j i => by
  subst e
  cases i
  exact ⟨b, rfl, q b H2 r g j⟩
theorem xt_B {R : Bool → Prop} (h : XD W te es (fun z => ∃ b, z = .b b ∧ R b)) : XT W (tB te) es R := fun S A B H σ E w Q q => h S A B H σ E w _ fun v H2 d ⟨b, e, r⟩ g j i => by
  subst e
  cases i
  exact ⟨b, rfl, q b H2 r g j⟩
theorem xt_any {R : D → Prop} (h : XD W te es R) (k : ∀ d, R d → ∃ b, d = .b b) : XT W (tTest te) es (fun _ => True) := xt_test (xd_imp h fun d r => by
  obtain ⟨b, e⟩ := k d r
  exact ⟨b, e, trivial⟩)
theorem xt_not {R : Bool → Prop} (h : XT W tc es R) : XT W (tNot tc) es (fun b => R (!b)) := fun S A B H σ E w Q q => h S A B H σ E w _ fun b H2 r g j => q (!b) H2 (by show R (!(!b)); rw [Bool.not_not]; exact r) g j
theorem xt_or {tu : TT} {R1 R2 : Bool → Prop} (h1 : XT W tc es R1) (h2 : R1 false → XT W tu es R2) : XT W (tOr tc tu) es (fun b => (b = true ∧ R1 true) ∨ (R1 false ∧ R2 b)) := fun S A B H σ E w Q q => h1 S A B H σ E w _ fun b H2 r g j => by
  cases b with
  | true => exact q true H2 (.inl ⟨rfl, r⟩) g j
  | false => exact h2 r S A B H2 σ (w.en E g j) (w.at j) Q fun b H3 r3 g3 j3 => q b H3 (.inr ⟨r, r3⟩) (g.trans g3) j3
theorem xt_and {tu : TT} {R1 R2 : Bool → Prop} (h1 : XT W tc es R1) (h2 : R1 true → XT W tu es R2) : XT W (tAnd tc tu) es (fun b => (b = false ∧ R1 false) ∨ (R1 true ∧ R2 b)) := fun S A B H σ E w Q q => h1 S A B H σ E w _ fun b H2 r g j => by
  cases b with
  | true => exact h2 r S A B H2 σ (w.en E g j) (w.at j) Q fun b H3 r3 g3 j3 => q b H3 (.inr ⟨r, r3⟩) (g.trans g3) j3
  | false => exact q false H2 (.inl ⟨rfl, r⟩) g j
/-! ### calls -/
theorem xd_call {R : List D → D → Prop} {Ra : List D → Prop} {E0 : XK} {Rz : D → Prop} (h : XDs W tas es Ra) (hr : ∀ xs, Ra xs → ∃ z, R xs z ∧ Rz z) : XD W (tCall (spR R) [] E0 tas) es Rz := fun S A B H σ E w Q q =>
  h S A B H σ E w _ fun vs H2 xs r g j i => by
    obtain ⟨z, h1, h2⟩ := hr xs r
    exact ⟨_, xs, z, (w.en E g j).dmx, by rw [List.append_nil]; exact i, h1, fun w' H3 e3 k => q w' H3 z h2 (g.trans (Gr.of e3)) ((w.at j).same e3).j1 k⟩
theorem xd_cb {r : List V → Hp → VK → Prop} {Ra : List D → Prop} {Rz : D → Prop} (h : XDs W tas es Ra) (hr : ∀ xs, Ra xs → ∃ z, RC r xs z ∧ Rz z) : XD W (tCB r tas) es Rz := fun S A B H σ E w Q q =>
  h S A B H σ E w _ fun vs H2 xs r g j i => by
    obtain ⟨z, h1, h2⟩ := hr xs r
    exact h1 _ H2 vs (w.en E g j).dmx i Q fun w' H3 e3 k => q w' H3 z h2 (g.trans (Gr.of e3)) ((w.at j).same e3).j1 k
/-- a def that changes what is volatile: its first argument is the raw value v -/
def spX (W : Wd) (v : V) (Pre : List D → Prop) (R : List D → D → Prop) : Sp := fun vs H Q _ => ∃ (S : Addr → Prop) (ds : List D) (us : List V), vs = v :: us ∧ Dm S H ∧ (∀ a, W.V a → S a) ∧ W.J1 H ∧ (∀ B, (∀ a, W.V a → B a = none) → (∀ a o, ¬ W.V a → H a = some o → B a = some o) → W.K0 B) ∧ IsDs S H ds us ∧ Pre ds ∧
  ∀ d w H', R ds d → Gr W.V H H' → W.J1 H' → IsD S H' d w → Q w H'
theorem WOk.k {S : Addr → Prop} {A : Nat → Addr} {B H : Hp} {σ : St} (w : WOk W S B H) (E : En S A B H σ es) : ∀ C, (∀ a, W.V a → C a = none) → (∀ a o, ¬ W.V a → H a = some o → C a = some o) → W.K0 C := fun C _ h => W.up B C w.k0 fun a o e => h a o (fun z => by
  rw [(w.vol a z).2] at e
  cases e) (E.same a o e)
theorem xd_callX {v : V} {i : Nat} {Pre : List D → Prop} {R : List D → D → Prop} {Ra : List D → Prop} {E0 : XK} (hi : es[i]? = some (.r v)) (h : XDs W tas es Ra) (hp : ∀ xs, Ra xs → Pre xs) : XD W (tCall (spX W v Pre R) [] E0 (tCons (tVar i) tas)) es (fun z => ∃ xs, Ra xs ∧ R xs z) := fun S A B H σ E w Q q =>
  ⟨v, E.raw i v hi, h S A B H σ E w _ fun vs H2 xs r g j k => by
    have E2 := w.en E g j
    refine ⟨_, xs, vs, by rw [List.append_nil], E2.dmx, fun a s => .inl (w.vol a s).1, j, (w.at j).k E2, k, hp xs r, fun d w' H3 r3 g3 j3 k3 => ?_⟩
    exact q w' H3 d ⟨xs, r, r3⟩ (g.trans g3) j3 k3⟩
/-! ### statements -/
theorem sd_setX {j : Nat} {R : D → Prop} (h : XD W te es R) (k : ∀ d, R d → P.nx (es.set j (.d d))) : SD W (tAsg te (gName j)) es P := fun S A B H σ E w F q =>
  h S A B H σ E w _ fun v H2 d r g j i => q.nx _ _ _ _ (k d r) ((w.en E g j).setD i) j
theorem sq_setX {j : Nat} {R : D → Prop} (h : XD W te es R) (k : ∀ d, R d → SD W u (es.set j (.d d)) P) : SD W (tSeq (tAsg te (gName j)) u) es P :=
  sd_seq (fun e => ∃ d, R d ∧ e = es.set j (.d d)) (sd_setX h fun d r => ⟨d, r, rfl⟩) fun e ⟨d, r, z⟩ => by cases z; exact k d r
/-- a new list that came with a change of what is volatile *)-/
theorem WOk.lay {S : Addr → Prop} {A : Nat → Addr} {B H H2 : Hp} {σ : St} {p : Addr} {o : HO} (w : WOk W S B H) (E : En S A B H σ es) (g : Gr W.V H H2) (j : W.J1 H2) (n : H p = none) (hp : H2 p = some o) :
    ∃ H3, En S A B H3 σ es ∧ Same H3 H2 ∧ H3 p = none ∧ W.J1 H3 ∧ Gr W.V H H3 := by
  have np : ¬ W.V p := fun v => W.use H p w.j1 v n
  have g3 : Gr W.V H (fun b => if b = p then none else H2 b) := fun a u nv e => by
    have c : a ≠ p := ne_of_none e n
    show (if a = p then none else H2 a) = some u
    rw [if_neg c]
    exact g a u nv e
  have j3 : W.J1 (fun b => if b = p then none else H2 b) := W.stay H2 _ j fun a v => by
    have c : a ≠ p := fun z => by
      subst z
      exact np v
    show (if a = p then none else H2 a) = H2 a
    rw [if_neg c]
  refine ⟨fun b => if b = p then none else H2 b, w.en E g3 j3, fun b u e => ?_, if_pos rfl, j3, g3⟩
  by_cases c : b = p
  · have e' : (if b = p then none else H2 b) = some u := e
    rw [if_pos c] at e'
    cases e'
  · have e' : (if b = p then none else H2 b) = some u := e
    rw [if_neg c] at e'
    exact e'
theorem sd_setXO {j : Nat} {R : List D → Prop} (h : XL W te es R) (k : ∀ ds, R ds → P.nx (es.set j (.o (.l ds)))) : SD W (tAsg te (gName j)) es P := fun S A B H σ E w F q =>
  h S A B H σ E w _ fun p vs H2 ds r g j' n a i => by
    obtain ⟨H3, E3, s3, n3, j3, _⟩ := w.lay E g j' n a
    exact q.nx _ _ _ _ (k ds r) (E3.setO s3 n3 a ⟨vs, rfl, i⟩) j'
theorem sq_setXO {j : Nat} {R : List D → Prop} (h : XL W te es R) (k : ∀ ds, R ds → SD W u (es.set j (.o (.l ds))) P) : SD W (tSeq (tAsg te (gName j)) u) es P :=
  sd_seq (fun e => ∃ d, R d ∧ e = es.set j (.o (.l d))) (sd_setXO h fun d r => ⟨d, r, rfl⟩) fun e ⟨d, r, z⟩ => by cases z; exact k d r
theorem sd_retXD {R : D → Prop} (h : XD W te es R) (k : ∀ d, R d → P.rt d) : SD W (tRet te) es P := fun S A B H σ E w F q => h S A B H σ E w _ fun v H2 d r g j i => q.rt d v H2 (k d r) (w.en E g j).same j (i.wide fun _ s => .inl s)
theorem sq_retXD {R : D → Prop} (h : XD W te es R) (k : ∀ d, R d → P.rt d) : SD W (tSeq (tRet te) u) es P := sd_seq (fun _ => False) (sd_retXD h k) fun _ z => z.elim
theorem sd_ifX {R : Bool → Prop} (h : XT W tc es R) (h1 : R true → SD W t es P) (h2 : R false → SD W u es P) : SD W (tIfS tc t u) es P := fun S A B H σ E w F k => h S A B H σ E w _ fun b H2 r g j => by
  cases b with
  | true => exact h1 r S A B H2 σ (w.en E g j) (w.at j) F k
  | false => exact h2 r S A B H2 σ (w.en E g j) (w.at j) F k
theorem sq_ifX {w' : TS} {R : Bool → Prop} (h : XT W tc es R) (h1 : R true → SD W (tSeq t w') es P) (h2 : R false → SD W (tSeq u w') es P) : SD W (tSeq (tIfS tc t u) w') es P := fun S A B H σ E w F k => h S A B H σ E w _ fun b H2 r g j => by
  cases b with
  | true => exact h1 r S A B H2 σ (w.en E g j) (w.at j) F k
  | false => exact h2 r S A B H2 σ (w.en E g j) (w.at j) F k
theorem sd_appX {i : Nat} {R : D → Prop} (h : es[i]? = some (.o (.l xs))) (hd : XD W te es R) (hl : xs.length < sizeLine) (k : ∀ d, R d → P.nx (es.set i (.o (.l (xs ++ [d]))))) : SD W (tDrop (tBM K "list" rAppend (tVar i) (tCons te tNil))) es P := fun S A B H σ E w F q => by
  obtain ⟨h1, h2, h3, _, h4, vs, rfl, h5⟩ := E.own i _ h
  refine ⟨_, h1, .inl ⟨rfl, vs, SqL.of h4⟩, hd S A B H σ E w _ fun v H2 d r g j m => ?_⟩
  have nv : ¬ W.V (A i) := fun z => h2 (w.vol _ z).1
  refine ⟨A i, vs, v, rfl, rfl, g _ _ nv h4, by rw [h5.length]; exact hl, ?_⟩
  exact q.nx _ _ _ _ (k d r) ((w.en E g j).put h ⟨_, rfl, (h5.mono (w.gx g)).app (IsDs.one m)⟩) ((w.at j).put nv).j1
/-! ### walks -/
def XSrc (W : Wd) (wi : TI) (es : Es) (R : List D → Prop) : Prop := ∀ (S : Addr → Prop) (A : Nat → Addr) (B H : Hp) (σ : St), En S A B H σ es → WOk W S B H → ∀ Q : It → Hp → Prop,
  (∀ J H2 xs (L : List (Addr × HO)) ds, R ds → Gr W.V H H2 → W.J1 H2 → (∀ p ∈ L, ¬ Sx S A es p.1 ∧ H2 p.1 = some p.2) → Gd J xs (fun H => ∀ p ∈ L, H p.1 = some p.2) → IsDs (Sx S A es) H2 ds xs → Q J H2) → wi σ H Q
theorem xsrc_of {wi : TI} (h : Src wi es ds) : XSrc W wi es (fun z => z = ds) := fun S A B H σ E w Q q => h S A B H σ E Q fun J H2 xs L e hL G i => q J H2 xs L ds rfl (Gr.of e) (w.same e).j1 hL G i
theorem xsrc_list {R : List D → Prop} {tl : TE} (h : XD W tl es (fun z => ∃ ds, z = .l ds ∧ R ds)) : XSrc W (iList K tl) es R := fun S A B H σ E w Q r => h S A B H σ E w _ fun v H2 z ⟨ds, e1, r1⟩ g j i => by
  subst e1
  obtain ⟨a, vs, rfl, n, ha, is⟩ := i
  refine ⟨a, rfl, ⟨vs, SqL.of ha⟩, r _ H2 vs [(a, .lst vs)] ds r1 g j (fun p hp => ?_) ⟨fun j H3 g hj => ?_, fun j H3 x H4 g hj y => ?_, fun j H3 g hj => ?_⟩ is⟩
  · cases List.mem_singleton.mp hp
    exact ⟨n, ha⟩
  · exact ⟨vs, vs[j], SqL.of (g _ (List.mem_singleton.mpr rfl)), List.getElem?_eq_getElem hj⟩
  · exact ⟨y.1, y.2 vs (SqL.of (g _ (List.mem_singleton.mpr rfl)))⟩
  · exact ⟨vs, SqL.of (g _ (List.mem_singleton.mpr rfl)), hj⟩
theorem xsrc_rng {R : Nat → Prop} (h : XDs W tas es (fun z => ∃ n : Nat, z = [.i (n : Int)] ∧ R n)) (hn : ∀ n, R n → n ≤ 1000000) : XSrc W (iRng1 tas) es (fun z => ∃ n, z = rngD n ∧ R n) := fun S A B H σ E w Q r => h S A B H σ E w _ fun vs H2 z ⟨n, e1, r1⟩ g j i => by
  subst e1
  obtain ⟨v, q, rfl, i1, i2⟩ := i
  cases i1; cases i2
  have hn' := hn n r1
  refine ⟨(n : Int), rfl, by omega, by omega, ?_⟩
  rw [Int.toNat_natCast]
  refine r _ H2 ((List.range n).map fun (k : Nat) => V.int (k : Int)) [] _ ⟨n, rfl, r1⟩ g j (fun p hp => by cases hp) ⟨fun j H3 g hj => ?_, fun j H3 x H4 g hj y => ?_, fun j H3 g hj => ?_⟩ (isDs_rng _)
  · show j < n
    simpa using hj
  · have hj' : j < n := by simpa using hj
    refine ⟨y.1, ?_⟩
    rw [List.getElem?_map, List.getElem?_range hj', y.2, Int.zero_add]
    rfl
  · show n ≤ j
    simpa using hj
theorem sd_forX {wi : TI} {g : TG} {tb : TS} {R : List D → Prop} (h : XSrc W wi es R) (I : List D → Nat → Es → Prop) (h0 : ∀ ds, R ds → I ds 0 es)
    (hs : ∀ ds i d e, R ds → ds[i]? = some d → I ds i e → ∃ e', GD g d e e' ∧ SD W tb e' { P with nx := I ds (i + 1), ct := I ds (i + 1), bk := P.nx }) (hd : ∀ ds e, R ds → I ds ds.length e → P.nx e) : SD W (tFor wi g tb) es P := fun S A B H σ E w F k =>
  h S A B H σ E w _ fun J H2 xs L ds hR gH jH hL G is => by
    obtain ⟨C, E2, sBC, gr, hvol⟩ := (w.en E gH jH).cut W.V w.vol
    have k2 := k.cut sBC
    have w2 : WOk W S C H2 := ⟨fun a v => ⟨(w.vol a v).1, hvol a v⟩, W.up _ _ w.k0 sBC, jH⟩
    have isC : IsDs (fun a => S a ∨ C a = none) C ds xs := (is.mono gr).dom fun a o ha s => by
      rcases s with s | s
      · exact .inl s
      · rw [ha] at s
        cases s
    have LC : ∀ p ∈ L, C p.1 = some p.2 := fun p hp => gr _ _ (hL p hp).1 (hL p hp).2
    have hlen := is.length
    refine ⟨fun i m σ' H' => m = xs.length - i ∧ i ≤ xs.length ∧ ∃ e' A', I ds i e' ∧ En S A' C H' σ' e' ∧ W.J1 H', ⟨_, rfl, Nat.zero_le _, es, A, h0 ds hR, E2, w2.j1⟩, ?_⟩
    rintro i m σ' H' ⟨rfl, hi, e', A', hI, E', j'⟩
    have g' : ∀ p ∈ L, H' p.1 = some p.2 := fun p hp => E'.same _ _ (LC p hp)
    by_cases hlt : i < xs.length
    · refine .inr ⟨G.go i H' g' hlt, fun σ2 H2 => ∃ e2 A2, I ds (i + 1) e2 ∧ En S A2 C H2 σ2 e2 ∧ W.J1 H2, fun σ2 H3 ⟨e2, A2, q1, q2⟩ => ⟨xs.length - (i + 1), by omega, rfl, hlt, e2, A2, q1, q2⟩, fun v H3 y => ?_⟩
      obtain ⟨rfl, hv⟩ := G.yld i H' v H3 g' hlt y
      obtain ⟨d, hd1, hd2⟩ := isC.getV hv
      obtain ⟨e3, hg, hb⟩ := hs ds i d e' hR hd1 hI
      have hd3 : IsD (Sx S A' e') H3 d v := (hd2.mono (Gr.of E'.same)).wide fun a s => by
        rcases s with s | ⟨j, ys, q, rfl⟩
        · exact .inl s
        · obtain ⟨_, _, h3, _⟩ := E'.own j ys q
          exact .inr h3
      refine hg S A' C H3 σ' v E' hd3 _ fun σ4 E4 _ => hb S A' C H3 σ4 E4 (w2.at j') _ ⟨fun e5 A5 σ5 H5 p q j => ⟨e5, A5, p, q, j⟩, k2.rt, k2.rl, k2.nx, fun e5 A5 σ5 H5 p q j => ⟨e5, A5, p, q, j⟩⟩
    · have ei : i = xs.length := by omega
      refine .inl ⟨G.stop i H' g' (by omega), k2.nx e' A' σ' H' (hd ds e' hR (by rw [← hlen, ← ei]; exact hI)) E' j'⟩
theorem paired_app {α β : Type} {R : α → β → Prop} : ∀ {a1 a2 : List α} {b1 b2 : List β}, Paired R a1 b1 → Paired R a2 b2 → Paired R (a1 ++ a2) (b1 ++ b2)
  | _, _, _, _, .nil, s => s
  | _, _, _, _, .cons r t, s => .cons r (paired_app t s)
/-- [e for x in xs], e a change of what is volatile -/
theorem xl_lcM {wi : TI} {g : TG} {vs : List Nat} {Rs : List D → Prop} {R : D → D → Prop} (n : noOwn es vs = true) (src : XSrc W wi es Rs) (hz : ∀ ds, Rs ds → ds.length ≤ sizeLine)
    (hs : ∀ ds, Rs ds → ∀ z ∈ ds, ∃ e', GW g z vs es e' ∧ XD W te e' (R z)) : XL W (tLc wi g tYes te vs) es (fun rs => ∃ ds, Rs ds ∧ Paired R ds rs) := fun S A B H σ E w Q q =>
  src S A B H σ E w _ fun J H1 xs L ds rds g1 j1 hL G is D hD => by
    have E1 := w.en E g1 j1
    have w1 := w.at j1
    have nD : ¬ W.V D := fun v => W.use H1 D j1 v hD
    have gD : Same H1 (upd H1 D (.lst [])) := Same.new hD
    have E2 := (E1.vol gD hD (by rw [upd_same]; exact fun z => nomatch z)).wiped vs
    have wD : ∀ {H' : Hp}, W.J1 H' → WOk W (fun a => S a ∨ a = D) B H' := fun j => ⟨fun a v => ⟨.inl (w.vol a v).1, (w.vol a v).2⟩, w.k0, j⟩
    have w0 : ∀ a, Sx (fun a => S a ∨ a = D) A (wipeE es vs) a → Sx S A es a ∨ a = D := fun a s => by
      rcases s with (s | s) | s
      · exact .inl (.inl s)
      · exact .inr s
      · exact .inl (.inr (own_of_wiped s))
    have hlen : xs.length = ds.length := is.length
    have hlz := hz ds rds
    refine ⟨fun i m H' => m = xs.length - i ∧ i ≤ xs.length ∧ Gr W.V H1 H' ∧ W.J1 H' ∧ En (fun a => S a ∨ a = D) A B H' (wipe σ vs) (wipeE es vs) ∧ ∃ acc rs, H' D = some (.lst acc) ∧ Paired R (ds.take i) rs ∧ IsDs (fun a => Sx S A es a ∨ a = D) H' rs acc,
      ⟨_, rfl, Nat.zero_le _, Gr.of gD, (w1.same gD).j1, E2, [], [], upd_same, .nil, rfl⟩, ?_⟩
    rintro i m H' ⟨rfl, hi, s1, j', E', acc, rs, hacc, pr, iacc⟩
    have g' : ∀ p ∈ L, H' p.1 = some p.2 := fun p hp => s1 _ _ (fun v => (hL p hp).1 (.inl (w.vol _ v).1)) (hL p hp).2
    by_cases hlt : i < xs.length
    · refine .inr ⟨G.go i H' g' hlt, fun H2 => Gr W.V H1 H2 ∧ W.J1 H2 ∧ En (fun a => S a ∨ a = D) A B H2 (wipe σ vs) (wipeE es vs) ∧ ∃ acc rs, H2 D = some (.lst acc) ∧ Paired R (ds.take (i + 1)) rs ∧ IsDs (fun a => Sx S A es a ∨ a = D) H2 rs acc,
        fun H2 r => ⟨_, by omega, rfl, hlt, r⟩, fun v H3 y => ?_⟩
      obtain ⟨rfl, hv⟩ := G.yld i H' v H3 g' hlt y
      obtain ⟨d, hd1, hd2⟩ := is.getV hv
      obtain ⟨e', gw, hk⟩ := hs ds rds d (List.mem_of_getElem? hd1)
      have hd3 : IsD (Sx (fun a => S a ∨ a = D) A (wipeE es vs)) H3 d v := ((hd2.more hD).mono (Gr.wide (fun a v => .inl (.inl (w.vol a v).1)) s1)).wide w0
      have tk : ds.take (i + 1) = ds.take i ++ [d] := by rw [List.take_succ, hd1]; rfl
      refine gw.run _ A B H3 σ v E' hd3 _ fun σ' E4 hw => ⟨hw, ?_⟩
      refine hk _ A B H3 σ' E4 (wD j') _ fun y H5 z rz g5 j5 iy => ?_
      have al : acc.length ≤ i := by
        rw [iacc.length, ← pr.length, List.length_take]
        omega
      refine ⟨acc, g5 _ _ nD hacc, by omega, ?_, ((wD j5).put nD).j1, ?_, acc ++ [y], rs ++ [z], upd_same, ?_, ?_⟩
      · intro a o na ha
        rw [upd_ne (ne_of_none ha hD)]
        exact g5 _ _ na (s1 _ _ na ha)
      · exact ((wD j').en E' g5 j5).chg (.inr rfl) (E1.same.free hD)
      · rw [tk]
        exact paired_app pr (.cons rz .nil)
      · have gd : Gr (fun a => Sx S A es a ∨ a = D) H5 (upd H5 D (.lst (acc ++ [y]))) := Gr.put (.inr rfl)
        refine ((iacc.mono (Gr.wide (fun a v => .inl (.inl (w.vol a v).1)) g5)).app ?_).mono gd
        refine IsDs.one (iy.wide fun a s => ?_)
        rcases s with (s | s) | s
        · exact .inl (.inl s)
        · exact .inr (gw.own A a s)
        · exact .inl (.inr s)
    · have ei : i = ds.length := by omega
      refine .inl ⟨G.stop i H' g' (by omega), ?_⟩
      rw [ei, List.take_length] at pr
      have hD0 : H D = none := w.free g1 hD j1
      exact q D acc H' rs ⟨ds, rds, pr⟩ (g1.trans s1) j' hD0 hacc iacc
theorem xs_one {R : D → Prop} (h : XD W te es R) : XDs W (tCons te tNil) es (fun z => ∃ d, z = [d] ∧ R d) := xds_imp (xs_cons (R2 := fun _ z => z = []) h fun _ _ => xs_nil) fun ds ⟨d, _, e1, r, e2⟩ => by
  subst e2
  exact ⟨d, e1, r⟩
theorem sd_forP {wi : TI} {g : TG} {tb : TS} (h : Src wi es ds) (I : Nat → Es → Prop) (h0 : I 0 es)
    (hs : ∀ i d e, ds[i]? = some d → I i e → ∃ e', GD g d e e' ∧ SD W tb e' { P with nx := I (i + 1), ct := I (i + 1), bk := P.nx }) (hd : ∀ e, I ds.length e → P.nx e) : SD W (tFor wi g tb) es P := sd_for h I h0 hs hd
/-- a def's start: a raw first argument *)-/
theorem env_startX {S : Addr → Prop} {B H : Hp} {N : List Str} {ds : List D} {us : List V} {v : V} (dm : Dm S H) (h : IsDs S H ds us) (sB : Same B H) :
    En S (fun _ => 0) B H (L2.start N (v :: us)) (.r v :: (ds.map Sl.d ++ List.replicate (N.length - (ds.length + 1)) .no)) := by
  have hv := h.length
  have noown : ∀ (i : Nat) (xs : Cn), (Sl.r v :: (ds.map Sl.d ++ List.replicate (N.length - (ds.length + 1)) Sl.no))[i]? = some (Sl.o xs) → False := fun i xs e => by
    rcases List.mem_cons.mp (List.mem_of_getElem? e) with m | m
    · cases m
    · rcases List.mem_append.mp m with m | m
      · obtain ⟨y, _, z⟩ := List.mem_map.mp m
        cases z
      · have z := (List.mem_replicate.mp m).2
        cases z
  have w : ∀ a, Sx S (fun _ => 0) (Sl.r v :: (ds.map Sl.d ++ List.replicate (N.length - (ds.length + 1)) Sl.no)) a → S a := fun a s => by
    rcases s with s | ⟨i, xs, e, _⟩
    · exact s
    · exact (noown i xs e).elim
  refine ⟨fun i x e => ?_, fun i xs e => (noown i xs e).elim, fun i j xs ys _ e _ => (noown i xs e).elim, fun i u e => ?_, sB, dm, ?_⟩
  · cases i with
    | zero => cases e
    | succ i =>
      have e' : (ds.map Sl.d ++ List.replicate (N.length - (ds.length + 1)) Sl.no)[i]? = some (Sl.d x) := e
      by_cases c : i < ds.length
      · rw [List.getElem?_append_left (by rw [List.length_map]; exact c), List.getElem?_map] at e'
        cases q : ds[i]? with
        | none =>
          rw [q] at e'
          cases e'
        | some d =>
          rw [q] at e'
          cases e'
          obtain ⟨v', h1, h2⟩ := h.get q
          refine ⟨v', ?_, h2.wide w⟩
          unfold L2.start
          show (us.map some ++ _)[i]? = some (some v')
          rw [List.getElem?_append_left (by rw [List.length_map, hv]; exact c), List.getElem?_map, h1]
          rfl
      · rw [List.getElem?_append_right (by rw [List.length_map]; omega)] at e'
        have z := (List.mem_replicate.mp (List.mem_of_getElem? e')).2
        cases z
  · cases i with
    | zero =>
      cases e
      rfl
    | succ i =>
      have e' : (ds.map Sl.d ++ List.replicate (N.length - (ds.length + 1)) Sl.no)[i]? = some (Sl.r u) := e
      rcases List.mem_append.mp (List.mem_of_getElem? e') with m | m
      · obtain ⟨y, _, z⟩ := List.mem_map.mp m
        cases z
      · have z := (List.mem_replicate.mp m).2
        cases z
  · unfold L2.start
    simp [hv]
end
theorem fn_X {P : Program} {w : World} {K : PySem.W.Frag} {mg : Str → Option Value} {base : Heap} {x : Str} {st : Stmt} {f : Addr} {fd : FuncData} {N ps : List Str} {k : Nat} {W : Wd} {v : V} {Pre : List D → Prop} {R : List D → D → Prop}
    (F : L2.Fun K x x st f fd) (S : FnScope N ps (defScope st)) (len : ∀ ds, Pre ds → ds.length + 1 = ps.length)
    (hbody : ∀ (cdv : Value) (A : Around) (outer : List Env) (s : Shared) (H : Hp) (E : XK), Room k (A.deeper (PyProof.Rows.envOfC x (defScope st) s.heap.objs.size f cdv)) →
      ∃ t, PSs (cxOf CX0 P w K mg base N x (defScope st) f cdv A outer s H E).nox (defBody st) t ∧ ∀ ds, Pre ds → SD W t (.r v :: (ds.map Sl.d ++ List.replicate (N.length - (ds.length + 1)) .no)) ⟨fun _ => R ds .n, fun d => R ds d, fun xs => R ds (.l xs), fun _ => False, fun _ => False⟩) :
    FnOk P w K mg base CX0 (k + 1) f fd ps (spX W v Pre R) := by
  refine F.ok S (fun vs H Q E h => ?_) (fun cdv A outer s H vs Q E hr h => ?_)
  · obtain ⟨T, ds, us, rfl, dm, hV, j, hK, is, hP, q⟩ := h
    show us.length + 1 = ps.length
    rw [is.length]
    exact len ds hP
  · obtain ⟨T, ds, us, rfl, dm, hV, j, hK, is, hP, q⟩ := h
    obtain ⟨t, h1, h2⟩ := hbody cdv A outer s H E hr
    let B : Hp := fun b => @ite _ (W.V b) (Classical.propDecidable _) none (H b)
    have B1 : ∀ a, W.V a → B a = none := fun a s => if_pos s
    have B2 : ∀ a o, ¬ W.V a → H a = some o → B a = some o := fun a o n e => by
      show (@ite _ (W.V a) (Classical.propDecidable _) none (H a)) = some o
      rw [if_neg n]
      exact e
    have sB : Same B H := fun b o e => by
      by_cases c : W.V b
      · rw [B1 b c] at e
        cases e
      · have e' : (@ite _ (W.V b) (Classical.propDecidable _) none (H b)) = some o := e
        rw [if_neg c] at e'
        exact e'
    have gr : ∀ {H' : Hp}, Same B H' → Gr W.V H H' := fun s a o n e => s a o (B2 a o n e)
    refine ⟨t, h1, h2 ds hP T _ B H _ (env_startX dm is sB) ⟨fun a s => ⟨hV a s, B1 a s⟩, hK B B1 B2, j⟩ _ ⟨fun es' A' σ' H' p E' j' => ?_, fun d' u H' p e j' i => ?_, fun xs p vs' H' e s j' n ns h i => ?_, fun _ _ _ _ p _ => p.elim, fun _ _ _ _ p _ => p.elim⟩⟩
    · exact q .n .non H' p (gr E'.same) j' rfl
    · exact q d' u H' p (gr e) j' i
    · exact q (.l xs) _ H' e (gr s) j' ⟨p, vs', rfl, ns, h, i.wide fun a z => .inl z⟩
theorem DefF.X {P : Program} {w : World} {K : PySem.W.Frag} {mg : Str → Option Value} {base : Heap} {x : Str} {st : Stmt} {N ps : List Str} {k : Nat} {W : Wd} {v : V} {Pre : List D → Prop} {R : List D → D → Prop} (F : DefF K mg x st ps) (S : FnScope N ps (defScope st)) (len : ∀ ds, Pre ds → ds.length + 1 = ps.length)
    (hbody : ∀ (f : Addr) (cdv : Value) (A : Around) (outer : List Env) (s : Shared) (H : Hp) (E : XK), Room k (A.deeper (PyProof.Rows.envOfC x (defScope st) s.heap.objs.size f cdv)) →
      ∃ t, PSs (cxOf CX0 P w K mg base N x (defScope st) f cdv A outer s H E).nox (defBody st) t ∧ ∀ ds, Pre ds → SD W t (.r v :: (ds.map Sl.d ++ List.replicate (N.length - (ds.length + 1)) .no)) ⟨fun _ => R ds .n, fun d => R ds d, fun xs => R ds (.l xs), fun _ => False, fun _ => False⟩) :
    C8.Cal P w K mg base (k + 1) x (spX W v Pre R) [] := F.cal fun f fd hf => fn_X hf S len (hbody f)
/-- a promise with a choice -/
theorem fn_ex {P : Program} {w : World} {K : PySem.W.Frag} {mg : Str → Option Value} {base : Heap} {f : Addr} {fd : FuncData} {ps : List Str} {k : Nat} {ι : Type} {sp : ι → Sp} (h : ∀ i, FnOk P w K mg base CX0 k f fd ps (sp i)) : FnOk P w K mg base CX0 k f fd ps (fun vs H Q E => ∃ i, sp i vs H Q E) :=
  ⟨fun vs H Q E ⟨i, q⟩ => (h i).len vs H Q E q, fun A outer s H args us vs Q E h1 h2 h3 h4 ⟨i, q⟩ => (h i).run A outer s H args us vs Q E h1 h2 h3 h4 q⟩
/-- .. for any world of a kind -/
def spXX {ι : Type} (W : ι → Wd) (v : ι → V) (Pre : List D → Prop) (R : List D → D → Prop) : Sp := fun vs H Q E => ∃ i, spX (W i) (v i) Pre R vs H Q E
theorem xd_callXX {ι : Type} {Wi : ι → Wd} {vi : ι → V} {es : Es} {tas : TA} (x : ι) {i : Nat} {Pre : List D → Prop} {R : List D → D → Prop} {Ra : List D → Prop} {E0 : XK} (hi : es[i]? = some (.r (vi x))) (h : XDs (Wi x) tas es Ra) (hp : ∀ xs, Ra xs → Pre xs) : XD (Wi x) (tCall (spXX Wi vi Pre R) [] E0 (tCons (tVar i) tas)) es (fun z => ∃ xs, Ra xs ∧ R xs z) := fun S A B H σ E w Q q =>
  ⟨vi x, E.raw i _ hi, h S A B H σ E w _ fun vs H2 xs r g j k => by
    have E2 := w.en E g j
    refine ⟨x, _, xs, vs, by rw [List.append_nil], E2.dmx, fun a s => .inl (w.vol a s).1, j, (w.at j).k E2, k, hp xs r, fun d w' H3 r3 g3 j3 k3 => ?_⟩
    exact q w' H3 d ⟨xs, r, r3⟩ (g.trans g3) j3 k3⟩
end Nz
/-! list(text); while with a measure told; defs whose value is told by a property. -/
namespace Nz
open PySem L2
def rLstS : List V → Hp → VK → Prop := fun xs H Q => ∃ x, xs = [.str x] ∧ x.length ≤ sizeLine ∧ ∀ l, H l = none → Q (.ref l) (upd H l (.lst (x.cps.toList.map fun c => V.str ⟨#[c]⟩)))
theorem c_lstS {X : Cx} (hc : X.calm = true) : CallR X (.type "list") rLstS := by
  intro pins s σ H xs us Q I r h
  obtain ⟨x, rfl, hl, q⟩ := h
  obtain ⟨u, rfl, rx⟩ := vals1 r
  obtain ⟨t, rfl⟩ := rx
  refine call_list_str (I.ok.hd hc) x t (fun h' tk acc c' hk e' hi => ?_) hl
  have hs : acc.size = x.cps.size := hi.1
  refine ⟨.ref s.heap.objs.size, upd H s.heap.objs.size (.lst (x.cps.toList.map fun c => V.str ⟨#[c]⟩)), I.laid hk (Nat.le_refl _) (show ObjOk X.prog X.w _ _ _ (.lst (x.cps.toList.map fun c => V.str ⟨#[c]⟩)) from ⟨?_, acc.toList, c', ?_, ?_⟩), rfl, q _ (I.hok.fresh (Nat.le_refl _))⟩
  · rw [List.length_map]
    exact hl
  · refine vals_of_at (by rw [List.length_map, Array.length_toList, Array.length_toList, hs]) fun j v u hv hu => ?_
    obtain ⟨c, t2, h1, rfl⟩ := hi.2 j u (by rw [← hu, Array.getElem?_toList])
    rw [List.getElem?_map, Array.getElem?_toList, h1] at hv
    cases hv
    exact ⟨t2, rfl⟩
  · rw [Array.toArray_toList]
    exact e'
section
variable {W : Wd} {K : PySem.W.Frag} {es : Es} {ta tb te : TE} {tas : TA} {tc : TT} {t u : TS} {x y z d : D} {xs ys ds : List D} {P : Po}
def signsD (x : Str) : List D := x.cps.toList.map fun c => .s ⟨#[c]⟩
theorem isDs_signs {S : Addr → Prop} {H : Hp} : ∀ (l : List Nat), IsDs S H (l.map fun c => D.s ⟨#[c]⟩) (l.map fun c => V.str ⟨#[c]⟩)
  | [] => rfl
  | _ :: r => ⟨_, _, rfl, rfl, isDs_signs r⟩
theorem rc_lstS {x : Str} (hl : x.length ≤ sizeLine) : RCL rLstS [.s x] (signsD x) := fun S H us dm is Q q => by
  obtain ⟨v, r, rfl, i1, i2⟩ := is
  cases i1; cases i2
  exact ⟨x, rfl, hl, fun p hp => q p _ _ (Same.new hp) hp upd_same (isDs_signs _)⟩
/-- while, the measure told beside the state -/
theorem sd_whileM {tb : TS} (I : Nat → Es → Prop) (m0 : Nat) (h0 : I m0 es)
    (hs : ∀ m e, I m e → ∃ b, ET tc e b ∧ (b = true → SD W tb e { P with nx := fun e' => ∃ m', m' < m ∧ I m' e', ct := fun e' => ∃ m', m' < m ∧ I m' e', bk := P.nx }) ∧ (b = false → P.nx e)) : SD W (tWhile tc tb) es P := fun S A B H σ E w F k => by
  refine ⟨fun m σ' H' => ∃ e' A', I m e' ∧ En S A' B H' σ' e' ∧ W.J1 H', ⟨m0, es, A, h0, E, w.j1⟩, ?_⟩
  rintro m σ' H' ⟨e', A', hI, E', j'⟩
  obtain ⟨b, hb, ht, hf⟩ := hs m e' hI
  refine hb S A' B H' σ' E' _ fun H2 e => ?_
  cases b with
  | true => exact ⟨fun σ2 H3 => ∃ e2 A2 m2, m2 < m ∧ I m2 e2 ∧ En S A2 B H3 σ2 e2 ∧ W.J1 H3, fun σ2 H3 ⟨e2, A2, m2, q0, q1, q2⟩ => ⟨m2, q0, e2, A2, q1, q2⟩, ht rfl S A' B H2 σ' (E'.mono e) ((w.at j').same e) _ ⟨fun e5 A5 σ5 H5 ⟨m5, p0, p1⟩ q j => ⟨e5, A5, m5, p0, p1, q, j⟩, k.rt, k.rl, k.nx, fun e5 A5 σ5 H5 ⟨m5, p0, p1⟩ q j => ⟨e5, A5, m5, p0, p1, q, j⟩⟩⟩
  | false => exact k.nx e' A' σ' H2 (hf rfl) (E'.mono e) ((w.at j').same e).j1
theorem sq_whileM {tb : TS} (I : Nat → Es → Prop) (m0 : Nat) (h0 : I m0 es) (N : Es → Prop)
    (hs : ∀ m e, I m e → ∃ b, ET tc e b ∧ (b = true → SD W tb e { P with nx := fun e' => ∃ m', m' < m ∧ I m' e', ct := fun e' => ∃ m', m' < m ∧ I m' e', bk := N }) ∧ (b = false → N e)) (k : ∀ e, N e → SD W u e P) : SD W (tSeq (tWhile tc tb) u) es P :=
  sd_seq N (sd_whileM I m0 h0 hs) k
/-- a def whose value is told by a property -/
def spN (Pre : List D → Prop) (R : List D → D → Prop) : Sp := fun vs H Q _ => ∃ (S : Addr → Prop) (ds : List D), Dm S H ∧ IsDs S H ds vs ∧ Pre ds ∧ ∀ d v H', R ds d → Same H H' → IsD S H' d v → Q v H'
theorem xd_callN {Pre : List D → Prop} {R : List D → D → Prop} {E : XK} (h : EDs tas es xs) (hr : Pre xs) : XD W (tCall (spN Pre R) [] E tas) es (R xs) := fun S A B H σ En' w Q q =>
  h S A B H σ En' _ fun vs H2 e i => ⟨_, xs, (En'.mono e).dmx, by rw [List.append_nil]; exact i, hr, fun d v H3 r e3 k => q v H3 d r (Gr.of (e.trans e3)) ((w.same e).same e3).j1 k⟩
end
theorem fn_N {P : Program} {w : World} {K : PySem.W.Frag} {mg : Str → Option Value} {base : Heap} {x : Str} {st : Stmt} {f : Addr} {fd : FuncData} {N ps : List Str} {k : Nat} {Pre : List D → Prop} {R : List D → D → Prop}
    (F : L2.Fun K x x st f fd) (S : FnScope N ps (defScope st)) (hN : ps.length ≤ N.length) (len : ∀ ds, Pre ds → ds.length = ps.length)
    (hbody : ∀ (cdv : Value) (A : Around) (outer : List Env) (s : Shared) (H : Hp) (E : XK), Room k (A.deeper (PyProof.Rows.envOfC x (defScope st) s.heap.objs.size f cdv)) →
      ∃ t, PSs (cxOf CX0 P w K mg base N x (defScope st) f cdv A outer s H E).nox (defBody st) t ∧ ∀ ds, Pre ds → SD W0 t (ds.map Sl.d ++ List.replicate (N.length - ds.length) .no) ⟨fun _ => R ds .n, fun d => R ds d, fun xs => R ds (.l xs), fun _ => False, fun _ => False⟩) :
    FnOk P w K mg base CX0 (k + 1) f fd ps (spN Pre R) := by
  refine F.ok S (fun vs H Q E h => ?_) (fun cdv A outer s H vs Q E hr h => ?_)
  · obtain ⟨T, ds, dm, is, hR, q⟩ := h
    rw [is.length]
    exact len ds hR
  · obtain ⟨T, ds, dm, is, hR, q⟩ := h
    obtain ⟨t, h1, h2⟩ := hbody cdv A outer s H E hr
    have hl : ds.length ≤ N.length := by rw [len ds hR]; exact hN
    refine ⟨t, h1, h2 ds hR T _ H H _ (env_start dm is hl) wok0 _ ⟨fun es' A' σ' H' p E' _ => ?_, fun d' v H' p e _ i => ?_, fun xs p vs' H' e s _ n m h i => ?_, fun _ _ _ _ p _ => p.elim, fun _ _ _ _ p _ => p.elim⟩⟩
    · exact q .n .non H' p E'.same rfl
    · exact q d' v H' p e i
    · exact q (.l xs) _ H' e s ⟨p, vs', rfl, m, h, i.wide fun a z => .inl z⟩
theorem DefF.N {P : Program} {w : World} {K : PySem.W.Frag} {mg : Str → Option Value} {base : Heap} {x : Str} {st : Stmt} {N ps : List Str} {k : Nat} {Pre : List D → Prop} {R : List D → D → Prop} (F : DefF K mg x st ps) (S : FnScope N ps (defScope st)) (hN : ps.length ≤ N.length) (len : ∀ ds, Pre ds → ds.length = ps.length)
    (hbody : ∀ (f : Addr) (cdv : Value) (A : Around) (outer : List Env) (s : Shared) (H : Hp) (E : XK), Room k (A.deeper (PyProof.Rows.envOfC x (defScope st) s.heap.objs.size f cdv)) →
      ∃ t, PSs (cxOf CX0 P w K mg base N x (defScope st) f cdv A outer s H E).nox (defBody st) t ∧ ∀ ds, Pre ds → SD W0 t (ds.map Sl.d ++ List.replicate (N.length - ds.length) .no) ⟨fun _ => R ds .n, fun d => R ds d, fun xs => R ds (.l xs), fun _ => False, fun _ => False⟩) :
    C8.Cal P w K mg base (k + 1) x (spN Pre R) [] := F.cal fun f fd hf => fn_N hf S hN len (hbody f)
def spNN {ι : Type} (Pre : ι → List D → Prop) (R : ι → List D → D → Prop) : Sp := fun vs H Q E => ∃ i, spN (Pre i) (R i) vs H Q E
theorem xd_callNN {ι : Type} {W : Wd} {es : Es} {tas : TA} {xs : List D} (i : ι) {Pre : ι → List D → Prop} {R : ι → List D → D → Prop} {E : XK} (h : EDs tas es xs) (hr : Pre i xs) : XD W (tCall (spNN Pre R) [] E tas) es (R i xs) := fun S A B H σ En' w Q q =>
  h S A B H σ En' _ fun vs H2 e k => ⟨i, _, xs, (En'.mono e).dmx, by rw [List.append_nil]; exact k, hr, fun d v H3 r e3 k => q v H3 d r (Gr.of (e.trans e3)) ((w.same e).same e3).j1 k⟩
end Nz
/-! zip of a tuple and a list: as what a loop goes over, and as a list. -/
namespace Nz
open PySem PySem.Spec PyProof.Rows L2
section
variable {prog : Program} {w : World} {A : Around} {E : Value → Shared → Prop} {s : Shared} {z TI TO i1 i2 T : Addr} {f : Bool} {oT : Obj} {fp1 fp2 : List Addr} {n1 n2 i : Nat} {P1 P2 : Nat → Value → Prop} {St1 St2 : Nat → Heap → Prop}
/-- one more pair, the pair before still in use -/
theorem zipO_item {Q : Value → Shared → Prop} (S : ZipSep2 z TI TO i1 i2 fp1 fp2) (D1 : Draws prog w A i1 fp1 n1 P1 St1) (D2 : Draws prog w A i2 fp2 n2 P2 St2) (hz : IsZipHeld s.heap z TI TO T f) (hT : s.heap.get? T = some oT) (hTI : IsTupOf2 s.heap TI (.ref i1) (.ref i2)) (st1 : St1 i s.heap) (st2 : St2 i s.heap) (l1 : i < n1) (l2 : i < n2)
    (hQ : ∀ x y h' tk, P1 i x → P2 i y → IsZipHeld h' z TI TO T true → St1 (i + 1) h' → St2 (i + 1) h' → IsTupOf2 h' s.heap.objs.size x y → h'.objs.size = s.heap.objs.size + 1 → (∀ c o, c ≠ z → c ≠ i1 → c ≠ i2 → s.heap.get? c = some o → h'.get? c = some o) → Q (.ref s.heap.objs.size) { s with heap := h', toks := tk }) :
    wpAny (model prog w) A (Builtin.«zip.__next__» ⟨[.ref z], []⟩) (fun fin s' => ∃ v, fin = .done (.ret v) ∧ Q v s') E s := by
  obtain ⟨hp, g, d, tk0, os⟩ := s
  show wpAny _ _ (field (.ref z) 2 >>= _) _ _ _
  refine wpAny_bind (wpAny_field hz rfl (x := .bool false) rfl ?_); show wpAny _ _ (field (.ref z) 3 >>= _) _ _ _
  refine wpAny_bind (wpAny_field hz rfl (x := .ref TI) rfl (wpAny_bind (wpAny_seqItems hTI rfl ?_)))
  show wpAny _ _ (Builtin.SmallTypes.ownedTupleIsFree (.ref z) >>= _) _ _ _; refine wpAny_bind (wpAny_tupleHeld_zip hz hT fun g0 hz0 hs0 => ?_)
  replace hs0 : Heap.SameBut z hp g0 := hs0
  simp only [Bool.false_eq_true, if_false]; refine wpAny_bind ?_; rw [← Array.forIn_toList]; simp only [List.forIn_cons, List.forIn_nil]
  refine wpAny_bind (wpAny_bind (wpAny_holding ?_)); show wpAny _ _ (Builtin.SmallTypes.nextOf (.ref i1) >>= _) _ _ ⟨g0, g, d, tk0, os⟩
  refine wpAny_bind (D1.item i _ _ _ l1 (D1.over st1 hs0 S.zf1) fun x p1 tk1 hx sn1 hp1 => wpAny_pure ?_)
  replace hp1 : Heap.SameBut i1 g0 p1 := hp1
  refine wpAny_pure ?_; refine wpAny_bind (wpAny_bind (wpAny_holding ?_)); show wpAny _ _ (Builtin.SmallTypes.nextOf (.ref i2) >>= _) _ _ ⟨p1, g, d, tk1, os⟩
  refine wpAny_bind (D2.item i _ _ _ l2 (D2.over (D2.over st2 hs0 S.zf2) hp1 S.sep1_2) fun y p2 tk2 hy sn2 hp2 => wpAny_pure ?_)
  replace hp2 : Heap.SameBut i2 p1 p2 := hp2
  refine wpAny_pure (wpAny_pure ?_)
  show wpAny _ _ (newTuple [x, y] >>= _) _ _ ⟨p2, g, d, tk2, os⟩; refine wpAny_bind (wpAny_newTuple ?_)
  have sz : p2.objs.size = hp.objs.size := by rw [hp2.1, hp1.1, hs0.1]
  have zz : IsZipHeld p2 z TI TO T true := hp2.extBut _ _ S.zi2 (hp1.extBut _ _ S.zi1 hz0)
  have k : ∀ c o, c ≠ z → c ≠ i1 → c ≠ i2 → hp.get? c = some o → p2.get? c = some o := fun c o a b e q => hp2.extBut _ _ e (hp1.extBut _ _ b (hs0.extBut _ _ a q))
  have m1 : St1 (i + 1) p2 := D1.over sn1 hp2 S.sep2_1
  refine wpAny_pure ⟨_, rfl, ?_⟩; show Q (.ref p2.objs.size) _
  have np : IsTupOf2 (p2.push { cls := .type "tuple", data := .seq #[x, y] }) p2.objs.size x y := Heap.get?_push_size _ rfl
  have ns : (p2.push { cls := .type "tuple", data := .seq #[x, y] }).objs.size = p2.objs.size + 1 := Heap.size_push ..
  rw [sz] at np ns ⊢
  exact hQ x y _ tk2 hx hy (Heap.get?_push_of_some _ zz) (D1.frame _ _ _ m1 fun b _ o q => Heap.get?_push_of_some _ q) (D2.frame _ _ _ sn2 fun b _ o q => Heap.get?_push_of_some _ q) np ns fun c o a b e q => Heap.get?_push_of_some _ (k c o a b e q)
theorem zipO_end {Q : Fin → Shared → Prop} (S : ZipSep2 z TI TO i1 i2 fp1 fp2) (D1 : Draws prog w A i1 fp1 n1 P1 St1) (D2 : Draws prog w A i2 fp2 n2 P2 St2) (hz : IsZipHeld s.heap z TI TO T f) (hT : s.heap.get? T = some oT) (hTI : IsTupOf2 s.heap TI (.ref i1) (.ref i2)) (st1 : St1 i s.heap) (st2 : St2 i s.heap) (l1 : i ≤ n1) (l2 : i ≤ n2) (hend : i = n1 ∨ i = n2)
    (hE : ∀ h' tk e, (∀ c o, c ≠ z → c ≠ i1 → c ≠ i2 → s.heap.get? c = some o → h'.get? c = some o) → (∃ o, h'.get? e = some o ∧ o.cls = .type "StopIteration") → E (.ref e) { s with heap := h', toks := tk }) :
    wpAny (model prog w) A (Builtin.«zip.__next__» ⟨[.ref z], []⟩) Q E s := by
  obtain ⟨hp, g, d, tk0, os⟩ := s
  show wpAny _ _ (field (.ref z) 2 >>= _) _ _ _
  refine wpAny_bind (wpAny_field hz rfl (x := .bool false) rfl ?_); show wpAny _ _ (field (.ref z) 3 >>= _) _ _ _
  refine wpAny_bind (wpAny_field hz rfl (x := .ref TI) rfl (wpAny_bind (wpAny_seqItems hTI rfl ?_)))
  show wpAny _ _ (Builtin.SmallTypes.ownedTupleIsFree (.ref z) >>= _) _ _ _; refine wpAny_bind (wpAny_tupleHeld_zip hz hT fun g0 hz0 hs0 => ?_)
  replace hs0 : Heap.SameBut z hp g0 := hs0
  simp only [Bool.false_eq_true, if_false]; refine wpAny_bind ?_; rw [← Array.forIn_toList]; simp only [List.forIn_cons, List.forIn_nil]
  refine wpAny_bind (wpAny_bind (wpAny_holding ?_)); show wpAny _ _ (Builtin.SmallTypes.nextOf (.ref i1) >>= _) _ _ ⟨g0, g, d, tk0, os⟩
  by_cases lt : i < n1
  · refine wpAny_bind (D1.item i _ _ _ lt (D1.over st1 hs0 S.zf1) fun x p1 tk1 hx sn1 hp1 => wpAny_pure ?_)
    replace hp1 : Heap.SameBut i1 g0 p1 := hp1
    have e2 : i = n2 := by omega
    refine wpAny_pure ?_; refine wpAny_bind (wpAny_bind (wpAny_holding ?_)); show wpAny _ _ (Builtin.SmallTypes.nextOf (.ref i2) >>= _) _ _ ⟨p1, g, d, tk1, os⟩
    refine wpAny_bind (D2.done ⟨p1, g, d, tk1, os⟩ _ _ (by rw [← e2]; exact D2.over (D2.over st2 hs0 S.zf2) hp1 S.sep1_2) fun q e hq he => ?_)
    exact hE q tk1 e (fun c o a b e' x => hq _ _ e' (hp1.extBut _ _ b (hs0.extBut _ _ a x))) he
  · have e1 : i = n1 := by omega
    refine wpAny_bind (D1.done ⟨g0, g, d, tk0, os⟩ _ _ (by rw [← e1]; exact D1.over st1 hs0 S.zf1) fun q e hq he => ?_)
    exact hE q tk0 e (fun c o a b e' x => hq _ _ b (hs0.extBut _ _ a x)) he
theorem zipO_next {Q : Option Value → Shared → Prop} (S : ZipSep2 z TI TO i1 i2 fp1 fp2) (D1 : Draws prog w A.in1 i1 fp1 n1 P1 St1) (D2 : Draws prog w A.in1 i2 fp2 n2 P2 St2) (hz : IsZipHeld s.heap z TI TO T f) (hT : s.heap.get? T = some oT) (hTI : IsTupOf2 s.heap TI (.ref i1) (.ref i2)) (st1 : St1 i s.heap) (st2 : St2 i s.heap) (l1 : i < n1) (l2 : i < n2)
    (hQ : ∀ x y h' tk, P1 i x → P2 i y → IsZipHeld h' z TI TO T true → St1 (i + 1) h' → St2 (i + 1) h' → IsTupOf2 h' s.heap.objs.size x y → h'.objs.size = s.heap.objs.size + 1 → (∀ c o, c ≠ z → c ≠ i1 → c ≠ i2 → s.heap.get? c = some o → h'.get? c = some o) → Q (some (.ref s.heap.objs.size)) { s with heap := h', toks := tk }) :
    wpAny (model prog w) A (pyNext (.ref z)) Q E s := by
  have tz : s.TypeIs (.ref z) "zip" := ⟨_, hz, rfl⟩
  unfold pyNext
  exact wpAny_bind (wpAny_attempt (wpAny_callSpecial?_slot (name := Str.ofString "__next__") tz F.slot_zip_next (wpAny_call_entry F.slot_zip_next tz F.entry_zip_next (zipO_item S D1 D2 hz hT hTI st1 st2 l1 l2 fun x y h' tk a b c d e j k l => wpAny_pure (hQ x y h' tk a b c d e j k l)) (F.args_zip_next_1 _))))
theorem zipO_stop {Q : Option Value → Shared → Prop} (S : ZipSep2 z TI TO i1 i2 fp1 fp2) (D1 : Draws prog w A.in1 i1 fp1 n1 P1 St1) (D2 : Draws prog w A.in1 i2 fp2 n2 P2 St2) (hz : IsZipHeld s.heap z TI TO T f) (hT : s.heap.get? T = some oT) (hTI : IsTupOf2 s.heap TI (.ref i1) (.ref i2)) (st1 : St1 i s.heap) (st2 : St2 i s.heap) (l1 : i ≤ n1) (l2 : i ≤ n2) (hend : i = n1 ∨ i = n2)
    (hQ : ∀ h' tk, (∀ c o, c ≠ z → c ≠ i1 → c ≠ i2 → s.heap.get? c = some o → h'.get? c = some o) → Q none { s with heap := h', toks := tk }) : wpAny (model prog w) A (pyNext (.ref z)) Q E s := by
  have tz : s.TypeIs (.ref z) "zip" := ⟨_, hz, rfl⟩
  unfold pyNext
  refine wpAny_bind (wpAny_attempt (wpAny_callSpecial?_slot (name := Str.ofString "__next__") tz F.slot_zip_next (wpAny_call_entry F.slot_zip_next tz F.entry_zip_next (zipO_end S D1 D2 hz hT hTI st1 st2 l1 l2 hend fun h' tk e k ⟨o, ho, hc⟩ => ?_) (F.args_zip_next_1 _))))
  exact wpAny_bind (wpAny_isInstance (T := "StopIteration") (b := true) ⟨o, ho, hc⟩ isSubtype_stop (wpAny_pure (hQ _ _ k)))
end
theorem sepM {z TI TO i1 i2 a b : Addr} (D : ZipApart z TI TO i1 i2 a b) : ZipSep2 z TI TO i1 i2 [i1, a] [i2, b] where
  TIz := D.TIz
  TOz := D.TOz
  TITO := D.TITO
  TIi1 := D.TIi1
  mem1 := List.mem_cons_self ..
  zf1 := by simp [D.i1z.symm, D.l1z.symm]
  Tf1 := by simp [D.TOi1, D.l1TO.symm]
  TIi2 := D.TIi2
  mem2 := List.mem_cons_self ..
  zf2 := by simp [D.i2z.symm, D.l2z.symm]
  Tf2 := by simp [D.TOi2, D.l2TO.symm]
  sep1_2 := by simp [D.i12, D.l2i1.symm]
  sep2_1 := by simp [D.i12.symm, D.l1i2.symm]
/-- the tuple at a and the list at b, pair by pair -/
def ItM (K : PySem.W.Frag) (a b : Addr) : It where
  go := fun i H => ∃ (xs ys : List V) (x y : V), SqT K H a xs ∧ SqL K H b ys ∧ xs[i]? = some x ∧ ys[i]? = some y
  yld := fun i H v H' => ∃ p x y, v = .ref p ∧ H p = none ∧ H' = upd H p (.tup [x, y]) ∧ (∀ xs, SqT K H a xs → xs[i]? = some x) ∧ ∀ ys, SqL K H b ys → ys[i]? = some y
  stop := fun i H => ∃ xs ys : List V, SqT K H a xs ∧ SqL K H b ys ∧ i ≤ xs.length ∧ i ≤ ys.length ∧ (i = xs.length ∨ i = ys.length)
theorem fpOk_upd {X : Cx} {pins : List (Addr × Obj)} {H : Hp} {b p : Addr} {o : HO} (h : FpOk X pins H b) (n : b ≠ p) : FpOk X pins (upd H p o) b := ⟨by rw [upd_ne n]; exact h.1, h.2⟩
theorem fp_five {X : Cx} {pins : List (Addr × Obj)} {σ : L2.St} {H H1 : Hp} {s : Shared} (I : Inv X pins σ H s) (e : ∀ n, s.heap.objs.size ≤ n → H1 n = none) : ∀ c ∈ [s.heap.objs.size + 4, s.heap.objs.size + 2, s.heap.objs.size + 3, s.heap.objs.size, s.heap.objs.size + 1], FpOk X pins H1 c := fun c m => by
  have m' : c = s.heap.objs.size + 4 ∨ c = s.heap.objs.size + 2 ∨ c = s.heap.objs.size + 3 ∨ c = s.heap.objs.size ∨ c = s.heap.objs.size + 1 := by simpa using m
  have le : s.heap.objs.size ≤ c := by
    have k : ∀ n : Nat, s.heap.objs.size ≤ s.heap.objs.size + n := fun n => Nat.le_add_right _ n
    rcases m' with q | q | q | q | q <;> subst q <;> first | exact k _ | exact Nat.le_refl _
  exact I.fpOk le (e c le)
theorem turn_mix {P : Program} {w : World} {K : PySem.W.Frag} {elts : List Expr} {kk : Nat} {tpos : Pos} {a b z TI TO i1 i2 : Addr} (D : ZipApart z TI TO i1 i2 a b) :
    Turn P w K (.Tuple elts kk tpos) (ItM K a b) [z, TI, TO, i1, i2] z (fun i h => IsZip h z TI TO .none ∧ IsTupOf2 h TI (.ref i1) (.ref i2) ∧ (∃ x y, IsTupOf2 h TO x y) ∧ h.IsTupleIter i1 a i ∧ h.IsListIter i2 b i) where
  mem := List.mem_cons_self ..
  obj := fun i h ⟨hz, hTI, ⟨x, y, hTO⟩, ⟨o1, e1, _, d1⟩, ⟨o2, e2, _, d2⟩⟩ c hc => by
    have hc' : c = z ∨ c = TI ∨ c = TO ∨ c = i1 ∨ c = i2 := by simpa using hc
    rcases hc' with q | q | q | q | q <;> subst q
    · exact ⟨_, hz, fun v q => nomatch q⟩
    · exact ⟨_, hTI, fun v q => nomatch q⟩
    · exact ⟨_, hTO, fun v q => nomatch q⟩
    · exact ⟨o1, e1, fun v q => nomatch d1 ▸ q⟩
    · exact ⟨o2, e2, fun v q => nomatch d2 ▸ q⟩
  keep := fun i h h' ⟨hz, hTI, ⟨x, y, hTO⟩, h1, h2⟩ k => ⟨k z (by simp) _ hz, k TI (by simp) _ hTI, ⟨x, y, k TO (by simp) _ hTO⟩, h1.at fun o q => k i1 (by simp) o q, h2.at fun o q => k i2 (by simp) o q⟩
  item := by
    intro X hP hw hK hc i pins s σ H E I hf ⟨hz, hTI, ⟨x0, y0, hTO⟩, h1, h2⟩ ⟨xs, ys, x, y, qx, qy, ex, ey⟩
    subst hP hw hK
    obtain ⟨us, rx, px, _⟩ := I.tuple qx
    obtain ⟨vs, ry, py, _⟩ := I.list qy
    have lx := rx.length
    have ly := ry.length
    have ix : i < xs.length := (List.getElem?_eq_some_iff.mp ex).1
    have iy : i < ys.length := (List.getElem?_eq_some_iff.mp ey).1
    have zl : z < s.heap.objs.size := Heap.lt_size hz
    refine wpAny_pyNext_zipD2_item (i := i) (sepM D) (Draws.tuple (A := X.A.in1) (show X.A.in1.handled = none from I.ok.hd hc) i1 a D.l1i1 us.toArray) (Draws.list (A := X.A.in1) (show X.A.in1.handled = none from I.ok.hd hc) i2 b D.l2i2 vs.toArray) hz hTI hTO ⟨h1, px⟩ ⟨h2, py.isList⟩ (by simp; omega) (by simp; omega) fun u v h' tk hu hv z' t' m1 m2 np ns kp => ?_
    refine ⟨_, rfl, wpAny_letOwnedTupleGo_zip (s := { s with heap := h', toks := tk }) z' fun h2' z2 sb => ?_⟩
    obtain ⟨u', hu', ru⟩ := rx.get ex
    obtain ⟨v', hv', rv⟩ := ry.get ey
    have eu : u' = u := by
      have q : us.toArray[i]? = some u := hu
      rw [show us.toArray[i]? = us[i]? by simp, hu'] at q
      exact Option.some.inj q
    have ev : v' = v := by
      have q : vs.toArray[i]? = some v := hv
      rw [show vs.toArray[i]? = vs[i]? by simp, hv'] at q
      exact Option.some.inj q
    rw [eu] at ru
    rw [ev] at rv
    have np2 : h2'.get? s.heap.objs.size = some { cls := .type "tuple", data := .seq #[u, v] } := (sb.2 _ (Nat.ne_of_gt zl)).trans np
    have J : Inv X pins σ (upd H s.heap.objs.size (.tup [x, y])) { s with heap := h2', toks := tk } := I.turnedNew (ch := [z, TI, TO, i1, i2])
      (fun c o hb q => (sb.2 c fun w' => hb (by simp [w'])).trans (kp c o (fun w' => hb (by simp [w'])) (fun w' => hb (by simp [w'])) (fun w' => hb (by simp [w'])) (fun w' => hb (by simp [w'])) q)) hf (Nat.le_refl _)
      (show ObjOk X.prog X.w _ _ _ (.tup [x, y]) from ⟨by show 2 ≤ sizeLine; decide, [u, v], .cons ru (.cons rv .nil), ⟨_, np2, rfl, _, rfl⟩⟩)
    refine ⟨.ref s.heap.objs.size, _, J, rfl, ⟨_, x, y, rfl, I.hok.fresh (Nat.le_refl _), rfl, fun l hl => by rw [I.tuple_inj hl qx]; exact ex, fun l hl => by rw [I.list_inj hl qy]; exact ey⟩, ⟨z2, (sb.2 _ D.TIz).trans (kp _ _ D.TIz D.TITO D.TIi1 D.TIi2 hTI), ⟨u, v, (sb.2 _ D.TOz).trans t'⟩, m1.1.at fun o q => (sb.2 _ D.i1z).trans q, m2.1.at fun o q => (sb.2 _ D.i2z).trans q⟩, fun c m => ?_⟩
    have c1 := (hf c m).1
    obtain ⟨o, ho, _⟩ : ∃ o, s.heap.get? c = some o ∧ True := by
      have m' : c = z ∨ c = TI ∨ c = TO ∨ c = i1 ∨ c = i2 := by simpa using m
      obtain ⟨o1, e1, _⟩ := h1
      obtain ⟨o2, e2, _⟩ := h2
      rcases m' with q | q | q | q | q <;> subst q <;> exact ⟨_, by assumption, trivial⟩
    rw [upd_ne (Nat.ne_of_lt (Heap.lt_size ho))]
    exact c1
  done := by
    intro X hP hw hK hc i pins s σ H E I hf ⟨hz, hTI, ⟨x0, y0, hTO⟩, h1, h2⟩ ⟨xs, ys, qx, qy, ix, iy, en⟩
    subst hP hw hK
    obtain ⟨us, rx, px, _⟩ := I.tuple qx
    obtain ⟨vs, ry, py, _⟩ := I.list qy
    have lx := rx.length
    have ly := ry.length
    exact wpAny_pyNext_zipD2_end (i := i) (sepM D) (Draws.tuple (A := X.A.in1) (show X.A.in1.handled = none from I.ok.hd hc) i1 a D.l1i1 us.toArray) (Draws.list (A := X.A.in1) (show X.A.in1.handled = none from I.ok.hd hc) i2 b D.l2i2 vs.toArray) hz hTI hTO ⟨h1, px⟩ ⟨h2, py.isList⟩ (by simp; omega) (by simp; omega) (by simp; omega) fun h' tk kp =>
      ⟨rfl, I.turnedL (t' := tk) (ch := [z, TI, TO, i1, i2]) (fun c o hb q => kp c o (fun w' => hb (by simp [w'])) (fun w' => hb (by simp [w'])) (fun w' => hb (by simp [w'])) (fun w' => hb (by simp [w'])) q) hf⟩
  self := fun A i s Q E st h => wpAny_pyIter_zip st.1 h
/-- zip(e, e2), a tuple and a list -/
def iZipM (K : PySem.W.Frag) (ta : TA) : TI := fun σ H R => ta σ H fun vs H1 => ∃ a b xs ys, vs = [.ref a, .ref b] ∧ SqT K H1 a xs ∧ SqL K H1 b ys ∧ R (ItM K a b) H1
theorem pi_zipM {X : Cx} {e e2 : Expr} {ta : TA} {p pos tpos : Pos} {elts : List Expr} {kk : Nat} (hg : Gl X "zip") (hm : X.mg "zip" = none) (ha : PA X [e, e2] ta) (hs : starEach [e, e2] X.env = (false, eval e X.env) :: starEach [e2] X.env := by rfl) (hpl : (backTo pos (starEach [e2] X.env)).any (·.1) = false := by rfl) :
    PI X (.Tuple elts kk tpos) (.Call (.Name "zip" p) [e, e2] [] pos) (iZipM X.K ta) := by
  refine ⟨fun pins s σ H R I h => Call_ (ld_blt I hg hm PyProof.Rows.boot_zip (PyProof.Rows.callWith_type1 (thn (ha.run pos pins s σ H _ I h) fun us s1 ⟨vs, H1, I1, r1, a, b, xs, ys, ex, qx, qy, q⟩ => ?_) hs hpl))⟩
  subst ex
  cases r1 with
  | cons r rr =>
  cases rr with
  | cons r' rr =>
  cases rr; cases r; cases r'
  obtain ⟨i1, _, px, _⟩ := I1.tuple qx
  obtain ⟨i2, _, py, _⟩ := I1.list qy
  obtain ⟨o1, lt1, _⟩ := id px
  refine zip_begins2 (begins_tuple a i1.toArray) (begins_list b i2.toArray) px py.isList fun h' hz hTI hTO g1 g2 _ kp => wpAny_pyIter_zip hz ?_
  exact ⟨s1.heap.objs.size + 4, [s1.heap.objs.size + 4, s1.heap.objs.size + 2, s1.heap.objs.size + 3, s1.heap.objs.size, s1.heap.objs.size + 1], _, _, H1, rfl, I1.kept (t' := s1.toks) kp, turn_mix (PySem.W.ktu_apart s1.heap.objs.size a b (Heap.lt_size lt1) py.lt), ⟨hz, hTI, ⟨_, _, hTO⟩, ⟨_, g1, rfl, rfl⟩, ⟨_, g2, rfl, rfl⟩⟩, fp_five I1 fun n hn => I1.hok.fresh hn, q⟩
end Nz
/-! list(zip(a tuple, a list)). -/
namespace Nz
open PySem PySem.Spec PyProof.Rows L2
theorem zip_len0 : typeLookup (.type "zip") "__len__" = pure none := am_miss_of_fast (by decide +kernel)
theorem zip_hint0 : typeLookup (.type "zip") "__length_hint__" = pure none := am_miss_of_fast (by decide +kernel)
section
variable {prog : Program} {w : World} {A : Around} {s : Shared} {R : Result → Shared → Prop}
/-- list(a zip): up to its loop *)-/
theorem init_zip {S z TI TO : Addr} {f0 : Value} {c0 : Nat} (hz : IsZip s.heap z TI TO f0) (ne : S ≠ z) (hS : s.heap.get? S = some { cls := .type "list", data := .seq #[] c0 })
    (hR : ∀ h' c', h'.get? S = some { cls := .type "list", data := .seq #[] c' } → (∀ b o, b ≠ S → s.heap.get? b = some o → h'.get? b = some o) → codeAny (model prog w) A (.builtin "list.extend.loop" ⟨[.ref S, .ref z, .none], []⟩) R { s with heap := h' }) :
    wpAny (model prog w) A.in1 (Builtin.«list.__init__» ⟨[.ref S, .ref z], []⟩) (fun fin s' => match fin with | .done f => R (.ok f) s' | .again c' => c'.quiet = true ∧ codeAny (model prog w) A c' R s') (fun e s' => R (.error e) s') s := by
  show wpAny _ A.in1 (do let old ← Builtin.List.listItems (.ref S); Builtin.List.listUpdate (.ref S) (fun _ => #[]); letGo old.toList.reverse; Builtin.List.listExtendWith (.ref S) (.ref z) .none) _ _ s
  refine wpAny_bind ?_; unfold Builtin.List.listItems; refine wpAny_bind (wpAny_seqItems hS rfl (wpAny_pure ?_))
  show wpAny _ A.in1 (updateSeq S (fun _ => #[]) >>= fun _ => letGo (#[] : Array Value).toList.reverse >>= fun _ => Builtin.List.listExtendWith (.ref S) (.ref z) .none) _ _ s
  refine wpAny_bind (wpAny_updateSeq hS rfl (wpAny_bind (wpAny_letGo ?_)))
  have S2 := Heap.get?_update_self (Obj.mapSeq (fun _ => (#[] : Array Value))) hS rfl
  have o2 : ∀ b o, b ≠ S → s.heap.get? b = some o → (s.heap.update S (Obj.mapSeq (fun _ => (#[] : Array Value)))).get? b = some o := fun b o n e => (Heap.get?_update_other _ _ (Ne.symm n)).trans e
  have tz : ({ s with heap := s.heap.update S (Obj.mapSeq (fun _ => (#[] : Array Value))) } : Shared).TypeIs (.ref z) "zip" := ⟨_, o2 z _ (Ne.symm ne) hz, rfl⟩
  unfold Builtin.List.listExtendWith
  refine wpAny_bind (wpAny_typeOf tz ?_)
  simp only [show Builtin.List.listSameRef (.ref S) (.ref z) = false by simp [Builtin.List.listSameRef, ne], show (Value.type "zip" == Value.type "list") = false by decide, show (Value.type "zip" == Value.type "tuple") = false by decide, Bool.or_false, Bool.false_eq_true, if_false]
  refine wpAny_bind (wpAny_pyIter_zip (o2 z _ (Ne.symm ne) hz) ?_); refine wpAny_bind (wpAny_holding ?_); unfold Builtin.List.listLengthHint
  refine wpAny_bind (wpAny_specialOf tz zip_len0 ?_); show wpAny _ A.in1 (specialOf (Value.ref z) (Str.ofString "__length_hint__") >>= _) _ _ _
  refine wpAny_bind (wpAny_specialOf tz zip_hint0 (wpAny_pure ?_))
  show wpAny _ A.in1 (rule "list.extend.makes-room" >>= fun _ => Builtin.List.listTouch (.ref S) >>= fun _ => again (.builtin "list.extend.loop" ⟨[.ref S, .ref z, .none], []⟩)) _ _ _
  refine wpAny_bind (wpAny_rule (wpAny_bind ?_)); show wpAny _ A.in1 (updateSeq S (·.push .none) >>= fun _ => updateSeq S (·.pop)) _ _ _
  refine wpAny_bind (wpAny_updateSeq S2 rfl ?_)
  have S3 := Heap.get?_update_self (Obj.mapSeq (·.push Value.none)) S2 rfl
  refine wpAny_updateSeq (hz := by seq_fits) S3 rfl (wpAny_pure ⟨plainId_quiet F.plain_extend_loop _, hR _ _ (Heap.get?_update_self (Obj.mapSeq (·.pop)) S3 rfl) fun b o n e => (Heap.get?_update_other _ _ (Ne.symm n)).trans ((Heap.get?_update_other _ _ (Ne.symm n)).trans (o2 b o n e))⟩)
end
/-- pairs that stand -/
def PZ (H0 H : Hp) (xs ys ps : List V) (i : Nat) : Prop := ps.length = i ∧ ∀ j, j < i → ∃ p x y, ps[j]? = some (.ref p) ∧ H0 p = none ∧ H p = some (.tup [x, y]) ∧ xs[j]? = some x ∧ ys[j]? = some y
theorem PZ.mono {H0 H H' : Hp} {xs ys ps : List V} {i : Nat} (h : PZ H0 H xs ys ps i) (k : ∀ p u, H p = some (.tup u) → H' p = some (.tup u)) : PZ H0 H' xs ys ps i := ⟨h.1, fun j hj => by
  obtain ⟨p, x, y, e1, e0, e2, e3⟩ := h.2 j hj
  exact ⟨p, x, y, e1, e0, k _ _ e2, e3⟩⟩
theorem PZ.add {H0 H : Hp} {xs ys ps : List V} {i : Nat} {p : Addr} {x y : V} (h : PZ H0 H xs ys ps i) (h0 : H0 p = none) (hp : H p = some (.tup [x, y])) (ex : xs[i]? = some x) (ey : ys[i]? = some y) : PZ H0 H xs ys (ps ++ [.ref p]) (i + 1) := by
  refine ⟨by rw [List.length_append, h.1]; rfl, fun j hj => ?_⟩
  by_cases c : j < i
  · obtain ⟨p', x', y', e1, e2⟩ := h.2 j c
    exact ⟨p', x', y', by rw [List.getElem?_append_left (by rw [h.1]; exact c)]; exact e1, e2⟩
  · have e : j = i := by omega
    subst e
    exact ⟨p, x, y, by rw [List.getElem?_append_right (by rw [h.1]; exact Nat.le_refl _), h.1, Nat.sub_self]; rfl, h0, hp, ex, ey⟩
theorem zip_loop {X : Cx} {pins : List (Addr × Obj)} {σ : L2.St} {A : Around} {R : Result → Shared → Prop} {S z TI TO i1 i2 a b : Addr} {xs ys : List V} {H0 : Hp} (hc : X.calm = true) (hh : A.handled = none) (D : ZipApart z TI TO i1 i2 a b) (hS0 : H0 S = none)
    (qx : ∀ H, (∀ b o, b ≠ S → H0 b = some o → H b = some o) → SqT X.K H a xs) (qy : ∀ H, (∀ b o, b ≠ S → H0 b = some o → H b = some o) → SqL X.K H b ys) (lim : min xs.length ys.length < sizeLine)
    (hR : ∀ ps H' s', Inv X pins σ H' s' → H' S = some (.lst ps) → PZ H0 H' xs ys ps (min xs.length ys.length) → (∀ b o, b ≠ S → H0 b = some o → H' b = some o) → R (.ok (.ret .none)) s') :
    ∀ (k i : Nat) (s : Shared) (H : Hp) (ps : List V), min xs.length ys.length - i = k → i ≤ min xs.length ys.length → Inv X pins σ H s → H S = some (.lst ps) → PZ H0 H xs ys ps i → (∀ b o, b ≠ S → H0 b = some o → H b = some o) → (∀ c ∈ [z, TI, TO, i1, i2], FpOk X pins H c) → (∀ c ∈ [z, TI, TO, i1, i2], c < s.heap.objs.size) →
      IsTupOf2 s.heap TI (.ref i1) (.ref i2) → s.heap.IsTupleIter i1 a i → s.heap.IsListIter i2 b i → ((IsZip s.heap z TI TO .none ∧ ∃ x y, IsTupOf2 s.heap TO x y) ∨ ∃ T f u, IsZipHeld s.heap z TI TO T f ∧ H T = some (.tup u)) →
      codeAny (model X.prog X.w) A (.builtin "list.extend.loop" ⟨[.ref S, .ref z, .none], []⟩) R s := by
  intro k
  induction k with
  | zero =>
    intro i s H ps hk hi I hS pz kH hf hl hTI h1 h2 st
    have ei : i = min xs.length ys.length := by omega
    refine codeAny_builtin F.entry_extend_loop ?_; rw [Around.under_plainId F.plain_extend_loop _]; show wpAny _ A.in1 (pyNext (.ref z) >>= _) _ _ s
    obtain ⟨us, rx, px, _⟩ := I.tuple (qx H kH)
    obtain ⟨vs, ry, py, _⟩ := I.list (qy H kH)
    have lx := rx.length
    have ly := ry.length
    have fin : ∀ h' tk, (∀ c o, c ≠ z → c ≠ TO → c ≠ i1 → c ≠ i2 → s.heap.get? c = some o → h'.get? c = some o) → R (.ok (.ret .none)) { s with heap := h', toks := tk } := fun h' tk kp =>
      hR ps H _ (I.turnedL (t' := tk) (ch := [z, TI, TO, i1, i2]) (fun c o hb q => kp c o (fun w' => hb (by simp [w'])) (fun w' => hb (by simp [w'])) (fun w' => hb (by simp [w'])) (fun w' => hb (by simp [w'])) q) hf) hS (ei ▸ pz) kH
    rcases st with ⟨hz, x0, y0, hTO⟩ | ⟨T, f, u, hz, hT⟩
    · exact wpAny_bind (wpAny_pyNext_zipD2_end (i := i) (sepM D) (Draws.tuple (A := A.in1.in1) (show A.in1.in1.handled = none from hh) i1 a D.l1i1 us.toArray) (Draws.list (A := A.in1.in1) (show A.in1.in1.handled = none from hh) i2 b D.l2i2 vs.toArray) hz hTI hTO ⟨h1, px⟩ ⟨h2, py.isList⟩ (by simp; omega) (by simp; omega) (by simp; omega) fun h' tk kp => wpAny_pure (fin h' tk kp))
    · obtain ⟨_, its, r, o, ho, _⟩ := I.hok T _ hT
      exact wpAny_bind (zipO_stop (i := i) (sepM D) (Draws.tuple (A := A.in1.in1) (show A.in1.in1.handled = none from hh) i1 a D.l1i1 us.toArray) (Draws.list (A := A.in1.in1) (show A.in1.in1.handled = none from hh) i2 b D.l2i2 vs.toArray) hz ho hTI ⟨h1, px⟩ ⟨h2, py.isList⟩ (by simp; omega) (by simp; omega) (by simp; omega) fun h' tk kp => wpAny_pure (fin h' tk fun c o a1 _ a3 a4 q => kp c o a1 a3 a4 q))
  | succ k ih =>
    intro i s H ps hk hi I hS pz kH hf hl hTI h1 h2 st
    have lt : i < min xs.length ys.length := by omega
    refine codeAny_builtin F.entry_extend_loop ?_; rw [Around.under_plainId F.plain_extend_loop _]; show wpAny _ A.in1 (pyNext (.ref z) >>= _) _ _ s
    obtain ⟨us, rx, px, _⟩ := I.tuple (qx H kH)
    obtain ⟨vs, ry, py, _⟩ := I.list (qy H kH)
    have lx := rx.length
    have ly := ry.length
    have ix : i < xs.length := by omega
    have iy : i < ys.length := by omega
    have ex := List.getElem?_eq_getElem ix
    have ey := List.getElem?_eq_getElem iy
    obtain ⟨u', hu', ru⟩ := rx.get ex
    obtain ⟨v', hv', rv⟩ := ry.get ey
    have nS : ∀ c ∈ [z, TI, TO, i1, i2], c ≠ S := fun c m q => by
      have q1 := (hf c m).1
      rw [q, hS] at q1
      cases q1
    have sl : S < s.heap.objs.size := by
      obtain ⟨_, its, n, _, e⟩ := I.hok S _ hS
      exact Heap.lt_size e
    have step : ∀ (h' : Heap) (tk : Nat) (u v : Value) (g : Addr × Bool), h'.objs.size = s.heap.objs.size + 1 → us.toArray[i]? = some u → vs.toArray[i]? = some v → IsZipHeld h' z TI TO g.1 g.2 → (g.1 = s.heap.objs.size ∨ ∃ u, H g.1 = some (.tup u)) → h'.IsTupleIter i1 a (i + 1) → h'.IsListIter i2 b (i + 1) → IsTupOf2 h' s.heap.objs.size u v → (∀ c o, c ≠ z → c ≠ TO → c ≠ i1 → c ≠ i2 → s.heap.get? c = some o → h'.get? c = some o) →
        wpAny (model X.prog X.w) A.in1 (updateSeq S (·.push (.ref s.heap.objs.size)) >>= fun _ => again (.builtin "list.extend.loop" ⟨[.ref S, .ref z, .none], []⟩)) (fun fin s' => match fin with | .done f => R (.ok f) s' | .again c' => c'.quiet = true ∧ codeAny (model X.prog X.w) A c' R s') (fun e s' => R (.error e) s') { s with heap := h', toks := tk } := by
      intro h' tk u v g ns hu hv z' gT m1 m2 np kp
      have eu : u' = u := by
        rw [show us.toArray[i]? = us[i]? by simp, hu'] at hu
        exact Option.some.inj hu
      have ev : v' = v := by
        rw [show vs.toArray[i]? = vs[i]? by simp, hv'] at hv
        exact Option.some.inj hv
      have J : Inv X pins σ (upd H s.heap.objs.size (.tup [xs[i], ys[i]])) { s with heap := h', toks := tk } := I.turnedNew (ch := [z, TI, TO, i1, i2])
        (fun c o hb q => kp c o (fun w' => hb (by simp [w'])) (fun w' => hb (by simp [w'])) (fun w' => hb (by simp [w'])) (fun w' => hb (by simp [w'])) q) hf (Nat.le_refl _)
        (show ObjOk X.prog X.w _ _ _ (.tup [xs[i], ys[i]]) from ⟨by show 2 ≤ sizeLine; decide, [u, v], .cons (eu ▸ ru) (.cons (ev ▸ rv) .nil), ⟨_, np, rfl, _, rfl⟩⟩)
      have hS1 : upd H s.heap.objs.size (.tup [xs[i], ys[i]]) S = some (.lst ps) := by rw [upd_ne (Nat.ne_of_lt sl)]; exact hS
      obtain ⟨_, its, n, ri, eS⟩ := J.hok S _ hS1
      have li := ri.length
      have S2 := Heap.get?_update_self (Obj.mapSeq (·.push (Value.ref s.heap.objs.size))) eS rfl
      have fl : H s.heap.objs.size = none := I.hok.fresh (Nat.le_refl _)
      have pl := pz.1
      refine wpAny_bind (wpAny_updateSeq eS rfl (wpAny_pure ⟨plainId_quiet F.plain_extend_loop _, ih (i + 1) _ (upd (upd H s.heap.objs.size (.tup [xs[i], ys[i]])) S (.lst (ps ++ [.ref s.heap.objs.size]))) (ps ++ [.ref s.heap.objs.size]) (by omega) lt ?_ upd_same ?_ ?_ ?_ ?_ ?_ ?_ ?_ ?_⟩) ?_ ?_)
      · refine J.write (t' := tk) (by rw [hS1]; trivial) (.inl rfl) (fun b u hb q => (Heap.get?_update_other _ _ (Ne.symm hb)).trans q) ⟨_, S2⟩ (show ObjOk X.prog X.w _ _ _ (.lst (ps ++ [.ref s.heap.objs.size])) from ⟨by rw [List.length_append]; show ps.length + 1 ≤ _; omega, its ++ [Value.ref s.heap.objs.size], n + 1, ri.append (.cons (show L2.RelV (V.ref s.heap.objs.size) (Value.ref s.heap.objs.size) from rfl) .nil), ?_⟩)
        rw [S2]
        simp [Obj.mapSeq]
      · refine PZ.add (pz.mono fun p u e => ?_) ?_ ?_ ex ey
        · have n1 : p ≠ S := fun q => by rw [q, hS] at e; cases e
          have n2 : p ≠ s.heap.objs.size := ne_of_none e fl
          rw [upd_ne n1, upd_ne n2]
          exact e
        · cases q : H0 s.heap.objs.size with
          | none => rfl
          | some o =>
            have z := kH _ _ (Nat.ne_of_gt sl) q
            rw [fl] at z
            cases z
        · rw [upd_ne (Nat.ne_of_gt sl)]
          exact upd_same
      · intro c o n e
        rw [upd_ne n, upd_ne (ne_of_none (kH c o n e) fl)]
        exact kH c o n e
      · intro c m
        exact fpOk_upd (fpOk_upd (hf c m) (Nat.ne_of_lt (hl c m))) (nS c m)
      · intro c m
        show c < (h'.update S _).objs.size
        rw [Heap.size_update, ns]
        exact Nat.lt_succ_of_lt (hl c m)
      · exact (Heap.get?_update_other _ _ (nS TI (by simp)).symm).trans (kp _ _ D.TIz D.TITO D.TIi1 D.TIi2 hTI)
      · exact m1.at fun o q => (Heap.get?_update_other _ _ (nS i1 (by simp)).symm).trans q
      · exact m2.at fun o q => (Heap.get?_update_other _ _ (nS i2 (by simp)).symm).trans q
      · refine .inr ⟨g.1, g.2, ?_⟩
        have zz : IsZipHeld (h'.update S (Obj.mapSeq (·.push (Value.ref s.heap.objs.size)))) z TI TO g.1 g.2 := (Heap.get?_update_other _ _ (nS z (by simp)).symm).trans z'
        rcases gT with e | ⟨u2, e⟩
        · exact ⟨[xs[i], ys[i]], zz, by rw [e, upd_ne (Nat.ne_of_gt sl)]; exact upd_same⟩
        · have n1 : g.1 ≠ S := fun q => by rw [q, hS] at e; cases e
          exact ⟨u2, zz, by rw [upd_ne n1, upd_ne (ne_of_none e fl)]; exact e⟩
      · simp; omega
      · simp; omega
    rcases st with ⟨hz, x0, y0, hTO⟩ | ⟨T, f, u, hz, hT⟩
    · refine wpAny_bind (wpAny_pyNext_zipD2_item (i := i) (sepM D) (Draws.tuple (A := A.in1.in1) (show A.in1.in1.handled = none from hh) i1 a D.l1i1 us.toArray) (Draws.list (A := A.in1.in1) (show A.in1.in1.handled = none from hh) i2 b D.l2i2 vs.toArray) hz hTI hTO ⟨h1, px⟩ ⟨h2, py.isList⟩ (by simp; omega) (by simp; omega) fun u v h' tk hu hv z' t' m1 m2 np ns kp => ?_)
      exact step h' tk u v (s.heap.objs.size, false) ns hu hv z' (.inl rfl) m1.1 m2.1 np kp
    · obtain ⟨_, its, r, o, ho, _⟩ := I.hok T _ hT
      refine wpAny_bind (zipO_next (i := i) (sepM D) (Draws.tuple (A := A.in1.in1) (show A.in1.in1.handled = none from hh) i1 a D.l1i1 us.toArray) (Draws.list (A := A.in1.in1) (show A.in1.in1.handled = none from hh) i2 b D.l2i2 vs.toArray) hz ho hTI ⟨h1, px⟩ ⟨h2, py.isList⟩ (by simp; omega) (by simp; omega) fun u2 v h' tk hu hv z' m1 m2 np ns kp => ?_)
      exact step h' tk u2 v (T, true) ns hu hv z' (.inr ⟨u, hT⟩) m1.1 m2.1 np fun c o a1 _ a3 a4 q => kp c o a1 a3 a4 q
/-- list(zip(e, e2)): a new list of new pairs -/
def tLstZip (K : PySem.W.Frag) (ta : TA) : TE := fun σ H Q => ta σ H fun vs H1 => ∃ a b xs ys, vs = [.ref a, .ref b] ∧ SqT K H1 a xs ∧ SqL K H1 b ys ∧ min xs.length ys.length < sizeLine ∧ ∀ q ps H2, H1 q = none → (∀ c o, H1 c = some o → H2 c = some o) → H2 q = some (.lst ps) → PZ H1 H2 xs ys ps (min xs.length ys.length) → Q (.ref q) H2
theorem pe_listZip {X : Cx} {e e2 : Expr} {ta : TA} {p pos p2 pos2 : Pos} (hc : X.calm = true) (hg : Gl X "list") (hm : X.mg "list" = none) (hg2 : Gl X "zip") (hm2 : X.mg "zip" = none) (ha : PA X [e, e2] ta)
    (na : starEach [.Call (.Name "zip" p2) [e, e2] [] pos2] X.env = (false, eval (.Call (.Name "zip" p2) [e, e2] [] pos2) X.env) :: starEach [] X.env := by rfl) (hs : starEach [e, e2] X.env = (false, eval e X.env) :: starEach [e2] X.env := by rfl) (hpl : (backTo pos2 (starEach [e2] X.env)).any (·.1) = false := by rfl) :
    PE X (.Call (.Name "list" p) [.Call (.Name "zip" p2) [e, e2] [] pos2] [] pos) (tLstZip X.K ta) := by
  refine ⟨fun pins s σ H Q I h => Call_ (ld_blt I hg hm boot_list (PyProof.Rows.callWith_type1 (args_cons (Call_ (ld_blt I hg2 hm2 PyProof.Rows.boot_zip (PyProof.Rows.callWith_type1 (thn (ha.run pos2 pins s σ H _ I h) fun us s1 ⟨vs, H1, I1, r1, a, b, xs, ys, ex, qx, qy, lim, q⟩ => ?_) hs hpl))) na) na))⟩
  subst ex
  cases r1 with
  | cons r rr =>
  cases rr with
  | cons r' rr =>
  cases rr; cases r; cases r'
  obtain ⟨i1, rx, px, _⟩ := I1.tuple qx
  obtain ⟨i2, ry, py, _⟩ := I1.list qy
  obtain ⟨o1, lt1, _⟩ := id px
  have f5 := fp_five (H1 := H1) I1 fun n hn => I1.hok.fresh hn
  refine zip_begins2 (begins_tuple a i1.toArray) (begins_list b i2.toArray) px py.isList fun h' hz hTI hTO g1 g2 hsz kp => args_nil ?_
  have I2 : Inv X pins σ H1 { s1 with heap := h' } := I1.kept (t' := s1.toks) kp
  have fS : H1 h'.objs.size = none := I2.hok.fresh (Nat.le_refl _)
  refine callType_codes (s := { s1 with heap := h' }) (Q₁ := fun obj s₁ => obj = .ref h'.objs.size ∧ s₁ = { s1 with heap := h'.push { cls := .type "list", data := .seq #[] } }) F.called_list (F.typeCall_list_1 _) F.entry_list_init (code_list_new _ ⟨rfl, rfl⟩) fun obj s₁ ⟨e1, e2⟩ => ?_
  subst e1 e2
  have hS : (h'.push { cls := .type "list", data := .seq #[] }).get? h'.objs.size = some { cls := .type "list", data := .seq #[] } := Heap.get?_push_size _ rfl
  have lt5 : ∀ c ∈ [s1.heap.objs.size + 4, s1.heap.objs.size + 2, s1.heap.objs.size + 3, s1.heap.objs.size, s1.heap.objs.size + 1], c < h'.objs.size := fun c m => by
    rw [hsz]
    have m' : c = s1.heap.objs.size + 4 ∨ c = s1.heap.objs.size + 2 ∨ c = s1.heap.objs.size + 3 ∨ c = s1.heap.objs.size ∨ c = s1.heap.objs.size + 1 := by simpa using m
    have k : ∀ n : Nat, n < 5 → s1.heap.objs.size + n < s1.heap.objs.size + 5 := fun n hn => Nat.add_lt_add_left hn _
    rcases m' with q | q | q | q | q <;> subst q
    · exact k 4 (by decide)
    · exact k 2 (by decide)
    · exact k 3 (by decide)
    · exact k 0 (by decide)
    · exact k 1 (by decide)
  refine ⟨⟨_, hS, rfl⟩, F.args_list_init_2 _ _, init_zip (A := X.A.in1) (z := s1.heap.objs.size + 4) (Heap.get?_push_of_some _ hz) (Nat.ne_of_gt (lt5 _ (by simp))) hS fun h2 c2 e2 k2 => ?_⟩
  have k3 : ∀ b u, h'.get? b = some u → h2.get? b = some u := fun b u e => k2 b u (Nat.ne_of_lt (Heap.lt_size e)) (Heap.get?_push_of_some _ e)
  have I3 : Inv X pins σ (upd H1 h'.objs.size (.lst [])) { s1 with heap := h2 } := I2.laid (t' := s1.toks) k3 (Nat.le_refl _) (show ObjOk X.prog X.w _ _ _ (.lst []) from ⟨Nat.zero_le _, [], c2, .nil, e2⟩)
  refine zip_loop (A := X.A.in1) (S := h'.objs.size) (H0 := H1) (xs := xs) (ys := ys) hc (I.ok.hd hc) (PySem.W.ktu_apart s1.heap.objs.size a b (Heap.lt_size lt1) py.lt) fS (fun H' k => ?_) (fun H' k => ?_) lim (fun ps H' s' J hJ pz kk => ?_) _ 0 _ _ [] rfl (Nat.zero_le _) I3 upd_same ⟨rfl, fun j hj => absurd hj (Nat.not_lt_zero _)⟩ (fun c o n e => by rw [upd_ne n]; exact e) (fun c m => fpOk_upd (f5 c m) (Nat.ne_of_lt (lt5 c m))) (fun c m => ?_) (k3 _ _ hTI) ⟨_, k3 _ _ g1, rfl, rfl⟩ ⟨_, k3 _ _ g2, rfl, rfl⟩ (.inl ⟨k3 _ _ hz, _, _, k3 _ _ hTO⟩)
  · rcases qx with (c | ⟨o, c⟩) | c
    · exact .inl (.inl (k _ _ (ne_of_none c fS) c))
    · exact .inl (.inr ⟨o, k _ _ (ne_of_none c fS) c⟩)
    · exact .inr c
  · rcases qy with (c | ⟨o, c⟩) | c
    · exact .inl (.inl (k _ _ (ne_of_none c fS) c))
    · exact .inl (.inr ⟨o, k _ _ (ne_of_none c fS) c⟩)
    · exact .inr c
  · exact ⟨rfl, .ref h'.objs.size, H', J, rfl, q _ ps H' fS (fun c o e => kk c o (ne_of_none e fS) e) hJ pz⟩
  · have : h2.objs.size ≥ h'.objs.size := by
      obtain ⟨o, ho⟩ : ∃ o, h2.get? h'.objs.size = some o := ⟨_, e2⟩
      exact Nat.le_of_lt (Heap.lt_size ho)
    exact Nat.lt_of_lt_of_le (lt5 c m) this
end Nz
/-! More of lists: items of own lists, sum, max, stars, walks from the end, pairs, two fors. -/
namespace Nz
open PySem L2
theorem IsDs.set {S : Addr → Prop} {H : Hp} {d : D} {v : V} (h : IsD S H d v) : ∀ {ds : List D} {vs : List V} {j : Nat}, IsDs S H ds vs → IsDs S H (ds.set j d) (vs.set j v)
  | [], _, _, i => by
    cases i
    exact rfl
  | _ :: _, _, 0, ⟨w, r, e, _, i2⟩ => by
    subst e
    exact ⟨v, r, rfl, h, i2⟩
  | _ :: _, _, j + 1, ⟨w, r, e, i1, i2⟩ => by
    subst e
    exact ⟨w, _, rfl, i1, IsDs.set h i2⟩
theorem IsDs.rev {S : Addr → Prop} {H : Hp} : ∀ {ds : List D} {vs : List V}, IsDs S H ds vs → IsDs S H ds.reverse vs.reverse
  | [], _, i => by
    cases i
    exact rfl
  | _ :: _, _, ⟨w, r, e, i1, i2⟩ => by
    subst e
    rw [List.reverse_cons, List.reverse_cons]
    exact (IsDs.rev i2).app (IsDs.one i1)
theorem ixN_of {n j : Nat} (h : j < n) : ixN n (j : Int) = some j := by
  unfold ixN
  rw [if_pos (Int.natCast_nonneg j), if_pos (by omega)]
  rfl
theorem atI_end {α : Type} {xs : List α} {x : α} (h : xs.getLast? = some x) : atI xs (-1) = some x := by
  obtain ⟨ys, e⟩ := List.getLast?_eq_some_iff.mp h
  rw [e]
  exact atI_last ys x
theorem gw_name2 {d : D} {i j : Nat} {es : Es} (ij : i ≠ j) (n : noOwn es [i, j] = true) : GW (gName i) d [i, j] es (((es.set j .no).set i .no).set i (.d d)) where
  run := fun S A B H σ v E iv Q q => q _ (E.setD iv) (by
    show ((((σ.set j none).set i none).set i (some v)).set j none).set i none = (σ.set j none).set i none
    rw [List.set_set, set_comm2 ij, List.set_set, List.set_set])
  own := fun A a h => own_set_no (set_not_o (by intro xs z; cases z)) (own_wiped (vs := [i, j]) n h)
section
variable {W : Wd} {K : PySem.W.Frag} {es : Es} {ta tb tc te tl : TE} {tas : TA} {t u : TS} {x y z d : D} {xs ys ds : List D} {P : Po}
/-! ### items of own lists -/
theorem ed_ixO {i : Nat} {k : Int} (h : es[i]? = some (.o (.l ds))) (hb : ED tb es (.i k)) (hk : atI ds k = some d) : ED (tOp (rIxL K) (tVar i) tb) es d := fun S A B H σ E Q q => by
  obtain ⟨h1, h2, h3, _, h4, vs, rfl, h5⟩ := E.own i _ h
  refine ⟨_, h1, hb S A B H σ E _ fun v H2 e iv => ?_⟩
  cases iv
  obtain ⟨w, hw, iw⟩ := atI_isDs h5 hk
  exact ⟨_, vs, k, w, rfl, rfl, SqL.of (e _ _ h4), hw, q w H2 e (iw.mono (Gr.of e))⟩
theorem ed_lenO {i : Nat} (h : es[i]? = some (.o (.l ds))) : ED (tCB (rLen K) (tCons (tVar i) tNil)) es (.i (ds.length : Nat)) := ed_cbx (ex_cons (ex_own h) ex_nil) rc_lenL rfl
theorem sd_putO {i j : Nat} (h : es[i]? = some (.o (.l xs))) (hv : ED te es d) (hi : ED tb es (.i (j : Int))) (hj : j < xs.length) (k : P.nx (es.set i (.o (.l (xs.set j d))))) : SD W (tAsg te (gSub (tVar i) tb rSetL)) es P := fun S A B H σ E w F q =>
  hv S A B H σ E _ fun v H2 e iv => by
    obtain ⟨h1, h2, h3, _, h4, vs, rfl, h5⟩ := (E.mono e).own i _ h
    refine ⟨_, h1, hi S A B H2 σ (E.mono e) _ fun u H3 e3 iu => ?_⟩
    cases iu
    refine ⟨A i, vs, (j : Int), j, rfl, rfl, e3 _ _ h4, ixN_of (by rw [h5.length]; exact hj), ?_⟩
    exact q.nx _ _ _ _ k (((E.mono e).mono e3).put h ⟨_, rfl, IsDs.set (iv.mono (Gr.of e3)) (h5.mono (Gr.of e3))⟩) (((w.same e).same e3).put fun z => h2 (w.vol _ z).1).j1
theorem sq_putO {i j : Nat} (h : es[i]? = some (.o (.l xs))) (hv : ED te es d) (hi : ED tb es (.i (j : Int))) (hj : j < xs.length) (k : SD W u (es.set i (.o (.l (xs.set j d)))) P) : SD W (tSeq (tAsg te (gSub (tVar i) tb rSetL)) u) es P := sd_seq1 (sd_putO h hv hi hj rfl) k
/-! ### calls, stars, chains -/
theorem rc_sum {ns : List Int} : RC (rSum K) [.l (ns.map D.i)] (.i ns.sum) := fun S H us _ is Q q => by
  obtain ⟨v, r, rfl, ⟨a, vs, rfl, n, ha, i1⟩, i2⟩ := is
  cases i2
  have e : ∀ (ns : List Int) (vs : List V), IsDs S H (ns.map D.i) vs → vs = ns.map V.int := fun ns => by
    induction ns with
    | nil => intro vs i; cases i; rfl
    | cons m r ih =>
      intro vs i
      obtain ⟨w, r', rfl, j1, j2⟩ := i
      cases j1
      rw [ih _ j2]
      rfl
  rw [e ns vs i1] at ha
  exact ⟨a, ns, rfl, SqL.of ha, q _ H (Same.refl H) rfl⟩
theorem rc_max {ns : List Int} {m : Int} (hm : m ∈ ns) (hl : ∀ y ∈ ns, y ≤ m) : RC (rMax K) [.l (ns.map D.i)] (.i m) := fun S H us _ is Q q => by
  obtain ⟨v, r, rfl, ⟨a, vs, rfl, n, ha, i1⟩, i2⟩ := is
  cases i2
  have e : ∀ (ns : List Int) (vs : List V), IsDs S H (ns.map D.i) vs → vs = ns.map V.int := fun ns => by
    induction ns with
    | nil => intro vs i; cases i; rfl
    | cons m r ih =>
      intro vs i
      obtain ⟨w, r', rfl, j1, j2⟩ := i
      cases j1
      rw [ih _ j2]
      rfl
  rw [e ns vs i1] at ha
  refine ⟨a, ns, rfl, SqL.of ha, List.length_pos_of_mem hm, fun m' h1 h2 => ?_⟩
  have : m' = m := Int.le_antisymm (hl m' h1) (h2 m hm)
  subst this
  exact q _ H (Same.refl H) rfl
theorem ea_starL {tr : TA} (h : ED te es (.l xs)) (k : EDs tr es ys) : EDs (StX.tStar K te tr) es (xs ++ ys) := fun S A B H σ E Q q =>
  h S A B H σ E _ fun v H2 e i => by
    obtain ⟨a, vs, rfl, n, ha, is⟩ := i
    exact ⟨a, vs, rfl, .inr (SqL.of ha), k S A B H2 σ (E.mono e) _ fun ws H3 e3 js => q _ H3 (e.trans e3) ((is.mono (Gr.of e3)).app js)⟩
theorem ea_starT {tr : TA} (h : ED te es (.t xs)) (k : EDs tr es ys) : EDs (StX.tStar K te tr) es (xs ++ ys) := fun S A B H σ E Q q =>
  h S A B H σ E _ fun v H2 e i => by
    obtain ⟨a, vs, rfl, n, ha, is⟩ := i
    exact ⟨a, vs, rfl, .inl (SqT.of ha), k S A B H2 σ (E.mono e) _ fun ws H3 e3 js => q _ H3 (e.trans e3) ((is.mono (Gr.of e3)).app js)⟩
theorem ed_chain {r r' : R2} {a b : Bool} (ha : ED ta es x) (hb : ED tb es y) (h1 : RD r x y (.b a)) (hc : a = true → ∃ z, ED tc es z ∧ RD r' y z (.b b)) : ED (tChain r r' ta tb tc) es (.b (a && b)) := fun S A B H σ E Q q =>
  ha S A B H σ E _ fun u H2 e2 i => hb S A B H2 σ (E.mono e2) _ fun v H3 e3 j => h1 _ H3 u v ((E.mono e2).mono e3).dmx (i.mono (Gr.of e3)) j _ fun w' H4 e4 k => by
    cases k
    refine ⟨a, rfl, ?_⟩
    cases a with
    | false => exact q _ H4 ((e2.trans e3).trans e4) rfl
    | true =>
      obtain ⟨z, hz, hr⟩ := hc rfl
      exact hz S A B H4 σ (((E.mono e2).mono e3).mono e4) _ fun p H5 e5 m => hr _ H5 v p ((((E.mono e2).mono e3).mono e4).mono e5).dmx ((j.mono (Gr.of e4)).mono (Gr.of e5)) m Q fun w2 H6 e6 n => q w2 H6 ((((e2.trans e3).trans e4).trans e5).trans e6) n
/-! ### walks from the end -/
theorem src_revRng1 {n : Nat} (h : ED te es (.i (n : Int))) (hn : n ≤ 1000000) : Src (iRevR (tRg1 te)) es (rngD n).reverse := fun S A B H σ E R r => h S A B H σ E _ fun v H2 e i => by
  cases i
  refine ⟨(n : Int), rfl, by omega, by omega, by omega, by omega, ?_⟩
  have e1 : ((n : Int) - 0).toNat = n := by omega
  rw [e1]
  refine r _ H2 (((List.range n).map fun (k : Nat) => V.int (k : Int)).reverse) [] e (fun p hp => by cases hp) ⟨fun j H3 g hj => ?_, fun j H3 x H4 g hj y => ?_, fun j H3 g hj => ?_⟩ (isDs_rng _).rev
  · show j < n
    simpa using hj
  · have hj' : j < n := by simpa using hj
    refine ⟨y.1, ?_⟩
    rw [y.2, List.getElem?_reverse (by simpa using hj'), List.length_map, List.length_range, List.getElem?_map, List.getElem?_range (by omega)]
    show some (V.int ((n - 1 - j : Nat) : Int)) = some (V.int (0 + (n : Int) - 1 + (j : Int) * -1))
    congr 2
    omega
  · show n ≤ j
    simpa using hj
theorem src_revL (h : ED tl es (.l ds)) : Src (RT.iRevA K tl) es ds.reverse := fun S A B H σ E R r => h S A B H σ E _ fun v H2 e i => by
  obtain ⟨a, vs, rfl, n, ha, is⟩ := i
  refine ⟨a, vs, rfl, .inl ⟨SqL.of ha, r _ H2 vs.reverse [(a, .lst vs)] e (fun p hp => ?_) ⟨fun j H3 g hj => ?_, fun j H3 x H4 g hj y => ?_, fun j H3 g hj => ?_⟩ is.rev⟩⟩
  · cases List.mem_singleton.mp hp
    exact ⟨n, ha⟩
  · rw [List.length_reverse] at hj
    exact ⟨hj, vs, vs[vs.length - 1 - j], SqL.of (g _ (List.mem_singleton.mpr rfl)), List.getElem?_eq_getElem (by omega)⟩
  · rw [List.length_reverse] at hj
    refine ⟨y.1, ?_⟩
    rw [List.getElem?_reverse hj]
    exact y.2 vs (SqL.of (g _ (List.mem_singleton.mpr rfl)))
  · rw [List.length_reverse] at hj
    exact hj
/-! ### pairs -/
abbrev pD (p : D × D) : D := .t [p.1, p.2]
theorem el_listZip (ha : ED ta es (.t xs)) (hb : ED tb es (.l ys)) (hl : min xs.length ys.length < sizeLine) : EL (tLstZip K (tCons ta (tCons tb tNil))) es ((xs.zip ys).map pD) := fun S A B H σ E Q q => by
    show (tCons ta (tCons tb tNil)) σ H _
    refine (ea_cons ha (ea_cons hb ea_nil)) S A B H σ E _ fun vs H2 e is => ?_
    obtain ⟨u, _, rfl, ⟨a, us, rfl, na, qa, ia⟩, v, _, rfl, ⟨b, ws, rfl, nb, qb, ib⟩, rfl⟩ := is
    have la := ia.length
    have lb := ib.length
    refine ⟨a, b, us, ws, rfl, SqT.of qa, SqL.of qb, by rw [la, lb]; exact hl, fun Dq ps H3 hD s3 h3 pz => ?_⟩
    refine q Dq ps H3 (e.trans s3) (e.free hD) h3 ?_
    rw [la, lb] at pz
    have dm := (E.mono e).dmx
    have gen : ∀ (zs : List (D × D)) (qs : List V), zs.length = qs.length → (∀ j z, zs[j]? = some z → ∃ p : Addr, qs[j]? = some (V.ref p) ∧ IsD (fun a => Sx S A es a ∨ a = Dq) H3 (pD z) (V.ref p)) → IsDs (fun a => Sx S A es a ∨ a = Dq) H3 (zs.map pD) qs := fun zs => by
      induction zs with
      | nil =>
        intro qs hl _
        cases qs with
        | nil => exact rfl
        | cons _ _ => cases hl
      | cons z r ih =>
        intro qs hl hh
        cases qs with
        | nil => cases hl
        | cons w t =>
          obtain ⟨p, e1, i1⟩ := hh 0 z rfl
          have e1' : w = V.ref p := Option.some.inj e1
          subst e1'
          exact ⟨_, t, rfl, i1, ih t (Nat.succ.inj hl) fun j z' e' => hh (j + 1) z' e'⟩
    refine gen _ _ (by rw [List.length_zip, pz.1]) fun j z hz => ?_
    have hj : j < min xs.length ys.length := by
      have := (List.getElem?_eq_some_iff.mp hz).1
      rwa [List.length_zip] at this
    obtain ⟨p, x, y, e1, e0, e2, e3, e4⟩ := pz.2 j hj
    obtain ⟨hz1, hz2⟩ := List.getElem?_zip_eq_some.mp hz
    obtain ⟨x', q1, j1⟩ := ia.get hz1
    obtain ⟨y', q2, j2⟩ := ib.get hz2
    rw [e3] at q1
    rw [e4] at q2
    cases q1; cases q2
    have pD' : p ≠ Dq := fun w => by
      rw [w, h3] at e2
      cases e2
    refine ⟨p, e1, p, [x, y], rfl, fun w => ?_, e2, IsDs.cons ((j1.more hD).mono (Gr.of s3)) (IsDs.one ((j2.more hD).mono (Gr.of s3)))⟩
    rcases w with w | w
    · exact dm.not e0 w
    · exact pD' w
/-- [e for (x, y) in zip(a tuple, a list)] -/
theorem el_lcZ {α : Type} {g : TG} {vs : List Nat} (zs : List α) (h1 h2 k : α → D) (rest : List D) (hz : zs.length ≤ sizeLine) (n : noOwn es vs = true) (ha : ED ta es (.t (zs.map h1))) (hb : ED tb es (.l (zs.map h2 ++ rest)))
    (hs : ∀ z ∈ zs, ∃ e', GW g (.t [h1 z, h2 z]) vs es e' ∧ ED te e' (k z)) : EL (tLc (iZipM K (tCons ta (tCons tb tNil))) g tYes te vs) es (zs.map k) := fun S A B H σ E Q q => by
    unfold tLc iZipM
    refine (ea_cons ha (ea_cons hb ea_nil)) S A B H σ E _ fun vs' H1 e1 is => ?_
    obtain ⟨_, _, rfl, ⟨a, us, rfl, na, qa, ia⟩, _, _, rfl, ⟨b, ws, rfl, nb, qb, ib⟩, rfl⟩ := is
    have la := ia.length
    have lb := ib.length
    rw [List.length_map] at la
    rw [List.length_append, List.length_map] at lb
    refine ⟨a, b, us, ws, rfl, SqT.of qa, SqL.of qb, fun D hD => ?_⟩
    have E1 := E.mono e1
    have gD : Same H1 (upd H1 D (.lst [])) := Same.new hD
    have E2 := (E1.vol gD hD (by rw [upd_same]; exact fun z => nomatch z)).wiped vs
    have w0 : ∀ a, Sx (fun a => S a ∨ a = D) A (wipeE es vs) a → Sx S A es a ∨ a = D := fun a s => by
      rcases s with (s | s) | s
      · exact .inl (.inl s)
      · exact .inr s
      · exact .inl (.inr (own_of_wiped s))
    refine ⟨fun i m H' => m = zs.length - i ∧ i ≤ zs.length ∧ Same H1 H' ∧ En (fun a => S a ∨ a = D) A B H' (wipe σ vs) (wipeE es vs) ∧ ∃ acc, H' D = some (.lst acc) ∧ IsDs (fun a => Sx S A es a ∨ a = D) H' ((zs.take i).map k) acc,
      ⟨_, rfl, Nat.zero_le _, gD, E2, [], upd_same, rfl⟩, ?_⟩
    rintro i m H' ⟨rfl, hi, s1, E', acc, hacc, iacc⟩
    have qa' : SqT K H' a us := SqT.of (s1 _ _ qa)
    have qb' : SqL K H' b ws := SqL.of (s1 _ _ qb)
    by_cases hlt : i < zs.length
    · have ez : zs[i]? = some zs[i] := List.getElem?_eq_getElem hlt
      obtain ⟨x, hx, ix⟩ := ia.get (j := i) (d := h1 zs[i]) (by rw [List.getElem?_map, ez]; rfl)
      obtain ⟨y, hy, iy⟩ := ib.get (j := i) (d := h2 zs[i]) (by rw [List.getElem?_append_left (by rw [List.length_map]; exact hlt), List.getElem?_map, ez]; rfl)
      refine .inr ⟨⟨us, ws, x, y, qa', qb', hx, hy⟩, fun H2 => Same H1 H2 ∧ En (fun a => S a ∨ a = D) A B H2 (wipe σ vs) (wipeE es vs) ∧ ∃ acc, H2 D = some (.lst acc) ∧ IsDs (fun a => Sx S A es a ∨ a = D) H2 ((zs.take (i + 1)).map k) acc,
        fun H2 r => ⟨_, by omega, rfl, hlt, r⟩, fun v H3 yy => ?_⟩
      obtain ⟨p, x', y', rfl, hp, rfl, f1, f2⟩ := yy
      have e1 := f1 us qa'
      have e2 := f2 ws qb'
      rw [hx] at e1
      rw [hy] at e2
      cases e1; cases e2
      obtain ⟨e', gw, hk⟩ := hs zs[i] (List.getElem_mem hlt)
      have s2 : Same H' (upd H' p (.tup [x, y])) := Same.new hp
      have E3 := E'.mono s2
      have dd : IsD (Sx (fun a => S a ∨ a = D) A (wipeE es vs)) (upd H' p (.tup [x, y])) (.t [h1 zs[i], h2 zs[i]]) (.ref p) := by
        refine ⟨p, [x, y], rfl, E'.dmx.not hp, upd_same, IsDs.cons ?_ (IsDs.one ?_)⟩
        · exact (((ix.more hD).mono (Gr.of s1)).wide w0).mono (Gr.of s2)
        · exact (((iy.more hD).mono (Gr.of s1)).wide w0).mono (Gr.of s2)
      have tk : zs.take (i + 1) = zs.take i ++ [zs[i]] := by rw [List.take_succ, ez]; rfl
      refine gw.run _ A B _ σ _ E3 dd _ fun σ' E4 hw => ⟨hw, ?_⟩
      show te σ' _ _
      refine hk _ A B _ σ' E4 _ fun y2 H5 e5 i5 => ?_
      have s5 : Same H' H5 := s2.trans e5
      have al : acc.length ≤ i := by
        rw [iacc.length, List.length_map, List.length_take]
        omega
      refine ⟨acc, s5 _ _ hacc, by omega, ?_, ?_, acc ++ [y2], upd_same, ?_⟩
      · intro a o ha
        rw [upd_ne (ne_of_none ha hD)]
        exact s5 _ _ (s1 _ _ ha)
      · exact (E'.mono s5).chg (.inr rfl) (E1.same.free hD)
      · rw [tk, List.map_append]
        have gd : Gr (fun a => Sx S A es a ∨ a = D) H5 (upd H5 D (.lst (acc ++ [y2]))) := Gr.put (.inr rfl)
        refine ((iacc.mono (Gr.of s5)).app ?_).mono gd
        refine IsDs.one (i5.wide fun a s => ?_)
        rcases s with (s | s) | s
        · exact .inl (.inl s)
        · exact .inr (gw.own A a s)
        · exact .inl (.inr s)
    · have ei : i = zs.length := by omega
      refine .inl ⟨⟨us, ws, qa', qb', by omega, by omega, .inl (by omega)⟩, ?_⟩
      rw [ei, List.take_length] at iacc
      exact q D acc H' (e1.trans s1) (e1.free hD) hacc iacc
/-- [e for x in a for y in b] *)-/
theorem el_lc2 {α β : Type} {wi wi1 : TI} {g g1 : TG} {vs vs1 : List Nat} (zs : List α) (h : α → D) (f : α → List β) (h1 : β → D) (k : β → D) (hz : ((zs.map f).flatten).length ≤ sizeLine) (n : noOwn es vs = true) (src : SrcC wi es (zs.map h))
    (hs : ∀ z ∈ zs, ∃ e', GW g (h z) vs es e' ∧ noOwn e' vs1 = true ∧ Src wi1 e' ((f z).map h1) ∧ ∀ y ∈ f z, ∃ e2, GW g1 (h1 y) vs1 e' e2 ∧ ED te e2 (k y)):
    EL (tLc2 wi g tYes wi1 g1 tYes te vs vs1) es (((zs.map f).flatten).map k) := fun S A B H σ E Q q =>
  src S A B H σ E _ fun J H1 xs L e1 hL G is D hD => by
    have E1 := E.mono e1
    have gD : Same H1 (upd H1 D (.lst [])) := Same.new hD
    have E2 := (E1.vol gD hD (by rw [upd_same]; exact fun z => nomatch z)).wiped vs
    have w0 : ∀ a, Sx (fun a => S a ∨ a = D) A (wipeE es vs) a → Sx S A es a ∨ a = D := fun a s => by
      rcases s with (s | s) | s
      · exact .inl (.inl s)
      · exact .inr s
      · exact .inl (.inr (own_of_wiped s))
    have hlen : xs.length = zs.length := by rw [is.length, List.length_map]
    have fl : ∀ i, (((zs.take i).map f).flatten).length ≤ ((zs.map f).flatten).length := fun i => by
      have : (zs.map f).flatten = ((zs.take i).map f).flatten ++ ((zs.drop i).map f).flatten := by rw [← List.flatten_append, ← List.map_append, List.take_append_drop]
      rw [this, List.length_append]
      omega
    refine ⟨fun i m H' => m = xs.length - i ∧ i ≤ xs.length ∧ Same H1 H' ∧ En (fun a => S a ∨ a = D) A B H' (wipe σ vs) (wipeE es vs) ∧ ∃ acc, H' D = some (.lst acc) ∧ IsDs (fun a => Sx S A es a ∨ a = D) H' ((((zs.take i).map f).flatten).map k) acc,
      ⟨_, rfl, Nat.zero_le _, gD, E2, [], upd_same, rfl⟩, ?_⟩
    rintro i m H' ⟨rfl, hi, s1, E', acc, hacc, iacc⟩
    have g' : ∀ p ∈ L, H' p.1 = some p.2 := fun p hp => s1 _ _ (hL p hp)
    by_cases hlt : i < xs.length
    · refine .inr ⟨G.go i H' g' hlt, fun H2 => Same H1 H2 ∧ En (fun a => S a ∨ a = D) A B H2 (wipe σ vs) (wipeE es vs) ∧ ∃ acc, H2 D = some (.lst acc) ∧ IsDs (fun a => Sx S A es a ∨ a = D) H2 ((((zs.take (i + 1)).map f).flatten).map k) acc,
        fun H2 r => ⟨_, by omega, rfl, hlt, r⟩, fun v H3 y => ?_⟩
      obtain ⟨rfl, hv⟩ := G.yld i H' v H3 g' hlt y
      obtain ⟨d, hd1, hd2⟩ := is.getV hv
      have hzi : i < zs.length := by omega
      have ez : zs[i]? = some zs[i] := List.getElem?_eq_getElem hzi
      rw [List.getElem?_map, ez] at hd1
      cases hd1
      obtain ⟨e', gw, n1, src1, hin⟩ := hs zs[i] (List.getElem_mem hzi)
      have hd3 : IsD (Sx (fun a => S a ∨ a = D) A (wipeE es vs)) H3 (h zs[i]) v := ((hd2.more hD).mono (Gr.of s1)).wide w0
      have tk : ((zs.take (i + 1)).map f).flatten = ((zs.take i).map f).flatten ++ f zs[i] := by
        rw [List.take_succ, ez]
        show ((zs.take i ++ [zs[i]]).map f).flatten = _
        rw [List.map_append, List.flatten_append]
        simp
      refine gw.run _ A B H3 σ v E' hd3 _ fun σ' E4 hw => ⟨hw, ?_⟩
      show wi1 σ' H3 _
      refine src1 _ A B H3 σ' E4 _ fun J1 H4 xs1 L1 e4 hL1 G1 is1 => ?_
      have hlen1 : xs1.length = (f zs[i]).length := by rw [is1.length, List.length_map]
      have E5 := (E4.mono e4).wiped vs1
      have LD : ∀ p ∈ L1, p.1 ≠ D := fun p hp => fun w => (hL1 p hp).1 (.inl (.inr w))
      refine ⟨fun j m H' => m = xs1.length - j ∧ j ≤ xs1.length ∧ (∀ a o, a ≠ D → H4 a = some o → H' a = some o) ∧ Same H1 H' ∧ En (fun a => S a ∨ a = D) A B H' (wipe σ' vs1) (wipeE e' vs1) ∧ En (fun a => S a ∨ a = D) A B H' (wipe σ vs) (wipeE es vs) ∧ ∃ acc, H' D = some (.lst acc) ∧ IsDs (fun a => Sx S A es a ∨ a = D) H' ((((zs.take i).map f).flatten ++ (f zs[i]).take j).map k) acc,
        ⟨_, rfl, Nat.zero_le _, fun _ _ _ z => z, s1.trans e4, E5, E'.mono e4, acc, e4 _ _ hacc, by rw [List.take_zero, List.append_nil]; exact iacc.mono (Gr.of e4)⟩, ?_⟩
      rintro j m H5 ⟨rfl, hj, s5, t5, E6, E7, acc5, hacc5, iacc5⟩
      have g5 : ∀ p ∈ L1, H5 p.1 = some p.2 := fun p hp => s5 _ _ (LD p hp) (hL1 p hp).2
      by_cases jlt : j < xs1.length
      · refine .inr ⟨G1.go j H5 g5 jlt, fun H' => (∀ a o, a ≠ D → H4 a = some o → H' a = some o) ∧ Same H1 H' ∧ En (fun a => S a ∨ a = D) A B H' (wipe σ' vs1) (wipeE e' vs1) ∧ En (fun a => S a ∨ a = D) A B H' (wipe σ vs) (wipeE es vs) ∧ ∃ acc, H' D = some (.lst acc) ∧ IsDs (fun a => Sx S A es a ∨ a = D) H' ((((zs.take i).map f).flatten ++ (f zs[i]).take (j + 1)).map k) acc,
          fun H2 r => ⟨_, by omega, rfl, jlt, r⟩, fun v1 H6 y1 => ?_⟩
        obtain ⟨rfl, hv1⟩ := G1.yld j H5 v1 H6 g5 jlt y1
        obtain ⟨d1, hd4, hd5⟩ := is1.getV hv1
        have hyj : j < (f zs[i]).length := by omega
        have ey : (f zs[i])[j]? = some (f zs[i])[j] := List.getElem?_eq_getElem hyj
        rw [List.getElem?_map, ey] at hd4
        cases hd4
        obtain ⟨e2, gw1, hk⟩ := hin (f zs[i])[j] (List.getElem_mem hyj)
        have hd6 : IsD (Sx (fun a => S a ∨ a = D) A (wipeE e' vs1)) H6 (h1 (f zs[i])[j]) v1 := by
          have gg : Gr (Sx (fun a => S a ∨ a = D) A e') H4 H6 := fun a o na e => s5 a o (fun w => na (.inl (.inr w))) e
          exact (hd5.mono gg).wide fun a s => s.imp id own_of_wiped
        have ty : (f zs[i]).take (j + 1) = (f zs[i]).take j ++ [(f zs[i])[j]] := by rw [List.take_succ, ey]; rfl
        refine gw1.run _ A B H6 σ' v1 E6 hd6 _ fun σ3 E8 hw3 => ⟨hw3, ?_⟩
        show te σ3 H6 _
        refine hk _ A B H6 σ3 E8 _ fun y2 H7 e7 i7 => ?_
        have al : acc5.length < sizeLine := by
          rw [iacc5.length, List.length_map, List.length_append, List.length_take]
          have z1 := fl (i + 1)
          rw [tk, List.length_append] at z1
          omega
        have t7 : Same H1 H7 := t5.trans e7
        refine ⟨acc5, e7 _ _ hacc5, al, ?_, ?_, ?_, ?_, acc5 ++ [y2], upd_same, ?_⟩
        · intro a o na ha
          rw [upd_ne na]
          exact e7 _ _ (s5 a o na ha)
        · intro a o ha
          rw [upd_ne (ne_of_none ha hD)]
          exact t7 _ _ ha
        · exact (E6.mono e7).chg (.inr rfl) (E1.same.free hD)
        · exact (E7.mono e7).chg (.inr rfl) (E1.same.free hD)
        · rw [ty, ← List.append_assoc, List.map_append (l₂ := [_])]
          have gd : Gr (fun a => Sx S A es a ∨ a = D) H7 (upd H7 D (.lst (acc5 ++ [y2]))) := Gr.put (.inr rfl)
          refine ((iacc5.mono (Gr.of e7)).app ?_).mono gd
          refine IsDs.one (i7.wide fun a s => ?_)
          rcases s with (s | s) | s
          · exact .inl (.inl s)
          · exact .inr (gw1.own A a (gw.own A a s))
          · exact .inl (.inr s)
      · have ej : j = (f zs[i]).length := by omega
        refine .inl ⟨G1.stop j H5 g5 (by omega), t5, E7, acc5, hacc5, ?_⟩
        rw [ej, List.take_length] at iacc5
        rw [tk]
        exact iacc5
    · have ei : i = zs.length := by omega
      refine .inl ⟨G.stop i H' g' (by omega), ?_⟩
      rw [ei, List.take_length] at iacc
      exact q D acc H' (e1.trans s1) (e1.free hD) hacc iacc
theorem ed_neg {k : Int} (h : ED te es (.i k)) : ED (tUn (rU fun i => .int (-i)) te) es (.i (-k)) := fun S A B H σ E Q q => h S A B H σ E _ fun v H2 e i => by
  cases i
  exact ⟨k, rfl, q _ H2 e rfl⟩
end
/-! ### with K told -/
section
variable {X : Cx} {K : PySem.W.Frag}
theorem piZipM {e e2 : Expr} {ta : TA} {p pos tpos : Pos} {elts : List Expr} {kk : Nat} (hg : Gl X "zip") (hm : X.mg "zip" = none) (ha : PA X [e, e2] ta) (hK : X.K = K := by rfl) (hs : starEach [e, e2] X.env = (false, eval e X.env) :: starEach [e2] X.env := by rfl) (hpl : (backTo pos (starEach [e2] X.env)).any (·.1) = false := by rfl) :
    PI X (.Tuple elts kk tpos) (.Call (.Name "zip" p) [e, e2] [] pos) (iZipM K ta) := by subst hK; exact pi_zipM hg hm ha hs hpl
theorem peListZip {e e2 : Expr} {ta : TA} {p pos p2 pos2 : Pos} (hc : X.calm = true) (hg : Gl X "list") (hm : X.mg "list" = none) (hg2 : Gl X "zip") (hm2 : X.mg "zip" = none) (ha : PA X [e, e2] ta) (hK : X.K = K := by rfl)
    (na : starEach [.Call (.Name "zip" p2) [e, e2] [] pos2] X.env = (false, eval (.Call (.Name "zip" p2) [e, e2] [] pos2) X.env) :: starEach [] X.env := by rfl) (hs : starEach [e, e2] X.env = (false, eval e X.env) :: starEach [e2] X.env := by rfl) (hpl : (backTo pos2 (starEach [e2] X.env)).any (·.1) = false := by rfl) :
    PE X (.Call (.Name "list" p) [.Call (.Name "zip" p2) [e, e2] [] pos2] [] pos) (tLstZip K ta) := by subst hK; exact pe_listZip hc hg hm hg2 hm2 ha na hs hpl
theorem piRevA {tg e : Expr} {te : TE} {p pos : Pos} (hg : Gl X "reversed") (hm : X.mg "reversed" = none) (he : PE X e te) (hK : X.K = K := by rfl) (hs : starEach [e] X.env = (false, eval e X.env) :: starEach [] X.env := by rfl) : PI X tg (.Call (.Name "reversed" p) [e] [] pos) (RT.iRevA K te) := by subst hK; exact RT.pi_revA hg hm he hs
theorem paStar {e : Expr} {es : List Expr} {te : TE} {t : TA} {p : Pos} (he : PE X e te) (hr : PA X es t) (hK : X.K = K := by rfl) (hs : starEach (.Starred e p :: es) X.env = (true, eval e X.env) :: starEach es X.env := by rfl) : PA X (.Starred e p :: es) (StX.tStar K te t) := by subst hK; exact StX.pa_star he hr hs
theorem cSum (hc : X.calm = true) (e : X.K = K := by rfl) : CallR X (.builtin "sum") (rSum K) := by subst e; exact cr_sum hc
theorem cMax (hc : X.calm = true) (e : X.K = K := by rfl) : CallR X (.builtin "max") (rMax K) := by subst e; exact cr_max hc
end
end Nz
namespace Nz
open PySem L2
def top (i : Nat) : Stmt := PySem.Challenge.pw_notslower_k03_places_and_parts.main.body.getD i (.Pass ⟨0, 0, 0, 0⟩)
abbrev s_parts : Stmt := top 1
abbrev n_parts : List Str := ["term", "word", "names", "part", "pair", "row"]
theorem sc_parts : FnScope n_parts ["term"] (defScope s_parts) := ⟨rfl, rfl, rfl, by decide +kernel, rfl, by decide +kernel, by decide +kernel⟩
abbrev s_bare_parts : Stmt := top 2
abbrev n_bare_parts : List Str := ["term", "pair"]
theorem sc_bare_parts : FnScope n_bare_parts ["term"] (defScope s_bare_parts) := ⟨rfl, rfl, rfl, by decide +kernel, rfl, by decide +kernel, by decide +kernel⟩
abbrev s_with_parts : Stmt := top 3
abbrev n_with_parts : List Str := ["term", "others", "word", "pairs", "rows", "pair", "other", "row"]
theorem sc_with_parts : FnScope n_with_parts ["term", "others"] (defScope s_with_parts) := ⟨rfl, rfl, rfl, by decide +kernel, rfl, by decide +kernel, by decide +kernel⟩
abbrev s_levels : Stmt := top 4
abbrev n_levels : List Str := ["term", "found", "level", "part", "inner"]
theorem sc_levels : FnScope n_levels ["term"] (defScope s_levels) := ⟨rfl, rfl, rfl, by decide +kernel, rfl, by decide +kernel, by decide +kernel⟩
abbrev s_size : Stmt := top 5
abbrev n_size : List Str := ["term", "level"]
theorem sc_size : FnScope n_size ["term"] (defScope s_size) := ⟨rfl, rfl, rfl, by decide +kernel, rfl, by decide +kernel, by decide +kernel⟩
abbrev s_depth : Stmt := top 6
abbrev n_depth : List Str := ["term"]
theorem sc_depth : FnScope n_depth ["term"] (defScope s_depth) := ⟨rfl, rfl, rfl, by decide +kernel, rfl, by decide +kernel, by decide +kernel⟩
abbrev s_parts_below : Stmt := top 7
abbrev n_parts_below : List Str := ["place", "part", "low", "inner", "k"]
theorem sc_parts_below : FnScope n_parts_below ["place", "part", "low"] (defScope s_parts_below) := ⟨rfl, rfl, rfl, by decide +kernel, rfl, by decide +kernel, by decide +kernel⟩
abbrev s_located : Stmt := top 8
abbrev n_located : List Str := ["term", "found", "waiting", "place", "part"]
theorem sc_located : FnScope n_located ["term"] (defScope s_located) := ⟨rfl, rfl, rfl, by decide +kernel, rfl, by decide +kernel, by decide +kernel⟩
abbrev s_places : Stmt := top 9
abbrev n_places : List Str := ["term", "pair"]
theorem sc_places : FnScope n_places ["term"] (defScope s_places) := ⟨rfl, rfl, rfl, by decide +kernel, rfl, by decide +kernel, by decide +kernel⟩
abbrev s_path_to : Stmt := top 10
abbrev n_path_to : List Str := ["term", "place", "found", "k", "inner"]
theorem sc_path_to : FnScope n_path_to ["term", "place"] (defScope s_path_to) := ⟨rfl, rfl, rfl, by decide +kernel, rfl, by decide +kernel, by decide +kernel⟩
abbrev s_part_at : Stmt := top 11
abbrev n_part_at : List Str := ["term", "place", "path"]
theorem sc_part_at : FnScope n_part_at ["term", "place"] (defScope s_part_at) := ⟨rfl, rfl, rfl, by decide +kernel, rfl, by decide +kernel, by decide +kernel⟩
abbrev s_put_at : Stmt := top 12
abbrev n_put_at : List Str := ["term", "place", "other", "path", "k", "above", "others"]
theorem sc_put_at : FnScope n_put_at ["term", "place", "other"] (defScope s_put_at) := ⟨rfl, rfl, rfl, by decide +kernel, rfl, by decide +kernel, by decide +kernel⟩
abbrev s__law_pool : Stmt := top 14
abbrev n__law_pool : List Str := ["script", "budget"]
theorem sc__law_pool : FnScope n__law_pool ["script", "budget"] (defScope s__law_pool) := ⟨rfl, rfl, rfl, by decide +kernel, rfl, by decide +kernel, by decide +kernel⟩
abbrev s__law_draw : Stmt := top 15
abbrev n__law_draw : List Str := ["pool", "upper", "cell", "value"]
theorem sc__law_draw : FnScope n__law_draw ["pool", "upper"] (defScope s__law_draw) := ⟨rfl, rfl, rfl, by decide +kernel, rfl, by decide +kernel, by decide +kernel⟩
abbrev s__law_spend : Stmt := top 16
abbrev n__law_spend : List Str := ["pool"]
theorem sc__law_spend : FnScope n__law_spend ["pool"] (defScope s__law_spend) := ⟨rfl, rfl, rfl, by decide +kernel, rfl, by decide +kernel, by decide +kernel⟩
abbrev s__law_few : Stmt := top 17
abbrev n__law_few : List Str := ["pool", "most", "few"]
theorem sc__law_few : FnScope n__law_few ["pool", "most"] (defScope s__law_few) := ⟨rfl, rfl, rfl, by decide +kernel, rfl, by decide +kernel, by decide +kernel⟩
abbrev s__law_number : Stmt := top 18
abbrev n__law_number : List Str := ["pool"]
theorem sc__law_number : FnScope n__law_number ["pool"] (defScope s__law_number) := ⟨rfl, rfl, rfl, by decide +kernel, rfl, by decide +kernel, by decide +kernel⟩
abbrev s__law_same : Stmt := top 19
abbrev n__law_same : List Str := ["actual", "due", "k"]
theorem sc__law_same : FnScope n__law_same ["actual", "due"] (defScope s__law_same) := ⟨rfl, rfl, rfl, by decide +kernel, rfl, by decide +kernel, by decide +kernel⟩
abbrev s__law_name : Stmt := top 20
abbrev n__law_name : List Str := ["pool", "name", "k"]
theorem sc__law_name : FnScope n__law_name ["pool"] (defScope s__law_name) := ⟨rfl, rfl, rfl, by decide +kernel, rfl, by decide +kernel, by decide +kernel⟩
abbrev s__law_unlike : Stmt := top 21
abbrev n__law_unlike : List Str := ["pool", "count", "names", "k", "name", "other"]
theorem sc__law_unlike : FnScope n__law_unlike ["pool", "count"] (defScope s__law_unlike) := ⟨rfl, rfl, rfl, by decide +kernel, rfl, by decide +kernel, by decide +kernel⟩
abbrev s__law_made : Stmt := top 22
abbrev n__law_made : List Str := ["pool", "name", "k"]
theorem sc__law_made : FnScope n__law_made ["pool"] (defScope s__law_made) := ⟨rfl, rfl, rfl, by decide +kernel, rfl, by decide +kernel, by decide +kernel⟩
abbrev s__law_any : Stmt := top 23
abbrev n__law_any : List Str := ["pool", "deep", "way", "k", "rows", "subject", "names", "made", "sign", "name", "row"]
theorem sc__law_any : FnScope n__law_any ["pool", "deep"] (defScope s__law_any) := ⟨rfl, rfl, rfl, by decide +kernel, rfl, by decide +kernel, by decide +kernel⟩
abbrev s__law_parts : Stmt := top 24
abbrev n__law_parts : List Str := ["term", "kind", "names", "part", "row"]
theorem sc__law_parts : FnScope n__law_parts ["term"] (defScope s__law_parts) := ⟨rfl, rfl, rfl, by decide +kernel, rfl, by decide +kernel, by decide +kernel⟩
abbrev s__law_places : Stmt := top 25
abbrev n__law_places : List Str := ["term", "found", "own", "k", "path"]
theorem sc__law_places : FnScope n__law_places ["term"] (defScope s__law_places) := ⟨rfl, rfl, rfl, by decide +kernel, rfl, by decide +kernel, by decide +kernel⟩
abbrev s__law_part : Stmt := top 26
abbrev n__law_part : List Str := ["term", "path", "index", "own"]
theorem sc__law_part : FnScope n__law_part ["term", "path"] (defScope s__law_part) := ⟨rfl, rfl, rfl, by decide +kernel, rfl, by decide +kernel, by decide +kernel⟩
abbrev s__law_put : Stmt := top 27
abbrev n__law_put : List Str := ["term", "path", "other", "own", "kind", "rows", "pair", "k"]
theorem sc__law_put : FnScope n__law_put ["term", "path", "other"] (defScope s__law_put) := ⟨rfl, rfl, rfl, by decide +kernel, rfl, by decide +kernel, by decide +kernel⟩
abbrev s_law : Stmt := top 28
abbrev n_law : List Str := ["script", "pool", "term", "k", "found", "path", "turn", "part", "other", "at", "strange"]
theorem sc_law : FnScope n_law ["script"] (defScope s_law) := ⟨rfl, rfl, rfl, by decide +kernel, rfl, by decide +kernel, by decide +kernel⟩
structure Facts (K : PySem.W.Frag) (mg : Str → Option Value) : Prop where
  parts : DefF K mg "parts" s_parts ["term"]
  bare_parts : DefF K mg "bare_parts" s_bare_parts ["term"]
  with_parts : DefF K mg "with_parts" s_with_parts ["term", "others"]
  levels : DefF K mg "levels" s_levels ["term"]
  size : DefF K mg "size" s_size ["term"]
  depth : DefF K mg "depth" s_depth ["term"]
  parts_below : DefF K mg "parts_below" s_parts_below ["place", "part", "low"]
  located : DefF K mg "located" s_located ["term"]
  places : DefF K mg "places" s_places ["term"]
  path_to : DefF K mg "path_to" s_path_to ["term", "place"]
  part_at : DefF K mg "part_at" s_part_at ["term", "place"]
  put_at : DefF K mg "put_at" s_put_at ["term", "place", "other"]
  _law_pool : DefF K mg "_law_pool" s__law_pool ["script", "budget"]
  _law_draw : DefF K mg "_law_draw" s__law_draw ["pool", "upper"]
  _law_spend : DefF K mg "_law_spend" s__law_spend ["pool"]
  _law_few : DefF K mg "_law_few" s__law_few ["pool", "most"]
  _law_number : DefF K mg "_law_number" s__law_number ["pool"]
  _law_same : DefF K mg "_law_same" s__law_same ["actual", "due"]
  _law_name : DefF K mg "_law_name" s__law_name ["pool"]
  _law_unlike : DefF K mg "_law_unlike" s__law_unlike ["pool", "count"]
  _law_made : DefF K mg "_law_made" s__law_made ["pool"]
  _law_any : DefF K mg "_law_any" s__law_any ["pool", "deep"]
  _law_parts : DefF K mg "_law_parts" s__law_parts ["term"]
  _law_places : DefF K mg "_law_places" s__law_places ["term"]
  _law_part : DefF K mg "_law_part" s__law_part ["term", "path"]
  _law_put : DefF K mg "_law_put" s__law_put ["term", "path", "other"]
  law : DefF K mg "law" s_law ["script"]
  b_bool : mg "bool" = none
  b_int : mg "int" = none
  b_isinstance : mg "isinstance" = none
  b_len : mg "len" = none
  b_list : mg "list" = none
  b_max : mg "max" = none
  b_min : mg "min" = none
  b_range : mg "range" = none
  b_reversed : mg "reversed" = none
  b_str : mg "str" = none
  b_sum : mg "sum" = none
  b_tuple : mg "tuple" = none
  b_zip : mg "zip" = none
section
variable {P : Program} {w : World} {K : PySem.W.Frag} {mg : Str → Option Value} {base : Heap}
def R_parts (ds xs : List D) : Prop := ∃ t, Wf t ∧ ds = [enc t] ∧ xs = (prs t).map prD
theorem small4 {n : Nat} (h : n ≤ 1000) : n ≤ sizeLine := Nat.le_trans h (by decide)
theorem k_parts (F : Facts K mg) : C8.Cal P w K mg base 1 "parts" (spL R_parts) [] := by
  refine F.parts.L sc_parts (by decide) (fun ds d h => ?_) (fun f cdv A outer s H E hr => ⟨_, (pss_cons (ps_set (i := 1) sc_parts.nd rfl (Or.inl rfl) (pe_ix (Nz.ixT K) (pv 0) pe_int (fun _ _ => rfl)))
    (pss_cons (ps_if (pt_cmpR (Nz.inQ K) (pv 1) (pe_tup (pa_cons pe_str (pa_cons pe_str (pa_cons pe_str (pa_cons pe_str pa_nil))))) rfl) (pss_one (ps_ret (pe_lst pa_nil))) pss_nil)
    (pss_cons (ps_if (pt_cmpR op_eq (pv 1) pe_str (nomark _)) (pss_one (ps_ret (pe_lst (pa_cons (pe_tup (pa_cons (pe_ix (Nz.ixT K) (pv 0) pe_int (fun _ _ => rfl)) (pa_cons (pe_tup (pa_cons (pe_ix (Nz.ixT K) (pv 0) pe_int (fun _ _ => rfl)) pa_nil)) pa_nil))) pa_nil)))) pss_nil)
    (pss_cons (ps_if (pt_cmpR op_eq (pv 1) pe_str (nomark _)) (pss_one (ps_ret (pe_lst (pa_cons (pe_tup (pa_cons (pe_ix (Nz.ixT K) (pv 0) pe_int (fun _ _ => rfl)) (pa_cons (pe_tup pa_nil) pa_nil))) pa_nil)))) pss_nil)
    (pss_cons (ps_if (pt_cmpR op_eq (pv 1) pe_str (nomark _)) (pss_cons (ps_set (i := 2) sc_parts.nd rfl (Or.inr rfl) (pe_callTy (Nz.cTup K) rfl F.b_tuple Nz.boot_tuple (pa_cons (pe_lc (own := [("pair", 4)]) (g := (gName 4)) rfl sc_parts.nd (Nz.piT K (pe_ix (Nz.ixT K) (pv 0) pe_int (fun _ _ => rfl))) (blkOk_by (own := [("pair", 4)]) (N := n_parts) (sc := defScope s_parts) (by decide +kernel)) (fun _ _ _ _ _ => (pg_name (i := 4) sc_parts.nd rfl (Or.inl rfl))) (fun _ _ _ _ _ => pts_nil) (fun _ _ _ _ _ => (pe_ix (Nz.ixT K) (pv 4) pe_int (fun _ _ => rfl)))) pa_nil)))
    (pss_one (ps_ret (pe_op op_cat (pe_lc (own := [("pair", 4)]) (g := (gName 4)) rfl sc_parts.nd (Nz.piT K (pe_ix (Nz.ixT K) (pv 0) pe_int (fun _ _ => rfl))) (blkOk_by (own := [("pair", 4)]) (N := n_parts) (sc := defScope s_parts) (by decide +kernel)) (fun _ _ _ _ _ => (pg_name (i := 4) sc_parts.nd rfl (Or.inl rfl))) (fun _ _ _ _ _ => pts_nil) (fun _ _ _ _ _ => (pe_tup (pa_cons (pe_ix (Nz.ixT K) (pv 4) pe_int (fun _ _ => rfl)) (pa_cons (pv 2) pa_nil))))) (pe_lst (pa_cons (pe_tup (pa_cons (pe_ix (Nz.ixT K) (pv 0) pe_int (fun _ _ => rfl)) (pa_cons (pv 2) pa_nil))) pa_nil)))))) pss_nil)
    (pss_cons (ps_if (pt_cmpR op_eq (pv 1) pe_str (nomark _)) (pss_one (ps_ret (pe_op op_cat (pe_lst (pa_cons (pe_tup (pa_cons (pe_ix (Nz.ixT K) (pv 0) pe_int (fun _ _ => rfl)) (pa_cons (pe_tup pa_nil) pa_nil))) pa_nil)) (pe_lc (own := [("row", 5)]) (g := (gName 5)) rfl sc_parts.nd (Nz.piT K (pe_ix (Nz.ixT K) (pv 0) pe_int (fun _ _ => rfl))) (blkOk_by (own := [("row", 5)]) (N := n_parts) (sc := defScope s_parts) (by decide +kernel)) (fun _ _ _ _ _ => (pg_name (i := 5) sc_parts.nd rfl (Or.inl rfl))) (fun _ _ _ _ _ => pts_nil) (fun _ _ _ _ _ => (pe_tup (pa_cons (pe_ix (Nz.ixT K) (pv 5) pe_int (fun _ _ => rfl)) (pa_cons (pe_ix (Nz.ixT K) (pv 5) pe_int (fun _ _ => rfl)) pa_nil)))))))) pss_nil)
    (pss_one (ps_ret (pe_lc (own := [("part", 3)]) (g := (gName 3)) rfl sc_parts.nd (Nz.piT K (pe_slice (Nz.slA K) (pv 0) (po_some pe_int) po_none)) (blkOk_by (own := [("part", 3)]) (N := n_parts) (sc := defScope s_parts) (by decide +kernel)) (fun _ _ _ _ _ => (pg_name (i := 3) sc_parts.nd rfl (Or.inl rfl))) (fun _ _ _ _ _ => pts_nil) (fun _ _ _ _ _ => (pe_tup (pa_cons (pv 3) (pa_cons (pe_tup pa_nil) pa_nil))))))))))))), fun ds d h => ?_⟩)
  · obtain ⟨t, _, rfl, _⟩ := h
    rfl
  obtain ⟨⟨h, ks⟩, hw, rfl, rfl⟩ := h
  cases h with
  | op w =>
    have e1 : (prs (.nd (.op w) ks)).map prD = ks.map fun k => .t [enc k, .t []] := by
      rw [prs_op, List.map_map]
      rfl
    rw [e1]
    have hl : ks.length ≤ 3 := by
      rcases op_cases hw.1 with ⟨rfl, _, _, _, rfl⟩ | ⟨rfl, _, rfl⟩ | ⟨rfl, _, rfl⟩ | ⟨rfl, _, _, rfl⟩ | ⟨rfl, _, _, rfl⟩ | ⟨rfl, _, _, rfl⟩ | ⟨rfl, _, _, rfl⟩ | ⟨rfl, _, _, rfl⟩ | ⟨rfl, _, _, rfl⟩ <;> simp
    have hc : cutD (.s w :: ks.map enc) (some 1) none = ks.map enc := by
      unfold cutD
      rw [show HT.sIx (D.s w :: ks.map enc).length 0 (some 1) = 1 by show HT.sIx _ 0 (some ((1 : Nat) : Int)) = 1; rw [HT.sIx_nat]; exact Nat.min_eq_left (by simp)]
      rw [HT.sIx_none]
      show (ks.map enc).take _ = _
      exact List.take_of_length_le (by simp)
    rcases op_cases hw.1 with ⟨rfl, _, _, _, rfl⟩ | ⟨rfl, _, rfl⟩ | ⟨rfl, _, rfl⟩ | ⟨rfl, _, _, rfl⟩ | ⟨rfl, _, _, rfl⟩ | ⟨rfl, _, _, rfl⟩ | ⟨rfl, _, _, rfl⟩ | ⟨rfl, _, _, rfl⟩ | ⟨rfl, _, _, rfl⟩ <;>
    ( (repeat (first
    | ((with_reducible apply sq_set); (focus ((repeat' (first
      | with_reducible exact ed_str | with_reducible exact ed_int | with_reducible exact ed_bl | with_reducible exact ed_non
      | exact ed_var rfl | exact ed_var (by assumption) | with_reducible exact ea_nil | with_reducible apply ea_cons
      | with_reducible apply et_test | with_reducible apply et_B | with_reducible apply et_not
      | with_reducible apply ed_tup | with_reducible apply ed_op | with_reducible apply el_lst
      | exact rd_eqSb rfl | exact rd_neSb rfl | exact rd_eqIb rfl | exact rd_neIb rfl
      | exact rd_ixT0 | exact rd_ixT1 | exact rd_ixT2 | exact rd_bool rfl | exact rd_int rfl | exact rd_inTc rfl rfl rfl | exact short_size rfl)); done)))
    | ((with_reducible apply sq_ifT); (focus ((repeat' (first
      | with_reducible exact ed_str | with_reducible exact ed_int | with_reducible exact ed_bl | with_reducible exact ed_non
      | exact ed_var rfl | exact ed_var (by assumption) | with_reducible exact ea_nil | with_reducible apply ea_cons
      | with_reducible apply et_test | with_reducible apply et_B | with_reducible apply et_not
      | with_reducible apply ed_tup | with_reducible apply ed_op | with_reducible apply el_lst
      | exact rd_eqSb rfl | exact rd_neSb rfl | exact rd_eqIb rfl | exact rd_neIb rfl
      | exact rd_ixT0 | exact rd_ixT1 | exact rd_ixT2 | exact rd_bool rfl | exact rd_int rfl | exact rd_inTc rfl rfl rfl | exact short_size rfl)); done)); (focus rfl))
    | ((with_reducible apply sq_ifF); (focus ((repeat' (first
      | with_reducible exact ed_str | with_reducible exact ed_int | with_reducible exact ed_bl | with_reducible exact ed_non
      | exact ed_var rfl | exact ed_var (by assumption) | with_reducible exact ea_nil | with_reducible apply ea_cons
      | with_reducible apply et_test | with_reducible apply et_B | with_reducible apply et_not
      | with_reducible apply ed_tup | with_reducible apply ed_op | with_reducible apply el_lst
      | exact rd_eqSb rfl | exact rd_neSb rfl | exact rd_eqIb rfl | exact rd_neIb rfl
      | exact rd_ixT0 | exact rd_ixT1 | exact rd_ixT2 | exact rd_bool rfl | exact rd_int rfl | exact rd_inTc rfl rfl rfl | exact short_size rfl)); done)); (focus rfl))
    | ((with_reducible apply sq_ret); (focus ((repeat' (first
      | with_reducible exact ed_str | with_reducible exact ed_int | with_reducible exact ed_bl | with_reducible exact ed_non
      | exact ed_var rfl | exact ed_var (by assumption) | with_reducible exact ea_nil | with_reducible apply ea_cons
      | with_reducible apply et_test | with_reducible apply et_B | with_reducible apply et_not
      | with_reducible apply ed_tup | with_reducible apply ed_op | with_reducible apply el_lst
      | exact rd_eqSb rfl | exact rd_neSb rfl | exact rd_eqIb rfl | exact rd_neIb rfl
      | exact rd_ixT0 | exact rd_ixT1 | exact rd_ixT2 | exact rd_bool rfl | exact rd_int rfl | exact rd_inTc rfl rfl rfl | exact short_size rfl)); done)); (focus rfl))
    | ((with_reducible apply sd_ret); (focus ((repeat' (first
      | with_reducible exact ed_str | with_reducible exact ed_int | with_reducible exact ed_bl | with_reducible exact ed_non
      | exact ed_var rfl | exact ed_var (by assumption) | with_reducible exact ea_nil | with_reducible apply ea_cons
      | with_reducible apply et_test | with_reducible apply et_B | with_reducible apply et_not
      | with_reducible apply ed_tup | with_reducible apply ed_op | with_reducible apply el_lst
      | exact rd_eqSb rfl | exact rd_neSb rfl | exact rd_eqIb rfl | exact rd_neIb rfl
      | exact rd_ixT0 | exact rd_ixT1 | exact rd_ixT2 | exact rd_bool rfl | exact rd_int rfl | exact rd_inTc rfl rfl rfl | exact short_size rfl)); done)); (focus rfl))
    | ((with_reducible apply sq_retL); (focus ((repeat' (first
      | with_reducible exact ed_str | with_reducible exact ed_int | with_reducible exact ed_bl | with_reducible exact ed_non
      | exact ed_var rfl | exact ed_var (by assumption) | with_reducible exact ea_nil | with_reducible apply ea_cons
      | with_reducible apply et_test | with_reducible apply et_B | with_reducible apply et_not
      | with_reducible apply ed_tup | with_reducible apply ed_op | with_reducible apply el_lst
      | exact rd_eqSb rfl | exact rd_neSb rfl | exact rd_eqIb rfl | exact rd_neIb rfl
      | exact rd_ixT0 | exact rd_ixT1 | exact rd_ixT2 | exact rd_bool rfl | exact rd_int rfl | exact rd_inTc rfl rfl rfl | exact short_size rfl)); done)); (focus rfl))
    | ((with_reducible apply sd_retL); (focus ((repeat' (first
      | with_reducible exact ed_str | with_reducible exact ed_int | with_reducible exact ed_bl | with_reducible exact ed_non
      | exact ed_var rfl | exact ed_var (by assumption) | with_reducible exact ea_nil | with_reducible apply ea_cons
      | with_reducible apply et_test | with_reducible apply et_B | with_reducible apply et_not
      | with_reducible apply ed_tup | with_reducible apply ed_op | with_reducible apply el_lst
      | exact rd_eqSb rfl | exact rd_neSb rfl | exact rd_eqIb rfl | exact rd_neIb rfl
      | exact rd_ixT0 | exact rd_ixT1 | exact rd_ixT2 | exact rd_bool rfl | exact rd_int rfl | exact rd_inTc rfl rfl rfl | exact short_size rfl)); done)); (focus rfl))))
      exact sd_retL (el_lcM (vs := [3]) _ enc (fun k => .t [enc k, .t []]) (small4 (Nat.le_trans hl (by decide))) rfl (src_tup (ed_eq (ed_slT (ed_var rfl) (eo_some ed_int) eo_none) (congrArg D.t hc))) fun z hz => ⟨_, gw_name rfl, by (repeat' (first
      | with_reducible exact ed_str | with_reducible exact ed_int | with_reducible exact ed_bl | with_reducible exact ed_non
      | exact ed_var rfl | exact ed_var (by assumption) | with_reducible exact ea_nil | with_reducible apply ea_cons
      | with_reducible apply et_test | with_reducible apply et_B | with_reducible apply et_not
      | with_reducible apply ed_tup | with_reducible apply ed_op | with_reducible apply el_lst
      | exact rd_eqSb rfl | exact rd_neSb rfl | exact rd_eqIb rfl | exact rd_neIb rfl
      | exact rd_ixT0 | exact rd_ixT1 | exact rd_ixT2 | exact rd_bool rfl | exact rd_int rfl | exact rd_inTc rfl rfl rfl | exact short_size rfl))⟩) rfl)
  | fn x =>
    obtain ⟨k, rfl⟩ := one_of hw.1
    (repeat (first
    | ((with_reducible apply sq_set); (focus ((repeat' (first
      | with_reducible exact ed_str | with_reducible exact ed_int | with_reducible exact ed_bl | with_reducible exact ed_non
      | exact ed_var rfl | exact ed_var (by assumption) | with_reducible exact ea_nil | with_reducible apply ea_cons
      | with_reducible apply et_test | with_reducible apply et_B | with_reducible apply et_not
      | with_reducible apply ed_tup | with_reducible apply ed_op | with_reducible apply el_lst
      | exact rd_eqSb rfl | exact rd_neSb rfl | exact rd_eqIb rfl | exact rd_neIb rfl
      | exact rd_ixT0 | exact rd_ixT1 | exact rd_ixT2 | exact rd_bool rfl | exact rd_int rfl | exact rd_inTc rfl rfl rfl | exact short_size rfl)); done)))
    | ((with_reducible apply sq_ifT); (focus ((repeat' (first
      | with_reducible exact ed_str | with_reducible exact ed_int | with_reducible exact ed_bl | with_reducible exact ed_non
      | exact ed_var rfl | exact ed_var (by assumption) | with_reducible exact ea_nil | with_reducible apply ea_cons
      | with_reducible apply et_test | with_reducible apply et_B | with_reducible apply et_not
      | with_reducible apply ed_tup | with_reducible apply ed_op | with_reducible apply el_lst
      | exact rd_eqSb rfl | exact rd_neSb rfl | exact rd_eqIb rfl | exact rd_neIb rfl
      | exact rd_ixT0 | exact rd_ixT1 | exact rd_ixT2 | exact rd_bool rfl | exact rd_int rfl | exact rd_inTc rfl rfl rfl | exact short_size rfl)); done)); (focus rfl))
    | ((with_reducible apply sq_ifF); (focus ((repeat' (first
      | with_reducible exact ed_str | with_reducible exact ed_int | with_reducible exact ed_bl | with_reducible exact ed_non
      | exact ed_var rfl | exact ed_var (by assumption) | with_reducible exact ea_nil | with_reducible apply ea_cons
      | with_reducible apply et_test | with_reducible apply et_B | with_reducible apply et_not
      | with_reducible apply ed_tup | with_reducible apply ed_op | with_reducible apply el_lst
      | exact rd_eqSb rfl | exact rd_neSb rfl | exact rd_eqIb rfl | exact rd_neIb rfl
      | exact rd_ixT0 | exact rd_ixT1 | exact rd_ixT2 | exact rd_bool rfl | exact rd_int rfl | exact rd_inTc rfl rfl rfl | exact short_size rfl)); done)); (focus rfl))
    | ((with_reducible apply sq_ret); (focus ((repeat' (first
      | with_reducible exact ed_str | with_reducible exact ed_int | with_reducible exact ed_bl | with_reducible exact ed_non
      | exact ed_var rfl | exact ed_var (by assumption) | with_reducible exact ea_nil | with_reducible apply ea_cons
      | with_reducible apply et_test | with_reducible apply et_B | with_reducible apply et_not
      | with_reducible apply ed_tup | with_reducible apply ed_op | with_reducible apply el_lst
      | exact rd_eqSb rfl | exact rd_neSb rfl | exact rd_eqIb rfl | exact rd_neIb rfl
      | exact rd_ixT0 | exact rd_ixT1 | exact rd_ixT2 | exact rd_bool rfl | exact rd_int rfl | exact rd_inTc rfl rfl rfl | exact short_size rfl)); done)); (focus rfl))
    | ((with_reducible apply sd_ret); (focus ((repeat' (first
      | with_reducible exact ed_str | with_reducible exact ed_int | with_reducible exact ed_bl | with_reducible exact ed_non
      | exact ed_var rfl | exact ed_var (by assumption) | with_reducible exact ea_nil | with_reducible apply ea_cons
      | with_reducible apply et_test | with_reducible apply et_B | with_reducible apply et_not
      | with_reducible apply ed_tup | with_reducible apply ed_op | with_reducible apply el_lst
      | exact rd_eqSb rfl | exact rd_neSb rfl | exact rd_eqIb rfl | exact rd_neIb rfl
      | exact rd_ixT0 | exact rd_ixT1 | exact rd_ixT2 | exact rd_bool rfl | exact rd_int rfl | exact rd_inTc rfl rfl rfl | exact short_size rfl)); done)); (focus rfl))
    | ((with_reducible apply sq_retL); (focus ((repeat' (first
      | with_reducible exact ed_str | with_reducible exact ed_int | with_reducible exact ed_bl | with_reducible exact ed_non
      | exact ed_var rfl | exact ed_var (by assumption) | with_reducible exact ea_nil | with_reducible apply ea_cons
      | with_reducible apply et_test | with_reducible apply et_B | with_reducible apply et_not
      | with_reducible apply ed_tup | with_reducible apply ed_op | with_reducible apply el_lst
      | exact rd_eqSb rfl | exact rd_neSb rfl | exact rd_eqIb rfl | exact rd_neIb rfl
      | exact rd_ixT0 | exact rd_ixT1 | exact rd_ixT2 | exact rd_bool rfl | exact rd_int rfl | exact rd_inTc rfl rfl rfl | exact short_size rfl)); done)); (focus rfl))
    | ((with_reducible apply sd_retL); (focus ((repeat' (first
      | with_reducible exact ed_str | with_reducible exact ed_int | with_reducible exact ed_bl | with_reducible exact ed_non
      | exact ed_var rfl | exact ed_var (by assumption) | with_reducible exact ea_nil | with_reducible apply ea_cons
      | with_reducible apply et_test | with_reducible apply et_B | with_reducible apply et_not
      | with_reducible apply ed_tup | with_reducible apply ed_op | with_reducible apply el_lst
      | exact rd_eqSb rfl | exact rd_neSb rfl | exact rd_eqIb rfl | exact rd_neIb rfl
      | exact rd_ixT0 | exact rd_ixT1 | exact rd_ixT2 | exact rd_bool rfl | exact rd_int rfl | exact rd_inTc rfl rfl rfl | exact short_size rfl)); done)); (focus rfl))))
  | call x =>
    obtain ⟨k, rfl⟩ := one_of hw.1
    (repeat (first
    | ((with_reducible apply sq_set); (focus ((repeat' (first
      | with_reducible exact ed_str | with_reducible exact ed_int | with_reducible exact ed_bl | with_reducible exact ed_non
      | exact ed_var rfl | exact ed_var (by assumption) | with_reducible exact ea_nil | with_reducible apply ea_cons
      | with_reducible apply et_test | with_reducible apply et_B | with_reducible apply et_not
      | with_reducible apply ed_tup | with_reducible apply ed_op | with_reducible apply el_lst
      | exact rd_eqSb rfl | exact rd_neSb rfl | exact rd_eqIb rfl | exact rd_neIb rfl
      | exact rd_ixT0 | exact rd_ixT1 | exact rd_ixT2 | exact rd_bool rfl | exact rd_int rfl | exact rd_inTc rfl rfl rfl | exact short_size rfl)); done)))
    | ((with_reducible apply sq_ifT); (focus ((repeat' (first
      | with_reducible exact ed_str | with_reducible exact ed_int | with_reducible exact ed_bl | with_reducible exact ed_non
      | exact ed_var rfl | exact ed_var (by assumption) | with_reducible exact ea_nil | with_reducible apply ea_cons
      | with_reducible apply et_test | with_reducible apply et_B | with_reducible apply et_not
      | with_reducible apply ed_tup | with_reducible apply ed_op | with_reducible apply el_lst
      | exact rd_eqSb rfl | exact rd_neSb rfl | exact rd_eqIb rfl | exact rd_neIb rfl
      | exact rd_ixT0 | exact rd_ixT1 | exact rd_ixT2 | exact rd_bool rfl | exact rd_int rfl | exact rd_inTc rfl rfl rfl | exact short_size rfl)); done)); (focus rfl))
    | ((with_reducible apply sq_ifF); (focus ((repeat' (first
      | with_reducible exact ed_str | with_reducible exact ed_int | with_reducible exact ed_bl | with_reducible exact ed_non
      | exact ed_var rfl | exact ed_var (by assumption) | with_reducible exact ea_nil | with_reducible apply ea_cons
      | with_reducible apply et_test | with_reducible apply et_B | with_reducible apply et_not
      | with_reducible apply ed_tup | with_reducible apply ed_op | with_reducible apply el_lst
      | exact rd_eqSb rfl | exact rd_neSb rfl | exact rd_eqIb rfl | exact rd_neIb rfl
      | exact rd_ixT0 | exact rd_ixT1 | exact rd_ixT2 | exact rd_bool rfl | exact rd_int rfl | exact rd_inTc rfl rfl rfl | exact short_size rfl)); done)); (focus rfl))
    | ((with_reducible apply sq_ret); (focus ((repeat' (first
      | with_reducible exact ed_str | with_reducible exact ed_int | with_reducible exact ed_bl | with_reducible exact ed_non
      | exact ed_var rfl | exact ed_var (by assumption) | with_reducible exact ea_nil | with_reducible apply ea_cons
      | with_reducible apply et_test | with_reducible apply et_B | with_reducible apply et_not
      | with_reducible apply ed_tup | with_reducible apply ed_op | with_reducible apply el_lst
      | exact rd_eqSb rfl | exact rd_neSb rfl | exact rd_eqIb rfl | exact rd_neIb rfl
      | exact rd_ixT0 | exact rd_ixT1 | exact rd_ixT2 | exact rd_bool rfl | exact rd_int rfl | exact rd_inTc rfl rfl rfl | exact short_size rfl)); done)); (focus rfl))
    | ((with_reducible apply sd_ret); (focus ((repeat' (first
      | with_reducible exact ed_str | with_reducible exact ed_int | with_reducible exact ed_bl | with_reducible exact ed_non
      | exact ed_var rfl | exact ed_var (by assumption) | with_reducible exact ea_nil | with_reducible apply ea_cons
      | with_reducible apply et_test | with_reducible apply et_B | with_reducible apply et_not
      | with_reducible apply ed_tup | with_reducible apply ed_op | with_reducible apply el_lst
      | exact rd_eqSb rfl | exact rd_neSb rfl | exact rd_eqIb rfl | exact rd_neIb rfl
      | exact rd_ixT0 | exact rd_ixT1 | exact rd_ixT2 | exact rd_bool rfl | exact rd_int rfl | exact rd_inTc rfl rfl rfl | exact short_size rfl)); done)); (focus rfl))
    | ((with_reducible apply sq_retL); (focus ((repeat' (first
      | with_reducible exact ed_str | with_reducible exact ed_int | with_reducible exact ed_bl | with_reducible exact ed_non
      | exact ed_var rfl | exact ed_var (by assumption) | with_reducible exact ea_nil | with_reducible apply ea_cons
      | with_reducible apply et_test | with_reducible apply et_B | with_reducible apply et_not
      | with_reducible apply ed_tup | with_reducible apply ed_op | with_reducible apply el_lst
      | exact rd_eqSb rfl | exact rd_neSb rfl | exact rd_eqIb rfl | exact rd_neIb rfl
      | exact rd_ixT0 | exact rd_ixT1 | exact rd_ixT2 | exact rd_bool rfl | exact rd_int rfl | exact rd_inTc rfl rfl rfl | exact short_size rfl)); done)); (focus rfl))
    | ((with_reducible apply sd_retL); (focus ((repeat' (first
      | with_reducible exact ed_str | with_reducible exact ed_int | with_reducible exact ed_bl | with_reducible exact ed_non
      | exact ed_var rfl | exact ed_var (by assumption) | with_reducible exact ea_nil | with_reducible apply ea_cons
      | with_reducible apply et_test | with_reducible apply et_B | with_reducible apply et_not
      | with_reducible apply ed_tup | with_reducible apply ed_op | with_reducible apply el_lst
      | exact rd_eqSb rfl | exact rd_neSb rfl | exact rd_eqIb rfl | exact rd_neIb rfl
      | exact rd_ixT0 | exact rd_ixT1 | exact rd_ixT2 | exact rd_bool rfl | exact rd_int rfl | exact rd_inTc rfl rfl rfl | exact short_size rfl)); done)); (focus rfl))))
  | lets xs =>
    obtain ⟨⟨h1, h4⟩, hw2⟩ := hw
    obtain ⟨ms, m, rfl, hl⟩ := last_of h1
    rw [enc_lets hl, prs_lets]
    (repeat (first
    | ((with_reducible apply sq_set); (focus ((repeat' (first
      | with_reducible exact ed_str | with_reducible exact ed_int | with_reducible exact ed_bl | with_reducible exact ed_non
      | exact ed_var rfl | exact ed_var (by assumption) | with_reducible exact ea_nil | with_reducible apply ea_cons
      | with_reducible apply et_test | with_reducible apply et_B | with_reducible apply et_not
      | with_reducible apply ed_tup | with_reducible apply ed_op | with_reducible apply el_lst
      | exact rd_eqSb rfl | exact rd_neSb rfl | exact rd_eqIb rfl | exact rd_neIb rfl
      | exact rd_ixT0 | exact rd_ixT1 | exact rd_ixT2 | exact rd_bool rfl | exact rd_int rfl | exact rd_inTc rfl rfl rfl | exact short_size rfl)); done)))
    | ((with_reducible apply sq_ifT); (focus ((repeat' (first
      | with_reducible exact ed_str | with_reducible exact ed_int | with_reducible exact ed_bl | with_reducible exact ed_non
      | exact ed_var rfl | exact ed_var (by assumption) | with_reducible exact ea_nil | with_reducible apply ea_cons
      | with_reducible apply et_test | with_reducible apply et_B | with_reducible apply et_not
      | with_reducible apply ed_tup | with_reducible apply ed_op | with_reducible apply el_lst
      | exact rd_eqSb rfl | exact rd_neSb rfl | exact rd_eqIb rfl | exact rd_neIb rfl
      | exact rd_ixT0 | exact rd_ixT1 | exact rd_ixT2 | exact rd_bool rfl | exact rd_int rfl | exact rd_inTc rfl rfl rfl | exact short_size rfl)); done)); (focus rfl))
    | ((with_reducible apply sq_ifF); (focus ((repeat' (first
      | with_reducible exact ed_str | with_reducible exact ed_int | with_reducible exact ed_bl | with_reducible exact ed_non
      | exact ed_var rfl | exact ed_var (by assumption) | with_reducible exact ea_nil | with_reducible apply ea_cons
      | with_reducible apply et_test | with_reducible apply et_B | with_reducible apply et_not
      | with_reducible apply ed_tup | with_reducible apply ed_op | with_reducible apply el_lst
      | exact rd_eqSb rfl | exact rd_neSb rfl | exact rd_eqIb rfl | exact rd_neIb rfl
      | exact rd_ixT0 | exact rd_ixT1 | exact rd_ixT2 | exact rd_bool rfl | exact rd_int rfl | exact rd_inTc rfl rfl rfl | exact short_size rfl)); done)); (focus rfl))
    | ((with_reducible apply sq_ret); (focus ((repeat' (first
      | with_reducible exact ed_str | with_reducible exact ed_int | with_reducible exact ed_bl | with_reducible exact ed_non
      | exact ed_var rfl | exact ed_var (by assumption) | with_reducible exact ea_nil | with_reducible apply ea_cons
      | with_reducible apply et_test | with_reducible apply et_B | with_reducible apply et_not
      | with_reducible apply ed_tup | with_reducible apply ed_op | with_reducible apply el_lst
      | exact rd_eqSb rfl | exact rd_neSb rfl | exact rd_eqIb rfl | exact rd_neIb rfl
      | exact rd_ixT0 | exact rd_ixT1 | exact rd_ixT2 | exact rd_bool rfl | exact rd_int rfl | exact rd_inTc rfl rfl rfl | exact short_size rfl)); done)); (focus rfl))
    | ((with_reducible apply sd_ret); (focus ((repeat' (first
      | with_reducible exact ed_str | with_reducible exact ed_int | with_reducible exact ed_bl | with_reducible exact ed_non
      | exact ed_var rfl | exact ed_var (by assumption) | with_reducible exact ea_nil | with_reducible apply ea_cons
      | with_reducible apply et_test | with_reducible apply et_B | with_reducible apply et_not
      | with_reducible apply ed_tup | with_reducible apply ed_op | with_reducible apply el_lst
      | exact rd_eqSb rfl | exact rd_neSb rfl | exact rd_eqIb rfl | exact rd_neIb rfl
      | exact rd_ixT0 | exact rd_ixT1 | exact rd_ixT2 | exact rd_bool rfl | exact rd_int rfl | exact rd_inTc rfl rfl rfl | exact short_size rfl)); done)); (focus rfl))
    | ((with_reducible apply sq_retL); (focus ((repeat' (first
      | with_reducible exact ed_str | with_reducible exact ed_int | with_reducible exact ed_bl | with_reducible exact ed_non
      | exact ed_var rfl | exact ed_var (by assumption) | with_reducible exact ea_nil | with_reducible apply ea_cons
      | with_reducible apply et_test | with_reducible apply et_B | with_reducible apply et_not
      | with_reducible apply ed_tup | with_reducible apply ed_op | with_reducible apply el_lst
      | exact rd_eqSb rfl | exact rd_neSb rfl | exact rd_eqIb rfl | exact rd_neIb rfl
      | exact rd_ixT0 | exact rd_ixT1 | exact rd_ixT2 | exact rd_bool rfl | exact rd_int rfl | exact rd_inTc rfl rfl rfl | exact short_size rfl)); done)); (focus rfl))
    | ((with_reducible apply sd_retL); (focus ((repeat' (first
      | with_reducible exact ed_str | with_reducible exact ed_int | with_reducible exact ed_bl | with_reducible exact ed_non
      | exact ed_var rfl | exact ed_var (by assumption) | with_reducible exact ea_nil | with_reducible apply ea_cons
      | with_reducible apply et_test | with_reducible apply et_B | with_reducible apply et_not
      | with_reducible apply ed_tup | with_reducible apply ed_op | with_reducible apply el_lst
      | exact rd_eqSb rfl | exact rd_neSb rfl | exact rd_eqIb rfl | exact rd_neIb rfl
      | exact rd_ixT0 | exact rd_ixT1 | exact rd_ixT2 | exact rd_bool rfl | exact rd_int rfl | exact rd_inTc rfl rfl rfl | exact short_size rfl)); done)); (focus rfl))))
    have hz : (xs.zip ms).length ≤ sizeLine := small4 (by rw [List.length_zip]; omega)
    refine sq_assoc ?_
    refine sq_set (d := tS xs) (ed_eq (ed_cb (ea_cons (EL.toD (el_lcM (vs := [4]) _ (fun p => .t [.s p.1, enc p.2]) (fun p => .s p.1) hz rfl (src_tup (by (repeat' (first
      | with_reducible exact ed_str | with_reducible exact ed_int | with_reducible exact ed_bl | with_reducible exact ed_non
      | exact ed_var rfl | exact ed_var (by assumption) | with_reducible exact ea_nil | with_reducible apply ea_cons
      | with_reducible apply et_test | with_reducible apply et_B | with_reducible apply et_not
      | with_reducible apply ed_tup | with_reducible apply ed_op | with_reducible apply el_lst
      | exact rd_eqSb rfl | exact rd_neSb rfl | exact rd_eqIb rfl | exact rd_neIb rfl
      | exact rd_ixT0 | exact rd_ixT1 | exact rd_ixT2 | exact rd_bool rfl | exact rd_int rfl | exact rd_inTc rfl rfl rfl | exact short_size rfl)))) fun z hz => ⟨_, gw_name rfl, by (repeat' (first
      | with_reducible exact ed_str | with_reducible exact ed_int | with_reducible exact ed_bl | with_reducible exact ed_non
      | exact ed_var rfl | exact ed_var (by assumption) | with_reducible exact ea_nil | with_reducible apply ea_cons
      | with_reducible apply et_test | with_reducible apply et_B | with_reducible apply et_not
      | with_reducible apply ed_tup | with_reducible apply ed_op | with_reducible apply el_lst
      | exact rd_eqSb rfl | exact rd_neSb rfl | exact rd_eqIb rfl | exact rd_neIb rfl
      | exact rd_ixT0 | exact rd_ixT1 | exact rd_ixT2 | exact rd_bool rfl | exact rd_int rfl | exact rd_inTc rfl rfl rfl | exact short_size rfl))⟩)) ea_nil) rc_tupL) (congrArg D.t (map_zip_fst hl))) ?_
    refine sq_retL (el_op (EL.toD (el_lcM (vs := [4]) _ (fun p => .t [.s p.1, enc p.2]) (fun p => .t [enc p.2, tS xs]) hz rfl (src_tup (by (repeat' (first
      | with_reducible exact ed_str | with_reducible exact ed_int | with_reducible exact ed_bl | with_reducible exact ed_non
      | exact ed_var rfl | exact ed_var (by assumption) | with_reducible exact ea_nil | with_reducible apply ea_cons
      | with_reducible apply et_test | with_reducible apply et_B | with_reducible apply et_not
      | with_reducible apply ed_tup | with_reducible apply ed_op | with_reducible apply el_lst
      | exact rd_eqSb rfl | exact rd_neSb rfl | exact rd_eqIb rfl | exact rd_neIb rfl
      | exact rd_ixT0 | exact rd_ixT1 | exact rd_ixT2 | exact rd_bool rfl | exact rd_int rfl | exact rd_inTc rfl rfl rfl | exact short_size rfl)))) fun z hz => ⟨_, gw_name rfl, by (repeat' (first
      | with_reducible exact ed_str | with_reducible exact ed_int | with_reducible exact ed_bl | with_reducible exact ed_non
      | exact ed_var rfl | exact ed_var (by assumption) | with_reducible exact ea_nil | with_reducible apply ea_cons
      | with_reducible apply et_test | with_reducible apply et_B | with_reducible apply et_not
      | with_reducible apply ed_tup | with_reducible apply ed_op | with_reducible apply el_lst
      | exact rd_eqSb rfl | exact rd_neSb rfl | exact rd_eqIb rfl | exact rd_neIb rfl
      | exact rd_ixT0 | exact rd_ixT1 | exact rd_ixT2 | exact rd_bool rfl | exact rd_int rfl | exact rd_inTc rfl rfl rfl | exact short_size rfl))⟩)) (EL.toD (by (repeat' (first
      | with_reducible exact ed_str | with_reducible exact ed_int | with_reducible exact ed_bl | with_reducible exact ed_non
      | exact ed_var rfl | exact ed_var (by assumption) | with_reducible exact ea_nil | with_reducible apply ea_cons
      | with_reducible apply et_test | with_reducible apply et_B | with_reducible apply et_not
      | with_reducible apply ed_tup | with_reducible apply ed_op | with_reducible apply el_lst
      | exact rd_eqSb rfl | exact rd_neSb rfl | exact rd_eqIb rfl | exact rd_neIb rfl
      | exact rd_ixT0 | exact rd_ixT1 | exact rd_ixT2 | exact rd_bool rfl | exact rd_int rfl | exact rd_inTc rfl rfl rfl | exact short_size rfl)))) (rl_cat (ys := [.t [enc m, tS xs]]) (by rw [List.length_map, List.length_zip]; exact small4 (by simp; omega)))) ?_
    show _ = _
    rw [List.map_append, List.map_map, map_zip_snd (f := fun k => D.t [enc k, tS xs]) hl]
    rfl
  | case rs =>
    obtain ⟨⟨h1, h4, h5⟩, hw2⟩ := hw
    obtain ⟨m, ms, rfl, hl⟩ := cons_of h1
    rw [enc_case, prs_case hl]
    have hz : (rs.zip ms).length ≤ sizeLine := small4 (by rw [List.length_zip]; omega)
    (repeat (first
    | ((with_reducible apply sq_set); (focus ((repeat' (first
      | with_reducible exact ed_str | with_reducible exact ed_int | with_reducible exact ed_bl | with_reducible exact ed_non
      | exact ed_var rfl | exact ed_var (by assumption) | with_reducible exact ea_nil | with_reducible apply ea_cons
      | with_reducible apply et_test | with_reducible apply et_B | with_reducible apply et_not
      | with_reducible apply ed_tup | with_reducible apply ed_op | with_reducible apply el_lst
      | exact rd_eqSb rfl | exact rd_neSb rfl | exact rd_eqIb rfl | exact rd_neIb rfl
      | exact rd_ixT0 | exact rd_ixT1 | exact rd_ixT2 | exact rd_bool rfl | exact rd_int rfl | exact rd_inTc rfl rfl rfl | exact short_size rfl)); done)))
    | ((with_reducible apply sq_ifT); (focus ((repeat' (first
      | with_reducible exact ed_str | with_reducible exact ed_int | with_reducible exact ed_bl | with_reducible exact ed_non
      | exact ed_var rfl | exact ed_var (by assumption) | with_reducible exact ea_nil | with_reducible apply ea_cons
      | with_reducible apply et_test | with_reducible apply et_B | with_reducible apply et_not
      | with_reducible apply ed_tup | with_reducible apply ed_op | with_reducible apply el_lst
      | exact rd_eqSb rfl | exact rd_neSb rfl | exact rd_eqIb rfl | exact rd_neIb rfl
      | exact rd_ixT0 | exact rd_ixT1 | exact rd_ixT2 | exact rd_bool rfl | exact rd_int rfl | exact rd_inTc rfl rfl rfl | exact short_size rfl)); done)); (focus rfl))
    | ((with_reducible apply sq_ifF); (focus ((repeat' (first
      | with_reducible exact ed_str | with_reducible exact ed_int | with_reducible exact ed_bl | with_reducible exact ed_non
      | exact ed_var rfl | exact ed_var (by assumption) | with_reducible exact ea_nil | with_reducible apply ea_cons
      | with_reducible apply et_test | with_reducible apply et_B | with_reducible apply et_not
      | with_reducible apply ed_tup | with_reducible apply ed_op | with_reducible apply el_lst
      | exact rd_eqSb rfl | exact rd_neSb rfl | exact rd_eqIb rfl | exact rd_neIb rfl
      | exact rd_ixT0 | exact rd_ixT1 | exact rd_ixT2 | exact rd_bool rfl | exact rd_int rfl | exact rd_inTc rfl rfl rfl | exact short_size rfl)); done)); (focus rfl))
    | ((with_reducible apply sq_ret); (focus ((repeat' (first
      | with_reducible exact ed_str | with_reducible exact ed_int | with_reducible exact ed_bl | with_reducible exact ed_non
      | exact ed_var rfl | exact ed_var (by assumption) | with_reducible exact ea_nil | with_reducible apply ea_cons
      | with_reducible apply et_test | with_reducible apply et_B | with_reducible apply et_not
      | with_reducible apply ed_tup | with_reducible apply ed_op | with_reducible apply el_lst
      | exact rd_eqSb rfl | exact rd_neSb rfl | exact rd_eqIb rfl | exact rd_neIb rfl
      | exact rd_ixT0 | exact rd_ixT1 | exact rd_ixT2 | exact rd_bool rfl | exact rd_int rfl | exact rd_inTc rfl rfl rfl | exact short_size rfl)); done)); (focus rfl))
    | ((with_reducible apply sd_ret); (focus ((repeat' (first
      | with_reducible exact ed_str | with_reducible exact ed_int | with_reducible exact ed_bl | with_reducible exact ed_non
      | exact ed_var rfl | exact ed_var (by assumption) | with_reducible exact ea_nil | with_reducible apply ea_cons
      | with_reducible apply et_test | with_reducible apply et_B | with_reducible apply et_not
      | with_reducible apply ed_tup | with_reducible apply ed_op | with_reducible apply el_lst
      | exact rd_eqSb rfl | exact rd_neSb rfl | exact rd_eqIb rfl | exact rd_neIb rfl
      | exact rd_ixT0 | exact rd_ixT1 | exact rd_ixT2 | exact rd_bool rfl | exact rd_int rfl | exact rd_inTc rfl rfl rfl | exact short_size rfl)); done)); (focus rfl))
    | ((with_reducible apply sq_retL); (focus ((repeat' (first
      | with_reducible exact ed_str | with_reducible exact ed_int | with_reducible exact ed_bl | with_reducible exact ed_non
      | exact ed_var rfl | exact ed_var (by assumption) | with_reducible exact ea_nil | with_reducible apply ea_cons
      | with_reducible apply et_test | with_reducible apply et_B | with_reducible apply et_not
      | with_reducible apply ed_tup | with_reducible apply ed_op | with_reducible apply el_lst
      | exact rd_eqSb rfl | exact rd_neSb rfl | exact rd_eqIb rfl | exact rd_neIb rfl
      | exact rd_ixT0 | exact rd_ixT1 | exact rd_ixT2 | exact rd_bool rfl | exact rd_int rfl | exact rd_inTc rfl rfl rfl | exact short_size rfl)); done)); (focus rfl))
    | ((with_reducible apply sd_retL); (focus ((repeat' (first
      | with_reducible exact ed_str | with_reducible exact ed_int | with_reducible exact ed_bl | with_reducible exact ed_non
      | exact ed_var rfl | exact ed_var (by assumption) | with_reducible exact ea_nil | with_reducible apply ea_cons
      | with_reducible apply et_test | with_reducible apply et_B | with_reducible apply et_not
      | with_reducible apply ed_tup | with_reducible apply ed_op | with_reducible apply el_lst
      | exact rd_eqSb rfl | exact rd_neSb rfl | exact rd_eqIb rfl | exact rd_neIb rfl
      | exact rd_ixT0 | exact rd_ixT1 | exact rd_ixT2 | exact rd_bool rfl | exact rd_int rfl | exact rd_inTc rfl rfl rfl | exact short_size rfl)); done)); (focus rfl))))
    refine sq_retL (el_op (EL.toD (by (repeat' (first
      | with_reducible exact ed_str | with_reducible exact ed_int | with_reducible exact ed_bl | with_reducible exact ed_non
      | exact ed_var rfl | exact ed_var (by assumption) | with_reducible exact ea_nil | with_reducible apply ea_cons
      | with_reducible apply et_test | with_reducible apply et_B | with_reducible apply et_not
      | with_reducible apply ed_tup | with_reducible apply ed_op | with_reducible apply el_lst
      | exact rd_eqSb rfl | exact rd_neSb rfl | exact rd_eqIb rfl | exact rd_neIb rfl
      | exact rd_ixT0 | exact rd_ixT1 | exact rd_ixT2 | exact rd_bool rfl | exact rd_int rfl | exact rd_inTc rfl rfl rfl | exact short_size rfl)))) (EL.toD (el_lcM (vs := [5]) _ (fun p => .t [.s p.1.1, tS p.1.2, enc p.2]) (fun p => .t [enc p.2, tS p.1.2]) hz rfl (src_tup (by (repeat' (first
      | with_reducible exact ed_str | with_reducible exact ed_int | with_reducible exact ed_bl | with_reducible exact ed_non
      | exact ed_var rfl | exact ed_var (by assumption) | with_reducible exact ea_nil | with_reducible apply ea_cons
      | with_reducible apply et_test | with_reducible apply et_B | with_reducible apply et_not
      | with_reducible apply ed_tup | with_reducible apply ed_op | with_reducible apply el_lst
      | exact rd_eqSb rfl | exact rd_neSb rfl | exact rd_eqIb rfl | exact rd_neIb rfl
      | exact rd_ixT0 | exact rd_ixT1 | exact rd_ixT2 | exact rd_bool rfl | exact rd_int rfl | exact rd_inTc rfl rfl rfl | exact short_size rfl)))) fun z hz => ⟨_, gw_name rfl, by (repeat' (first
      | with_reducible exact ed_str | with_reducible exact ed_int | with_reducible exact ed_bl | with_reducible exact ed_non
      | exact ed_var rfl | exact ed_var (by assumption) | with_reducible exact ea_nil | with_reducible apply ea_cons
      | with_reducible apply et_test | with_reducible apply et_B | with_reducible apply et_not
      | with_reducible apply ed_tup | with_reducible apply ed_op | with_reducible apply el_lst
      | exact rd_eqSb rfl | exact rd_neSb rfl | exact rd_eqIb rfl | exact rd_neIb rfl
      | exact rd_ixT0 | exact rd_ixT1 | exact rd_ixT2 | exact rd_bool rfl | exact rd_int rfl | exact rd_inTc rfl rfl rfl | exact short_size rfl))⟩)) (rl_cat (xs := [.t [enc m, .t []]]) (by rw [List.length_map, List.length_zip]; exact small4 (by simp; omega)))) ?_
    show _ = _
    rw [List.map_cons, List.map_map]
    rfl
  | _ =>
    have e : ks = [] := by
      first
        | exact List.length_eq_zero_iff.mp hw.1
        | exact List.length_eq_zero_iff.mp hw.1.1
    subst e
    (repeat (first
    | ((with_reducible apply sq_set); (focus ((repeat' (first
      | with_reducible exact ed_str | with_reducible exact ed_int | with_reducible exact ed_bl | with_reducible exact ed_non
      | exact ed_var rfl | exact ed_var (by assumption) | with_reducible exact ea_nil | with_reducible apply ea_cons
      | with_reducible apply et_test | with_reducible apply et_B | with_reducible apply et_not
      | with_reducible apply ed_tup | with_reducible apply ed_op | with_reducible apply el_lst
      | exact rd_eqSb rfl | exact rd_neSb rfl | exact rd_eqIb rfl | exact rd_neIb rfl
      | exact rd_ixT0 | exact rd_ixT1 | exact rd_ixT2 | exact rd_bool rfl | exact rd_int rfl | exact rd_inTc rfl rfl rfl | exact short_size rfl)); done)))
    | ((with_reducible apply sq_ifT); (focus ((repeat' (first
      | with_reducible exact ed_str | with_reducible exact ed_int | with_reducible exact ed_bl | with_reducible exact ed_non
      | exact ed_var rfl | exact ed_var (by assumption) | with_reducible exact ea_nil | with_reducible apply ea_cons
      | with_reducible apply et_test | with_reducible apply et_B | with_reducible apply et_not
      | with_reducible apply ed_tup | with_reducible apply ed_op | with_reducible apply el_lst
      | exact rd_eqSb rfl | exact rd_neSb rfl | exact rd_eqIb rfl | exact rd_neIb rfl
      | exact rd_ixT0 | exact rd_ixT1 | exact rd_ixT2 | exact rd_bool rfl | exact rd_int rfl | exact rd_inTc rfl rfl rfl | exact short_size rfl)); done)); (focus rfl))
    | ((with_reducible apply sq_ifF); (focus ((repeat' (first
      | with_reducible exact ed_str | with_reducible exact ed_int | with_reducible exact ed_bl | with_reducible exact ed_non
      | exact ed_var rfl | exact ed_var (by assumption) | with_reducible exact ea_nil | with_reducible apply ea_cons
      | with_reducible apply et_test | with_reducible apply et_B | with_reducible apply et_not
      | with_reducible apply ed_tup | with_reducible apply ed_op | with_reducible apply el_lst
      | exact rd_eqSb rfl | exact rd_neSb rfl | exact rd_eqIb rfl | exact rd_neIb rfl
      | exact rd_ixT0 | exact rd_ixT1 | exact rd_ixT2 | exact rd_bool rfl | exact rd_int rfl | exact rd_inTc rfl rfl rfl | exact short_size rfl)); done)); (focus rfl))
    | ((with_reducible apply sq_ret); (focus ((repeat' (first
      | with_reducible exact ed_str | with_reducible exact ed_int | with_reducible exact ed_bl | with_reducible exact ed_non
      | exact ed_var rfl | exact ed_var (by assumption) | with_reducible exact ea_nil | with_reducible apply ea_cons
      | with_reducible apply et_test | with_reducible apply et_B | with_reducible apply et_not
      | with_reducible apply ed_tup | with_reducible apply ed_op | with_reducible apply el_lst
      | exact rd_eqSb rfl | exact rd_neSb rfl | exact rd_eqIb rfl | exact rd_neIb rfl
      | exact rd_ixT0 | exact rd_ixT1 | exact rd_ixT2 | exact rd_bool rfl | exact rd_int rfl | exact rd_inTc rfl rfl rfl | exact short_size rfl)); done)); (focus rfl))
    | ((with_reducible apply sd_ret); (focus ((repeat' (first
      | with_reducible exact ed_str | with_reducible exact ed_int | with_reducible exact ed_bl | with_reducible exact ed_non
      | exact ed_var rfl | exact ed_var (by assumption) | with_reducible exact ea_nil | with_reducible apply ea_cons
      | with_reducible apply et_test | with_reducible apply et_B | with_reducible apply et_not
      | with_reducible apply ed_tup | with_reducible apply ed_op | with_reducible apply el_lst
      | exact rd_eqSb rfl | exact rd_neSb rfl | exact rd_eqIb rfl | exact rd_neIb rfl
      | exact rd_ixT0 | exact rd_ixT1 | exact rd_ixT2 | exact rd_bool rfl | exact rd_int rfl | exact rd_inTc rfl rfl rfl | exact short_size rfl)); done)); (focus rfl))
    | ((with_reducible apply sq_retL); (focus ((repeat' (first
      | with_reducible exact ed_str | with_reducible exact ed_int | with_reducible exact ed_bl | with_reducible exact ed_non
      | exact ed_var rfl | exact ed_var (by assumption) | with_reducible exact ea_nil | with_reducible apply ea_cons
      | with_reducible apply et_test | with_reducible apply et_B | with_reducible apply et_not
      | with_reducible apply ed_tup | with_reducible apply ed_op | with_reducible apply el_lst
      | exact rd_eqSb rfl | exact rd_neSb rfl | exact rd_eqIb rfl | exact rd_neIb rfl
      | exact rd_ixT0 | exact rd_ixT1 | exact rd_ixT2 | exact rd_bool rfl | exact rd_int rfl | exact rd_inTc rfl rfl rfl | exact short_size rfl)); done)); (focus rfl))
    | ((with_reducible apply sd_retL); (focus ((repeat' (first
      | with_reducible exact ed_str | with_reducible exact ed_int | with_reducible exact ed_bl | with_reducible exact ed_non
      | exact ed_var rfl | exact ed_var (by assumption) | with_reducible exact ea_nil | with_reducible apply ea_cons
      | with_reducible apply et_test | with_reducible apply et_B | with_reducible apply et_not
      | with_reducible apply ed_tup | with_reducible apply ed_op | with_reducible apply el_lst
      | exact rd_eqSb rfl | exact rd_neSb rfl | exact rd_eqIb rfl | exact rd_neIb rfl
      | exact rd_ixT0 | exact rd_ixT1 | exact rd_ixT2 | exact rd_bool rfl | exact rd_int rfl | exact rd_inTc rfl rfl rfl | exact short_size rfl)); done)); (focus rfl))))
end
end Nz
namespace Nz
open PySem L2
section
variable {P : Program} {w : World} {K : PySem.W.Frag} {mg : Str → Option Value} {base : Heap}
def poolL (q : Addr) (a b c d e : Int) : HO := .lst [.ref q, .int a, .int b, .int c, .int d, .int e]
/-- the pool of draws at p: a list at q of the script's numbers, and five numbers -/
def PoolW (p q : Addr) (ns : List Int) : Wd where
  V := fun a => a = p
  K0 := fun B => B q = some (.lst (ns.map V.int))
  J1 := fun H => ∃ a b c d e, H p = some (poolL q a b c d e) ∧ 0 ≤ a ∧ 0 ≤ c ∧ c < 2147483647
  use := fun H a ⟨_, _, _, _, _, h, _⟩ e => by
    subst e
    rw [h]
    exact fun z => nomatch z
  stay := fun H H' ⟨a, b, c, d, e, h, r⟩ k => ⟨a, b, c, d, e, by rw [k p rfl]; exact h, r⟩
  up := fun B C h s => s _ _ h
/-! ### values that leave the heap -/
def Va (te : TE) (σ : St) (H : Hp) (v : V) : Prop := ∀ Q : VK, Q v H → te σ H Q
def At (tt : TT) (σ : St) (H : Hp) (b : Bool) : Prop := ∀ Q : Bool → Hp → Prop, Q b H → tt σ H Q
section
variable {σ : St} {H : Hp} {v x y z : V} {ta tb te : TE} {tc td : TT} {b b' : Bool}
theorem va_var {i : Nat} (h : σ[i]? = some (some v)) : Va (tVar i) σ H v := fun _ q => ⟨v, h, q⟩
theorem va_c : Va (tC v) σ H v := fun _ q => q
theorem va_op {r : R2} (ha : Va ta σ H x) (hb : Va tb σ H y) (hr : ∀ Q : VK, Q z H → r x y H Q) : Va (tOp r ta tb) σ H z := fun Q q => ha _ (hb _ (hr Q q))
theorem va_I {g : Int → Int → V} {i j : Int} (ha : Va ta σ H (.int i)) (hb : Va tb σ H (.int j)) : Va (tOp (rI0 g) ta tb) σ H (g i j) := va_op ha hb fun _ q => ⟨i, j, rfl, rfl, q⟩
theorem va_IC {C : Int → Int → Prop} {g : Int → Int → V} {i j : Int} (ha : Va ta σ H (.int i)) (hb : Va tb σ H (.int j)) (hc : C i j) : Va (tOp (rI C g) ta tb) σ H (g i j) := va_op ha hb fun _ q => ⟨i, j, rfl, rfl, hc, q⟩
theorem va_ix {p : Addr} {xs : List V} {k : Int} (ha : Va ta σ H (.ref p)) (hb : Va tb σ H (.int k)) (h : H p = some (.lst xs)) (hk : atI xs k = some v) : Va (tOp (rIxL K) ta tb) σ H v := va_op ha hb fun _ q => ⟨p, xs, k, v, rfl, rfl, SqL.of h, hk, q⟩
theorem va_len {p : Addr} {xs : List V} (ha : Va ta σ H (.ref p)) (h : H p = some (.lst xs)) : Va (tCB (rLen K) (tCons ta tNil)) σ H (.int xs.length) := fun Q q => ha _ ⟨p, xs, rfl, .inl (SqL.of h), q⟩
theorem va_int {i : Int} (ha : Va ta σ H (.int i)) : Va (tCB rInt (tCons ta tNil)) σ H (.int i) := fun Q q => ha _ (.inl ⟨i, rfl, q⟩)
theorem at_test (h : Va te σ H (.bl b)) : At (tTest te) σ H b := fun Q q => h _ ⟨b, rfl, q⟩
theorem at_and (h1 : At tc σ H b) (h2 : At td σ H b') : At (tAnd tc td) σ H (b && b') := fun Q q => h1 _ (by
  cases b with
  | true => exact h2 Q q
  | false => exact q)
theorem at_ite {t u : TS} {D : Ends} (h : At tc σ H b) (h1 : b = true → t D σ H) (h2 : b = false → u D σ H) : tIfS tc t u D σ H := h _ (by
  cases b with
  | true => exact h1 rfl
  | false => exact h2 rfl)
theorem rq_name {i : Nat} {u : TS} {F : Ends} (h : Va te σ H v) (k : u F (σ.set i (some v)) H) : tSeq (tAsg te (gName i)) u F σ H := h _ k
theorem rq_ite {t u w : TS} {F : Ends} (h : At tc σ H b) (h1 : b = true → tSeq t w F σ H) (h2 : b = false → tSeq u w F σ H) : tSeq (tIfS tc t u) w F σ H := at_ite h h1 h2
theorem r_ret {F : Ends} (h : Va te σ H v) (k : F.rt v H) : tRet te F σ H := h _ k
theorem seq_rest {t u : TS} {F : Ends} (C : St → Hp → Prop) (hu : ∀ σ' H', C σ' H' → u F σ' H') (ht : (∀ σ' H', C σ' H' → u F σ' H') → t { F with nx := u F } σ H) : tSeq t u F σ H := ht hu
theorem va_set {p : Addr} {xs : List V} {i j : Nat} {k : Int} {D : Ends} (hs : σ[i]? = some (some (.ref p))) (h : H p = some (.lst xs)) (hv : Va te σ H v) (hk : ixN xs.length k = some j) (q : D.nx σ (upd H p (.lst (xs.set j v)))) : tAsg te (gSub (tVar i) (tC (.int k)) rSetL) D σ H :=
  hv _ ⟨_, hs, p, xs, k, j, rfl, rfl, h, hk, q⟩
theorem rq_set {p : Addr} {xs : List V} {i j : Nat} {k : Int} {u : TS} {F : Ends} (hs : σ[i]? = some (some (.ref p))) (h : H p = some (.lst xs)) (hv : Va te σ H v) (hk : ixN xs.length k = some j) (q : u F σ (upd H p (.lst (xs.set j v)))) : tSeq (tAsg te (gSub (tVar i) (tC (.int k)) rSetL)) u F σ H :=
  hv _ ⟨_, hs, p, xs, k, j, rfl, rfl, h, hk, q⟩
end
def preDraw (ds : List D) : Prop := ∃ n : Int, ds = [.i n] ∧ 0 < n ∧ n < 1073741824
def relDraw (ds : List D) (d : D) : Prop := ∃ n k : Int, ds = [.i n] ∧ d = .i k ∧ 0 ≤ k ∧ k < n
theorem fk__law_draw (F : Facts K mg) (p q : Addr) (ns : List Int) (f : Addr) (fd : FuncData) (hf : L2.Fun K "_law_draw" "_law_draw" s__law_draw f fd) : FnOk P w K mg base CX0 1 f fd ["pool", "upper"] (spX (PoolW p q ns) (.ref p) preDraw relDraw) := by
  refine hf.ok sc__law_draw (fun vs H Q E h => ?_) (fun cdv A outer s H vs Q E hr h => ⟨_, (pss_cons (ps_if (PW.pt (pw_and (pt_cmpR op_le (pe_ix (Nz.ixL K) (pv 0) pe_int (fun _ _ => rfl)) pe_int (nomark _)) (pw_and (pt_cmpR op_le (pe_ix (Nz.ixL K) (pv 0) pe_int (fun _ _ => rfl)) pe_int (nomark _)) (pw_and1 (pt_cmpR op_lt (pe_ix (Nz.ixL K) (pv 0) pe_int (fun _ _ => rfl)) (pe_callB (Nz.cLen K) rfl F.b_len Nz.boot_len (pa_cons (pe_ix (Nz.ixL K) (pv 0) pe_int (fun _ _ => rfl)) pa_nil)) (nomark _)))))) (pss_cons (ps_set (i := 2) sc__law_draw.nd rfl (Or.inl rfl) (pe_ix (Nz.ixL K) (pe_ix (Nz.ixL K) (pv 0) pe_int (fun _ _ => rfl)) (pe_ix (Nz.ixL K) (pv 0) pe_int (fun _ _ => rfl)) (fun _ _ => rfl)))
    (pss_cons (ps_asg (pe_op op_add (pe_ix (Nz.ixL K) (pv 0) pe_int (fun _ _ => rfl)) pe_int) (pg_sub (pv 0) pe_int set_list (fun _ => rfl)))
    (pss_cons (ps_asg (pe_op op_mod (pe_callTy Nz.c_int rfl F.b_int Nz.boot_int (pa_cons (pe_op op_add (pe_op op_mul (pe_ix (Nz.ixL K) (pv 0) pe_int (fun _ _ => rfl)) pe_int) (pv 2)) pa_nil)) pe_int) (pg_sub (pv 0) pe_int set_list (fun _ => rfl)))
    (pss_cons (ps_asg pe_int (pg_sub (pv 0) pe_int set_list (fun _ => rfl)))
    (pss_one (ps_if (pt_cmpR op_ge (pv 2) (pe_op op_pow pe_int pe_int) (nomark _)) (pss_one (ps_asg (pv 2) (pg_sub (pv 0) pe_int set_list (fun _ => rfl)))) pss_nil)))))) pss_nil)
    (pss_cons (ps_if (pt_cmpR op_gt (pe_ix (Nz.ixL K) (pv 0) pe_int (fun _ _ => rfl)) pe_int (nomark _)) (pss_cons (ps_set (i := 3) sc__law_draw.nd rfl (Or.inl rfl) (pe_op op_mod (pe_callTy Nz.c_int rfl F.b_int Nz.boot_int (pa_cons (pe_ix (Nz.ixL K) (pv 0) pe_int (fun _ _ => rfl)) pa_nil)) (pv 1)))
    (pss_cons (ps_asg (pe_op op_fdiv (pe_ix (Nz.ixL K) (pv 0) pe_int (fun _ _ => rfl)) (pv 1)) (pg_sub (pv 0) pe_int set_list (fun _ => rfl)))
    (pss_cons (ps_asg pe_int (pg_sub (pv 0) pe_int set_list (fun _ => rfl)))
    (pss_one (ps_ret (pv 3)))))) pss_nil)
    (pss_cons (ps_asg (pe_op op_sub (pe_ix (Nz.ixL K) (pv 0) pe_int (fun _ _ => rfl)) pe_int) (pg_sub (pv 0) pe_int set_list (fun _ => rfl)))
    (pss_cons (ps_asg (pe_op op_mod (pe_callTy Nz.c_int rfl F.b_int Nz.boot_int (pa_cons (pe_op op_add (pe_op op_mul (pe_ix (Nz.ixL K) (pv 0) pe_int (fun _ _ => rfl)) pe_int) pe_int) pa_nil)) pe_int) (pg_sub (pv 0) pe_int set_list (fun _ => rfl)))
    (pss_one (ps_ret (pe_op op_mod (pe_op op_mod (pe_callTy Nz.c_int rfl F.b_int Nz.boot_int (pa_cons (pe_op op_add (pe_op op_mul (pe_ix (Nz.ixL K) (pv 0) pe_int (fun _ _ => rfl)) pe_int) pe_int) pa_nil)) pe_int) (pv 1)))))))), ?_⟩)
  · obtain ⟨S, ds, us, rfl, _, _, _, _, is, ⟨n, rfl, _⟩, _⟩ := h
    obtain ⟨v, r, rfl, _, rfl⟩ := is
    rfl
  obtain ⟨S, ds, us, rfl, dm, hS, ⟨a, b, c, d, e, hp, ha, hc, hc2⟩, hK, is, ⟨n, rfl, hn, hn2⟩, k⟩ := h
  obtain ⟨v, r, rfl, i1, rfl⟩ := is
  cases i1
  have hq : H q = some (.lst (ns.map V.int)) ∧ q ≠ p := by
    have z := hK (fun b => if b = p then none else H b) (fun a e => if_pos e) (fun a o m e => by
      have m' : ¬ a = p := m
      show (if a = p then none else H a) = some o
      rw [if_neg m']
      exact e)
    have z' : (if q = p then none else H q) = some (.lst (ns.map V.int)) := z
    by_cases c : q = p
    · rw [if_pos c] at z'
      cases z'
    · rw [if_neg c] at z'
      exact ⟨z', c⟩
  have gp : ∀ {H1 : Hp} {o : HO}, Gr (fun a => a = p) H H1 → Gr (fun a => a = p) H (upd H1 p o) := fun g => g.trans (Gr.put rfl)
  have qn : ∀ {H1 : Hp}, Gr (fun a => a = p) H H1 → H1 q = some (.lst (ns.map V.int)) := fun g => g q _ hq.2 hq.1
  refine seq_rest (fun σ' H' => ∃ a b c d e x2 x3, σ' = [some (.ref p), some (.int n), x2, x3] ∧ H' p = some (poolL q a b c d e) ∧ 0 ≤ a ∧ 0 ≤ c ∧ c < 2147483647 ∧ Gr (fun a => a = p) H H') ?_ ?_
  · rintro σ' H' ⟨a, b, c, d, e, x2, x3, rfl, hp, ha, hc, hc2, g⟩
    refine rq_ite (at_test (va_I (va_ix (va_var rfl) va_c hp rfl) va_c)) (fun h => ?_) (fun h => ?_)
    · refine rq_name (va_IC (va_int (va_ix (va_var rfl) va_c hp rfl)) (va_var rfl) hn) ?_
      refine rq_set rfl hp (va_IC (va_ix (va_var rfl) va_c hp rfl) (va_var rfl) ⟨hn, hn2⟩) (j := 2) rfl ?_
      refine rq_set rfl upd_same va_c (j := 4) rfl ?_
      rw [upd_upd]
      refine r_ret (va_var rfl) ?_
      exact k (.i (b % n)) _ _ ⟨n, _, rfl, rfl, Int.emod_nonneg _ (by omega), Int.emod_lt_of_pos _ hn⟩ (gp g) ⟨a, _, c, 0, e, upd_same, ha, hc, hc2⟩ rfl
    · refine rq_set rfl hp (va_I (va_ix (va_var rfl) va_c hp rfl) va_c) (j := 4) rfl ?_
      refine rq_set rfl upd_same (va_IC (va_int (va_I (va_IC (va_ix (va_var rfl) va_c upd_same rfl) va_c (.inl ⟨by omega, by omega⟩)) va_c)) va_c (by decide)) (j := 3) rfl ?_
      rw [upd_upd]
      have m0 : 0 ≤ (c * 48271 + 12345) % 2147483647 := Int.emod_nonneg _ (by decide)
      have m1 : (c * 48271 + 12345) % 2147483647 < 2147483647 := Int.emod_lt_of_pos _ (by decide)
      refine r_ret (va_IC (va_IC (va_int (va_I (va_IC (va_ix (va_var rfl) va_c upd_same rfl) va_c (.inl ⟨by omega, by omega⟩)) va_c)) va_c (by decide)) (va_var rfl) hn) ?_
      exact k (.i _) _ _ ⟨n, _, rfl, rfl, Int.emod_nonneg _ (by omega), Int.emod_lt_of_pos _ hn⟩ (gp g) ⟨a, _, _, _, e, upd_same, ha, m0, m1⟩ rfl
  · intro rest
    have here := rest [some (.ref p), some (.int n), none, none] H ⟨a, b, c, d, e, none, none, rfl, hp, ha, hc, hc2, Gr.refl _ H⟩
    refine at_ite (at_and (at_test (va_I (va_ix (va_var rfl) va_c hp rfl) va_c)) (at_and (at_test (va_I (va_ix (va_var rfl) va_c hp rfl) va_c)) (at_test (va_I (va_ix (va_var rfl) va_c hp rfl) (va_len (va_ix (va_var rfl) va_c hp rfl) hq.1))))) (fun h => ?_) (fun _ => here)
    rw [Bool.and_eq_true, Bool.and_eq_true] at h
    have hal : a < ((ns.map V.int).length : Nat) := of_decide_eq_true h.2.2
    rw [List.length_map] at hal
    obtain ⟨z, hx⟩ : ∃ z, atI (ns.map V.int) a = some (.int z) := by
      obtain ⟨m, rfl⟩ := Int.eq_ofNat_of_zero_le ha
      have ex : m < ns.length := by omega
      exact ⟨ns[m], atI_nat (by rw [List.getElem?_map, List.getElem?_eq_getElem ex] <;> rfl)⟩
    refine rq_name (va_ix (va_ix (va_var rfl) va_c hp rfl) (va_ix (va_var rfl) va_c hp rfl) hq.1 hx) ?_
    refine rq_set rfl hp (va_I (va_ix (va_var rfl) va_c hp rfl) va_c) (j := 1) rfl ?_
    refine rq_set rfl upd_same (va_IC (va_int (va_I (va_IC (va_ix (va_var rfl) va_c upd_same rfl) va_c (.inl ⟨by omega, by omega⟩)) (va_var rfl))) va_c (by decide)) (j := 3) rfl ?_
    rw [upd_upd]
    refine rq_set rfl upd_same va_c (j := 4) rfl ?_
    rw [upd_upd]
    have m0 : 0 ≤ (c * 31 + z) % 2147483647 := Int.emod_nonneg _ (by decide)
    have m1 : (c * 31 + z) % 2147483647 < 2147483647 := Int.emod_lt_of_pos _ (by decide)
    refine at_ite (at_test (va_I (va_var rfl) (va_IC va_c va_c ⟨by decide, by decide, by decide⟩))) (fun _ => ?_) (fun _ => ?_)
    · refine va_set rfl upd_same (va_var rfl) (j := 2) rfl ?_
      rw [upd_upd]
      exact rest _ _ ⟨a + 1, z, _, 7, e, some (.int z), none, rfl, upd_same, by omega, m0, m1, gp (Gr.refl _ H)⟩
    · exact rest _ _ ⟨a + 1, b, _, 7, e, some (.int z), none, rfl, upd_same, by omega, m0, m1, gp (Gr.refl _ H)⟩
theorem k__law_draw (F : Facts K mg) (p q : Addr) (ns : List Int) : C8.Cal P w K mg base 1 "_law_draw" (spX (PoolW p q ns) (.ref p) preDraw relDraw) [] := F._law_draw.cal fun f fd hf => fk__law_draw F p q ns f fd hf
/-- any pool: where it stands, where its numbers stand, they themselves -/
abbrev PW3 : Addr × Addr × List Int → Wd := fun x => PoolW x.1 x.2.1 x.2.2
abbrev pv3 : Addr × Addr × List Int → V := fun x => .ref x.1
theorem kk__law_draw (F : Facts K mg) : C8.Cal P w K mg base 1 "_law_draw" (spXX PW3 pv3 preDraw relDraw) [] := F._law_draw.cal fun f fd hf => fn_ex fun x => fk__law_draw F x.1 x.2.1 x.2.2 f fd hf
end
end Nz
namespace Nz
open PySem L2
section
variable {P : Program} {w : World} {K : PySem.W.Frag} {mg : Str → Option Value} {base : Heap}
/-- a call of _law_draw with a written number -/
theorem xd_draw {p q : Addr} {ns : List Int} {es : Es} {i : Nat} {n : Int} {E0 : XK} (hi : es[i]? = some (.r (.ref p))) (h0 : 0 < n) (h1 : n < 1073741824) :
    XD (PoolW p q ns) (tCall (spX (PoolW p q ns) (.ref p) preDraw relDraw) [] E0 (tCons (tVar i) (tCons (tC (.int n)) tNil))) es (fun z => ∃ k : Int, z = .i k ∧ 0 ≤ k ∧ k < n) :=
  xd_imp (xd_callX hi (xs_eds (ea_cons ed_int ea_nil)) fun xs e => by subst e; exact ⟨n, rfl, h0, h1⟩) fun d ⟨xs, e, n', k, e1, e2, e3, e4⟩ => by
    subst e
    cases e1
    exact ⟨k, e2, e3, e4⟩
theorem xd_drawV {p q : Addr} {ns : List Int} {es : Es} {i : Nat} {n : Int} {te : TE} {E0 : XK} (hi : es[i]? = some (.r (.ref p))) (hn : ED te es (.i n)) (h0 : 0 < n) (h1 : n < 1073741824) :
    XD (PoolW p q ns) (tCall (spX (PoolW p q ns) (.ref p) preDraw relDraw) [] E0 (tCons (tVar i) (tCons te tNil))) es (fun z => ∃ k : Int, z = .i k ∧ 0 ≤ k ∧ k < n) :=
  xd_imp (xd_callX hi (xs_eds (ea_cons hn ea_nil)) fun xs e => by subst e; exact ⟨n, rfl, h0, h1⟩) fun d ⟨xs, e, n', k, e1, e2, e3, e4⟩ => by
    subst e
    cases e1
    exact ⟨k, e2, e3, e4⟩
def preNil (ds : List D) : Prop := ds = []
def relBool (ds : List D) (d : D) : Prop := ∃ b, d = .b b
theorem k__law_spend (F : Facts K mg) (p q : Addr) (ns : List Int) : C8.Cal P w K mg base 1 "_law_spend" (spX (PoolW p q ns) (.ref p) preNil relBool) [] := by
  refine F._law_spend.cal fun f fd hf => hf.ok sc__law_spend (fun vs H Q E h => ?_) (fun cdv A outer s H vs Q E hr h => ⟨_, (pss_cons (ps_asg (pe_op op_sub (pe_ix (Nz.ixL K) (pv 0) pe_int (fun _ _ => rfl)) pe_int) (pg_sub (pv 0) pe_int set_list (fun _ => rfl)))
    (pss_one (ps_ret (pe_cmpR op_ge (pe_ix (Nz.ixL K) (pv 0) pe_int (fun _ _ => rfl)) pe_int (nomark _))))), ?_⟩)
  · obtain ⟨S, ds, us, rfl, _, _, _, _, is, rfl, _⟩ := h
    cases is
    rfl
  obtain ⟨S, ds, us, rfl, dm, hS, ⟨a, b, c, d, e, hp, ha, hc, hc2⟩, hK, is, rfl, k⟩ := h
  cases is
  refine rq_set rfl hp (va_I (va_ix (va_var rfl) va_c hp rfl) va_c) (j := 5) rfl ?_
  refine r_ret (va_I (va_ix (va_var rfl) va_c upd_same rfl) va_c) ?_
  exact k (.b _) _ _ ⟨_, rfl⟩ (Gr.put rfl) ⟨a, b, c, d, _, upd_same, ha, hc, hc2⟩ rfl
def preFew (ds : List D) : Prop := ∃ m : Int, ds = [.i m] ∧ 0 ≤ m ∧ m < 1000
def relFew (ds : List D) (d : D) : Prop := ∃ m k : Int, ds = [.i m] ∧ d = .i k ∧ 0 ≤ k ∧ k ≤ m
theorem k__law_few (F : Facts K mg) (p q : Addr) (ns : List Int) : C8.Cal P w K mg base 2 "_law_few" (spX (PoolW p q ns) (.ref p) preFew relFew) [] := by
  have c__law_draw := k__law_draw (P := P) (w := w) (base := base) F p q ns
  refine F._law_few.X sc__law_few (fun ds ⟨m, e, _⟩ => by subst e; rfl) (fun f cdv A outer s H E hr => ⟨_, (pss_cons (ps_set (i := 2) sc__law_few.nd rfl (Or.inl rfl) (C8.pe_c c__law_draw hr (by first | decide | omega) rfl (pa_cons (pv 0) (pa_cons pe_int pa_nil))))
    (pss_cons (ps_if (pt_cmpR op_eq (pv 2) pe_int (nomark _)) (pss_one (ps_ret (C8.pe_c c__law_draw hr (by first | decide | omega) rfl (pa_cons (pv 0) (pa_cons (pe_op op_add (pv 1) pe_int) pa_nil))))) pss_nil)
    (pss_one (ps_ret (pe_callB (Nz.c_min2 rfl) rfl F.b_min Nz.boot_min (pa_cons (pv 2) (pa_cons (pv 1) pa_nil))))))), fun ds hP => ?_⟩)
  obtain ⟨m, rfl, h0, h1⟩ := hP
  refine sq_setX (xd_draw rfl (by decide) (by decide)) fun d ⟨k, e, k0, k1⟩ => ?_
  subst e
  refine sq_if (by (repeat' (first
      | with_reducible exact ed_str | with_reducible exact ed_int | with_reducible exact ed_bl | with_reducible exact ed_non
      | exact ed_var rfl | exact ed_var (by assumption) | with_reducible exact ea_nil | with_reducible apply ea_cons
      | with_reducible apply et_test | with_reducible apply et_B | with_reducible apply et_not
      | with_reducible apply ed_tup | with_reducible apply ed_op | with_reducible apply el_lst
      | exact rd_eqSb rfl | exact rd_neSb rfl | exact rd_eqIb rfl | exact rd_neIb rfl
      | exact rd_ixT0 | exact rd_ixT1 | exact rd_ixT2 | exact rd_bool rfl | exact rd_int rfl | exact rd_inTc rfl rfl rfl | exact short_size rfl))) (fun h => ?_) (fun h => ?_)
  · refine sq_retXD (xd_drawV rfl (n := m + 1) (ed_op (ed_var rfl) ed_int (rd_int rfl)) (by omega) (by omega)) fun d ⟨j, e, j0, j1⟩ => ?_
    exact ⟨m, j, rfl, e, j0, by omega⟩
  · refine sd_ret (ed_cb (ea_cons (ed_var rfl) (ea_cons (ed_var rfl) ea_nil)) rc_min2) ?_
    refine ⟨m, _, rfl, rfl, ?_, ?_⟩ <;> split <;> omega
def relNum (ds : List D) (d : D) : Prop := ∃ k : Int, d = .i k ∧ 0 ≤ k ∧ k < 65536
theorem k__law_number (F : Facts K mg) (p q : Addr) (ns : List Int) : C8.Cal P w K mg base 2 "_law_number" (spX (PoolW p q ns) (.ref p) preNil relNum) [] := by
  have c__law_draw := k__law_draw (P := P) (w := w) (base := base) F p q ns
  refine F._law_number.X sc__law_number (fun ds e => by cases e; rfl) (fun f cdv A outer s H E hr => ⟨_, (pss_cons (ps_if (pt_cmpR op_eq (C8.pe_c c__law_draw hr (by first | decide | omega) rfl (pa_cons (pv 0) (pa_cons pe_int pa_nil))) pe_int (nomark _)) (pss_one (ps_ret (C8.pe_c c__law_draw hr (by first | decide | omega) rfl (pa_cons (pv 0) (pa_cons pe_int pa_nil))))) pss_nil)
    (pss_one (ps_ret (C8.pe_c c__law_draw hr (by first | decide | omega) rfl (pa_cons (pv 0) (pa_cons pe_int pa_nil)))))), fun ds hP => ?_⟩)
  cases hP
  refine sq_ifX (R := fun _ => True) (xt_test (xd_imp (xd_opL (xd_draw rfl (by decide) (by decide)) ed_int (R3 := fun _ z => ∃ b, z = .b b) fun x ⟨k, e, _⟩ => by subst e; exact ⟨_, rd_eqI, _, rfl⟩) fun d ⟨_, _, b, e⟩ => ⟨b, e, trivial⟩)) (fun _ => ?_) (fun _ => ?_)
  · refine sq_retXD (xd_draw rfl (by decide) (by decide)) fun d ⟨k, e, k0, k1⟩ => ⟨k, e, k0, k1⟩
  · refine sq_next (sd_retXD (xd_draw rfl (by decide) (by decide)) fun d ⟨k, e, k0, k1⟩ => ⟨k, e, k0, by omega⟩)
end
end Nz
namespace Nz
open PySem L2
abbrev keyWords : List Str := ["fun", "call", "let", "in", "make", "case", "of", "end", "ifzero", "tick", "waste", "hole"]
abbrev kwD : List D := [.s "fun", .s "call", .s "let", .s "in", .s "make", .s "case", .s "of", .s "end", .s "ifzero", .s "tick", .s "waste", .s "hole"]
theorem kwD_eq : kwD = keyWords.map D.s := rfl
def Low (l : List Nat) : Prop := ∀ c ∈ l, 97 ≤ c ∧ c ≤ 122
def Upp (l : List Nat) : Prop := ∀ c ∈ l, 65 ≤ c ∧ c ≤ 90
/-- a name: 1 to 6 letters, no key word -/
def NameOk (x : Str) : Prop := ∃ l : List Nat, x = ⟨l.toArray⟩ ∧ Low l ∧ 1 ≤ l.length ∧ l.length ≤ 6 ∧ x ∉ keyWords
def ConOk (x : Str) : Prop := ∃ l : List Nat, x = ⟨l.toArray⟩ ∧ Upp l ∧ 1 ≤ l.length ∧ l.length ≤ 6
section
variable {K : PySem.W.Frag} {W : Wd} {es : Es} {tb : TE} {x : D} {ds : List D}
theorem rd_inTb (fx : flD x = true) (fs : ds.all flD = true) : RD (rIn K false) x (.t ds) (.b (inD x ds)) := rd_inT fx fs
theorem rd_ninTb (fx : flD x = true) (fs : ds.all flD = true) : RD (rIn K true) x (.t ds) (.b (!inD x ds)) := rd_inT fx fs
theorem rd_inLb (fx : flD x = true) (fs : ds.all flD = true) : RD (rIn K false) x (.l ds) (.b (inD x ds)) := rd_inL fx fs
theorem rd_ninLb (fx : flD x = true) (fs : ds.all flD = true) : RD (rIn K true) x (.l ds) (.b (!inD x ds)) := rd_inL fx fs
theorem xd_sign {z : Str} {n : Int} (hn : n = (z.cps.toList.length : Nat)) (hz : z.length ≤ sizeLine) (h : XD W tb es (fun d => ∃ k : Int, d = .i k ∧ 0 ≤ k ∧ k < n)) : XD W (tOp rIxS (tC (.str z)) tb) es (fun d => ∃ c : Nat, d = .s ⟨#[c]⟩ ∧ c ∈ z.cps.toList) :=
  xd_imp (xd_opR (R3 := fun _ d => ∃ c : Nat, d = .s ⟨#[c]⟩ ∧ c ∈ z.cps.toList) ed_str h fun y ⟨k, e, k0, k1⟩ => by
    subst e
    obtain ⟨m, rfl⟩ := Int.eq_ofNat_of_zero_le k0
    have hm : m < z.cps.toList.length := by omega
    exact ⟨.s ⟨#[z.cps.toList[m]]⟩, rd_ixS hz (atI_nat (List.getElem?_eq_getElem hm)), _, rfl, List.getElem_mem hm⟩) fun d ⟨_, _, r⟩ => r
theorem app_sign (l : List Nat) (c : Nat) : (⟨l.toArray⟩ : Str) ++ ⟨#[c]⟩ = ⟨(l ++ [c]).toArray⟩ := SX.S_cat l [c]
theorem len_sign (l : List Nat) : (⟨l.toArray⟩ : Str).length = l.length := SX.S_len l
theorem all_low {z : Str} (h : (z.cps.toList.all fun c => decide (97 ≤ c) && decide (c ≤ 122)) = true) {c : Nat} (m : c ∈ z.cps.toList) : 97 ≤ c ∧ c ≤ 122 := by
  have := List.all_eq_true.mp h c m
  rw [Bool.and_eq_true] at this
  exact ⟨of_decide_eq_true this.1, of_decide_eq_true this.2⟩
theorem all_upp {z : Str} (h : (z.cps.toList.all fun c => decide (65 ≤ c) && decide (c ≤ 90)) = true) {c : Nat} (m : c ∈ z.cps.toList) : 65 ≤ c ∧ c ≤ 90 := by
  have := List.all_eq_true.mp h c m
  rw [Bool.and_eq_true] at this
  exact ⟨of_decide_eq_true this.1, of_decide_eq_true this.2⟩
/-- a single letter of abcdxyz is a name -/
theorem name_one {c : Nat} (h : 97 ≤ c ∧ c ≤ 122) : NameOk ⟨#[c]⟩ := by
  refine ⟨[c], rfl, fun d m => ?_, Nat.le_refl _, (by show 1 ≤ 6; decide), fun m => ?_⟩
  · cases List.mem_singleton.mp m
    exact h
  · have e : ∀ y ∈ keyWords, y.cps.size ≠ 1 := by decide
    exact e _ m rfl
end
section
variable {P : Program} {w : World} {K : PySem.W.Frag} {mg : Str → Option Value} {base : Heap}
def relName (ds : List D) (d : D) : Prop := ∃ x, d = .s x ∧ NameOk x
/-- range(1 + a draw) -/
theorem xsrc_draw1 {p q : Addr} {ns : List Int} {es : Es} {n : Int} {tc : TE} (h : XD (PoolW p q ns) tc es (fun z => ∃ k : Int, z = .i k ∧ 0 ≤ k ∧ k < n)) (hn : n < 1000) :
    XSrc (PoolW p q ns) (iRng1 (tCons (tOp (rI0 fun i j => .int (i + j)) (tC (.int 1)) tc) tNil)) es (fun z => ∃ m : Nat, z = rngD m ∧ 1 ≤ m ∧ (m : Int) ≤ n) :=
  xsrc_rng (R := fun m => 1 ≤ m ∧ (m : Int) ≤ n) (xds_imp (xs_one (R := fun z => ∃ m : Nat, z = .i (m : Int) ∧ 1 ≤ m ∧ (m : Int) ≤ n) (xd_imp (xd_opR (R3 := fun _ z => ∃ m : Nat, z = .i (m : Int) ∧ 1 ≤ m ∧ (m : Int) ≤ n) ed_int h fun y ⟨k, e, k0, k1⟩ => by
    subst e
    obtain ⟨m, rfl⟩ := Int.eq_ofNat_of_zero_le k0
    exact ⟨.i ((m + 1 : Nat) : Int), rd_int (congrArg V.int (by omega)), m + 1, rfl, by omega, by omega⟩) fun d ⟨_, _, r⟩ => r)) fun ds ⟨d, e, m, e2, r⟩ => ⟨m, by rw [e, e2], r⟩) fun m r => by omega
theorem k__law_name (F : Facts K mg) (p q : Addr) (ns : List Int) : C8.Cal P w K mg base 2 "_law_name" (spX (PoolW p q ns) (.ref p) preNil relName) [] := by
  have c__law_draw := k__law_draw (P := P) (w := w) (base := base) F p q ns
  refine F._law_name.X sc__law_name (fun ds e => by cases e; rfl) (fun f cdv A outer s H E hr => ⟨_, (pss_cons (ps_if (pt_cmpR op_gt (C8.pe_c c__law_draw hr (by first | decide | omega) rfl (pa_cons (pv 0) (pa_cons pe_int pa_nil))) pe_int (nomark _)) (pss_one (ps_ret (pe_ix ix_str pe_str (C8.pe_c c__law_draw hr (by first | decide | omega) rfl (pa_cons (pv 0) (pa_cons pe_int pa_nil))) (fun _ _ => rfl)))) pss_nil)
    (pss_cons (ps_set (i := 1) sc__law_name.nd rfl (Or.inl rfl) pe_str)
    (pss_cons (ps_for PassesOwn.never rfl (pi_range1 rfl F.b_range (pa_cons (pe_op op_add pe_int (C8.pe_c c__law_draw hr (by first | decide | omega) rfl (pa_cons (pv 0) (pa_cons pe_int pa_nil)))) pa_nil)) (pg_name (i := 2) sc__law_name.nd rfl (Or.inl rfl)) (pss_one (ps_set (i := 1) sc__law_name.nd rfl (Or.inl rfl) (pe_op Nz.op_addS (pv 1) (pe_ix ix_str pe_str (C8.pe_c c__law_draw hr (by first | decide | omega) rfl (pa_cons (pv 0) (pa_cons pe_int pa_nil))) (fun _ _ => rfl))))))
    (pss_cons (ps_if (pt_cmpR (Nz.inQ K) (pv 1) (pe_tup (pa_cons pe_str (pa_cons pe_str (pa_cons pe_str (pa_cons pe_str (pa_cons pe_str (pa_cons pe_str (pa_cons pe_str (pa_cons pe_str (pa_cons pe_str (pa_cons pe_str (pa_cons pe_str (pa_cons pe_str pa_nil))))))))))))) rfl) (pss_one (ps_ret pe_str)) pss_nil)
    (pss_one (ps_ret (pv 1))))))), fun ds hP => ?_⟩)
  cases hP
  refine sq_ifX (R := fun _ => True) (xt_test (xd_imp (xd_opL (xd_draw rfl (by decide) (by decide)) ed_int (R3 := fun _ z => ∃ b, z = .b b) fun x ⟨k, e, _⟩ => by subst e; exact ⟨_, rd_bool rfl, _, rfl⟩) fun d ⟨_, _, b, e⟩ => ⟨b, e, trivial⟩)) (fun _ => ?_) (fun _ => ?_)
  · refine sq_retXD (xd_sign (n := 7) rfl (by decide) (xd_draw rfl (by decide) (by decide))) fun d ⟨c, e, m⟩ => ⟨_, e, name_one (all_low (by decide) m)⟩
  refine sq_next (sq_set ed_str ?_)
  refine sd_seq (fun e => ∃ l κ, e = [.r (.ref p), .d (.s ⟨List.toArray l⟩), κ] ∧ Low l ∧ 1 ≤ l.length ∧ l.length ≤ 6) ?_ ?_
  · refine sd_forX (xsrc_draw1 (xd_draw rfl (n := 6) (by decide) (by decide)) (by decide)) (fun ds i e => ∃ l κ, e = [.r (.ref p), .d (.s ⟨List.toArray l⟩), κ] ∧ Low l ∧ l.length = i) (fun ds _ => ⟨[], _, rfl, (fun c m => by cases m), rfl⟩) (fun ds i d e r hd he => ?_) (fun ds e ⟨m, hm, m1, m6⟩ he => ?_)
    · obtain ⟨l, κ, rfl, hl, hi⟩ := he
      obtain ⟨m, rfl, m1, m6⟩ := r
      have hi6 : i < 6 := by
        have := (List.getElem?_eq_some_iff.mp hd).1
        have e : (rngD m).length = m := by simp [rngD]
        omega
      refine ⟨_, gd_name, sd_setX (xd_opR (R3 := fun _ d => ∃ c : Nat, d = .s ⟨(l ++ [c]).toArray⟩ ∧ 97 ≤ c ∧ c ≤ 122) (ed_var rfl) (xd_sign (n := 26) rfl (by decide) (xd_draw rfl (by decide) (by decide))) fun y ⟨c, e, mc⟩ => ?_) fun d ⟨_, _, c, e, hc⟩ => ?_⟩
      · subst e
        refine ⟨_, rd_addS (by rw [len_sign]; show l.length + 1 ≤ _; exact small4 (by omega)), c, ?_, all_low (by decide) mc⟩
        rw [app_sign]
      · subst e
        refine ⟨l ++ [c], _, rfl, fun b m => ?_, by rw [List.length_append, hi]; rfl⟩
        rcases List.mem_append.mp m with m | m
        · exact hl b m
        · cases List.mem_singleton.mp m
          exact hc
    · obtain ⟨l, κ, rfl, hl, hi⟩ := he
      subst hm
      have e : (rngD m).length = m := by simp [rngD]
      rw [e] at hi
      exact ⟨l, κ, rfl, hl, by omega, by omega⟩
  · rintro e ⟨l, κ, rfl, hl, h1, h6⟩
    refine sq_if (b := inD (.s ⟨l.toArray⟩) kwD) (et_test (ed_op (ed_var rfl) (show ED _ _ (.t kwD) by (repeat' (first
      | with_reducible exact ed_str | with_reducible exact ed_int | with_reducible exact ed_bl | with_reducible exact ed_non
      | exact ed_var rfl | exact ed_var (by assumption) | with_reducible exact ea_nil | with_reducible apply ea_cons
      | with_reducible apply et_test | with_reducible apply et_B | with_reducible apply et_not
      | with_reducible apply ed_tup | with_reducible apply ed_op | with_reducible apply el_lst
      | exact rd_eqSb rfl | exact rd_neSb rfl | exact rd_eqIb rfl | exact rd_neIb rfl
      | exact rd_ixT0 | exact rd_ixT1 | exact rd_ixT2 | exact rd_bool rfl | exact rd_int rfl | exact rd_inTc rfl rfl rfl | exact short_size rfl))) (rd_inTb rfl rfl))) (fun h => ?_) (fun h => ?_)
    · exact sq_ret ed_str ⟨_, rfl, name_one (by decide)⟩
    · refine sd_ret (ed_var rfl) ⟨_, rfl, l, rfl, hl, h1, h6, fun m => ?_⟩
      rw [kwD_eq, inD_strs] at h
      exact of_decide_eq_false h m
def relCon (ds : List D) (d : D) : Prop := ∃ x, d = .s x ∧ ConOk x
theorem k__law_made (F : Facts K mg) (p q : Addr) (ns : List Int) : C8.Cal P w K mg base 3 "_law_made" (spX (PoolW p q ns) (.ref p) preNil relCon) [] := by
  have c__law_draw := k__law_draw (P := P) (w := w) (base := base) F p q ns
  have c__law_few := k__law_few (P := P) (w := w) (base := base) F p q ns
  refine F._law_made.X sc__law_made (fun ds e => by cases e; rfl) (fun f cdv A outer s H E hr => ⟨_, (pss_cons (ps_set (i := 1) sc__law_made.nd rfl (Or.inl rfl) pe_str)
    (pss_cons (ps_for PassesOwn.never rfl (pi_range1 rfl F.b_range (pa_cons (pe_op op_add pe_int (C8.pe_c c__law_few hr (by first | decide | omega) rfl (pa_cons (pv 0) (pa_cons pe_int pa_nil)))) pa_nil)) (pg_name (i := 2) sc__law_made.nd rfl (Or.inl rfl)) (pss_one (ps_set (i := 1) sc__law_made.nd rfl (Or.inl rfl) (pe_op Nz.op_addS (pv 1) (pe_ix ix_str pe_str (C8.pe_c c__law_draw hr (by first | decide | omega) rfl (pa_cons (pv 0) (pa_cons pe_int pa_nil))) (fun _ _ => rfl))))))
    (pss_one (ps_ret (pv 1))))), fun ds hP => ?_⟩)
  cases hP
  refine sq_set ed_str ?_
  have few : XD (PoolW p q ns) (tCall (spX (PoolW p q ns) (.ref p) preFew relFew) [] E0 (tCons (tVar 0) (tCons (tC (.int 5)) tNil))) [.r (.ref p), .d (.s ⟨#[]⟩), .no] (fun z => ∃ k : Int, z = .i k ∧ 0 ≤ k ∧ k < 6) :=
    xd_imp (xd_callX rfl (xs_eds (ea_cons ed_int ea_nil)) fun xs e => by subst e; exact ⟨5, rfl, by decide, by decide⟩) fun d ⟨xs, e, n', k, e1, e2, e3, e4⟩ => by
      subst e
      cases e1
      exact ⟨k, e2, e3, by omega⟩
  refine sd_seq (fun e => ∃ l κ, e = [.r (.ref p), .d (.s ⟨List.toArray l⟩), κ] ∧ Upp l ∧ 1 ≤ l.length ∧ l.length ≤ 6) ?_ ?_
  · refine sd_forX (xsrc_draw1 few (by decide)) (fun ds i e => ∃ l κ, e = [.r (.ref p), .d (.s ⟨List.toArray l⟩), κ] ∧ Upp l ∧ l.length = i) (fun ds _ => ⟨[], _, rfl, (fun c m => by cases m), rfl⟩) (fun ds i d e r hd he => ?_) (fun ds e ⟨m, hm, m1, m6⟩ he => ?_)
    · obtain ⟨l, κ, rfl, hl, hi⟩ := he
      obtain ⟨m, rfl, m1, m6⟩ := r
      have hi6 : i < 6 := by
        have := (List.getElem?_eq_some_iff.mp hd).1
        have e : (rngD m).length = m := by simp [rngD]
        omega
      refine ⟨_, gd_name, sd_setX (xd_opR (R3 := fun _ d => ∃ c : Nat, d = .s ⟨(l ++ [c]).toArray⟩ ∧ 65 ≤ c ∧ c ≤ 90) (ed_var rfl) (xd_sign (n := 26) rfl (by decide) (xd_draw rfl (by decide) (by decide))) fun y ⟨c, e, mc⟩ => ?_) fun d ⟨_, _, c, e, hc⟩ => ?_⟩
      · subst e
        refine ⟨_, rd_addS (by rw [len_sign]; show l.length + 1 ≤ _; exact small4 (by omega)), c, ?_, all_upp (by decide) mc⟩
        rw [app_sign]
      · subst e
        refine ⟨l ++ [c], _, rfl, fun b m => ?_, by rw [List.length_append, hi]; rfl⟩
        rcases List.mem_append.mp m with m | m
        · exact hl b m
        · cases List.mem_singleton.mp m
          exact hc
    · obtain ⟨l, κ, rfl, hl, hi⟩ := he
      subst hm
      have e : (rngD m).length = m := by simp [rngD]
      rw [e] at hi
      exact ⟨l, κ, rfl, hl, by omega, by omega⟩
  · rintro e ⟨l, κ, rfl, hl, h1, h6⟩
    exact sd_ret (ed_var rfl) ⟨_, rfl, l, rfl, hl, h1, h6⟩
end
end Nz
namespace Nz
open PySem L2
theorem nodup_sub {α : Type} [DecidableEq α] : ∀ {l xs : List α}, l.Nodup → (∀ x ∈ l, x ∈ xs) → l.length ≤ xs.length
  | [], _, _, _ => Nat.zero_le _
  | a :: l, xs, n, h => by
    have ha := h a (List.mem_cons_self ..)
    have n' := List.nodup_cons.mp n
    have ih := nodup_sub (l := l) (xs := xs.erase a) n'.2 fun x hx => (List.mem_erase_of_ne (fun z => n'.1 (by rw [← z]; exact hx))).mpr (h x (List.mem_cons_of_mem _ hx))
    rw [List.length_erase_of_mem ha] at ih
    have : 0 < xs.length := List.length_pos_of_mem ha
    show l.length + 1 ≤ _
    omega
section
variable {P : Program} {w : World} {K : PySem.W.Frag} {mg : Str → Option Value} {base : Heap}
abbrev others : List Str := ["mm", "nn", "oo", "pp", "qq"]
def preUn (ds : List D) : Prop := ∃ c : Nat, ds = [.i (c : Int)] ∧ c ≤ 4
def relUn (ds : List D) (d : D) : Prop := ∃ (c : Nat) (xs : List Str), ds = [.i (c : Int)] ∧ d = .l (xs.map D.s) ∧ xs.length = c ∧ (∀ x ∈ xs, NameOk x) ∧ xs.Nodup
theorem other_ok : ∀ o ∈ others, NameOk o := by
  intro o h
  have e : ∀ o ∈ others, ∃ c, o = ⟨#[c, c]⟩ ∧ 97 ≤ c ∧ c ≤ 122 := by
    intro o h
    simp only [List.mem_cons, List.not_mem_nil, or_false] at h
    rcases h with rfl | rfl | rfl | rfl | rfl
    · exact ⟨109, rfl, by decide, by decide⟩
    · exact ⟨110, rfl, by decide, by decide⟩
    · exact ⟨111, rfl, by decide, by decide⟩
    · exact ⟨112, rfl, by decide, by decide⟩
    · exact ⟨113, rfl, by decide, by decide⟩
  have nk : ∀ o ∈ others, o ∉ keyWords := by decide
  obtain ⟨c, rfl, hc⟩ := e o h
  refine ⟨[c, c], rfl, fun b m => ?_, (by show 1 ≤ 2; decide), (by show 2 ≤ 6; decide), nk _ h⟩
  rcases List.mem_cons.mp m with rfl | m
  · exact hc
  · cases List.mem_singleton.mp m
    exact hc
theorem k__law_unlike (F : Facts K mg) (p q : Addr) (ns : List Int) : C8.Cal P w K mg base 3 "_law_unlike" (spX (PoolW p q ns) (.ref p) preUn relUn) [] := by
  have c__law_name := k__law_name (P := P) (w := w) (base := base) F p q ns
  refine F._law_unlike.X sc__law_unlike (fun ds ⟨c, e, _⟩ => by subst e; rfl) (fun f cdv A outer s H E hr => ⟨_, (pss_cons (ps_set (i := 2) sc__law_unlike.nd rfl (Or.inl rfl) (pe_lst pa_nil))
    (pss_cons (ps_for PassesOwn.never rfl (pi_range1 rfl F.b_range (pa_cons (pv 1) pa_nil)) (pg_name (i := 3) sc__law_unlike.nd rfl (Or.inl rfl)) (pss_cons (ps_set (i := 4) sc__law_unlike.nd rfl (Or.inl rfl) (C8.pe_c c__law_name hr (by first | decide | omega) rfl (pa_cons (pv 0) pa_nil)))
    (pss_cons (ps_for PassesOwn.never rfl (Nz.piT K (pe_tup (pa_cons pe_str (pa_cons pe_str (pa_cons pe_str (pa_cons pe_str (pa_cons pe_str pa_nil))))))) (pg_name (i := 5) sc__law_unlike.nd rfl (Or.inl rfl)) (pss_one (ps_if (pt_cmpR (Nz.inQ K) (pv 4) (pv 2) rfl) (pss_one (ps_set (i := 4) sc__law_unlike.nd rfl (Or.inl rfl) (pv 5))) pss_nil)))
    (pss_one (ps_expr (pe_bm PySem.F.plainAttrs_list PySem.F.slot_list_append PySem.F.type_list_append mt_append (pv 2) (pa_cons (pv 4) pa_nil)))))))
    (pss_one (ps_ret (pv 2))))), fun ds hP => ?_⟩)
  obtain ⟨c, rfl, h4⟩ := hP
  refine sq_setO (el_lst ea_nil (Nat.zero_le _)) ?_
  refine sd_seq (fun e => ∃ xs κ τ μ, e = [.r (.ref p), .d (.i (c : Int)), .o (.l (List.map D.s xs)), κ, τ, μ] ∧ xs.length = c ∧ (∀ x ∈ xs, NameOk x) ∧ xs.Nodup) ?_ ?_
  · refine sd_for (src_rng (ea_cons (ed_var rfl) ea_nil) (by omega)) (fun i e => ∃ xs κ τ μ, e = [.r (.ref p), .d (.i (c : Int)), .o (.l (List.map D.s xs)), κ, τ, μ] ∧ xs.length = i ∧ (∀ x ∈ xs, NameOk x) ∧ xs.Nodup)
      ⟨[], _, _, _, rfl, rfl, (fun x m => by cases m), List.nodup_nil⟩ (fun i d e hd he => ?_) (fun e he => ?_)
    · obtain ⟨xs, κ, τ, μ, rfl, hi, hn, nd⟩ := he
      have hic : i < c := by
        have := (List.getElem?_eq_some_iff.mp hd).1
        simpa [rngD] using this
      refine ⟨_, gd_name, ?_⟩
      refine sq_setX (R := fun z => ∃ x, z = .s x ∧ NameOk x) (xd_imp (xd_callX rfl (xs_eds ea_nil) fun xs e => e) fun d ⟨_, _, r⟩ => r) fun d' ⟨x, e, hx⟩ => ?_
      subst e
      refine sd_seq (fun e => ∃ y μ, e = [.r (.ref p), .d (.i (c : Int)), .o (.l (List.map D.s xs)), .d d, .d (.s y), μ] ∧ NameOk y ∧ y ∉ xs) ?_ ?_
      · refine sd_for (src_tup (show ED _ _ (.t (others.map D.s)) from (by (repeat' (first
      | with_reducible exact ed_str | with_reducible exact ed_int | with_reducible exact ed_bl | with_reducible exact ed_non
      | exact ed_var rfl | exact ed_var (by assumption) | with_reducible exact ea_nil | with_reducible apply ea_cons
      | with_reducible apply et_test | with_reducible apply et_B | with_reducible apply et_not
      | with_reducible apply ed_tup | with_reducible apply ed_op | with_reducible apply el_lst
      | exact rd_eqSb rfl | exact rd_neSb rfl | exact rd_eqIb rfl | exact rd_neIb rfl
      | exact rd_ixT0 | exact rd_ixT1 | exact rd_ixT2 | exact rd_bool rfl | exact rd_int rfl | exact rd_inTc rfl rfl rfl | exact short_size rfl)) : ED _ _ (.t [.s "mm", .s "nn", .s "oo", .s "pp", .s "qq"])))) (fun j e => ∃ y μ, e = [.r (.ref p), .d (.i (c : Int)), .o (.l (List.map D.s xs)), .d d, .d (.s y), μ] ∧ NameOk y ∧ (y ∈ xs → ∀ o ∈ others.take j, o ∈ xs))
          ⟨x, _, rfl, hx, fun _ o m => by cases m⟩ (fun j d2 e hd2 he => ?_) (fun e he => ?_)
        · obtain ⟨y, μ, rfl, hy, hs⟩ := he
          rw [List.getElem?_map] at hd2
          cases ho : others[j]? with
          | none =>
            rw [ho] at hd2
            cases hd2
          | some o =>
            rw [ho] at hd2
            cases hd2
            have om := List.mem_of_getElem? ho
            have tk : others.take (j + 1) = others.take j ++ [o] := by rw [List.take_succ, ho]; rfl
            refine ⟨_, gd_name, ?_⟩
            refine sd_if (b := inD (.s y) (xs.map D.s)) (et_test (ed_opx (ED.toX (ed_var rfl)) (ex_own rfl) (rd_inLb rfl (flD_strs xs)) rfl)) (fun h => ?_) (fun h => ?_)
            · rw [inD_strs] at h
              have ym := of_decide_eq_true h
              refine sd_set (ed_var rfl) ⟨o, _, rfl, other_ok o om, fun z b m => ?_⟩
              rw [tk] at m
              rcases List.mem_append.mp m with m | m
              · exact hs ym b m
              · cases List.mem_singleton.mp m
                exact z
            · rw [inD_strs] at h
              exact sd_next ⟨y, _, rfl, hy, fun z => absurd z (of_decide_eq_false h)⟩
        · obtain ⟨y, μ, rfl, hy, hs⟩ := he
          refine ⟨y, μ, rfl, hy, fun m => ?_⟩
          have := nodup_sub (l := others) (xs := xs) (by decide) (fun o ho => hs m o (by rw [List.take_of_length_le (by rw [List.length_map]; exact Nat.le_refl _)]; exact ho))
          have e5 : others.length = 5 := rfl
          omega
      · rintro e ⟨y, μ, rfl, hy, ny⟩
        refine sd_app rfl (ed_var rfl) (by rw [List.length_map]; exact Nat.lt_of_lt_of_le (by omega) (small4 (n := 10) (by decide))) ?_
        refine ⟨xs ++ [y], _, _, _, by rw [List.map_append]; rfl, by rw [List.length_append, hi]; rfl, fun z m => ?_, ?_⟩
        · rcases List.mem_append.mp m with m | m
          · exact hn z m
          · cases List.mem_singleton.mp m
            exact hy
        · exact List.nodup_append.mpr ⟨nd, List.nodup_cons.mpr ⟨List.not_mem_nil, List.nodup_nil⟩, fun a ha b hb => by
            cases List.mem_singleton.mp hb
            exact fun z => ny (by rw [← z]; exact ha)⟩
    · obtain ⟨xs, κ, τ, μ, rfl, hi, hn, nd⟩ := he
      exact ⟨xs, κ, τ, μ, rfl, by rw [hi]; simp [rngD], hn, nd⟩
  · rintro e ⟨xs, κ, τ, μ, rfl, hi, hn, nd⟩
    exact sd_retO rfl ⟨c, xs, rfl, rfl, hi, hn, nd⟩
end
end Nz
namespace Nz
open PySem L2
/-- heads whose names and constructors are such -/
def okN : Hd → Prop
  | .var x => NameOk x
  | .num n => 0 ≤ n ∧ n < 65536
  | .mk c xs => ConOk c ∧ ∀ x ∈ xs, NameOk x
  | .hole => True
  | .fn x => NameOk x
  | .call x => NameOk x
  | .lets xs => (∀ x ∈ xs, NameOk x) ∧ xs.Nodup ∧ 1 ≤ xs.length
  | .case rs => (∀ r ∈ rs, ConOk r.1 ∧ (∀ x ∈ r.2, NameOk x) ∧ r.2.Nodup) ∧ (rs.map (·.1)).Nodup ∧ 1 ≤ rs.length
  | .op _ => True
mutual
def Wn : Tm → Prop
  | .nd h ks => okN h ∧ Wns ks
def Wns : List Tm → Prop
  | [] => True
  | k :: r => Wn k ∧ Wns r
end
mutual
def dep : Tm → Nat
  | .nd _ ks => deps ks + 1
def deps : List Tm → Nat
  | [] => 0
  | k :: r => max (dep k) (deps r)
end
theorem wns_all : ∀ {ks : List Tm}, Wns ks ↔ ∀ k ∈ ks, Wn k
  | [] => ⟨fun _ => (fun x hx => nomatch hx), fun _ => trivial⟩
  | k :: r => by
    have ih := wns_all (ks := r)
    refine ⟨fun h x hx => ?_, fun h => ⟨h k (List.mem_cons_self ..), ih.mpr fun x hx => h x (List.mem_cons_of_mem _ hx)⟩⟩
    rcases List.mem_cons.mp hx with rfl | hx
    · exact h.1
    · exact ih.mp h.2 x hx
theorem deps_le {n : Nat} : ∀ {ks : List Tm}, deps ks ≤ n ↔ ∀ k ∈ ks, dep k ≤ n
  | [] => ⟨fun _ => (fun x hx => nomatch hx), fun _ => Nat.zero_le _⟩
  | k :: r => by
    have ih := deps_le (n := n) (ks := r)
    refine ⟨fun h x hx => ?_, fun h => Nat.max_le.mpr ⟨h k (List.mem_cons_self ..), ih.mpr fun x hx => h x (List.mem_cons_of_mem _ hx)⟩⟩
    have h' := Nat.max_le.mp h
    rcases List.mem_cons.mp hx with rfl | hx
    · exact h'.1
    · exact ih.mp h'.2 x hx
section
variable {P : Program} {w : World} {K : PySem.W.Frag} {mg : Str → Option Value} {base : Heap}
/-- a term as it is drawn -/
def Good (n : Nat) (t : Tm) : Prop := Wf t ∧ Wn t ∧ dep t ≤ n
def preAny (n : Nat) (ds : List D) : Prop := ∃ k : Int, ds = [.i k] ∧ k ≤ (n : Int)
def relAny (ds : List D) (d : D) : Prop := ∃ (k : Int) (t : Tm), ds = [.i k] ∧ d = enc t ∧ Good (max k.toNat 1) t
abbrev preAny' (n : Nat) (ds : List D) : Prop := ∃ k : Int, ds = [.i k] ∧ 1 ≤ k ∧ k < (n : Int)
theorem xd_sub {p q : Addr} {ns : List Int} {es : Es} {n : Nat} {k : Int} {E0 : XK} (hi : es[0]? = some (.r (.ref p))) (h1 : es[1]? = some (.d (.i k))) (h2 : 2 ≤ k) (hk : k ≤ (n : Int)) :
    XD (PoolW p q ns) (tCall (spX (PoolW p q ns) (.ref p) (preAny' n) relAny) [] E0 (tCons (tVar 0) (tCons (tOp (rI0 fun i j => .int (i - j)) (tVar 1) (tC (.int 1))) tNil))) es (fun z => ∃ t, z = enc t ∧ Good (k.toNat - 1) t) :=
  xd_imp (xd_callX hi (xs_eds (ea_cons (ed_op (ed_var h1) ed_int (rd_int rfl)) ea_nil)) fun xs e => by subst e; exact ⟨k - 1, rfl, by omega, by omega⟩) fun d ⟨xs, e, k', t, e1, e2, e3⟩ => by
    subst e
    cases e1
    have e : max (k - 1).toNat 1 = k.toNat - 1 := by omega
    rw [e] at e3
    exact ⟨t, e2, e3⟩
theorem xd_name {p q : Addr} {ns : List Int} {es : Es} {E0 : XK} (hi : es[0]? = some (.r (.ref p))) :
    XD (PoolW p q ns) (tCall (spX (PoolW p q ns) (.ref p) preNil relName) [] E0 (tCons (tVar 0) tNil)) es (fun z => ∃ x, z = .s x ∧ NameOk x) := xd_imp (xd_callX hi (xs_eds ea_nil) fun xs e => e) fun d ⟨_, _, r⟩ => r
theorem xd_con {p q : Addr} {ns : List Int} {es : Es} {E0 : XK} (hi : es[0]? = some (.r (.ref p))) :
    XD (PoolW p q ns) (tCall (spX (PoolW p q ns) (.ref p) preNil relCon) [] E0 (tCons (tVar 0) tNil)) es (fun z => ∃ x, z = .s x ∧ ConOk x) := xd_imp (xd_callX hi (xs_eds ea_nil) fun xs e => e) fun d ⟨_, _, r⟩ => r
theorem xd_num {p q : Addr} {ns : List Int} {es : Es} {E0 : XK} (hi : es[0]? = some (.r (.ref p))) :
    XD (PoolW p q ns) (tCall (spX (PoolW p q ns) (.ref p) preNil relNum) [] E0 (tCons (tVar 0) tNil)) es (fun z => ∃ k : Int, z = .i k ∧ 0 ≤ k ∧ k < 65536) := xd_imp (xd_callX hi (xs_eds ea_nil) fun xs e => e) fun d ⟨_, _, r⟩ => r
/-- a draw as a natural number -/
theorem xd_drawN {p q : Addr} {ns : List Int} {es : Es} {n : Nat} {E0 : XK} (hi : es[0]? = some (.r (.ref p))) (h0 : 0 < n) (h1 : n < 1000) :
    XD (PoolW p q ns) (tCall (spX (PoolW p q ns) (.ref p) preDraw relDraw) [] E0 (tCons (tVar 0) (tCons (tC (.int (n : Int))) tNil))) es (fun z => ∃ k : Nat, z = .i (k : Int) ∧ k < n) :=
  xd_imp (xd_draw hi (by omega) (by omega)) fun d ⟨k, e, k0, k1⟩ => by
    obtain ⟨m, rfl⟩ := Int.eq_ofNat_of_zero_le k0
    exact ⟨m, e, by omega⟩
theorem paired_names {ds rs : List D} (h : Paired (fun _ d => ∃ x, d = .s x ∧ NameOk x) ds rs) : ∃ xs : List Str, rs = xs.map D.s ∧ xs.length = ds.length ∧ ∀ x ∈ xs, NameOk x := by
  induction h with
  | nil => exact ⟨[], rfl, rfl, fun x m => by cases m⟩
  | cons r t ih =>
    obtain ⟨x, rfl, hx⟩ := r
    obtain ⟨xs, rfl, hl, hn⟩ := ih
    refine ⟨x :: xs, rfl, by rw [List.length_cons, List.length_cons, hl], fun y m => ?_⟩
    rcases List.mem_cons.mp m with rfl | m
    · exact hx
    · exact hn y m
theorem paired_lets {n : Nat} : ∀ {xs : List Str} {rs : List D}, Paired (fun d z => ∃ t, z = .t [d, enc t] ∧ Good n t) (xs.map D.s) rs → ∃ ms : List Tm, rs = (xs.zip ms).map (fun p => .t [.s p.1, enc p.2]) ∧ ms.length = xs.length ∧ ∀ m ∈ ms, Good n m
  | [], _, h => by
    cases h
    exact ⟨[], rfl, rfl, fun x m => by cases m⟩
  | x :: xs, _, h => by
    cases h with
    | cons r t =>
      obtain ⟨m, rfl, hm⟩ := r
      obtain ⟨ms, rfl, hl, hn⟩ := paired_lets (n := n) t
      refine ⟨m :: ms, rfl, by rw [List.length_cons, List.length_cons, hl], fun y my => ?_⟩
      rcases List.mem_cons.mp my with rfl | my
      · exact hm
      · exact hn y my
theorem good_op {n : Nat} {w : Str} {ks : List Tm} (h : (w, ks.length) ∈ arities) (hn : 1 ≤ n) (hk : ∀ k ∈ ks, Good (n - 1) k) : Good n (.nd (.op w) ks) :=
  ⟨⟨h, wfs_all.mpr fun k m => (hk k m).1⟩, ⟨trivial, wns_all.mpr fun k m => (hk k m).2.1⟩, by
    have := deps_le.mpr fun k m => (hk k m).2.2
    show deps ks + 1 ≤ n
    omega⟩
theorem good_nd {n : Nat} {h : Hd} {ks : List Tm} (h1 : okH h ks.length) (h2 : okN h) (hn : 1 ≤ n) (hk : ∀ k ∈ ks, Good (n - 1) k) : Good n (.nd h ks) :=
  ⟨⟨h1, wfs_all.mpr fun k m => (hk k m).1⟩, ⟨h2, wns_all.mpr fun k m => (hk k m).2.1⟩, by
    have := deps_le.mpr fun k m => (hk k m).2.2
    show deps ks + 1 ≤ n
    omega⟩
theorem good_leaf {n : Nat} {h : Hd} (h1 : okH h 0) (h2 : okN h) (hn : 1 ≤ n) : Good n (.nd h []) := good_nd h1 h2 hn fun k m => by cases m
abbrev rowsD (rs : List (Str × List Str)) (ms : List Tm) : List D := (rs.zip ms).map fun p => .t [.s p.1.1, tS p.1.2, enc p.2]
structure RowsOk (n i : Nat) (rs : List (Str × List Str)) (ms : List Tm) : Prop where
  len : ms.length = rs.length
  le : rs.length ≤ i
  ge : 1 ≤ i → 1 ≤ rs.length
  good : ∀ m ∈ ms, Good n m
  row : ∀ r ∈ rs, ConOk r.1 ∧ (∀ x ∈ r.2, NameOk x) ∧ r.2.Nodup ∧ r.2.length ≤ 4
  nd : (rs.map (·.1)).Nodup
theorem RowsOk.add {n i : Nat} {rs : List (Str × List Str)} {ms : List Tm} (h : RowsOk n i rs ms) {c : Str} {xs : List Str} {t : Tm} (hc : ConOk c) (hx : ∀ x ∈ xs, NameOk x) (nx : xs.Nodup) (lx : xs.length ≤ 4) (ht : Good n t) (nc : c ∉ rs.map (·.1)) : RowsOk n (i + 1) (rs ++ [(c, xs)]) (ms ++ [t]) where
  len := by rw [List.length_append, List.length_append, h.len]; rfl
  le := by rw [List.length_append]; exact Nat.succ_le_succ h.le
  ge := fun _ => by rw [List.length_append]; exact Nat.succ_le_succ (Nat.zero_le _)
  good := fun m hm => by
    rcases List.mem_append.mp hm with hm | hm
    · exact h.good m hm
    · cases List.mem_singleton.mp hm
      exact ht
  row := fun m hm => by
    rcases List.mem_append.mp hm with hm | hm
    · exact h.row m hm
    · cases List.mem_singleton.mp hm
      exact ⟨hc, hx, nx, lx⟩
  nd := by
    rw [List.map_append]
    refine List.nodup_append.mpr ⟨h.nd, List.nodup_cons.mpr ⟨List.not_mem_nil, List.nodup_nil⟩, fun a ha b hb => ?_⟩
    cases List.mem_singleton.mp hb
    exact fun z => nc (by
      have z' : a = c := z
      rw [← z']
      exact ha)
theorem rowsD_add {rs : List (Str × List Str)} {ms : List Tm} (h : ms.length = rs.length) {c : Str} {xs : List Str} {t : Tm} : rowsD (rs ++ [(c, xs)]) (ms ++ [t]) = rowsD rs ms ++ [.t [.s c, tS xs, enc t]] := by
  show ((rs ++ [(c, xs)]).zip (ms ++ [t])).map _ = _
  rw [List.zip_append h.symm, List.map_append]
  rfl
theorem con_zz {c : Nat} (h : 65 ≤ c ∧ c ≤ 90) : ConOk ("ZZ" ++ ⟨#[c]⟩) := by
  refine ⟨[90, 90, c], SX.S_cat [90, 90] [c], fun b m => ?_, (by show 1 ≤ 3; decide), (by show 3 ≤ 6; decide)⟩
  rcases List.mem_cons.mp m with rfl | m
  · exact ⟨by decide, by decide⟩
  rcases List.mem_cons.mp m with rfl | m
  · exact ⟨by decide, by decide⟩
  cases List.mem_singleton.mp m
  exact h
theorem any_step (F : Facts K mg) (p q : Addr) (ns : List Int) (n : Nat) (c__law_any : C8.Cal P w K mg base (n + 3) "_law_any" (spX (PoolW p q ns) (.ref p) (preAny' n) relAny) []) (f : Addr) (fd : FuncData) (hf : L2.Fun K "_law_any" "_law_any" s__law_any f fd) : FnOk P w K mg base CX0 (n + 4) f fd ["pool", "deep"] (spX (PoolW p q ns) (.ref p) (preAny n) relAny) := by
  have c__law_draw := k__law_draw (P := P) (w := w) (base := base) F p q ns
  have c__law_spend := k__law_spend (P := P) (w := w) (base := base) F p q ns
  have c__law_number := k__law_number (P := P) (w := w) (base := base) F p q ns
  have c__law_name := k__law_name (P := P) (w := w) (base := base) F p q ns
  have c__law_made := k__law_made (P := P) (w := w) (base := base) F p q ns
  have c__law_unlike := k__law_unlike (P := P) (w := w) (base := base) F p q ns
  refine fn_X hf sc__law_any (fun ds ⟨k, e, _⟩ => by subst e; rfl) (fun cdv A outer s H E hr => ⟨_, (pss_cons (ps_set (i := 2) sc__law_any.nd rfl (Or.inl rfl) (C8.pe_c c__law_draw hr (by first | decide | omega) rfl (pa_cons (pv 0) (pa_cons pe_int pa_nil))))
    (pss_cons (ps_if (PW.pt (pw_or (pt_cmpR op_lt (pv 1) pe_int (nomark _)) (pw_or (pt_cmpR op_lt (pv 2) pe_int (nomark _)) (pw_or1 (pt_not (pt_val (C8.pe_c c__law_spend hr (by first | decide | omega) rfl (pa_cons (pv 0) pa_nil)))))))) (pss_cons (ps_if (pt_cmpR op_eq (pv 2) pe_int (nomark _)) (pss_one (ps_ret (pe_tup (pa_cons pe_str (pa_cons (C8.pe_c c__law_made hr (by first | decide | omega) rfl (pa_cons (pv 0) pa_nil)) (pa_cons (pe_callTy (Nz.cTup K) rfl F.b_tuple Nz.boot_tuple (pa_cons (pe_lc (own := [("k", 3)]) (g := (gName 3)) rfl sc__law_any.nd (pi_range1 rfl F.b_range (pa_cons (C8.pe_c c__law_draw hr (by first | decide | omega) rfl (pa_cons (pv 0) (pa_cons pe_int pa_nil))) pa_nil)) (blkOk_by (own := [("k", 3)]) (N := n__law_any) (sc := defScope s__law_any) (by decide +kernel)) (fun _ _ _ _ _ => (pg_name (i := 3) sc__law_any.nd rfl (Or.inl rfl))) (fun _ _ _ _ _ => pts_nil) (fun _ _ _ _ _ => (C8.pe_c c__law_name hr (by first | decide | omega) rfl (pa_cons (pv 0) pa_nil)))) pa_nil)) pa_nil)))))) pss_nil)
    (pss_cons (ps_if (pt_cmpR op_eq (pv 2) pe_int (nomark _)) (pss_one (ps_ret (pe_tup (pa_cons pe_str pa_nil)))) pss_nil)
    (pss_one (ps_ret (pe_ix (Nz.ixT K) (pe_tup (pa_cons (pe_tup (pa_cons pe_str (pa_cons (C8.pe_c c__law_name hr (by first | decide | omega) rfl (pa_cons (pv 0) pa_nil)) pa_nil))) (pa_cons (pe_tup (pa_cons pe_str (pa_cons (C8.pe_c c__law_number hr (by first | decide | omega) rfl (pa_cons (pv 0) pa_nil)) pa_nil))) pa_nil))) (C8.pe_c c__law_draw hr (by first | decide | omega) rfl (pa_cons (pv 0) (pa_cons pe_int pa_nil))) (fun _ _ => rfl)))))) pss_nil)
    (pss_cons (ps_if (pt_cmpR op_lt (pv 2) pe_int (nomark _)) (pss_one (ps_ret (pe_tup (pa_cons pe_str (pa_cons (C8.pe_c c__law_name hr (by first | decide | omega) rfl (pa_cons (pv 0) pa_nil)) (pa_cons (C8.pe_c c__law_any hr (by first | decide | omega) rfl (pa_cons (pv 0) (pa_cons (pe_op op_sub (pv 1) pe_int) pa_nil))) pa_nil)))))) pss_nil)
    (pss_cons (ps_if (pt_cmpR op_lt (pv 2) pe_int (nomark _)) (pss_one (ps_ret (pe_tup (pa_cons pe_str (pa_cons (C8.pe_c c__law_any hr (by first | decide | omega) rfl (pa_cons (pv 0) (pa_cons (pe_op op_sub (pv 1) pe_int) pa_nil))) (pa_cons (C8.pe_c c__law_name hr (by first | decide | omega) rfl (pa_cons (pv 0) pa_nil)) pa_nil)))))) pss_nil)
    (pss_cons (ps_if (pt_cmpR op_lt (pv 2) pe_int (nomark _)) (pss_cons (ps_setLc (i := 4) (own := [("name", 9)]) (g := (gName 9)) rfl sc__law_any.nd rfl rfl (sw_true rfl rfl rfl (by decide +kernel)) (Nz.piL K (C8.pe_c c__law_unlike hr (by first | decide | omega) rfl (pa_cons (pv 0) (pa_cons (pe_op op_add pe_int (C8.pe_c c__law_draw hr (by first | decide | omega) rfl (pa_cons (pv 0) (pa_cons pe_int pa_nil)))) pa_nil)))) (blkOk_by (own := [("name", 9)]) (N := n__law_any) (sc := defScope s__law_any) (by decide +kernel)) (fun _ _ _ _ _ => (pg_name (i := 9) sc__law_any.nd rfl (Or.inl rfl))) (fun _ _ _ _ _ => pts_nil) (fun _ _ _ _ _ => (pe_tup (pa_cons (pv 9) (pa_cons (C8.pe_c c__law_any hr (by first | decide | omega) rfl (pa_cons (pv 0) (pa_cons (pe_op op_sub (pv 1) pe_int) pa_nil))) pa_nil)))))
    (pss_one (ps_ret (pe_tup (pa_cons pe_str (pa_cons (pe_callTy (Nz.cTup K) rfl F.b_tuple Nz.boot_tuple (pa_cons (pv 4) pa_nil)) (pa_cons (C8.pe_c c__law_any hr (by first | decide | omega) rfl (pa_cons (pv 0) (pa_cons (pe_op op_sub (pv 1) pe_int) pa_nil))) pa_nil))))))) pss_nil)
    (pss_cons (ps_if (pt_cmpR op_lt (pv 2) pe_int (nomark _)) (pss_cons (ps_set (i := 4) sc__law_any.nd rfl (Or.inl rfl) (pe_lst pa_nil))
    (pss_cons (ps_set (i := 5) sc__law_any.nd rfl (Or.inl rfl) (C8.pe_c c__law_any hr (by first | decide | omega) rfl (pa_cons (pv 0) (pa_cons (pe_op op_sub (pv 1) pe_int) pa_nil))))
    (pss_cons (ps_for PassesOwn.never rfl (pi_range1 rfl F.b_range (pa_cons (pe_op op_add pe_int (C8.pe_c c__law_draw hr (by first | decide | omega) rfl (pa_cons (pv 0) (pa_cons pe_int pa_nil)))) pa_nil)) (pg_name (i := 3) sc__law_any.nd rfl (Or.inl rfl)) (pss_cons (ps_set (i := 6) sc__law_any.nd rfl (Or.inl rfl) (pe_callTy (Nz.cTup K) rfl F.b_tuple Nz.boot_tuple (pa_cons (C8.pe_c c__law_unlike hr (by first | decide | omega) rfl (pa_cons (pv 0) (pa_cons (C8.pe_c c__law_draw hr (by first | decide | omega) rfl (pa_cons (pv 0) (pa_cons pe_int pa_nil))) pa_nil))) pa_nil)))
    (pss_cons (ps_set (i := 7) sc__law_any.nd rfl (Or.inl rfl) (C8.pe_c c__law_made hr (by first | decide | omega) rfl (pa_cons (pv 0) pa_nil)))
    (pss_cons (ps_if (pt_cmpR (Nz.inQ K) (pv 7) (pe_lc (own := [("row", 10)]) (g := (gName 10)) rfl sc__law_any.nd (Nz.piL K (pv 4)) (blkOk_by (own := [("row", 10)]) (N := n__law_any) (sc := defScope s__law_any) (by decide +kernel)) (fun _ _ _ _ _ => (pg_name (i := 10) sc__law_any.nd rfl (Or.inl rfl))) (fun _ _ _ _ _ => pts_nil) (fun _ _ _ _ _ => (pe_ix (Nz.ixT K) (pv 10) pe_int (fun _ _ => rfl)))) rfl) (pss_one (ps_set (i := 7) sc__law_any.nd rfl (Or.inl rfl) (pe_op Nz.op_addS pe_str (pe_ix ix_str pe_str (pv 3) (fun _ _ => rfl))))) pss_nil)
    (pss_one (ps_if (pt_cmpR (Nz.ninQ K) (pv 7) (pe_lc (own := [("row", 10)]) (g := (gName 10)) rfl sc__law_any.nd (Nz.piL K (pv 4)) (blkOk_by (own := [("row", 10)]) (N := n__law_any) (sc := defScope s__law_any) (by decide +kernel)) (fun _ _ _ _ _ => (pg_name (i := 10) sc__law_any.nd rfl (Or.inl rfl))) (fun _ _ _ _ _ => pts_nil) (fun _ _ _ _ _ => (pe_ix (Nz.ixT K) (pv 10) pe_int (fun _ _ => rfl)))) rfl) (pss_one (ps_expr (pe_bm PySem.F.plainAttrs_list PySem.F.slot_list_append PySem.F.type_list_append mt_append (pv 4) (pa_cons (pe_tup (pa_cons (pv 7) (pa_cons (pv 6) (pa_cons (C8.pe_c c__law_any hr (by first | decide | omega) rfl (pa_cons (pv 0) (pa_cons (pe_op op_sub (pv 1) pe_int) pa_nil))) pa_nil)))) pa_nil)))) pss_nil))))))
    (pss_one (ps_ret (pe_tup (pa_cons pe_str (pa_cons (pv 5) (pa_cons (pe_callTy (Nz.cTup K) rfl F.b_tuple Nz.boot_tuple (pa_cons (pv 4) pa_nil)) pa_nil))))))))) pss_nil)
    (pss_cons (ps_if (pt_cmpR op_eq (pv 2) pe_int (nomark _)) (pss_one (ps_ret (pe_tup (pa_cons (pe_ix (Nz.ixT K) (pe_tup (pa_cons pe_str (pa_cons pe_str pa_nil))) (C8.pe_c c__law_draw hr (by first | decide | omega) rfl (pa_cons (pv 0) (pa_cons pe_int pa_nil))) (fun _ _ => rfl)) (pa_cons (C8.pe_c c__law_any hr (by first | decide | omega) rfl (pa_cons (pv 0) (pa_cons (pe_op op_sub (pv 1) pe_int) pa_nil))) pa_nil))))) pss_nil)
    (pss_cons (ps_if (pt_cmpR op_eq (pv 2) pe_int (nomark _)) (pss_one (ps_ret (pe_tup (pa_cons pe_str (pa_cons (C8.pe_c c__law_any hr (by first | decide | omega) rfl (pa_cons (pv 0) (pa_cons (pe_op op_sub (pv 1) pe_int) pa_nil))) (pa_cons (C8.pe_c c__law_any hr (by first | decide | omega) rfl (pa_cons (pv 0) (pa_cons (pe_op op_sub (pv 1) pe_int) pa_nil))) (pa_cons (C8.pe_c c__law_any hr (by first | decide | omega) rfl (pa_cons (pv 0) (pa_cons (pe_op op_sub (pv 1) pe_int) pa_nil))) pa_nil))))))) pss_nil)
    (pss_cons (ps_set (i := 8) sc__law_any.nd rfl (Or.inl rfl) (pe_ix (Nz.ixT K) (pe_tup (pa_cons pe_str (pa_cons pe_str (pa_cons pe_str (pa_cons pe_str (pa_cons pe_str (pa_cons pe_str pa_nil))))))) (C8.pe_c c__law_draw hr (by first | decide | omega) rfl (pa_cons (pv 0) (pa_cons pe_int pa_nil))) (fun _ _ => rfl)))
    (pss_one (ps_ret (pe_tup (pa_cons (pv 8) (pa_cons (C8.pe_c c__law_any hr (by first | decide | omega) rfl (pa_cons (pv 0) (pa_cons (pe_op op_sub (pv 1) pe_int) pa_nil))) (pa_cons (C8.pe_c c__law_any hr (by first | decide | omega) rfl (pa_cons (pv 0) (pa_cons (pe_op op_sub (pv 1) pe_int) pa_nil))) pa_nil))))))))))))))), fun ds hP => ?_⟩)
  obtain ⟨k, rfl, hk⟩ := hP
  have m1 : 1 ≤ max k.toNat 1 := Nat.le_max_right _ _
  refine sq_setX (xd_draw rfl (by decide) (by decide)) fun d ⟨j, e, j0, j1⟩ => ?_
  subst e
  refine sq_ifX (R := fun b => b = false → 2 ≤ k) (xt_imp (xt_or (xt_et (by (repeat' (first
      | with_reducible exact ed_str | with_reducible exact ed_int | with_reducible exact ed_bl | with_reducible exact ed_non
      | exact ed_var rfl | exact ed_var (by assumption) | with_reducible exact ea_nil | with_reducible apply ea_cons
      | with_reducible apply et_test | with_reducible apply et_B | with_reducible apply et_not
      | with_reducible apply ed_tup | with_reducible apply ed_op | with_reducible apply el_lst
      | exact rd_eqSb rfl | exact rd_neSb rfl | exact rd_eqIb rfl | exact rd_neIb rfl
      | exact rd_ixT0 | exact rd_ixT1 | exact rd_ixT2 | exact rd_bool rfl | exact rd_int rfl | exact rd_inTc rfl rfl rfl | exact short_size rfl)))) fun h => xt_or (xt_et (by (repeat' (first
      | with_reducible exact ed_str | with_reducible exact ed_int | with_reducible exact ed_bl | with_reducible exact ed_non
      | exact ed_var rfl | exact ed_var (by assumption) | with_reducible exact ea_nil | with_reducible apply ea_cons
      | with_reducible apply et_test | with_reducible apply et_B | with_reducible apply et_not
      | with_reducible apply ed_tup | with_reducible apply ed_op | with_reducible apply el_lst
      | exact rd_eqSb rfl | exact rd_neSb rfl | exact rd_eqIb rfl | exact rd_neIb rfl
      | exact rd_ixT0 | exact rd_ixT1 | exact rd_ixT2 | exact rd_bool rfl | exact rd_int rfl | exact rd_inTc rfl rfl rfl | exact short_size rfl)))) fun _ => xt_not (R := fun _ => True) (xt_B (xd_imp (xd_callX rfl (xs_eds ea_nil) fun xs e => e) fun d ⟨_, _, b, e⟩ => ⟨b, e, trivial⟩))) fun b r => ?_) (fun _ => ?_) (fun h => ?_)
  · intro e
    subst e
    rcases r with r | r
    · cases r.1
    · have r1 := r.1
      have := of_decide_eq_false r1.symm
      omega
  · -- a leaf
    refine sq_assoc (sq_if (by (repeat' (first
      | with_reducible exact ed_str | with_reducible exact ed_int | with_reducible exact ed_bl | with_reducible exact ed_non
      | exact ed_var rfl | exact ed_var (by assumption) | with_reducible exact ea_nil | with_reducible apply ea_cons
      | with_reducible apply et_test | with_reducible apply et_B | with_reducible apply et_not
      | with_reducible apply ed_tup | with_reducible apply ed_op | with_reducible apply el_lst
      | exact rd_eqSb rfl | exact rd_neSb rfl | exact rd_eqIb rfl | exact rd_neIb rfl
      | exact rd_ixT0 | exact rd_ixT1 | exact rd_ixT2 | exact rd_bool rfl | exact rd_int rfl | exact rd_inTc rfl rfl rfl | exact short_size rfl))) (fun _ => ?_) (fun _ => ?_))
    · refine sq_retXD (xd_tup (xs_cons (xd_ed ed_str) fun _ _ => xs_cons (xd_con rfl) fun _ _ => xs_one (xd_cb (Rz := fun z => ∃ xs, z = tS xs ∧ xs.length ≤ 4 ∧ ∀ x ∈ xs, NameOk x) (xs_one (xl_toD (xl_lcM (R := fun _ d => ∃ x, d = .s x ∧ NameOk x) rfl (xsrc_rng (R := fun m => m < 5) (xds_imp (xs_one (xd_drawN (n := 5) rfl (by decide) (by decide))) fun ds ⟨d, e, m, e2, r⟩ => ⟨m, by rw [e, e2], r⟩) fun m r => by omega) (fun ds ⟨m, e, r⟩ => by subst e; simp only [rngD, List.length_map, List.length_range]; exact small4 (by omega)) fun ds r z hz => ⟨_, gw_name rfl, xd_name rfl⟩))) fun xs r => ?_)) fun ds r => ?_) fun d r => ?_
      · obtain ⟨_, rfl, rs, rfl, ds, ⟨m, rfl, hm⟩, pr⟩ := r
        obtain ⟨xs, rfl, hl, hn⟩ := paired_names pr
        refine ⟨_, rc_tupL, xs, rfl, ?_, hn⟩
        rw [hl]
        simp only [rngD, List.length_map, List.length_range]
        omega
      · obtain ⟨_, _, rfl, _, _, _, rfl, _, _, rfl, _⟩ := r
        exact short_size rfl
      · obtain ⟨_, rfl, _, _, rfl, rfl, _, _, rfl, ⟨c, rfl, hc⟩, _, rfl, xs, rfl, hl, hn⟩ := r
        exact ⟨k, .nd (.mk c xs) [], rfl, rfl, good_leaf ⟨rfl, hl⟩ ⟨hc, hn⟩ m1⟩
    · refine sq_assoc (sq_if (by (repeat' (first
      | with_reducible exact ed_str | with_reducible exact ed_int | with_reducible exact ed_bl | with_reducible exact ed_non
      | exact ed_var rfl | exact ed_var (by assumption) | with_reducible exact ea_nil | with_reducible apply ea_cons
      | with_reducible apply et_test | with_reducible apply et_B | with_reducible apply et_not
      | with_reducible apply ed_tup | with_reducible apply ed_op | with_reducible apply el_lst
      | exact rd_eqSb rfl | exact rd_neSb rfl | exact rd_eqIb rfl | exact rd_neIb rfl
      | exact rd_ixT0 | exact rd_ixT1 | exact rd_ixT2 | exact rd_bool rfl | exact rd_int rfl | exact rd_inTc rfl rfl rfl | exact short_size rfl))) (fun _ => ?_) (fun _ => ?_))
      · exact sq_ret (d := .t [.s "hole"]) (by (repeat' (first
      | with_reducible exact ed_str | with_reducible exact ed_int | with_reducible exact ed_bl | with_reducible exact ed_non
      | exact ed_var rfl | exact ed_var (by assumption) | with_reducible exact ea_nil | with_reducible apply ea_cons
      | with_reducible apply et_test | with_reducible apply et_B | with_reducible apply et_not
      | with_reducible apply ed_tup | with_reducible apply ed_op | with_reducible apply el_lst
      | exact rd_eqSb rfl | exact rd_neSb rfl | exact rd_eqIb rfl | exact rd_neIb rfl
      | exact rd_ixT0 | exact rd_ixT1 | exact rd_ixT2 | exact rd_bool rfl | exact rd_int rfl | exact rd_inTc rfl rfl rfl | exact short_size rfl))) ⟨k, .nd .hole [], rfl, rfl, good_leaf rfl trivial m1⟩
      · refine sq_retXD (xd_op (R := fun z => ∃ x i, z = .t [.t [.s "var", .s x], .t [.s "number", .i i]] ∧ NameOk x ∧ 0 ≤ i ∧ i < 65536) (R3 := fun _ _ z => relAny [.i k] z) (xd_imp (xd_tup (xs_cons (xd_tup (xs_cons (xd_ed ed_str) fun _ _ => xs_one (xd_name rfl)) fun ds r => ?_) fun _ _ => xs_one (xd_tup (xs_cons (xd_ed ed_str) fun _ _ => xs_one (xd_num rfl)) fun ds r => ?_)) fun ds r => ?_) fun d r => ?_) (fun _ _ => xd_drawN (n := 2) rfl (by decide) (by decide)) fun x y r1 r2 => ?_) fun d ⟨_, _, _, _, r⟩ => r
        · obtain ⟨_, _, rfl, _, _, rfl, _⟩ := r
          exact short_size rfl
        · obtain ⟨_, _, rfl, _, _, rfl, _⟩ := r
          exact short_size rfl
        · obtain ⟨_, _, rfl, _, _, rfl, _⟩ := r
          exact short_size rfl
        · obtain ⟨_, rfl, _, _, rfl, ⟨_, rfl, _, _, rfl, rfl, _, rfl, x, rfl, hx⟩, _, rfl, _, rfl, _, _, rfl, rfl, _, rfl, i, rfl, hi⟩ := r
          exact ⟨x, i, rfl, hx, hi⟩
        · obtain ⟨x, i, rfl, hx, hi⟩ := r1
          obtain ⟨b, rfl, hb⟩ := r2
          match b, hb with
          | 0, _ => exact ⟨_, rd_ixT0, k, .nd (.var x) [], rfl, rfl, good_leaf rfl hx m1⟩
          | 1, _ => exact ⟨_, rd_ixT1, k, .nd (.num i) [], rfl, rfl, good_leaf rfl hi m1⟩
  -- with parts
  have h2 : 2 ≤ k := h rfl
  have e1 : max k.toNat 1 = k.toNat := by omega
  have e2 : 1 ≤ k.toNat := by omega
  refine sq_next ?_
  refine sq_if (by (repeat' (first
      | with_reducible exact ed_str | with_reducible exact ed_int | with_reducible exact ed_bl | with_reducible exact ed_non
      | exact ed_var rfl | exact ed_var (by assumption) | with_reducible exact ea_nil | with_reducible apply ea_cons
      | with_reducible apply et_test | with_reducible apply et_B | with_reducible apply et_not
      | with_reducible apply ed_tup | with_reducible apply ed_op | with_reducible apply el_lst
      | exact rd_eqSb rfl | exact rd_neSb rfl | exact rd_eqIb rfl | exact rd_neIb rfl
      | exact rd_ixT0 | exact rd_ixT1 | exact rd_ixT2 | exact rd_bool rfl | exact rd_int rfl | exact rd_inTc rfl rfl rfl | exact short_size rfl))) (fun _ => ?_) (fun _ => ?_)
  · refine sq_retXD (xd_tup (xs_cons (xd_ed ed_str) fun _ _ => xs_cons (xd_name rfl) fun _ _ => xs_one (xd_sub rfl rfl h2 hk)) fun ds r => ?_) fun d r => ?_
    · obtain ⟨_, _, rfl, _, _, _, rfl, _, _, rfl, _⟩ := r
      exact short_size rfl
    · obtain ⟨_, rfl, _, _, rfl, rfl, _, _, rfl, ⟨x, rfl, hx⟩, _, rfl, t, rfl, ht⟩ := r
      exact ⟨k, .nd (.fn x) [t], rfl, rfl, by rw [e1]; exact good_nd rfl hx e2 fun m hm => by cases List.mem_singleton.mp hm; exact ht⟩
  refine sq_if (by (repeat' (first
      | with_reducible exact ed_str | with_reducible exact ed_int | with_reducible exact ed_bl | with_reducible exact ed_non
      | exact ed_var rfl | exact ed_var (by assumption) | with_reducible exact ea_nil | with_reducible apply ea_cons
      | with_reducible apply et_test | with_reducible apply et_B | with_reducible apply et_not
      | with_reducible apply ed_tup | with_reducible apply ed_op | with_reducible apply el_lst
      | exact rd_eqSb rfl | exact rd_neSb rfl | exact rd_eqIb rfl | exact rd_neIb rfl
      | exact rd_ixT0 | exact rd_ixT1 | exact rd_ixT2 | exact rd_bool rfl | exact rd_int rfl | exact rd_inTc rfl rfl rfl | exact short_size rfl))) (fun _ => ?_) (fun _ => ?_)
  · refine sq_retXD (xd_tup (xs_cons (xd_ed ed_str) fun _ _ => xs_cons (xd_sub rfl rfl h2 hk) fun _ _ => xs_one (xd_name rfl)) fun ds r => ?_) fun d r => ?_
    · obtain ⟨_, _, rfl, _, _, _, rfl, _, _, rfl, _⟩ := r
      exact short_size rfl
    · obtain ⟨_, rfl, _, _, rfl, rfl, _, _, rfl, ⟨t, rfl, ht⟩, _, rfl, x, rfl, hx⟩ := r
      exact ⟨k, .nd (.call x) [t], rfl, rfl, by rw [e1]; exact good_nd rfl hx e2 fun m hm => by cases List.mem_singleton.mp hm; exact ht⟩
  have un : ∀ {es : Es} {E0 : XK}, es[0]? = some (.r (.ref p)) → XD (PoolW p q ns) (tCall (spX (PoolW p q ns) (.ref p) preUn relUn) [] E0 (tCons (tVar 0) (tCons (tOp (rI0 fun i j => .int (i + j)) (tC (.int 1)) (tCall (spX (PoolW p q ns) (.ref p) preDraw relDraw) [] C8.E0 (tCons (tVar 0) (tCons (tC (.int 4)) tNil)))) tNil))) es
      (fun z => ∃ ds, z = .l ds ∧ ∃ xs : List Str, ds = xs.map D.s ∧ 1 ≤ xs.length ∧ xs.length ≤ 4 ∧ (∀ x ∈ xs, NameOk x) ∧ xs.Nodup) := fun hi =>
    xd_imp (xd_callX hi (xs_one (xd_opR (R3 := fun _ z => ∃ m : Nat, z = .i (m : Int) ∧ 1 ≤ m ∧ m ≤ 4) ed_int (xd_drawN (n := 4) hi (by decide) (by decide)) fun y ⟨m, e, hm⟩ => by subst e; exact ⟨.i ((m + 1 : Nat) : Int), rd_int (congrArg V.int (by omega)), m + 1, rfl, by omega, by omega⟩)) fun xs ⟨d, e, _, _, m, e2, m1, m4⟩ => by subst e e2; exact ⟨m, rfl, m4⟩)
      fun d ⟨xs, ⟨d1, e, _, _, m, e2, m1, m4⟩, c, ys, e3, e4, hl, hn, nd⟩ => by
        subst e e2
        have : (m : Int) = (c : Int) := by
          cases e3
          rfl
        exact ⟨_, e4, ys, rfl, by omega, by omega, hn, nd⟩
  refine sq_if (by (repeat' (first
      | with_reducible exact ed_str | with_reducible exact ed_int | with_reducible exact ed_bl | with_reducible exact ed_non
      | exact ed_var rfl | exact ed_var (by assumption) | with_reducible exact ea_nil | with_reducible apply ea_cons
      | with_reducible apply et_test | with_reducible apply et_B | with_reducible apply et_not
      | with_reducible apply ed_tup | with_reducible apply ed_op | with_reducible apply el_lst
      | exact rd_eqSb rfl | exact rd_neSb rfl | exact rd_eqIb rfl | exact rd_neIb rfl
      | exact rd_ixT0 | exact rd_ixT1 | exact rd_ixT2 | exact rd_bool rfl | exact rd_int rfl | exact rd_inTc rfl rfl rfl | exact short_size rfl))) (fun _ => ?_) (fun _ => ?_)
  · -- a let
    refine sq_assoc (sq_setXO (R := fun ds => ∃ (xs : List Str) (ms : List Tm), ds = (xs.zip ms).map (fun p => .t [.s p.1, enc p.2]) ∧ ms.length = xs.length ∧ (∀ m ∈ ms, Good (k.toNat - 1) m) ∧ 1 ≤ xs.length ∧ xs.length ≤ 4 ∧ (∀ x ∈ xs, NameOk x) ∧ xs.Nodup)
      (xl_imp (xl_lcM (R := fun d z => ∃ t, z = .t [d, enc t] ∧ Good (k.toNat - 1) t) rfl (xsrc_list (un rfl)) (fun ds ⟨xs, e, _, h4, _⟩ => by subst e; rw [List.length_map]; exact small4 (by omega)) fun ds r z hz => ⟨_, gw_name rfl, xd_imp (xd_tup (xs_cons (xd_ed (ed_var rfl)) fun _ _ => xs_one (xd_sub rfl rfl h2 hk)) fun ds r => ?_) fun d r => ?_⟩) fun ds ⟨_, ⟨xs, e, l1, l4, hn, nd⟩, pr⟩ => ?_) fun ds r => ?_)
    · obtain ⟨_, _, rfl, _, _, rfl, _⟩ := r
      exact short_size rfl
    · obtain ⟨_, rfl, _, _, rfl, rfl, _, rfl, t, rfl, ht⟩ := r
      exact ⟨t, rfl, ht⟩
    · subst e
      obtain ⟨ms, rfl, hl, hg⟩ := paired_lets pr
      exact ⟨xs, ms, rfl, hl, hg, l1, l4, hn, nd⟩
    · obtain ⟨xs, ms, rfl, hl, hg, l1, l4, hn, nd⟩ := r
      refine sq_retXD (xd_tup (xs_cons (xd_ed ed_str) fun _ _ => xs_cons (xd_ed (ed_tupo rfl)) fun _ _ => xs_one (xd_sub rfl rfl h2 hk)) fun ds r => ?_) fun d r => ?_
      · obtain ⟨_, _, rfl, _, _, _, rfl, _, _, rfl, _⟩ := r
        exact short_size rfl
      · obtain ⟨_, rfl, _, _, rfl, rfl, _, _, rfl, rfl, _, rfl, t, rfl, ht⟩ := r
        refine ⟨k, .nd (.lets xs) (ms ++ [t]), rfl, (enc_lets hl).symm, ?_⟩
        rw [e1]
        refine good_nd ⟨by rw [List.length_append, hl]; rfl, l4⟩ ⟨hn, nd, l1⟩ e2 fun m hm => ?_
        rcases List.mem_append.mp hm with hm | hm
        · exact hg m hm
        · cases List.mem_singleton.mp hm
          exact ht
  refine sq_if (by (repeat' (first
      | with_reducible exact ed_str | with_reducible exact ed_int | with_reducible exact ed_bl | with_reducible exact ed_non
      | exact ed_var rfl | exact ed_var (by assumption) | with_reducible exact ea_nil | with_reducible apply ea_cons
      | with_reducible apply et_test | with_reducible apply et_B | with_reducible apply et_not
      | with_reducible apply ed_tup | with_reducible apply ed_op | with_reducible apply el_lst
      | exact rd_eqSb rfl | exact rd_neSb rfl | exact rd_eqIb rfl | exact rd_neIb rfl
      | exact rd_ixT0 | exact rd_ixT1 | exact rd_ixT2 | exact rd_bool rfl | exact rd_int rfl | exact rd_inTc rfl rfl rfl | exact short_size rfl))) (fun _ => ?_) (fun _ => ?_)
  · -- a case
    refine sq_assoc (sq_setO (el_lst ea_nil (Nat.zero_le _)) ?_)
    refine sq_assoc (sq_setX (xd_sub rfl rfl h2 hk) fun d ⟨subj, e, hs⟩ => ?_)
    subst e
    refine sq_assoc (sd_seq (fun e => ∃ rs ms κ3 κ6 κ7, e = [.r (.ref p), .d (.i k), .d (.i j), κ3, .o (.l (rowsD rs ms)), .d (enc subj), κ6, κ7, .no, .no, .no] ∧ RowsOk (k.toNat - 1) 4 rs ms) ?_ ?_)
    · refine sd_forX (xsrc_draw1 (xd_draw rfl (n := 4) (by decide) (by decide)) (by decide)) (fun ds i e => ∃ rs ms κ3 κ6 κ7, e = [.r (.ref p), .d (.i k), .d (.i j), κ3, .o (.l (rowsD rs ms)), .d (enc subj), κ6, κ7, .no, .no, .no] ∧ RowsOk (k.toNat - 1) i rs ms)
        (fun ds _ => ⟨[], [], _, _, _, rfl, rfl, Nat.le_refl _, (fun z => absurd z (by decide)), (fun m hm => by cases hm), (fun m hm => by cases hm), List.nodup_nil⟩) (fun ds i d e r hd he => ?_) (fun ds e ⟨m, hm, m1, m6⟩ he => ?_)
      · obtain ⟨rs, ms, κ3, κ6, κ7, rfl, ok⟩ := he
        obtain ⟨m, rfl, m1, m6⟩ := r
        have hi4 : i < 4 := by
          have := (List.getElem?_eq_some_iff.mp hd).1
          have e : (rngD m).length = m := by simp [rngD]
          omega
        have ed : d = .i (i : Int) := by
          have hl := (List.getElem?_eq_some_iff.mp hd).1
          have e : (rngD m).length = m := by simp [rngD]
          unfold rngD at hd
          rw [List.getElem?_map, List.getElem?_range (by omega)] at hd
          exact (Option.some.inj hd).symm
        subst ed
        have hz : (rs.zip ms).length ≤ sizeLine := small4 (by rw [List.length_zip]; have := ok.le; omega)
        have cons : ∀ {es : Es}, es[4]? = some (.o (.l (rowsD rs ms))) → noOwn es [10] = true → ((es.set 10 .no).set 10 (.d .n))[10]? = some (.d .n) → ED (tLc (iList K (tVar 4)) (gName 10) tYes (tOp (rIxT K) (tVar 10) (tC (.int 0))) [10]) es (.l ((rs.map (·.1)).map D.s)) := fun {es} h4 hn hl =>
          ed_eq (EL.toD (el_lcMc (vs := [10]) (rs.zip ms) (fun p => .t [.s p.1.1, tS p.1.2, enc p.2]) (fun p => .s p.1.1) hz hn (src_own h4) fun z hz => ⟨_, gw_name hn, ed_op (ed_var (by
            rw [List.getElem?_set, if_pos rfl] at hl ⊢
            split at hl
            · rename_i q
              rw [if_pos q]
            · cases hl)) ed_int rd_ixT0⟩)) (congrArg D.l (by rw [map_zip_fst (f := fun r => D.s r.1) ok.len, List.map_map]; rfl))
        refine ⟨_, gd_name, ?_⟩
        refine sq_setX (R := fun z => ∃ xs : List Str, z = tS xs ∧ xs.length ≤ 4 ∧ (∀ x ∈ xs, NameOk x) ∧ xs.Nodup) (xd_cb (xs_one (xd_callX rfl (xs_one (xd_drawN (n := 5) rfl (by decide) (by decide))) fun xs ⟨d, e, m, e2, hm⟩ => by subst e e2; exact ⟨m, rfl, by omega⟩)) fun xs ⟨d, e, ys, ⟨d1, e1, m, e2, hm⟩, c, zs, e3, e4, hl, hn, nd⟩ => ?_) fun d' ⟨xs, e, l4, hn, nd⟩ => ?_
        · subst e e4 e1 e2
          have : (m : Int) = (c : Int) := by
            cases e3
            rfl
          exact ⟨_, rc_tupL, zs, rfl, by omega, hn, nd⟩
        subst e
        refine sq_setX (xd_con rfl) fun d' ⟨c, e, hc⟩ => ?_
        subst e
        refine sd_seq (fun e => ∃ c, ConOk c ∧ e = [.r (.ref p), .d (.i k), .d (.i j), .d (.i (i : Int)), .o (.l (rowsD rs ms)), .d (enc subj), .d (tS xs), .d (.s c), .no, .no, .no]) ?_ ?_
        · refine sd_if (et_test (ed_op (ed_var rfl) (cons rfl rfl rfl) (rd_inLb rfl (flD_strs _)))) (fun _ => ?_) (fun _ => ?_)
          · have hl4 : i < ("WXYZ" : Str).cps.toList.length := hi4
            refine sd_set (ed_op ed_str (ed_op ed_str (ed_var rfl) (rd_ixS (by decide) (atI_nat (List.getElem?_eq_getElem hl4)))) (rd_addS (by show 2 + 1 ≤ sizeLine; decide))) ⟨_, con_zz (all_upp (z := "WXYZ") (by decide) (List.getElem_mem hl4)), rfl⟩
          · exact sd_next ⟨c, hc, rfl⟩
        · rintro e ⟨c, hc, rfl⟩
          refine sd_if (et_test (ed_op (ed_var rfl) (cons rfl rfl rfl) (rd_ninLb rfl (flD_strs _)))) (fun h => ?_) (fun h => ?_)
          · rw [inD_strs, Bool.not_eq_true', decide_eq_false_iff_not] at h
            refine sd_appX rfl (xd_tup (xs_cons (xd_ed (ed_var rfl)) fun _ _ => xs_cons (xd_ed (ed_var rfl)) fun _ _ => xs_one (xd_sub rfl rfl h2 hk)) fun ds r => ?_) (by rw [List.length_map]; exact Nat.lt_of_le_of_lt (by rw [List.length_zip]; have := ok.le; omega : _ ≤ 10) (by decide)) fun d r => ?_
            · obtain ⟨_, _, rfl, _, _, _, rfl, _, _, rfl, _⟩ := r
              exact short_size rfl
            · obtain ⟨_, rfl, _, _, rfl, rfl, _, _, rfl, rfl, _, rfl, t, rfl, ht⟩ := r
              refine ⟨rs ++ [(c, xs)], ms ++ [t], .d (.i (i : Int)), .d (tS xs), .d (.s c), ?_, ok.add hc hn nd l4 ht h⟩
              rw [rowsD_add ok.len]
              rfl
          · rw [inD_strs, Bool.not_eq_false', decide_eq_true_eq] at h
            refine sd_next ⟨rs, ms, _, _, _, rfl, ok.len, Nat.le_succ_of_le ok.le, fun _ => ?_, ok.good, ok.row, ok.nd⟩
            have := List.length_pos_of_mem h
            rw [List.length_map] at this
            exact this
      · obtain ⟨rs, ms, κ3, κ6, κ7, rfl, ok⟩ := he
        subst hm
        have e : (rngD m).length = m := by simp [rngD]
        rw [e] at ok
        exact ⟨rs, ms, κ3, κ6, κ7, rfl, ok.len, Nat.le_trans ok.le (by omega), fun _ => ok.ge m1, ok.good, ok.row, ok.nd⟩
    · rintro e ⟨rs, ms, κ3, κ6, κ7, rfl, ok⟩
      refine sq_ret (ed_tup (ea_cons ed_str (ea_cons (ed_var rfl) (ea_cons (ed_tupo rfl) ea_nil))) (short_size rfl)) ?_
      refine ⟨k, .nd (.case rs) (subj :: ms), rfl, enc_case.symm, ?_⟩
      rw [e1]
      refine good_nd ⟨by rw [List.length_cons, ok.len], ok.le, fun r hr => (ok.row r hr).2.2.2⟩ ⟨fun r hr => ⟨(ok.row r hr).1, (ok.row r hr).2.1, (ok.row r hr).2.2.1⟩, ok.nd, ok.ge (by decide)⟩ e2 fun m hm => ?_
      rcases List.mem_cons.mp hm with rfl | hm
      · exact hs
      · exact ok.good m hm
  refine sq_if (by (repeat' (first
      | with_reducible exact ed_str | with_reducible exact ed_int | with_reducible exact ed_bl | with_reducible exact ed_non
      | exact ed_var rfl | exact ed_var (by assumption) | with_reducible exact ea_nil | with_reducible apply ea_cons
      | with_reducible apply et_test | with_reducible apply et_B | with_reducible apply et_not
      | with_reducible apply ed_tup | with_reducible apply ed_op | with_reducible apply el_lst
      | exact rd_eqSb rfl | exact rd_neSb rfl | exact rd_eqIb rfl | exact rd_neIb rfl
      | exact rd_ixT0 | exact rd_ixT1 | exact rd_ixT2 | exact rd_bool rfl | exact rd_int rfl | exact rd_inTc rfl rfl rfl | exact short_size rfl))) (fun _ => ?_) (fun _ => ?_)
  · refine sq_retXD (xd_tup (xs_cons (xd_opR (R3 := fun _ z => ∃ w : Str, z = .s w ∧ (w, 1) ∈ arities) (show ED _ _ (.t [.s "tick", .s "waste"]) by (repeat' (first
      | with_reducible exact ed_str | with_reducible exact ed_int | with_reducible exact ed_bl | with_reducible exact ed_non
      | exact ed_var rfl | exact ed_var (by assumption) | with_reducible exact ea_nil | with_reducible apply ea_cons
      | with_reducible apply et_test | with_reducible apply et_B | with_reducible apply et_not
      | with_reducible apply ed_tup | with_reducible apply ed_op | with_reducible apply el_lst
      | exact rd_eqSb rfl | exact rd_neSb rfl | exact rd_eqIb rfl | exact rd_neIb rfl
      | exact rd_ixT0 | exact rd_ixT1 | exact rd_ixT2 | exact rd_bool rfl | exact rd_int rfl | exact rd_inTc rfl rfl rfl | exact short_size rfl))) (xd_drawN (n := 2) rfl (by decide) (by decide)) fun y r => ?_) fun _ _ => xs_one (xd_sub rfl rfl h2 hk)) fun ds r => ?_) fun d r => ?_
    · obtain ⟨b, rfl, hb⟩ := r
      match b, hb with
      | 0, _ => exact ⟨_, rd_ixT0, "tick", rfl, by decide⟩
      | 1, _ => exact ⟨_, rd_ixT1, "waste", rfl, by decide⟩
    · obtain ⟨_, _, rfl, _, _, rfl, _⟩ := r
      exact short_size rfl
    · obtain ⟨_, rfl, _, _, rfl, ⟨_, _, w, rfl, hw⟩, _, rfl, t, rfl, ht⟩ := r
      exact ⟨k, .nd (.op w) [t], rfl, rfl, by rw [e1]; exact good_op hw e2 fun m hm => by cases List.mem_singleton.mp hm; exact ht⟩
  refine sq_if (by (repeat' (first
      | with_reducible exact ed_str | with_reducible exact ed_int | with_reducible exact ed_bl | with_reducible exact ed_non
      | exact ed_var rfl | exact ed_var (by assumption) | with_reducible exact ea_nil | with_reducible apply ea_cons
      | with_reducible apply et_test | with_reducible apply et_B | with_reducible apply et_not
      | with_reducible apply ed_tup | with_reducible apply ed_op | with_reducible apply el_lst
      | exact rd_eqSb rfl | exact rd_neSb rfl | exact rd_eqIb rfl | exact rd_neIb rfl
      | exact rd_ixT0 | exact rd_ixT1 | exact rd_ixT2 | exact rd_bool rfl | exact rd_int rfl | exact rd_inTc rfl rfl rfl | exact short_size rfl))) (fun _ => ?_) (fun _ => ?_)
  · refine sq_retXD (xd_tup (xs_cons (xd_ed ed_str) fun _ _ => xs_cons (xd_sub rfl rfl h2 hk) fun _ _ => xs_cons (xd_sub rfl rfl h2 hk) fun _ _ => xs_one (xd_sub rfl rfl h2 hk)) fun ds r => ?_) fun d r => ?_
    · obtain ⟨_, _, rfl, _, _, _, rfl, _, _, _, rfl, _, _, rfl, _⟩ := r
      exact short_size rfl
    · obtain ⟨_, rfl, _, _, rfl, rfl, _, _, rfl, ⟨t1, rfl, h1⟩, _, _, rfl, ⟨t2, rfl, h3⟩, _, rfl, t3, rfl, h4⟩ := r
      refine ⟨k, .nd (.op "ifzero") [t1, t2, t3], rfl, rfl, ?_⟩
      rw [e1]
      refine good_op (show (("ifzero" : Str), 3) ∈ arities by decide) e2 fun m hm => ?_
      rcases List.mem_cons.mp hm with rfl | hm
      · exact h1
      rcases List.mem_cons.mp hm with rfl | hm
      · exact h3
      cases List.mem_singleton.mp hm
      exact h4
  refine sq_setX (R := fun z => ∃ w : Str, z = .s w ∧ (w, 2) ∈ arities) (xd_imp (xd_opR (R3 := fun _ z => ∃ w : Str, z = .s w ∧ (w, 2) ∈ arities) (show ED _ _ (.t [.s "+", .s "-", .s "*", .s "/", .s "<", .s "="]) by (repeat' (first
      | with_reducible exact ed_str | with_reducible exact ed_int | with_reducible exact ed_bl | with_reducible exact ed_non
      | exact ed_var rfl | exact ed_var (by assumption) | with_reducible exact ea_nil | with_reducible apply ea_cons
      | with_reducible apply et_test | with_reducible apply et_B | with_reducible apply et_not
      | with_reducible apply ed_tup | with_reducible apply ed_op | with_reducible apply el_lst
      | exact rd_eqSb rfl | exact rd_neSb rfl | exact rd_eqIb rfl | exact rd_neIb rfl
      | exact rd_ixT0 | exact rd_ixT1 | exact rd_ixT2 | exact rd_bool rfl | exact rd_int rfl | exact rd_inTc rfl rfl rfl | exact short_size rfl))) (xd_drawN (n := 6) rfl (by decide) (by decide)) fun y r => ?_) fun d ⟨_, _, r⟩ => r) fun d ⟨w, e, hw⟩ => ?_
  · obtain ⟨b, rfl, hb⟩ := r
    match b, hb with
    | 0, _ => exact ⟨_, rd_ixT0, "+", rfl, by decide⟩
    | 1, _ => exact ⟨_, rd_ixT1, "-", rfl, by decide⟩
    | 2, _ => exact ⟨_, rd_ixT2, "*", rfl, by decide⟩
    | 3, _ => exact ⟨_, rd_ixT (atI_nat (j := 3) rfl), "/", rfl, by decide⟩
    | 4, _ => exact ⟨_, rd_ixT (atI_nat (j := 4) rfl), "<", rfl, by decide⟩
    | 5, _ => exact ⟨_, rd_ixT (atI_nat (j := 5) rfl), "=", rfl, by decide⟩
  subst e
  refine sd_retXD (xd_tup (xs_cons (xd_ed (ed_var rfl)) fun _ _ => xs_cons (xd_sub rfl rfl h2 hk) fun _ _ => xs_one (xd_sub rfl rfl h2 hk)) fun ds r => ?_) fun d r => ?_
  · obtain ⟨_, _, rfl, _, _, _, rfl, _, _, rfl, _⟩ := r
    exact short_size rfl
  · obtain ⟨_, rfl, _, _, rfl, rfl, _, _, rfl, ⟨t1, rfl, h1⟩, _, rfl, t2, rfl, h3⟩ := r
    refine ⟨k, .nd (.op w) [t1, t2], rfl, rfl, ?_⟩
    rw [e1]
    refine good_op hw e2 fun m hm => ?_
    rcases List.mem_cons.mp hm with rfl | hm
    · exact h1
    cases List.mem_singleton.mp hm
    exact h3
/-- for each number of levels -/
theorem fk__law_any (F : Facts K mg) (p q : Addr) (ns : List Int) : ∀ (n : Nat) (f : Addr) (fd : FuncData), L2.Fun K "_law_any" "_law_any" s__law_any f fd → FnOk P w K mg base CX0 (n + 4) f fd ["pool", "deep"] (spX (PoolW p q ns) (.ref p) (preAny n) relAny)
  | 0 => any_step F p q ns 0 (F._law_any.cal fun f fd hf => by
      have no : ∀ vs H Q E, ¬ spX (PoolW p q ns) (.ref p) (preAny' 0) relAny vs H Q E := fun vs H Q E h => by
        obtain ⟨_, _, _, _, _, _, _, _, _, ⟨k, _, h1, h2⟩, _⟩ := h
        omega
      exact ⟨fun vs H Q E h => absurd h (no vs H Q E), fun A outer s H args us vs Q E _ _ _ _ h => absurd h (no vs H Q E)⟩)
  | n + 1 => any_step F p q ns (n + 1) (F._law_any.cal fun f fd hf => (fk__law_any F p q ns n f fd hf).imp fun vs H Q E h => by
      obtain ⟨S, ds, us, e, dm, hV, j, hK, is, ⟨k, e1, h1, h2⟩, q⟩ := h
      exact ⟨S, ds, us, e, dm, hV, j, hK, is, ⟨k, e1, by omega⟩, q⟩)
theorem k__law_any (F : Facts K mg) (p q : Addr) (ns : List Int) (n : Nat) : C8.Cal P w K mg base (n + 4) "_law_any" (spX (PoolW p q ns) (.ref p) (preAny n) relAny) [] := F._law_any.cal fun f fd hf => fk__law_any F p q ns n f fd hf
theorem kk__law_any (F : Facts K mg) (n : Nat) : C8.Cal P w K mg base (n + 4) "_law_any" (spXX PW3 pv3 (preAny n) relAny) [] := F._law_any.cal fun f fd hf => fn_ex fun x => fk__law_any F x.1 x.2.1 x.2.2 n f fd hf
end
end Nz
namespace Nz
open PySem L2
section
variable {P : Program} {w : World} {K : PySem.W.Frag} {mg : Str → Option Value} {base : Heap}
theorem k__law_parts (F : Facts K mg) : C8.Cal P w K mg base 1 "_law_parts" (spL R_parts) [] := by
  refine F._law_parts.L sc__law_parts (by decide) (fun ds d h => ?_) (fun f cdv A outer s H E hr => ⟨_, (pss_cons (ps_set (i := 1) sc__law_parts.nd rfl (Or.inl rfl) (pe_ix (Nz.ixT K) (pv 0) pe_int (fun _ _ => rfl)))
    (pss_cons (ps_if (pt_cmpR op_eq (pv 1) pe_str (nomark _)) (pss_one (ps_ret (pe_lst (pa_cons (pe_tup (pa_cons (pe_ix (Nz.ixT K) (pv 0) pe_int (fun _ _ => rfl)) (pa_cons (pe_tup (pa_cons (pe_ix (Nz.ixT K) (pv 0) pe_int (fun _ _ => rfl)) pa_nil)) pa_nil))) pa_nil)))) pss_nil)
    (pss_cons (ps_if (pt_cmpR (Nz.inQ K) (pv 1) (pe_tup (pa_cons pe_str (pa_cons pe_str (pa_cons pe_str pa_nil)))) rfl) (pss_one (ps_ret (pe_lst (pa_cons (pe_tup (pa_cons (pe_ix (Nz.ixT K) (pv 0) pe_int (fun _ _ => rfl)) (pa_cons (pe_tup pa_nil) pa_nil))) pa_nil)))) pss_nil)
    (pss_cons (ps_if (pt_cmpR op_eq (pv 1) pe_str (nomark _)) (pss_cons (ps_set (i := 2) sc__law_parts.nd rfl (Or.inr rfl) (pe_callTy (Nz.cTup K) rfl F.b_tuple Nz.boot_tuple (pa_cons (pe_lc (own := [("row", 4)]) (g := (gName 4)) rfl sc__law_parts.nd (Nz.piT K (pe_ix (Nz.ixT K) (pv 0) pe_int (fun _ _ => rfl))) (blkOk_by (own := [("row", 4)]) (N := n__law_parts) (sc := defScope s__law_parts) (by decide +kernel)) (fun _ _ _ _ _ => (pg_name (i := 4) sc__law_parts.nd rfl (Or.inl rfl))) (fun _ _ _ _ _ => pts_nil) (fun _ _ _ _ _ => (pe_ix (Nz.ixT K) (pv 4) pe_int (fun _ _ => rfl)))) pa_nil)))
    (pss_one (ps_ret (pe_op op_cat (pe_lc (own := [("row", 4)]) (g := (gName 4)) rfl sc__law_parts.nd (Nz.piT K (pe_ix (Nz.ixT K) (pv 0) pe_int (fun _ _ => rfl))) (blkOk_by (own := [("row", 4)]) (N := n__law_parts) (sc := defScope s__law_parts) (by decide +kernel)) (fun _ _ _ _ _ => (pg_name (i := 4) sc__law_parts.nd rfl (Or.inl rfl))) (fun _ _ _ _ _ => pts_nil) (fun _ _ _ _ _ => (pe_tup (pa_cons (pe_ix (Nz.ixT K) (pv 4) pe_int (fun _ _ => rfl)) (pa_cons (pv 2) pa_nil))))) (pe_lst (pa_cons (pe_tup (pa_cons (pe_ix (Nz.ixT K) (pv 0) pe_int (fun _ _ => rfl)) (pa_cons (pv 2) pa_nil))) pa_nil)))))) pss_nil)
    (pss_cons (ps_if (pt_cmpR op_eq (pv 1) pe_str (nomark _)) (pss_one (ps_ret (pe_op op_cat (pe_lst (pa_cons (pe_tup (pa_cons (pe_ix (Nz.ixT K) (pv 0) pe_int (fun _ _ => rfl)) (pa_cons (pe_tup pa_nil) pa_nil))) pa_nil)) (pe_lc (own := [("row", 4)]) (g := (gName 4)) rfl sc__law_parts.nd (Nz.piT K (pe_ix (Nz.ixT K) (pv 0) pe_int (fun _ _ => rfl))) (blkOk_by (own := [("row", 4)]) (N := n__law_parts) (sc := defScope s__law_parts) (by decide +kernel)) (fun _ _ _ _ _ => (pg_name (i := 4) sc__law_parts.nd rfl (Or.inl rfl))) (fun _ _ _ _ _ => pts_nil) (fun _ _ _ _ _ => (pe_tup (pa_cons (pe_ix (Nz.ixT K) (pv 4) pe_int (fun _ _ => rfl)) (pa_cons (pe_ix (Nz.ixT K) (pv 4) pe_int (fun _ _ => rfl)) pa_nil)))))))) pss_nil)
    (pss_cons (ps_if (pt_cmpR (Nz.inQ K) (pv 1) (pe_tup (pa_cons pe_str (pa_cons pe_str (pa_cons pe_str (pa_cons pe_str (pa_cons pe_str (pa_cons pe_str (pa_cons pe_str pa_nil)))))))) rfl) (pss_one (ps_ret (pe_lc (own := [("part", 3)]) (g := (gName 3)) rfl sc__law_parts.nd (Nz.piT K (pe_slice (Nz.slA K) (pv 0) (po_some pe_int) po_none)) (blkOk_by (own := [("part", 3)]) (N := n__law_parts) (sc := defScope s__law_parts) (by decide +kernel)) (fun _ _ _ _ _ => (pg_name (i := 3) sc__law_parts.nd rfl (Or.inl rfl))) (fun _ _ _ _ _ => pts_nil) (fun _ _ _ _ _ => (pe_tup (pa_cons (pv 3) (pa_cons (pe_tup pa_nil) pa_nil))))))) pss_nil)
    (pss_one (ps_ret (pe_lst pa_nil))))))))), fun ds d h => ?_⟩)
  · obtain ⟨t, _, rfl, _⟩ := h
    rfl
  obtain ⟨⟨h, ks⟩, hw, rfl, rfl⟩ := h
  cases h with
  | op w =>
    have e1 : (prs (.nd (.op w) ks)).map prD = ks.map fun k => .t [enc k, .t []] := by
      rw [prs_op, List.map_map]
      rfl
    rw [e1]
    have hl : ks.length ≤ 3 := by
      rcases op_cases hw.1 with ⟨rfl, _, _, _, rfl⟩ | ⟨rfl, _, rfl⟩ | ⟨rfl, _, rfl⟩ | ⟨rfl, _, _, rfl⟩ | ⟨rfl, _, _, rfl⟩ | ⟨rfl, _, _, rfl⟩ | ⟨rfl, _, _, rfl⟩ | ⟨rfl, _, _, rfl⟩ | ⟨rfl, _, _, rfl⟩ <;> simp
    have hc : cutD (.s w :: ks.map enc) (some 1) none = ks.map enc := by
      unfold cutD
      rw [show HT.sIx (D.s w :: ks.map enc).length 0 (some 1) = 1 by show HT.sIx _ 0 (some ((1 : Nat) : Int)) = 1; rw [HT.sIx_nat]; exact Nat.min_eq_left (by simp)]
      rw [HT.sIx_none]
      show (ks.map enc).take _ = _
      exact List.take_of_length_le (by simp)
    rcases op_cases hw.1 with ⟨rfl, _, _, _, rfl⟩ | ⟨rfl, _, rfl⟩ | ⟨rfl, _, rfl⟩ | ⟨rfl, _, _, rfl⟩ | ⟨rfl, _, _, rfl⟩ | ⟨rfl, _, _, rfl⟩ | ⟨rfl, _, _, rfl⟩ | ⟨rfl, _, _, rfl⟩ | ⟨rfl, _, _, rfl⟩ <;>
    ( (repeat (first
    | ((with_reducible apply sq_set); (focus ((repeat' (first
      | with_reducible exact ed_str | with_reducible exact ed_int | with_reducible exact ed_bl | with_reducible exact ed_non
      | exact ed_var rfl | exact ed_var (by assumption) | with_reducible exact ea_nil | with_reducible apply ea_cons
      | with_reducible apply et_test | with_reducible apply et_B | with_reducible apply et_not
      | with_reducible apply ed_tup | with_reducible apply ed_op | with_reducible apply el_lst
      | exact rd_eqSb rfl | exact rd_neSb rfl | exact rd_eqIb rfl | exact rd_neIb rfl
      | exact rd_ixT0 | exact rd_ixT1 | exact rd_ixT2 | exact rd_bool rfl | exact rd_int rfl | exact rd_inTc rfl rfl rfl | exact short_size rfl)); done)))
    | ((with_reducible apply sq_ifT); (focus ((repeat' (first
      | with_reducible exact ed_str | with_reducible exact ed_int | with_reducible exact ed_bl | with_reducible exact ed_non
      | exact ed_var rfl | exact ed_var (by assumption) | with_reducible exact ea_nil | with_reducible apply ea_cons
      | with_reducible apply et_test | with_reducible apply et_B | with_reducible apply et_not
      | with_reducible apply ed_tup | with_reducible apply ed_op | with_reducible apply el_lst
      | exact rd_eqSb rfl | exact rd_neSb rfl | exact rd_eqIb rfl | exact rd_neIb rfl
      | exact rd_ixT0 | exact rd_ixT1 | exact rd_ixT2 | exact rd_bool rfl | exact rd_int rfl | exact rd_inTc rfl rfl rfl | exact short_size rfl)); done)); (focus rfl))
    | ((with_reducible apply sq_ifF); (focus ((repeat' (first
      | with_reducible exact ed_str | with_reducible exact ed_int | with_reducible exact ed_bl | with_reducible exact ed_non
      | exact ed_var rfl | exact ed_var (by assumption) | with_reducible exact ea_nil | with_reducible apply ea_cons
      | with_reducible apply et_test | with_reducible apply et_B | with_reducible apply et_not
      | with_reducible apply ed_tup | with_reducible apply ed_op | with_reducible apply el_lst
      | exact rd_eqSb rfl | exact rd_neSb rfl | exact rd_eqIb rfl | exact rd_neIb rfl
      | exact rd_ixT0 | exact rd_ixT1 | exact rd_ixT2 | exact rd_bool rfl | exact rd_int rfl | exact rd_inTc rfl rfl rfl | exact short_size rfl)); done)); (focus rfl))
    | ((with_reducible apply sq_ret); (focus ((repeat' (first
      | with_reducible exact ed_str | with_reducible exact ed_int | with_reducible exact ed_bl | with_reducible exact ed_non
      | exact ed_var rfl | exact ed_var (by assumption) | with_reducible exact ea_nil | with_reducible apply ea_cons
      | with_reducible apply et_test | with_reducible apply et_B | with_reducible apply et_not
      | with_reducible apply ed_tup | with_reducible apply ed_op | with_reducible apply el_lst
      | exact rd_eqSb rfl | exact rd_neSb rfl | exact rd_eqIb rfl | exact rd_neIb rfl
      | exact rd_ixT0 | exact rd_ixT1 | exact rd_ixT2 | exact rd_bool rfl | exact rd_int rfl | exact rd_inTc rfl rfl rfl | exact short_size rfl)); done)); (focus rfl))
    | ((with_reducible apply sd_ret); (focus ((repeat' (first
      | with_reducible exact ed_str | with_reducible exact ed_int | with_reducible exact ed_bl | with_reducible exact ed_non
      | exact ed_var rfl | exact ed_var (by assumption) | with_reducible exact ea_nil | with_reducible apply ea_cons
      | with_reducible apply et_test | with_reducible apply et_B | with_reducible apply et_not
      | with_reducible apply ed_tup | with_reducible apply ed_op | with_reducible apply el_lst
      | exact rd_eqSb rfl | exact rd_neSb rfl | exact rd_eqIb rfl | exact rd_neIb rfl
      | exact rd_ixT0 | exact rd_ixT1 | exact rd_ixT2 | exact rd_bool rfl | exact rd_int rfl | exact rd_inTc rfl rfl rfl | exact short_size rfl)); done)); (focus rfl))
    | ((with_reducible apply sq_retL); (focus ((repeat' (first
      | with_reducible exact ed_str | with_reducible exact ed_int | with_reducible exact ed_bl | with_reducible exact ed_non
      | exact ed_var rfl | exact ed_var (by assumption) | with_reducible exact ea_nil | with_reducible apply ea_cons
      | with_reducible apply et_test | with_reducible apply et_B | with_reducible apply et_not
      | with_reducible apply ed_tup | with_reducible apply ed_op | with_reducible apply el_lst
      | exact rd_eqSb rfl | exact rd_neSb rfl | exact rd_eqIb rfl | exact rd_neIb rfl
      | exact rd_ixT0 | exact rd_ixT1 | exact rd_ixT2 | exact rd_bool rfl | exact rd_int rfl | exact rd_inTc rfl rfl rfl | exact short_size rfl)); done)); (focus rfl))
    | ((with_reducible apply sd_retL); (focus ((repeat' (first
      | with_reducible exact ed_str | with_reducible exact ed_int | with_reducible exact ed_bl | with_reducible exact ed_non
      | exact ed_var rfl | exact ed_var (by assumption) | with_reducible exact ea_nil | with_reducible apply ea_cons
      | with_reducible apply et_test | with_reducible apply et_B | with_reducible apply et_not
      | with_reducible apply ed_tup | with_reducible apply ed_op | with_reducible apply el_lst
      | exact rd_eqSb rfl | exact rd_neSb rfl | exact rd_eqIb rfl | exact rd_neIb rfl
      | exact rd_ixT0 | exact rd_ixT1 | exact rd_ixT2 | exact rd_bool rfl | exact rd_int rfl | exact rd_inTc rfl rfl rfl | exact short_size rfl)); done)); (focus rfl))))
      try (exact sq_retL (el_lcM (vs := [3]) _ enc (fun k => .t [enc k, .t []]) (small4 (Nat.le_trans hl (by decide))) rfl (src_tup (ed_eq (ed_slT (ed_var rfl) (eo_some ed_int) eo_none) (congrArg D.t hc))) fun z hz => ⟨_, gw_name rfl, by (repeat' (first
      | with_reducible exact ed_str | with_reducible exact ed_int | with_reducible exact ed_bl | with_reducible exact ed_non
      | exact ed_var rfl | exact ed_var (by assumption) | with_reducible exact ea_nil | with_reducible apply ea_cons
      | with_reducible apply et_test | with_reducible apply et_B | with_reducible apply et_not
      | with_reducible apply ed_tup | with_reducible apply ed_op | with_reducible apply el_lst
      | exact rd_eqSb rfl | exact rd_neSb rfl | exact rd_eqIb rfl | exact rd_neIb rfl
      | exact rd_ixT0 | exact rd_ixT1 | exact rd_ixT2 | exact rd_bool rfl | exact rd_int rfl | exact rd_inTc rfl rfl rfl | exact short_size rfl))⟩) rfl))
  | fn x =>
    obtain ⟨k, rfl⟩ := one_of hw.1
    (repeat (first
    | ((with_reducible apply sq_set); (focus ((repeat' (first
      | with_reducible exact ed_str | with_reducible exact ed_int | with_reducible exact ed_bl | with_reducible exact ed_non
      | exact ed_var rfl | exact ed_var (by assumption) | with_reducible exact ea_nil | with_reducible apply ea_cons
      | with_reducible apply et_test | with_reducible apply et_B | with_reducible apply et_not
      | with_reducible apply ed_tup | with_reducible apply ed_op | with_reducible apply el_lst
      | exact rd_eqSb rfl | exact rd_neSb rfl | exact rd_eqIb rfl | exact rd_neIb rfl
      | exact rd_ixT0 | exact rd_ixT1 | exact rd_ixT2 | exact rd_bool rfl | exact rd_int rfl | exact rd_inTc rfl rfl rfl | exact short_size rfl)); done)))
    | ((with_reducible apply sq_ifT); (focus ((repeat' (first
      | with_reducible exact ed_str | with_reducible exact ed_int | with_reducible exact ed_bl | with_reducible exact ed_non
      | exact ed_var rfl | exact ed_var (by assumption) | with_reducible exact ea_nil | with_reducible apply ea_cons
      | with_reducible apply et_test | with_reducible apply et_B | with_reducible apply et_not
      | with_reducible apply ed_tup | with_reducible apply ed_op | with_reducible apply el_lst
      | exact rd_eqSb rfl | exact rd_neSb rfl | exact rd_eqIb rfl | exact rd_neIb rfl
      | exact rd_ixT0 | exact rd_ixT1 | exact rd_ixT2 | exact rd_bool rfl | exact rd_int rfl | exact rd_inTc rfl rfl rfl | exact short_size rfl)); done)); (focus rfl))
    | ((with_reducible apply sq_ifF); (focus ((repeat' (first
      | with_reducible exact ed_str | with_reducible exact ed_int | with_reducible exact ed_bl | with_reducible exact ed_non
      | exact ed_var rfl | exact ed_var (by assumption) | with_reducible exact ea_nil | with_reducible apply ea_cons
      | with_reducible apply et_test | with_reducible apply et_B | with_reducible apply et_not
      | with_reducible apply ed_tup | with_reducible apply ed_op | with_reducible apply el_lst
      | exact rd_eqSb rfl | exact rd_neSb rfl | exact rd_eqIb rfl | exact rd_neIb rfl
      | exact rd_ixT0 | exact rd_ixT1 | exact rd_ixT2 | exact rd_bool rfl | exact rd_int rfl | exact rd_inTc rfl rfl rfl | exact short_size rfl)); done)); (focus rfl))
    | ((with_reducible apply sq_ret); (focus ((repeat' (first
      | with_reducible exact ed_str | with_reducible exact ed_int | with_reducible exact ed_bl | with_reducible exact ed_non
      | exact ed_var rfl | exact ed_var (by assumption) | with_reducible exact ea_nil | with_reducible apply ea_cons
      | with_reducible apply et_test | with_reducible apply et_B | with_reducible apply et_not
      | with_reducible apply ed_tup | with_reducible apply ed_op | with_reducible apply el_lst
      | exact rd_eqSb rfl | exact rd_neSb rfl | exact rd_eqIb rfl | exact rd_neIb rfl
      | exact rd_ixT0 | exact rd_ixT1 | exact rd_ixT2 | exact rd_bool rfl | exact rd_int rfl | exact rd_inTc rfl rfl rfl | exact short_size rfl)); done)); (focus rfl))
    | ((with_reducible apply sd_ret); (focus ((repeat' (first
      | with_reducible exact ed_str | with_reducible exact ed_int | with_reducible exact ed_bl | with_reducible exact ed_non
      | exact ed_var rfl | exact ed_var (by assumption) | with_reducible exact ea_nil | with_reducible apply ea_cons
      | with_reducible apply et_test | with_reducible apply et_B | with_reducible apply et_not
      | with_reducible apply ed_tup | with_reducible apply ed_op | with_reducible apply el_lst
      | exact rd_eqSb rfl | exact rd_neSb rfl | exact rd_eqIb rfl | exact rd_neIb rfl
      | exact rd_ixT0 | exact rd_ixT1 | exact rd_ixT2 | exact rd_bool rfl | exact rd_int rfl | exact rd_inTc rfl rfl rfl | exact short_size rfl)); done)); (focus rfl))
    | ((with_reducible apply sq_retL); (focus ((repeat' (first
      | with_reducible exact ed_str | with_reducible exact ed_int | with_reducible exact ed_bl | with_reducible exact ed_non
      | exact ed_var rfl | exact ed_var (by assumption) | with_reducible exact ea_nil | with_reducible apply ea_cons
      | with_reducible apply et_test | with_reducible apply et_B | with_reducible apply et_not
      | with_reducible apply ed_tup | with_reducible apply ed_op | with_reducible apply el_lst
      | exact rd_eqSb rfl | exact rd_neSb rfl | exact rd_eqIb rfl | exact rd_neIb rfl
      | exact rd_ixT0 | exact rd_ixT1 | exact rd_ixT2 | exact rd_bool rfl | exact rd_int rfl | exact rd_inTc rfl rfl rfl | exact short_size rfl)); done)); (focus rfl))
    | ((with_reducible apply sd_retL); (focus ((repeat' (first
      | with_reducible exact ed_str | with_reducible exact ed_int | with_reducible exact ed_bl | with_reducible exact ed_non
      | exact ed_var rfl | exact ed_var (by assumption) | with_reducible exact ea_nil | with_reducible apply ea_cons
      | with_reducible apply et_test | with_reducible apply et_B | with_reducible apply et_not
      | with_reducible apply ed_tup | with_reducible apply ed_op | with_reducible apply el_lst
      | exact rd_eqSb rfl | exact rd_neSb rfl | exact rd_eqIb rfl | exact rd_neIb rfl
      | exact rd_ixT0 | exact rd_ixT1 | exact rd_ixT2 | exact rd_bool rfl | exact rd_int rfl | exact rd_inTc rfl rfl rfl | exact short_size rfl)); done)); (focus rfl))))
  | call x =>
    obtain ⟨k, rfl⟩ := one_of hw.1
    (repeat (first
    | ((with_reducible apply sq_set); (focus ((repeat' (first
      | with_reducible exact ed_str | with_reducible exact ed_int | with_reducible exact ed_bl | with_reducible exact ed_non
      | exact ed_var rfl | exact ed_var (by assumption) | with_reducible exact ea_nil | with_reducible apply ea_cons
      | with_reducible apply et_test | with_reducible apply et_B | with_reducible apply et_not
      | with_reducible apply ed_tup | with_reducible apply ed_op | with_reducible apply el_lst
      | exact rd_eqSb rfl | exact rd_neSb rfl | exact rd_eqIb rfl | exact rd_neIb rfl
      | exact rd_ixT0 | exact rd_ixT1 | exact rd_ixT2 | exact rd_bool rfl | exact rd_int rfl | exact rd_inTc rfl rfl rfl | exact short_size rfl)); done)))
    | ((with_reducible apply sq_ifT); (focus ((repeat' (first
      | with_reducible exact ed_str | with_reducible exact ed_int | with_reducible exact ed_bl | with_reducible exact ed_non
      | exact ed_var rfl | exact ed_var (by assumption) | with_reducible exact ea_nil | with_reducible apply ea_cons
      | with_reducible apply et_test | with_reducible apply et_B | with_reducible apply et_not
      | with_reducible apply ed_tup | with_reducible apply ed_op | with_reducible apply el_lst
      | exact rd_eqSb rfl | exact rd_neSb rfl | exact rd_eqIb rfl | exact rd_neIb rfl
      | exact rd_ixT0 | exact rd_ixT1 | exact rd_ixT2 | exact rd_bool rfl | exact rd_int rfl | exact rd_inTc rfl rfl rfl | exact short_size rfl)); done)); (focus rfl))
    | ((with_reducible apply sq_ifF); (focus ((repeat' (first
      | with_reducible exact ed_str | with_reducible exact ed_int | with_reducible exact ed_bl | with_reducible exact ed_non
      | exact ed_var rfl | exact ed_var (by assumption) | with_reducible exact ea_nil | with_reducible apply ea_cons
      | with_reducible apply et_test | with_reducible apply et_B | with_reducible apply et_not
      | with_reducible apply ed_tup | with_reducible apply ed_op | with_reducible apply el_lst
      | exact rd_eqSb rfl | exact rd_neSb rfl | exact rd_eqIb rfl | exact rd_neIb rfl
      | exact rd_ixT0 | exact rd_ixT1 | exact rd_ixT2 | exact rd_bool rfl | exact rd_int rfl | exact rd_inTc rfl rfl rfl | exact short_size rfl)); done)); (focus rfl))
    | ((with_reducible apply sq_ret); (focus ((repeat' (first
      | with_reducible exact ed_str | with_reducible exact ed_int | with_reducible exact ed_bl | with_reducible exact ed_non
      | exact ed_var rfl | exact ed_var (by assumption) | with_reducible exact ea_nil | with_reducible apply ea_cons
      | with_reducible apply et_test | with_reducible apply et_B | with_reducible apply et_not
      | with_reducible apply ed_tup | with_reducible apply ed_op | with_reducible apply el_lst
      | exact rd_eqSb rfl | exact rd_neSb rfl | exact rd_eqIb rfl | exact rd_neIb rfl
      | exact rd_ixT0 | exact rd_ixT1 | exact rd_ixT2 | exact rd_bool rfl | exact rd_int rfl | exact rd_inTc rfl rfl rfl | exact short_size rfl)); done)); (focus rfl))
    | ((with_reducible apply sd_ret); (focus ((repeat' (first
      | with_reducible exact ed_str | with_reducible exact ed_int | with_reducible exact ed_bl | with_reducible exact ed_non
      | exact ed_var rfl | exact ed_var (by assumption) | with_reducible exact ea_nil | with_reducible apply ea_cons
      | with_reducible apply et_test | with_reducible apply et_B | with_reducible apply et_not
      | with_reducible apply ed_tup | with_reducible apply ed_op | with_reducible apply el_lst
      | exact rd_eqSb rfl | exact rd_neSb rfl | exact rd_eqIb rfl | exact rd_neIb rfl
      | exact rd_ixT0 | exact rd_ixT1 | exact rd_ixT2 | exact rd_bool rfl | exact rd_int rfl | exact rd_inTc rfl rfl rfl | exact short_size rfl)); done)); (focus rfl))
    | ((with_reducible apply sq_retL); (focus ((repeat' (first
      | with_reducible exact ed_str | with_reducible exact ed_int | with_reducible exact ed_bl | with_reducible exact ed_non
      | exact ed_var rfl | exact ed_var (by assumption) | with_reducible exact ea_nil | with_reducible apply ea_cons
      | with_reducible apply et_test | with_reducible apply et_B | with_reducible apply et_not
      | with_reducible apply ed_tup | with_reducible apply ed_op | with_reducible apply el_lst
      | exact rd_eqSb rfl | exact rd_neSb rfl | exact rd_eqIb rfl | exact rd_neIb rfl
      | exact rd_ixT0 | exact rd_ixT1 | exact rd_ixT2 | exact rd_bool rfl | exact rd_int rfl | exact rd_inTc rfl rfl rfl | exact short_size rfl)); done)); (focus rfl))
    | ((with_reducible apply sd_retL); (focus ((repeat' (first
      | with_reducible exact ed_str | with_reducible exact ed_int | with_reducible exact ed_bl | with_reducible exact ed_non
      | exact ed_var rfl | exact ed_var (by assumption) | with_reducible exact ea_nil | with_reducible apply ea_cons
      | with_reducible apply et_test | with_reducible apply et_B | with_reducible apply et_not
      | with_reducible apply ed_tup | with_reducible apply ed_op | with_reducible apply el_lst
      | exact rd_eqSb rfl | exact rd_neSb rfl | exact rd_eqIb rfl | exact rd_neIb rfl
      | exact rd_ixT0 | exact rd_ixT1 | exact rd_ixT2 | exact rd_bool rfl | exact rd_int rfl | exact rd_inTc rfl rfl rfl | exact short_size rfl)); done)); (focus rfl))))
  | lets xs =>
    obtain ⟨⟨h1, h4⟩, hw2⟩ := hw
    obtain ⟨ms, m, rfl, hl⟩ := last_of h1
    rw [enc_lets hl, prs_lets]
    (repeat (first
    | ((with_reducible apply sq_set); (focus ((repeat' (first
      | with_reducible exact ed_str | with_reducible exact ed_int | with_reducible exact ed_bl | with_reducible exact ed_non
      | exact ed_var rfl | exact ed_var (by assumption) | with_reducible exact ea_nil | with_reducible apply ea_cons
      | with_reducible apply et_test | with_reducible apply et_B | with_reducible apply et_not
      | with_reducible apply ed_tup | with_reducible apply ed_op | with_reducible apply el_lst
      | exact rd_eqSb rfl | exact rd_neSb rfl | exact rd_eqIb rfl | exact rd_neIb rfl
      | exact rd_ixT0 | exact rd_ixT1 | exact rd_ixT2 | exact rd_bool rfl | exact rd_int rfl | exact rd_inTc rfl rfl rfl | exact short_size rfl)); done)))
    | ((with_reducible apply sq_ifT); (focus ((repeat' (first
      | with_reducible exact ed_str | with_reducible exact ed_int | with_reducible exact ed_bl | with_reducible exact ed_non
      | exact ed_var rfl | exact ed_var (by assumption) | with_reducible exact ea_nil | with_reducible apply ea_cons
      | with_reducible apply et_test | with_reducible apply et_B | with_reducible apply et_not
      | with_reducible apply ed_tup | with_reducible apply ed_op | with_reducible apply el_lst
      | exact rd_eqSb rfl | exact rd_neSb rfl | exact rd_eqIb rfl | exact rd_neIb rfl
      | exact rd_ixT0 | exact rd_ixT1 | exact rd_ixT2 | exact rd_bool rfl | exact rd_int rfl | exact rd_inTc rfl rfl rfl | exact short_size rfl)); done)); (focus rfl))
    | ((with_reducible apply sq_ifF); (focus ((repeat' (first
      | with_reducible exact ed_str | with_reducible exact ed_int | with_reducible exact ed_bl | with_reducible exact ed_non
      | exact ed_var rfl | exact ed_var (by assumption) | with_reducible exact ea_nil | with_reducible apply ea_cons
      | with_reducible apply et_test | with_reducible apply et_B | with_reducible apply et_not
      | with_reducible apply ed_tup | with_reducible apply ed_op | with_reducible apply el_lst
      | exact rd_eqSb rfl | exact rd_neSb rfl | exact rd_eqIb rfl | exact rd_neIb rfl
      | exact rd_ixT0 | exact rd_ixT1 | exact rd_ixT2 | exact rd_bool rfl | exact rd_int rfl | exact rd_inTc rfl rfl rfl | exact short_size rfl)); done)); (focus rfl))
    | ((with_reducible apply sq_ret); (focus ((repeat' (first
      | with_reducible exact ed_str | with_reducible exact ed_int | with_reducible exact ed_bl | with_reducible exact ed_non
      | exact ed_var rfl | exact ed_var (by assumption) | with_reducible exact ea_nil | with_reducible apply ea_cons
      | with_reducible apply et_test | with_reducible apply et_B | with_reducible apply et_not
      | with_reducible apply ed_tup | with_reducible apply ed_op | with_reducible apply el_lst
      | exact rd_eqSb rfl | exact rd_neSb rfl | exact rd_eqIb rfl | exact rd_neIb rfl
      | exact rd_ixT0 | exact rd_ixT1 | exact rd_ixT2 | exact rd_bool rfl | exact rd_int rfl | exact rd_inTc rfl rfl rfl | exact short_size rfl)); done)); (focus rfl))
    | ((with_reducible apply sd_ret); (focus ((repeat' (first
      | with_reducible exact ed_str | with_reducible exact ed_int | with_reducible exact ed_bl | with_reducible exact ed_non
      | exact ed_var rfl | exact ed_var (by assumption) | with_reducible exact ea_nil | with_reducible apply ea_cons
      | with_reducible apply et_test | with_reducible apply et_B | with_reducible apply et_not
      | with_reducible apply ed_tup | with_reducible apply ed_op | with_reducible apply el_lst
      | exact rd_eqSb rfl | exact rd_neSb rfl | exact rd_eqIb rfl | exact rd_neIb rfl
      | exact rd_ixT0 | exact rd_ixT1 | exact rd_ixT2 | exact rd_bool rfl | exact rd_int rfl | exact rd_inTc rfl rfl rfl | exact short_size rfl)); done)); (focus rfl))
    | ((with_reducible apply sq_retL); (focus ((repeat' (first
      | with_reducible exact ed_str | with_reducible exact ed_int | with_reducible exact ed_bl | with_reducible exact ed_non
      | exact ed_var rfl | exact ed_var (by assumption) | with_reducible exact ea_nil | with_reducible apply ea_cons
      | with_reducible apply et_test | with_reducible apply et_B | with_reducible apply et_not
      | with_reducible apply ed_tup | with_reducible apply ed_op | with_reducible apply el_lst
      | exact rd_eqSb rfl | exact rd_neSb rfl | exact rd_eqIb rfl | exact rd_neIb rfl
      | exact rd_ixT0 | exact rd_ixT1 | exact rd_ixT2 | exact rd_bool rfl | exact rd_int rfl | exact rd_inTc rfl rfl rfl | exact short_size rfl)); done)); (focus rfl))
    | ((with_reducible apply sd_retL); (focus ((repeat' (first
      | with_reducible exact ed_str | with_reducible exact ed_int | with_reducible exact ed_bl | with_reducible exact ed_non
      | exact ed_var rfl | exact ed_var (by assumption) | with_reducible exact ea_nil | with_reducible apply ea_cons
      | with_reducible apply et_test | with_reducible apply et_B | with_reducible apply et_not
      | with_reducible apply ed_tup | with_reducible apply ed_op | with_reducible apply el_lst
      | exact rd_eqSb rfl | exact rd_neSb rfl | exact rd_eqIb rfl | exact rd_neIb rfl
      | exact rd_ixT0 | exact rd_ixT1 | exact rd_ixT2 | exact rd_bool rfl | exact rd_int rfl | exact rd_inTc rfl rfl rfl | exact short_size rfl)); done)); (focus rfl))))
    have hz : (xs.zip ms).length ≤ sizeLine := small4 (by rw [List.length_zip]; omega)
    refine sq_assoc ?_
    refine sq_set (d := tS xs) (ed_eq (ed_cb (ea_cons (EL.toD (el_lcM (vs := [4]) _ (fun p => .t [.s p.1, enc p.2]) (fun p => .s p.1) hz rfl (src_tup (by (repeat' (first
      | with_reducible exact ed_str | with_reducible exact ed_int | with_reducible exact ed_bl | with_reducible exact ed_non
      | exact ed_var rfl | exact ed_var (by assumption) | with_reducible exact ea_nil | with_reducible apply ea_cons
      | with_reducible apply et_test | with_reducible apply et_B | with_reducible apply et_not
      | with_reducible apply ed_tup | with_reducible apply ed_op | with_reducible apply el_lst
      | exact rd_eqSb rfl | exact rd_neSb rfl | exact rd_eqIb rfl | exact rd_neIb rfl
      | exact rd_ixT0 | exact rd_ixT1 | exact rd_ixT2 | exact rd_bool rfl | exact rd_int rfl | exact rd_inTc rfl rfl rfl | exact short_size rfl)))) fun z hz => ⟨_, gw_name rfl, by (repeat' (first
      | with_reducible exact ed_str | with_reducible exact ed_int | with_reducible exact ed_bl | with_reducible exact ed_non
      | exact ed_var rfl | exact ed_var (by assumption) | with_reducible exact ea_nil | with_reducible apply ea_cons
      | with_reducible apply et_test | with_reducible apply et_B | with_reducible apply et_not
      | with_reducible apply ed_tup | with_reducible apply ed_op | with_reducible apply el_lst
      | exact rd_eqSb rfl | exact rd_neSb rfl | exact rd_eqIb rfl | exact rd_neIb rfl
      | exact rd_ixT0 | exact rd_ixT1 | exact rd_ixT2 | exact rd_bool rfl | exact rd_int rfl | exact rd_inTc rfl rfl rfl | exact short_size rfl))⟩)) ea_nil) rc_tupL) (congrArg D.t (map_zip_fst hl))) ?_
    refine sq_retL (el_op (EL.toD (el_lcM (vs := [4]) _ (fun p => .t [.s p.1, enc p.2]) (fun p => .t [enc p.2, tS xs]) hz rfl (src_tup (by (repeat' (first
      | with_reducible exact ed_str | with_reducible exact ed_int | with_reducible exact ed_bl | with_reducible exact ed_non
      | exact ed_var rfl | exact ed_var (by assumption) | with_reducible exact ea_nil | with_reducible apply ea_cons
      | with_reducible apply et_test | with_reducible apply et_B | with_reducible apply et_not
      | with_reducible apply ed_tup | with_reducible apply ed_op | with_reducible apply el_lst
      | exact rd_eqSb rfl | exact rd_neSb rfl | exact rd_eqIb rfl | exact rd_neIb rfl
      | exact rd_ixT0 | exact rd_ixT1 | exact rd_ixT2 | exact rd_bool rfl | exact rd_int rfl | exact rd_inTc rfl rfl rfl | exact short_size rfl)))) fun z hz => ⟨_, gw_name rfl, by (repeat' (first
      | with_reducible exact ed_str | with_reducible exact ed_int | with_reducible exact ed_bl | with_reducible exact ed_non
      | exact ed_var rfl | exact ed_var (by assumption) | with_reducible exact ea_nil | with_reducible apply ea_cons
      | with_reducible apply et_test | with_reducible apply et_B | with_reducible apply et_not
      | with_reducible apply ed_tup | with_reducible apply ed_op | with_reducible apply el_lst
      | exact rd_eqSb rfl | exact rd_neSb rfl | exact rd_eqIb rfl | exact rd_neIb rfl
      | exact rd_ixT0 | exact rd_ixT1 | exact rd_ixT2 | exact rd_bool rfl | exact rd_int rfl | exact rd_inTc rfl rfl rfl | exact short_size rfl))⟩)) (EL.toD (by (repeat' (first
      | with_reducible exact ed_str | with_reducible exact ed_int | with_reducible exact ed_bl | with_reducible exact ed_non
      | exact ed_var rfl | exact ed_var (by assumption) | with_reducible exact ea_nil | with_reducible apply ea_cons
      | with_reducible apply et_test | with_reducible apply et_B | with_reducible apply et_not
      | with_reducible apply ed_tup | with_reducible apply ed_op | with_reducible apply el_lst
      | exact rd_eqSb rfl | exact rd_neSb rfl | exact rd_eqIb rfl | exact rd_neIb rfl
      | exact rd_ixT0 | exact rd_ixT1 | exact rd_ixT2 | exact rd_bool rfl | exact rd_int rfl | exact rd_inTc rfl rfl rfl | exact short_size rfl)))) (rl_cat (ys := [.t [enc m, tS xs]]) (by rw [List.length_map, List.length_zip]; exact small4 (by simp; omega)))) ?_
    show _ = _
    rw [List.map_append, List.map_map, map_zip_snd (f := fun k => D.t [enc k, tS xs]) hl]
    rfl
  | case rs =>
    obtain ⟨⟨h1, h4, h5⟩, hw2⟩ := hw
    obtain ⟨m, ms, rfl, hl⟩ := cons_of h1
    rw [enc_case, prs_case hl]
    have hz : (rs.zip ms).length ≤ sizeLine := small4 (by rw [List.length_zip]; omega)
    (repeat (first
    | ((with_reducible apply sq_set); (focus ((repeat' (first
      | with_reducible exact ed_str | with_reducible exact ed_int | with_reducible exact ed_bl | with_reducible exact ed_non
      | exact ed_var rfl | exact ed_var (by assumption) | with_reducible exact ea_nil | with_reducible apply ea_cons
      | with_reducible apply et_test | with_reducible apply et_B | with_reducible apply et_not
      | with_reducible apply ed_tup | with_reducible apply ed_op | with_reducible apply el_lst
      | exact rd_eqSb rfl | exact rd_neSb rfl | exact rd_eqIb rfl | exact rd_neIb rfl
      | exact rd_ixT0 | exact rd_ixT1 | exact rd_ixT2 | exact rd_bool rfl | exact rd_int rfl | exact rd_inTc rfl rfl rfl | exact short_size rfl)); done)))
    | ((with_reducible apply sq_ifT); (focus ((repeat' (first
      | with_reducible exact ed_str | with_reducible exact ed_int | with_reducible exact ed_bl | with_reducible exact ed_non
      | exact ed_var rfl | exact ed_var (by assumption) | with_reducible exact ea_nil | with_reducible apply ea_cons
      | with_reducible apply et_test | with_reducible apply et_B | with_reducible apply et_not
      | with_reducible apply ed_tup | with_reducible apply ed_op | with_reducible apply el_lst
      | exact rd_eqSb rfl | exact rd_neSb rfl | exact rd_eqIb rfl | exact rd_neIb rfl
      | exact rd_ixT0 | exact rd_ixT1 | exact rd_ixT2 | exact rd_bool rfl | exact rd_int rfl | exact rd_inTc rfl rfl rfl | exact short_size rfl)); done)); (focus rfl))
    | ((with_reducible apply sq_ifF); (focus ((repeat' (first
      | with_reducible exact ed_str | with_reducible exact ed_int | with_reducible exact ed_bl | with_reducible exact ed_non
      | exact ed_var rfl | exact ed_var (by assumption) | with_reducible exact ea_nil | with_reducible apply ea_cons
      | with_reducible apply et_test | with_reducible apply et_B | with_reducible apply et_not
      | with_reducible apply ed_tup | with_reducible apply ed_op | with_reducible apply el_lst
      | exact rd_eqSb rfl | exact rd_neSb rfl | exact rd_eqIb rfl | exact rd_neIb rfl
      | exact rd_ixT0 | exact rd_ixT1 | exact rd_ixT2 | exact rd_bool rfl | exact rd_int rfl | exact rd_inTc rfl rfl rfl | exact short_size rfl)); done)); (focus rfl))
    | ((with_reducible apply sq_ret); (focus ((repeat' (first
      | with_reducible exact ed_str | with_reducible exact ed_int | with_reducible exact ed_bl | with_reducible exact ed_non
      | exact ed_var rfl | exact ed_var (by assumption) | with_reducible exact ea_nil | with_reducible apply ea_cons
      | with_reducible apply et_test | with_reducible apply et_B | with_reducible apply et_not
      | with_reducible apply ed_tup | with_reducible apply ed_op | with_reducible apply el_lst
      | exact rd_eqSb rfl | exact rd_neSb rfl | exact rd_eqIb rfl | exact rd_neIb rfl
      | exact rd_ixT0 | exact rd_ixT1 | exact rd_ixT2 | exact rd_bool rfl | exact rd_int rfl | exact rd_inTc rfl rfl rfl | exact short_size rfl)); done)); (focus rfl))
    | ((with_reducible apply sd_ret); (focus ((repeat' (first
      | with_reducible exact ed_str | with_reducible exact ed_int | with_reducible exact ed_bl | with_reducible exact ed_non
      | exact ed_var rfl | exact ed_var (by assumption) | with_reducible exact ea_nil | with_reducible apply ea_cons
      | with_reducible apply et_test | with_reducible apply et_B | with_reducible apply et_not
      | with_reducible apply ed_tup | with_reducible apply ed_op | with_reducible apply el_lst
      | exact rd_eqSb rfl | exact rd_neSb rfl | exact rd_eqIb rfl | exact rd_neIb rfl
      | exact rd_ixT0 | exact rd_ixT1 | exact rd_ixT2 | exact rd_bool rfl | exact rd_int rfl | exact rd_inTc rfl rfl rfl | exact short_size rfl)); done)); (focus rfl))
    | ((with_reducible apply sq_retL); (focus ((repeat' (first
      | with_reducible exact ed_str | with_reducible exact ed_int | with_reducible exact ed_bl | with_reducible exact ed_non
      | exact ed_var rfl | exact ed_var (by assumption) | with_reducible exact ea_nil | with_reducible apply ea_cons
      | with_reducible apply et_test | with_reducible apply et_B | with_reducible apply et_not
      | with_reducible apply ed_tup | with_reducible apply ed_op | with_reducible apply el_lst
      | exact rd_eqSb rfl | exact rd_neSb rfl | exact rd_eqIb rfl | exact rd_neIb rfl
      | exact rd_ixT0 | exact rd_ixT1 | exact rd_ixT2 | exact rd_bool rfl | exact rd_int rfl | exact rd_inTc rfl rfl rfl | exact short_size rfl)); done)); (focus rfl))
    | ((with_reducible apply sd_retL); (focus ((repeat' (first
      | with_reducible exact ed_str | with_reducible exact ed_int | with_reducible exact ed_bl | with_reducible exact ed_non
      | exact ed_var rfl | exact ed_var (by assumption) | with_reducible exact ea_nil | with_reducible apply ea_cons
      | with_reducible apply et_test | with_reducible apply et_B | with_reducible apply et_not
      | with_reducible apply ed_tup | with_reducible apply ed_op | with_reducible apply el_lst
      | exact rd_eqSb rfl | exact rd_neSb rfl | exact rd_eqIb rfl | exact rd_neIb rfl
      | exact rd_ixT0 | exact rd_ixT1 | exact rd_ixT2 | exact rd_bool rfl | exact rd_int rfl | exact rd_inTc rfl rfl rfl | exact short_size rfl)); done)); (focus rfl))))
    refine sq_retL (el_op (EL.toD (by (repeat' (first
      | with_reducible exact ed_str | with_reducible exact ed_int | with_reducible exact ed_bl | with_reducible exact ed_non
      | exact ed_var rfl | exact ed_var (by assumption) | with_reducible exact ea_nil | with_reducible apply ea_cons
      | with_reducible apply et_test | with_reducible apply et_B | with_reducible apply et_not
      | with_reducible apply ed_tup | with_reducible apply ed_op | with_reducible apply el_lst
      | exact rd_eqSb rfl | exact rd_neSb rfl | exact rd_eqIb rfl | exact rd_neIb rfl
      | exact rd_ixT0 | exact rd_ixT1 | exact rd_ixT2 | exact rd_bool rfl | exact rd_int rfl | exact rd_inTc rfl rfl rfl | exact short_size rfl)))) (EL.toD (el_lcM (vs := [4]) _ (fun p => .t [.s p.1.1, tS p.1.2, enc p.2]) (fun p => .t [enc p.2, tS p.1.2]) hz rfl (src_tup (by (repeat' (first
      | with_reducible exact ed_str | with_reducible exact ed_int | with_reducible exact ed_bl | with_reducible exact ed_non
      | exact ed_var rfl | exact ed_var (by assumption) | with_reducible exact ea_nil | with_reducible apply ea_cons
      | with_reducible apply et_test | with_reducible apply et_B | with_reducible apply et_not
      | with_reducible apply ed_tup | with_reducible apply ed_op | with_reducible apply el_lst
      | exact rd_eqSb rfl | exact rd_neSb rfl | exact rd_eqIb rfl | exact rd_neIb rfl
      | exact rd_ixT0 | exact rd_ixT1 | exact rd_ixT2 | exact rd_bool rfl | exact rd_int rfl | exact rd_inTc rfl rfl rfl | exact short_size rfl)))) fun z hz => ⟨_, gw_name rfl, by (repeat' (first
      | with_reducible exact ed_str | with_reducible exact ed_int | with_reducible exact ed_bl | with_reducible exact ed_non
      | exact ed_var rfl | exact ed_var (by assumption) | with_reducible exact ea_nil | with_reducible apply ea_cons
      | with_reducible apply et_test | with_reducible apply et_B | with_reducible apply et_not
      | with_reducible apply ed_tup | with_reducible apply ed_op | with_reducible apply el_lst
      | exact rd_eqSb rfl | exact rd_neSb rfl | exact rd_eqIb rfl | exact rd_neIb rfl
      | exact rd_ixT0 | exact rd_ixT1 | exact rd_ixT2 | exact rd_bool rfl | exact rd_int rfl | exact rd_inTc rfl rfl rfl | exact short_size rfl))⟩)) (rl_cat (xs := [.t [enc m, .t []]]) (by rw [List.length_map, List.length_zip]; exact small4 (by simp; omega)))) ?_
    show _ = _
    rw [List.map_cons, List.map_map]
    rfl
  | _ =>
    have e : ks = [] := by
      first
        | exact List.length_eq_zero_iff.mp hw.1
        | exact List.length_eq_zero_iff.mp hw.1.1
    subst e
    (repeat (first
    | ((with_reducible apply sq_set); (focus ((repeat' (first
      | with_reducible exact ed_str | with_reducible exact ed_int | with_reducible exact ed_bl | with_reducible exact ed_non
      | exact ed_var rfl | exact ed_var (by assumption) | with_reducible exact ea_nil | with_reducible apply ea_cons
      | with_reducible apply et_test | with_reducible apply et_B | with_reducible apply et_not
      | with_reducible apply ed_tup | with_reducible apply ed_op | with_reducible apply el_lst
      | exact rd_eqSb rfl | exact rd_neSb rfl | exact rd_eqIb rfl | exact rd_neIb rfl
      | exact rd_ixT0 | exact rd_ixT1 | exact rd_ixT2 | exact rd_bool rfl | exact rd_int rfl | exact rd_inTc rfl rfl rfl | exact short_size rfl)); done)))
    | ((with_reducible apply sq_ifT); (focus ((repeat' (first
      | with_reducible exact ed_str | with_reducible exact ed_int | with_reducible exact ed_bl | with_reducible exact ed_non
      | exact ed_var rfl | exact ed_var (by assumption) | with_reducible exact ea_nil | with_reducible apply ea_cons
      | with_reducible apply et_test | with_reducible apply et_B | with_reducible apply et_not
      | with_reducible apply ed_tup | with_reducible apply ed_op | with_reducible apply el_lst
      | exact rd_eqSb rfl | exact rd_neSb rfl | exact rd_eqIb rfl | exact rd_neIb rfl
      | exact rd_ixT0 | exact rd_ixT1 | exact rd_ixT2 | exact rd_bool rfl | exact rd_int rfl | exact rd_inTc rfl rfl rfl | exact short_size rfl)); done)); (focus rfl))
    | ((with_reducible apply sq_ifF); (focus ((repeat' (first
      | with_reducible exact ed_str | with_reducible exact ed_int | with_reducible exact ed_bl | with_reducible exact ed_non
      | exact ed_var rfl | exact ed_var (by assumption) | with_reducible exact ea_nil | with_reducible apply ea_cons
      | with_reducible apply et_test | with_reducible apply et_B | with_reducible apply et_not
      | with_reducible apply ed_tup | with_reducible apply ed_op | with_reducible apply el_lst
      | exact rd_eqSb rfl | exact rd_neSb rfl | exact rd_eqIb rfl | exact rd_neIb rfl
      | exact rd_ixT0 | exact rd_ixT1 | exact rd_ixT2 | exact rd_bool rfl | exact rd_int rfl | exact rd_inTc rfl rfl rfl | exact short_size rfl)); done)); (focus rfl))
    | ((with_reducible apply sq_ret); (focus ((repeat' (first
      | with_reducible exact ed_str | with_reducible exact ed_int | with_reducible exact ed_bl | with_reducible exact ed_non
      | exact ed_var rfl | exact ed_var (by assumption) | with_reducible exact ea_nil | with_reducible apply ea_cons
      | with_reducible apply et_test | with_reducible apply et_B | with_reducible apply et_not
      | with_reducible apply ed_tup | with_reducible apply ed_op | with_reducible apply el_lst
      | exact rd_eqSb rfl | exact rd_neSb rfl | exact rd_eqIb rfl | exact rd_neIb rfl
      | exact rd_ixT0 | exact rd_ixT1 | exact rd_ixT2 | exact rd_bool rfl | exact rd_int rfl | exact rd_inTc rfl rfl rfl | exact short_size rfl)); done)); (focus rfl))
    | ((with_reducible apply sd_ret); (focus ((repeat' (first
      | with_reducible exact ed_str | with_reducible exact ed_int | with_reducible exact ed_bl | with_reducible exact ed_non
      | exact ed_var rfl | exact ed_var (by assumption) | with_reducible exact ea_nil | with_reducible apply ea_cons
      | with_reducible apply et_test | with_reducible apply et_B | with_reducible apply et_not
      | with_reducible apply ed_tup | with_reducible apply ed_op | with_reducible apply el_lst
      | exact rd_eqSb rfl | exact rd_neSb rfl | exact rd_eqIb rfl | exact rd_neIb rfl
      | exact rd_ixT0 | exact rd_ixT1 | exact rd_ixT2 | exact rd_bool rfl | exact rd_int rfl | exact rd_inTc rfl rfl rfl | exact short_size rfl)); done)); (focus rfl))
    | ((with_reducible apply sq_retL); (focus ((repeat' (first
      | with_reducible exact ed_str | with_reducible exact ed_int | with_reducible exact ed_bl | with_reducible exact ed_non
      | exact ed_var rfl | exact ed_var (by assumption) | with_reducible exact ea_nil | with_reducible apply ea_cons
      | with_reducible apply et_test | with_reducible apply et_B | with_reducible apply et_not
      | with_reducible apply ed_tup | with_reducible apply ed_op | with_reducible apply el_lst
      | exact rd_eqSb rfl | exact rd_neSb rfl | exact rd_eqIb rfl | exact rd_neIb rfl
      | exact rd_ixT0 | exact rd_ixT1 | exact rd_ixT2 | exact rd_bool rfl | exact rd_int rfl | exact rd_inTc rfl rfl rfl | exact short_size rfl)); done)); (focus rfl))
    | ((with_reducible apply sd_retL); (focus ((repeat' (first
      | with_reducible exact ed_str | with_reducible exact ed_int | with_reducible exact ed_bl | with_reducible exact ed_non
      | exact ed_var rfl | exact ed_var (by assumption) | with_reducible exact ea_nil | with_reducible apply ea_cons
      | with_reducible apply et_test | with_reducible apply et_B | with_reducible apply et_not
      | with_reducible apply ed_tup | with_reducible apply ed_op | with_reducible apply el_lst
      | exact rd_eqSb rfl | exact rd_neSb rfl | exact rd_eqIb rfl | exact rd_neIb rfl
      | exact rd_ixT0 | exact rd_ixT1 | exact rd_ixT2 | exact rd_bool rfl | exact rd_int rfl | exact rd_inTc rfl rfl rfl | exact short_size rfl)); done)); (focus rfl))))
end
end Nz
namespace Nz
open PySem L2
mutual
def dD : D → Nat
  | .t xs => dDs xs + 1
  | .l xs => dDs xs + 1
  | _ => 0
def dDs : List D → Nat
  | [] => 0
  | x :: r => max (dD x) (dDs r)
end
mutual
/-- all lists in it are of bounded length -/
def smD : D → Prop
  | .t xs => xs.length ≤ 1000000 ∧ smDs xs
  | .l xs => xs.length ≤ 1000000 ∧ smDs xs
  | _ => True
def smDs : List D → Prop
  | [] => True
  | x :: r => smD x ∧ smDs r
end
theorem dDs_get {x : D} : ∀ {xs : List D} {i : Nat}, xs[i]? = some x → dD x ≤ dDs xs
  | _ :: _, 0, h => by
    cases h
    exact Nat.le_max_left _ _
  | _ :: r, i + 1, h => Nat.le_trans (dDs_get (xs := r) (i := i) h) (Nat.le_max_right _ _)
theorem smDs_get {x : D} : ∀ {xs : List D} {i : Nat}, smDs xs → xs[i]? = some x → smD x
  | _ :: _, 0, w, h => by
    cases h
    exact w.1
  | _ :: r, i + 1, w, h => smDs_get (xs := r) (i := i) w.2 h
section
variable {P : Program} {w : World} {K : PySem.W.Frag} {mg : Str → Option Value} {base : Heap}
def R_same (n : Nat) (ds : List D) (d : D) : Prop := ∃ x, dD x ≤ n ∧ smD x ∧ ds = [x, x] ∧ d = .b true
def R_same' (n : Nat) (ds : List D) (d : D) : Prop := ∃ x, dD x < n ∧ smD x ∧ ds = [x, x] ∧ d = .b true
theorem same_step (F : Facts K mg) (n : Nat) (c__law_same : C8.Cal P w K mg base n "_law_same" (spR (R_same' n)) []) : C8.Cal P w K mg base (n + 1) "_law_same" (spR (R_same n)) [] := by
  refine F._law_same.R sc__law_same (by decide) (fun ds d h => ?_) (fun f cdv A outer s H E hr => ⟨_, (pss_cons (ps_if (PW.pt (pw_or (pt_val (pe_callB (Nz.cIsi K) rfl F.b_isinstance Nz.boot_isinstance (pa_cons (pv 1) (pa_cons (pe_bltn (v := V.ty "tuple") rfl F.b_tuple Nz.boot_tuple rfl) pa_nil)))) (pw_or1 (pt_val (pe_callB (Nz.cIsi K) rfl F.b_isinstance Nz.boot_isinstance (pa_cons (pv 1) (pa_cons (pe_bltn (v := V.ty "list") rfl F.b_list Nz.boot_list rfl) pa_nil))))))) (pss_cons (ps_if (PW.pt (pw_or (pt_cmpR op_ne (pe_callB (Nz.cIsi K) rfl F.b_isinstance Nz.boot_isinstance (pa_cons (pv 1) (pa_cons (pe_bltn (v := V.ty "tuple") rfl F.b_tuple Nz.boot_tuple rfl) pa_nil))) (pe_callB (Nz.cIsi K) rfl F.b_isinstance Nz.boot_isinstance (pa_cons (pv 0) (pa_cons (pe_bltn (v := V.ty "tuple") rfl F.b_tuple Nz.boot_tuple rfl) pa_nil))) (nomark _)) (pw_or1 (pt_cmpR op_ne (pe_callB (Nz.cIsi K) rfl F.b_isinstance Nz.boot_isinstance (pa_cons (pv 1) (pa_cons (pe_bltn (v := V.ty "list") rfl F.b_list Nz.boot_list rfl) pa_nil))) (pe_callB (Nz.cIsi K) rfl F.b_isinstance Nz.boot_isinstance (pa_cons (pv 0) (pa_cons (pe_bltn (v := V.ty "list") rfl F.b_list Nz.boot_list rfl) pa_nil))) (nomark _))))) (pss_one (ps_ret pe_bl)) pss_nil)
    (pss_cons (ps_if (pt_cmpR op_ne (pe_callB (Nz.cLen K) rfl F.b_len Nz.boot_len (pa_cons (pv 0) pa_nil)) (pe_callB (Nz.cLen K) rfl F.b_len Nz.boot_len (pa_cons (pv 1) pa_nil)) (nomark _)) (pss_one (ps_ret pe_bl)) pss_nil)
    (pss_cons (ps_for PassesOwn.never rfl (pi_range1 rfl F.b_range (pa_cons (pe_callB (Nz.cLen K) rfl F.b_len Nz.boot_len (pa_cons (pv 1) pa_nil)) pa_nil)) (pg_name (i := 2) sc__law_same.nd rfl (Or.inl rfl)) (pss_one (ps_if (pt_not (pt_val (C8.pe_c c__law_same hr (by first | decide | omega) rfl (pa_cons (pe_ix (Nz.ixQ K) (pv 0) (pv 2) (fun _ _ => rfl)) (pa_cons (pe_ix (Nz.ixQ K) (pv 1) (pv 2) (fun _ _ => rfl)) pa_nil))))) (pss_one (ps_ret pe_bl)) pss_nil)))
    (pss_one (ps_ret pe_bl))))) pss_nil)
    (pss_cons (ps_if (PW.pt (pw_or (pt_cmpR Nz.op_isNn (pv 1) pe_non (nomark _)) (pw_or1 (pt_val (pe_callB (Nz.cIsi K) rfl F.b_isinstance Nz.boot_isinstance (pa_cons (pv 1) (pa_cons (pe_bltn (v := V.ty "bool") rfl F.b_bool Nz.boot_bool rfl) pa_nil))))))) (pss_one (ps_ret (pe_and (pe_cmpR op_eq (pe_cmpR Nz.op_isNn (pv 0) pe_non (nomark _)) (pe_cmpR Nz.op_isNn (pv 1) pe_non (nomark _)) (nomark _)) (pe_and (pe_or (pe_cmpR Nz.op_isNn (pv 1) pe_non (nomark _)) (pe_one (pe_callB (Nz.cIsi K) rfl F.b_isinstance Nz.boot_isinstance (pa_cons (pv 0) (pa_cons (pe_bltn (v := V.ty "bool") rfl F.b_bool Nz.boot_bool rfl) pa_nil))))) (pe_one (pe_cmpR op_eq (pv 0) (pv 1) (nomark _))))))) pss_nil)
    (pss_cons (ps_if (pt_val (pe_callB (Nz.cIsi K) rfl F.b_isinstance Nz.boot_isinstance (pa_cons (pv 1) (pa_cons (pe_bltn (v := V.ty "int") rfl F.b_int Nz.boot_int rfl) pa_nil)))) (pss_one (ps_ret (pe_and (pe_callB (Nz.cIsi K) rfl F.b_isinstance Nz.boot_isinstance (pa_cons (pv 0) (pa_cons (pe_bltn (v := V.ty "int") rfl F.b_int Nz.boot_int rfl) pa_nil))) (pe_and (pe_not (pe_callB (Nz.cIsi K) rfl F.b_isinstance Nz.boot_isinstance (pa_cons (pv 0) (pa_cons (pe_bltn (v := V.ty "bool") rfl F.b_bool Nz.boot_bool rfl) pa_nil)))) (pe_one (pe_cmpR op_eq (pv 0) (pv 1) (nomark _))))))) pss_nil)
    (pss_one (ps_ret (pe_and (pe_callB (Nz.cIsi K) rfl F.b_isinstance Nz.boot_isinstance (pa_cons (pv 0) (pa_cons (pe_bltn (v := V.ty "str") rfl F.b_str Nz.boot_str rfl) pa_nil))) (pe_one (pe_cmpR op_eq (pv 0) (pv 1) (nomark _))))))))), fun ds d h => ?_⟩)
  · obtain ⟨x, _, _, rfl, _⟩ := h
    rfl
  obtain ⟨x, hd, hs, rfl, rfl⟩ := h
  have isi : ∀ {te : TE} {es : Es} {x : D} (T : String) (b : Bool), ED te es x → L2.kitB (tyD x) T = some b → ED (tCB (rIsi K) (tCons te (tCons (tC (.ty T)) tNil))) es (.b b) := fun T b h e => ed_isi (ED.toX h) e
  cases x with
  | s z =>
    refine sq_ifF (et_or (et_B (isi "tuple" false (ed_var rfl) (by simp only [tyD]; decide +kernel))) fun _ => et_B (isi "list" false (ed_var rfl) (by simp only [tyD]; decide +kernel))) rfl ?_
    refine sq_ifF (et_or (et_test (ed_op (ed_var rfl) ed_non rd_isN)) fun _ => et_B (isi "bool" false (ed_var rfl) (by simp only [tyD]; decide +kernel))) rfl ?_
    refine sq_ifF (et_B (isi "int" false (ed_var rfl) (by simp only [tyD]; decide +kernel))) rfl ?_
    exact sd_ret (ed_andV (isi "str" true (ed_var rfl) (by simp only [tyD]; decide +kernel)) fun _ => ed_op (ed_var rfl) (ed_var rfl) rd_eqS) (by rw [decide_eq_true rfl]; rfl)
  | i z =>
    refine sq_ifF (et_or (et_B (isi "tuple" false (ed_var rfl) (by simp only [tyD]; decide +kernel))) fun _ => et_B (isi "list" false (ed_var rfl) (by simp only [tyD]; decide +kernel))) rfl ?_
    refine sq_ifF (et_or (et_test (ed_op (ed_var rfl) ed_non rd_isN)) fun _ => et_B (isi "bool" false (ed_var rfl) (by simp only [tyD]; decide +kernel))) rfl ?_
    refine sq_ifT (et_B (isi "int" true (ed_var rfl) (by simp only [tyD]; decide +kernel))) rfl ?_
    exact sq_ret (ed_andV (isi "int" true (ed_var rfl) (by simp only [tyD]; decide +kernel)) fun _ => ed_andV (ed_notV (isi "bool" false (ed_var rfl) (by simp only [tyD]; decide +kernel))) fun _ => ed_op (ed_var rfl) (ed_var rfl) rd_eqI) (by rw [decide_eq_true rfl]; rfl)
  | b z =>
    refine sq_ifF (et_or (et_B (isi "tuple" false (ed_var rfl) (by simp only [tyD]; decide +kernel))) fun _ => et_B (isi "list" false (ed_var rfl) (by simp only [tyD]; decide +kernel))) rfl ?_
    refine sq_ifT (et_or (et_test (ed_op (ed_var rfl) ed_non rd_isN)) fun _ => et_B (isi "bool" true (ed_var rfl) (by simp only [tyD]; decide +kernel))) rfl ?_
    exact sq_ret (ed_andV (ed_op (ed_op (ed_var rfl) ed_non rd_isN) (ed_op (ed_var rfl) ed_non rd_isN) rd_eqB) fun _ => ed_andV (ed_orV (ed_op (ed_var rfl) ed_non rd_isN) fun _ => isi "bool" true (ed_var rfl) (by simp only [tyD]; decide +kernel)) fun _ => ed_op (ed_var rfl) (ed_var rfl) rd_eqB) (by cases z <;> rfl)
  | n =>
    refine sq_ifF (et_or (et_B (isi "tuple" false (ed_var rfl) (by simp only [tyD]; decide +kernel))) fun _ => et_B (isi "list" false (ed_var rfl) (by simp only [tyD]; decide +kernel))) rfl ?_
    have e0 : ∀ (te : TE) (es : Es), ED te es .n → ED (tOp rIsN1 te (tC .non)) es (.b true) := fun te es h => ed_op h ed_non rd_isN
    refine sq_ifT (et_or (a := true) (b := true) (et_test (e0 _ _ (ed_var rfl))) fun h => absurd h (by decide)) rfl ?_
    exact sq_ret (ed_andV (a := true) (ed_op (e0 _ _ (ed_var rfl)) (e0 _ _ (ed_var rfl)) rd_eqB) fun _ => ed_andV (a := true) (ed_orV (a := true) (b := true) (e0 _ _ (ed_var rfl)) fun h => absurd h (by decide)) fun _ => ed_op (ed_var rfl) (ed_var rfl) rd_eqN) rfl
  | t xs =>
    refine sq_ifT (et_or (b := true) (et_B (isi "tuple" true (ed_var rfl) (by simp only [tyD]; decide +kernel))) fun h => absurd h (by decide)) rfl ?_
    refine sq_assoc (sq_ifF (et_or (et_test (ed_op (isi "tuple" true (ed_var rfl) (by simp only [tyD]; decide +kernel)) (isi "tuple" true (ed_var rfl) (by simp only [tyD]; decide +kernel)) rd_neB)) fun _ => et_test (ed_op (isi "list" false (ed_var rfl) (by simp only [tyD]; decide +kernel)) (isi "list" false (ed_var rfl) (by simp only [tyD]; decide +kernel)) rd_neB)) rfl ?_)
    refine sq_assoc (sq_ifF (b := false) (et_eq (et_test (ed_op (ed_cb (ea_cons (ed_var rfl) ea_nil) rc_lenT) (ed_cb (ea_cons (ed_var rfl) ea_nil) rc_lenT) rd_neI)) (by rw [decide_eq_true rfl]; rfl)) rfl ?_)
    refine sq_assoc (sd_seq (fun e => ∃ κ, e = [.d (.t xs), .d (.t xs), κ]) ?_ ?_)
    · refine sd_for (src_rng (ea_cons (ed_cb (ea_cons (ed_var rfl) ea_nil) rc_lenT) ea_nil) hs.1) (fun i e => ∃ κ, e = [.d (.t xs), .d (.t xs), κ]) ⟨_, rfl⟩ (fun i d e hdi he => ?_) (fun e he => he)
      obtain ⟨κ, rfl⟩ := he
      have hi : i < xs.length := by
        have := (List.getElem?_eq_some_iff.mp hdi).1
        simpa [rngD] using this
      have ed : d = .i (i : Int) := by
        unfold rngD at hdi
        rw [List.getElem?_map, List.getElem?_range hi] at hdi
        exact (Option.some.inj hdi).symm
      subst ed
      have hx := List.getElem?_eq_getElem hi
      have hdx : dD (.t xs) = dDs xs + 1 := rfl
      have h1 := dDs_get hx
      refine ⟨_, gd_name, ?_⟩
      refine sd_if (et_not (et_B (ed_call (ea_cons (ed_op (ed_var rfl) (ed_var rfl) (rd_ixQt (atI_nat hx))) (ea_cons (ed_op (ed_var rfl) (ed_var rfl) (rd_ixQt (atI_nat hx))) ea_nil)) ⟨xs[i], by omega, smDs_get hs.2 hx, rfl, rfl⟩))) (fun h => by cases h) (fun _ => sd_next ⟨_, rfl⟩)
    · rintro e ⟨κ, rfl⟩
      exact sq_ret ed_bl rfl
  | l xs =>
    refine sq_ifT (et_or (et_B (isi "tuple" false (ed_var rfl) (by simp only [tyD]; decide +kernel))) fun _ => et_B (isi "list" true (ed_var rfl) (by simp only [tyD]; decide +kernel))) rfl ?_
    refine sq_assoc (sq_ifF (et_or (et_test (ed_op (isi "tuple" false (ed_var rfl) (by simp only [tyD]; decide +kernel)) (isi "tuple" false (ed_var rfl) (by simp only [tyD]; decide +kernel)) rd_neB)) fun _ => et_test (ed_op (isi "list" true (ed_var rfl) (by simp only [tyD]; decide +kernel)) (isi "list" true (ed_var rfl) (by simp only [tyD]; decide +kernel)) rd_neB)) rfl ?_)
    refine sq_assoc (sq_ifF (b := false) (et_eq (et_test (ed_op (ed_cb (ea_cons (ed_var rfl) ea_nil) rc_lenL) (ed_cb (ea_cons (ed_var rfl) ea_nil) rc_lenL) rd_neI)) (by rw [decide_eq_true rfl]; rfl)) rfl ?_)
    refine sq_assoc (sd_seq (fun e => ∃ κ, e = [.d (.l xs), .d (.l xs), κ]) ?_ ?_)
    · refine sd_for (src_rng (ea_cons (ed_cb (ea_cons (ed_var rfl) ea_nil) rc_lenL) ea_nil) hs.1) (fun i e => ∃ κ, e = [.d (.l xs), .d (.l xs), κ]) ⟨_, rfl⟩ (fun i d e hdi he => ?_) (fun e he => he)
      obtain ⟨κ, rfl⟩ := he
      have hi : i < xs.length := by
        have := (List.getElem?_eq_some_iff.mp hdi).1
        simpa [rngD] using this
      have ed : d = .i (i : Int) := by
        unfold rngD at hdi
        rw [List.getElem?_map, List.getElem?_range hi] at hdi
        exact (Option.some.inj hdi).symm
      subst ed
      have hx := List.getElem?_eq_getElem hi
      have hdx : dD (.l xs) = dDs xs + 1 := rfl
      have h1 := dDs_get hx
      refine ⟨_, gd_name, ?_⟩
      refine sd_if (et_not (et_B (ed_call (ea_cons (ed_op (ed_var rfl) (ed_var rfl) (rd_ixQl (atI_nat hx))) (ea_cons (ed_op (ed_var rfl) (ed_var rfl) (rd_ixQl (atI_nat hx))) ea_nil)) ⟨xs[i], by omega, smDs_get hs.2 hx, rfl, rfl⟩))) (fun h => by cases h) (fun _ => sd_next ⟨_, rfl⟩)
    · rintro e ⟨κ, rfl⟩
      exact sq_ret ed_bl rfl
theorem k__law_same (F : Facts K mg) : ∀ n : Nat, C8.Cal P w K mg base (n + 1) "_law_same" (spR (R_same n)) []
  | 0 => same_step F 0 (F._law_same.cal fun f fd hf => by
      have no : ∀ vs H Q E, ¬ spR (R_same' 0) vs H Q E := fun vs H Q E h => by
        obtain ⟨_, _, _, _, _, ⟨t, h1, _⟩, _⟩ := h
        omega
      exact ⟨fun vs H Q E h => absurd h (no vs H Q E), fun A outer s H args us vs Q E _ _ _ _ h => absurd h (no vs H Q E)⟩)
  | n + 1 => same_step F (n + 1) (by
      obtain ⟨f, fd, ps, ds, G, r⟩ := (k__law_same F n).ex
      refine ⟨f, fd, ps, ds, (G.imp fun vs H Q E h => ?_), r⟩
      obtain ⟨S, ds, d, dm, is, ⟨x, h1, h2, h3, h4⟩, q⟩ := h
      exact ⟨S, ds, d, dm, is, ⟨x, by omega, h2, h3, h4⟩, q⟩)
/-- the pool is made: a new list of a new list of the script's numbers and five numbers -/
def spPool (K : PySem.W.Frag) : Sp := fun vs H Q _ => ∃ (a : Addr) (ns : List Int) (b : Int), vs = [.ref a, .int b] ∧ SqL K H a (ns.map V.int) ∧ ∀ p q H', Same H H' → H p = none → H q = none → p ≠ q → H' p = some (poolL q 0 0 1 0 b) → H' q = some (.lst (ns.map V.int)) → Q (.ref p) H'
theorem k__law_pool (F : Facts K mg) : C8.Cal P w K mg base 1 "_law_pool" (spPool K) [] := by
  refine F._law_pool.cal fun f fd hf => hf.ok sc__law_pool (fun vs H Q E h => ?_) (fun cdv A outer s H vs Q E hr h => ⟨_, (pss_one (ps_ret (pe_lst (pa_cons (pe_callTy (Nz.cLst K) rfl F.b_list Nz.boot_list (pa_cons (pv 0) pa_nil)) (pa_cons pe_int (pa_cons pe_int (pa_cons pe_int (pa_cons pe_int (pa_cons (pv 1) pa_nil))))))))), ?_⟩)
  · obtain ⟨a, ns, b, rfl, _⟩ := h
    rfl
  obtain ⟨a, ns, b, rfl, hS, k⟩ := h
  refine ⟨_, rfl, a, _, rfl, .inl hS, fun q hq => ?_⟩
  refine ⟨_, rfl, (by show 6 ≤ sizeLine; decide), fun p hp => ?_⟩
  have ne : p ≠ q := fun z => by
    rw [z, upd_same] at hp
    cases hp
  have hp0 : H p = none := by
    rw [upd_ne ne] at hp
    exact hp
  exact k p q _ ((Same.new hq).trans (Same.new hp)) hp0 hq ne upd_same (by rw [upd_ne (fun z => ne z.symm), upd_same])
end
end Nz
namespace Nz
open PySem L2
theorem kids_le {h : Hd} {n : Nat} (ok : okH h n) : n ≤ 5 := by
  cases h with
  | var x => have : n = 0 := ok; omega
  | num x => have : n = 0 := ok; omega
  | mk c xs => have := ok.1; omega
  | hole => have : n = 0 := ok; omega
  | fn x => have : n = 1 := ok; omega
  | call x => have : n = 1 := ok; omega
  | lets xs => have := ok.1; have := ok.2; omega
  | case rs => have := ok.1; have := ok.2.1; omega
  | op w =>
    have e : ∀ p ∈ arities, p.2 ≤ 5 := by decide
    exact e _ ok
theorem prs_fst {t : Tm} (w : Wf t) : (prs t).map (fun p => p.1) = kids t := by
  cases t with
  | nd h ks =>
    show (ks.zip (binds h ks.length)).map (fun p => p.1) = ks
    exact List.map_fst_zip (by rw [binds_len w.1]; exact Nat.le_refl _)
theorem kids_wf {t : Tm} (w : Wf t) {k : Tm} (m : k ∈ kids t) : Wf k := by
  cases t with
  | nd h ks => exact wfs_all.mp w.2 k m
theorem kids_len {t : Tm} (w : Wf t) : (kids t).length ≤ 5 := by
  cases t with
  | nd h ks => exact kids_le w.1
theorem dep_kids (t : Tm) : dep t = deps (kids t) + 1 := by
  cases t
  rfl
theorem sz_kids (t : Tm) : sz t = szs (kids t) + 1 := by
  cases t
  rfl
theorem deps_app : ∀ (a b : List Tm), deps (a ++ b) = max (deps a) (deps b)
  | [], b => (Nat.zero_max _).symm
  | k :: r, b => by
    show max (dep k) (deps (r ++ b)) = max (max (dep k) (deps r)) (deps b)
    rw [deps_app r b, Nat.max_assoc]
theorem szs_app : ∀ (a b : List Tm), szs (a ++ b) = szs a + szs b
  | [], b => (Nat.zero_add _).symm
  | k :: r, b => by
    show sz k + szs (r ++ b) = sz k + szs r + szs b
    rw [szs_app r b, Nat.add_assoc]
/-- the parts of all of them -/
def under (l : List Tm) : List Tm := (l.map kids).flatten
theorem deps_under : ∀ {l : List Tm}, l ≠ [] → deps (under l) + 1 = deps l
  | [k], _ => by
    show deps (kids k ++ []) + 1 = max (dep k) 0
    rw [List.append_nil, ← dep_kids, Nat.max_zero]
  | k :: a :: r, _ => by
    have ih := deps_under (l := a :: r) (by simp)
    show deps (kids k ++ under (a :: r)) + 1 = max (dep k) (deps (a :: r))
    rw [deps_app, dep_kids, ← ih]
    omega
theorem szs_under : ∀ (l : List Tm), szs l = l.length + szs (under l)
  | [] => rfl
  | k :: r => by
    show sz k + szs r = (r.length + 1) + szs (kids k ++ under r)
    rw [szs_app, szs_under r, sz_kids]
    omega
def lvs : Nat → List Tm → List (List Tm)
  | 0, _ => []
  | _ + 1, [] => []
  | n + 1, k :: r => (k :: r) :: lvs n (under (k :: r))
theorem lvs_nil : ∀ n, lvs n [] = []
  | 0 => rfl
  | _ + 1 => rfl
theorem lvs_cons {n : Nat} {l : List Tm} (h : l ≠ []) : lvs (n + 1) l = l :: lvs n (under l) := by
  cases l with
  | nil => exact absurd rfl h
  | cons k r => rfl
theorem deps_pos {l : List Tm} (h : l ≠ []) : 1 ≤ deps l := by
  rw [← deps_under h]
  omega
theorem lvs_len : ∀ (n : Nat) (l : List Tm), deps l ≤ n → (lvs n l).length = deps l
  | 0, l, h => by
    by_cases c : l = []
    · subst c
      rfl
    · have := deps_pos c
      omega
  | n + 1, l, h => by
    by_cases c : l = []
    · subst c
      rfl
    · have := deps_under c
      rw [lvs_cons c, List.length_cons, lvs_len n (under l) (by omega)]
      exact this
theorem lvs_sum : ∀ (n : Nat) (l : List Tm), deps l ≤ n → ((lvs n l).map fun l => (l.length : Int)).sum = (szs l : Int)
  | 0, l, h => by
    by_cases c : l = []
    · subst c
      rfl
    · have := deps_pos c
      omega
  | n + 1, l, h => by
    by_cases c : l = []
    · subst c
      rfl
    · have := deps_under c
      rw [lvs_cons c, List.map_cons, List.sum_cons, lvs_sum n (under l) (by omega), szs_under l]
      omega
theorem wf_under {l : List Tm} (h : ∀ k ∈ l, Wf k) : ∀ k ∈ under l, Wf k := fun k m => by
  obtain ⟨ks, m1, m2⟩ := List.mem_flatten.mp m
  obtain ⟨t, m3, rfl⟩ := List.mem_map.mp m1
  exact kids_wf (h t m3) m2
theorem len_szs : ∀ (l : List Tm), l.length ≤ szs l
  | [] => Nat.le_refl _
  | k :: r => by
    have := len_szs r
    have : 1 ≤ sz k := by rw [sz_kids]; omega
    show r.length + 1 ≤ sz k + szs r
    omega
section
variable {P : Program} {w : World} {K : PySem.W.Frag} {mg : Str → Option Value} {base : Heap}
def R_bare (ds xs : List D) : Prop := ∃ t, Wf t ∧ ds = [enc t] ∧ xs = (kids t).map enc
theorem k_bare_parts (F : Facts K mg) : C8.Cal P w K mg base 2 "bare_parts" (spL R_bare) [] := by
  have c_parts := k_parts (P := P) (w := w) (base := base) F
  refine F.bare_parts.L sc_bare_parts (by decide) (fun ds d h => ?_) (fun f cdv A outer s H E hr => ⟨_, (pss_one (ps_ret (pe_lc (own := [("pair", 1)]) (g := (gName 1)) rfl sc_bare_parts.nd (Nz.piL K (C8.pe_c c_parts hr (by first | decide | omega) rfl (pa_cons (pv 0) pa_nil))) (blkOk_by (own := [("pair", 1)]) (N := n_bare_parts) (sc := defScope s_bare_parts) (by decide +kernel)) (fun _ _ _ _ _ => (pg_name (i := 1) sc_bare_parts.nd rfl (Or.inl rfl))) (fun _ _ _ _ _ => pts_nil) (fun _ _ _ _ _ => (pe_ix (Nz.ixT K) (pv 1) pe_int (fun _ _ => rfl)))))), fun ds d h => ?_⟩)
  · obtain ⟨t, _, rfl, _⟩ := h
    rfl
  obtain ⟨t, hw, rfl, rfl⟩ := h
  have hl : (prs t).length ≤ 1000 := by
    rw [← List.length_map (f := fun p : Tm × List Str => p.1), prs_fst hw]
    exact Nat.le_trans (kids_len hw) (by decide)
  refine sd_retL (el_lcM (vs := [1]) (prs t) prD (fun p => enc p.1) (small4 hl) rfl (src_list (EL.toD (el_call (ea_cons (ed_var rfl) ea_nil) ⟨t, hw, rfl, rfl⟩))) fun p hp => ⟨_, gw_name rfl, ed_op (ed_var rfl) ed_int rd_ixT0⟩) ?_
  show _ = _
  rw [← prs_fst hw, List.map_map]
  rfl
abbrev lvD (l : List Tm) : D := .l (l.map enc)
def R_levels (ds xs : List D) : Prop := ∃ t, Wf t ∧ sz t ≤ 100000 ∧ dep t ≤ 300 ∧ ds = [enc t] ∧ xs = (lvs (dep t) [t]).map lvD
theorem k_levels (F : Facts K mg) : C8.Cal P w K mg base 3 "levels" (spL R_levels) [] := by
  have c_bare_parts := k_bare_parts (P := P) (w := w) (base := base) F
  refine F.levels.L sc_levels (by decide) (fun ds d h => ?_) (fun f cdv A outer s H E hr => ⟨_, (pss_cons (ps_set (i := 1) sc_levels.nd rfl (Or.inl rfl) (pe_lst pa_nil))
    (pss_cons (ps_set (i := 2) sc_levels.nd rfl (Or.inl rfl) (pe_lst (pa_cons (pv 0) pa_nil)))
    (pss_cons (ps_while PassesOwn.never (Nz.ptTru K (pv 2)) (pss_cons (ps_expr (pe_bm PySem.F.plainAttrs_list PySem.F.slot_list_append PySem.F.type_list_append mt_append (pv 1) (pa_cons (pv 2) pa_nil)))
    (pss_one (ps_setLc2 (i := 2) (own := [("part", 3), ("inner", 4)]) (vs1 := [4]) (g := (gName 3)) (g1 := (gName 4)) rfl sc_levels.nd rfl rfl (sw_true rfl rfl rfl (by decide +kernel)) (Nz.piL K (pv 2)) (blkOk_by (own := [("part", 3), ("inner", 4)]) (N := n_levels) (sc := defScope s_levels) (by decide +kernel)) (by decide) (fun _ _ _ _ _ => (pg_name (i := 3) sc_levels.nd rfl (Or.inl rfl))) (fun _ _ _ _ _ => pts_nil) (fun _ _ _ _ _ => (Nz.piL K (C8.pe_c c_bare_parts hr (by first | decide | omega) rfl (pa_cons (pv 3) pa_nil)))) (fun _ _ _ _ _ => (pg_name (i := 4) sc_levels.nd rfl (Or.inl rfl))) (fun _ _ _ _ _ => pts_nil) (fun _ _ _ _ _ => (pv 4))))))
    (pss_one (ps_ret (pv 1)))))), fun ds d h => ?_⟩)
  · obtain ⟨t, _, _, _, rfl, _⟩ := h
    rfl
  obtain ⟨t, hw, hz, hd, rfl, rfl⟩ := h
  have d1 : deps [t] = dep t := Nat.max_zero _
  have z1 : szs [t] = sz t := Nat.add_zero _
  refine sq_setO (el_lst ea_nil (Nat.zero_le _)) ?_
  refine sq_set (EL.toD (el_lst (ea_cons (ed_var rfl) ea_nil) (short_size rfl))) ?_
  refine sq_whileM (fun m e => ∃ (done : List (List Tm)) (l : List Tm), e = [.d (enc t), .o (.l (done.map lvD)), .d (.l (l.map enc)), .no, .no] ∧ done ++ lvs m l = lvs (dep t) [t] ∧ deps l ≤ m ∧ (∀ k ∈ l, Wf k) ∧ szs l ≤ sz t) (dep t) ⟨[], [t], rfl, rfl, by omega, fun k m => by cases List.mem_singleton.mp m; exact hw, by omega⟩ (fun e => ∃ κ2, e = [.d (enc t), .o (.l ((lvs (dep t) [t]).map lvD)), κ2, .no, .no]) (fun m e he => ?_) (fun e he => ?_)
  · obtain ⟨done, l, rfl, h1, h2, h3, h4⟩ := he
    refine ⟨_, et_truL (ED.toX (ed_var rfl)), fun hb => ?_, fun hb => ?_⟩
    · have ne : l ≠ [] := fun z => by
        subst z
        cases hb
      have dp := deps_under ne
      have sp := szs_under l
      have dl : done.length ≤ 300 := by
        have e := congrArg List.length h1
        rw [List.length_append, lvs_len _ _ h2, lvs_len _ _ (by omega), d1] at e
        omega
      have le : l.length ≤ 100000 := by
        have := len_szs l
        omega
      have lu : (under l).length ≤ 100000 := by
        have := len_szs (under l)
        omega
      obtain ⟨m', rfl⟩ : ∃ m', m = m' + 1 := ⟨m - 1, by have := deps_pos ne; omega⟩
      refine sq_app rfl (ed_var rfl) (by rw [List.length_map]; exact Nat.lt_of_le_of_lt dl (by decide)) ?_
      refine sd_set (EL.toD (el_lc2 (vs := [3, 4]) (vs1 := [4]) l enc kids enc enc (Nat.le_trans lu (by decide)) rfl (src_list (ed_var rfl)).c fun k hk => ⟨_, gw_name2 (by decide) rfl, rfl, src_list (EL.toD (el_call (ea_cons (ed_var rfl) ea_nil) ⟨k, h3 k hk, rfl, rfl⟩)), fun y hy => ⟨_, gw_name rfl, ed_var rfl⟩⟩)) ?_
      refine ⟨m', Nat.lt_succ_self _, done ++ [l], under l, ?_, ?_, by omega, wf_under h3, by omega⟩
      · rw [List.map_append]
        rfl
      · rw [List.append_assoc, ← h1, lvs_cons ne]
        rfl
    · have e : l = [] := by
        cases l with
        | nil => rfl
        | cons _ _ => cases hb
      subst e
      rw [lvs_nil, List.append_nil] at h1
      exact ⟨_, by rw [h1]⟩
  · obtain ⟨κ2, rfl⟩ := he
    exact sd_retO rfl rfl
def R_size (ds : List D) (d : D) : Prop := ∃ t, Wf t ∧ sz t ≤ 100000 ∧ dep t ≤ 300 ∧ ds = [enc t] ∧ d = .i (sz t : Int)
theorem k_size (F : Facts K mg) : C8.Cal P w K mg base 4 "size" (spR R_size) [] := by
  have c_levels := k_levels (P := P) (w := w) (base := base) F
  refine F.size.R sc_size (by decide) (fun ds d h => ?_) (fun f cdv A outer s H E hr => ⟨_, (pss_one (ps_ret (pe_callB (Nz.cSum (K := K) rfl) rfl F.b_sum Nz.boot_sum (pa_cons (pe_lc (own := [("level", 1)]) (g := (gName 1)) rfl sc_size.nd (Nz.piL K (C8.pe_c c_levels hr (by first | decide | omega) rfl (pa_cons (pv 0) pa_nil))) (blkOk_by (own := [("level", 1)]) (N := n_size) (sc := defScope s_size) (by decide +kernel)) (fun _ _ _ _ _ => (pg_name (i := 1) sc_size.nd rfl (Or.inl rfl))) (fun _ _ _ _ _ => pts_nil) (fun _ _ _ _ _ => (pe_callB (Nz.cLen K) rfl F.b_len Nz.boot_len (pa_cons (pv 1) pa_nil)))) pa_nil)))), fun ds d h => ?_⟩)
  · obtain ⟨t, _, _, _, rfl, _⟩ := h
    rfl
  obtain ⟨t, hw, hz, hd, rfl, rfl⟩ := h
  have d1 : deps [t] = dep t := Nat.max_zero _
  have z1 : szs [t] = sz t := Nat.add_zero _
  have q := lvs_sum (dep t) [t] (by omega)
  rw [z1] at q
  refine sd_ret (ed_cb (ea_cons (ed_eq (y := .l (((lvs (dep t) [t]).map fun l => (l.length : Int)).map D.i)) (EL.toD (el_lcM (vs := [1]) (lvs (dep t) [t]) lvD (fun l => .i (l.length : Int)) ?_ rfl (src_list (EL.toD (el_call (ea_cons (ed_var rfl) ea_nil) ⟨t, hw, hz, hd, rfl, rfl⟩))) fun l hl => ⟨_, gw_name rfl, ed_eq (ed_cb (ea_cons (ed_var rfl) ea_nil) rc_lenL) (by rw [List.length_map])⟩)) (by rw [List.map_map]; rfl)) ea_nil) rc_sum) (by rw [q])
  rw [lvs_len _ _ (by omega), d1]
  exact small4 (by omega)
def R_depth (ds : List D) (d : D) : Prop := ∃ t, Wf t ∧ sz t ≤ 100000 ∧ dep t ≤ 300 ∧ ds = [enc t] ∧ d = .i (dep t : Int)
theorem k_depth (F : Facts K mg) : C8.Cal P w K mg base 4 "depth" (spR R_depth) [] := by
  have c_levels := k_levels (P := P) (w := w) (base := base) F
  refine F.depth.R sc_depth (by decide) (fun ds d h => ?_) (fun f cdv A outer s H E hr => ⟨_, (pss_one (ps_ret (pe_callB (Nz.cLen K) rfl F.b_len Nz.boot_len (pa_cons (C8.pe_c c_levels hr (by first | decide | omega) rfl (pa_cons (pv 0) pa_nil)) pa_nil)))), fun ds d h => ?_⟩)
  · obtain ⟨t, _, _, _, rfl, _⟩ := h
    rfl
  obtain ⟨t, hw, hz, hd, rfl, rfl⟩ := h
  have d1 : deps [t] = dep t := Nat.max_zero _
  exact sd_ret (ed_cb (ea_cons (EL.toD (el_call (ea_cons (ed_var rfl) ea_nil) ⟨t, hw, hz, hd, rfl, rfl⟩)) ea_nil) rc_lenL) (by rw [List.length_map, lvs_len _ _ (by omega), d1])
end
end Nz
namespace Nz
open PySem L2
abbrev natD (k : Nat) : D := .i (k : Int)
theorem take_snoc {α : Type} {l : List α} {i : Nat} {a : α} (h : l[i]? = some a) : l.take (i + 1) = l.take i ++ [a] := by
  rw [List.take_succ, h]
  rfl
theorem snoc_of {α : Type} {l : List α} (h : l ≠ []) : ∃ r a, l = r ++ [a] := by
  rcases List.eq_nil_or_concat l with rfl | ⟨r, a, rfl⟩
  · exact absurd rfl h
  · exact ⟨r, a, by simp⟩
theorem map_at {α : Type} {f : α → D} {l : List α} {i : Nat} {d : D} (h : (l.map f)[i]? = some d) : ∃ a, l[i]? = some a ∧ d = f a := by
  rw [List.getElem?_map] at h
  cases e : l[i]? with
  | none =>
    rw [e] at h
    cases h
  | some a =>
    rw [e] at h
    exact ⟨a, rfl, (Option.some.inj h).symm⟩
/-! ### places -/
mutual
def plc : Tm → List (List Nat)
  | .nd _ ks => [] :: plcs 0 ks
def plcs : Nat → List Tm → List (List Nat)
  | _, [] => []
  | i, k :: r => (plc k).map (fun p => i :: p) ++ plcs (i + 1) r
end
mutual
/-- all places with the parts at them, in order -/
def loc : Tm → List (List Nat × Tm)
  | .nd h ks => ([], .nd h ks) :: locs 0 ks
def locs : Nat → List Tm → List (List Nat × Tm)
  | _, [] => []
  | i, k :: r => (loc k).map (fun q => (i :: q.1, q.2)) ++ locs (i + 1) r
end
mutual
theorem loc_plc : ∀ t : Tm, (loc t).map (·.1) = plc t
  | .nd h ks => by
    show [] :: (locs 0 ks).map (·.1) = [] :: plcs 0 ks
    rw [locs_plcs 0 ks]
theorem locs_plcs : ∀ (i : Nat) (ks : List Tm), (locs i ks).map (·.1) = plcs i ks
  | _, [] => rfl
  | i, k :: r => by
    show ((loc k).map (fun q => (i :: q.1, q.2)) ++ locs (i + 1) r).map (·.1) = (plc k).map (fun p => i :: p) ++ plcs (i + 1) r
    rw [List.map_append, locs_plcs (i + 1) r, ← loc_plc k, List.map_map, List.map_map]
    rfl
end
mutual
theorem loc_len : ∀ t : Tm, (loc t).length = sz t
  | .nd h ks => by
    show (locs 0 ks).length + 1 = szs ks + 1
    rw [locs_len 0 ks]
theorem locs_len : ∀ (i : Nat) (ks : List Tm), (locs i ks).length = szs ks
  | _, [] => rfl
  | i, k :: r => by
    show ((loc k).map (fun q => (i :: q.1, q.2)) ++ locs (i + 1) r).length = sz k + szs r
    rw [List.length_append, List.length_map, loc_len k, locs_len (i + 1) r]
end
def wq (q : List Nat × Tm) : List (List Nat × Tm) := (loc q.2).map fun z => (q.1 ++ z.1, z.2)
def chs (p : List Nat) : Nat → List Tm → List (List Nat × Tm)
  | _, [] => []
  | i, k :: r => (p ++ [i], k) :: chs p (i + 1) r
theorem chs_get {p : List Nat} : ∀ {ks : List Tm} {i j : Nat} {k : Tm}, ks[j]? = some k → (chs p i ks)[j]? = some (p ++ [i + j], k)
  | _ :: _, i, 0, k, h => by
    cases h
    rfl
  | _ :: r, i, j + 1, k, h => by
    have := chs_get (p := p) (ks := r) (i := i + 1) (j := j) (k := k) h
    show (chs p (i + 1) r)[j]? = _
    rw [this, show i + 1 + j = i + (j + 1) by omega]
theorem chs_len {p : List Nat} : ∀ {ks : List Tm} {i : Nat}, (chs p i ks).length = ks.length
  | [], _ => rfl
  | _ :: r, i => by
    show (chs p (i + 1) r).length + 1 = _
    rw [chs_len]
    rfl
theorem chs_rng {p : List Nat} {ks : List Tm} {u : Tm} : chs p 0 ks = (List.range ks.length).map fun j => (p ++ [j], ks.getD j u) := by
  refine List.ext_getElem? fun j => ?_
  by_cases h : j < ks.length
  · rw [chs_get (List.getElem?_eq_getElem h), List.getElem?_map, List.getElem?_range h, Nat.zero_add]
    show _ = some (p ++ [j], ks.getD j u)
    rw [List.getD_eq_getElem?_getD, List.getElem?_eq_getElem h]
    rfl
  · rw [List.getElem?_eq_none (by rw [chs_len]; omega), List.getElem?_eq_none (by simpa using h)]
theorem chs_wq {p : List Nat} : ∀ {ks : List Tm} {i : Nat}, ((chs p i ks).map wq).flatten = (locs i ks).map fun r => (p ++ r.1, r.2)
  | [], _ => rfl
  | k :: r, i => by
    show wq (p ++ [i], k) ++ ((chs p (i + 1) r).map wq).flatten = ((loc k).map (fun q => (i :: q.1, q.2)) ++ locs (i + 1) r).map fun r => (p ++ r.1, r.2)
    rw [chs_wq, List.map_append, List.map_map]
    congr 1
    show (loc k).map (fun q => ((p ++ [i]) ++ q.1, q.2)) = _
    congr 1
    funext q
    simp
def szq (l : List (List Nat × Tm)) : Nat := (l.map fun q => sz q.2).sum
theorem szq_app (a b : List (List Nat × Tm)) : szq (a ++ b) = szq a + szq b := by
  unfold szq
  rw [List.map_append, List.sum_append]
theorem szq_rev (a : List (List Nat × Tm)) : szq a.reverse = szq a := by
  unfold szq
  rw [List.map_reverse, List.sum_reverse]
theorem szq_chs {p : List Nat} : ∀ {ks : List Tm} {i : Nat}, szq (chs p i ks) = szs ks
  | [], _ => rfl
  | k :: r, i => by
    have := szq_chs (p := p) (ks := r) (i := i + 1)
    unfold szq at this ⊢
    show sz k + ((chs p (i + 1) r).map fun q => sz q.2).sum = sz k + szs r
    rw [this]
theorem szq_len : ∀ (l : List (List Nat × Tm)), l.length ≤ szq l
  | [] => Nat.le_refl _
  | q :: r => by
    have h := szq_len r
    have h1 : 1 ≤ sz q.2 := by rw [sz_kids]; omega
    unfold szq at h ⊢
    show r.length + 1 ≤ sz q.2 + (r.map fun q => sz q.2).sum
    omega
theorem chs_mem {p : List Nat} : ∀ {ks : List Tm} {i : Nat} {q : List Nat × Tm}, q ∈ chs p i ks → q.2 ∈ ks ∧ q.1.length = p.length + 1
  | k :: r, i, q, m => by
    rcases List.mem_cons.mp m with rfl | m
    · exact ⟨List.mem_cons_self .., by simp⟩
    · have := chs_mem (ks := r) (i := i + 1) m
      exact ⟨List.mem_cons_of_mem _ this.1, this.2⟩
abbrev stD (q : List Nat × Tm) : D := .t [.t (q.1.map natD), enc q.2]
theorem dep_mem {ks : List Tm} {k : Tm} (m : k ∈ ks) : dep k ≤ deps ks := deps_le.mp (Nat.le_refl _) k m
/-- a range from lo on, from its end -/
theorem src_revRng2 {ta te : TE} {es : Es} {lo n : Nat} (h1 : ED ta es (.i (lo : Int))) (h : ED te es (.i (n : Int))) (hn : n ≤ 1000000) (hl : lo ≤ 1000000) : Src (iRevR (tRg2 ta te)) es (((List.range n).drop lo).reverse.map natD) := fun S A B H σ E R r => h1 S A B H σ E _ fun v1 H1 e1 i1 => h S A B H1 σ (E.mono e1) _ fun v H2 e i => by
  cases i; cases i1
  refine ⟨(lo : Int), (n : Int), rfl, rfl, by omega, by omega, by omega, by omega, ?_⟩
  have e2 : ((n : Int) - (lo : Int)).toNat = n - lo := by omega
  rw [e2]
  refine r _ H2 (((List.range n).drop lo).reverse.map fun (k : Nat) => V.int (k : Int)) [] (e1.trans e) (fun p hp => by cases hp) ⟨fun j H3 g hj => ?_, fun j H3 x H4 g hj y => ?_, fun j H3 g hj => ?_⟩ (isDs_rng _)
  · show j < n - lo
    simpa using hj
  · have hj' : j < n - lo := by simpa using hj
    refine ⟨y.1, ?_⟩
    rw [y.2, List.getElem?_map, List.getElem?_reverse (by simpa using hj'), List.length_drop, List.length_range, List.getElem?_drop, List.getElem?_range (by omega)]
    show some (V.int ((lo + (n - lo - 1 - j) : Nat) : Int)) = some (V.int ((lo : Int) + ((n - lo : Nat) : Int) - 1 + (j : Int) * -1))
    congr 2
    omega
  · show n - lo ≤ j
    simpa using hj
section
variable {P : Program} {w : World} {K : PySem.W.Frag} {mg : Str → Option Value} {base : Heap}
abbrev plD (p : List Nat) : D := .t (p.map natD)
def R_below (ds xs : List D) : Prop := ∃ (p : List Nat) (t : Tm) (lo : Nat), Wf t ∧ p.length ≤ 900 ∧ lo ≤ 1000 ∧ ds = [plD p, enc t, natD lo] ∧ xs = ((chs p 0 (kids t)).drop lo).reverse.map stD
theorem k_parts_below (F : Facts K mg) : C8.Cal P w K mg base 3 "parts_below" (spL R_below) [] := by
  have c_bare_parts := k_bare_parts (P := P) (w := w) (base := base) F
  refine F.parts_below.L sc_parts_below (by decide) (fun ds d h => ?_) (fun f cdv A outer s H E hr => ⟨_, (pss_cons (ps_set (i := 3) sc_parts_below.nd rfl (Or.inr rfl) (C8.pe_c c_bare_parts hr (by first | decide | omega) rfl (pa_cons (pv 1) pa_nil)))
    (pss_one (ps_ret (pe_lc (own := [("k", 4)]) (g := (gName 4)) rfl sc_parts_below.nd (pi_revR rfl F.b_reversed (prg_2 rfl F.b_range (pv 2) (pe_callB (Nz.cLen K) rfl F.b_len Nz.boot_len (pa_cons (pv 3) pa_nil)))) (blkOk_by (own := [("k", 4)]) (N := n_parts_below) (sc := defScope s_parts_below) (by decide +kernel)) (fun _ _ _ _ _ => (pg_name (i := 4) sc_parts_below.nd rfl (Or.inl rfl))) (fun _ _ _ _ _ => pts_nil) (fun _ _ _ _ _ => (pe_tup (pa_cons (pe_op (Nz.catA K) (pv 0) (pe_tup (pa_cons (pv 4) pa_nil))) (pa_cons (pe_ix (Nz.ixL K) (pv 3) (pv 4) (fun _ _ => rfl)) pa_nil)))))))), fun ds d h => ?_⟩)
  · obtain ⟨p, t, lo, _, _, _, rfl, _⟩ := h
    rfl
  obtain ⟨p, t, lo, hw, hp, hlo, rfl, rfl⟩ := h
  have kl := kids_len hw
  refine sq_set (EL.toD (el_call (ea_cons (ed_var rfl) ea_nil) ⟨t, hw, rfl, rfl⟩)) ?_
  refine sd_retL (el_lcM (vs := [4]) ((List.range (kids t).length).drop lo).reverse natD (fun j => stD (p ++ [j], (kids t).getD j t)) (small4 (by simp; omega)) rfl (src_revRng2 (ed_var rfl) (ed_eq (ed_cb (ea_cons (ed_var rfl) ea_nil) rc_lenL) (by rw [List.length_map])) (by omega) (by omega)) fun j hj => ⟨_, gw_name rfl, ?_⟩) ?_
  · have hj2 : j < (kids t).length := List.mem_range.mp (List.mem_of_mem_drop (List.mem_reverse.mp hj))
    refine ed_tup (ea_cons (ed_eq (ed_op (ed_var rfl) (ed_tup (ea_cons (ed_var rfl) ea_nil) (short_size rfl)) (rd_catT (by rw [List.length_map]; exact small4 (by show p.length + 1 ≤ 1000; omega)))) (by rw [List.map_append]; rfl)) (ea_cons (ed_op (ed_var rfl) (ed_var rfl) (rd_ixL (atI_nat (by rw [List.getElem?_map, List.getElem?_eq_getElem hj2, List.getD_eq_getElem?_getD, List.getElem?_eq_getElem hj2]; rfl)))) ea_nil)) (short_size rfl)
  · show _ = _
    rw [chs_rng (u := t), List.map_drop.symm, List.map_reverse.symm, List.map_map]
    rfl
def R_located (ds xs : List D) : Prop := ∃ t, Wf t ∧ sz t ≤ 100000 ∧ dep t ≤ 300 ∧ ds = [enc t] ∧ xs = (loc t).map stD
theorem k_located (F : Facts K mg) : C8.Cal P w K mg base 4 "located" (spL R_located) [] := by
  have c_parts_below := k_parts_below (P := P) (w := w) (base := base) F
  refine F.located.L sc_located (by decide) (fun ds d h => ?_) (fun f cdv A outer s H E hr => ⟨_, (pss_cons (ps_set (i := 1) sc_located.nd rfl (Or.inl rfl) (pe_lst pa_nil))
    (pss_cons (ps_set (i := 2) sc_located.nd rfl (Or.inl rfl) (pe_lst (pa_cons (pe_tup (pa_cons (pe_tup pa_nil) (pa_cons (pv 0) pa_nil))) pa_nil)))
    (pss_cons (ps_while PassesOwn.never (Nz.ptTru K (pv 2)) (pss_cons (ps_asg (pe_bm0 PySem.F.plainAttrs_list PySem.F.slot_list_pop PySem.F.type_list_pop mt_pop (pv 2)) (pg_tup rfl (pgs_cons (pg_name (i := 3) sc_located.nd rfl (Or.inl rfl)) (pgs_cons (pg_name (i := 4) sc_located.nd rfl (Or.inl rfl)) pgs_nil))))
    (pss_cons (ps_expr (pe_bm PySem.F.plainAttrs_list PySem.F.slot_list_append PySem.F.type_list_append mt_append (pv 1) (pa_cons (pe_tup (pa_cons (pv 3) (pa_cons (pv 4) pa_nil))) pa_nil)))
    (pss_one (ps_expr (pe_bm PySem.F.plainAttrs_list PySem.F.slot_list_extend PySem.F.type_list_extend mt_extend (pv 2) (pa_cons (C8.pe_c c_parts_below hr (by first | decide | omega) rfl (pa_cons (pv 3) (pa_cons (pv 4) (pa_cons pe_int pa_nil)))) pa_nil)))))))
    (pss_one (ps_ret (pv 1)))))), fun ds d h => ?_⟩)
  · obtain ⟨t, _, _, _, rfl, _⟩ := h
    rfl
  obtain ⟨t, hw, hz, hd, rfl, rfl⟩ := h
  refine sq_setO (el_lst ea_nil (Nat.zero_le _)) ?_
  refine sq_setO (el_lst (ea_cons (ed_tup (ea_cons (ed_tup ea_nil (Nat.zero_le _)) (ea_cons (ed_var rfl) ea_nil)) (short_size rfl)) ea_nil) (short_size rfl)) ?_
  refine sq_whileM (fun m e => ∃ (done : List (List Nat × Tm)) (stk : List (List Nat × Tm)) (κ3 κ4 : Sl), e = [.d (enc t), .o (.l (done.map stD)), .o (.l (stk.map stD)), κ3, κ4] ∧ done ++ (stk.reverse.map wq).flatten = loc t ∧ szq stk = m ∧ done.length + m ≤ sz t ∧ ∀ q ∈ stk, Wf q.2 ∧ q.1.length + dep q.2 ≤ 300) (sz t)
    ⟨[], [([], t)], _, _, rfl, ?_, rfl, by simp, fun q m => by cases List.mem_singleton.mp m; exact ⟨hw, by simpa using hd⟩⟩ (fun e => ∃ κ2 κ3 κ4, e = [.d (enc t), .o (.l ((loc t).map stD)), κ2, κ3, κ4]) (fun m e he => ?_) (fun e he => ?_)
  · show [] ++ ((loc t).map (fun p => ([] ++ p.1, p.2)) ++ []) = loc t
    simp
  · obtain ⟨done, stk, κ3, κ4, rfl, h1, h2, h3, h4⟩ := he
    refine ⟨_, et_truL (ex_own rfl), fun hb => ?_, fun hb => ?_⟩
    · have ne : stk ≠ [] := fun z => by
        subst z
        cases hb
      obtain ⟨l, q, rfl⟩ := snoc_of ne
      obtain ⟨p, u⟩ := q
      have hq := h4 (p, u) (by simp)
      have hu : Wf u := hq.1
      have hpl : p.length + dep u ≤ 300 := hq.2
      have kl := kids_len hu
      rw [szq_app] at h2
      have h2' : szq l + sz u = m := h2
      have sk := sz_kids u
      have dk := dep_kids u
      have ll := szq_len l
      rw [List.map_append]
      refine sq_pop rfl (gd_tup (gds_cons gd_name (gds_cons gd_name gds_nil)) rfl) ?_
      refine sq_app rfl (ed_tup (ea_cons (ed_var rfl) (ea_cons (ed_var rfl) ea_nil)) (short_size rfl)) (by rw [List.length_map]; exact Nat.lt_of_le_of_lt (show _ ≤ 100000 by omega) (by decide)) ?_
      refine sd_ext rfl (EL.toD (el_call (ea_cons (ed_var rfl) (ea_cons (ed_var rfl) (ea_cons ed_int ea_nil))) ⟨p, u, 0, hu, by omega, by omega, rfl, rfl⟩)) ?_ ?_
      · rw [List.length_map, List.length_map, List.drop_zero, List.length_reverse, chs_len]
        exact Nat.le_trans (show _ ≤ 100010 by omega) (by decide)
      · refine ⟨szq l + szs (kids u), by omega, done ++ [(p, u)], l ++ (chs p 0 (kids u)).reverse, .d (plD p), .d (enc u), ?_, ?_, by rw [szq_app, szq_rev, szq_chs], by rw [List.length_append]; show done.length + 1 + _ ≤ _; omega, fun q m => ?_⟩
        · rw [List.drop_zero, List.map_append (l₁ := done), List.map_append (l₁ := l)]
          rfl
        · rw [← h1, List.append_assoc, List.reverse_append, List.reverse_reverse, List.map_append, List.flatten_append, chs_wq, List.reverse_append]
          cases u with
          | nd hh ks =>
            show done ++ ([(p, .nd hh ks)] ++ ((locs 0 ks).map (fun r => (p ++ r.1, r.2)) ++ _)) = done ++ (((([], .nd hh ks) :: locs 0 ks).map fun r => (p ++ r.1, r.2)) ++ _)
            rw [List.map_cons, List.append_nil]
            rfl
        · rcases List.mem_append.mp m with m | m
          · exact h4 q (by simp [m])
          · have c := chs_mem (List.mem_reverse.mp m)
            have := dep_mem c.1
            exact ⟨kids_wf hu c.1, by rw [c.2]; omega⟩
    · have e : stk = [] := by
        cases stk with
        | nil => rfl
        | cons _ _ => cases hb
      subst e
      have e2 : done = loc t := by
        rw [← h1]
        simp
      exact ⟨_, _, _, by rw [e2]⟩
  · obtain ⟨κ2, κ3, κ4, rfl⟩ := he
    exact sd_retO rfl rfl
def R_places (ds xs : List D) : Prop := ∃ t, Wf t ∧ sz t ≤ 100000 ∧ dep t ≤ 300 ∧ ds = [enc t] ∧ xs = (plc t).map plD
theorem k_places (F : Facts K mg) : C8.Cal P w K mg base 5 "places" (spL R_places) [] := by
  have c_located := k_located (P := P) (w := w) (base := base) F
  refine F.places.L sc_places (by decide) (fun ds d h => ?_) (fun f cdv A outer s H E hr => ⟨_, (pss_one (ps_ret (pe_lc (own := [("pair", 1)]) (g := (gName 1)) rfl sc_places.nd (Nz.piL K (C8.pe_c c_located hr (by first | decide | omega) rfl (pa_cons (pv 0) pa_nil))) (blkOk_by (own := [("pair", 1)]) (N := n_places) (sc := defScope s_places) (by decide +kernel)) (fun _ _ _ _ _ => (pg_name (i := 1) sc_places.nd rfl (Or.inl rfl))) (fun _ _ _ _ _ => pts_nil) (fun _ _ _ _ _ => (pe_ix (Nz.ixT K) (pv 1) pe_int (fun _ _ => rfl)))))), fun ds d h => ?_⟩)
  · obtain ⟨t, _, _, _, rfl, _⟩ := h
    rfl
  obtain ⟨t, hw, hz, hd, rfl, rfl⟩ := h
  refine sd_retL (el_lcM (vs := [1]) (loc t) stD (fun q => plD q.1) (by rw [loc_len]; exact Nat.le_trans hz (by decide)) rfl (src_list (EL.toD (el_call (ea_cons (ed_var rfl) ea_nil) ⟨t, hw, hz, hd, rfl, rfl⟩))) fun q hq => ⟨_, gw_name rfl, ed_op (ed_var rfl) ed_int rd_ixT0⟩) ?_
  show _ = _
  rw [← loc_plc, List.map_map]
  rfl
end
end Nz
namespace Nz
open PySem L2
theorem zip3 {α β γ : Type} : ∀ {xs : List α} {ms : List β} {ns : List γ}, ms.length = xs.length → ((xs.zip ms).zip ns).map (fun z => (z.1.1, z.2)) = xs.zip ns
  | [], [], _, _ => by simp
  | x :: xs, m :: ms, [], _ => by simp
  | x :: xs, m :: ms, n :: ns, h => by
    show (x, n) :: ((xs.zip ms).zip ns).map _ = (x, n) :: xs.zip ns
    rw [zip3 (by simpa using h)]
theorem cutD_drop (ds : List D) (i : Nat) : cutD ds (some (i : Int)) none = ds.drop i := by
  unfold cutD
  rw [HT.sIx_none, HT.sIx_nat]
  by_cases h : i ≤ ds.length
  · rw [Nat.min_eq_left h, List.take_of_length_le (by rw [List.length_drop]; exact Nat.le_refl _)]
  · rw [Nat.min_eq_right (by omega), List.drop_length, List.drop_of_length_le (by omega), List.take_nil]
/-! ### ways -/
def subI (t : Tm) (i : Int) : Option Tm := if 0 ≤ i then (kids t)[i.toNat]? else none
def wayR : Tm → List Int → Option (List Tm)
  | t, [] => some [t]
  | t, i :: r => (subI t i).bind fun u => (wayR u r).map fun l => t :: l
def stepW (acc : List Tm) (i : Int) : Option (List Tm) := acc.getLast?.bind fun u => (subI u i).map fun v => acc ++ [v]
theorem way_fold : ∀ (ps : List Int) (t : Tm) (acc : List Tm), ps.foldlM stepW (acc ++ [t]) = (wayR t ps).map fun l => acc ++ l
  | [], t, acc => rfl
  | i :: r, t, acc => by
    rw [List.foldlM_cons]
    show ((acc ++ [t]).getLast?.bind _ >>= _) = _
    rw [List.getLast?_append]
    show ((subI t i).map (fun v => acc ++ [t] ++ [v]) >>= _) = ((subI t i).bind fun u => (wayR u r).map fun l => t :: l).map _
    cases e : subI t i with
    | none => rfl
    | some v =>
      show List.foldlM stepW (acc ++ [t] ++ [v]) r = ((wayR v r).map fun l => t :: l).map _
      rw [way_fold r v (acc ++ [t]), Option.map_map]
      congr 1
      funext l
      simp
theorem way_is (ps : List Int) (t : Tm) : ps.foldlM stepW [t] = wayR t ps := by
  have := way_fold ps t []
  simpa using this
def partI (t : Tm) (ps : List Int) : Option Tm := ps.foldlM subI t
theorem way_last : ∀ (ps : List Int) (t : Tm), (wayR t ps).bind List.getLast? = partI t ps
  | [], t => rfl
  | i :: r, t => by
    unfold partI
    rw [List.foldlM_cons]
    show (((subI t i).bind fun u => (wayR u r).map fun l => t :: l)).bind List.getLast? = (subI t i).bind fun u => r.foldlM subI u
    cases subI t i with
    | none => rfl
    | some u =>
      have ih := way_last r u
      show ((wayR u r).map fun l => t :: l).bind List.getLast? = partI u r
      cases e : wayR u r with
      | none =>
        rw [e] at ih
        exact ih
      | some l =>
        rw [e] at ih
        show (t :: l).getLast? = _
        have ne : l ≠ [] := fun z => by
          subst z
          cases r with
          | nil => cases e
          | cons i r =>
            have e' : (subI u i).bind (fun v => (wayR v r).map fun l => u :: l) = some [] := e
            cases h1 : subI u i with
            | none =>
              rw [h1] at e'
              cases e'
            | some v =>
              rw [h1] at e'
              cases h2 : wayR v r with
              | none =>
                have e2 : (wayR v r).map (fun l => u :: l) = some [] := e'
                rw [h2] at e2
                cases e2
              | some l =>
                have e2 : (wayR v r).map (fun l => u :: l) = some [] := e'
                rw [h2] at e2
                cases e2
        rw [List.getLast?_cons_of_ne_nil ne]
        exact ih
theorem way_len : ∀ (ps : List Int) (t : Tm) (l : List Tm), wayR t ps = some l → l.length = ps.length + 1 ∧ l[0]? = some t
  | [], t, l, h => by
    cases h
    exact ⟨rfl, rfl⟩
  | i :: r, t, l, h => by
    have h' : (subI t i).bind (fun v => (wayR v r).map fun l => t :: l) = some l := h
    cases h1 : subI t i with
    | none =>
      rw [h1] at h'
      cases h'
    | some v =>
      rw [h1] at h'
      have h2' : (wayR v r).map (fun l => t :: l) = some l := h'
      cases h2 : wayR v r with
      | none =>
        rw [h2] at h2'
        cases h2'
      | some l' =>
        rw [h2] at h2'
        cases h2'
        have := way_len r v l' h2
        exact ⟨by rw [List.length_cons, this.1]; rfl, rfl⟩
/-- each of the way is a part of the one before -/
theorem way_step : ∀ (ps : List Int) (t : Tm) (l : List Tm), wayR t ps = some l → ∀ j i, ps[j]? = some i → ∃ u v, l[j]? = some u ∧ l[j + 1]? = some v ∧ subI u i = some v
  | i :: r, t, l, h, j, k, hj => by
    have h' : (subI t i).bind (fun v => (wayR v r).map fun l => t :: l) = some l := h
    cases h1 : subI t i with
    | none =>
      rw [h1] at h'
      cases h'
    | some v =>
      rw [h1] at h'
      have h2' : (wayR v r).map (fun l => t :: l) = some l := h'
      cases h2 : wayR v r with
      | none =>
        rw [h2] at h2'
        cases h2'
      | some l' =>
        rw [h2] at h2'
        cases h2'
        cases j with
        | zero =>
          cases hj
          exact ⟨t, v, rfl, (way_len r v l' h2).2, h1⟩
        | succ j => exact way_step r v l' h2 j k hj
theorem way_wf : ∀ (ps : List Int) (t : Tm) (l : List Tm), Wf t → wayR t ps = some l → ∀ u ∈ l, Wf u
  | [], t, l, w, h, u, m => by
    cases h
    cases List.mem_singleton.mp m
    exact w
  | i :: r, t, l, w, h, u, m => by
    have h' : (subI t i).bind (fun v => (wayR v r).map fun l => t :: l) = some l := h
    cases h1 : subI t i with
    | none =>
      rw [h1] at h'
      cases h'
    | some v =>
      rw [h1] at h'
      have h2' : (wayR v r).map (fun l => t :: l) = some l := h'
      cases h2 : wayR v r with
      | none =>
        rw [h2] at h2'
        cases h2'
      | some l' =>
        rw [h2] at h2'
        cases h2'
        rcases List.mem_cons.mp m with rfl | m
        · exact w
        · refine way_wf r v l' (kids_wf w (List.mem_of_getElem? (i := i.toNat) ?_)) h2 u m
          unfold subI at h1
          split at h1
          · exact h1
          · cases h1
/-- another part at a place -/
def putT : Tm → List Nat → Tm → Tm
  | _, [], o => o
  | .nd h ks, i :: r, o => match ks[i]? with
    | some k => .nd h (ks.set i (putT k r o))
    | none => .nd h ks
theorem putT_cons {h : Hd} {ks : List Tm} {i : Nat} {r : List Nat} {k o : Tm} (e : ks[i]? = some k) : putT (.nd h ks) (i :: r) o = .nd h (ks.set i (putT k r o)) := by
  show (match ks[i]? with | some k => Tm.nd h (ks.set i (putT k r o)) | none => .nd h ks) = _
  rw [e]
theorem subI_nat {t u : Tm} {i : Nat} : subI t (i : Int) = some u ↔ (kids t)[i]? = some u := by
  unfold subI
  rw [if_pos (Int.natCast_nonneg i)]
  rfl
section
variable {P : Program} {w : World} {K : PySem.W.Frag} {mg : Str → Option Value} {base : Heap}
def R_with (ds : List D) (d : D) : Prop := ∃ h ks ks', okH h ks.length ∧ ks'.length = ks.length ∧ ds = [enc (.nd h ks), .l (ks'.map enc)] ∧ d = enc (.nd h ks')
theorem k_with_parts (F : Facts K mg) : C8.Cal P w K mg base 1 "with_parts" (spR R_with) [] := by
  refine F.with_parts.R sc_with_parts (by decide) (fun ds d h => ?_) (fun f cdv A outer s H E hr => ⟨_, (pss_cons (ps_set (i := 2) sc_with_parts.nd rfl (Or.inl rfl) (pe_ix (Nz.ixT K) (pv 0) pe_int (fun _ _ => rfl)))
    (pss_cons (ps_if (pt_cmpR (Nz.inQ K) (pv 2) (pe_tup (pa_cons pe_str (pa_cons pe_str (pa_cons pe_str (pa_cons pe_str pa_nil))))) rfl) (pss_one (ps_ret (pv 0))) pss_nil)
    (pss_cons (ps_if (pt_cmpR op_eq (pv 2) pe_str (nomark _)) (pss_one (ps_ret (pe_tup (pa_cons (pv 2) (pa_cons (pe_ix (Nz.ixT K) (pv 0) pe_int (fun _ _ => rfl)) (pa_cons (pe_ix (Nz.ixL K) (pv 1) pe_int (fun _ _ => rfl)) pa_nil)))))) pss_nil)
    (pss_cons (ps_if (pt_cmpR op_eq (pv 2) pe_str (nomark _)) (pss_one (ps_ret (pe_tup (pa_cons (pv 2) (pa_cons (pe_ix (Nz.ixL K) (pv 1) pe_int (fun _ _ => rfl)) (pa_cons (pe_ix (Nz.ixT K) (pv 0) pe_int (fun _ _ => rfl)) pa_nil)))))) pss_nil)
    (pss_cons (ps_if (pt_cmpR op_eq (pv 2) pe_str (nomark _)) (pss_cons (ps_setLc (i := 3) (own := [("pair", 5), ("other", 6)]) (g := (gTup K 2 (gCons (gName 5) (gCons (gName 6) gNil)))) rfl sc_with_parts.nd rfl rfl (sw_true rfl rfl rfl (by decide +kernel)) (Nz.piZipM (K := K) rfl F.b_zip (pa_cons (pe_ix (Nz.ixT K) (pv 0) pe_int (fun _ _ => rfl)) (pa_cons (pv 1) pa_nil))) (blkOk_by (own := [("pair", 5), ("other", 6)]) (N := n_with_parts) (sc := defScope s_with_parts) (by decide +kernel)) (fun _ _ _ _ _ => (pg_tup rfl (pgs_cons (pg_name (i := 5) sc_with_parts.nd rfl (Or.inl rfl)) (pgs_cons (pg_name (i := 6) sc_with_parts.nd rfl (Or.inl rfl)) pgs_nil)))) (fun _ _ _ _ _ => pts_nil) (fun _ _ _ _ _ => (pe_tup (pa_cons (pe_ix (Nz.ixT K) (pv 5) pe_int (fun _ _ => rfl)) (pa_cons (pv 6) pa_nil)))))
    (pss_one (ps_ret (pe_tup (pa_cons (pv 2) (pa_cons (pe_callTy (Nz.cTup K) rfl F.b_tuple Nz.boot_tuple (pa_cons (pv 3) pa_nil)) (pa_cons (pe_ix (Nz.ixL K) (pv 1) (pe_un un_neg pe_int) (fun _ _ => rfl)) pa_nil))))))) pss_nil)
    (pss_cons (ps_if (pt_cmpR op_eq (pv 2) pe_str (nomark _)) (pss_cons (ps_setLc (i := 4) (own := [("row", 7), ("other", 6)]) (g := (gTup K 2 (gCons (gName 7) (gCons (gName 6) gNil)))) rfl sc_with_parts.nd rfl rfl (sw_true rfl rfl rfl (by decide +kernel)) (Nz.piZipM (K := K) rfl F.b_zip (pa_cons (pe_ix (Nz.ixT K) (pv 0) pe_int (fun _ _ => rfl)) (pa_cons (pe_slice (Nz.slL K) (pv 1) (po_some pe_int) po_none) pa_nil))) (blkOk_by (own := [("row", 7), ("other", 6)]) (N := n_with_parts) (sc := defScope s_with_parts) (by decide +kernel)) (fun _ _ _ _ _ => (pg_tup rfl (pgs_cons (pg_name (i := 7) sc_with_parts.nd rfl (Or.inl rfl)) (pgs_cons (pg_name (i := 6) sc_with_parts.nd rfl (Or.inl rfl)) pgs_nil)))) (fun _ _ _ _ _ => pts_nil) (fun _ _ _ _ _ => (pe_tup (pa_cons (pe_ix (Nz.ixT K) (pv 7) pe_int (fun _ _ => rfl)) (pa_cons (pe_ix (Nz.ixT K) (pv 7) pe_int (fun _ _ => rfl)) (pa_cons (pv 6) pa_nil))))))
    (pss_one (ps_ret (pe_tup (pa_cons (pv 2) (pa_cons (pe_ix (Nz.ixL K) (pv 1) pe_int (fun _ _ => rfl)) (pa_cons (pe_callTy (Nz.cTup K) rfl F.b_tuple Nz.boot_tuple (pa_cons (pv 4) pa_nil)) pa_nil))))))) pss_nil)
    (pss_one (ps_ret (pe_tup (pa_cons (pv 2) (Nz.paStar (K := K) (pv 1) pa_nil))))))))))), fun ds d h => ?_⟩)
  · obtain ⟨h, ks, ks', _, _, rfl, _⟩ := h
    rfl
  obtain ⟨h, ks, ks', ok, hl, rfl, rfl⟩ := h
  cases h with
  | op w =>
    have e1 : enc (.nd (.op w) ks') = .t (.s w :: ks'.map enc) := enc_op
    have l5 : ks'.length ≤ 5 := by rw [hl]; exact kids_le ok
    rw [e1]
    rcases op_cases ok with ⟨rfl, _, _, _, rfl⟩ | ⟨rfl, _, rfl⟩ | ⟨rfl, _, rfl⟩ | ⟨rfl, _, _, rfl⟩ | ⟨rfl, _, _, rfl⟩ | ⟨rfl, _, _, rfl⟩ | ⟨rfl, _, _, rfl⟩ | ⟨rfl, _, _, rfl⟩ | ⟨rfl, _, _, rfl⟩ <;>
    ( (repeat (first
    | ((with_reducible apply sq_set); (focus ((repeat' (first
      | with_reducible exact ed_str | with_reducible exact ed_int | with_reducible exact ed_bl | with_reducible exact ed_non
      | exact ed_var rfl | exact ed_var (by assumption) | with_reducible exact ea_nil | with_reducible apply ea_cons
      | with_reducible apply et_test | with_reducible apply et_B | with_reducible apply et_not
      | with_reducible apply ed_tup | with_reducible apply ed_op | with_reducible apply el_lst
      | exact rd_eqSb rfl | exact rd_neSb rfl | exact rd_eqIb rfl | exact rd_neIb rfl
      | exact rd_ixT0 | exact rd_ixT1 | exact rd_ixT2 | exact rd_bool rfl | exact rd_int rfl | exact rd_inTc rfl rfl rfl | exact short_size rfl)); done)))
    | ((with_reducible apply sq_ifT); (focus ((repeat' (first
      | with_reducible exact ed_str | with_reducible exact ed_int | with_reducible exact ed_bl | with_reducible exact ed_non
      | exact ed_var rfl | exact ed_var (by assumption) | with_reducible exact ea_nil | with_reducible apply ea_cons
      | with_reducible apply et_test | with_reducible apply et_B | with_reducible apply et_not
      | with_reducible apply ed_tup | with_reducible apply ed_op | with_reducible apply el_lst
      | exact rd_eqSb rfl | exact rd_neSb rfl | exact rd_eqIb rfl | exact rd_neIb rfl
      | exact rd_ixT0 | exact rd_ixT1 | exact rd_ixT2 | exact rd_bool rfl | exact rd_int rfl | exact rd_inTc rfl rfl rfl | exact short_size rfl)); done)); (focus rfl))
    | ((with_reducible apply sq_ifF); (focus ((repeat' (first
      | with_reducible exact ed_str | with_reducible exact ed_int | with_reducible exact ed_bl | with_reducible exact ed_non
      | exact ed_var rfl | exact ed_var (by assumption) | with_reducible exact ea_nil | with_reducible apply ea_cons
      | with_reducible apply et_test | with_reducible apply et_B | with_reducible apply et_not
      | with_reducible apply ed_tup | with_reducible apply ed_op | with_reducible apply el_lst
      | exact rd_eqSb rfl | exact rd_neSb rfl | exact rd_eqIb rfl | exact rd_neIb rfl
      | exact rd_ixT0 | exact rd_ixT1 | exact rd_ixT2 | exact rd_bool rfl | exact rd_int rfl | exact rd_inTc rfl rfl rfl | exact short_size rfl)); done)); (focus rfl))
    | ((with_reducible apply sq_ret); (focus ((repeat' (first
      | with_reducible exact ed_str | with_reducible exact ed_int | with_reducible exact ed_bl | with_reducible exact ed_non
      | exact ed_var rfl | exact ed_var (by assumption) | with_reducible exact ea_nil | with_reducible apply ea_cons
      | with_reducible apply et_test | with_reducible apply et_B | with_reducible apply et_not
      | with_reducible apply ed_tup | with_reducible apply ed_op | with_reducible apply el_lst
      | exact rd_eqSb rfl | exact rd_neSb rfl | exact rd_eqIb rfl | exact rd_neIb rfl
      | exact rd_ixT0 | exact rd_ixT1 | exact rd_ixT2 | exact rd_bool rfl | exact rd_int rfl | exact rd_inTc rfl rfl rfl | exact short_size rfl)); done)); (focus rfl))
    | ((with_reducible apply sd_ret); (focus ((repeat' (first
      | with_reducible exact ed_str | with_reducible exact ed_int | with_reducible exact ed_bl | with_reducible exact ed_non
      | exact ed_var rfl | exact ed_var (by assumption) | with_reducible exact ea_nil | with_reducible apply ea_cons
      | with_reducible apply et_test | with_reducible apply et_B | with_reducible apply et_not
      | with_reducible apply ed_tup | with_reducible apply ed_op | with_reducible apply el_lst
      | exact rd_eqSb rfl | exact rd_neSb rfl | exact rd_eqIb rfl | exact rd_neIb rfl
      | exact rd_ixT0 | exact rd_ixT1 | exact rd_ixT2 | exact rd_bool rfl | exact rd_int rfl | exact rd_inTc rfl rfl rfl | exact short_size rfl)); done)); (focus rfl))
    | ((with_reducible apply sq_retL); (focus ((repeat' (first
      | with_reducible exact ed_str | with_reducible exact ed_int | with_reducible exact ed_bl | with_reducible exact ed_non
      | exact ed_var rfl | exact ed_var (by assumption) | with_reducible exact ea_nil | with_reducible apply ea_cons
      | with_reducible apply et_test | with_reducible apply et_B | with_reducible apply et_not
      | with_reducible apply ed_tup | with_reducible apply ed_op | with_reducible apply el_lst
      | exact rd_eqSb rfl | exact rd_neSb rfl | exact rd_eqIb rfl | exact rd_neIb rfl
      | exact rd_ixT0 | exact rd_ixT1 | exact rd_ixT2 | exact rd_bool rfl | exact rd_int rfl | exact rd_inTc rfl rfl rfl | exact short_size rfl)); done)); (focus rfl))
    | ((with_reducible apply sd_retL); (focus ((repeat' (first
      | with_reducible exact ed_str | with_reducible exact ed_int | with_reducible exact ed_bl | with_reducible exact ed_non
      | exact ed_var rfl | exact ed_var (by assumption) | with_reducible exact ea_nil | with_reducible apply ea_cons
      | with_reducible apply et_test | with_reducible apply et_B | with_reducible apply et_not
      | with_reducible apply ed_tup | with_reducible apply ed_op | with_reducible apply el_lst
      | exact rd_eqSb rfl | exact rd_neSb rfl | exact rd_eqIb rfl | exact rd_neIb rfl
      | exact rd_ixT0 | exact rd_ixT1 | exact rd_ixT2 | exact rd_bool rfl | exact rd_int rfl | exact rd_inTc rfl rfl rfl | exact short_size rfl)); done)); (focus rfl))))
      exact sd_ret (ed_tup (ea_cons (ed_var rfl) (ea_starL (ed_var rfl) ea_nil)) (by rw [List.append_nil, List.length_cons, List.length_map]; exact small4 (by omega))) (by rw [List.append_nil]))
  | fn x =>
    obtain ⟨k, rfl⟩ := one_of ok
    obtain ⟨k', rfl⟩ := one_of (hl.trans ok)
    (repeat (first
    | ((with_reducible apply sq_set); (focus ((repeat' (first
      | with_reducible exact ed_str | with_reducible exact ed_int | with_reducible exact ed_bl | with_reducible exact ed_non
      | exact ed_var rfl | exact ed_var (by assumption) | with_reducible exact ea_nil | with_reducible apply ea_cons
      | with_reducible apply et_test | with_reducible apply et_B | with_reducible apply et_not
      | with_reducible apply ed_tup | with_reducible apply ed_op | with_reducible apply el_lst
      | exact rd_eqSb rfl | exact rd_neSb rfl | exact rd_eqIb rfl | exact rd_neIb rfl
      | exact rd_ixT0 | exact rd_ixT1 | exact rd_ixT2 | exact rd_bool rfl | exact rd_int rfl | exact rd_inTc rfl rfl rfl | exact short_size rfl)); done)))
    | ((with_reducible apply sq_ifT); (focus ((repeat' (first
      | with_reducible exact ed_str | with_reducible exact ed_int | with_reducible exact ed_bl | with_reducible exact ed_non
      | exact ed_var rfl | exact ed_var (by assumption) | with_reducible exact ea_nil | with_reducible apply ea_cons
      | with_reducible apply et_test | with_reducible apply et_B | with_reducible apply et_not
      | with_reducible apply ed_tup | with_reducible apply ed_op | with_reducible apply el_lst
      | exact rd_eqSb rfl | exact rd_neSb rfl | exact rd_eqIb rfl | exact rd_neIb rfl
      | exact rd_ixT0 | exact rd_ixT1 | exact rd_ixT2 | exact rd_bool rfl | exact rd_int rfl | exact rd_inTc rfl rfl rfl | exact short_size rfl)); done)); (focus rfl))
    | ((with_reducible apply sq_ifF); (focus ((repeat' (first
      | with_reducible exact ed_str | with_reducible exact ed_int | with_reducible exact ed_bl | with_reducible exact ed_non
      | exact ed_var rfl | exact ed_var (by assumption) | with_reducible exact ea_nil | with_reducible apply ea_cons
      | with_reducible apply et_test | with_reducible apply et_B | with_reducible apply et_not
      | with_reducible apply ed_tup | with_reducible apply ed_op | with_reducible apply el_lst
      | exact rd_eqSb rfl | exact rd_neSb rfl | exact rd_eqIb rfl | exact rd_neIb rfl
      | exact rd_ixT0 | exact rd_ixT1 | exact rd_ixT2 | exact rd_bool rfl | exact rd_int rfl | exact rd_inTc rfl rfl rfl | exact short_size rfl)); done)); (focus rfl))
    | ((with_reducible apply sq_ret); (focus ((repeat' (first
      | with_reducible exact ed_str | with_reducible exact ed_int | with_reducible exact ed_bl | with_reducible exact ed_non
      | exact ed_var rfl | exact ed_var (by assumption) | with_reducible exact ea_nil | with_reducible apply ea_cons
      | with_reducible apply et_test | with_reducible apply et_B | with_reducible apply et_not
      | with_reducible apply ed_tup | with_reducible apply ed_op | with_reducible apply el_lst
      | exact rd_eqSb rfl | exact rd_neSb rfl | exact rd_eqIb rfl | exact rd_neIb rfl
      | exact rd_ixT0 | exact rd_ixT1 | exact rd_ixT2 | exact rd_bool rfl | exact rd_int rfl | exact rd_inTc rfl rfl rfl | exact short_size rfl)); done)); (focus rfl))
    | ((with_reducible apply sd_ret); (focus ((repeat' (first
      | with_reducible exact ed_str | with_reducible exact ed_int | with_reducible exact ed_bl | with_reducible exact ed_non
      | exact ed_var rfl | exact ed_var (by assumption) | with_reducible exact ea_nil | with_reducible apply ea_cons
      | with_reducible apply et_test | with_reducible apply et_B | with_reducible apply et_not
      | with_reducible apply ed_tup | with_reducible apply ed_op | with_reducible apply el_lst
      | exact rd_eqSb rfl | exact rd_neSb rfl | exact rd_eqIb rfl | exact rd_neIb rfl
      | exact rd_ixT0 | exact rd_ixT1 | exact rd_ixT2 | exact rd_bool rfl | exact rd_int rfl | exact rd_inTc rfl rfl rfl | exact short_size rfl)); done)); (focus rfl))
    | ((with_reducible apply sq_retL); (focus ((repeat' (first
      | with_reducible exact ed_str | with_reducible exact ed_int | with_reducible exact ed_bl | with_reducible exact ed_non
      | exact ed_var rfl | exact ed_var (by assumption) | with_reducible exact ea_nil | with_reducible apply ea_cons
      | with_reducible apply et_test | with_reducible apply et_B | with_reducible apply et_not
      | with_reducible apply ed_tup | with_reducible apply ed_op | with_reducible apply el_lst
      | exact rd_eqSb rfl | exact rd_neSb rfl | exact rd_eqIb rfl | exact rd_neIb rfl
      | exact rd_ixT0 | exact rd_ixT1 | exact rd_ixT2 | exact rd_bool rfl | exact rd_int rfl | exact rd_inTc rfl rfl rfl | exact short_size rfl)); done)); (focus rfl))
    | ((with_reducible apply sd_retL); (focus ((repeat' (first
      | with_reducible exact ed_str | with_reducible exact ed_int | with_reducible exact ed_bl | with_reducible exact ed_non
      | exact ed_var rfl | exact ed_var (by assumption) | with_reducible exact ea_nil | with_reducible apply ea_cons
      | with_reducible apply et_test | with_reducible apply et_B | with_reducible apply et_not
      | with_reducible apply ed_tup | with_reducible apply ed_op | with_reducible apply el_lst
      | exact rd_eqSb rfl | exact rd_neSb rfl | exact rd_eqIb rfl | exact rd_neIb rfl
      | exact rd_ixT0 | exact rd_ixT1 | exact rd_ixT2 | exact rd_bool rfl | exact rd_int rfl | exact rd_inTc rfl rfl rfl | exact short_size rfl)); done)); (focus rfl))))
    exact sq_ret (ed_tup (ea_cons (ed_var rfl) (ea_cons (ed_op (ed_var rfl) ed_int rd_ixT1) (ea_cons (ed_op (ed_var rfl) ed_int (rd_ixL (atI_nat (j := 0) rfl))) ea_nil))) (short_size rfl)) rfl
  | call x =>
    obtain ⟨k, rfl⟩ := one_of ok
    obtain ⟨k', rfl⟩ := one_of (hl.trans ok)
    (repeat (first
    | ((with_reducible apply sq_set); (focus ((repeat' (first
      | with_reducible exact ed_str | with_reducible exact ed_int | with_reducible exact ed_bl | with_reducible exact ed_non
      | exact ed_var rfl | exact ed_var (by assumption) | with_reducible exact ea_nil | with_reducible apply ea_cons
      | with_reducible apply et_test | with_reducible apply et_B | with_reducible apply et_not
      | with_reducible apply ed_tup | with_reducible apply ed_op | with_reducible apply el_lst
      | exact rd_eqSb rfl | exact rd_neSb rfl | exact rd_eqIb rfl | exact rd_neIb rfl
      | exact rd_ixT0 | exact rd_ixT1 | exact rd_ixT2 | exact rd_bool rfl | exact rd_int rfl | exact rd_inTc rfl rfl rfl | exact short_size rfl)); done)))
    | ((with_reducible apply sq_ifT); (focus ((repeat' (first
      | with_reducible exact ed_str | with_reducible exact ed_int | with_reducible exact ed_bl | with_reducible exact ed_non
      | exact ed_var rfl | exact ed_var (by assumption) | with_reducible exact ea_nil | with_reducible apply ea_cons
      | with_reducible apply et_test | with_reducible apply et_B | with_reducible apply et_not
      | with_reducible apply ed_tup | with_reducible apply ed_op | with_reducible apply el_lst
      | exact rd_eqSb rfl | exact rd_neSb rfl | exact rd_eqIb rfl | exact rd_neIb rfl
      | exact rd_ixT0 | exact rd_ixT1 | exact rd_ixT2 | exact rd_bool rfl | exact rd_int rfl | exact rd_inTc rfl rfl rfl | exact short_size rfl)); done)); (focus rfl))
    | ((with_reducible apply sq_ifF); (focus ((repeat' (first
      | with_reducible exact ed_str | with_reducible exact ed_int | with_reducible exact ed_bl | with_reducible exact ed_non
      | exact ed_var rfl | exact ed_var (by assumption) | with_reducible exact ea_nil | with_reducible apply ea_cons
      | with_reducible apply et_test | with_reducible apply et_B | with_reducible apply et_not
      | with_reducible apply ed_tup | with_reducible apply ed_op | with_reducible apply el_lst
      | exact rd_eqSb rfl | exact rd_neSb rfl | exact rd_eqIb rfl | exact rd_neIb rfl
      | exact rd_ixT0 | exact rd_ixT1 | exact rd_ixT2 | exact rd_bool rfl | exact rd_int rfl | exact rd_inTc rfl rfl rfl | exact short_size rfl)); done)); (focus rfl))
    | ((with_reducible apply sq_ret); (focus ((repeat' (first
      | with_reducible exact ed_str | with_reducible exact ed_int | with_reducible exact ed_bl | with_reducible exact ed_non
      | exact ed_var rfl | exact ed_var (by assumption) | with_reducible exact ea_nil | with_reducible apply ea_cons
      | with_reducible apply et_test | with_reducible apply et_B | with_reducible apply et_not
      | with_reducible apply ed_tup | with_reducible apply ed_op | with_reducible apply el_lst
      | exact rd_eqSb rfl | exact rd_neSb rfl | exact rd_eqIb rfl | exact rd_neIb rfl
      | exact rd_ixT0 | exact rd_ixT1 | exact rd_ixT2 | exact rd_bool rfl | exact rd_int rfl | exact rd_inTc rfl rfl rfl | exact short_size rfl)); done)); (focus rfl))
    | ((with_reducible apply sd_ret); (focus ((repeat' (first
      | with_reducible exact ed_str | with_reducible exact ed_int | with_reducible exact ed_bl | with_reducible exact ed_non
      | exact ed_var rfl | exact ed_var (by assumption) | with_reducible exact ea_nil | with_reducible apply ea_cons
      | with_reducible apply et_test | with_reducible apply et_B | with_reducible apply et_not
      | with_reducible apply ed_tup | with_reducible apply ed_op | with_reducible apply el_lst
      | exact rd_eqSb rfl | exact rd_neSb rfl | exact rd_eqIb rfl | exact rd_neIb rfl
      | exact rd_ixT0 | exact rd_ixT1 | exact rd_ixT2 | exact rd_bool rfl | exact rd_int rfl | exact rd_inTc rfl rfl rfl | exact short_size rfl)); done)); (focus rfl))
    | ((with_reducible apply sq_retL); (focus ((repeat' (first
      | with_reducible exact ed_str | with_reducible exact ed_int | with_reducible exact ed_bl | with_reducible exact ed_non
      | exact ed_var rfl | exact ed_var (by assumption) | with_reducible exact ea_nil | with_reducible apply ea_cons
      | with_reducible apply et_test | with_reducible apply et_B | with_reducible apply et_not
      | with_reducible apply ed_tup | with_reducible apply ed_op | with_reducible apply el_lst
      | exact rd_eqSb rfl | exact rd_neSb rfl | exact rd_eqIb rfl | exact rd_neIb rfl
      | exact rd_ixT0 | exact rd_ixT1 | exact rd_ixT2 | exact rd_bool rfl | exact rd_int rfl | exact rd_inTc rfl rfl rfl | exact short_size rfl)); done)); (focus rfl))
    | ((with_reducible apply sd_retL); (focus ((repeat' (first
      | with_reducible exact ed_str | with_reducible exact ed_int | with_reducible exact ed_bl | with_reducible exact ed_non
      | exact ed_var rfl | exact ed_var (by assumption) | with_reducible exact ea_nil | with_reducible apply ea_cons
      | with_reducible apply et_test | with_reducible apply et_B | with_reducible apply et_not
      | with_reducible apply ed_tup | with_reducible apply ed_op | with_reducible apply el_lst
      | exact rd_eqSb rfl | exact rd_neSb rfl | exact rd_eqIb rfl | exact rd_neIb rfl
      | exact rd_ixT0 | exact rd_ixT1 | exact rd_ixT2 | exact rd_bool rfl | exact rd_int rfl | exact rd_inTc rfl rfl rfl | exact short_size rfl)); done)); (focus rfl))))
    exact sq_ret (ed_tup (ea_cons (ed_var rfl) (ea_cons (ed_op (ed_var rfl) ed_int (rd_ixL (atI_nat (j := 0) rfl))) (ea_cons (ed_op (ed_var rfl) ed_int rd_ixT2) ea_nil))) (short_size rfl)) rfl
  | lets xs =>
    obtain ⟨h1, h4⟩ := ok
    obtain ⟨ms, m, rfl, hm⟩ := last_of h1
    obtain ⟨ms', m', rfl, hm'⟩ := last_of (hl.trans h1)
    rw [enc_lets hm, enc_lets hm']
    (repeat (first
    | ((with_reducible apply sq_set); (focus ((repeat' (first
      | with_reducible exact ed_str | with_reducible exact ed_int | with_reducible exact ed_bl | with_reducible exact ed_non
      | exact ed_var rfl | exact ed_var (by assumption) | with_reducible exact ea_nil | with_reducible apply ea_cons
      | with_reducible apply et_test | with_reducible apply et_B | with_reducible apply et_not
      | with_reducible apply ed_tup | with_reducible apply ed_op | with_reducible apply el_lst
      | exact rd_eqSb rfl | exact rd_neSb rfl | exact rd_eqIb rfl | exact rd_neIb rfl
      | exact rd_ixT0 | exact rd_ixT1 | exact rd_ixT2 | exact rd_bool rfl | exact rd_int rfl | exact rd_inTc rfl rfl rfl | exact short_size rfl)); done)))
    | ((with_reducible apply sq_ifT); (focus ((repeat' (first
      | with_reducible exact ed_str | with_reducible exact ed_int | with_reducible exact ed_bl | with_reducible exact ed_non
      | exact ed_var rfl | exact ed_var (by assumption) | with_reducible exact ea_nil | with_reducible apply ea_cons
      | with_reducible apply et_test | with_reducible apply et_B | with_reducible apply et_not
      | with_reducible apply ed_tup | with_reducible apply ed_op | with_reducible apply el_lst
      | exact rd_eqSb rfl | exact rd_neSb rfl | exact rd_eqIb rfl | exact rd_neIb rfl
      | exact rd_ixT0 | exact rd_ixT1 | exact rd_ixT2 | exact rd_bool rfl | exact rd_int rfl | exact rd_inTc rfl rfl rfl | exact short_size rfl)); done)); (focus rfl))
    | ((with_reducible apply sq_ifF); (focus ((repeat' (first
      | with_reducible exact ed_str | with_reducible exact ed_int | with_reducible exact ed_bl | with_reducible exact ed_non
      | exact ed_var rfl | exact ed_var (by assumption) | with_reducible exact ea_nil | with_reducible apply ea_cons
      | with_reducible apply et_test | with_reducible apply et_B | with_reducible apply et_not
      | with_reducible apply ed_tup | with_reducible apply ed_op | with_reducible apply el_lst
      | exact rd_eqSb rfl | exact rd_neSb rfl | exact rd_eqIb rfl | exact rd_neIb rfl
      | exact rd_ixT0 | exact rd_ixT1 | exact rd_ixT2 | exact rd_bool rfl | exact rd_int rfl | exact rd_inTc rfl rfl rfl | exact short_size rfl)); done)); (focus rfl))
    | ((with_reducible apply sq_ret); (focus ((repeat' (first
      | with_reducible exact ed_str | with_reducible exact ed_int | with_reducible exact ed_bl | with_reducible exact ed_non
      | exact ed_var rfl | exact ed_var (by assumption) | with_reducible exact ea_nil | with_reducible apply ea_cons
      | with_reducible apply et_test | with_reducible apply et_B | with_reducible apply et_not
      | with_reducible apply ed_tup | with_reducible apply ed_op | with_reducible apply el_lst
      | exact rd_eqSb rfl | exact rd_neSb rfl | exact rd_eqIb rfl | exact rd_neIb rfl
      | exact rd_ixT0 | exact rd_ixT1 | exact rd_ixT2 | exact rd_bool rfl | exact rd_int rfl | exact rd_inTc rfl rfl rfl | exact short_size rfl)); done)); (focus rfl))
    | ((with_reducible apply sd_ret); (focus ((repeat' (first
      | with_reducible exact ed_str | with_reducible exact ed_int | with_reducible exact ed_bl | with_reducible exact ed_non
      | exact ed_var rfl | exact ed_var (by assumption) | with_reducible exact ea_nil | with_reducible apply ea_cons
      | with_reducible apply et_test | with_reducible apply et_B | with_reducible apply et_not
      | with_reducible apply ed_tup | with_reducible apply ed_op | with_reducible apply el_lst
      | exact rd_eqSb rfl | exact rd_neSb rfl | exact rd_eqIb rfl | exact rd_neIb rfl
      | exact rd_ixT0 | exact rd_ixT1 | exact rd_ixT2 | exact rd_bool rfl | exact rd_int rfl | exact rd_inTc rfl rfl rfl | exact short_size rfl)); done)); (focus rfl))
    | ((with_reducible apply sq_retL); (focus ((repeat' (first
      | with_reducible exact ed_str | with_reducible exact ed_int | with_reducible exact ed_bl | with_reducible exact ed_non
      | exact ed_var rfl | exact ed_var (by assumption) | with_reducible exact ea_nil | with_reducible apply ea_cons
      | with_reducible apply et_test | with_reducible apply et_B | with_reducible apply et_not
      | with_reducible apply ed_tup | with_reducible apply ed_op | with_reducible apply el_lst
      | exact rd_eqSb rfl | exact rd_neSb rfl | exact rd_eqIb rfl | exact rd_neIb rfl
      | exact rd_ixT0 | exact rd_ixT1 | exact rd_ixT2 | exact rd_bool rfl | exact rd_int rfl | exact rd_inTc rfl rfl rfl | exact short_size rfl)); done)); (focus rfl))
    | ((with_reducible apply sd_retL); (focus ((repeat' (first
      | with_reducible exact ed_str | with_reducible exact ed_int | with_reducible exact ed_bl | with_reducible exact ed_non
      | exact ed_var rfl | exact ed_var (by assumption) | with_reducible exact ea_nil | with_reducible apply ea_cons
      | with_reducible apply et_test | with_reducible apply et_B | with_reducible apply et_not
      | with_reducible apply ed_tup | with_reducible apply ed_op | with_reducible apply el_lst
      | exact rd_eqSb rfl | exact rd_neSb rfl | exact rd_eqIb rfl | exact rd_neIb rfl
      | exact rd_ixT0 | exact rd_ixT1 | exact rd_ixT2 | exact rd_bool rfl | exact rd_int rfl | exact rd_inTc rfl rfl rfl | exact short_size rfl)); done)); (focus rfl))))
    have lz : ms'.length = (xs.zip ms).length := by rw [List.length_zip]; omega
    refine sq_assoc (sq_set (d := .l ((xs.zip ms').map fun p => .t [.s p.1, enc p.2])) (EL.toD (el_eq (el_lcZ (vs := [5, 6]) ((xs.zip ms).zip ms') (fun z => .t [.s z.1.1, enc z.1.2]) (fun z => enc z.2) (fun z => .t [.s z.1.1, enc z.2]) [enc m'] (small4 (by rw [List.length_zip, List.length_zip]; omega)) rfl (ed_eq (ed_op (ed_var rfl) ed_int rd_ixT1) (congrArg D.t (map_zip_fst (f := fun p : Str × Tm => D.t [.s p.1, enc p.2]) lz).symm)) (ed_eq (ed_var rfl) (congrArg D.l ?_)) fun z hz => ⟨_, gw_tup2 (by decide) rfl, ed_tup (ea_cons (ed_op (ed_var rfl) ed_int rd_ixT0) (ea_cons (ed_var rfl) ea_nil)) (short_size rfl)⟩) ?_)) ?_)
    · rw [List.map_append, map_zip_snd (f := enc) lz]
      rfl
    · rw [← zip3 (ns := ms') hm, List.map_map]
      rfl
    exact sq_ret (ed_tup (ea_cons (ed_var rfl) (ea_cons (ed_cb (ea_cons (ed_var rfl) ea_nil) rc_tupL) (ea_cons (ed_op (z := enc m') (ed_var rfl) (ed_neg ed_int) (rd_ixL (by rw [List.map_append]; exact atI_last _ _))) ea_nil))) (short_size rfl)) rfl
  | case rs =>
    obtain ⟨h1, h4, h5⟩ := ok
    obtain ⟨m, ms, rfl, hm⟩ := cons_of h1
    obtain ⟨m', ms', rfl, hm'⟩ := cons_of (hl.trans h1)
    rw [enc_case, enc_case]
    (repeat (first
    | ((with_reducible apply sq_set); (focus ((repeat' (first
      | with_reducible exact ed_str | with_reducible exact ed_int | with_reducible exact ed_bl | with_reducible exact ed_non
      | exact ed_var rfl | exact ed_var (by assumption) | with_reducible exact ea_nil | with_reducible apply ea_cons
      | with_reducible apply et_test | with_reducible apply et_B | with_reducible apply et_not
      | with_reducible apply ed_tup | with_reducible apply ed_op | with_reducible apply el_lst
      | exact rd_eqSb rfl | exact rd_neSb rfl | exact rd_eqIb rfl | exact rd_neIb rfl
      | exact rd_ixT0 | exact rd_ixT1 | exact rd_ixT2 | exact rd_bool rfl | exact rd_int rfl | exact rd_inTc rfl rfl rfl | exact short_size rfl)); done)))
    | ((with_reducible apply sq_ifT); (focus ((repeat' (first
      | with_reducible exact ed_str | with_reducible exact ed_int | with_reducible exact ed_bl | with_reducible exact ed_non
      | exact ed_var rfl | exact ed_var (by assumption) | with_reducible exact ea_nil | with_reducible apply ea_cons
      | with_reducible apply et_test | with_reducible apply et_B | with_reducible apply et_not
      | with_reducible apply ed_tup | with_reducible apply ed_op | with_reducible apply el_lst
      | exact rd_eqSb rfl | exact rd_neSb rfl | exact rd_eqIb rfl | exact rd_neIb rfl
      | exact rd_ixT0 | exact rd_ixT1 | exact rd_ixT2 | exact rd_bool rfl | exact rd_int rfl | exact rd_inTc rfl rfl rfl | exact short_size rfl)); done)); (focus rfl))
    | ((with_reducible apply sq_ifF); (focus ((repeat' (first
      | with_reducible exact ed_str | with_reducible exact ed_int | with_reducible exact ed_bl | with_reducible exact ed_non
      | exact ed_var rfl | exact ed_var (by assumption) | with_reducible exact ea_nil | with_reducible apply ea_cons
      | with_reducible apply et_test | with_reducible apply et_B | with_reducible apply et_not
      | with_reducible apply ed_tup | with_reducible apply ed_op | with_reducible apply el_lst
      | exact rd_eqSb rfl | exact rd_neSb rfl | exact rd_eqIb rfl | exact rd_neIb rfl
      | exact rd_ixT0 | exact rd_ixT1 | exact rd_ixT2 | exact rd_bool rfl | exact rd_int rfl | exact rd_inTc rfl rfl rfl | exact short_size rfl)); done)); (focus rfl))
    | ((with_reducible apply sq_ret); (focus ((repeat' (first
      | with_reducible exact ed_str | with_reducible exact ed_int | with_reducible exact ed_bl | with_reducible exact ed_non
      | exact ed_var rfl | exact ed_var (by assumption) | with_reducible exact ea_nil | with_reducible apply ea_cons
      | with_reducible apply et_test | with_reducible apply et_B | with_reducible apply et_not
      | with_reducible apply ed_tup | with_reducible apply ed_op | with_reducible apply el_lst
      | exact rd_eqSb rfl | exact rd_neSb rfl | exact rd_eqIb rfl | exact rd_neIb rfl
      | exact rd_ixT0 | exact rd_ixT1 | exact rd_ixT2 | exact rd_bool rfl | exact rd_int rfl | exact rd_inTc rfl rfl rfl | exact short_size rfl)); done)); (focus rfl))
    | ((with_reducible apply sd_ret); (focus ((repeat' (first
      | with_reducible exact ed_str | with_reducible exact ed_int | with_reducible exact ed_bl | with_reducible exact ed_non
      | exact ed_var rfl | exact ed_var (by assumption) | with_reducible exact ea_nil | with_reducible apply ea_cons
      | with_reducible apply et_test | with_reducible apply et_B | with_reducible apply et_not
      | with_reducible apply ed_tup | with_reducible apply ed_op | with_reducible apply el_lst
      | exact rd_eqSb rfl | exact rd_neSb rfl | exact rd_eqIb rfl | exact rd_neIb rfl
      | exact rd_ixT0 | exact rd_ixT1 | exact rd_ixT2 | exact rd_bool rfl | exact rd_int rfl | exact rd_inTc rfl rfl rfl | exact short_size rfl)); done)); (focus rfl))
    | ((with_reducible apply sq_retL); (focus ((repeat' (first
      | with_reducible exact ed_str | with_reducible exact ed_int | with_reducible exact ed_bl | with_reducible exact ed_non
      | exact ed_var rfl | exact ed_var (by assumption) | with_reducible exact ea_nil | with_reducible apply ea_cons
      | with_reducible apply et_test | with_reducible apply et_B | with_reducible apply et_not
      | with_reducible apply ed_tup | with_reducible apply ed_op | with_reducible apply el_lst
      | exact rd_eqSb rfl | exact rd_neSb rfl | exact rd_eqIb rfl | exact rd_neIb rfl
      | exact rd_ixT0 | exact rd_ixT1 | exact rd_ixT2 | exact rd_bool rfl | exact rd_int rfl | exact rd_inTc rfl rfl rfl | exact short_size rfl)); done)); (focus rfl))
    | ((with_reducible apply sd_retL); (focus ((repeat' (first
      | with_reducible exact ed_str | with_reducible exact ed_int | with_reducible exact ed_bl | with_reducible exact ed_non
      | exact ed_var rfl | exact ed_var (by assumption) | with_reducible exact ea_nil | with_reducible apply ea_cons
      | with_reducible apply et_test | with_reducible apply et_B | with_reducible apply et_not
      | with_reducible apply ed_tup | with_reducible apply ed_op | with_reducible apply el_lst
      | exact rd_eqSb rfl | exact rd_neSb rfl | exact rd_eqIb rfl | exact rd_neIb rfl
      | exact rd_ixT0 | exact rd_ixT1 | exact rd_ixT2 | exact rd_bool rfl | exact rd_int rfl | exact rd_inTc rfl rfl rfl | exact short_size rfl)); done)); (focus rfl))))
    have lz : ms'.length = (rs.zip ms).length := by rw [List.length_zip]; omega
    refine sq_assoc (sq_set (d := .l ((rs.zip ms').map fun p => .t [.s p.1.1, tS p.1.2, enc p.2])) (EL.toD (el_eq (el_lcZ (vs := [7, 6]) ((rs.zip ms).zip ms') (fun z => .t [.s z.1.1.1, tS z.1.1.2, enc z.1.2]) (fun z => enc z.2) (fun z => .t [.s z.1.1.1, tS z.1.1.2, enc z.2]) [] (small4 (by rw [List.length_zip, List.length_zip]; omega)) rfl (ed_eq (ed_op (ed_var rfl) ed_int rd_ixT2) (congrArg D.t (map_zip_fst (f := fun p : (Str × List Str) × Tm => D.t [.s p.1.1, tS p.1.2, enc p.2]) lz).symm)) (ed_eq (EL.toD (el_slL (ed_var rfl) (eo_some ed_int) eo_none)) (congrArg D.l ?_)) fun z hz => ⟨_, gw_tup2 (by decide) rfl, ed_tup (ea_cons (ed_op (ed_var rfl) ed_int rd_ixT0) (ea_cons (ed_op (ed_var rfl) ed_int rd_ixT1) (ea_cons (ed_var rfl) ea_nil))) (short_size rfl)⟩) ?_)) ?_)
    · rw [show (1 : Int) = ((1 : Nat) : Int) from rfl, cutD_drop, map_zip_snd (f := enc) lz, List.append_nil]
      rfl
    · rw [← zip3 (ns := ms') hm, List.map_map]
      rfl
    exact sq_ret (ed_tup (ea_cons (ed_var rfl) (ea_cons (ed_op (ed_var rfl) ed_int (rd_ixL (atI_nat (j := 0) rfl))) (ea_cons (ed_cb (ea_cons (ed_var rfl) ea_nil) rc_tupL) ea_nil))) (short_size rfl)) rfl
  | _ =>
    have e : ks = [] := by
      first
        | exact List.length_eq_zero_iff.mp ok
        | exact List.length_eq_zero_iff.mp ok.1
    subst e
    have e' : ks' = [] := List.length_eq_zero_iff.mp hl
    subst e'
    (repeat (first
    | ((with_reducible apply sq_set); (focus ((repeat' (first
      | with_reducible exact ed_str | with_reducible exact ed_int | with_reducible exact ed_bl | with_reducible exact ed_non
      | exact ed_var rfl | exact ed_var (by assumption) | with_reducible exact ea_nil | with_reducible apply ea_cons
      | with_reducible apply et_test | with_reducible apply et_B | with_reducible apply et_not
      | with_reducible apply ed_tup | with_reducible apply ed_op | with_reducible apply el_lst
      | exact rd_eqSb rfl | exact rd_neSb rfl | exact rd_eqIb rfl | exact rd_neIb rfl
      | exact rd_ixT0 | exact rd_ixT1 | exact rd_ixT2 | exact rd_bool rfl | exact rd_int rfl | exact rd_inTc rfl rfl rfl | exact short_size rfl)); done)))
    | ((with_reducible apply sq_ifT); (focus ((repeat' (first
      | with_reducible exact ed_str | with_reducible exact ed_int | with_reducible exact ed_bl | with_reducible exact ed_non
      | exact ed_var rfl | exact ed_var (by assumption) | with_reducible exact ea_nil | with_reducible apply ea_cons
      | with_reducible apply et_test | with_reducible apply et_B | with_reducible apply et_not
      | with_reducible apply ed_tup | with_reducible apply ed_op | with_reducible apply el_lst
      | exact rd_eqSb rfl | exact rd_neSb rfl | exact rd_eqIb rfl | exact rd_neIb rfl
      | exact rd_ixT0 | exact rd_ixT1 | exact rd_ixT2 | exact rd_bool rfl | exact rd_int rfl | exact rd_inTc rfl rfl rfl | exact short_size rfl)); done)); (focus rfl))
    | ((with_reducible apply sq_ifF); (focus ((repeat' (first
      | with_reducible exact ed_str | with_reducible exact ed_int | with_reducible exact ed_bl | with_reducible exact ed_non
      | exact ed_var rfl | exact ed_var (by assumption) | with_reducible exact ea_nil | with_reducible apply ea_cons
      | with_reducible apply et_test | with_reducible apply et_B | with_reducible apply et_not
      | with_reducible apply ed_tup | with_reducible apply ed_op | with_reducible apply el_lst
      | exact rd_eqSb rfl | exact rd_neSb rfl | exact rd_eqIb rfl | exact rd_neIb rfl
      | exact rd_ixT0 | exact rd_ixT1 | exact rd_ixT2 | exact rd_bool rfl | exact rd_int rfl | exact rd_inTc rfl rfl rfl | exact short_size rfl)); done)); (focus rfl))
    | ((with_reducible apply sq_ret); (focus ((repeat' (first
      | with_reducible exact ed_str | with_reducible exact ed_int | with_reducible exact ed_bl | with_reducible exact ed_non
      | exact ed_var rfl | exact ed_var (by assumption) | with_reducible exact ea_nil | with_reducible apply ea_cons
      | with_reducible apply et_test | with_reducible apply et_B | with_reducible apply et_not
      | with_reducible apply ed_tup | with_reducible apply ed_op | with_reducible apply el_lst
      | exact rd_eqSb rfl | exact rd_neSb rfl | exact rd_eqIb rfl | exact rd_neIb rfl
      | exact rd_ixT0 | exact rd_ixT1 | exact rd_ixT2 | exact rd_bool rfl | exact rd_int rfl | exact rd_inTc rfl rfl rfl | exact short_size rfl)); done)); (focus rfl))
    | ((with_reducible apply sd_ret); (focus ((repeat' (first
      | with_reducible exact ed_str | with_reducible exact ed_int | with_reducible exact ed_bl | with_reducible exact ed_non
      | exact ed_var rfl | exact ed_var (by assumption) | with_reducible exact ea_nil | with_reducible apply ea_cons
      | with_reducible apply et_test | with_reducible apply et_B | with_reducible apply et_not
      | with_reducible apply ed_tup | with_reducible apply ed_op | with_reducible apply el_lst
      | exact rd_eqSb rfl | exact rd_neSb rfl | exact rd_eqIb rfl | exact rd_neIb rfl
      | exact rd_ixT0 | exact rd_ixT1 | exact rd_ixT2 | exact rd_bool rfl | exact rd_int rfl | exact rd_inTc rfl rfl rfl | exact short_size rfl)); done)); (focus rfl))
    | ((with_reducible apply sq_retL); (focus ((repeat' (first
      | with_reducible exact ed_str | with_reducible exact ed_int | with_reducible exact ed_bl | with_reducible exact ed_non
      | exact ed_var rfl | exact ed_var (by assumption) | with_reducible exact ea_nil | with_reducible apply ea_cons
      | with_reducible apply et_test | with_reducible apply et_B | with_reducible apply et_not
      | with_reducible apply ed_tup | with_reducible apply ed_op | with_reducible apply el_lst
      | exact rd_eqSb rfl | exact rd_neSb rfl | exact rd_eqIb rfl | exact rd_neIb rfl
      | exact rd_ixT0 | exact rd_ixT1 | exact rd_ixT2 | exact rd_bool rfl | exact rd_int rfl | exact rd_inTc rfl rfl rfl | exact short_size rfl)); done)); (focus rfl))
    | ((with_reducible apply sd_retL); (focus ((repeat' (first
      | with_reducible exact ed_str | with_reducible exact ed_int | with_reducible exact ed_bl | with_reducible exact ed_non
      | exact ed_var rfl | exact ed_var (by assumption) | with_reducible exact ea_nil | with_reducible apply ea_cons
      | with_reducible apply et_test | with_reducible apply et_B | with_reducible apply et_not
      | with_reducible apply ed_tup | with_reducible apply ed_op | with_reducible apply el_lst
      | exact rd_eqSb rfl | exact rd_neSb rfl | exact rd_eqIb rfl | exact rd_neIb rfl
      | exact rd_ixT0 | exact rd_ixT1 | exact rd_ixT2 | exact rd_bool rfl | exact rd_int rfl | exact rd_inTc rfl rfl rfl | exact short_size rfl)); done)); (focus rfl))))
end
end Nz
namespace Nz
open PySem L2
section
variable {P : Program} {w : World} {K : PySem.W.Frag} {mg : Str → Option Value} {base : Heap}
def wayD : Option (List Tm) → D
  | none => .n
  | some l => .l (l.map enc)
def R_path (ds : List D) (d : D) : Prop := ∃ t ps, Wf t ∧ ps.length ≤ 1000 ∧ ds = [enc t, .t (ps.map D.i)] ∧ d = wayD (wayR t ps)
theorem k_path_to (F : Facts K mg) : C8.Cal P w K mg base 3 "path_to" (spR R_path) [] := by
  have c_bare_parts := k_bare_parts (P := P) (w := w) (base := base) F
  refine F.path_to.R sc_path_to (by decide) (fun ds d h => ?_) (fun f cdv A outer s H E hr => ⟨_, (pss_cons (ps_set (i := 2) sc_path_to.nd rfl (Or.inl rfl) (pe_lst (pa_cons (pv 0) pa_nil)))
    (pss_cons (ps_for PassesOwn.never rfl (Nz.piT K (pv 1)) (pg_name (i := 3) sc_path_to.nd rfl (Or.inl rfl)) (pss_cons (ps_set (i := 4) sc_path_to.nd rfl (Or.inl rfl) (C8.pe_c c_bare_parts hr (by first | decide | omega) rfl (pa_cons (pe_ix (Nz.ixL K) (pv 2) (pe_un un_neg pe_int) (fun _ _ => rfl)) pa_nil)))
    (pss_cons (ps_if (PW.pt (pw_or (pt_cmpR op_lt (pv 3) pe_int (nomark _)) (pw_or1 (pt_cmpR op_ge (pv 3) (pe_callB (Nz.cLen K) rfl F.b_len Nz.boot_len (pa_cons (pv 4) pa_nil)) (nomark _))))) (pss_one (ps_ret pe_non)) pss_nil)
    (pss_one (ps_expr (pe_bm PySem.F.plainAttrs_list PySem.F.slot_list_append PySem.F.type_list_append mt_append (pv 2) (pa_cons (pe_ix (Nz.ixL K) (pv 4) (pv 3) (fun _ _ => rfl)) pa_nil)))))))
    (pss_one (ps_ret (pv 2))))), fun ds d h => ?_⟩)
  · obtain ⟨t, ps, _, _, rfl, _⟩ := h
    rfl
  obtain ⟨t, ps, hw, hl, rfl, rfl⟩ := h
  rw [← way_is]
  refine sq_setO (el_lst (ea_cons (ed_var rfl) ea_nil) (short_size rfl)) ?_
  refine sd_seq (fun e => ∃ acc κ3 κ4, e = [.d (enc t), .d (.t (ps.map D.i)), .o (.l (acc.map enc)), κ3, κ4] ∧ ps.foldlM stepW [t] = some acc) ?_ ?_
  · refine sd_for (src_tup (ed_var rfl)) (fun i e => ∃ acc u κ3 κ4, e = [.d (enc t), .d (.t (ps.map D.i)), .o (.l ((acc ++ [u]).map enc)), κ3, κ4] ∧ (ps.take i).foldlM stepW [t] = some (acc ++ [u]) ∧ Wf u ∧ acc.length = i) ⟨[], t, _, _, rfl, rfl, hw, rfl⟩ (fun i d e hdi he => ?_) (fun e he => ?_)
    · obtain ⟨acc, u, κ3, κ4, rfl, h1, h2, h3⟩ := he
      obtain ⟨k, hk, rfl⟩ := map_at hdi
      have hi := (List.getElem?_eq_some_iff.mp hk).1
      have kl := kids_len h2
      have h4 : (ps.take (i + 1)).foldlM stepW [t] = (subI u k).map fun v => acc ++ [u] ++ [v] := by
        rw [take_snoc hk, List.foldlM_append, h1]
        show List.foldlM stepW (acc ++ [u]) [k] = _
        rw [List.foldlM_cons]
        show ((acc ++ [u]).getLast?.bind _ >>= _) = _
        rw [List.getLast?_append]
        show ((subI u k).map (fun v => acc ++ [u] ++ [v]) >>= _) = _
        cases subI u k <;> rfl
      have bad : subI u k = none → ps.foldlM stepW [t] = none := fun z => by
        have e1 : ps = ps.take (i + 1) ++ ps.drop (i + 1) := (List.take_append_drop _ _).symm
        rw [e1, List.foldlM_append, h4, z]
        rfl
      refine ⟨_, gd_name, ?_⟩
      refine sq_set (EL.toD (el_call (ea_cons (ed_ixO rfl (ed_neg ed_int) (by rw [List.map_append]; exact atI_last _ _)) ea_nil) ⟨u, h2, rfl, rfl⟩)) ?_
      refine sq_if (et_or (et_test (ed_op (ed_var rfl) ed_int (rd_bool rfl))) fun _ => et_test (ed_op (ed_var rfl) (ed_cb (ea_cons (ed_var rfl) ea_nil) rc_lenL) (rd_bool rfl))) (fun hb => ?_) (fun hb => ?_)
      · refine sd_ret ed_non ?_
        rw [List.length_map] at hb
        have z : subI u k = none := by
          unfold subI
          split
          · rename_i h0
            rw [Bool.or_eq_true] at hb
            rcases hb with hb | hb
            · have := of_decide_eq_true hb
              omega
            · have := of_decide_eq_true hb
              exact List.getElem?_eq_none (by omega)
          · rfl
        show D.n = wayD _
        rw [bad z]
        rfl
      · rw [List.length_map, Bool.or_eq_false_iff] at hb
        have b1 := of_decide_eq_false hb.1
        have b2 := of_decide_eq_false hb.2
        obtain ⟨m, rfl⟩ := Int.eq_ofNat_of_zero_le (show 0 ≤ k by omega)
        have hm : m < (kids u).length := by omega
        have hkm := List.getElem?_eq_getElem hm
        have hs := subI_nat.mpr hkm
        refine sd_app rfl (ed_op (ed_var rfl) (ed_var rfl) (rd_ixL (atI_nat (by rw [List.getElem?_map, hkm]; rfl)))) (by rw [List.length_map, List.length_append, h3]; exact Nat.lt_of_le_of_lt (show _ ≤ 1001 by show i + 1 ≤ _; omega) (by decide)) ?_
        refine ⟨acc ++ [u], (kids u)[m], .d (.i (m : Int)), .d (.l ((kids u).map enc)), ?_, by rw [h4, hs]; rfl, kids_wf h2 (List.mem_of_getElem? hkm), by rw [List.length_append, h3]; rfl⟩
        rw [List.map_append (f := enc) (l₁ := acc ++ [u])]
        rfl
    · obtain ⟨acc, u, κ3, κ4, rfl, h1, h2, h3⟩ := he
      rw [List.length_map, List.take_length] at h1
      exact ⟨_, κ3, κ4, rfl, h1⟩
  · rintro e ⟨acc, κ3, κ4, rfl, h1⟩
    rw [h1]
    exact sd_retO rfl rfl
def partD : Option Tm → D
  | none => .n
  | some u => enc u
theorem wayD_n {t : Tm} {ps : List Int} : isNon (wayD (wayR t ps)) = (partI t ps).isNone := by
  rw [← way_last]
  cases e : wayR t ps with
  | none => rfl
  | some l =>
    have := way_len ps t l e
    cases l with
    | nil => cases this.2
    | cons a r =>
      show false = ((a :: r).getLast?).isNone
      cases h : (a :: r).getLast? with
      | none =>
        rw [List.getLast?_eq_none_iff] at h
        cases h
      | some b => rfl
def R_part (ds : List D) (d : D) : Prop := ∃ t ps, Wf t ∧ ps.length ≤ 1000 ∧ ds = [enc t, .t (ps.map D.i)] ∧ d = partD (partI t ps)
theorem k_part_at (F : Facts K mg) : C8.Cal P w K mg base 4 "part_at" (spR R_part) [] := by
  have c_path_to := k_path_to (P := P) (w := w) (base := base) F
  refine F.part_at.R sc_part_at (by decide) (fun ds d h => ?_) (fun f cdv A outer s H E hr => ⟨_, (pss_cons (ps_set (i := 2) sc_part_at.nd rfl (Or.inl rfl) (C8.pe_c c_path_to hr (by first | decide | omega) rfl (pa_cons (pv 0) (pa_cons (pv 1) pa_nil))))
    (pss_cons (ps_if (pt_cmpR Nz.op_isNn (pv 2) pe_non (nomark _)) (pss_one (ps_ret pe_non)) pss_nil)
    (pss_one (ps_ret (pe_ix (Nz.ixL K) (pv 2) (pe_un un_neg pe_int) (fun _ _ => rfl)))))), fun ds d h => ?_⟩)
  · obtain ⟨t, ps, _, _, rfl, _⟩ := h
    rfl
  obtain ⟨t, ps, hw, hl, rfl, rfl⟩ := h
  refine sq_set (ed_call (ea_cons (ed_var rfl) (ea_cons (ed_var rfl) ea_nil)) ⟨t, ps, hw, hl, rfl, rfl⟩) ?_
  have q := way_last ps t
  cases e : wayR t ps with
  | none =>
    rw [e] at q
    rw [← q]
    exact sq_if (b := true) (et_test (ed_op (ed_var rfl) ed_non rd_isN)) (fun _ => sq_ret ed_non rfl) (fun z => by cases z)
  | some l =>
    rw [e] at q
    rw [← q]
    obtain ⟨r, b, rfl⟩ := snoc_of (l := l) (fun z => by
      subst z
      cases (way_len ps t [] e).2)
    refine sq_if (b := false) (et_test (ed_op (ed_var rfl) ed_non rd_isN)) (fun z => by cases z) fun _ => ?_
    refine sd_ret (d := enc b) (ed_op (ed_var rfl) (ed_neg ed_int) (rd_ixL (by rw [List.map_append]; exact atI_last _ _))) ?_
    show enc b = partD ((r ++ [b]).getLast?)
    rw [List.getLast?_append]
    rfl
def R_put (ds : List D) (d : D) : Prop := ∃ t p o u, Wf t ∧ p.length ≤ 1000 ∧ partI t (p.map fun k : Nat => (k : Int)) = some u ∧ ds = [enc t, plD p, enc o] ∧ d = enc (putT t p o)
theorem k_put_at (F : Facts K mg) : C8.Cal P w K mg base 4 "put_at" (spR R_put) [] := by
  have c_path_to := k_path_to (P := P) (w := w) (base := base) F
  have c_bare_parts := k_bare_parts (P := P) (w := w) (base := base) F
  have c_with_parts := k_with_parts (P := P) (w := w) (base := base) F
  refine F.put_at.R sc_put_at (by decide) (fun ds d h => ?_) (fun f cdv A outer s H E hr => ⟨_, (pss_cons (ps_set (i := 3) sc_put_at.nd rfl (Or.inl rfl) (C8.pe_c c_path_to hr (by first | decide | omega) rfl (pa_cons (pv 0) (pa_cons (pv 1) pa_nil))))
    (pss_cons (ps_if (pt_cmpR Nz.op_isNn (pv 3) pe_non (nomark _)) (pss_one (ps_ret pe_non)) pss_nil)
    (pss_cons (ps_for PassesOwn.never rfl (Nz.piRevA (K := K) rfl F.b_reversed (Nz.peListZip (K := K) rfl rfl F.b_list rfl F.b_zip (pa_cons (pv 1) (pa_cons (pv 3) pa_nil)))) (pg_tup rfl (pgs_cons (pg_name (i := 4) sc_put_at.nd rfl (Or.inl rfl)) (pgs_cons (pg_name (i := 5) sc_put_at.nd rfl (Or.inl rfl)) pgs_nil))) (pss_cons (ps_set (i := 6) sc_put_at.nd rfl (Or.inl rfl) (C8.pe_c c_bare_parts hr (by first | decide | omega) rfl (pa_cons (pv 5) pa_nil)))
    (pss_cons (ps_asg (pv 2) (pg_sub (pv 6) (pv 4) set_list (fun _ => rfl)))
    (pss_one (ps_set (i := 2) sc_put_at.nd rfl (Or.inl rfl) (C8.pe_c c_with_parts hr (by first | decide | omega) rfl (pa_cons (pv 5) (pa_cons (pv 6) pa_nil))))))))
    (pss_one (ps_ret (pv 2)))))), fun ds d h => ?_⟩)
  · obtain ⟨t, p, o, u, _, _, _, rfl, _⟩ := h
    rfl
  obtain ⟨t, p, o, u, hw, hl, hu, rfl, rfl⟩ := h
  have pe : plD p = .t ((p.map fun k : Nat => (k : Int)).map D.i) := by
    show D.t _ = D.t _
    rw [List.map_map]
    rfl
  refine sq_set (ed_call (ea_cons (ed_var rfl) (ea_cons (ed_var rfl) ea_nil)) ⟨t, p.map fun k : Nat => (k : Int), hw, by rw [List.length_map]; exact hl, by rw [pe], rfl⟩) ?_
  have q := way_last (p.map fun k : Nat => (k : Int)) t
  cases e : wayR t (p.map fun k : Nat => (k : Int)) with
  | none =>
    rw [e, hu] at q
    cases q
  | some l =>
    have wl := way_len _ t l e
    rw [List.length_map] at wl
    have wf := way_wf _ t l hw e
    refine sq_if (b := false) (et_test (ed_op (ed_var rfl) ed_non rd_isN)) (fun z => by cases z) fun _ => ?_
    refine sd_seq (fun e => ∃ κ4 κ5 κ6, e = [.d (enc t), .d (plD p), .d (enc (putT t p o)), .d (.l (l.map enc)), κ4, κ5, κ6]) ?_ ?_
    · refine sd_for (src_revL (EL.toD (el_listZip (ed_var rfl) (ed_var rfl) (by rw [List.length_map, List.length_map]; exact Nat.lt_of_le_of_lt (show _ ≤ 1000 by omega) (by decide)))) ) (fun j e => ∃ v κ4 κ5 κ6, e = [.d (enc t), .d (plD p), .d (enc (putT v (p.drop (p.length - j)) o)), .d (.l (l.map enc)), κ4, κ5, κ6] ∧ l[p.length - j]? = some v ∧ j ≤ p.length) ?_ (fun j d e hdj he => ?_) (fun e he => ?_)
      · have hv : l[p.length]? = some l[p.length] := List.getElem?_eq_getElem (by omega)
        exact ⟨l[p.length], _, _, _, by rw [Nat.sub_zero, List.drop_length]; rfl, hv, Nat.zero_le _⟩
      · obtain ⟨v, κ4, κ5, κ6, rfl, hv, hj⟩ := he
        have zl : ((p.map natD).zip (l.map enc)).length = p.length := by
          rw [List.length_zip, List.length_map, List.length_map]
          omega
        have hj2 : j < p.length := by
          have := (List.getElem?_eq_some_iff.mp hdj).1
          rwa [List.length_reverse, List.length_map, zl] at this
        obtain ⟨a, ha⟩ : ∃ a, a = p.length - 1 - j := ⟨_, rfl⟩
        have ha1 : p.length - j = a + 1 := by omega
        have ha2 : p.length - (j + 1) = a := by omega
        have hap : a < p.length := by omega
        have hpa : p[a]? = some p[a] := List.getElem?_eq_getElem hap
        obtain ⟨x, v', hx, hv', hs⟩ := way_step _ t l e a ((p[a] : Nat) : Int) (by rw [List.getElem?_map, hpa]; rfl)
        rw [ha1] at hv ⊢
        rw [ha2]
        rw [hv'] at hv
        cases hv
        rw [subI_nat] at hs
        have hwx := wf x (List.mem_of_getElem? hx)
        have ed : d = .t [natD p[a], enc x] := by
          rw [List.getElem?_reverse (by rw [List.length_map, zl]; exact hj2), List.length_map, zl, ← ha, List.getElem?_map, (List.getElem?_zip_eq_some (z := (natD p[a], enc x))).mpr ⟨by rw [List.getElem?_map, hpa]; rfl, by rw [List.getElem?_map, hx]; rfl⟩] at hdj
          exact (Option.some.inj hdj).symm
        subst ed
        cases x with
        | nd hh ks =>
        have hk : p[a] < ks.length := (List.getElem?_eq_some_iff.mp hs).1
        refine ⟨_, gd_tup (gds_cons gd_name (gds_cons gd_name gds_nil)) rfl, ?_⟩
        refine sq_setO (el_call (ea_cons (ed_var rfl) ea_nil) ⟨.nd hh ks, hwx, rfl, rfl⟩) ?_
        refine sq_putO (j := p[a]) rfl (ed_var rfl) (ed_var rfl) (by rw [List.length_map]; exact hk) ?_
        refine sd_freeze (i := 6) rfl ?_
        refine sd_set (ed_call (z := enc (.nd hh (ks.set p[a] (putT v (p.drop (a + 1)) o)))) (ea_cons (ed_var rfl) (ea_cons (ed_var rfl) ea_nil)) ⟨hh, ks, ks.set p[a] (putT v (p.drop (a + 1)) o), hwx.1, by rw [List.length_set], ?_, rfl⟩) ?_
        · rw [List.map_set]
          rfl
        · refine ⟨.nd hh ks, .d (natD p[a]), .d (enc (.nd hh ks)), .d (.l ((ks.map enc).set p[a] (enc (putT v (p.drop (a + 1)) o)))), ?_, hx, by omega⟩
          rw [List.drop_eq_getElem_cons hap, putT_cons (h := hh) (ks := ks) hs]
          rfl
      · obtain ⟨v, κ4, κ5, κ6, rfl, hv, hj⟩ := he
        have e1 : ((((p.map natD).zip (l.map enc)).map pD).reverse).length = p.length := by
          rw [List.length_reverse, List.length_map, List.length_zip, List.length_map, List.length_map]
          omega
        rw [e1, Nat.sub_self] at hv ⊢
        rw [wl.2] at hv
        cases hv
        exact ⟨κ4, κ5, κ6, rfl⟩
    · rintro e ⟨κ4, κ5, κ6, rfl⟩
      exact sd_ret (ed_var rfl) rfl
end
end Nz
namespace Nz
open PySem L2
theorem plcs_snoc (t : Tm) : ∀ (l : List Tm) (j : Nat), plcs j (l ++ [t]) = plcs j l ++ (plc t).map fun p => (j + l.length) :: p
  | [], j => by
    show (plc t).map (fun p => j :: p) ++ [] = [] ++ _
    rw [List.append_nil, List.nil_append]
    rfl
  | k :: l, j => by
    show (plc k).map (fun p => j :: p) ++ plcs (j + 1) (l ++ [t]) = ((plc k).map (fun p => j :: p) ++ plcs (j + 1) l) ++ _
    rw [plcs_snoc t l (j + 1), List.append_assoc]
    have : j + 1 + l.length = j + (k :: l).length := by
      show _ = j + (l.length + 1)
      omega
    rw [this]
mutual
theorem plc_len : ∀ t : Tm, (plc t).length = sz t
  | .nd h ks => by
    show (plcs 0 ks).length + 1 = szs ks + 1
    rw [plcs_len ks 0]
theorem plcs_len : ∀ (ks : List Tm) (j : Nat), (plcs j ks).length = szs ks
  | [], _ => rfl
  | k :: r, j => by
    show ((plc k).map (fun p => j :: p) ++ plcs (j + 1) r).length = sz k + szs r
    rw [List.length_append, List.length_map, plc_len k, plcs_len r (j + 1)]
end
mutual
theorem plc_dep : ∀ (t : Tm) (p : List Nat), p ∈ plc t → p.length < dep t
  | .nd h ks, p, m => by
    rcases List.mem_cons.mp (show p ∈ [] :: plcs 0 ks from m) with rfl | m
    · exact Nat.succ_pos _
    · have := plcs_dep ks 0 p m
      show p.length < deps ks + 1
      omega
theorem plcs_dep : ∀ (ks : List Tm) (j : Nat) (p : List Nat), p ∈ plcs j ks → p.length ≤ deps ks
  | k :: r, j, p, m => by
    rcases List.mem_append.mp (show p ∈ (plc k).map (fun p => j :: p) ++ plcs (j + 1) r from m) with m | m
    · obtain ⟨q, hq, rfl⟩ := List.mem_map.mp m
      have := plc_dep k q hq
      show q.length + 1 ≤ max (dep k) (deps r)
      omega
    · have := plcs_dep r (j + 1) p m
      show p.length ≤ max (dep k) (deps r)
      omega
end
/-- each of the places is one -/
theorem partI_cons {t u : Tm} {i : Nat} {r : List Nat} (h : (kids t)[i]? = some u) : partI t ((i :: r).map fun k : Nat => (k : Int)) = partI u (r.map fun k : Nat => (k : Int)) := by
  unfold partI
  rw [List.map_cons, List.foldlM_cons, subI_nat.mpr h]
  rfl
mutual
theorem plc_part : ∀ (t : Tm) (p : List Nat), p ∈ plc t → ∃ u, partI t (p.map fun k : Nat => (k : Int)) = some u
  | .nd h ks, p, m => by
    rcases List.mem_cons.mp (show p ∈ [] :: plcs 0 ks from m) with rfl | m
    · exact ⟨_, rfl⟩
    · obtain ⟨i, k, q, e, h1, u, h2⟩ := plcs_part ks 0 p m
      subst e
      exact ⟨u, by rw [partI_cons (t := .nd h ks) (u := k) (by rw [Nat.zero_add]; exact h1)]; exact h2⟩
theorem plcs_part : ∀ (ks : List Tm) (j : Nat) (p : List Nat), p ∈ plcs j ks → ∃ i k q, p = (j + i) :: q ∧ ks[i]? = some k ∧ ∃ u, partI k (q.map fun k : Nat => (k : Int)) = some u
  | k :: r, j, p, m => by
    rcases List.mem_append.mp (show p ∈ (plc k).map (fun p => j :: p) ++ plcs (j + 1) r from m) with m | m
    · obtain ⟨q, hq, rfl⟩ := List.mem_map.mp m
      exact ⟨0, k, q, rfl, rfl, plc_part k q hq⟩
    · obtain ⟨i, k', q, e, h1, h2⟩ := plcs_part r (j + 1) p m
      exact ⟨i + 1, k', q, by rw [e]; congr 1; omega, h1, h2⟩
end
theorem prs_get {t : Tm} (w : Wf t) {i : Nat} {u : Tm} (h : (kids t)[i]? = some u) : ∃ b, (prs t)[i]? = some (u, b) := by
  rw [← prs_fst w, List.getElem?_map] at h
  cases e : (prs t)[i]? with
  | none =>
    rw [e] at h
    cases h
  | some q =>
    rw [e] at h
    cases h
    exact ⟨q.2, rfl⟩
theorem partI_wf : ∀ {ps : List Int} {t u : Tm}, Wf t → partI t ps = some u → Wf u
  | [], t, u, w, h => by
    cases h
    exact w
  | i :: r, t, u, w, h => by
    unfold partI at h
    rw [List.foldlM_cons] at h
    cases e : subI t i with
    | none =>
      rw [e] at h
      cases h
    | some v =>
      rw [e] at h
      refine partI_wf (ps := r) (kids_wf w (List.mem_of_getElem? (i := i.toNat) ?_)) h
      unfold subI at e
      split at e
      · exact e
      · cases e
section
variable {P : Program} {w : World} {K : PySem.W.Frag} {mg : Str → Option Value} {base : Heap}
def R_plc (n : Nat) (ds : List D) (d : D) : Prop := ∃ t, Wf t ∧ dep t ≤ n ∧ dep t ≤ 300 ∧ sz t ≤ 100000 ∧ ds = [enc t] ∧ d = .l ((plc t).map plD)
def R_plc' (n : Nat) (ds : List D) (d : D) : Prop := ∃ t, Wf t ∧ dep t < n ∧ dep t ≤ 300 ∧ sz t ≤ 100000 ∧ ds = [enc t] ∧ d = .l ((plc t).map plD)
theorem places_step (F : Facts K mg) (n : Nat) (c__law_places : C8.Cal P w K mg base (n + 1) "_law_places" (spR (R_plc' n)) []) : C8.Cal P w K mg base (n + 2) "_law_places" (spR (R_plc n)) [] := by
  have c__law_parts := k__law_parts (P := P) (w := w) (base := base) F
  refine F._law_places.R sc__law_places (by decide) (fun ds d h => ?_) (fun f cdv A outer s H E hr => ⟨_, (pss_cons (ps_set (i := 1) sc__law_places.nd rfl (Or.inl rfl) (pe_lst (pa_cons (pe_tup pa_nil) pa_nil)))
    (pss_cons (ps_set (i := 2) sc__law_places.nd rfl (Or.inl rfl) (C8.pe_c c__law_parts hr (by first | decide | omega) rfl (pa_cons (pv 0) pa_nil)))
    (pss_cons (ps_for PassesOwn.never rfl (pi_range1 rfl F.b_range (pa_cons (pe_callB (Nz.cLen K) rfl F.b_len Nz.boot_len (pa_cons (pv 2) pa_nil)) pa_nil)) (pg_name (i := 3) sc__law_places.nd rfl (Or.inr rfl)) (pss_one (ps_set (i := 1) sc__law_places.nd rfl (Or.inl rfl) (pe_op op_cat (pv 1) (pe_lc (own := [("path", 4)]) (g := (gName 4)) rfl sc__law_places.nd (Nz.piL K (C8.pe_c c__law_places hr (by first | decide | omega) rfl (pa_cons (pe_ix (Nz.ixT K) (pe_ix (Nz.ixL K) (pv 2) (pv 3) (fun _ _ => rfl)) pe_int (fun _ _ => rfl)) pa_nil))) (blkOk_by (own := [("path", 4)]) (N := n__law_places) (sc := defScope s__law_places) (by decide +kernel)) (fun _ _ _ _ _ => (pg_name (i := 4) sc__law_places.nd rfl (Or.inl rfl))) (fun _ _ _ _ _ => pts_nil) (fun _ _ _ _ _ => (pe_op (Nz.catA K) (pe_tup (pa_cons (pv 3) pa_nil)) (pv 4))))))))
    (pss_one (ps_ret (pv 1)))))), fun ds d h => ?_⟩)
  · obtain ⟨t, _, _, _, _, rfl, _⟩ := h
    rfl
  obtain ⟨⟨h, ks⟩, hw, hd, hd3, hs, rfl, rfl⟩ := h
  have kl : ks.length ≤ 5 := kids_le hw.1
  have lm : ((prs (.nd h ks)).map prD).length = ks.length := by
    rw [List.length_map, ← List.length_map (f := fun p : Tm × List Str => p.1), prs_fst hw]
    rfl
  refine sq_set (EL.toD (el_lst (ea_cons (ed_tup ea_nil (Nat.zero_le _)) ea_nil) (short_size rfl))) ?_
  refine sq_set (EL.toD (el_call (ea_cons (ed_var rfl) ea_nil) ⟨.nd h ks, hw, rfl, rfl⟩)) ?_
  refine sd_seq (fun e => ∃ κ2 κ3 κ4, e = [.d (enc (.nd h ks)), .d (.l ((plc (.nd h ks)).map plD)), κ2, κ3, κ4]) ?_ ?_
  · refine sd_for (src_rng (ea_cons (ed_cb (ea_cons (ed_var rfl) ea_nil) rc_lenL) ea_nil) (by rw [lm]; omega)) (fun i e => ∃ κ3, e = [.d (enc (.nd h ks)), .d (.l (([] :: plcs 0 (ks.take i)).map plD)), .d (.l ((prs (.nd h ks)).map prD)), κ3, .no])
      ⟨_, rfl⟩ (fun i d e hdi he => ?_) (fun e he => ?_)
    · obtain ⟨κ3, rfl⟩ := he
      have hi : i < ((prs (.nd h ks)).map prD).length := by
        have := (List.getElem?_eq_some_iff.mp hdi).1
        simpa [rngD] using this
      have ed : d = .i (i : Int) := by
        unfold rngD at hdi
        rw [List.getElem?_map, List.getElem?_range hi] at hdi
        exact (Option.some.inj hdi).symm
      subst ed
      rw [lm] at hi
      have hk : ks[i]? = some ks[i] := List.getElem?_eq_getElem hi
      have hm : ks[i] ∈ ks := List.getElem_mem hi
      obtain ⟨b, hb⟩ := prs_get (t := .nd h ks) hw hk
      have hwk : Wf ks[i] := wfs_all.mp hw.2 _ hm
      have hdk := dep_mem hm
      have hsk := sz_mem hm
      have hd' : deps ks + 1 ≤ n := hd
      have hd3' : deps ks + 1 ≤ 300 := hd3
      have hs' : szs ks + 1 ≤ 100000 := hs
      have hat : atI ((prs (.nd h ks)).map prD) (i : Int) = some (prD (ks[i], b)) := atI_nat (by rw [List.getElem?_map, hb]; rfl)
      have e1 : plcs 0 (ks.take (i + 1)) = plcs 0 (ks.take i) ++ (plc ks[i]).map fun p => i :: p := by
        rw [take_snoc hk, plcs_snoc, List.length_take, Nat.min_eq_left (by omega), Nat.zero_add]
      have len1 : (plcs 0 (ks.take i)).length ≤ 100000 := by
        rw [plcs_len]
        have : szs ks = szs (ks.take i) + szs (ks.drop i) := by rw [← szs_app, List.take_append_drop]
        omega
      have len2 := plc_len ks[i]
      refine ⟨_, gd_name, ?_⟩
      refine sd_set (d := .l (([] :: plcs 0 (ks.take (i + 1))).map plD)) (EL.toD (el_eq (el_op (ed_var rfl) (EL.toD (el_lcM (vs := [4]) (plc ks[i]) plD (fun p => plD (i :: p)) (Nat.le_trans (show _ ≤ 100000 by omega) (by decide)) rfl (src_list (ed_call (ea_cons (ed_op (ed_op (ed_var rfl) (ed_var rfl) (rd_ixL hat)) ed_int rd_ixT0) ea_nil) ⟨ks[i], hwk, by omega, by omega, by omega, rfl, rfl⟩)) fun p hp => ⟨_, gw_name rfl, ed_op (ed_tup (ea_cons (ed_var rfl) ea_nil) (short_size rfl)) (ed_var rfl) (rd_catT (xs := [natD i]) (by
          have := plc_dep _ p hp
          rw [List.length_map]
          exact small4 (by show 1 + p.length ≤ 1000; omega)))⟩)) (rl_cat (by
          rw [List.length_map, List.length_map, List.length_cons]
          exact Nat.le_trans (show _ ≤ 200002 by omega) (by decide)))) ?_)) ⟨_, rfl⟩
      rw [e1, List.map_cons, List.map_cons, List.map_append, List.map_map]
      rfl
    · obtain ⟨κ3, rfl⟩ := he
      have e : (rngD ((prs (.nd h ks)).map prD).length).length = ks.length := by simp [rngD, ← lm]
      rw [e, List.take_length]
      exact ⟨_, κ3, _, rfl⟩
  · rintro e ⟨κ2, κ3, κ4, rfl⟩
    exact sd_ret (ed_var rfl) rfl
theorem k__law_places (F : Facts K mg) : ∀ n : Nat, C8.Cal P w K mg base (n + 2) "_law_places" (spR (R_plc n)) []
  | 0 => places_step F 0 (F._law_places.cal fun f fd hf => by
      have no : ∀ vs H Q E, ¬ spR (R_plc' 0) vs H Q E := fun vs H Q E h => by
        obtain ⟨_, _, _, _, _, ⟨t, _, h1, _⟩, _⟩ := h
        omega
      exact ⟨fun vs H Q E h => absurd h (no vs H Q E), fun A outer s H args us vs Q E _ _ _ _ h => absurd h (no vs H Q E)⟩)
  | n + 1 => places_step F (n + 1) (by
      obtain ⟨f, fd, ps, ds, G, r⟩ := (k__law_places F n).ex
      refine ⟨f, fd, ps, ds, (G.imp fun vs H Q E h => ?_), r⟩
      obtain ⟨S, ds, xs, dm, is, ⟨t, h1, h2, h3, h4, h5, h6⟩, q⟩ := h
      exact ⟨S, ds, xs, dm, is, ⟨t, h1, by omega, h3, h4, h5, h6⟩, q⟩)
theorem k__law_part (F : Facts K mg) : C8.Cal P w K mg base 2 "_law_part" (spR R_part) [] := by
  have c__law_parts := k__law_parts (P := P) (w := w) (base := base) F
  refine F._law_part.R sc__law_part (by decide) (fun ds d h => ?_) (fun f cdv A outer s H E hr => ⟨_, (pss_cons (ps_for PassesOwn.never rfl (Nz.piT K (pv 1)) (pg_name (i := 2) sc__law_part.nd rfl (Or.inl rfl)) (pss_cons (ps_set (i := 3) sc__law_part.nd rfl (Or.inl rfl) (C8.pe_c c__law_parts hr (by first | decide | omega) rfl (pa_cons (pv 0) pa_nil)))
    (pss_cons (ps_if (pt_not (pt_chain op_le op_lt pe_int (pv 2) (pe_callB (Nz.cLen K) rfl F.b_len Nz.boot_len (pa_cons (pv 3) pa_nil)))) (pss_one (ps_ret pe_non)) pss_nil)
    (pss_one (ps_set (i := 0) sc__law_part.nd rfl (Or.inl rfl) (pe_ix (Nz.ixT K) (pe_ix (Nz.ixL K) (pv 3) (pv 2) (fun _ _ => rfl)) pe_int (fun _ _ => rfl)))))))
    (pss_one (ps_ret (pv 0)))), fun ds d h => ?_⟩)
  · obtain ⟨t, ps, _, _, rfl, _⟩ := h
    rfl
  obtain ⟨t, ps, hw, hl, rfl, rfl⟩ := h
  refine sd_seq (fun e => ∃ v κ2 κ3, e = [.d (enc v), .d (.t (ps.map D.i)), κ2, κ3] ∧ partI t ps = some v) ?_ ?_
  · refine sd_for (src_tup (ed_var rfl)) (fun i e => ∃ v κ2 κ3, e = [.d (enc v), .d (.t (ps.map D.i)), κ2, κ3] ∧ partI t (ps.take i) = some v ∧ Wf v) ⟨t, _, _, rfl, rfl, hw⟩ (fun i d e hdi he => ?_) (fun e he => ?_)
    · obtain ⟨v, κ2, κ3, rfl, h1, h2⟩ := he
      obtain ⟨k, hk, rfl⟩ := map_at hdi
      have lm : ((prs v).map prD).length = (kids v).length := by
        rw [List.length_map, ← List.length_map (f := fun p : Tm × List Str => p.1), prs_fst h2]
      have h4 : partI t (ps.take (i + 1)) = subI v k := by
        unfold partI at h1 ⊢
        rw [take_snoc hk, List.foldlM_append, h1]
        show List.foldlM subI v [k] = _
        rw [List.foldlM_cons]
        cases subI v k <;> rfl
      have bad : subI v k = none → partI t ps = none := fun z => by
        have e1 : ps = ps.take (i + 1) ++ ps.drop (i + 1) := (List.take_append_drop _ _).symm
        unfold partI at h4 ⊢
        rw [e1, List.foldlM_append, h4, z]
        rfl
      refine ⟨_, gd_name, ?_⟩
      refine sq_set (EL.toD (el_call (ea_cons (ed_var rfl) ea_nil) ⟨v, h2, rfl, rfl⟩)) ?_
      refine sq_if (et_not (et_test (ed_chain ed_int (ed_var rfl) (rd_bool rfl) fun _ => ⟨_, ed_cb (ea_cons (ed_var rfl) ea_nil) rc_lenL, rd_bool rfl⟩))) (fun hb => ?_) (fun hb => ?_)
      · refine sd_ret ed_non ?_
        rw [lm, Bool.not_eq_true', Bool.and_eq_false_iff] at hb
        have z : subI v k = none := by
          unfold subI
          split
          · rcases hb with hb | hb
            · have := of_decide_eq_false hb
              omega
            · have := of_decide_eq_false hb
              exact List.getElem?_eq_none (by omega)
          · rfl
        show D.n = partD _
        rw [bad z]
        rfl
      · rw [lm, Bool.not_eq_false', Bool.and_eq_true] at hb
        have b1 := of_decide_eq_true hb.1
        have b2 := of_decide_eq_true hb.2
        obtain ⟨m, rfl⟩ := Int.eq_ofNat_of_zero_le b1
        have hm : m < (kids v).length := by omega
        have hkm := List.getElem?_eq_getElem hm
        obtain ⟨b, hb2⟩ := prs_get h2 hkm
        refine sd_set (ed_op (ed_op (ed_var rfl) (ed_var rfl) (rd_ixL (d := prD ((kids v)[m], b)) (atI_nat (by rw [List.getElem?_map, hb2]; rfl)))) ed_int rd_ixT0) ?_
        exact ⟨(kids v)[m], .d (.i (m : Int)), .d (.l ((prs v).map prD)), rfl, by rw [h4]; exact subI_nat.mpr hkm, kids_wf h2 (List.mem_of_getElem? hkm)⟩
    · obtain ⟨v, κ2, κ3, rfl, h1, h2⟩ := he
      rw [List.length_map, List.take_length] at h1
      exact ⟨v, κ2, κ3, rfl, h1⟩
  · rintro e ⟨v, κ2, κ3, rfl, h1⟩
    exact sd_ret (ed_var rfl) (by rw [h1]; rfl)
end
end Nz
namespace Nz
open PySem L2
/-- a list, item by item -/
theorem range_getD (L : List D) : (List.range L.length).map (fun i => L.getD i .n) = L := by
  refine List.ext_getElem? fun i => ?_
  rw [List.getElem?_map]
  by_cases h : i < L.length
  · rw [List.getElem?_range h]
    show some (L.getD i .n) = _
    rw [List.getD_eq_getElem?_getD, List.getElem?_eq_getElem h]
    rfl
  · rw [List.getElem?_eq_none (by simpa using h), List.getElem?_eq_none (by omega)]
    rfl
theorem getD_of {L : List D} {i : Nat} {d : D} (h : L[i]? = some d) : L.getD i .n = d := by
  rw [List.getD_eq_getElem?_getD, h]
  rfl
section
variable {P : Program} {w : World} {K : PySem.W.Frag} {mg : Str → Option Value} {base : Heap}
def R_lput (n : Nat) (ds : List D) (d : D) : Prop := ∃ t p o u, Wf t ∧ p.length ≤ n ∧ p.length ≤ 1000 ∧ partI t (p.map fun k : Nat => (k : Int)) = some u ∧ ds = [enc t, plD p, enc o] ∧ d = enc (putT t p o)
def R_lput' (n : Nat) (ds : List D) (d : D) : Prop := ∃ t p o u, Wf t ∧ p.length < n ∧ p.length ≤ 1000 ∧ partI t (p.map fun k : Nat => (k : Int)) = some u ∧ ds = [enc t, plD p, enc o] ∧ d = enc (putT t p o)
theorem put_step (F : Facts K mg) (n : Nat) (c__law_put : C8.Cal P w K mg base (n + 1) "_law_put" (spR (R_lput' n)) []) : C8.Cal P w K mg base (n + 2) "_law_put" (spR (R_lput n)) [] := by
  have c__law_parts := k__law_parts (P := P) (w := w) (base := base) F
  refine F._law_put.R sc__law_put (by decide) (fun ds d h => ?_) (fun f cdv A outer s H E hr => ⟨_, (pss_cons (ps_if (pt_cmpR op_eq (pe_callB (Nz.cLen K) rfl F.b_len Nz.boot_len (pa_cons (pv 1) pa_nil)) pe_int (nomark _)) (pss_one (ps_ret (pv 2))) pss_nil)
    (pss_cons (ps_set (i := 3) sc__law_put.nd rfl (Or.inr rfl) (pe_lc (own := [("pair", 6)]) (g := (gName 6)) rfl sc__law_put.nd (Nz.piL K (C8.pe_c c__law_parts hr (by first | decide | omega) rfl (pa_cons (pv 0) pa_nil))) (blkOk_by (own := [("pair", 6)]) (N := n__law_put) (sc := defScope s__law_put) (by decide +kernel)) (fun _ _ _ _ _ => (pg_name (i := 6) sc__law_put.nd rfl (Or.inl rfl))) (fun _ _ _ _ _ => pts_nil) (fun _ _ _ _ _ => (pe_ix (Nz.ixT K) (pv 6) pe_int (fun _ _ => rfl)))))
    (pss_cons (ps_asg (C8.pe_c c__law_put hr (by first | decide | omega) rfl (pa_cons (pe_ix (Nz.ixL K) (pv 3) (pe_ix (Nz.ixT K) (pv 1) pe_int (fun _ _ => rfl)) (fun _ _ => rfl)) (pa_cons (pe_slice (Nz.slA K) (pv 1) (po_some pe_int) po_none) (pa_cons (pv 2) pa_nil)))) (pg_sub (pv 3) (pe_ix (Nz.ixT K) (pv 1) pe_int (fun _ _ => rfl)) set_list (fun _ => rfl)))
    (pss_cons (ps_set (i := 4) sc__law_put.nd rfl (Or.inl rfl) (pe_ix (Nz.ixT K) (pv 0) pe_int (fun _ _ => rfl)))
    (pss_cons (ps_if (pt_cmpR op_eq (pv 4) pe_str (nomark _)) (pss_one (ps_ret (pe_tup (pa_cons pe_str (pa_cons (pe_ix (Nz.ixT K) (pv 0) pe_int (fun _ _ => rfl)) (pa_cons (pe_ix (Nz.ixL K) (pv 3) pe_int (fun _ _ => rfl)) pa_nil)))))) pss_nil)
    (pss_cons (ps_if (pt_cmpR op_eq (pv 4) pe_str (nomark _)) (pss_one (ps_ret (pe_tup (pa_cons pe_str (pa_cons (pe_ix (Nz.ixL K) (pv 3) pe_int (fun _ _ => rfl)) (pa_cons (pe_ix (Nz.ixT K) (pv 0) pe_int (fun _ _ => rfl)) pa_nil)))))) pss_nil)
    (pss_cons (ps_if (pt_cmpR op_eq (pv 4) pe_str (nomark _)) (pss_cons (ps_setLc (i := 5) (own := [("k", 7)]) (g := (gName 7)) rfl sc__law_put.nd rfl rfl (sw_true rfl rfl rfl (by decide +kernel)) (pi_range1 rfl F.b_range (pa_cons (pe_callB (Nz.cLen K) rfl F.b_len Nz.boot_len (pa_cons (pe_ix (Nz.ixT K) (pv 0) pe_int (fun _ _ => rfl)) pa_nil)) pa_nil)) (blkOk_by (own := [("k", 7)]) (N := n__law_put) (sc := defScope s__law_put) (by decide +kernel)) (fun _ _ _ _ _ => (pg_name (i := 7) sc__law_put.nd rfl (Or.inl rfl))) (fun _ _ _ _ _ => pts_nil) (fun _ _ _ _ _ => (pe_tup (pa_cons (pe_ix (Nz.ixT K) (pe_ix (Nz.ixT K) (pe_ix (Nz.ixT K) (pv 0) pe_int (fun _ _ => rfl)) (pv 7) (fun _ _ => rfl)) pe_int (fun _ _ => rfl)) (pa_cons (pe_ix (Nz.ixL K) (pv 3) (pv 7) (fun _ _ => rfl)) pa_nil)))))
    (pss_one (ps_ret (pe_tup (pa_cons pe_str (pa_cons (pe_callTy (Nz.cTup K) rfl F.b_tuple Nz.boot_tuple (pa_cons (pv 5) pa_nil)) (pa_cons (pe_ix (Nz.ixL K) (pv 3) (pe_op op_sub (pe_callB (Nz.cLen K) rfl F.b_len Nz.boot_len (pa_cons (pv 3) pa_nil)) pe_int) (fun _ _ => rfl)) pa_nil))))))) pss_nil)
    (pss_cons (ps_if (pt_cmpR op_eq (pv 4) pe_str (nomark _)) (pss_cons (ps_setLc (i := 5) (own := [("k", 7)]) (g := (gName 7)) rfl sc__law_put.nd rfl rfl (sw_true rfl rfl rfl (by decide +kernel)) (pi_range1 rfl F.b_range (pa_cons (pe_callB (Nz.cLen K) rfl F.b_len Nz.boot_len (pa_cons (pe_ix (Nz.ixT K) (pv 0) pe_int (fun _ _ => rfl)) pa_nil)) pa_nil)) (blkOk_by (own := [("k", 7)]) (N := n__law_put) (sc := defScope s__law_put) (by decide +kernel)) (fun _ _ _ _ _ => (pg_name (i := 7) sc__law_put.nd rfl (Or.inl rfl))) (fun _ _ _ _ _ => pts_nil) (fun _ _ _ _ _ => (pe_tup (pa_cons (pe_ix (Nz.ixT K) (pe_ix (Nz.ixT K) (pe_ix (Nz.ixT K) (pv 0) pe_int (fun _ _ => rfl)) (pv 7) (fun _ _ => rfl)) pe_int (fun _ _ => rfl)) (pa_cons (pe_ix (Nz.ixT K) (pe_ix (Nz.ixT K) (pe_ix (Nz.ixT K) (pv 0) pe_int (fun _ _ => rfl)) (pv 7) (fun _ _ => rfl)) pe_int (fun _ _ => rfl)) (pa_cons (pe_ix (Nz.ixL K) (pv 3) (pe_op op_add (pv 7) pe_int) (fun _ _ => rfl)) pa_nil))))))
    (pss_one (ps_ret (pe_tup (pa_cons pe_str (pa_cons (pe_ix (Nz.ixL K) (pv 3) pe_int (fun _ _ => rfl)) (pa_cons (pe_callTy (Nz.cTup K) rfl F.b_tuple Nz.boot_tuple (pa_cons (pv 5) pa_nil)) pa_nil))))))) pss_nil)
    (pss_one (ps_ret (pe_op (Nz.catA K) (pe_tup (pa_cons (pv 4) pa_nil)) (pe_callTy (Nz.cTup K) rfl F.b_tuple Nz.boot_tuple (pa_cons (pv 3) pa_nil))))))))))))), fun ds d h => ?_⟩)
  · obtain ⟨t, p, o, u, _, _, _, _, rfl, _⟩ := h
    rfl
  obtain ⟨⟨hh, ks⟩, p, o, u, hw, hn, hl, hu, rfl, rfl⟩ := h
  cases p with
  | nil =>
    exact sq_if (b := true) (et_test (ed_op (ed_cb (ea_cons (ed_var rfl) ea_nil) rc_lenT) ed_int (rd_eqIb rfl))) (fun _ => sq_ret (ed_var rfl) rfl) (fun z => by cases z)
  | cons k r =>
    obtain ⟨v, hv⟩ : ∃ v, ks[k]? = some v := by
      cases e : ks[k]? with
      | some v => exact ⟨v, rfl⟩
      | none =>
        have : subI (.nd hh ks) (k : Int) = none := by
          unfold subI
          rw [if_pos (Int.natCast_nonneg k)]
          exact e
        unfold partI at hu
        rw [List.map_cons, List.foldlM_cons, this] at hu
        cases hu
    have hkl : k < ks.length := (List.getElem?_eq_some_iff.mp hv).1
    have hwv : Wf v := wfs_all.mp hw.2 v (List.mem_of_getElem? hv)
    rw [partI_cons (t := .nd hh ks) hv] at hu
    rw [putT_cons hv]
    have lp : (prs (.nd hh ks)).length ≤ 1000 := by
      rw [← List.length_map (f := fun p : Tm × List Str => p.1), prs_fst hw]
      exact Nat.le_trans (kids_len hw) (by decide)
    have hl' : r.length + 1 ≤ 1000 := hl
    have hn' : r.length + 1 ≤ n := hn
    refine sq_if (b := false) (et_test (ed_op (ed_cb (ea_cons (ed_var rfl) ea_nil) rc_lenT) ed_int (rd_eqIb (by rw [List.length_map]; exact decide_eq_false (by show ((r.length + 1 : Nat) : Int) ≠ 0; omega))))) (fun z => by cases z) fun _ => ?_
    have e0 : (prs (.nd hh ks)).map (fun p => enc p.1) = ks.map enc := by
      have q := congrArg (List.map enc) (prs_fst hw)
      rw [List.map_map] at q
      exact q
    refine sq_setO (el_eq (el_lcM (vs := [6]) (prs (.nd hh ks)) prD (fun p => enc p.1) (small4 lp) rfl (src_list (EL.toD (el_call (ea_cons (ed_var rfl) ea_nil) ⟨.nd hh ks, hw, rfl, rfl⟩))) fun p hp => ⟨_, gw_name rfl, ed_op (ed_var rfl) ed_int rd_ixT0⟩) (ys := ks.map enc) e0) ?_
    have cd : cutD ((k :: r).map natD) (some 1) none = r.map natD := by
      rw [show (1 : Int) = ((1 : Nat) : Int) from rfl, cutD_drop]
      rfl
    refine sq_putO (j := k) (d := enc (putT v r o)) rfl (ed_call (ea_cons (ed_ixO rfl (ed_op (ed_var rfl) ed_int rd_ixT0) (atI_nat (by rw [List.getElem?_map, hv]; rfl))) (ea_cons (ed_eq (ed_slT (ed_var rfl) (eo_some ed_int) eo_none) (congrArg D.t cd)) (ea_cons (ed_var rfl) ea_nil))) ⟨v, r, o, u, hwv, by omega, by omega, hu, rfl, rfl⟩) (ed_op (ed_var rfl) ed_int rd_ixT0) (by rw [List.length_map]; exact hkl) ?_
    refine sd_freeze (i := 3) rfl ?_
    obtain ⟨ks', hks⟩ : ∃ ks', ks' = ks.set k (putT v r o) := ⟨_, rfl⟩
    have hl2 : ks'.length = ks.length := by rw [hks, List.length_set]
    have ek : (ks.map enc).set k (enc (putT v r o)) = ks'.map enc := by rw [hks, List.map_set]
    have ok := hw.1
    rw [← hks]
    show SD W0 _ [_, _, _, Sl.d (D.l ((ks.map enc).set k (enc (putT v r o)))), _, _, _, _] _
    rw [ek]
    cases hh with
    | op w =>
      have e1 : enc (.nd (.op w) ks') = .t (.s w :: ks'.map enc) := enc_op
      have l5 : ks'.length ≤ 5 := by rw [hl2]; exact kids_le ok
      rw [e1]
      rcases op_cases ok with ⟨rfl, _, _, _, rfl⟩ | ⟨rfl, _, rfl⟩ | ⟨rfl, _, rfl⟩ | ⟨rfl, _, _, rfl⟩ | ⟨rfl, _, _, rfl⟩ | ⟨rfl, _, _, rfl⟩ | ⟨rfl, _, _, rfl⟩ | ⟨rfl, _, _, rfl⟩ | ⟨rfl, _, _, rfl⟩ <;>
      ( (repeat (first
    | ((with_reducible apply sq_set); (focus ((repeat' (first
      | with_reducible exact ed_str | with_reducible exact ed_int | with_reducible exact ed_bl | with_reducible exact ed_non
      | exact ed_var rfl | exact ed_var (by assumption) | with_reducible exact ea_nil | with_reducible apply ea_cons
      | with_reducible apply et_test | with_reducible apply et_B | with_reducible apply et_not
      | with_reducible apply ed_tup | with_reducible apply ed_op | with_reducible apply el_lst
      | exact rd_eqSb rfl | exact rd_neSb rfl | exact rd_eqIb rfl | exact rd_neIb rfl
      | exact rd_ixT0 | exact rd_ixT1 | exact rd_ixT2 | exact rd_bool rfl | exact rd_int rfl | exact rd_inTc rfl rfl rfl | exact short_size rfl)); done)))
    | ((with_reducible apply sq_ifT); (focus ((repeat' (first
      | with_reducible exact ed_str | with_reducible exact ed_int | with_reducible exact ed_bl | with_reducible exact ed_non
      | exact ed_var rfl | exact ed_var (by assumption) | with_reducible exact ea_nil | with_reducible apply ea_cons
      | with_reducible apply et_test | with_reducible apply et_B | with_reducible apply et_not
      | with_reducible apply ed_tup | with_reducible apply ed_op | with_reducible apply el_lst
      | exact rd_eqSb rfl | exact rd_neSb rfl | exact rd_eqIb rfl | exact rd_neIb rfl
      | exact rd_ixT0 | exact rd_ixT1 | exact rd_ixT2 | exact rd_bool rfl | exact rd_int rfl | exact rd_inTc rfl rfl rfl | exact short_size rfl)); done)); (focus rfl))
    | ((with_reducible apply sq_ifF); (focus ((repeat' (first
      | with_reducible exact ed_str | with_reducible exact ed_int | with_reducible exact ed_bl | with_reducible exact ed_non
      | exact ed_var rfl | exact ed_var (by assumption) | with_reducible exact ea_nil | with_reducible apply ea_cons
      | with_reducible apply et_test | with_reducible apply et_B | with_reducible apply et_not
      | with_reducible apply ed_tup | with_reducible apply ed_op | with_reducible apply el_lst
      | exact rd_eqSb rfl | exact rd_neSb rfl | exact rd_eqIb rfl | exact rd_neIb rfl
      | exact rd_ixT0 | exact rd_ixT1 | exact rd_ixT2 | exact rd_bool rfl | exact rd_int rfl | exact rd_inTc rfl rfl rfl | exact short_size rfl)); done)); (focus rfl))
    | ((with_reducible apply sq_ret); (focus ((repeat' (first
      | with_reducible exact ed_str | with_reducible exact ed_int | with_reducible exact ed_bl | with_reducible exact ed_non
      | exact ed_var rfl | exact ed_var (by assumption) | with_reducible exact ea_nil | with_reducible apply ea_cons
      | with_reducible apply et_test | with_reducible apply et_B | with_reducible apply et_not
      | with_reducible apply ed_tup | with_reducible apply ed_op | with_reducible apply el_lst
      | exact rd_eqSb rfl | exact rd_neSb rfl | exact rd_eqIb rfl | exact rd_neIb rfl
      | exact rd_ixT0 | exact rd_ixT1 | exact rd_ixT2 | exact rd_bool rfl | exact rd_int rfl | exact rd_inTc rfl rfl rfl | exact short_size rfl)); done)); (focus rfl))
    | ((with_reducible apply sd_ret); (focus ((repeat' (first
      | with_reducible exact ed_str | with_reducible exact ed_int | with_reducible exact ed_bl | with_reducible exact ed_non
      | exact ed_var rfl | exact ed_var (by assumption) | with_reducible exact ea_nil | with_reducible apply ea_cons
      | with_reducible apply et_test | with_reducible apply et_B | with_reducible apply et_not
      | with_reducible apply ed_tup | with_reducible apply ed_op | with_reducible apply el_lst
      | exact rd_eqSb rfl | exact rd_neSb rfl | exact rd_eqIb rfl | exact rd_neIb rfl
      | exact rd_ixT0 | exact rd_ixT1 | exact rd_ixT2 | exact rd_bool rfl | exact rd_int rfl | exact rd_inTc rfl rfl rfl | exact short_size rfl)); done)); (focus rfl))
    | ((with_reducible apply sq_retL); (focus ((repeat' (first
      | with_reducible exact ed_str | with_reducible exact ed_int | with_reducible exact ed_bl | with_reducible exact ed_non
      | exact ed_var rfl | exact ed_var (by assumption) | with_reducible exact ea_nil | with_reducible apply ea_cons
      | with_reducible apply et_test | with_reducible apply et_B | with_reducible apply et_not
      | with_reducible apply ed_tup | with_reducible apply ed_op | with_reducible apply el_lst
      | exact rd_eqSb rfl | exact rd_neSb rfl | exact rd_eqIb rfl | exact rd_neIb rfl
      | exact rd_ixT0 | exact rd_ixT1 | exact rd_ixT2 | exact rd_bool rfl | exact rd_int rfl | exact rd_inTc rfl rfl rfl | exact short_size rfl)); done)); (focus rfl))
    | ((with_reducible apply sd_retL); (focus ((repeat' (first
      | with_reducible exact ed_str | with_reducible exact ed_int | with_reducible exact ed_bl | with_reducible exact ed_non
      | exact ed_var rfl | exact ed_var (by assumption) | with_reducible exact ea_nil | with_reducible apply ea_cons
      | with_reducible apply et_test | with_reducible apply et_B | with_reducible apply et_not
      | with_reducible apply ed_tup | with_reducible apply ed_op | with_reducible apply el_lst
      | exact rd_eqSb rfl | exact rd_neSb rfl | exact rd_eqIb rfl | exact rd_neIb rfl
      | exact rd_ixT0 | exact rd_ixT1 | exact rd_ixT2 | exact rd_bool rfl | exact rd_int rfl | exact rd_inTc rfl rfl rfl | exact short_size rfl)); done)); (focus rfl))))
        exact sd_ret (ed_op (ed_tup (ea_cons (ed_var rfl) ea_nil) (short_size rfl)) (ed_cb (ea_cons (ed_var rfl) ea_nil) rc_tupL) (rd_catT (by rw [List.length_map]; exact small4 (by show 1 + ks'.length ≤ 1000; omega)))) rfl)
    | fn x =>
      obtain ⟨m, rfl⟩ := one_of ok
      obtain ⟨m', rfl⟩ := one_of (hl2.trans ok)
      (repeat (first
    | ((with_reducible apply sq_set); (focus ((repeat' (first
      | with_reducible exact ed_str | with_reducible exact ed_int | with_reducible exact ed_bl | with_reducible exact ed_non
      | exact ed_var rfl | exact ed_var (by assumption) | with_reducible exact ea_nil | with_reducible apply ea_cons
      | with_reducible apply et_test | with_reducible apply et_B | with_reducible apply et_not
      | with_reducible apply ed_tup | with_reducible apply ed_op | with_reducible apply el_lst
      | exact rd_eqSb rfl | exact rd_neSb rfl | exact rd_eqIb rfl | exact rd_neIb rfl
      | exact rd_ixT0 | exact rd_ixT1 | exact rd_ixT2 | exact rd_bool rfl | exact rd_int rfl | exact rd_inTc rfl rfl rfl | exact short_size rfl)); done)))
    | ((with_reducible apply sq_ifT); (focus ((repeat' (first
      | with_reducible exact ed_str | with_reducible exact ed_int | with_reducible exact ed_bl | with_reducible exact ed_non
      | exact ed_var rfl | exact ed_var (by assumption) | with_reducible exact ea_nil | with_reducible apply ea_cons
      | with_reducible apply et_test | with_reducible apply et_B | with_reducible apply et_not
      | with_reducible apply ed_tup | with_reducible apply ed_op | with_reducible apply el_lst
      | exact rd_eqSb rfl | exact rd_neSb rfl | exact rd_eqIb rfl | exact rd_neIb rfl
      | exact rd_ixT0 | exact rd_ixT1 | exact rd_ixT2 | exact rd_bool rfl | exact rd_int rfl | exact rd_inTc rfl rfl rfl | exact short_size rfl)); done)); (focus rfl))
    | ((with_reducible apply sq_ifF); (focus ((repeat' (first
      | with_reducible exact ed_str | with_reducible exact ed_int | with_reducible exact ed_bl | with_reducible exact ed_non
      | exact ed_var rfl | exact ed_var (by assumption) | with_reducible exact ea_nil | with_reducible apply ea_cons
      | with_reducible apply et_test | with_reducible apply et_B | with_reducible apply et_not
      | with_reducible apply ed_tup | with_reducible apply ed_op | with_reducible apply el_lst
      | exact rd_eqSb rfl | exact rd_neSb rfl | exact rd_eqIb rfl | exact rd_neIb rfl
      | exact rd_ixT0 | exact rd_ixT1 | exact rd_ixT2 | exact rd_bool rfl | exact rd_int rfl | exact rd_inTc rfl rfl rfl | exact short_size rfl)); done)); (focus rfl))
    | ((with_reducible apply sq_ret); (focus ((repeat' (first
      | with_reducible exact ed_str | with_reducible exact ed_int | with_reducible exact ed_bl | with_reducible exact ed_non
      | exact ed_var rfl | exact ed_var (by assumption) | with_reducible exact ea_nil | with_reducible apply ea_cons
      | with_reducible apply et_test | with_reducible apply et_B | with_reducible apply et_not
      | with_reducible apply ed_tup | with_reducible apply ed_op | with_reducible apply el_lst
      | exact rd_eqSb rfl | exact rd_neSb rfl | exact rd_eqIb rfl | exact rd_neIb rfl
      | exact rd_ixT0 | exact rd_ixT1 | exact rd_ixT2 | exact rd_bool rfl | exact rd_int rfl | exact rd_inTc rfl rfl rfl | exact short_size rfl)); done)); (focus rfl))
    | ((with_reducible apply sd_ret); (focus ((repeat' (first
      | with_reducible exact ed_str | with_reducible exact ed_int | with_reducible exact ed_bl | with_reducible exact ed_non
      | exact ed_var rfl | exact ed_var (by assumption) | with_reducible exact ea_nil | with_reducible apply ea_cons
      | with_reducible apply et_test | with_reducible apply et_B | with_reducible apply et_not
      | with_reducible apply ed_tup | with_reducible apply ed_op | with_reducible apply el_lst
      | exact rd_eqSb rfl | exact rd_neSb rfl | exact rd_eqIb rfl | exact rd_neIb rfl
      | exact rd_ixT0 | exact rd_ixT1 | exact rd_ixT2 | exact rd_bool rfl | exact rd_int rfl | exact rd_inTc rfl rfl rfl | exact short_size rfl)); done)); (focus rfl))
    | ((with_reducible apply sq_retL); (focus ((repeat' (first
      | with_reducible exact ed_str | with_reducible exact ed_int | with_reducible exact ed_bl | with_reducible exact ed_non
      | exact ed_var rfl | exact ed_var (by assumption) | with_reducible exact ea_nil | with_reducible apply ea_cons
      | with_reducible apply et_test | with_reducible apply et_B | with_reducible apply et_not
      | with_reducible apply ed_tup | with_reducible apply ed_op | with_reducible apply el_lst
      | exact rd_eqSb rfl | exact rd_neSb rfl | exact rd_eqIb rfl | exact rd_neIb rfl
      | exact rd_ixT0 | exact rd_ixT1 | exact rd_ixT2 | exact rd_bool rfl | exact rd_int rfl | exact rd_inTc rfl rfl rfl | exact short_size rfl)); done)); (focus rfl))
    | ((with_reducible apply sd_retL); (focus ((repeat' (first
      | with_reducible exact ed_str | with_reducible exact ed_int | with_reducible exact ed_bl | with_reducible exact ed_non
      | exact ed_var rfl | exact ed_var (by assumption) | with_reducible exact ea_nil | with_reducible apply ea_cons
      | with_reducible apply et_test | with_reducible apply et_B | with_reducible apply et_not
      | with_reducible apply ed_tup | with_reducible apply ed_op | with_reducible apply el_lst
      | exact rd_eqSb rfl | exact rd_neSb rfl | exact rd_eqIb rfl | exact rd_neIb rfl
      | exact rd_ixT0 | exact rd_ixT1 | exact rd_ixT2 | exact rd_bool rfl | exact rd_int rfl | exact rd_inTc rfl rfl rfl | exact short_size rfl)); done)); (focus rfl))))
      exact sq_ret (ed_tup (ea_cons ed_str (ea_cons (ed_op (ed_var rfl) ed_int rd_ixT1) (ea_cons (ed_op (ed_var rfl) ed_int (rd_ixL (atI_nat (j := 0) rfl))) ea_nil))) (short_size rfl)) rfl
    | call x =>
      obtain ⟨m, rfl⟩ := one_of ok
      obtain ⟨m', rfl⟩ := one_of (hl2.trans ok)
      (repeat (first
    | ((with_reducible apply sq_set); (focus ((repeat' (first
      | with_reducible exact ed_str | with_reducible exact ed_int | with_reducible exact ed_bl | with_reducible exact ed_non
      | exact ed_var rfl | exact ed_var (by assumption) | with_reducible exact ea_nil | with_reducible apply ea_cons
      | with_reducible apply et_test | with_reducible apply et_B | with_reducible apply et_not
      | with_reducible apply ed_tup | with_reducible apply ed_op | with_reducible apply el_lst
      | exact rd_eqSb rfl | exact rd_neSb rfl | exact rd_eqIb rfl | exact rd_neIb rfl
      | exact rd_ixT0 | exact rd_ixT1 | exact rd_ixT2 | exact rd_bool rfl | exact rd_int rfl | exact rd_inTc rfl rfl rfl | exact short_size rfl)); done)))
    | ((with_reducible apply sq_ifT); (focus ((repeat' (first
      | with_reducible exact ed_str | with_reducible exact ed_int | with_reducible exact ed_bl | with_reducible exact ed_non
      | exact ed_var rfl | exact ed_var (by assumption) | with_reducible exact ea_nil | with_reducible apply ea_cons
      | with_reducible apply et_test | with_reducible apply et_B | with_reducible apply et_not
      | with_reducible apply ed_tup | with_reducible apply ed_op | with_reducible apply el_lst
      | exact rd_eqSb rfl | exact rd_neSb rfl | exact rd_eqIb rfl | exact rd_neIb rfl
      | exact rd_ixT0 | exact rd_ixT1 | exact rd_ixT2 | exact rd_bool rfl | exact rd_int rfl | exact rd_inTc rfl rfl rfl | exact short_size rfl)); done)); (focus rfl))
    | ((with_reducible apply sq_ifF); (focus ((repeat' (first
      | with_reducible exact ed_str | with_reducible exact ed_int | with_reducible exact ed_bl | with_reducible exact ed_non
      | exact ed_var rfl | exact ed_var (by assumption) | with_reducible exact ea_nil | with_reducible apply ea_cons
      | with_reducible apply et_test | with_reducible apply et_B | with_reducible apply et_not
      | with_reducible apply ed_tup | with_reducible apply ed_op | with_reducible apply el_lst
      | exact rd_eqSb rfl | exact rd_neSb rfl | exact rd_eqIb rfl | exact rd_neIb rfl
      | exact rd_ixT0 | exact rd_ixT1 | exact rd_ixT2 | exact rd_bool rfl | exact rd_int rfl | exact rd_inTc rfl rfl rfl | exact short_size rfl)); done)); (focus rfl))
    | ((with_reducible apply sq_ret); (focus ((repeat' (first
      | with_reducible exact ed_str | with_reducible exact ed_int | with_reducible exact ed_bl | with_reducible exact ed_non
      | exact ed_var rfl | exact ed_var (by assumption) | with_reducible exact ea_nil | with_reducible apply ea_cons
      | with_reducible apply et_test | with_reducible apply et_B | with_reducible apply et_not
      | with_reducible apply ed_tup | with_reducible apply ed_op | with_reducible apply el_lst
      | exact rd_eqSb rfl | exact rd_neSb rfl | exact rd_eqIb rfl | exact rd_neIb rfl
      | exact rd_ixT0 | exact rd_ixT1 | exact rd_ixT2 | exact rd_bool rfl | exact rd_int rfl | exact rd_inTc rfl rfl rfl | exact short_size rfl)); done)); (focus rfl))
    | ((with_reducible apply sd_ret); (focus ((repeat' (first
      | with_reducible exact ed_str | with_reducible exact ed_int | with_reducible exact ed_bl | with_reducible exact ed_non
      | exact ed_var rfl | exact ed_var (by assumption) | with_reducible exact ea_nil | with_reducible apply ea_cons
      | with_reducible apply et_test | with_reducible apply et_B | with_reducible apply et_not
      | with_reducible apply ed_tup | with_reducible apply ed_op | with_reducible apply el_lst
      | exact rd_eqSb rfl | exact rd_neSb rfl | exact rd_eqIb rfl | exact rd_neIb rfl
      | exact rd_ixT0 | exact rd_ixT1 | exact rd_ixT2 | exact rd_bool rfl | exact rd_int rfl | exact rd_inTc rfl rfl rfl | exact short_size rfl)); done)); (focus rfl))
    | ((with_reducible apply sq_retL); (focus ((repeat' (first
      | with_reducible exact ed_str | with_reducible exact ed_int | with_reducible exact ed_bl | with_reducible exact ed_non
      | exact ed_var rfl | exact ed_var (by assumption) | with_reducible exact ea_nil | with_reducible apply ea_cons
      | with_reducible apply et_test | with_reducible apply et_B | with_reducible apply et_not
      | with_reducible apply ed_tup | with_reducible apply ed_op | with_reducible apply el_lst
      | exact rd_eqSb rfl | exact rd_neSb rfl | exact rd_eqIb rfl | exact rd_neIb rfl
      | exact rd_ixT0 | exact rd_ixT1 | exact rd_ixT2 | exact rd_bool rfl | exact rd_int rfl | exact rd_inTc rfl rfl rfl | exact short_size rfl)); done)); (focus rfl))
    | ((with_reducible apply sd_retL); (focus ((repeat' (first
      | with_reducible exact ed_str | with_reducible exact ed_int | with_reducible exact ed_bl | with_reducible exact ed_non
      | exact ed_var rfl | exact ed_var (by assumption) | with_reducible exact ea_nil | with_reducible apply ea_cons
      | with_reducible apply et_test | with_reducible apply et_B | with_reducible apply et_not
      | with_reducible apply ed_tup | with_reducible apply ed_op | with_reducible apply el_lst
      | exact rd_eqSb rfl | exact rd_neSb rfl | exact rd_eqIb rfl | exact rd_neIb rfl
      | exact rd_ixT0 | exact rd_ixT1 | exact rd_ixT2 | exact rd_bool rfl | exact rd_int rfl | exact rd_inTc rfl rfl rfl | exact short_size rfl)); done)); (focus rfl))))
      exact sq_ret (ed_tup (ea_cons ed_str (ea_cons (ed_op (ed_var rfl) ed_int (rd_ixL (atI_nat (j := 0) rfl))) (ea_cons (ed_op (ed_var rfl) ed_int rd_ixT2) ea_nil))) (short_size rfl)) rfl
    | lets xs =>
      obtain ⟨h1, h4⟩ := ok
      obtain ⟨ms, m, e2, hm⟩ := last_of h1
      obtain ⟨ms', m', rfl, hm'⟩ := last_of (hl2.trans h1)
      rw [e2, enc_lets hm, enc_lets hm']
      (repeat (first
    | ((with_reducible apply sq_set); (focus ((repeat' (first
      | with_reducible exact ed_str | with_reducible exact ed_int | with_reducible exact ed_bl | with_reducible exact ed_non
      | exact ed_var rfl | exact ed_var (by assumption) | with_reducible exact ea_nil | with_reducible apply ea_cons
      | with_reducible apply et_test | with_reducible apply et_B | with_reducible apply et_not
      | with_reducible apply ed_tup | with_reducible apply ed_op | with_reducible apply el_lst
      | exact rd_eqSb rfl | exact rd_neSb rfl | exact rd_eqIb rfl | exact rd_neIb rfl
      | exact rd_ixT0 | exact rd_ixT1 | exact rd_ixT2 | exact rd_bool rfl | exact rd_int rfl | exact rd_inTc rfl rfl rfl | exact short_size rfl)); done)))
    | ((with_reducible apply sq_ifT); (focus ((repeat' (first
      | with_reducible exact ed_str | with_reducible exact ed_int | with_reducible exact ed_bl | with_reducible exact ed_non
      | exact ed_var rfl | exact ed_var (by assumption) | with_reducible exact ea_nil | with_reducible apply ea_cons
      | with_reducible apply et_test | with_reducible apply et_B | with_reducible apply et_not
      | with_reducible apply ed_tup | with_reducible apply ed_op | with_reducible apply el_lst
      | exact rd_eqSb rfl | exact rd_neSb rfl | exact rd_eqIb rfl | exact rd_neIb rfl
      | exact rd_ixT0 | exact rd_ixT1 | exact rd_ixT2 | exact rd_bool rfl | exact rd_int rfl | exact rd_inTc rfl rfl rfl | exact short_size rfl)); done)); (focus rfl))
    | ((with_reducible apply sq_ifF); (focus ((repeat' (first
      | with_reducible exact ed_str | with_reducible exact ed_int | with_reducible exact ed_bl | with_reducible exact ed_non
      | exact ed_var rfl | exact ed_var (by assumption) | with_reducible exact ea_nil | with_reducible apply ea_cons
      | with_reducible apply et_test | with_reducible apply et_B | with_reducible apply et_not
      | with_reducible apply ed_tup | with_reducible apply ed_op | with_reducible apply el_lst
      | exact rd_eqSb rfl | exact rd_neSb rfl | exact rd_eqIb rfl | exact rd_neIb rfl
      | exact rd_ixT0 | exact rd_ixT1 | exact rd_ixT2 | exact rd_bool rfl | exact rd_int rfl | exact rd_inTc rfl rfl rfl | exact short_size rfl)); done)); (focus rfl))
    | ((with_reducible apply sq_ret); (focus ((repeat' (first
      | with_reducible exact ed_str | with_reducible exact ed_int | with_reducible exact ed_bl | with_reducible exact ed_non
      | exact ed_var rfl | exact ed_var (by assumption) | with_reducible exact ea_nil | with_reducible apply ea_cons
      | with_reducible apply et_test | with_reducible apply et_B | with_reducible apply et_not
      | with_reducible apply ed_tup | with_reducible apply ed_op | with_reducible apply el_lst
      | exact rd_eqSb rfl | exact rd_neSb rfl | exact rd_eqIb rfl | exact rd_neIb rfl
      | exact rd_ixT0 | exact rd_ixT1 | exact rd_ixT2 | exact rd_bool rfl | exact rd_int rfl | exact rd_inTc rfl rfl rfl | exact short_size rfl)); done)); (focus rfl))
    | ((with_reducible apply sd_ret); (focus ((repeat' (first
      | with_reducible exact ed_str | with_reducible exact ed_int | with_reducible exact ed_bl | with_reducible exact ed_non
      | exact ed_var rfl | exact ed_var (by assumption) | with_reducible exact ea_nil | with_reducible apply ea_cons
      | with_reducible apply et_test | with_reducible apply et_B | with_reducible apply et_not
      | with_reducible apply ed_tup | with_reducible apply ed_op | with_reducible apply el_lst
      | exact rd_eqSb rfl | exact rd_neSb rfl | exact rd_eqIb rfl | exact rd_neIb rfl
      | exact rd_ixT0 | exact rd_ixT1 | exact rd_ixT2 | exact rd_bool rfl | exact rd_int rfl | exact rd_inTc rfl rfl rfl | exact short_size rfl)); done)); (focus rfl))
    | ((with_reducible apply sq_retL); (focus ((repeat' (first
      | with_reducible exact ed_str | with_reducible exact ed_int | with_reducible exact ed_bl | with_reducible exact ed_non
      | exact ed_var rfl | exact ed_var (by assumption) | with_reducible exact ea_nil | with_reducible apply ea_cons
      | with_reducible apply et_test | with_reducible apply et_B | with_reducible apply et_not
      | with_reducible apply ed_tup | with_reducible apply ed_op | with_reducible apply el_lst
      | exact rd_eqSb rfl | exact rd_neSb rfl | exact rd_eqIb rfl | exact rd_neIb rfl
      | exact rd_ixT0 | exact rd_ixT1 | exact rd_ixT2 | exact rd_bool rfl | exact rd_int rfl | exact rd_inTc rfl rfl rfl | exact short_size rfl)); done)); (focus rfl))
    | ((with_reducible apply sd_retL); (focus ((repeat' (first
      | with_reducible exact ed_str | with_reducible exact ed_int | with_reducible exact ed_bl | with_reducible exact ed_non
      | exact ed_var rfl | exact ed_var (by assumption) | with_reducible exact ea_nil | with_reducible apply ea_cons
      | with_reducible apply et_test | with_reducible apply et_B | with_reducible apply et_not
      | with_reducible apply ed_tup | with_reducible apply ed_op | with_reducible apply el_lst
      | exact rd_eqSb rfl | exact rd_neSb rfl | exact rd_eqIb rfl | exact rd_neIb rfl
      | exact rd_ixT0 | exact rd_ixT1 | exact rd_ixT2 | exact rd_bool rfl | exact rd_int rfl | exact rd_inTc rfl rfl rfl | exact short_size rfl)); done)); (focus rfl))))
      obtain ⟨L, hL⟩ : ∃ L, L = (xs.zip ms').map fun p => D.t [.s p.1, enc p.2] := ⟨_, rfl⟩
      have Ln : L.length = xs.length := by rw [hL, List.length_map, List.length_zip]; omega
      rw [← hL]
      refine sq_assoc (sq_set (d := .l L) (EL.toD (el_eq (el_lcM (vs := [7]) (List.range L.length) natD (fun i => L.getD i .n) (small4 (by rw [List.length_range]; omega)) rfl (src_rng (n := L.length) (ea_cons (ed_eq (ed_cb (ea_cons (ed_op (ed_var rfl) ed_int rd_ixT1) ea_nil) rc_lenT) ?_) ea_nil) (by omega)) fun i hi => ⟨_, gw_name rfl, ?_⟩) (range_getD L))) ?_)
      · rw [List.length_map, List.length_zip, hm, Nat.min_self, Ln]
      · have hi' : i < xs.length := by
          rw [← Ln]
          exact List.mem_range.mp hi
        have i1 : i < ms.length := by omega
        have i2 : i < ms'.length := by omega
        have hA : (((xs.zip ms).map fun p => D.t [.s p.1, enc p.2]))[i]? = some (.t [.s xs[i], enc ms[i]]) := by
          rw [List.getElem?_map, (List.getElem?_zip_eq_some (z := (xs[i], ms[i]))).mpr ⟨List.getElem?_eq_getElem hi', List.getElem?_eq_getElem i1⟩]
          rfl
        have hB : ((ms' ++ [m']).map enc)[i]? = some (enc ms'[i]) := by
          rw [List.getElem?_map, List.getElem?_append_left i2, List.getElem?_eq_getElem i2]
          rfl
        have hC : L[i]? = some (.t [.s xs[i], enc ms'[i]]) := by
          rw [hL, List.getElem?_map, (List.getElem?_zip_eq_some (z := (xs[i], ms'[i]))).mpr ⟨List.getElem?_eq_getElem hi', List.getElem?_eq_getElem i2⟩]
          rfl
        exact ed_eq (ed_tup (ea_cons (ed_op (ed_op (ed_op (ed_var rfl) ed_int rd_ixT1) (ed_var rfl) (rd_ixT (atI_nat hA))) ed_int rd_ixT0) (ea_cons (ed_op (ed_var rfl) (ed_var rfl) (rd_ixL (atI_nat hB))) ea_nil)) (short_size rfl)) (getD_of hC).symm
      · refine sq_ret (ed_tup (ea_cons ed_str (ea_cons (ed_cb (ea_cons (ed_var rfl) ea_nil) rc_tupL) (ea_cons (ed_op (z := enc m') (ed_var rfl) (ed_op (z := natD ms'.length) (ed_cb (ea_cons (ed_var rfl) ea_nil) rc_lenL) ed_int (rd_int (congrArg V.int ?_))) (rd_ixL (atI_nat ?_))) ea_nil))) (short_size rfl)) rfl
        · rw [List.length_map, List.length_append]
          show ((ms'.length + 1 : Nat) : Int) - 1 = _
          omega
        · rw [List.map_append, List.getElem?_append_right (by rw [List.length_map]; exact Nat.le_refl _), List.length_map, Nat.sub_self]
          rfl
    | case rs =>
      obtain ⟨h1, h4, h5⟩ := ok
      obtain ⟨m, ms, e2, hm⟩ := cons_of h1
      obtain ⟨m', ms', rfl, hm'⟩ := cons_of (hl2.trans h1)
      rw [e2, enc_case, enc_case]
      (repeat (first
    | ((with_reducible apply sq_set); (focus ((repeat' (first
      | with_reducible exact ed_str | with_reducible exact ed_int | with_reducible exact ed_bl | with_reducible exact ed_non
      | exact ed_var rfl | exact ed_var (by assumption) | with_reducible exact ea_nil | with_reducible apply ea_cons
      | with_reducible apply et_test | with_reducible apply et_B | with_reducible apply et_not
      | with_reducible apply ed_tup | with_reducible apply ed_op | with_reducible apply el_lst
      | exact rd_eqSb rfl | exact rd_neSb rfl | exact rd_eqIb rfl | exact rd_neIb rfl
      | exact rd_ixT0 | exact rd_ixT1 | exact rd_ixT2 | exact rd_bool rfl | exact rd_int rfl | exact rd_inTc rfl rfl rfl | exact short_size rfl)); done)))
    | ((with_reducible apply sq_ifT); (focus ((repeat' (first
      | with_reducible exact ed_str | with_reducible exact ed_int | with_reducible exact ed_bl | with_reducible exact ed_non
      | exact ed_var rfl | exact ed_var (by assumption) | with_reducible exact ea_nil | with_reducible apply ea_cons
      | with_reducible apply et_test | with_reducible apply et_B | with_reducible apply et_not
      | with_reducible apply ed_tup | with_reducible apply ed_op | with_reducible apply el_lst
      | exact rd_eqSb rfl | exact rd_neSb rfl | exact rd_eqIb rfl | exact rd_neIb rfl
      | exact rd_ixT0 | exact rd_ixT1 | exact rd_ixT2 | exact rd_bool rfl | exact rd_int rfl | exact rd_inTc rfl rfl rfl | exact short_size rfl)); done)); (focus rfl))
    | ((with_reducible apply sq_ifF); (focus ((repeat' (first
      | with_reducible exact ed_str | with_reducible exact ed_int | with_reducible exact ed_bl | with_reducible exact ed_non
      | exact ed_var rfl | exact ed_var (by assumption) | with_reducible exact ea_nil | with_reducible apply ea_cons
      | with_reducible apply et_test | with_reducible apply et_B | with_reducible apply et_not
      | with_reducible apply ed_tup | with_reducible apply ed_op | with_reducible apply el_lst
      | exact rd_eqSb rfl | exact rd_neSb rfl | exact rd_eqIb rfl | exact rd_neIb rfl
      | exact rd_ixT0 | exact rd_ixT1 | exact rd_ixT2 | exact rd_bool rfl | exact rd_int rfl | exact rd_inTc rfl rfl rfl | exact short_size rfl)); done)); (focus rfl))
    | ((with_reducible apply sq_ret); (focus ((repeat' (first
      | with_reducible exact ed_str | with_reducible exact ed_int | with_reducible exact ed_bl | with_reducible exact ed_non
      | exact ed_var rfl | exact ed_var (by assumption) | with_reducible exact ea_nil | with_reducible apply ea_cons
      | with_reducible apply et_test | with_reducible apply et_B | with_reducible apply et_not
      | with_reducible apply ed_tup | with_reducible apply ed_op | with_reducible apply el_lst
      | exact rd_eqSb rfl | exact rd_neSb rfl | exact rd_eqIb rfl | exact rd_neIb rfl
      | exact rd_ixT0 | exact rd_ixT1 | exact rd_ixT2 | exact rd_bool rfl | exact rd_int rfl | exact rd_inTc rfl rfl rfl | exact short_size rfl)); done)); (focus rfl))
    | ((with_reducible apply sd_ret); (focus ((repeat' (first
      | with_reducible exact ed_str | with_reducible exact ed_int | with_reducible exact ed_bl | with_reducible exact ed_non
      | exact ed_var rfl | exact ed_var (by assumption) | with_reducible exact ea_nil | with_reducible apply ea_cons
      | with_reducible apply et_test | with_reducible apply et_B | with_reducible apply et_not
      | with_reducible apply ed_tup | with_reducible apply ed_op | with_reducible apply el_lst
      | exact rd_eqSb rfl | exact rd_neSb rfl | exact rd_eqIb rfl | exact rd_neIb rfl
      | exact rd_ixT0 | exact rd_ixT1 | exact rd_ixT2 | exact rd_bool rfl | exact rd_int rfl | exact rd_inTc rfl rfl rfl | exact short_size rfl)); done)); (focus rfl))
    | ((with_reducible apply sq_retL); (focus ((repeat' (first
      | with_reducible exact ed_str | with_reducible exact ed_int | with_reducible exact ed_bl | with_reducible exact ed_non
      | exact ed_var rfl | exact ed_var (by assumption) | with_reducible exact ea_nil | with_reducible apply ea_cons
      | with_reducible apply et_test | with_reducible apply et_B | with_reducible apply et_not
      | with_reducible apply ed_tup | with_reducible apply ed_op | with_reducible apply el_lst
      | exact rd_eqSb rfl | exact rd_neSb rfl | exact rd_eqIb rfl | exact rd_neIb rfl
      | exact rd_ixT0 | exact rd_ixT1 | exact rd_ixT2 | exact rd_bool rfl | exact rd_int rfl | exact rd_inTc rfl rfl rfl | exact short_size rfl)); done)); (focus rfl))
    | ((with_reducible apply sd_retL); (focus ((repeat' (first
      | with_reducible exact ed_str | with_reducible exact ed_int | with_reducible exact ed_bl | with_reducible exact ed_non
      | exact ed_var rfl | exact ed_var (by assumption) | with_reducible exact ea_nil | with_reducible apply ea_cons
      | with_reducible apply et_test | with_reducible apply et_B | with_reducible apply et_not
      | with_reducible apply ed_tup | with_reducible apply ed_op | with_reducible apply el_lst
      | exact rd_eqSb rfl | exact rd_neSb rfl | exact rd_eqIb rfl | exact rd_neIb rfl
      | exact rd_ixT0 | exact rd_ixT1 | exact rd_ixT2 | exact rd_bool rfl | exact rd_int rfl | exact rd_inTc rfl rfl rfl | exact short_size rfl)); done)); (focus rfl))))
      obtain ⟨L, hL⟩ : ∃ L, L = (rs.zip ms').map fun p => D.t [.s p.1.1, tS p.1.2, enc p.2] := ⟨_, rfl⟩
      have Ln : L.length = rs.length := by rw [hL, List.length_map, List.length_zip]; omega
      rw [← hL]
      refine sq_assoc (sq_set (d := .l L) (EL.toD (el_eq (el_lcM (vs := [7]) (List.range L.length) natD (fun i => L.getD i .n) (small4 (by rw [List.length_range]; omega)) rfl (src_rng (n := L.length) (ea_cons (ed_eq (ed_cb (ea_cons (ed_op (ed_var rfl) ed_int rd_ixT2) ea_nil) rc_lenT) ?_) ea_nil) (by omega)) fun i hi => ⟨_, gw_name rfl, ?_⟩) (range_getD L))) ?_)
      · rw [List.length_map, List.length_zip, hm, Nat.min_self, Ln]
      · have hi' : i < rs.length := by
          rw [← Ln]
          exact List.mem_range.mp hi
        have i1 : i < ms.length := by omega
        have i2 : i < ms'.length := by omega
        have hA : (((rs.zip ms).map fun p => D.t [.s p.1.1, tS p.1.2, enc p.2]))[i]? = some (.t [.s rs[i].1, tS rs[i].2, enc ms[i]]) := by
          rw [List.getElem?_map, (List.getElem?_zip_eq_some (z := (rs[i], ms[i]))).mpr ⟨List.getElem?_eq_getElem hi', List.getElem?_eq_getElem i1⟩]
          rfl
        have hB : ((m' :: ms').map enc)[i + 1]? = some (enc ms'[i]) := by
          rw [List.map_cons, List.getElem?_cons_succ, List.getElem?_map, List.getElem?_eq_getElem i2]
          rfl
        have hC : L[i]? = some (.t [.s rs[i].1, tS rs[i].2, enc ms'[i]]) := by
          rw [hL, List.getElem?_map, (List.getElem?_zip_eq_some (z := (rs[i], ms'[i]))).mpr ⟨List.getElem?_eq_getElem hi', List.getElem?_eq_getElem i2⟩]
          rfl
        exact ed_eq (ed_tup (ea_cons (ed_op (ed_op (ed_op (ed_var rfl) ed_int rd_ixT2) (ed_var rfl) (rd_ixT (atI_nat hA))) ed_int rd_ixT0) (ea_cons (ed_op (ed_op (ed_op (ed_var rfl) ed_int rd_ixT2) (ed_var rfl) (rd_ixT (atI_nat hA))) ed_int rd_ixT1) (ea_cons (ed_op (ed_var rfl) (ed_op (z := natD (i + 1)) (ed_var rfl) ed_int (rd_int rfl)) (rd_ixL (atI_nat hB))) ea_nil))) (short_size rfl)) (getD_of hC).symm
      · exact sq_ret (ed_tup (ea_cons ed_str (ea_cons (ed_op (ed_var rfl) ed_int (rd_ixL (atI_nat (j := 0) rfl))) (ea_cons (ed_cb (ea_cons (ed_var rfl) ea_nil) rc_tupL) ea_nil))) (short_size rfl)) rfl
    | _ =>
      exfalso
      have : ks.length = 0 := by
        first
          | exact ok
          | exact ok.1
      omega
theorem k__law_put (F : Facts K mg) : ∀ n : Nat, C8.Cal P w K mg base (n + 2) "_law_put" (spR (R_lput n)) []
  | 0 => put_step F 0 (F._law_put.cal fun f fd hf => by
      have no : ∀ vs H Q E, ¬ spR (R_lput' 0) vs H Q E := fun vs H Q E h => by
        obtain ⟨_, _, _, _, _, ⟨t, _, _, _, _, h1, _⟩, _⟩ := h
        omega
      exact ⟨fun vs H Q E h => absurd h (no vs H Q E), fun A outer s H args us vs Q E _ _ _ _ h => absurd h (no vs H Q E)⟩)
  | n + 1 => put_step F (n + 1) (by
      obtain ⟨f, fd, ps, ds, G, r⟩ := (k__law_put F n).ex
      refine ⟨f, fd, ps, ds, (G.imp fun vs H Q E h => ?_), r⟩
      obtain ⟨S, ds, xs, dm, is, ⟨t, p, o, u, h1, h2, h3⟩, q⟩ := h
      exact ⟨S, ds, xs, dm, is, ⟨t, p, o, u, h1, by omega, h3⟩, q⟩)
end
end Nz
namespace Nz
open PySem L2
/-! ### sizes of what is compared -/
theorem dDs_le {n : Nat} : ∀ {xs : List D}, (∀ x ∈ xs, dD x ≤ n) → dDs xs ≤ n
  | [], _ => Nat.zero_le _
  | x :: r, h => Nat.max_le.mpr ⟨h x (List.mem_cons_self ..), dDs_le fun y m => h y (List.mem_cons_of_mem _ m)⟩
theorem smDs_of : ∀ {xs : List D}, (∀ x ∈ xs, smD x) → smDs xs
  | [], _ => trivial
  | x :: r, h => ⟨h x (List.mem_cons_self ..), smDs_of fun y m => h y (List.mem_cons_of_mem _ m)⟩
theorem dD_t {n : Nat} {xs : List D} (h : ∀ x ∈ xs, dD x ≤ n) : dD (.t xs) ≤ n + 1 := Nat.succ_le_succ (dDs_le h)
theorem dD_l {n : Nat} {xs : List D} (h : ∀ x ∈ xs, dD x ≤ n) : dD (.l xs) ≤ n + 1 := Nat.succ_le_succ (dDs_le h)
theorem smD_t {xs : List D} (hl : xs.length ≤ 1000000) (h : ∀ x ∈ xs, smD x) : smD (.t xs) := ⟨hl, smDs_of h⟩
theorem smD_l {xs : List D} (hl : xs.length ≤ 1000000) (h : ∀ x ∈ xs, smD x) : smD (.l xs) := ⟨hl, smDs_of h⟩
theorem tS_d (xs : List Str) : dD (tS xs) ≤ 1 := dD_t (n := 0) fun x m => by
  obtain ⟨s, _, rfl⟩ := List.mem_map.mp m
  exact Nat.le_refl _
theorem tS_s {xs : List Str} (h : xs.length ≤ 1000000) : smD (tS xs) := smD_t (by rw [List.length_map]; exact h) fun x m => by
  obtain ⟨s, _, rfl⟩ := List.mem_map.mp m
  trivial
theorem all3 {P : D → Prop} {a b c : D} (h1 : P a) (h2 : P b) (h3 : P c) : ∀ x ∈ [a, b, c], P x := fun x m => by
  rcases List.mem_cons.mp m with rfl | m
  · exact h1
  rcases List.mem_cons.mp m with rfl | m
  · exact h2
  cases List.mem_singleton.mp m
  exact h3
theorem all2 {P : D → Prop} {a b : D} (h1 : P a) (h2 : P b) : ∀ x ∈ [a, b], P x := fun x m => by
  rcases List.mem_cons.mp m with rfl | m
  · exact h1
  cases List.mem_singleton.mp m
  exact h2
theorem getD_all {P : D → Prop} {xs : List D} {i : Nat} (h : ∀ x ∈ xs, P x) (hn : P .n) : P (xs.getD i .n) := by
  rw [List.getD_eq_getElem?_getD]
  cases e : xs[i]? with
  | none => exact hn
  | some x => exact h x (List.mem_of_getElem? e)
/-- how deep a head's data lie above its parts' -/
def wt : Hd → Nat
  | .op _ => 1
  | _ => 4
mutual
def ew : Tm → Nat
  | .nd h ks => ews ks + wt h
def ews : List Tm → Nat
  | [] => 0
  | k :: r => max (ew k) (ews r)
end
theorem ews_le {n : Nat} : ∀ {ks : List Tm}, ews ks ≤ n ↔ ∀ k ∈ ks, ew k ≤ n
  | [] => ⟨fun _ => (fun x hx => nomatch hx), fun _ => Nat.zero_le _⟩
  | k :: r => by
    have ih := ews_le (n := n) (ks := r)
    refine ⟨fun h x hx => ?_, fun h => Nat.max_le.mpr ⟨h k (List.mem_cons_self ..), ih.mpr fun x hx => h x (List.mem_cons_of_mem _ hx)⟩⟩
    have h' := Nat.max_le.mp h
    rcases List.mem_cons.mp hx with rfl | hx
    · exact h'.1
    · exact ih.mp h'.2 x hx
theorem ew_mem {ks : List Tm} {k : Tm} (m : k ∈ ks) : ew k ≤ ews ks := ews_le.mp (Nat.le_refl _) k m
theorem wt_le (h : Hd) : wt h ≤ 4 := by
  cases h with
  | op w => show 1 ≤ 4; decide
  | _ => exact Nat.le_refl _
mutual
theorem ew_dep : ∀ t : Tm, ew t ≤ 4 * dep t
  | .nd h ks => by
    have h1 := ews_dep ks
    have h2 := wt_le h
    show ews ks + wt h ≤ 4 * (deps ks + 1)
    omega
theorem ews_dep : ∀ ks : List Tm, ews ks ≤ 4 * deps ks
  | [] => Nat.le_refl _
  | k :: r => by
    have h1 := ew_dep k
    have h2 := ews_dep r
    show max (ew k) (ews r) ≤ 4 * max (dep k) (deps r)
    omega
end
theorem dD_encH {h : Hd} {ds : List D} {n : Nat} (hd : ∀ d ∈ ds, dD d ≤ n) : dD (encH h ds) ≤ n + wt h := by
  have z : ∀ {x : D}, dD x ≤ n → dD x ≤ n + 3 := fun h => Nat.le_trans h (by omega)
  have g : ∀ i, dD (ds.getD i .n) ≤ n + 3 := fun i => getD_all (P := fun x => dD x ≤ n + 3) (fun x m => z (hd x m)) (Nat.zero_le _)
  cases h with
  | var x => exact dD_t (n := n + 3) (all2 (Nat.zero_le _) (Nat.zero_le _))
  | num x => exact dD_t (n := n + 3) (all2 (Nat.zero_le _) (Nat.zero_le _))
  | mk c xs => exact dD_t (n := n + 3) (all3 (Nat.zero_le _) (Nat.zero_le _) (Nat.le_trans (tS_d xs) (by omega)))
  | hole => exact dD_t (n := n + 3) fun x m => by cases List.mem_singleton.mp m; exact Nat.zero_le _
  | fn x => exact dD_t (n := n + 3) (all3 (Nat.zero_le _) (Nat.zero_le _) (g 0))
  | call x => exact dD_t (n := n + 3) (all3 (Nat.zero_le _) (g 0) (Nat.zero_le _))
  | lets xs =>
    refine dD_t (n := n + 3) (all3 (Nat.zero_le _) (dD_t (n := n + 2) fun x m => ?_) (g _))
    obtain ⟨p, hp, rfl⟩ := List.mem_map.mp m
    exact dD_t (n := n + 1) (all2 (Nat.zero_le _) (Nat.le_succ_of_le (hd _ (List.of_mem_zip (show (p.1, p.2) ∈ _ from hp)).2)))
  | case rs =>
    refine dD_t (n := n + 3) (all3 (Nat.zero_le _) (g 0) (dD_t (n := n + 2) fun x m => ?_))
    obtain ⟨p, hp, rfl⟩ := List.mem_map.mp m
    have := hd _ (List.mem_of_mem_tail (List.of_mem_zip (show (p.1, p.2) ∈ _ from hp)).2)
    have t1 := tS_d p.1.2
    exact dD_t (n := n + 1) (all3 (Nat.zero_le _) (by omega) (by omega))
  | op w =>
    refine dD_t (n := n) fun x m => ?_
    rcases List.mem_cons.mp m with rfl | m
    · exact Nat.zero_le _
    · exact hd x m
theorem sh1m {xs : List D} (h : shortL xs 40 = true) : xs.length ≤ 1000000 := Nat.le_trans (shortL_le h) (by decide)
theorem smD_encH {h : Hd} {ds : List D} (ok : okH h ds.length) (hd : ∀ d ∈ ds, smD d) : smD (encH h ds) := by
  have g : ∀ i, smD (ds.getD i .n) := fun i => getD_all hd trivial
  have k5 := kids_le ok
  cases h with
  | var x => exact smD_t (sh1m rfl) (all2 trivial trivial)
  | num x => exact smD_t (sh1m rfl) (all2 trivial trivial)
  | mk c xs => exact smD_t (sh1m rfl) (all3 trivial trivial (tS_s (Nat.le_trans ok.2 (by decide))))
  | hole => exact smD_t (sh1m rfl) fun x m => by cases List.mem_singleton.mp m; trivial
  | fn x => exact smD_t (sh1m rfl) (all3 trivial trivial (g 0))
  | call x => exact smD_t (sh1m rfl) (all3 trivial (g 0) trivial)
  | lets xs =>
    refine smD_t (sh1m rfl) (all3 trivial (smD_t ?_ fun x m => ?_) (g _))
    · rw [List.length_map, List.length_zip]
      omega
    obtain ⟨p, hp, rfl⟩ := List.mem_map.mp m
    exact smD_t (sh1m rfl) (all2 trivial (hd _ (List.of_mem_zip (show (p.1, p.2) ∈ _ from hp)).2))
  | case rs =>
    refine smD_t (sh1m rfl) (all3 trivial (g 0) (smD_t ?_ fun x m => ?_))
    · rw [List.length_map, List.length_zip, List.length_tail]
      omega
    obtain ⟨p, hp, rfl⟩ := List.mem_map.mp m
    have q := List.of_mem_zip (show (p.1, p.2) ∈ _ from hp)
    exact smD_t (sh1m rfl) (all3 trivial (tS_s (Nat.le_trans (ok.2.2 _ q.1) (by decide))) (hd _ (List.mem_of_mem_tail q.2)))
  | op w =>
    refine smD_t (by show ds.length + 1 ≤ _; omega) fun x m => ?_
    rcases List.mem_cons.mp m with rfl | m
    · trivial
    · exact hd x m
mutual
theorem dD_enc : ∀ t : Tm, dD (enc t) ≤ ew t
  | .nd h ks => by
    show dD (encH h (encs ks)) ≤ ews ks + wt h
    exact dD_encH (n := ews ks) (dD_encs ks)
theorem dD_encs : ∀ ks : List Tm, ∀ d ∈ encs ks, dD d ≤ ews ks
  | k :: r, d, m => by
    rcases List.mem_cons.mp (show d ∈ enc k :: encs r from m) with e | m
    · rw [e]
      exact Nat.le_trans (dD_enc k) (Nat.le_max_left _ _)
    · exact Nat.le_trans (dD_encs r d m) (Nat.le_max_right _ _)
end
mutual
theorem smD_enc : ∀ t : Tm, Wf t → smD (enc t)
  | .nd h ks, w => by
    show smD (encH h (encs ks))
    refine smD_encH (by rw [encs_map, List.length_map]; exact w.1) (smD_encs ks w.2)
theorem smD_encs : ∀ ks : List Tm, Wfs ks → ∀ d ∈ encs ks, smD d
  | k :: r, w, d, m => by
    rcases List.mem_cons.mp (show d ∈ enc k :: encs r from m) with e | m
    · rw [e]
      exact smD_enc k w.1
    · exact smD_encs r w.2 d m
end
theorem plD_d (p : List Nat) : dD (plD p) ≤ 1 := dD_t (n := 0) fun x m => by
  obtain ⟨s, _, rfl⟩ := List.mem_map.mp m
  exact Nat.le_refl _
theorem plD_s {p : List Nat} (h : p.length ≤ 1000000) : smD (plD p) := smD_t (by rw [List.length_map]; exact h) fun x m => by
  obtain ⟨s, _, rfl⟩ := List.mem_map.mp m
  trivial
theorem binds_le {t : Tm} (w : Wf t) {q : Tm × List Str} (m : q ∈ prs t) : q.2.length ≤ 4 := by
  cases t with
  | nd h ks =>
    have m2 : q.2 ∈ binds h ks.length := (List.of_mem_zip (show (q.1, q.2) ∈ ks.zip _ from m)).2
    have rep : ∀ n, q.2 ∈ List.replicate n ([] : List Str) → q.2.length ≤ 4 := fun n h => by
      rw [(List.mem_replicate.mp h).2]
      exact Nat.zero_le _
    cases h with
    | fn x =>
      rw [List.mem_singleton.mp m2]
      show 1 ≤ 4
      decide
    | lets xs =>
      rw [(List.mem_replicate.mp m2).2]
      exact w.1.2
    | case rs =>
      rcases List.mem_cons.mp m2 with e | m2
      · rw [e]
        exact Nat.zero_le _
      · obtain ⟨r, hr, e⟩ := List.mem_map.mp m2
        rw [← e]
        exact w.1.2.2 r hr
    | _ => exact rep _ m2
/-- a place as deep as can be -/
theorem deps_some : ∀ {ks : List Tm}, ks ≠ [] → ∃ (i : Nat) (k : Tm), ks[i]? = some k ∧ dep k = deps ks
  | [k], _ => ⟨0, k, rfl, (Nat.max_zero _).symm⟩
  | k :: a :: r, _ => by
    obtain ⟨i, k', h1, h2⟩ := deps_some (ks := a :: r) (by simp)
    by_cases c : deps (a :: r) ≤ dep k
    · exact ⟨0, k, rfl, (Nat.max_eq_left c).symm⟩
    · exact ⟨i + 1, k', h1, by rw [h2]; exact (Nat.max_eq_right (by omega)).symm⟩
theorem plcs_in : ∀ {ks : List Tm} {j i : Nat} {k : Tm} {p : List Nat}, ks[i]? = some k → p ∈ plc k → (j + i) :: p ∈ plcs j ks
  | a :: r, j, 0, k, p, h, m => by
    cases h
    exact List.mem_append_left _ (List.mem_map.mpr ⟨p, m, rfl⟩)
  | a :: r, j, i + 1, k, p, h, m => by
    refine List.mem_append_right _ ?_
    have := plcs_in (ks := r) (j := j + 1) (i := i) h m
    rwa [show j + 1 + i = j + (i + 1) by omega] at this
theorem plc_deep : ∀ (n : Nat) (t : Tm), dep t = n → ∃ p ∈ plc t, p.length + 1 = dep t
  | 0, t, h => by
    rw [dep_kids] at h
    omega
  | n + 1, .nd h ks, e => by
    by_cases c : ks = []
    · subst c
      exact ⟨[], List.mem_cons_self .., rfl⟩
    · obtain ⟨i, k, h1, h2⟩ := deps_some c
      have e' : deps ks + 1 = n + 1 := e
      obtain ⟨p, hp, hl⟩ := plc_deep n k (by omega)
      refine ⟨(0 + i) :: p, List.mem_cons_of_mem _ (plcs_in h1 hp), ?_⟩
      show p.length + 1 + 1 = deps ks + 1
      omega
mutual
theorem sz_pow : ∀ (t : Tm), Wf t → 4 * sz t + 1 ≤ 5 ^ dep t
  | .nd h ks, w => by
    have hk := kids_le w.1
    have hs := szs_pow ks w.2
    show 4 * (szs ks + 1) + 1 ≤ 5 ^ (deps ks + 1)
    have hm : ks.length * (5 ^ deps ks - 1) ≤ 5 * (5 ^ deps ks - 1) := Nat.mul_le_mul_right _ hk
    have hp : 1 ≤ 5 ^ deps ks := Nat.pow_pos (by decide)
    rw [Nat.pow_succ]
    omega
theorem szs_pow : ∀ (ks : List Tm), Wfs ks → 4 * szs ks ≤ ks.length * (5 ^ deps ks - 1)
  | [], _ => Nat.zero_le _
  | k :: r, w => by
    have h1 := sz_pow k w.1
    have h2 := szs_pow r w.2
    show 4 * (sz k + szs r) ≤ (r.length + 1) * (5 ^ max (dep k) (deps r) - 1)
    have m1 : 5 ^ dep k ≤ 5 ^ max (dep k) (deps r) := Nat.pow_le_pow_right (by decide) (Nat.le_max_left _ _)
    have m2 : 5 ^ deps r ≤ 5 ^ max (dep k) (deps r) := Nat.pow_le_pow_right (by decide) (Nat.le_max_right _ _)
    have m3 : r.length * (5 ^ deps r - 1) ≤ r.length * (5 ^ max (dep k) (deps r) - 1) := Nat.mul_le_mul_left _ (by omega)
    rw [Nat.add_mul, Nat.one_mul]
    omega
end
theorem sz7 {t : Tm} (w : Wf t) (d : dep t ≤ 7) : sz t ≤ 20000 := by
  have h1 := sz_pow t w
  have h2 : 5 ^ dep t ≤ 5 ^ 7 := Nat.pow_le_pow_right (by decide) d
  have h3 : (5 : Nat) ^ 7 = 78125 := by decide
  omega
theorem cutD_take (ds : List D) (i : Nat) : cutD ds none (some (i : Int)) = ds.take i := by
  unfold cutD
  rw [HT.sIx_none, HT.sIx_nat]
  show (ds.drop 0).take (min i ds.length - 0) = ds.take i
  rw [List.drop_zero, Nat.sub_zero]
  by_cases h : i ≤ ds.length
  · rw [Nat.min_eq_left h]
  · rw [Nat.min_eq_right (by omega), List.take_length, List.take_of_length_le (by omega)]
end Nz
namespace Nz
open PySem L2
theorem raw_start {W : Wd} {S : Addr → Prop} {A : Nat → Addr} {B H : Hp} {σ : St} {es : Es} {Po' : Po} {F : Ends} {u : TS} {j : Nat} {v : V} (h : SD W u es Po') (E : En S A B H (σ.set j (some v)) es) (w : WOk W S B H) (k : Ok W S B Po' F) : gName j v σ H (u F) := h S A B H _ E w F k
theorem partI_dep : ∀ {ps : List Int} {t u : Tm}, partI t ps = some u → dep u ≤ dep t
  | [], t, u, h => by
    cases h
    exact Nat.le_refl _
  | i :: r, t, u, h => by
    unfold partI at h
    rw [List.foldlM_cons] at h
    cases e : subI t i with
    | none =>
      rw [e] at h
      cases h
    | some v =>
      rw [e] at h
      have h1 := partI_dep (ps := r) h
      have h2 : v ∈ kids t := by
        unfold subI at e
        split at e
        · exact List.mem_of_getElem? e
        · cases e
      have h3 := dep_mem h2
      have h4 := dep_kids t
      omega
theorem partI_ew : ∀ {ps : List Int} {t u : Tm}, partI t ps = some u → ew u ≤ ew t
  | [], t, u, h => by
    cases h
    exact Nat.le_refl _
  | i :: r, .nd hh ks, u, h => by
    unfold partI at h
    rw [List.foldlM_cons] at h
    cases e : subI (.nd hh ks) i with
    | none =>
      rw [e] at h
      cases h
    | some v =>
      rw [e] at h
      have h1 := partI_ew (ps := r) h
      have h2 : v ∈ ks := by
        unfold subI at e
        split at e
        · exact List.mem_of_getElem? e
        · cases e
      have h3 := ew_mem h2
      show ew u ≤ ews ks + wt hh
      omega
theorem partD_ok {t : Tm} {ps : List Int} (w : Wf t) (d : ew t ≤ 118) : dD (partD (partI t ps)) ≤ 150 ∧ smD (partD (partI t ps)) := by
  cases e : partI t ps with
  | none => exact ⟨Nat.zero_le _, trivial⟩
  | some u =>
    have h1 := partI_ew e
    exact ⟨Nat.le_trans (dD_enc u) (by omega), smD_enc u (partI_wf w e)⟩
theorem putT_ok : ∀ (pa : List Nat) (t o u : Tm), Wf t → Wf o → partI t (pa.map fun k : Nat => (k : Int)) = some u → Wf (putT t pa o) ∧ ew (putT t pa o) ≤ ew t + ew o
  | [], t, o, u, w, wo, h => ⟨wo, Nat.le_add_left _ _⟩
  | i :: r, .nd hh ks, o, u, w, wo, h => by
    cases e : ks[i]? with
    | none =>
      have : subI (.nd hh ks) (i : Int) = none := by
        unfold subI
        rw [if_pos (Int.natCast_nonneg i)]
        exact e
      unfold partI at h
      rw [List.map_cons, List.foldlM_cons, this] at h
      cases h
    | some k =>
      rw [partI_cons (t := .nd hh ks) e] at h
      have hm := List.mem_of_getElem? e
      obtain ⟨h1, h2⟩ := putT_ok r k o u (wfs_all.mp w.2 k hm) wo h
      rw [putT_cons e]
      have hk := ew_mem hm
      refine ⟨⟨by rw [List.length_set]; exact w.1, wfs_all.mpr fun x m => ?_⟩, ?_⟩
      · rcases List.mem_or_eq_of_mem_set m with m | e
        · exact wfs_all.mp w.2 x m
        · rw [e]
          exact h1
      · have := ews_le.mpr (show ∀ x ∈ ks.set i (putT k r o), ew x ≤ ews ks + ew o from fun x m => by
          rcases List.mem_or_eq_of_mem_set m with m | e
          · have := ew_mem m
            omega
          · rw [e]
            omega)
        show ews (ks.set i (putT k r o)) + wt hh ≤ (ews ks + wt hh) + ew o
        omega
def ST (z : D) : Prop := ∃ ps : List Int, z = .t (ps.map D.i) ∧ ps.length ≤ 300
theorem castD (pa : List Nat) : (pa.map fun k : Nat => (k : Int)).map D.i = pa.map natD := by
  rw [List.map_map]
  rfl
section
variable {P : Program} {w : World} {K : PySem.W.Frag} {mg : Str → Option Value} {base : Heap}
/-- pool[5] = 5 -/
theorem sq_pool5 {p q : Addr} {ns : List Int} {es : Es} {u : TS} {P : Po} (h : es[1]? = some (.r (.ref p))) (k : SD (PoolW p q ns) u es P) : SD (PoolW p q ns) (tSeq (tAsg (tC (.int 5)) (gSub (tVar 1) (tC (.int 5)) rSetL)) u) es P := fun S A B H σ E w F r => by
  obtain ⟨a, b, c, d, e, hp, r1, r2, r3⟩ := w.j1
  refine ⟨_, E.raw 1 _ h, p, _, 5, 5, rfl, rfl, hp, rfl, ?_⟩
  have g : Gr (PoolW p q ns).V H (upd H p (.lst ([V.ref q, V.int a, V.int b, V.int c, V.int d, V.int e].set 5 (.int 5)))) := Gr.put rfl
  have j : (PoolW p q ns).J1 (upd H p (.lst ([V.ref q, V.int a, V.int b, V.int c, V.int d, V.int e].set 5 (.int 5)))) := ⟨a, b, c, d, 5, upd_same, r1, r2, r3⟩
  exact k S A B _ σ (w.en E g j) (w.at j) F r
/-- what a for over a tuple walks, items with effects -/
theorem xsrc_tup {W : Wd} {es : Es} {R : List D → Prop} {tl : TE} (h : XD W tl es (fun z => ∃ ds, z = .t ds ∧ R ds)) : XSrc W (iTup K tl) es R := fun S A B H σ E w Q r => h S A B H σ E w _ fun v H2 z ⟨ds, e1, r1⟩ g j i => by
  subst e1
  obtain ⟨a, vs, rfl, n, ha, is⟩ := i
  refine ⟨a, rfl, ⟨vs, SqT.of ha⟩, r _ H2 vs [(a, .tup vs)] ds r1 g j (fun p hp => ?_) ⟨fun j H3 g hj => ?_, fun j H3 x H4 g hj y => ?_, fun j H3 g hj => ?_⟩ is⟩
  · cases List.mem_singleton.mp hp
    exact ⟨n, ha⟩
  · exact ⟨vs, vs[j], SqT.of (g _ (List.mem_singleton.mpr rfl)), List.getElem?_eq_getElem hj⟩
  · exact ⟨y.1, y.2 vs (SqT.of (g _ (List.mem_singleton.mpr rfl)))⟩
  · exact ⟨vs, SqT.of (g _ (List.mem_singleton.mpr rfl)), hj⟩
abbrev lawLevel : Nat := 160
def spLaw (K : PySem.W.Frag) : Sp := fun vs H Q _ => ∃ (a : Addr) (ns : List Int), vs = [.ref a] ∧ SqL K H a (ns.map V.int) ∧ ns.length ≤ 63 ∧ ∀ H', Q (.bl true) H'
theorem ok_law (F : Facts K mg) {f : Addr} {fd : FuncData} (hf : L2.Fun K "law" "law" s_law f fd) : FnOk P w K mg base CX0 (159 + 1) f fd ["script"] (spLaw K) := by
  have c__law_pool := k__law_pool (P := P) (w := w) (base := base) F
  have c__law_any := kk__law_any (P := P) (w := w) (base := base) F 7
  have c__law_draw := kk__law_draw (P := P) (w := w) (base := base) F
  have c__law_places := k__law_places (P := P) (w := w) (base := base) F 100
  have c__law_part := k__law_part (P := P) (w := w) (base := base) F
  have c__law_parts := k__law_parts (P := P) (w := w) (base := base) F
  have c__law_put := k__law_put (P := P) (w := w) (base := base) F 100
  have c__law_same := k__law_same (P := P) (w := w) (base := base) F 150
  have c_places := k_places (P := P) (w := w) (base := base) F
  have c_size := k_size (P := P) (w := w) (base := base) F
  have c_depth := k_depth (P := P) (w := w) (base := base) F
  have c_parts := k_parts (P := P) (w := w) (base := base) F
  have c_part_at := k_part_at (P := P) (w := w) (base := base) F
  have c_put_at := k_put_at (P := P) (w := w) (base := base) F
  refine hf.ok sc_law (fun vs H Q E h => ?_) (fun cdv A outer s H vs Q E hr h => ⟨_, (pss_cons (ps_set (i := 1) sc_law.nd rfl (Or.inl rfl) (C8.pe_c c__law_pool hr (by first | decide | omega) rfl (pa_cons (pv 0) (pa_cons pe_int pa_nil))))
    (pss_cons (ps_set (i := 2) sc_law.nd rfl (Or.inl rfl) (C8.pe_c c__law_any hr (by first | decide | omega) rfl (pa_cons (pv 1) (pa_cons pe_int pa_nil))))
    (pss_cons (ps_if (pt_cmpR op_eq (C8.pe_c c__law_draw hr (by first | decide | omega) rfl (pa_cons (pv 1) (pa_cons pe_int pa_nil))) pe_int (nomark _)) (pss_one (ps_for PassesOwn.never rfl (pi_range1 rfl F.b_range (pa_cons (C8.pe_c c__law_draw hr (by first | decide | omega) rfl (pa_cons (pv 1) (pa_cons pe_int pa_nil))) pa_nil)) (pg_name (i := 3) sc_law.nd rfl (Or.inl rfl)) (pss_one (ps_set (i := 2) sc_law.nd rfl (Or.inl rfl) (pe_tup (pa_cons (pe_ix (Nz.ixT K) (pe_tup (pa_cons pe_str (pa_cons pe_str pa_nil))) (C8.pe_c c__law_draw hr (by first | decide | omega) rfl (pa_cons (pv 1) (pa_cons pe_int pa_nil))) (fun _ _ => rfl)) (pa_cons (pv 2) pa_nil))))))) pss_nil)
    (pss_cons (ps_set (i := 4) sc_law.nd rfl (Or.inl rfl) (C8.pe_c c__law_places hr (by first | decide | omega) rfl (pa_cons (pv 2) pa_nil)))
    (pss_cons (ps_if (PW.pt (pw_or (pt_not (pt_val (C8.pe_c c__law_same hr (by first | decide | omega) rfl (pa_cons (C8.pe_c c_places hr (by first | decide | omega) rfl (pa_cons (pv 2) pa_nil)) (pa_cons (pv 4) pa_nil))))) (pw_or1 (pt_not (pt_val (C8.pe_c c__law_same hr (by first | decide | omega) rfl (pa_cons (C8.pe_c c_size hr (by first | decide | omega) rfl (pa_cons (pv 2) pa_nil)) (pa_cons (pe_callB (Nz.cLen K) rfl F.b_len Nz.boot_len (pa_cons (pv 4) pa_nil)) pa_nil)))))))) (pss_one (ps_ret pe_bl)) pss_nil)
    (pss_cons (ps_if (pt_not (pt_val (C8.pe_c c__law_same hr (by first | decide | omega) rfl (pa_cons (C8.pe_c c_depth hr (by first | decide | omega) rfl (pa_cons (pv 2) pa_nil)) (pa_cons (pe_op op_add pe_int (pe_callB (Nz.cMax (K := K) rfl) rfl F.b_max Nz.boot_max (pa_cons (pe_lc (own := [("path", 5)]) (g := (gName 5)) rfl sc_law.nd (Nz.piL K (pv 4)) (blkOk_by (own := [("path", 5)]) (N := n_law) (sc := defScope s_law) (by decide +kernel)) (fun _ _ _ _ _ => (pg_name (i := 5) sc_law.nd rfl (Or.inl rfl))) (fun _ _ _ _ _ => pts_nil) (fun _ _ _ _ _ => (pe_callB (Nz.cLen K) rfl F.b_len Nz.boot_len (pa_cons (pv 5) pa_nil)))) pa_nil))) pa_nil))))) (pss_one (ps_ret pe_bl)) pss_nil)
    (pss_cons (ps_for PassesOwn.never rfl (pi_range1 rfl F.b_range (pa_cons pe_int pa_nil)) (pg_name (i := 6) sc_law.nd rfl (Or.inl rfl)) (pss_cons (ps_set (i := 5) sc_law.nd rfl (Or.inl rfl) (pe_ix (Nz.ixL K) (pv 4) (C8.pe_c c__law_draw hr (by first | decide | omega) rfl (pa_cons (pv 1) (pa_cons (pe_callB (Nz.cLen K) rfl F.b_len Nz.boot_len (pa_cons (pv 4) pa_nil)) pa_nil))) (fun _ _ => rfl)))
    (pss_cons (ps_set (i := 7) sc_law.nd rfl (Or.inl rfl) (C8.pe_c c__law_part hr (by first | decide | omega) rfl (pa_cons (pv 2) (pa_cons (pv 5) pa_nil))))
    (pss_cons (ps_if (PW.pt (pw_or (pt_not (pt_val (C8.pe_c c__law_same hr (by first | decide | omega) rfl (pa_cons (C8.pe_c c_part_at hr (by first | decide | omega) rfl (pa_cons (pv 2) (pa_cons (pv 5) pa_nil))) (pa_cons (pv 7) pa_nil))))) (pw_or1 (pt_not (pt_val (C8.pe_c c__law_same hr (by first | decide | omega) rfl (pa_cons (C8.pe_c c_parts hr (by first | decide | omega) rfl (pa_cons (pv 7) pa_nil)) (pa_cons (C8.pe_c c__law_parts hr (by first | decide | omega) rfl (pa_cons (pv 7) pa_nil)) pa_nil)))))))) (pss_one (ps_ret pe_bl)) pss_nil)
    (pss_cons (ps_asg pe_int (pg_sub (pv 1) pe_int set_list (fun _ => rfl)))
    (pss_cons (ps_set (i := 8) sc_law.nd rfl (Or.inl rfl) (C8.pe_c c__law_any hr (by first | decide | omega) rfl (pa_cons (pv 1) (pa_cons pe_int pa_nil))))
    (pss_cons (ps_if (pt_not (pt_val (C8.pe_c c__law_same hr (by first | decide | omega) rfl (pa_cons (C8.pe_c c_put_at hr (by first | decide | omega) rfl (pa_cons (pv 2) (pa_cons (pv 5) (pa_cons (pv 8) pa_nil)))) (pa_cons (C8.pe_c c__law_put hr (by first | decide | omega) rfl (pa_cons (pv 2) (pa_cons (pv 5) (pa_cons (pv 8) pa_nil)))) pa_nil))))) (pss_one (ps_ret pe_bl)) pss_nil)
    (pss_cons (ps_set (i := 9) sc_law.nd rfl (Or.inl rfl) (C8.pe_c c__law_draw hr (by first | decide | omega) rfl (pa_cons (pv 1) (pa_cons (pe_op op_add (pe_callB (Nz.cLen K) rfl F.b_len Nz.boot_len (pa_cons (pv 5) pa_nil)) pe_int) pa_nil))))
    (pss_one (ps_for PassesOwn.never rfl (Nz.piT K (pe_tup (pa_cons (pe_op (Nz.catA K) (pv 5) (pe_tup (pa_cons (pe_op op_sub (C8.pe_c c__law_draw hr (by first | decide | omega) rfl (pa_cons (pv 1) (pa_cons pe_int pa_nil))) pe_int) pa_nil))) (pa_cons (pe_op (Nz.catA K) (pe_op (Nz.catA K) (pe_slice (Nz.slA K) (pv 5) po_none (po_some (pv 9))) (pe_tup (pa_cons (pe_un un_neg pe_int) pa_nil))) (pe_slice (Nz.slA K) (pv 5) (po_some (pv 9)) po_none)) (pa_cons (pe_op (Nz.catA K) (pe_op (Nz.catA K) (pe_slice (Nz.slA K) (pv 5) po_none (po_some (pv 9))) (pe_tup (pa_cons (pe_un un_neg pe_int) pa_nil))) (pe_slice (Nz.slA K) (pv 5) (po_some (pe_op op_add (pv 9) pe_int)) po_none)) pa_nil))))) (pg_name (i := 10) sc_law.nd rfl (Or.inl rfl)) (pss_one (ps_if (pt_not (pt_val (C8.pe_c c__law_same hr (by first | decide | omega) rfl (pa_cons (C8.pe_c c_part_at hr (by first | decide | omega) rfl (pa_cons (pv 2) (pa_cons (pv 10) pa_nil))) (pa_cons (C8.pe_c c__law_part hr (by first | decide | omega) rfl (pa_cons (pv 2) (pa_cons (pv 10) pa_nil))) pa_nil))))) (pss_one (ps_ret pe_bl)) pss_nil))))))))))))
    (pss_one (ps_ret pe_bl))))))))), ?_⟩)
  · obtain ⟨a, ns, rfl, _⟩ := h
    rfl
  obtain ⟨a, ns, rfl, hS, hl, k⟩ := h
  refine ⟨.ref a, rfl, a, ns, 50, rfl, hS, fun p q H' e np nq ne hp hq => ?_⟩
  have B0 : Same (fun b => if b = p then none else H' b) H' := fun b o z => by
    by_cases c : b = p
    · have z' : (if b = p then none else H' b) = some o := z
      rw [if_pos c] at z'
      cases z'
    · have z' : (if b = p then none else H' b) = some o := z
      rw [if_neg c] at z'
      exact z'
  dsimp only
  refine raw_start (W := PW3 (p, q, ns)) (S := fun x => x = p) (A := fun _ => 0) (B := fun b => if b = p then none else H' b) (es := [.no, .r (.ref p), .no, .no, .no, .no, .no, .no, .no, .no, .no]) (Po' := ⟨fun _ => False, fun d => d = .b true, fun _ => False, fun _ => False, fun _ => False⟩) ?_ ⟨?_, ?_, ?_, ?_, B0, ?_, rfl⟩ ⟨?_, ?_, ?_⟩ ⟨?_, ?_, ?_, ?_, ?_⟩
  · -- the law's own way
    have draw : ∀ {es : Es} {te : TE} {m : Nat}, es[1]? = some (.r (.ref p)) → ED te es (.i (m : Int)) → 0 < m → m < 1000000 → XD (PW3 (p, q, ns)) (tCall (spXX PW3 pv3 preDraw relDraw) [] C8.E0 (tCons (tVar 1) (tCons te tNil))) es (fun z => ∃ k : Nat, z = natD k ∧ k < m) := fun {es te m} h1 he m0 m1 => by
      refine xd_imp (xd_callXX (Wi := PW3) (vi := pv3) (p, q, ns) h1 (xs_eds (ea_cons he ea_nil)) fun xs e => ⟨_, e, by omega, by omega⟩) fun d r => ?_
      obtain ⟨_, e, n, k, e1, rfl, k0, k1⟩ := r
      rw [e] at e1
      cases e1
      obtain ⟨i, rfl⟩ := Int.eq_ofNat_of_zero_le k0
      exact ⟨i, rfl, by omega⟩
    have same : ∀ {ta tb : TE} {es : Es} {x : D}, ED ta es x → ED tb es x → dD x ≤ 150 → smD x → ET (tNot (tB (tCall (spR (R_same 150)) [] C8.E0 (tCons ta (tCons tb tNil))))) es false := fun ha hb h1 h2 => et_not (et_B (b := true) (ed_call (R := R_same 150) (ea_cons ha (ea_cons hb ea_nil)) ⟨_, h1, h2, rfl, rfl⟩))
    refine sq_setX (R := fun z => ∃ xs, xs = [D.i 7] ∧ relAny xs z) ?_ fun d ⟨xs, e, kk, t0, e1, e2, g⟩ => ?_
    · exact xd_callXX (Wi := PW3) (vi := pv3) (p, q, ns) rfl (xs_eds (ea_cons ed_int ea_nil)) fun xs e => ⟨7, e, by decide⟩
    subst e e2
    cases e1
    have hz0 : sz t0 ≤ 20000 := sz7 g.1 g.2.2
    have hd0 : dep t0 ≤ 7 := g.2.2
    have he0 := ew_dep t0
    refine sd_seq (fun e => ∃ t κ3, e = [.no, .r (.ref p), .d (enc t), κ3, .no, .no, .no, .no, .no, .no, .no] ∧ Wf t ∧ dep t ≤ 97 ∧ sz t ≤ 20090 ∧ ew t ≤ 118) ?_ ?_
    · refine sd_ifX (R := fun _ => True) (xt_any (xd_opL (R3 := fun _ z => ∃ b, z = .b b) (draw (m := 4) rfl ed_int (by decide) (by decide)) ed_int fun x ⟨k, e, _⟩ => by subst e; exact ⟨_, rd_eqI, _, rfl⟩) fun d ⟨_, _, b, e⟩ => ⟨b, e⟩) (fun _ => ?_) (fun _ => sd_next ⟨t0, _, rfl, g.1, by omega, by omega, by omega⟩)
      refine sd_forX (R := fun ds => ∃ m : Nat, ds = rngD m ∧ m ≤ 90) (xsrc_rng (R := fun m => m ≤ 90) (xds_imp (xs_one (draw (m := 91) rfl ed_int (by decide) (by decide))) fun ds ⟨d, e, k, e2, hk⟩ => ⟨k, by rw [e, e2], by omega⟩) fun m hm => by omega) (fun ds i e => ∃ t κ3, e = [.no, .r (.ref p), .d (enc t), κ3, .no, .no, .no, .no, .no, .no, .no] ∧ Wf t ∧ dep t ≤ 7 + i ∧ sz t ≤ 20000 + i ∧ ew t ≤ 28 + i)
        (fun ds _ => ⟨t0, _, rfl, g.1, by omega, by omega, by omega⟩) (fun ds i d e _ _ he => ?_) (fun ds e ⟨m, hm, m9⟩ he => ?_)
      · obtain ⟨t, κ3, rfl, h1, h2, h3, h4⟩ := he
        refine ⟨_, gd_name, ?_⟩
        refine sd_setX (R := fun z => ∃ w : Str, z = .t [.s w, enc t] ∧ (w, 1) ∈ arities) (xd_imp (xd_tup (xs_cons (xd_opR (R3 := fun _ z => ∃ w : Str, z = .s w ∧ (w, 1) ∈ arities) (show ED _ _ (.t [.s "tick", .s "waste"]) by (repeat' (first
      | with_reducible exact ed_str | with_reducible exact ed_int | with_reducible exact ed_bl | with_reducible exact ed_non
      | exact ed_var rfl | exact ed_var (by assumption) | with_reducible exact ea_nil | with_reducible apply ea_cons
      | with_reducible apply et_test | with_reducible apply et_B | with_reducible apply et_not
      | with_reducible apply ed_tup | with_reducible apply ed_op | with_reducible apply el_lst
      | exact rd_eqSb rfl | exact rd_neSb rfl | exact rd_eqIb rfl | exact rd_neIb rfl
      | exact rd_ixT0 | exact rd_ixT1 | exact rd_ixT2 | exact rd_bool rfl | exact rd_int rfl | exact rd_inTc rfl rfl rfl | exact short_size rfl))) (draw (m := 2) rfl ed_int (by decide) (by decide)) fun y r => ?_) fun _ _ => xs_one (xd_ed (ed_var rfl))) fun ds r => ?_) fun d r => ?_) fun d' ⟨w, e, hw⟩ => ?_
        · obtain ⟨b, rfl, hb⟩ := r
          match b, hb with
          | 0, _ => exact ⟨_, rd_ixT0, "tick", rfl, by decide⟩
          | 1, _ => exact ⟨_, rd_ixT1, "waste", rfl, by decide⟩
        · obtain ⟨_, _, rfl, _, _, rfl, _⟩ := r
          exact short_size rfl
        · obtain ⟨_, rfl, _, _, rfl, ⟨_, _, w, rfl, hw⟩, _, rfl, rfl⟩ := r
          exact ⟨w, rfl, hw⟩
        · subst e
          refine ⟨.nd (.op w) [t], _, rfl, ⟨hw, h1, trivial⟩, ?_, ?_, ?_⟩
          · show max (dep t) 0 + 1 ≤ 7 + (i + 1)
            omega
          · show sz t + 0 + 1 ≤ 20000 + (i + 1)
            omega
          · show max (ew t) 0 + 1 ≤ 28 + (i + 1)
            omega
      · obtain ⟨t, κ3, rfl, h1, h2, h3, h4⟩ := he
        subst hm
        have e : (rngD m).length = m := by simp [rngD]
        rw [e] at h2 h3 h4
        exact ⟨t, κ3, rfl, h1, by omega, by omega, by omega⟩
    rintro e ⟨t, κ3, rfl, hw, hd, hz, hE⟩
    have pn := plc_len t
    have dle : ∀ {u : Tm}, ew u ≤ 118 → dD (enc u) ≤ 118 := fun {u} h => Nat.le_trans (dD_enc u) (by omega)
    refine sq_set (ed_call (ea_cons (ed_var rfl) ea_nil) ⟨t, hw, by omega, by omega, by omega, rfl, rfl⟩) ?_
    have fD : dD (.l ((plc t).map plD)) ≤ 150 := Nat.le_trans (dD_l (n := 1) fun x m => by
      obtain ⟨s, _, rfl⟩ := List.mem_map.mp m
      exact plD_d s) (by decide)
    have fS : smD (.l ((plc t).map plD)) := smD_l (by rw [List.length_map]; omega) fun x m => by
      obtain ⟨s, hs, rfl⟩ := List.mem_map.mp m
      have := plc_dep t s hs
      exact plD_s (by omega)
    refine sq_ifF (et_or (same (EL.toD (el_call (ea_cons (ed_var rfl) ea_nil) ⟨t, hw, by omega, by omega, rfl, rfl⟩)) (ed_var rfl) fD fS) fun _ => same (x := .i (sz t : Int)) (ed_call (ea_cons (ed_var rfl) ea_nil) ⟨t, hw, by omega, by omega, rfl, rfl⟩) (ed_eq (ed_cb (ea_cons (ed_var rfl) ea_nil) rc_lenL) (by rw [List.length_map, pn])) (Nat.zero_le _) trivial) rfl ?_
    obtain ⟨pd, hpd, hpl⟩ := plc_deep _ t rfl
    refine sq_ifF (same (x := .i (dep t : Int)) (ed_call (ea_cons (ed_var rfl) ea_nil) ⟨t, hw, by omega, by omega, rfl, rfl⟩) (ed_op ed_int (ed_cb (ea_cons (ed_eq (y := .l (((plc t).map fun p : List Nat => (p.length : Int)).map D.i)) (EL.toD (el_lcM (vs := [5]) (plc t) plD (fun p => .i (p.length : Int)) (Nat.le_trans (show _ ≤ 100000 by omega) (by decide)) rfl (src_list (ed_var rfl)) fun p' hp' => ⟨_, gw_name rfl, ed_eq (ed_cb (ea_cons (ed_var rfl) ea_nil) rc_lenT) (by rw [List.length_map])⟩)) (by rw [List.map_map]; rfl)) ea_nil) (rc_max (m := (pd.length : Int)) (List.mem_map.mpr ⟨pd, hpd, rfl⟩) fun y m => ?_)) (rd_int (congrArg V.int ?_))) (Nat.zero_le _) trivial) rfl ?_
    · obtain ⟨p', hp', rfl⟩ := List.mem_map.mp m
      have := plc_dep t p' hp'
      omega
    · omega
    refine sd_seq (fun _ => True) ?_ (fun e _ => ?_)
    · refine sd_for (src_rng (n := 3) (ea_cons ed_int ea_nil) (by decide)) (fun i e => ∃ κ5 κ6 κ7 κ8 κ9 κ10, e = [.no, .r (.ref p), .d (enc t), κ3, .d (.l ((plc t).map plD)), κ5, κ6, κ7, κ8, κ9, κ10]) ⟨_, _, _, _, _, _, rfl⟩ (fun i d e hdi he => ?_) (fun e he => trivial)
      obtain ⟨κ5, κ6, κ7, κ8, κ9, κ10, rfl⟩ := he
      refine ⟨_, gd_name, ?_⟩
      refine sq_setX (R := fun z => ∃ pa, z = plD pa ∧ pa ∈ plc t) (xd_imp (xd_opR (R3 := fun _ z => ∃ pa, z = plD pa ∧ pa ∈ plc t) (ed_var rfl) (draw (m := (plc t).length) rfl (ed_eq (ed_cb (ea_cons (ed_var rfl) ea_nil) rc_lenL) (by rw [List.length_map])) (List.length_pos_of_mem hpd) (by omega)) fun y ⟨m, e, hm⟩ => by subst e; exact ⟨plD (plc t)[m], rd_ixL (atI_nat (by rw [List.getElem?_map, List.getElem?_eq_getElem hm]; rfl)), _, rfl, List.getElem_mem hm⟩) fun d ⟨_, _, r⟩ => r) fun d' ⟨pa, e, hpa⟩ => ?_
      subst e
      obtain ⟨u, hu⟩ := plc_part t pa hpa
      have hwu := partI_wf hw hu
      have hdu := partI_dep hu
      have heu := partI_ew hu
      have pl := plc_dep t pa hpa
      have pe : plD pa = .t ((pa.map fun k : Nat => (k : Int)).map D.i) := congrArg D.t (castD pa).symm
      have uD : dD (enc u) ≤ 118 := dle (by omega)
      have uS := smD_enc u hwu
      refine sq_set (d := enc u) (ed_eq (ed_call (ea_cons (ed_var rfl) (ea_cons (ed_var rfl) ea_nil)) ⟨t, pa.map fun k : Nat => (k : Int), hw, by rw [List.length_map]; omega, by rw [pe], rfl⟩) (by rw [hu]; rfl)) ?_
      refine sq_ifF (et_or (same (x := enc u) (ed_eq (ed_call (ea_cons (ed_var rfl) (ea_cons (ed_var rfl) ea_nil)) ⟨t, pa.map fun k : Nat => (k : Int), hw, by rw [List.length_map]; omega, by rw [pe], rfl⟩) (by rw [hu]; rfl)) (ed_var rfl) (by omega) uS) fun _ => same (x := .l ((prs u).map prD)) (EL.toD (el_call (ea_cons (ed_var rfl) ea_nil) ⟨u, hwu, rfl, rfl⟩)) (EL.toD (el_call (ea_cons (ed_var rfl) ea_nil) ⟨u, hwu, rfl, rfl⟩)) ?_ ?_) rfl ?_
      · refine Nat.le_trans (dD_l (n := 119) fun x m => ?_) (by decide)
        obtain ⟨q, hq, rfl⟩ := List.mem_map.mp m
        have h1 : q.1 ∈ kids u := by
          rw [← prs_fst hwu]
          exact List.mem_map.mpr ⟨q, hq, rfl⟩
        have h2 : ew q.1 ≤ ew u := by
          cases u with
          | nd hh ks =>
            have := ew_mem (show q.1 ∈ ks from h1)
            show ew q.1 ≤ ews ks + wt hh
            omega
        have h4 : dD (enc q.1) ≤ 118 := dle (by omega)
        have h5 := tS_d q.2
        exact dD_t (n := 118) (all2 h4 (by omega))
      · refine smD_l ?_ fun x m => ?_
        · rw [List.length_map, ← List.length_map (f := fun p : Tm × List Str => p.1), prs_fst hwu]
          exact Nat.le_trans (kids_len hwu) (by decide)
        · obtain ⟨q, hq, rfl⟩ := List.mem_map.mp m
          have h1 : q.1 ∈ kids u := by
            rw [← prs_fst hwu]
            exact List.mem_map.mpr ⟨q, hq, rfl⟩
          exact smD_t (sh1m rfl) (all2 (smD_enc _ (kids_wf hwu h1)) (tS_s (Nat.le_trans (binds_le hwu hq) (by decide))))
      refine sq_pool5 rfl ?_
      refine sq_setX (R := fun z => ∃ xs, xs = [D.i 3] ∧ relAny xs z) ?_ fun d' ⟨xs, e, kk, o, e1, e2, go⟩ => ?_
      · exact xd_callXX (Wi := PW3) (vi := pv3) (p, q, ns) rfl (xs_eds (ea_cons ed_int ea_nil)) fun xs e => ⟨3, e, by decide⟩
      subst e e2
      cases e1
      have hdo : dep o ≤ 3 := go.2.2
      obtain ⟨hp1, hp2⟩ := putT_ok pa t o u hw go.1 hu
      have heo := ew_dep o
      refine sq_ifF (same (x := enc (putT t pa o)) (ed_call (ea_cons (ed_var rfl) (ea_cons (ed_var rfl) (ea_cons (ed_var rfl) ea_nil))) ⟨t, pa, o, u, hw, by omega, hu, rfl, rfl⟩) (ed_call (ea_cons (ed_var rfl) (ea_cons (ed_var rfl) (ea_cons (ed_var rfl) ea_nil))) ⟨t, pa, o, u, hw, by omega, by omega, hu, rfl, rfl⟩) (Nat.le_trans (dD_enc _) (by omega)) (smD_enc _ hp1)) rfl ?_
      refine sq_setX (draw (m := pa.length + 1) rfl (ed_op (ed_cb (ea_cons (ed_var rfl) ea_nil) rc_lenT) ed_int (rd_int (congrArg V.int (by rw [List.length_map]; rfl)))) (by omega) (by omega)) fun d' ⟨a, e, ha⟩ => ?_
      subst e
      refine sd_forX (R := fun ds => ds.length = 3 ∧ ∀ d ∈ ds, ST d) (xsrc_tup (xd_imp (xd_tup (xds_imp (R' := fun ds => ds.length = 3 ∧ ∀ d ∈ ds, ST d) (xs_cons (R := ST) (xd_imp (xd_opR (R3 := fun _ z => ST z) (ed_var rfl) (xd_tup (xs_one (xd_opL (R3 := fun _ z => ∃ k : Int, z = .i k) (draw (m := 7) rfl ed_int (by decide) (by decide)) ed_int fun x ⟨k, e, _⟩ => by subst e; exact ⟨.i ((k : Int) - 1), rd_int rfl, _, rfl⟩)) fun ds r => ?_) fun y r => ?_) fun d ⟨_, _, r⟩ => r) fun _ _ => xs_cons (R := ST) (xd_imp (xd_ed (ed_op (ed_op (ed_eq (ed_slT (ed_var rfl) eo_none (eo_some (ed_var rfl))) (congrArg D.t (cutD_take _ _))) (ed_tup (ea_cons (ed_neg ed_int) ea_nil) (short_size rfl)) (rd_catT ?_)) (ed_eq (ed_slT (ed_var rfl) (eo_some (ed_var rfl)) eo_none) (congrArg D.t (cutD_drop _ _))) (rd_catT ?_))) fun d e => ?_) fun _ _ => xs_one (R := ST) (xd_imp (xd_ed (ed_op (ed_op (ed_eq (ed_slT (ed_var rfl) eo_none (eo_some (ed_var rfl))) (congrArg D.t (cutD_take _ _))) (ed_tup (ea_cons (ed_neg ed_int) ea_nil) (short_size rfl)) (rd_catT ?_)) (ed_eq (ed_slT (ed_var rfl) (eo_some (ed_op (z := natD (a + 1)) (ed_var rfl) ed_int (rd_int rfl))) eo_none) (congrArg D.t (cutD_drop _ _))) (rd_catT ?_))) fun d e => ?_)) fun ds r => ?_) fun ds r => ?_) fun d r => r)) (fun ds i e => ∃ κ10, e = [.no, .r (.ref p), .d (enc t), κ3, .d (.l ((plc t).map plD)), .d (plD pa), .d d, .d (enc u), .d (enc o), .d (natD a), κ10]) (fun ds _ => ⟨_, rfl⟩) (fun ds i d2 e r hdi he => ?_) (fun ds e _ he => ?_)
      · obtain ⟨_, rfl, _⟩ := r
        exact short_size rfl
      · obtain ⟨_, rfl, _, rfl, _, _, k, rfl⟩ := r
        exact ⟨.t (pa.map natD ++ [.i k]), rd_catT (by rw [List.length_map]; exact small4 (by show pa.length + 1 ≤ 1000; omega)), pa.map (fun k : Nat => (k : Int)) ++ [k], by rw [List.map_append, castD]; rfl, by rw [List.length_append, List.length_map]; show pa.length + 1 ≤ 300; omega⟩
      · exact small4 (by simp only [List.length_append, List.length_take, List.length_drop, List.length_map, List.length_cons, List.length_nil]; omega)
      · exact small4 (by simp only [List.length_append, List.length_take, List.length_drop, List.length_map, List.length_cons, List.length_nil]; omega)
      · subst e
        exact ⟨(pa.map fun k : Nat => (k : Int)).take a ++ [-1] ++ (pa.map fun k : Nat => (k : Int)).drop a, by rw [List.map_append, List.map_append, List.map_take, List.map_drop, castD]; rfl, by simp only [List.length_append, List.length_take, List.length_drop, List.length_map, List.length_cons, List.length_nil]; omega⟩
      · exact small4 (by simp only [List.length_append, List.length_take, List.length_drop, List.length_map, List.length_cons, List.length_nil]; omega)
      · exact small4 (by simp only [List.length_append, List.length_take, List.length_drop, List.length_map, List.length_cons, List.length_nil]; omega)
      · subst e
        exact ⟨(pa.map fun k : Nat => (k : Int)).take a ++ [-1] ++ (pa.map fun k : Nat => (k : Int)).drop (a + 1), by rw [List.map_append, List.map_append, List.map_take, List.map_drop, castD]; rfl, by simp only [List.length_append, List.length_take, List.length_drop, List.length_map, List.length_cons, List.length_nil]; omega⟩
      · obtain ⟨d1, _, rfl, s1, d2, _, rfl, s2, d3, rfl, s3⟩ := r
        exact ⟨rfl, all3 s1 s2 s3⟩
      · rw [r.1]
        exact small4 (by decide)
      · obtain ⟨κ10, rfl⟩ := he
        obtain ⟨ps, rfl, hl⟩ := r.2 d2 (List.mem_of_getElem? hdi)
        have ok := partD_ok (ps := ps) hw hE
        exact ⟨_, gd_name, sd_if (same (x := partD (partI t ps)) (ed_call (ea_cons (ed_var rfl) (ea_cons (ed_var rfl) ea_nil)) ⟨t, ps, hw, by omega, rfl, rfl⟩) (ed_call (ea_cons (ed_var rfl) (ea_cons (ed_var rfl) ea_nil)) ⟨t, ps, hw, by omega, rfl, rfl⟩) ok.1 ok.2) (fun h => by cases h) (fun _ => sd_next ⟨_, rfl⟩)⟩
      · obtain ⟨κ10, rfl⟩ := he
        exact ⟨_, _, _, _, _, _, rfl⟩
    · exact sd_ret ed_bl rfl
  · intro i x h
    match i, h with
    | 0, h | 1, h | 2, h | 3, h | 4, h | 5, h | 6, h | 7, h | 8, h | 9, h | 10, h => cases h
    | i + 11, h => cases h
  · intro i x h
    match i, h with
    | 0, h | 1, h | 2, h | 3, h | 4, h | 5, h | 6, h | 7, h | 8, h | 9, h | 10, h => cases h
    | i + 11, h => cases h
  · intro i _ x _ _ h
    match i, h with
    | 0, h | 1, h | 2, h | 3, h | 4, h | 5, h | 6, h | 7, h | 8, h | 9, h | 10, h => cases h
    | i + 11, h => cases h
  · intro i x h
    match i, h with
    | 1, h => cases h; rfl
    | 0, h | 2, h | 3, h | 4, h | 5, h | 6, h | 7, h | 8, h | 9, h | 10, h => cases h
    | i + 11, h => cases h
  · intro a z
    cases z
    rw [hp]
    exact fun z => nomatch z
  · intro a z
    cases z
    exact ⟨rfl, if_pos rfl⟩
  · show (if q = p then none else H' q) = _
    rw [if_neg (fun z => ne z.symm)]
    exact hq
  · exact ⟨_, _, _, _, _, hp, Int.le_refl _, by decide, by decide⟩
  · exact fun _ _ _ _ z => z.elim
  · intro d v H2 z _ _ i
    cases z
    cases i
    exact k H2
  · exact fun _ _ _ _ z => z.elim
  · exact fun _ _ _ _ z => z.elim
  · exact fun _ _ _ _ z => z.elim
end
end Nz
namespace Nz
open PySem L2
theorem all_mk {l : PySem.W.OpenLaw} {w : World} {K : PySem.W.Frag} {h : Heap} {mg : Str → Option Value} {fa : Addr} (X : K.In h) (G : h.Ns mainGlobals mg) (hfa : mg "law" = some (.ref fa))
    {f_parts f_bare_parts f_with_parts f_levels f_size f_depth f_parts_below f_located f_places f_path_to f_part_at f_put_at f__law_pool f__law_draw f__law_spend f__law_few f__law_number f__law_same f__law_name f__law_unlike f__law_made f__law_any f__law_parts f__law_places f__law_part f__law_put f_law : Addr}
    {od_parts an_parts : Option Addr} {sl_parts : Array (Option Value)} {oc_parts kV_parts dc_parts pm_parts cd_parts ct_parts : Value}
    {od_bare_parts an_bare_parts : Option Addr} {sl_bare_parts : Array (Option Value)} {oc_bare_parts kV_bare_parts dc_bare_parts pm_bare_parts cd_bare_parts ct_bare_parts : Value}
    {od_with_parts an_with_parts : Option Addr} {sl_with_parts : Array (Option Value)} {oc_with_parts kV_with_parts dc_with_parts pm_with_parts cd_with_parts ct_with_parts : Value}
    {od_levels an_levels : Option Addr} {sl_levels : Array (Option Value)} {oc_levels kV_levels dc_levels pm_levels cd_levels ct_levels : Value}
    {od_size an_size : Option Addr} {sl_size : Array (Option Value)} {oc_size kV_size dc_size pm_size cd_size ct_size : Value}
    {od_depth an_depth : Option Addr} {sl_depth : Array (Option Value)} {oc_depth kV_depth dc_depth pm_depth cd_depth ct_depth : Value}
    {od_parts_below an_parts_below : Option Addr} {sl_parts_below : Array (Option Value)} {oc_parts_below kV_parts_below dc_parts_below pm_parts_below cd_parts_below ct_parts_below : Value}
    {od_located an_located : Option Addr} {sl_located : Array (Option Value)} {oc_located kV_located dc_located pm_located cd_located ct_located : Value}
    {od_places an_places : Option Addr} {sl_places : Array (Option Value)} {oc_places kV_places dc_places pm_places cd_places ct_places : Value}
    {od_path_to an_path_to : Option Addr} {sl_path_to : Array (Option Value)} {oc_path_to kV_path_to dc_path_to pm_path_to cd_path_to ct_path_to : Value}
    {od_part_at an_part_at : Option Addr} {sl_part_at : Array (Option Value)} {oc_part_at kV_part_at dc_part_at pm_part_at cd_part_at ct_part_at : Value}
    {od_put_at an_put_at : Option Addr} {sl_put_at : Array (Option Value)} {oc_put_at kV_put_at dc_put_at pm_put_at cd_put_at ct_put_at : Value}
    {od__law_pool an__law_pool : Option Addr} {sl__law_pool : Array (Option Value)} {oc__law_pool kV__law_pool dc__law_pool pm__law_pool cd__law_pool ct__law_pool : Value}
    {od__law_draw an__law_draw : Option Addr} {sl__law_draw : Array (Option Value)} {oc__law_draw kV__law_draw dc__law_draw pm__law_draw cd__law_draw ct__law_draw : Value}
    {od__law_spend an__law_spend : Option Addr} {sl__law_spend : Array (Option Value)} {oc__law_spend kV__law_spend dc__law_spend pm__law_spend cd__law_spend ct__law_spend : Value}
    {od__law_few an__law_few : Option Addr} {sl__law_few : Array (Option Value)} {oc__law_few kV__law_few dc__law_few pm__law_few cd__law_few ct__law_few : Value}
    {od__law_number an__law_number : Option Addr} {sl__law_number : Array (Option Value)} {oc__law_number kV__law_number dc__law_number pm__law_number cd__law_number ct__law_number : Value}
    {od__law_same an__law_same : Option Addr} {sl__law_same : Array (Option Value)} {oc__law_same kV__law_same dc__law_same pm__law_same cd__law_same ct__law_same : Value}
    {od__law_name an__law_name : Option Addr} {sl__law_name : Array (Option Value)} {oc__law_name kV__law_name dc__law_name pm__law_name cd__law_name ct__law_name : Value}
    {od__law_unlike an__law_unlike : Option Addr} {sl__law_unlike : Array (Option Value)} {oc__law_unlike kV__law_unlike dc__law_unlike pm__law_unlike cd__law_unlike ct__law_unlike : Value}
    {od__law_made an__law_made : Option Addr} {sl__law_made : Array (Option Value)} {oc__law_made kV__law_made dc__law_made pm__law_made cd__law_made ct__law_made : Value}
    {od__law_any an__law_any : Option Addr} {sl__law_any : Array (Option Value)} {oc__law_any kV__law_any dc__law_any pm__law_any cd__law_any ct__law_any : Value}
    {od__law_parts an__law_parts : Option Addr} {sl__law_parts : Array (Option Value)} {oc__law_parts kV__law_parts dc__law_parts pm__law_parts cd__law_parts ct__law_parts : Value}
    {od__law_places an__law_places : Option Addr} {sl__law_places : Array (Option Value)} {oc__law_places kV__law_places dc__law_places pm__law_places cd__law_places ct__law_places : Value}
    {od__law_part an__law_part : Option Addr} {sl__law_part : Array (Option Value)} {oc__law_part kV__law_part dc__law_part pm__law_part cd__law_part ct__law_part : Value}
    {od__law_put an__law_put : Option Addr} {sl__law_put : Array (Option Value)} {oc__law_put kV__law_put dc__law_put pm__law_put cd__law_put ct__law_put : Value}
    {od_law an_law : Option Addr} {sl_law : Array (Option Value)} {oc_law kV_law dc_law pm_law cd_law ct_law : Value}
    (a_parts : PySem.W.nsIn K mainGlobals "parts" = some (some (.ref f_parts))) (l_parts : K.lookup f_parts = some ⟨oc_parts, od_parts, .func (PySem.W.fnOf "parts" "parts" (defArgs s_parts) (defBody s_parts) (defScope s_parts) .none kV_parts dc_parts pm_parts an_parts cd_parts ct_parts), sl_parts⟩) (x_parts : PySem.W.codeIn K cd_parts "parts" = true) (k_parts : PySem.W.keepIn K (.ref f_parts) = true)
    (a_bare_parts : PySem.W.nsIn K mainGlobals "bare_parts" = some (some (.ref f_bare_parts))) (l_bare_parts : K.lookup f_bare_parts = some ⟨oc_bare_parts, od_bare_parts, .func (PySem.W.fnOf "bare_parts" "bare_parts" (defArgs s_bare_parts) (defBody s_bare_parts) (defScope s_bare_parts) .none kV_bare_parts dc_bare_parts pm_bare_parts an_bare_parts cd_bare_parts ct_bare_parts), sl_bare_parts⟩) (x_bare_parts : PySem.W.codeIn K cd_bare_parts "bare_parts" = true) (k_bare_parts : PySem.W.keepIn K (.ref f_bare_parts) = true)
    (a_with_parts : PySem.W.nsIn K mainGlobals "with_parts" = some (some (.ref f_with_parts))) (l_with_parts : K.lookup f_with_parts = some ⟨oc_with_parts, od_with_parts, .func (PySem.W.fnOf "with_parts" "with_parts" (defArgs s_with_parts) (defBody s_with_parts) (defScope s_with_parts) .none kV_with_parts dc_with_parts pm_with_parts an_with_parts cd_with_parts ct_with_parts), sl_with_parts⟩) (x_with_parts : PySem.W.codeIn K cd_with_parts "with_parts" = true) (k_with_parts : PySem.W.keepIn K (.ref f_with_parts) = true)
    (a_levels : PySem.W.nsIn K mainGlobals "levels" = some (some (.ref f_levels))) (l_levels : K.lookup f_levels = some ⟨oc_levels, od_levels, .func (PySem.W.fnOf "levels" "levels" (defArgs s_levels) (defBody s_levels) (defScope s_levels) .none kV_levels dc_levels pm_levels an_levels cd_levels ct_levels), sl_levels⟩) (x_levels : PySem.W.codeIn K cd_levels "levels" = true) (k_levels : PySem.W.keepIn K (.ref f_levels) = true)
    (a_size : PySem.W.nsIn K mainGlobals "size" = some (some (.ref f_size))) (l_size : K.lookup f_size = some ⟨oc_size, od_size, .func (PySem.W.fnOf "size" "size" (defArgs s_size) (defBody s_size) (defScope s_size) .none kV_size dc_size pm_size an_size cd_size ct_size), sl_size⟩) (x_size : PySem.W.codeIn K cd_size "size" = true) (k_size : PySem.W.keepIn K (.ref f_size) = true)
    (a_depth : PySem.W.nsIn K mainGlobals "depth" = some (some (.ref f_depth))) (l_depth : K.lookup f_depth = some ⟨oc_depth, od_depth, .func (PySem.W.fnOf "depth" "depth" (defArgs s_depth) (defBody s_depth) (defScope s_depth) .none kV_depth dc_depth pm_depth an_depth cd_depth ct_depth), sl_depth⟩) (x_depth : PySem.W.codeIn K cd_depth "depth" = true) (k_depth : PySem.W.keepIn K (.ref f_depth) = true)
    (a_parts_below : PySem.W.nsIn K mainGlobals "parts_below" = some (some (.ref f_parts_below))) (l_parts_below : K.lookup f_parts_below = some ⟨oc_parts_below, od_parts_below, .func (PySem.W.fnOf "parts_below" "parts_below" (defArgs s_parts_below) (defBody s_parts_below) (defScope s_parts_below) .none kV_parts_below dc_parts_below pm_parts_below an_parts_below cd_parts_below ct_parts_below), sl_parts_below⟩) (x_parts_below : PySem.W.codeIn K cd_parts_below "parts_below" = true) (k_parts_below : PySem.W.keepIn K (.ref f_parts_below) = true)
    (a_located : PySem.W.nsIn K mainGlobals "located" = some (some (.ref f_located))) (l_located : K.lookup f_located = some ⟨oc_located, od_located, .func (PySem.W.fnOf "located" "located" (defArgs s_located) (defBody s_located) (defScope s_located) .none kV_located dc_located pm_located an_located cd_located ct_located), sl_located⟩) (x_located : PySem.W.codeIn K cd_located "located" = true) (k_located : PySem.W.keepIn K (.ref f_located) = true)
    (a_places : PySem.W.nsIn K mainGlobals "places" = some (some (.ref f_places))) (l_places : K.lookup f_places = some ⟨oc_places, od_places, .func (PySem.W.fnOf "places" "places" (defArgs s_places) (defBody s_places) (defScope s_places) .none kV_places dc_places pm_places an_places cd_places ct_places), sl_places⟩) (x_places : PySem.W.codeIn K cd_places "places" = true) (k_places : PySem.W.keepIn K (.ref f_places) = true)
    (a_path_to : PySem.W.nsIn K mainGlobals "path_to" = some (some (.ref f_path_to))) (l_path_to : K.lookup f_path_to = some ⟨oc_path_to, od_path_to, .func (PySem.W.fnOf "path_to" "path_to" (defArgs s_path_to) (defBody s_path_to) (defScope s_path_to) .none kV_path_to dc_path_to pm_path_to an_path_to cd_path_to ct_path_to), sl_path_to⟩) (x_path_to : PySem.W.codeIn K cd_path_to "path_to" = true) (k_path_to : PySem.W.keepIn K (.ref f_path_to) = true)
    (a_part_at : PySem.W.nsIn K mainGlobals "part_at" = some (some (.ref f_part_at))) (l_part_at : K.lookup f_part_at = some ⟨oc_part_at, od_part_at, .func (PySem.W.fnOf "part_at" "part_at" (defArgs s_part_at) (defBody s_part_at) (defScope s_part_at) .none kV_part_at dc_part_at pm_part_at an_part_at cd_part_at ct_part_at), sl_part_at⟩) (x_part_at : PySem.W.codeIn K cd_part_at "part_at" = true) (k_part_at : PySem.W.keepIn K (.ref f_part_at) = true)
    (a_put_at : PySem.W.nsIn K mainGlobals "put_at" = some (some (.ref f_put_at))) (l_put_at : K.lookup f_put_at = some ⟨oc_put_at, od_put_at, .func (PySem.W.fnOf "put_at" "put_at" (defArgs s_put_at) (defBody s_put_at) (defScope s_put_at) .none kV_put_at dc_put_at pm_put_at an_put_at cd_put_at ct_put_at), sl_put_at⟩) (x_put_at : PySem.W.codeIn K cd_put_at "put_at" = true) (k_put_at : PySem.W.keepIn K (.ref f_put_at) = true)
    (a__law_pool : PySem.W.nsIn K mainGlobals "_law_pool" = some (some (.ref f__law_pool))) (l__law_pool : K.lookup f__law_pool = some ⟨oc__law_pool, od__law_pool, .func (PySem.W.fnOf "_law_pool" "_law_pool" (defArgs s__law_pool) (defBody s__law_pool) (defScope s__law_pool) .none kV__law_pool dc__law_pool pm__law_pool an__law_pool cd__law_pool ct__law_pool), sl__law_pool⟩) (x__law_pool : PySem.W.codeIn K cd__law_pool "_law_pool" = true) (k__law_pool : PySem.W.keepIn K (.ref f__law_pool) = true)
    (a__law_draw : PySem.W.nsIn K mainGlobals "_law_draw" = some (some (.ref f__law_draw))) (l__law_draw : K.lookup f__law_draw = some ⟨oc__law_draw, od__law_draw, .func (PySem.W.fnOf "_law_draw" "_law_draw" (defArgs s__law_draw) (defBody s__law_draw) (defScope s__law_draw) .none kV__law_draw dc__law_draw pm__law_draw an__law_draw cd__law_draw ct__law_draw), sl__law_draw⟩) (x__law_draw : PySem.W.codeIn K cd__law_draw "_law_draw" = true) (k__law_draw : PySem.W.keepIn K (.ref f__law_draw) = true)
    (a__law_spend : PySem.W.nsIn K mainGlobals "_law_spend" = some (some (.ref f__law_spend))) (l__law_spend : K.lookup f__law_spend = some ⟨oc__law_spend, od__law_spend, .func (PySem.W.fnOf "_law_spend" "_law_spend" (defArgs s__law_spend) (defBody s__law_spend) (defScope s__law_spend) .none kV__law_spend dc__law_spend pm__law_spend an__law_spend cd__law_spend ct__law_spend), sl__law_spend⟩) (x__law_spend : PySem.W.codeIn K cd__law_spend "_law_spend" = true) (k__law_spend : PySem.W.keepIn K (.ref f__law_spend) = true)
    (a__law_few : PySem.W.nsIn K mainGlobals "_law_few" = some (some (.ref f__law_few))) (l__law_few : K.lookup f__law_few = some ⟨oc__law_few, od__law_few, .func (PySem.W.fnOf "_law_few" "_law_few" (defArgs s__law_few) (defBody s__law_few) (defScope s__law_few) .none kV__law_few dc__law_few pm__law_few an__law_few cd__law_few ct__law_few), sl__law_few⟩) (x__law_few : PySem.W.codeIn K cd__law_few "_law_few" = true) (k__law_few : PySem.W.keepIn K (.ref f__law_few) = true)
    (a__law_number : PySem.W.nsIn K mainGlobals "_law_number" = some (some (.ref f__law_number))) (l__law_number : K.lookup f__law_number = some ⟨oc__law_number, od__law_number, .func (PySem.W.fnOf "_law_number" "_law_number" (defArgs s__law_number) (defBody s__law_number) (defScope s__law_number) .none kV__law_number dc__law_number pm__law_number an__law_number cd__law_number ct__law_number), sl__law_number⟩) (x__law_number : PySem.W.codeIn K cd__law_number "_law_number" = true) (k__law_number : PySem.W.keepIn K (.ref f__law_number) = true)
    (a__law_same : PySem.W.nsIn K mainGlobals "_law_same" = some (some (.ref f__law_same))) (l__law_same : K.lookup f__law_same = some ⟨oc__law_same, od__law_same, .func (PySem.W.fnOf "_law_same" "_law_same" (defArgs s__law_same) (defBody s__law_same) (defScope s__law_same) .none kV__law_same dc__law_same pm__law_same an__law_same cd__law_same ct__law_same), sl__law_same⟩) (x__law_same : PySem.W.codeIn K cd__law_same "_law_same" = true) (k__law_same : PySem.W.keepIn K (.ref f__law_same) = true)
    (a__law_name : PySem.W.nsIn K mainGlobals "_law_name" = some (some (.ref f__law_name))) (l__law_name : K.lookup f__law_name = some ⟨oc__law_name, od__law_name, .func (PySem.W.fnOf "_law_name" "_law_name" (defArgs s__law_name) (defBody s__law_name) (defScope s__law_name) .none kV__law_name dc__law_name pm__law_name an__law_name cd__law_name ct__law_name), sl__law_name⟩) (x__law_name : PySem.W.codeIn K cd__law_name "_law_name" = true) (k__law_name : PySem.W.keepIn K (.ref f__law_name) = true)
    (a__law_unlike : PySem.W.nsIn K mainGlobals "_law_unlike" = some (some (.ref f__law_unlike))) (l__law_unlike : K.lookup f__law_unlike = some ⟨oc__law_unlike, od__law_unlike, .func (PySem.W.fnOf "_law_unlike" "_law_unlike" (defArgs s__law_unlike) (defBody s__law_unlike) (defScope s__law_unlike) .none kV__law_unlike dc__law_unlike pm__law_unlike an__law_unlike cd__law_unlike ct__law_unlike), sl__law_unlike⟩) (x__law_unlike : PySem.W.codeIn K cd__law_unlike "_law_unlike" = true) (k__law_unlike : PySem.W.keepIn K (.ref f__law_unlike) = true)
    (a__law_made : PySem.W.nsIn K mainGlobals "_law_made" = some (some (.ref f__law_made))) (l__law_made : K.lookup f__law_made = some ⟨oc__law_made, od__law_made, .func (PySem.W.fnOf "_law_made" "_law_made" (defArgs s__law_made) (defBody s__law_made) (defScope s__law_made) .none kV__law_made dc__law_made pm__law_made an__law_made cd__law_made ct__law_made), sl__law_made⟩) (x__law_made : PySem.W.codeIn K cd__law_made "_law_made" = true) (k__law_made : PySem.W.keepIn K (.ref f__law_made) = true)
    (a__law_any : PySem.W.nsIn K mainGlobals "_law_any" = some (some (.ref f__law_any))) (l__law_any : K.lookup f__law_any = some ⟨oc__law_any, od__law_any, .func (PySem.W.fnOf "_law_any" "_law_any" (defArgs s__law_any) (defBody s__law_any) (defScope s__law_any) .none kV__law_any dc__law_any pm__law_any an__law_any cd__law_any ct__law_any), sl__law_any⟩) (x__law_any : PySem.W.codeIn K cd__law_any "_law_any" = true) (k__law_any : PySem.W.keepIn K (.ref f__law_any) = true)
    (a__law_parts : PySem.W.nsIn K mainGlobals "_law_parts" = some (some (.ref f__law_parts))) (l__law_parts : K.lookup f__law_parts = some ⟨oc__law_parts, od__law_parts, .func (PySem.W.fnOf "_law_parts" "_law_parts" (defArgs s__law_parts) (defBody s__law_parts) (defScope s__law_parts) .none kV__law_parts dc__law_parts pm__law_parts an__law_parts cd__law_parts ct__law_parts), sl__law_parts⟩) (x__law_parts : PySem.W.codeIn K cd__law_parts "_law_parts" = true) (k__law_parts : PySem.W.keepIn K (.ref f__law_parts) = true)
    (a__law_places : PySem.W.nsIn K mainGlobals "_law_places" = some (some (.ref f__law_places))) (l__law_places : K.lookup f__law_places = some ⟨oc__law_places, od__law_places, .func (PySem.W.fnOf "_law_places" "_law_places" (defArgs s__law_places) (defBody s__law_places) (defScope s__law_places) .none kV__law_places dc__law_places pm__law_places an__law_places cd__law_places ct__law_places), sl__law_places⟩) (x__law_places : PySem.W.codeIn K cd__law_places "_law_places" = true) (k__law_places : PySem.W.keepIn K (.ref f__law_places) = true)
    (a__law_part : PySem.W.nsIn K mainGlobals "_law_part" = some (some (.ref f__law_part))) (l__law_part : K.lookup f__law_part = some ⟨oc__law_part, od__law_part, .func (PySem.W.fnOf "_law_part" "_law_part" (defArgs s__law_part) (defBody s__law_part) (defScope s__law_part) .none kV__law_part dc__law_part pm__law_part an__law_part cd__law_part ct__law_part), sl__law_part⟩) (x__law_part : PySem.W.codeIn K cd__law_part "_law_part" = true) (k__law_part : PySem.W.keepIn K (.ref f__law_part) = true)
    (a__law_put : PySem.W.nsIn K mainGlobals "_law_put" = some (some (.ref f__law_put))) (l__law_put : K.lookup f__law_put = some ⟨oc__law_put, od__law_put, .func (PySem.W.fnOf "_law_put" "_law_put" (defArgs s__law_put) (defBody s__law_put) (defScope s__law_put) .none kV__law_put dc__law_put pm__law_put an__law_put cd__law_put ct__law_put), sl__law_put⟩) (x__law_put : PySem.W.codeIn K cd__law_put "_law_put" = true) (k__law_put : PySem.W.keepIn K (.ref f__law_put) = true)
    (a_law : PySem.W.nsIn K mainGlobals "law" = some (some (.ref f_law))) (l_law : K.lookup f_law = some ⟨oc_law, od_law, .func (PySem.W.fnOf "law" "law" (defArgs s_law) (defBody s_law) (defScope s_law) .none kV_law dc_law pm_law an_law cd_law ct_law), sl_law⟩) (x_law : PySem.W.codeIn K cd_law "law" = true) (k_law : PySem.W.keepIn K (.ref f_law) = true)
    (z_bool : PySem.W.nsIn K mainGlobals "bool" = some none)
    (z_int : PySem.W.nsIn K mainGlobals "int" = some none)
    (z_isinstance : PySem.W.nsIn K mainGlobals "isinstance" = some none)
    (z_len : PySem.W.nsIn K mainGlobals "len" = some none)
    (z_list : PySem.W.nsIn K mainGlobals "list" = some none)
    (z_max : PySem.W.nsIn K mainGlobals "max" = some none)
    (z_min : PySem.W.nsIn K mainGlobals "min" = some none)
    (z_range : PySem.W.nsIn K mainGlobals "range" = some none)
    (z_reversed : PySem.W.nsIn K mainGlobals "reversed" = some none)
    (z_str : PySem.W.nsIn K mainGlobals "str" = some none)
    (z_sum : PySem.W.nsIn K mainGlobals "sum" = some none)
    (z_tuple : PySem.W.nsIn K mainGlobals "tuple" = some none)
    (z_zip : PySem.W.nsIn K mainGlobals "zip" = some none)
    : ∃ fd : FuncData, (∀ (s : Shared) (v : Value), BindsTo s fd ⟨[v], []⟩ [("script", v)]) ∧ ∀ base : Heap, K.In base → base.Ns mainGlobals mg → FnOk l.prog w K mg base CX0 lawLevel fa fd ["script"] (spLaw K) := by
  have e := hfa.symm.trans (PySem.W.mg_of X G a_law)
  cases e
  have F_parts := fun_mk (st := s_parts) l_parts x_parts k_parts
  have D_parts : DefF K mg "parts" s_parts ["term"] := ⟨_, _, F_parts, PySem.W.mg_of X G a_parts, F_parts.binds fun _ _ _ _ _ _ us hl => match us, hl with | [_], _ => rfl⟩
  have F_bare_parts := fun_mk (st := s_bare_parts) l_bare_parts x_bare_parts k_bare_parts
  have D_bare_parts : DefF K mg "bare_parts" s_bare_parts ["term"] := ⟨_, _, F_bare_parts, PySem.W.mg_of X G a_bare_parts, F_bare_parts.binds fun _ _ _ _ _ _ us hl => match us, hl with | [_], _ => rfl⟩
  have F_with_parts := fun_mk (st := s_with_parts) l_with_parts x_with_parts k_with_parts
  have D_with_parts : DefF K mg "with_parts" s_with_parts ["term", "others"] := ⟨_, _, F_with_parts, PySem.W.mg_of X G a_with_parts, F_with_parts.binds fun _ _ _ _ _ _ us hl => match us, hl with | [_, _], _ => rfl⟩
  have F_levels := fun_mk (st := s_levels) l_levels x_levels k_levels
  have D_levels : DefF K mg "levels" s_levels ["term"] := ⟨_, _, F_levels, PySem.W.mg_of X G a_levels, F_levels.binds fun _ _ _ _ _ _ us hl => match us, hl with | [_], _ => rfl⟩
  have F_size := fun_mk (st := s_size) l_size x_size k_size
  have D_size : DefF K mg "size" s_size ["term"] := ⟨_, _, F_size, PySem.W.mg_of X G a_size, F_size.binds fun _ _ _ _ _ _ us hl => match us, hl with | [_], _ => rfl⟩
  have F_depth := fun_mk (st := s_depth) l_depth x_depth k_depth
  have D_depth : DefF K mg "depth" s_depth ["term"] := ⟨_, _, F_depth, PySem.W.mg_of X G a_depth, F_depth.binds fun _ _ _ _ _ _ us hl => match us, hl with | [_], _ => rfl⟩
  have F_parts_below := fun_mk (st := s_parts_below) l_parts_below x_parts_below k_parts_below
  have D_parts_below : DefF K mg "parts_below" s_parts_below ["place", "part", "low"] := ⟨_, _, F_parts_below, PySem.W.mg_of X G a_parts_below, F_parts_below.binds fun _ _ _ _ _ _ us hl => match us, hl with | [_, _, _], _ => rfl⟩
  have F_located := fun_mk (st := s_located) l_located x_located k_located
  have D_located : DefF K mg "located" s_located ["term"] := ⟨_, _, F_located, PySem.W.mg_of X G a_located, F_located.binds fun _ _ _ _ _ _ us hl => match us, hl with | [_], _ => rfl⟩
  have F_places := fun_mk (st := s_places) l_places x_places k_places
  have D_places : DefF K mg "places" s_places ["term"] := ⟨_, _, F_places, PySem.W.mg_of X G a_places, F_places.binds fun _ _ _ _ _ _ us hl => match us, hl with | [_], _ => rfl⟩
  have F_path_to := fun_mk (st := s_path_to) l_path_to x_path_to k_path_to
  have D_path_to : DefF K mg "path_to" s_path_to ["term", "place"] := ⟨_, _, F_path_to, PySem.W.mg_of X G a_path_to, F_path_to.binds fun _ _ _ _ _ _ us hl => match us, hl with | [_, _], _ => rfl⟩
  have F_part_at := fun_mk (st := s_part_at) l_part_at x_part_at k_part_at
  have D_part_at : DefF K mg "part_at" s_part_at ["term", "place"] := ⟨_, _, F_part_at, PySem.W.mg_of X G a_part_at, F_part_at.binds fun _ _ _ _ _ _ us hl => match us, hl with | [_, _], _ => rfl⟩
  have F_put_at := fun_mk (st := s_put_at) l_put_at x_put_at k_put_at
  have D_put_at : DefF K mg "put_at" s_put_at ["term", "place", "other"] := ⟨_, _, F_put_at, PySem.W.mg_of X G a_put_at, F_put_at.binds fun _ _ _ _ _ _ us hl => match us, hl with | [_, _, _], _ => rfl⟩
  have F__law_pool := fun_mk (st := s__law_pool) l__law_pool x__law_pool k__law_pool
  have D__law_pool : DefF K mg "_law_pool" s__law_pool ["script", "budget"] := ⟨_, _, F__law_pool, PySem.W.mg_of X G a__law_pool, F__law_pool.binds fun _ _ _ _ _ _ us hl => match us, hl with | [_, _], _ => rfl⟩
  have F__law_draw := fun_mk (st := s__law_draw) l__law_draw x__law_draw k__law_draw
  have D__law_draw : DefF K mg "_law_draw" s__law_draw ["pool", "upper"] := ⟨_, _, F__law_draw, PySem.W.mg_of X G a__law_draw, F__law_draw.binds fun _ _ _ _ _ _ us hl => match us, hl with | [_, _], _ => rfl⟩
  have F__law_spend := fun_mk (st := s__law_spend) l__law_spend x__law_spend k__law_spend
  have D__law_spend : DefF K mg "_law_spend" s__law_spend ["pool"] := ⟨_, _, F__law_spend, PySem.W.mg_of X G a__law_spend, F__law_spend.binds fun _ _ _ _ _ _ us hl => match us, hl with | [_], _ => rfl⟩
  have F__law_few := fun_mk (st := s__law_few) l__law_few x__law_few k__law_few
  have D__law_few : DefF K mg "_law_few" s__law_few ["pool", "most"] := ⟨_, _, F__law_few, PySem.W.mg_of X G a__law_few, F__law_few.binds fun _ _ _ _ _ _ us hl => match us, hl with | [_, _], _ => rfl⟩
  have F__law_number := fun_mk (st := s__law_number) l__law_number x__law_number k__law_number
  have D__law_number : DefF K mg "_law_number" s__law_number ["pool"] := ⟨_, _, F__law_number, PySem.W.mg_of X G a__law_number, F__law_number.binds fun _ _ _ _ _ _ us hl => match us, hl with | [_], _ => rfl⟩
  have F__law_same := fun_mk (st := s__law_same) l__law_same x__law_same k__law_same
  have D__law_same : DefF K mg "_law_same" s__law_same ["actual", "due"] := ⟨_, _, F__law_same, PySem.W.mg_of X G a__law_same, F__law_same.binds fun _ _ _ _ _ _ us hl => match us, hl with | [_, _], _ => rfl⟩
  have F__law_name := fun_mk (st := s__law_name) l__law_name x__law_name k__law_name
  have D__law_name : DefF K mg "_law_name" s__law_name ["pool"] := ⟨_, _, F__law_name, PySem.W.mg_of X G a__law_name, F__law_name.binds fun _ _ _ _ _ _ us hl => match us, hl with | [_], _ => rfl⟩
  have F__law_unlike := fun_mk (st := s__law_unlike) l__law_unlike x__law_unlike k__law_unlike
  have D__law_unlike : DefF K mg "_law_unlike" s__law_unlike ["pool", "count"] := ⟨_, _, F__law_unlike, PySem.W.mg_of X G a__law_unlike, F__law_unlike.binds fun _ _ _ _ _ _ us hl => match us, hl with | [_, _], _ => rfl⟩
  have F__law_made := fun_mk (st := s__law_made) l__law_made x__law_made k__law_made
  have D__law_made : DefF K mg "_law_made" s__law_made ["pool"] := ⟨_, _, F__law_made, PySem.W.mg_of X G a__law_made, F__law_made.binds fun _ _ _ _ _ _ us hl => match us, hl with | [_], _ => rfl⟩
  have F__law_any := fun_mk (st := s__law_any) l__law_any x__law_any k__law_any
  have D__law_any : DefF K mg "_law_any" s__law_any ["pool", "deep"] := ⟨_, _, F__law_any, PySem.W.mg_of X G a__law_any, F__law_any.binds fun _ _ _ _ _ _ us hl => match us, hl with | [_, _], _ => rfl⟩
  have F__law_parts := fun_mk (st := s__law_parts) l__law_parts x__law_parts k__law_parts
  have D__law_parts : DefF K mg "_law_parts" s__law_parts ["term"] := ⟨_, _, F__law_parts, PySem.W.mg_of X G a__law_parts, F__law_parts.binds fun _ _ _ _ _ _ us hl => match us, hl with | [_], _ => rfl⟩
  have F__law_places := fun_mk (st := s__law_places) l__law_places x__law_places k__law_places
  have D__law_places : DefF K mg "_law_places" s__law_places ["term"] := ⟨_, _, F__law_places, PySem.W.mg_of X G a__law_places, F__law_places.binds fun _ _ _ _ _ _ us hl => match us, hl with | [_], _ => rfl⟩
  have F__law_part := fun_mk (st := s__law_part) l__law_part x__law_part k__law_part
  have D__law_part : DefF K mg "_law_part" s__law_part ["term", "path"] := ⟨_, _, F__law_part, PySem.W.mg_of X G a__law_part, F__law_part.binds fun _ _ _ _ _ _ us hl => match us, hl with | [_, _], _ => rfl⟩
  have F__law_put := fun_mk (st := s__law_put) l__law_put x__law_put k__law_put
  have D__law_put : DefF K mg "_law_put" s__law_put ["term", "path", "other"] := ⟨_, _, F__law_put, PySem.W.mg_of X G a__law_put, F__law_put.binds fun _ _ _ _ _ _ us hl => match us, hl with | [_, _, _], _ => rfl⟩
  have F_law := fun_mk (st := s_law) l_law x_law k_law
  have D_law : DefF K mg "law" s_law ["script"] := ⟨_, _, F_law, PySem.W.mg_of X G a_law, F_law.binds fun _ _ _ _ _ _ us hl => match us, hl with | [_], _ => rfl⟩
  have F : Facts K mg := ⟨D_parts, D_bare_parts, D_with_parts, D_levels, D_size, D_depth, D_parts_below, D_located, D_places, D_path_to, D_part_at, D_put_at, D__law_pool, D__law_draw, D__law_spend, D__law_few, D__law_number, D__law_same, D__law_name, D__law_unlike, D__law_made, D__law_any, D__law_parts, D__law_places, D__law_part, D__law_put, D_law, PySem.W.mg_none_of X G z_bool, PySem.W.mg_none_of X G z_int, PySem.W.mg_none_of X G z_isinstance, PySem.W.mg_none_of X G z_len, PySem.W.mg_none_of X G z_list, PySem.W.mg_none_of X G z_max, PySem.W.mg_none_of X G z_min, PySem.W.mg_none_of X G z_range, PySem.W.mg_none_of X G z_reversed, PySem.W.mg_none_of X G z_str, PySem.W.mg_none_of X G z_sum, PySem.W.mg_none_of X G z_tuple, PySem.W.mg_none_of X G z_zip⟩
  exact ⟨_, fun s v => .of_eq rfl, fun base _ _ => ok_law F F_law⟩
theorem walk {l : PySem.W.OpenLaw} {q : Program} {loose : List Str} {XP : (Str → Option Value) → Heap → Prop} {YP : World → Heap → Prop} {d : DefRec} {K : Params → PySem.W.Frag} (hn : l.most = some 63) (hdf : d.params.defaults = [])
    (hY : ∀ (w : World) (h : Heap), YP w h → (K w.params).In h)
    (F : ∀ (w : World) (mg : Str → Option Value) (fa : Addr) (h : Heap), (K w.params).In h → h.Ns mainGlobals mg → mg d.name = some (.ref fa) →
      ∃ fd : FuncData, (∀ (s : Shared) (u : Value), BindsTo s fd ⟨[u], []⟩ [("script", u)]) ∧ ∀ base : Heap, (K w.params).In base → base.Ns mainGlobals mg → FnOk l.prog w (K w.params) mg base CX0 lawLevel fa fd ["script"] (spLaw (K w.params))) :
    PySem.W.WalkO q loose XP YP l.row.toRowW d [] (fun f vs => PySem.call f vs) :=
  L2.walk_of (n := 63) (k := lawLevel) (x := "script") (CX := fun _ => CX0) (sp := fun w => spLaw (K w.params)) hn (by decide) hdf ⟨rfl, by decide, by decide⟩ hY F (fun _ _ a ns hl _ hS => ⟨a, ns, rfl, hS, hl, fun _ => rfl⟩) fun _ _ _ _ _ z => z
end Nz
open PySem PySem.W PyProof.Rows
set_option maxRecDepth 100000 in
set_option maxHeartbeats 0 in
theorem PySem.Challenge.cw_notslower_k03_places_and_parts_holds : PySem.Challenge.rw_notslower_k03_places_and_parts.Holds := by
  w_on; o_law; k_head; (case hw => w_witness2)
  k_fill
  refine Nz.walk (l := PySem.Challenge.rw_notslower_k03_places_and_parts) rfl rfl (fun w h Y => PySem.W.kIn_of Y) ?F
  case F =>
    intro w mg fa h KX G hmg
    refine' Nz.all_mk KX G hmg ?a_parts ?l_parts ?x_parts ?k_parts ?a_bare_parts ?l_bare_parts ?x_bare_parts ?k_bare_parts ?a_with_parts ?l_with_parts ?x_with_parts ?k_with_parts ?a_levels ?l_levels ?x_levels ?k_levels ?a_size ?l_size ?x_size ?k_size ?a_depth ?l_depth ?x_depth ?k_depth ?a_parts_below ?l_parts_below ?x_parts_below ?k_parts_below ?a_located ?l_located ?x_located ?k_located ?a_places ?l_places ?x_places ?k_places ?a_path_to ?l_path_to ?x_path_to ?k_path_to ?a_part_at ?l_part_at ?x_part_at ?k_part_at ?a_put_at ?l_put_at ?x_put_at ?k_put_at ?a__law_pool ?l__law_pool ?x__law_pool ?k__law_pool ?a__law_draw ?l__law_draw ?x__law_draw ?k__law_draw ?a__law_spend ?l__law_spend ?x__law_spend ?k__law_spend ?a__law_few ?l__law_few ?x__law_few ?k__law_few ?a__law_number ?l__law_number ?x__law_number ?k__law_number ?a__law_same ?l__law_same ?x__law_same ?k__law_same ?a__law_name ?l__law_name ?x__law_name ?k__law_name ?a__law_unlike ?l__law_unlike ?x__law_unlike ?k__law_unlike ?a__law_made ?l__law_made ?x__law_made ?k__law_made ?a__law_any ?l__law_any ?x__law_any ?k__law_any ?a__law_parts ?l__law_parts ?x__law_parts ?k__law_parts ?a__law_places ?l__law_places ?x__law_places ?k__law_places ?a__law_part ?l__law_part ?x__law_part ?k__law_part ?a__law_put ?l__law_put ?x__law_put ?k__law_put ?a_law ?l_law ?x_law ?k_law ?z_bool ?z_int ?z_isinstance ?z_len ?z_list ?z_max ?z_min ?z_range ?z_reversed ?z_str ?z_sum ?z_tuple ?z_zip
    (case a_parts => k_is); (case l_parts => k_is); (case x_parts => k_is); (case k_parts => k_is)
    (case a_bare_parts => k_is); (case l_bare_parts => k_is); (case x_bare_parts => k_is); (case k_bare_parts => k_is)
    (case a_with_parts => k_is); (case l_with_parts => k_is); (case x_with_parts => k_is); (case k_with_parts => k_is)
    (case a_levels => k_is); (case l_levels => k_is); (case x_levels => k_is); (case k_levels => k_is)
    (case a_size => k_is); (case l_size => k_is); (case x_size => k_is); (case k_size => k_is)
    (case a_depth => k_is); (case l_depth => k_is); (case x_depth => k_is); (case k_depth => k_is)
    (case a_parts_below => k_is); (case l_parts_below => k_is); (case x_parts_below => k_is); (case k_parts_below => k_is)
    (case a_located => k_is); (case l_located => k_is); (case x_located => k_is); (case k_located => k_is)
    (case a_places => k_is); (case l_places => k_is); (case x_places => k_is); (case k_places => k_is)
    (case a_path_to => k_is); (case l_path_to => k_is); (case x_path_to => k_is); (case k_path_to => k_is)
    (case a_part_at => k_is); (case l_part_at => k_is); (case x_part_at => k_is); (case k_part_at => k_is)
    (case a_put_at => k_is); (case l_put_at => k_is); (case x_put_at => k_is); (case k_put_at => k_is)
    (case a__law_pool => k_is); (case l__law_pool => k_is); (case x__law_pool => k_is); (case k__law_pool => k_is)
    (case a__law_draw => k_is); (case l__law_draw => k_is); (case x__law_draw => k_is); (case k__law_draw => k_is)
    (case a__law_spend => k_is); (case l__law_spend => k_is); (case x__law_spend => k_is); (case k__law_spend => k_is)
    (case a__law_few => k_is); (case l__law_few => k_is); (case x__law_few => k_is); (case k__law_few => k_is)
    (case a__law_number => k_is); (case l__law_number => k_is); (case x__law_number => k_is); (case k__law_number => k_is)
    (case a__law_same => k_is); (case l__law_same => k_is); (case x__law_same => k_is); (case k__law_same => k_is)
    (case a__law_name => k_is); (case l__law_name => k_is); (case x__law_name => k_is); (case k__law_name => k_is)
    (case a__law_unlike => k_is); (case l__law_unlike => k_is); (case x__law_unlike => k_is); (case k__law_unlike => k_is)
    (case a__law_made => k_is); (case l__law_made => k_is); (case x__law_made => k_is); (case k__law_made => k_is)
    (case a__law_any => k_is); (case l__law_any => k_is); (case x__law_any => k_is); (case k__law_any => k_is)
    (case a__law_parts => k_is); (case l__law_parts => k_is); (case x__law_parts => k_is); (case k__law_parts => k_is)
    (case a__law_places => k_is); (case l__law_places => k_is); (case x__law_places => k_is); (case k__law_places => k_is)
    (case a__law_part => k_is); (case l__law_part => k_is); (case x__law_part => k_is); (case k__law_part => k_is)
    (case a__law_put => k_is); (case l__law_put => k_is); (case x__law_put => k_is); (case k__law_put => k_is)
    (case a_law => k_is); (case l_law => k_is); (case x_law => k_is); (case k_law => k_is)
    (case z_bool => k_is)
    (case z_int => k_is)
    (case z_isinstance => k_is)
    (case z_len => k_is)
    (case z_list => k_is)
    (case z_max => k_is)
    (case z_min => k_is)
    (case z_range => k_is)
    (case z_reversed => k_is)
    (case z_str => k_is)
    (case z_sum => k_is)
    (case z_tuple => k_is)
    (case z_zip => k_is)
