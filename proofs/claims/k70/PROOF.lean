import PyProof.Rows.All
import Wide.All
import OpenK.AllK
import Wide.FinOn
import HandS.ForMost
import HandS.IsInst
import HandS.TupAny
import HandS.Codes
import HandS.Conv
import HandS.Flow
import HandS.Evl
import PyProof.ListStr
import HandS.Zip
import HandS.ExcValue
import KE.GoesMore
import KE.GoesEnum
import KE.KDictZip
import HandS.Rev
import HandS.RevRange
import HandS.Star
import HandS.More
import HandS.StrMore
import HandS.RaiseMore
import HandS.Style
import HandS.HeadHook3
import HandS.ForExc
import HandS.ExcInit
import HandS.ExcField
import HandS.ClsMeth
import HandS.FStr
import KE.KExcIs
import KE.KIsAll
import PySem.Challenge.RW_notslower_k70_lines_of_steps_and_librari
import HandS.CallLocal
set_option Elab.async false
set_option maxRecDepth 100000
set_option maxHeartbeats 4000000
set_option linter.all false
namespace Nz
open PySem L2
/-- a datum -/
inductive D where
  | s (x : Str) | i (n : Int) | b (x : Bool) | n
  | t (xs : List D) | l (xs : List D) | e (kvs : List (Key × V))
mutual
/-- in the heap H, outside of the volatile addresses S, the value v is the datum -/
def IsD (S : Addr → Prop) (H : Hp) : D → V → Prop
  | .s x, v => v = .str x
  | .i n, v => v = .int n
  | .b x, v => v = .bl x
  | .n, v => v = .non
  | .t ds, v => ∃ a vs, v = .ref a ∧ ¬ S a ∧ H a = some (.tup vs) ∧ IsDs S H ds vs
  | .l ds, v => ∃ a vs, v = .ref a ∧ ¬ S a ∧ H a = some (.lst vs) ∧ IsDs S H ds vs
  | .e kvs, v => ∃ a, v = .ref a ∧ ¬ S a ∧ Rd H a (.dK kvs)
def IsDs (S : Addr → Prop) (H : Hp) : List D → List V → Prop
  | [], vs => vs = []
  | d :: ds, vs => ∃ v r, vs = v :: r ∧ IsD S H d v ∧ IsDs S H ds r
end
/-- the heap has grown; what is volatile may have changed -/
def Gr (S : Addr → Prop) (H H' : Hp) : Prop := ∀ a o, ¬ S a → H a = some o → H' a = some o
def N0 : Addr → Prop := fun _ => False
variable {S T : Addr → Prop} {H H1 H2 H' : Hp}
theorem Gr.refl (S : Addr → Prop) (H : Hp) : Gr S H H := fun _ _ _ h => h
theorem Gr.trans (a : Gr S H H1) (b : Gr S H1 H2) : Gr S H H2 := fun x o n h => b x o n (a x o n h)
theorem Gr.of (e : Same H H') : Gr S H H' := fun a o _ h => e a o h
theorem Gr.same (e : Gr N0 H H') : Same H H' := fun a o h => e a o (fun z => z) h
theorem Gr.put {a : Addr} {o : HO} (h : S a) : Gr S H (L2.upd H a o) := fun b u n e => by
  have ne : b ≠ a := fun z => by
    subst z
    exact n h
  rw [upd_ne ne]
  exact e
theorem Gr.new {a : Addr} {o : HO} (h : H a = none) : Gr S H (L2.upd H a o) := fun b u _ e => by
  rw [upd_ne (ne_of_none e h)]
  exact e
theorem Gr.wide (h : ∀ a, T a → S a) (g : Gr T H H') : Gr S H H' := fun a o n e => g a o (fun z => n (h a z)) e
theorem Same.new {a : Addr} {o : HO} (h : H a = none) : Same H (L2.upd H a o) := fun b u e => by
  rw [upd_ne (ne_of_none e h)]
  exact e
mutual
theorem IsD.mono (g : Gr S H H') : ∀ {d : D} {v : V}, IsD S H d v → IsD S H' d v
  | .s _, _, h => h
  | .i _, _, h => h
  | .b _, _, h => h
  | .n, _, h => h
  | .t _, _, h => by
    obtain ⟨a, vs, e, n, ha, q⟩ := h
    exact ⟨a, vs, e, n, g a _ n ha, IsDs.mono g q⟩
  | .l _, _, h => by
    obtain ⟨a, vs, e, n, ha, q⟩ := h
    exact ⟨a, vs, e, n, g a _ n ha, IsDs.mono g q⟩
  | .e _, _, h => by
    obtain ⟨a, e, n, r⟩ := h
    exact ⟨a, e, n, r.elim (fun ha => .inl (g a _ n ha)) fun ⟨o, ha⟩ => .inr ⟨o, g a _ n ha⟩⟩
theorem IsDs.mono (g : Gr S H H') : ∀ {ds : List D} {vs : List V}, IsDs S H ds vs → IsDs S H' ds vs
  | [], _, h => h
  | _ :: _, _, h => by
    obtain ⟨v, r, e, q, t⟩ := h
    exact ⟨v, r, e, IsD.mono g q, IsDs.mono g t⟩
end
mutual
theorem IsD.wide (g : ∀ a, T a → S a) : ∀ {d : D} {v : V}, IsD S H d v → IsD T H d v
  | .s _, _, h => h
  | .i _, _, h => h
  | .b _, _, h => h
  | .n, _, h => h
  | .t _, _, h => by
    obtain ⟨a, vs, e, n, ha, q⟩ := h
    exact ⟨a, vs, e, fun z => n (g a z), ha, IsDs.wide g q⟩
  | .l _, _, h => by
    obtain ⟨a, vs, e, n, ha, q⟩ := h
    exact ⟨a, vs, e, fun z => n (g a z), ha, IsDs.wide g q⟩
  | .e _, _, h => by
    obtain ⟨a, e, n, r⟩ := h
    exact ⟨a, e, fun z => n (g a z), r⟩
theorem IsDs.wide (g : ∀ a, T a → S a) : ∀ {ds : List D} {vs : List V}, IsDs S H ds vs → IsDs T H ds vs
  | [], _, h => h
  | _ :: _, _, h => by
    obtain ⟨v, r, e, q, t⟩ := h
    exact ⟨v, r, e, IsD.wide g q, IsDs.wide g t⟩
end
mutual
/-- addresses that are not in use may be made volatile -/
theorem IsD.more {a : Addr} (n : H a = none) : ∀ {d : D} {v : V}, IsD S H d v → IsD (fun b => S b ∨ b = a) H d v
  | .s _, _, h => h
  | .i _, _, h => h
  | .b _, _, h => h
  | .n, _, h => h
  | .t _, _, h => by
    obtain ⟨c, vs, e, m, ha, q⟩ := h
    exact ⟨c, vs, e, fun z => z.elim m (ne_of_none ha n), ha, IsDs.more n q⟩
  | .l _, _, h => by
    obtain ⟨c, vs, e, m, ha, q⟩ := h
    exact ⟨c, vs, e, fun z => z.elim m (ne_of_none ha n), ha, IsDs.more n q⟩
  | .e _, _, h => by
    obtain ⟨c, e, m, r⟩ := h
    exact ⟨c, e, fun z => z.elim m (r.elim (fun ha => ne_of_none ha n) fun ⟨o, ha⟩ => ne_of_none ha n), r⟩
theorem IsDs.more {a : Addr} (n : H a = none) : ∀ {ds : List D} {vs : List V}, IsDs S H ds vs → IsDs (fun b => S b ∨ b = a) H ds vs
  | [], _, h => h
  | _ :: _, _, h => by
    obtain ⟨v, r, e, q, t⟩ := h
    exact ⟨v, r, e, IsD.more n q, IsDs.more n t⟩
end
theorem IsDs.length : ∀ {ds : List D} {vs : List V}, IsDs S H ds vs → vs.length = ds.length
  | [], _, h => by cases h; rfl
  | _ :: _, _, h => by
    obtain ⟨v, r, e, q, t⟩ := h
    subst e
    show r.length + 1 = _ + 1
    rw [IsDs.length t]
theorem IsDs.get : ∀ {ds : List D} {vs : List V} {j : Nat} {d : D}, IsDs S H ds vs → ds[j]? = some d → ∃ v, vs[j]? = some v ∧ IsD S H d v
  | [], _, _, _, _, h => by simp at h
  | _ :: _, _, 0, _, h, e => by
    obtain ⟨v, r, rfl, q, t⟩ := h
    simp at e
    subst e
    exact ⟨v, rfl, q⟩
  | _ :: _, _, j + 1, d, h, e => by
    obtain ⟨v, r, rfl, q, t⟩ := h
    obtain ⟨w, h1, h2⟩ := IsDs.get (j := j) (d := d) t (by simpa using e)
    exact ⟨w, by simpa using h1, h2⟩
theorem IsDs.getV : ∀ {ds : List D} {vs : List V} {j : Nat} {v : V}, IsDs S H ds vs → vs[j]? = some v → ∃ d, ds[j]? = some d ∧ IsD S H d v
  | [], _, _, _, h, e => by cases h; simp at e
  | d :: _, _, 0, _, h, e => by
    obtain ⟨v, r, rfl, q, t⟩ := h
    simp at e
    subst e
    exact ⟨d, rfl, q⟩
  | _ :: _, _, j + 1, v, h, e => by
    obtain ⟨v', r, rfl, q, t⟩ := h
    obtain ⟨w, h1, h2⟩ := IsDs.getV (j := j) (v := v) t (by simpa using e)
    exact ⟨w, by simpa using h1, h2⟩
theorem IsDs.app : ∀ {ds es : List D} {vs ws : List V}, IsDs S H ds vs → IsDs S H es ws → IsDs S H (ds ++ es) (vs ++ ws)
  | [], _, _, _, h, k => by cases h; exact k
  | _ :: _, _, _, _, h, k => by
    obtain ⟨v, r, rfl, q, t⟩ := h
    exact ⟨v, _, rfl, q, IsDs.app t k⟩
theorem IsDs.drop : ∀ (n : Nat) {ds : List D} {vs : List V}, IsDs S H ds vs → IsDs S H (ds.drop n) (vs.drop n)
  | 0, _, _, h => h
  | _ + 1, [], _, h => by cases h; rfl
  | n + 1, _ :: _, _, h => by
    obtain ⟨v, r, rfl, q, t⟩ := h
    exact IsDs.drop n t
theorem IsDs.take : ∀ (n : Nat) {ds : List D} {vs : List V}, IsDs S H ds vs → IsDs S H (ds.take n) (vs.take n)
  | 0, _, _, h => rfl
  | _ + 1, [], _, h => by cases h; rfl
  | n + 1, _ :: _, _, h => by
    obtain ⟨v, r, rfl, q, t⟩ := h
    exact ⟨v, _, rfl, q, IsDs.take n t⟩
theorem IsDs.nil : IsDs S H [] [] := rfl
theorem IsDs.cons {d : D} {ds : List D} {v : V} {vs : List V} (h : IsD S H d v) (t : IsDs S H ds vs) : IsDs S H (d :: ds) (v :: vs) := ⟨v, vs, rfl, h, t⟩
theorem IsDs.one {d : D} {v : V} (h : IsD S H d v) : IsDs S H [d] [v] := IsDs.cons h IsDs.nil
theorem IsDs.strs : ∀ {xs : List Str} {vs : List V}, IsDs S H (xs.map D.s) vs → vs = xs.map V.str
  | [], _, h => h
  | x :: xs, _, h => by
    obtain ⟨v, r, rfl, q, t⟩ := h
    have e : v = .str x := q
    rw [e, IsDs.strs (xs := xs) t]
    rfl
theorem IsDs.ofStrs : ∀ (xs : List Str), IsDs S H (xs.map D.s) (xs.map V.str)
  | [] => rfl
  | x :: xs => ⟨.str x, _, rfl, rfl, IsDs.ofStrs xs⟩
/-- what an own object holds: a list, a dict with keys that are ints or texts -/
inductive Cn where
  | l (xs : List D) | m (kvs : List (Key × D))
def IsC (S : Addr → Prop) (H : Hp) : Cn → HO → Prop
  | .l xs, o => ∃ vs, o = .lst vs ∧ IsDs S H xs vs
  | .m kvs, o => ∃ ps : List (Key × V), o = .dK ps ∧ ps.map (·.1) = kvs.map (·.1) ∧ IsDs S H (kvs.map (·.2)) (ps.map (·.2))
theorem IsC.mono (g : Gr S H H') : ∀ {c : Cn} {o : HO}, IsC S H c o → IsC S H' c o
  | .l _, _, ⟨vs, e, q⟩ => ⟨vs, e, q.mono g⟩
  | .m _, _, ⟨ps, e, k, q⟩ => ⟨ps, e, k, q.mono g⟩
theorem IsC.wide (g : ∀ a, T a → S a) : ∀ {c : Cn} {o : HO}, IsC S H c o → IsC T H c o
  | .l _, _, ⟨vs, e, q⟩ => ⟨vs, e, q.wide g⟩
  | .m _, _, ⟨ps, e, k, q⟩ => ⟨ps, e, k, q.wide g⟩
theorem IsC.more {a : Addr} (n : H a = none) : ∀ {c : Cn} {o : HO}, IsC S H c o → IsC (fun b => S b ∨ b = a) H c o
  | .l _, _, ⟨vs, e, q⟩ => ⟨vs, e, q.more n⟩
  | .m _, _, ⟨ps, e, k, q⟩ => ⟨ps, e, k, q.more n⟩
end Nz
namespace Nz
open PySem L2
/-- what a slot holds: nothing that is known, a datum, a list of the def's own -/
inductive Sl where
  | no | d (x : D) | o (c : Cn) | r (v : V)
abbrev Es := List Sl
/-- the addresses of the own lists, by slot -/
def Own (A : Nat → Addr) (es : Es) (a : Addr) : Prop := ∃ (i : Nat) (xs : Cn), es[i]? = some (Sl.o xs) ∧ a = A i
abbrev Sx (S : Addr → Prop) (A : Nat → Addr) (es : Es) : Addr → Prop := fun a => S a ∨ Own A es a
/-- S's addresses are in use -/
def Dm (S : Addr → Prop) (H : Hp) : Prop := ∀ a, S a → H a ≠ none
theorem Dm.same {S : Addr → Prop} {H H' : Hp} (d : Dm S H) (e : Same H H') : Dm S H' := fun a s => by
  cases q : H a with
  | none => exact absurd q (d a s)
  | some o =>
    rw [e a o q]
    exact fun z => nomatch z
theorem Dm.not {S : Addr → Prop} {H : Hp} {p : Addr} (d : Dm S H) (h : H p = none) : ¬ S p := fun s => d p s h
structure En (S : Addr → Prop) (A : Nat → Addr) (B H : Hp) (σ : St) (es : Es) : Prop where
  dat : ∀ (i : Nat) (x : D), es[i]? = some (.d x) → ∃ v, σ[i]? = some (some v) ∧ IsD (Sx S A es) H x v
  own : ∀ (i : Nat) (xs : Cn), es[i]? = some (.o xs) → σ[i]? = some (some (.ref (A i))) ∧ ¬ S (A i) ∧ B (A i) = none ∧ ∃ vs, H (A i) = some vs ∧ IsC (Sx S A es) H xs vs
  apart : ∀ (i j : Nat) (xs ys : Cn), i ≠ j → es[i]? = some (.o xs) → es[j]? = some (.o ys) → A i ≠ A j
  raw : ∀ (i : Nat) (v : V), es[i]? = some (.r v) → σ[i]? = some (some v)
  same : Same B H
  dm : Dm S H
  len : σ.length = es.length
section
variable {S : Addr → Prop} {A : Nat → Addr} {B H H' : Hp} {σ : St} {es : Es}
theorem En.mono (E : En S A B H σ es) (e : Same H H') : En S A B H' σ es where
  dat := fun i x h => by
    obtain ⟨v, h1, h2⟩ := E.dat i x h
    exact ⟨v, h1, h2.mono (Gr.of e)⟩
  own := fun i xs h => by
    obtain ⟨h1, h2, h3, vs, h4, h5⟩ := E.own i xs h
    exact ⟨h1, h2, h3, vs, e _ _ h4, h5.mono (Gr.of e)⟩
  apart := E.apart
  raw := E.raw
  same := E.same.trans e
  dm := E.dm.same e
  len := E.len
theorem En.dmx (E : En S A B H σ es) : Dm (Sx S A es) H := fun a s => by
  rcases s with s | ⟨i, xs, h, rfl⟩
  · exact E.dm a s
  · obtain ⟨_, _, _, vs, h4, _⟩ := E.own i xs h
    rw [h4]
    exact fun z => nomatch z
theorem raw_set {k : Nat} {x : Sl} {u : Option V} (E : En S A B H σ es) (hx : ∀ v, x = .r v → u = some v) : ∀ (i : Nat) (v : V), (es.set k x)[i]? = some (.r v) → (σ.set k u)[i]? = some (some v) := fun i v h => by
  rw [List.getElem?_set] at h ⊢
  by_cases c : k = i
  · subst c
    rw [if_pos rfl] at h ⊢
    split at h
    · rename_i hl
      rw [if_pos (by rw [E.len]; exact hl), hx v (Option.some.inj h)]
    · cases h
  · rw [if_neg c] at h ⊢
    exact E.raw i v h
theorem own_set_d {k : Nat} {x : Sl} (hx : ∀ xs, x ≠ .o xs) {a : Addr} (h : Own A (es.set k x) a) : Own A es a := by
  obtain ⟨i, xs, e, rfl⟩ := h
  refine ⟨i, xs, ?_, rfl⟩
  rw [List.getElem?_set] at e
  split at e
  · split at e
    · exact absurd (Option.some.inj e) (hx xs)
    · cases e
  · exact e
/-- a slot gets a datum -/
theorem En.setD (E : En S A B H σ es) {k : Nat} {x : D} {v : V} (hv : IsD (Sx S A es) H x v) : En S A B H (σ.set k (some v)) (es.set k (.d x)) := by
  have w : ∀ a, Sx S A (es.set k (.d x)) a → Sx S A es a := fun a s => s.imp id (own_set_d (by intro xs z; cases z))
  refine ⟨fun i y h => ?_, fun i xs h => ?_, fun i j xs ys n h1 h2 => ?_, raw_set E (by intro v z; cases z), E.same, E.dm, by rw [List.length_set, List.length_set]; exact E.len⟩
  · rw [List.getElem?_set] at h ⊢
    by_cases c : k = i
    · subst c
      rw [if_pos rfl] at h ⊢
      split at h
      · rename_i hl
        cases h
        rw [if_pos (by rw [E.len]; exact hl)]
        exact ⟨v, rfl, hv.wide w⟩
      · cases h
    · rw [if_neg c] at h ⊢
      obtain ⟨u, h1, h2⟩ := E.dat i y h
      exact ⟨u, h1, h2.wide w⟩
  · rw [List.getElem?_set] at h ⊢
    by_cases c : k = i
    · subst c
      rw [if_pos rfl] at h
      split at h <;> cases h
    · rw [if_neg c] at h ⊢
      obtain ⟨h1, h2, h3, vs, h4, h5⟩ := E.own i xs h
      exact ⟨h1, h2, h3, vs, h4, h5.wide w⟩
  · rw [List.getElem?_set] at h1 h2
    by_cases c : k = i
    · rw [if_pos c] at h1
      split at h1 <;> cases h1
    · by_cases c2 : k = j
      · rw [if_pos c2] at h2
        split at h2 <;> cases h2
      · rw [if_neg c] at h1
        rw [if_neg c2] at h2
        exact E.apart i j xs ys n h1 h2
/-- a slot gets anything: nothing is known of it -/
theorem En.setN (E : En S A B H σ es) {k : Nat} {v : Option V} : En S A B H (σ.set k v) (es.set k .no) := by
  have w : ∀ a, Sx S A (es.set k .no) a → Sx S A es a := fun a s => s.imp id (own_set_d (by intro xs z; cases z))
  refine ⟨fun i y h => ?_, fun i xs h => ?_, fun i j xs ys n h1 h2 => ?_, raw_set E (by intro v z; cases z), E.same, E.dm, by rw [List.length_set, List.length_set]; exact E.len⟩
  · rw [List.getElem?_set] at h ⊢
    by_cases c : k = i
    · subst c
      rw [if_pos rfl] at h
      split at h <;> cases h
    · rw [if_neg c] at h ⊢
      obtain ⟨u, h1, h2⟩ := E.dat i y h
      exact ⟨u, h1, h2.wide w⟩
  · rw [List.getElem?_set] at h ⊢
    by_cases c : k = i
    · subst c
      rw [if_pos rfl] at h
      split at h <;> cases h
    · rw [if_neg c] at h ⊢
      obtain ⟨h1, h2, h3, vs, h4, h5⟩ := E.own i xs h
      exact ⟨h1, h2, h3, vs, h4, h5.wide w⟩
  · rw [List.getElem?_set] at h1 h2
    by_cases c : k = i
    · rw [if_pos c] at h1
      split at h1 <;> cases h1
    · by_cases c2 : k = j
      · rw [if_pos c2] at h2
        split at h2 <;> cases h2
      · rw [if_neg c] at h1
        rw [if_neg c2] at h2
        exact E.apart i j xs ys n h1 h2
/-- the addresses with slot k's own list at p -/
def A1 (A : Nat → Addr) (k : Nat) (p : Addr) : Nat → Addr := fun i => if i = k then p else A i
theorem own_set_o {k : Nat} {p : Addr} {xs : Cn} {a : Addr} (h : Own (A1 A k p) (es.set k (.o xs)) a) : Own A es a ∨ a = p := by
  obtain ⟨i, ys, e, rfl⟩ := h
  by_cases c : i = k
  · right
    show (if i = k then p else A i) = p
    rw [if_pos c]
  · left
    refine ⟨i, ys, ?_, ?_⟩
    · rw [List.getElem?_set, if_neg (fun z => c z.symm)] at e
      exact e
    · show (if i = k then p else A i) = A i
      rw [if_neg c]
/-- a slot gets a new list of its own -/
theorem En.setO (E : En S A B H σ es) {k : Nat} {xs : Cn} {p : Addr} {vs : HO} (g : Same H H') (hp : H p = none) (h' : H' p = some vs) (hv : IsC (fun a => Sx S A es a ∨ a = p) H' xs vs) :
    En S (A1 A k p) B H' (σ.set k (some (.ref p))) (es.set k (.o xs)) := by
  have w : ∀ a, Sx S (A1 A k p) (es.set k (.o xs)) a → Sx S A es a ∨ a = p := fun a s => by
    rcases s with s | s
    · exact .inl (.inl s)
    · rcases own_set_o s with s | s
      · exact .inl (.inr s)
      · exact .inr s
  have hB : B p = none := E.same.free hp
  refine ⟨fun i y h => ?_, fun i ys h => ?_, fun i j ys zs n h1 h2 => ?_, raw_set E (by intro v z; cases z), E.same.trans g, E.dm.same g, by rw [List.length_set, List.length_set]; exact E.len⟩
  · rw [List.getElem?_set] at h ⊢
    by_cases c : k = i
    · subst c
      rw [if_pos rfl] at h
      split at h <;> cases h
    · rw [if_neg c] at h ⊢
      obtain ⟨u, h1, h2⟩ := E.dat i y h
      exact ⟨u, h1, ((h2.more hp).mono (Gr.of g)).wide w⟩
  · rw [List.getElem?_set] at h ⊢
    by_cases c : k = i
    · subst c
      rw [if_pos rfl] at h ⊢
      split at h
      · rename_i hl
        cases h
        rw [if_pos (by rw [E.len]; exact hl)]
        have e : A1 A k p k = p := if_pos rfl
        rw [e]
        exact ⟨rfl, E.dm.not hp, hB, vs, h', hv.wide w⟩
      · cases h
    · rw [if_neg c] at h ⊢
      obtain ⟨h1, h2, h3, us, h4, h5⟩ := E.own i ys h
      have e : A1 A k p i = A i := if_neg fun z => c z.symm
      rw [e]
      exact ⟨h1, h2, h3, us, g _ _ h4, ((h5.more hp).mono (Gr.of g)).wide w⟩
  · rw [List.getElem?_set] at h1 h2
    have ne : ∀ (i : Nat) (ys : Cn), es[i]? = some (.o ys) → A i ≠ p := fun i ys h => by
      obtain ⟨_, _, _, us, h4, _⟩ := E.own i ys h
      exact ne_of_none h4 hp
    by_cases c : k = i
    · by_cases c2 : k = j
      · exact absurd (c.symm.trans c2) n
      · rw [if_neg c2] at h2
        have e : A1 A k p j = A j := if_neg fun z => c2 z.symm
        have e2 : A1 A k p i = p := if_pos c.symm
        rw [e, e2]
        exact fun z => ne j zs h2 z.symm
    · rw [if_neg c] at h1
      have e : A1 A k p i = A i := if_neg fun z => c z.symm
      rw [e]
      by_cases c2 : k = j
      · have e2 : A1 A k p j = p := if_pos c2.symm
        rw [e2]
        exact ne i ys h1
      · rw [if_neg c2] at h2
        have e2 : A1 A k p j = A j := if_neg fun z => c2 z.symm
        rw [e2]
        exact E.apart i j ys zs n h1 h2
/-- an address that is new ahead becomes volatile -/
theorem En.vol (E : En S A B H σ es) {p : Addr} (g : Same H H') (hp : H p = none) (h' : H' p ≠ none) : En (fun a => S a ∨ a = p) A B H' σ es := by
  have w : ∀ a, Sx (fun a => S a ∨ a = p) A es a → Sx S A es a ∨ a = p := fun a s => by
    rcases s with (s | s) | s
    · exact .inl (.inl s)
    · exact .inr s
    · exact .inl (.inr s)
  refine ⟨fun i y h => ?_, fun i ys h => ?_, E.apart, E.raw, E.same.trans g, fun a s => ?_, E.len⟩
  · obtain ⟨u, h1, h2⟩ := E.dat i y h
    exact ⟨u, h1, ((h2.more hp).mono (Gr.of g)).wide w⟩
  · obtain ⟨h1, h2, h3, us, h4, h5⟩ := E.own i ys h
    exact ⟨h1, fun z => z.elim h2 (ne_of_none h4 hp), h3, us, g _ _ h4, ((h5.more hp).mono (Gr.of g)).wide w⟩
  · rcases s with s | rfl
    · exact (E.dm.same g) a s
    · exact h'
/-- a volatile address that the start does not know changes -/
theorem En.chg (E : En S A B H σ es) {p : Addr} {o : HO} (hp : S p) (hB : B p = none) : En S A B (upd H p o) σ es := by
  have g : Gr (Sx S A es) H (upd H p o) := Gr.put (.inl hp)
  refine ⟨fun i y h => ?_, fun i ys h => ?_, E.apart, E.raw, fun b u e => ?_, fun a s => ?_, E.len⟩
  · obtain ⟨u, h1, h2⟩ := E.dat i y h
    exact ⟨u, h1, h2.mono g⟩
  · obtain ⟨h1, h2, h3, us, h4, h5⟩ := E.own i ys h
    have ne : A i ≠ p := fun z => by
      rw [z] at h2
      exact h2 hp
    exact ⟨h1, h2, h3, us, by rw [upd_ne ne]; exact h4, h5.mono g⟩
  · rw [upd_ne (ne_of_none e hB)]
    exact E.same b u e
  · by_cases c : a = p
    · subst c
      rw [upd_same]
      exact fun z => nomatch z
    · rw [upd_ne c]
      exact E.dm a s
/-- an own list changes -/
theorem En.put (E : En S A B H σ es) {k : Nat} {xs ys : Cn} {vs : HO} (hk : es[k]? = some (.o xs)) (hv : IsC (Sx S A es) H ys vs) :
    En S A B (upd H (A k) vs) σ (es.set k (.o ys)) := by
  have hl : k < es.length := (List.getElem?_eq_some_iff.mp hk).1
  have own : Own A es (A k) := ⟨k, xs, hk, rfl⟩
  have g : Gr (Sx S A es) H (upd H (A k) vs) := Gr.put (.inr own)
  have w : ∀ a, Sx S A (es.set k (.o ys)) a → Sx S A es a := fun a s => by
    rcases s with s | ⟨i, zs, e, rfl⟩
    · exact .inl s
    · rw [List.getElem?_set] at e
      by_cases c : k = i
      · subst c
        exact .inr own
      · rw [if_neg c] at e
        exact .inr ⟨i, zs, e, rfl⟩
  obtain ⟨k1, k2, k3, _⟩ := E.own k xs hk
  have dm' : Dm S (upd H (A k) vs) := fun a s => by
    have ne : a ≠ A k := fun z => by
      rw [z] at s
      exact k2 s
    rw [upd_ne ne]
    exact E.dm a s
  have raw' : ∀ (i : Nat) (v : V), (es.set k (.o ys))[i]? = some (.r v) → σ[i]? = some (some v) := fun i v h => by
    rw [List.getElem?_set] at h
    by_cases c : k = i
    · subst c
      rw [if_pos rfl, if_pos hl] at h
      cases h
    · rw [if_neg c] at h
      exact E.raw i v h
  refine ⟨fun i y h => ?_, fun i zs h => ?_, fun i j zs us n h1 h2 => ?_, raw', fun b o e => ?_, dm', by rw [List.length_set]; exact E.len⟩
  · rw [List.getElem?_set] at h
    by_cases c : k = i
    · subst c
      rw [if_pos rfl, if_pos hl] at h
      cases h
    · rw [if_neg c] at h
      obtain ⟨u, h1, h2⟩ := E.dat i y h
      exact ⟨u, h1, (h2.mono g).wide w⟩
  · rw [List.getElem?_set] at h
    by_cases c : k = i
    · subst c
      rw [if_pos rfl, if_pos hl] at h
      cases h
      exact ⟨k1, k2, k3, vs, upd_same, (hv.mono g).wide w⟩
    · rw [if_neg c] at h
      obtain ⟨h1, h2, h3, us, h4, h5⟩ := E.own i zs h
      exact ⟨h1, h2, h3, us, by rw [upd_ne (E.apart i k zs xs (fun z => c z.symm) h hk)]; exact h4, (h5.mono g).wide w⟩
  · have f : ∀ (m : Nat) (ws : Cn), (es.set k (.o ys))[m]? = some (.o ws) → ∃ ts, es[m]? = some (.o ts) := fun m ws h => by
      rw [List.getElem?_set] at h
      by_cases c : k = m
      · subst c
        exact ⟨xs, hk⟩
      · rw [if_neg c] at h
        exact ⟨ws, h⟩
    obtain ⟨t1, e1⟩ := f i zs h1
    obtain ⟨t2, e2⟩ := f j us h2
    exact E.apart i j t1 t2 n e1 e2
  · have ne : b ≠ A k := ne_of_none e k3
    rw [upd_ne ne]
    exact E.same b o e
/-- a def's start: the arguments -/
theorem env_start {N : List Str} {ds : List D} {vs : List V} (dm : Dm S H) (h : IsDs S H ds vs) (hl : ds.length ≤ N.length) :
    En S (fun _ => 0) H H (L2.start N vs) (ds.map Sl.d ++ List.replicate (N.length - ds.length) .no) := by
  have hv := h.length
  have noown : ∀ (i : Nat) (xs : Cn), (ds.map Sl.d ++ List.replicate (N.length - ds.length) Sl.no)[i]? = some (Sl.o xs) → False := fun i xs e => by
    rcases List.mem_append.mp (List.mem_of_getElem? e) with m | m
    · obtain ⟨y, _, z⟩ := List.mem_map.mp m
      cases z
    · have z := (List.mem_replicate.mp m).2
      cases z
  have w : ∀ a, Sx S (fun _ => 0) (ds.map Sl.d ++ List.replicate (N.length - ds.length) Sl.no) a → S a := fun a s => by
    rcases s with s | ⟨i, xs, e, _⟩
    · exact s
    · exact (noown i xs e).elim
  have noraw : ∀ (i : Nat) (v : V), (ds.map Sl.d ++ List.replicate (N.length - ds.length) Sl.no)[i]? = some (Sl.r v) → False := fun i v e => by
    rcases List.mem_append.mp (List.mem_of_getElem? e) with m | m
    · obtain ⟨y, _, z⟩ := List.mem_map.mp m
      cases z
    · have z := (List.mem_replicate.mp m).2
      cases z
  refine ⟨fun i x e => ?_, fun i xs e => (noown i xs e).elim, fun i j xs ys _ e _ => (noown i xs e).elim, fun i v e => (noraw i v e).elim, Same.refl H, dm, ?_⟩
  · by_cases c : i < ds.length
    · rw [List.getElem?_append_left (by rw [List.length_map]; exact c), List.getElem?_map] at e
      cases q : ds[i]? with
      | none =>
        rw [q] at e
        cases e
      | some d =>
        rw [q] at e
        cases e
        obtain ⟨v, h1, h2⟩ := h.get q
        refine ⟨v, ?_, h2.wide w⟩
        unfold L2.start
        first
          | rw [List.getElem?_append_left (by rw [List.length_map, hv]; exact c), List.getElem?_map, h1]; rfl
          | simp [h1, hv, c]
    · have z := List.mem_of_getElem? e
      rw [List.getElem?_append_right (by rw [List.length_map]; omega)] at e
      have z := (List.mem_replicate.mp (List.mem_of_getElem? e)).2
      cases z
  · unfold L2.start
    simp [hv]
/-- what is volatile for a part of what runs (V) may change -/
theorem En.gr {V : Addr → Prop} (E : En S A B H σ es) (g : Gr V H H') (hV : ∀ a, V a → S a ∧ B a = none) (hd : ∀ a, V a → H' a ≠ none) : En S A B H' σ es := by
  have g' : Gr (Sx S A es) H H' := fun a o n e => g a o (fun z => n (.inl (hV a z).1)) e
  refine ⟨fun i x h => ?_, fun i xs h => ?_, E.apart, E.raw, fun b o e => ?_, fun a s => ?_, E.len⟩
  · obtain ⟨v, h1, h2⟩ := E.dat i x h
    exact ⟨v, h1, h2.mono g'⟩
  · obtain ⟨h1, h2, h3, vs, h4, h5⟩ := E.own i xs h
    exact ⟨h1, h2, h3, vs, g _ _ (fun z => h2 (hV _ z).1) h4, h5.mono g'⟩
  · refine g b o (fun z => ?_) (E.same b o e)
    rw [(hV b z).2] at e
    cases e
  · by_cases c : V a
    · exact hd a c
    · cases q : H a with
      | none => exact absurd q (E.dm a s)
      | some o =>
        rw [g a o c q]
        exact fun z => nomatch z
end
end Nz
namespace Nz
open PySem L2
/-- te is worth the datum d (apart from the own lists) -/
def ED (te : TE) (es : Es) (d : D) : Prop := ∀ (S : Addr → Prop) (A : Nat → Addr) (B H : Hp) (σ : St), En S A B H σ es → ∀ Q : VK, (∀ v H2, Same H H2 → IsD (Sx S A es) H2 d v → Q v H2) → te σ H Q
/-- te is worth d; it may be an own list -/
def EX (te : TE) (es : Es) (d : D) : Prop := ∀ (S : Addr → Prop) (A : Nat → Addr) (B H : Hp) (σ : St), En S A B H σ es → ∀ Q : VK, (∀ v H2, Same H H2 → IsD S H2 d v → Q v H2) → te σ H Q
/-- te gives a new list -/
def EL (te : TE) (es : Es) (ds : List D) : Prop := ∀ (S : Addr → Prop) (A : Nat → Addr) (B H : Hp) (σ : St), En S A B H σ es →
  ∀ Q : VK, (∀ p vs H2, Same H H2 → H p = none → H2 p = some (.lst vs) → IsDs (fun a => Sx S A es a ∨ a = p) H2 ds vs → Q (.ref p) H2) → te σ H Q
def EDs (ta : TA) (es : Es) (ds : List D) : Prop := ∀ (S : Addr → Prop) (A : Nat → Addr) (B H : Hp) (σ : St), En S A B H σ es → ∀ Q : List V → Hp → Prop, (∀ vs H2, Same H H2 → IsDs (Sx S A es) H2 ds vs → Q vs H2) → ta σ H Q
def EXs (ta : TA) (es : Es) (ds : List D) : Prop := ∀ (S : Addr → Prop) (A : Nat → Addr) (B H : Hp) (σ : St), En S A B H σ es → ∀ Q : List V → Hp → Prop, (∀ vs H2, Same H H2 → IsDs S H2 ds vs → Q vs H2) → ta σ H Q
def ET (tt : TT) (es : Es) (b : Bool) : Prop := ∀ (S : Addr → Prop) (A : Nat → Addr) (B H : Hp) (σ : St), En S A B H σ es → ∀ Q : Bool → Hp → Prop, (∀ H2, Same H H2 → Q b H2) → tt σ H Q
def EO (to : TO) (es : Es) (o : Option Int) : Prop := ∀ (S : Addr → Prop) (A : Nat → Addr) (B H : Hp) (σ : St), En S A B H σ es → ∀ Q : Option Int → Hp → Prop, (∀ H2, Same H H2 → Q o H2) → to σ H Q
/-- an operation on data; a call on data -/
def RD (r : R2) (x y z : D) : Prop := ∀ (S : Addr → Prop) (H : Hp) (u v : V), Dm S H → IsD S H x u → IsD S H y v → ∀ Q : VK, (∀ w H2, Same H H2 → IsD S H2 z w → Q w H2) → r u v H Q
def RL (r : R2) (x y : D) (zs : List D) : Prop := ∀ (S : Addr → Prop) (H : Hp) (u v : V), Dm S H → IsD S H x u → IsD S H y v →
  ∀ Q : VK, (∀ p ws H2, Same H H2 → H p = none → H2 p = some (.lst ws) → IsDs (fun a => S a ∨ a = p) H2 zs ws → Q (.ref p) H2) → r u v H Q
def RC (r : List V → Hp → VK → Prop) (xs : List D) (z : D) : Prop := ∀ (S : Addr → Prop) (H : Hp) (us : List V), Dm S H → IsDs S H xs us → ∀ Q : VK, (∀ w H2, Same H H2 → IsD S H2 z w → Q w H2) → r us H Q
def RCL (r : List V → Hp → VK → Prop) (xs zs : List D) : Prop := ∀ (S : Addr → Prop) (H : Hp) (us : List V), Dm S H → IsDs S H xs us →
  ∀ Q : VK, (∀ p ws H2, Same H H2 → H p = none → H2 p = some (.lst ws) → IsDs (fun a => S a ∨ a = p) H2 zs ws → Q (.ref p) H2) → r us H Q
def flD : D → Bool
  | .t _ => false
  | .l _ => false
  | .e _ => false
  | _ => true
theorem flat_any {S T : Addr → Prop} {H H' : Hp} {d : D} {v : V} (h : flD d = true) (q : IsD S H d v) : IsD T H' d v := by
  cases d <;> first | exact q | (simp [flD] at h)
section
variable {K : PySem.W.Frag} {es : Es} {ta tb te : TE} {tas : TA} {t u : TT} {x y z d : D} {xs ys ds : List D} {r : R2}
theorem ED.toX (h : ED te es d) : EX te es d := fun S A B H σ E Q q => h S A B H σ E Q fun v H2 e i => q v H2 e (i.wide fun _ s => .inl s)
theorem EX.toD (h : EX te es d) (f : flD d = true) : ED te es d := fun S A B H σ E Q q => h S A B H σ E Q fun v H2 e i => q v H2 e (flat_any f i)
theorem EL.toD (h : EL te es ds) : ED te es (.l ds) := fun S A B H σ E Q q => h S A B H σ E Q fun p vs H2 e n a i =>
  q _ H2 e ⟨p, vs, rfl, E.dmx.not n, a, i.wide fun _ s => .inl s⟩
theorem ed_var {i : Nat} (h : es[i]? = some (.d d)) : ED (tVar i) es d := fun S A B H σ E Q q => by
  obtain ⟨v, h1, h2⟩ := E.dat i d h
  exact ⟨v, h1, q v H (Same.refl H) h2⟩
theorem ex_own {i : Nat} (h : es[i]? = some (.o (.l ds))) : EX (tVar i) es (.l ds) := fun S A B H σ E Q q => by
  obtain ⟨h1, h2, h3, _, h4, vs, rfl, h5⟩ := E.own i _ h
  exact ⟨_, h1, q _ H (Same.refl H) ⟨_, vs, rfl, h2, h4, h5.wide fun _ s => .inl s⟩⟩
theorem ed_str {x : Str} : ED (tC (.str x)) es (.s x) := fun S A B H σ E Q q => q _ H (Same.refl H) rfl
theorem ed_int {x : Int} : ED (tC (.int x)) es (.i x) := fun S A B H σ E Q q => q _ H (Same.refl H) rfl
theorem ed_bl {x : Bool} : ED (tC (.bl x)) es (.b x) := fun S A B H σ E Q q => q _ H (Same.refl H) rfl
theorem ed_non : ED (tC .non) es .n := fun S A B H σ E Q q => q _ H (Same.refl H) rfl
theorem ea_nil : EDs tNil es [] := fun S A B H σ E Q q => q _ H (Same.refl H) rfl
theorem ea_cons {tr : TA} (h : ED te es d) (k : EDs tr es ds) : EDs (tCons te tr) es (d :: ds) := fun S A B H σ E Q q =>
  h S A B H σ E _ fun v H2 e i => k S A B H2 σ (E.mono e) _ fun vs H3 e3 is => q _ H3 (e.trans e3) (IsDs.cons (i.mono (Gr.of e3)) is)
theorem ex_nil : EXs tNil es [] := fun S A B H σ E Q q => q _ H (Same.refl H) rfl
theorem ex_cons {tr : TA} (h : EX te es d) (k : EXs tr es ds) : EXs (tCons te tr) es (d :: ds) := fun S A B H σ E Q q =>
  h S A B H σ E _ fun v H2 e i => k S A B H2 σ (E.mono e) _ fun vs H3 e3 is => q _ H3 (e.trans e3) (IsDs.cons (i.mono (Gr.of e3)) is)
theorem ed_tup (h : EDs tas es ds) (hl : ds.length ≤ sizeLine) : ED (tTup tas) es (.t ds) := fun S A B H σ E Q q =>
  h S A B H σ E _ fun vs H2 e i => ⟨by rw [i.length]; exact hl, fun p hp => q _ _ (e.trans (Same.new hp)) ⟨p, vs, rfl, (E.mono e).dmx.not hp, upd_same, i.mono (Gr.new hp)⟩⟩
theorem el_lst (h : EDs tas es ds) (hl : ds.length ≤ sizeLine) : EL (tLst tas) es ds := fun S A B H σ E Q q =>
  h S A B H σ E _ fun vs H2 e i => ⟨by rw [i.length]; exact hl, fun p hp => q p vs _ (e.trans (Same.new hp)) (e.free hp) upd_same ((i.more hp).mono (Gr.of (Same.new hp)))⟩
theorem ed_op (ha : ED ta es x) (hb : ED tb es y) (hr : RD r x y z) : ED (tOp r ta tb) es z := fun S A B H σ E Q q =>
  ha S A B H σ E _ fun u H2 e2 i => hb S A B H2 σ (E.mono e2) _ fun v H3 e3 j => hr _ H3 u v ((E.mono e2).mono e3).dmx (i.mono (Gr.of e3)) j Q fun w H4 e4 k => q w H4 ((e2.trans e3).trans e4) k
theorem ex_op (ha : EX ta es x) (hb : EX tb es y) (hr : RD r x y z) : EX (tOp r ta tb) es z := fun S A B H σ E Q q =>
  ha S A B H σ E _ fun u H2 e2 i => hb S A B H2 σ (E.mono e2) _ fun v H3 e3 j => hr _ H3 u v ((E.mono e2).mono e3).dm (i.mono (Gr.of e3)) j Q fun w H4 e4 k => q w H4 ((e2.trans e3).trans e4) k
/-- own lists among the operands, the value flat -/
theorem ed_opx (ha : EX ta es x) (hb : EX tb es y) (hr : RD r x y z) (f : flD z = true) : ED (tOp r ta tb) es z := (ex_op ha hb hr).toD f
theorem el_op (ha : ED ta es x) (hb : ED tb es y) (hr : RL r x y ds) : EL (tOp r ta tb) es ds := fun S A B H σ E Q q =>
  ha S A B H σ E _ fun u H2 e2 i => hb S A B H2 σ (E.mono e2) _ fun v H3 e3 j => hr _ H3 u v ((E.mono e2).mono e3).dmx (i.mono (Gr.of e3)) j Q fun p ws H4 e4 n a k => q p ws H4 ((e2.trans e3).trans e4) ((e2.trans e3).free n) a k
/-- xs[k] of an own list -/
theorem ed_ixo {i : Nat} {k : Int} (h : es[i]? = some (.o (.l ds))) (hb : ED tb es (.i k)) (hk : atI ds k = some d) : ED (tOp (rIxL K) (tVar i) tb) es d := fun S A B H σ E Q q => by
  obtain ⟨h1, h2, h3, _, h4, vs, rfl, h5⟩ := E.own i _ h
  refine ⟨_, h1, hb S A B H σ E _ fun v H2 e2 j => ?_⟩
  cases j
  have hl := h5.length
  unfold atI at hk
  rw [← hl] at hk
  cases q1 : ixN vs.length k with
  | none =>
    rw [q1] at hk
    cases hk
  | some m =>
    rw [q1] at hk
    obtain ⟨w, w1, w2⟩ := h5.get (j := m) (d := d) hk
    refine ⟨_, vs, k, w, rfl, rfl, SqL.of (e2 _ _ h4), ?_, q w H2 e2 (w2.mono (Gr.of e2))⟩
    unfold atI
    rw [q1]
    exact w1
theorem rd_int {g : Int → Int → V} {a b c : Int} (e : g a b = .int c) : RD (rI0 g) (.i a) (.i b) (.i c) := fun S H u v _ i j Q q => by
  cases i; cases j
  exact ⟨a, b, rfl, rfl, by rw [e]; exact q _ H (Same.refl H) rfl⟩
theorem rd_bool {g : Int → Int → V} {a b : Int} {c : Bool} (e : g a b = .bl c) : RD (rI0 g) (.i a) (.i b) (.b c) := fun S H u v _ i j Q q => by
  cases i; cases j
  exact ⟨a, b, rfl, rfl, by rw [e]; exact q _ H (Same.refl H) rfl⟩
theorem dec_V {a b : Str} : decide (V.str a = V.str b) = decide (a = b) := by
  by_cases h : a = b
  · rw [h, decide_eq_true rfl, decide_eq_true rfl]
  · rw [decide_eq_false h, decide_eq_false fun z => h (V.str.inj z)]
theorem dec_I {a b : Int} : decide (V.int a = V.int b) = decide (a = b) := by
  by_cases h : a = b
  · rw [h, decide_eq_true rfl, decide_eq_true rfl]
  · rw [decide_eq_false h, decide_eq_false fun z => h (V.int.inj z)]
theorem rd_eqS {a b : Str} : RD rEq (.s a) (.s b) (.b (decide (a = b))) := fun S H u v _ i j Q q => by
  cases i; cases j
  exact ⟨rfl, by rw [dec_V]; exact q _ H (Same.refl H) rfl⟩
theorem rd_neS {a b : Str} : RD rNe (.s a) (.s b) (.b (!decide (a = b))) := fun S H u v _ i j Q q => by
  cases i; cases j
  exact ⟨rfl, by rw [dec_V]; exact q _ H (Same.refl H) rfl⟩
theorem rd_eqI {a b : Int} : RD rEq (.i a) (.i b) (.b (decide (a = b))) := fun S H u v _ i j Q q => by
  cases i; cases j
  exact ⟨rfl, by rw [dec_I]; exact q _ H (Same.refl H) rfl⟩
theorem rd_neI {a b : Int} : RD rNe (.i a) (.i b) (.b (!decide (a = b))) := fun S H u v _ i j Q q => by
  cases i; cases j
  exact ⟨rfl, by rw [dec_I]; exact q _ H (Same.refl H) rfl⟩
def vD : D → V
  | .s x => .str x
  | .i x => .int x
  | .b x => .bl x
  | _ => .non
theorem isD_flat {S : Addr → Prop} {H : Hp} {d : D} {v : V} (f : flD d = true) (q : IsD S H d v) : v = vD d ∧ flatV v = true := by
  cases d <;> first | (cases q; exact ⟨rfl, rfl⟩) | (simp [flD] at f)
theorem isDs_flat {S : Addr → Prop} {H : Hp} : ∀ {ds : List D} {vs : List V}, ds.all flD = true → IsDs S H ds vs → vs = ds.map vD ∧ vs.all flatV = true
  | [], _, _, q => by cases q; exact ⟨rfl, rfl⟩
  | d :: ds, _, f, q => by
    obtain ⟨v, r, rfl, h, t⟩ := q
    rw [List.all_cons, Bool.and_eq_true] at f
    obtain ⟨e1, e2⟩ := isD_flat f.1 h
    obtain ⟨e3, e4⟩ := isDs_flat f.2 t
    subst e1 e3
    exact ⟨rfl, by rw [List.all_cons, e2, e4]; rfl⟩
/-- x in xs, of flat data -/
def inD (x : D) (ds : List D) : Bool := inV (vD x) (ds.map vD)
theorem rd_inT {neg : Bool} (fx : flD x = true) (fs : ds.all flD = true) : RD (rIn K neg) x (.t ds) (.b (if neg then !inD x ds else inD x ds)) := fun S H u v _ i j Q q => by
  obtain ⟨a, vs, rfl, _, ha, is⟩ := j
  obtain ⟨rfl, e2⟩ := isD_flat fx i
  obtain ⟨rfl, e4⟩ := isDs_flat fs is
  exact ⟨a, _, rfl, .inr (SqT.of ha), e2, e4, q _ H (Same.refl H) rfl⟩
theorem rd_inL {neg : Bool} (fx : flD x = true) (fs : ds.all flD = true) : RD (rIn K neg) x (.l ds) (.b (if neg then !inD x ds else inD x ds)) := fun S H u v _ i j Q q => by
  obtain ⟨a, vs, rfl, _, ha, is⟩ := j
  obtain ⟨rfl, e2⟩ := isD_flat fx i
  obtain ⟨rfl, e4⟩ := isDs_flat fs is
  exact ⟨a, _, rfl, .inl (SqL.of ha), e2, e4, q _ H (Same.refl H) rfl⟩
theorem flD_strs : ∀ (xs : List Str), (xs.map D.s).all flD = true
  | [] => rfl
  | _ :: r => by rw [List.map_cons, List.all_cons, flD_strs r]; rfl
theorem inD_strs {a : Str} : ∀ {xs : List Str}, inD (.s a) (xs.map D.s) = decide (a ∈ xs)
  | [] => rfl
  | b :: r => by
    have ih := inD_strs (a := a) (xs := r)
    unfold inD inV at ih ⊢
    show (eqV (V.str b) (V.str a) || ((r.map D.s).map vD).any fun y => eqV y (vD (.s a))) = _
    rw [ih]
    show ((b == a) || decide (a ∈ r)) = decide (a ∈ b :: r)
    by_cases h : a = b
    · subst h
      simp
    · have h2 : ¬ b = a := fun z => h z.symm
      simp [h, h2]
theorem atI_isDs {S : Addr → Prop} {H : Hp} {vs : List V} {k : Int} (is : IsDs S H ds vs) (hk : atI ds k = some d) : ∃ v, atI vs k = some v ∧ IsD S H d v := by
  have hl := is.length
  unfold atI at hk ⊢
  rw [hl]
  cases q1 : ixN ds.length k with
  | none =>
    rw [q1] at hk
    cases hk
  | some m =>
    rw [q1] at hk
    obtain ⟨w, w1, w2⟩ := is.get (j := m) (d := d) hk
    exact ⟨w, w1, w2⟩
theorem rd_ixT {k : Int} (hk : atI ds k = some d) : RD (rIxT K) (.t ds) (.i k) d := fun S H u v _ i j Q q => by
  obtain ⟨a, vs, rfl, _, ha, is⟩ := i
  cases j
  obtain ⟨w, w1, w2⟩ := atI_isDs is hk
  exact ⟨a, vs, k, w, rfl, rfl, SqT.of ha, w1, q w H (Same.refl H) w2⟩
theorem rd_ixL {k : Int} (hk : atI ds k = some d) : RD (rIxL K) (.l ds) (.i k) d := fun S H u v _ i j Q q => by
  obtain ⟨a, vs, rfl, _, ha, is⟩ := i
  cases j
  obtain ⟨w, w1, w2⟩ := atI_isDs is hk
  exact ⟨a, vs, k, w, rfl, rfl, SqL.of ha, w1, q w H (Same.refl H) w2⟩
theorem rd_ixS {x : Str} {k : Int} {c : Nat} (hl : x.length ≤ sizeLine) (hk : atI x.cps.toList k = some c) : RD rIxS (.s x) (.i k) (.s ⟨#[c]⟩) := fun S H u v _ i j Q q => by
  cases i; cases j
  exact ⟨x, k, c, rfl, rfl, hl, hk, q _ H (Same.refl H) rfl⟩
theorem rd_catT (hl : xs.length + ys.length ≤ sizeLine) : RD (rCatA K) (.t xs) (.t ys) (.t (xs ++ ys)) := fun S H u v dm i j Q q => by
  obtain ⟨a, vs, rfl, n1, ha, is⟩ := i
  obtain ⟨b, ws, rfl, n2, hb, js⟩ := j
  refine ⟨a, b, vs, ws, rfl, rfl, SqT.of ha, SqT.of hb, by rw [is.length, js.length]; exact hl, fun e => ?_, fun _ e => ?_, fun _ _ p hp => ?_⟩
  · subst e
    have e2 : xs = [] := List.length_eq_zero_iff.mp (by rw [← is.length]; rfl)
    subst e2
    exact q _ H (Same.refl H) ⟨b, ws, rfl, n2, hb, js⟩
  · subst e
    have e2 : ys = [] := List.length_eq_zero_iff.mp (by rw [← js.length]; rfl)
    subst e2
    rw [List.append_nil] at q
    exact q _ H (Same.refl H) ⟨a, vs, rfl, n1, ha, is⟩
  · exact q _ _ (Same.new hp) ⟨p, _, rfl, dm.not hp, upd_same, (is.app js).mono (Gr.new hp)⟩
theorem rl_cat (hl : xs.length + ys.length ≤ sizeLine) : RL rCat (.l xs) (.l ys) (xs ++ ys) := fun S H u v dm i j Q q => by
  obtain ⟨a, vs, rfl, n1, ha, is⟩ := i
  obtain ⟨b, ws, rfl, n2, hb, js⟩ := j
  refine ⟨a, b, vs, ws, rfl, rfl, ha, hb, by rw [is.length, js.length]; exact hl, fun p hp => ?_⟩
  exact q p _ _ (Same.new hp) hp upd_same (((is.app js).more hp).mono (Gr.of (Same.new hp)))
def rAddS : R2 := fun x y H Q => ∃ i j, x = .str i ∧ y = .str j ∧ i.length + j.length ≤ sizeLine ∧ Q (.str (i ++ j)) H
theorem op_addS {X : Cx} : OpR X (binaryOp .Add) rAddS := op_add_str
theorem rd_addS {a b : Str} (hl : a.length + b.length ≤ sizeLine) : RD rAddS (.s a) (.s b) (.s (a ++ b)) := fun S H u v _ i j Q q => by
  cases i; cases j
  exact ⟨a, b, rfl, rfl, hl, q _ H (Same.refl H) rfl⟩
theorem ed_cb {r : List V → Hp → VK → Prop} (h : EDs tas es xs) (hr : RC r xs z) : ED (tCB r tas) es z := fun S A B H σ E Q q =>
  h S A B H σ E _ fun vs H2 e i => hr _ H2 vs (E.mono e).dmx i Q fun w H3 e3 k => q w H3 (e.trans e3) k
theorem ed_cbx {r : List V → Hp → VK → Prop} (h : EXs tas es xs) (hr : RC r xs z) (f : flD z = true) : ED (tCB r tas) es z := fun S A B H σ E Q q =>
  h S A B H σ E _ fun vs H2 e i => hr _ H2 vs (E.mono e).dm i Q fun w H3 e3 k => q w H3 (e.trans e3) (flat_any f k)
theorem el_cb {r : List V → Hp → VK → Prop} (h : EDs tas es xs) (hr : RCL r xs ds) : EL (tCB r tas) es ds := fun S A B H σ E Q q =>
  h S A B H σ E _ fun vs H2 e i => hr _ H2 vs (E.mono e).dmx i Q fun p ws H3 e3 n a k => q p ws H3 (e.trans e3) (e.free n) a k
def rLen (K : PySem.W.Frag) : List V → Hp → VK → Prop := fun xs H Q => ∃ p ys, xs = [.ref p] ∧ (SqL K H p ys ∨ SqT K H p ys) ∧ Q (.int ys.length) H
theorem c_len {X : Cx} : CallR X (.builtin "len") (rLen X.K) := call_len_seq
theorem rc_lenL : RC (rLen K) [.l xs] (.i (xs.length : Nat)) := fun S H us _ is Q q => by
  obtain ⟨v, r, rfl, ⟨a, vs, rfl, _, ha, js⟩, rfl⟩ := is
  exact ⟨a, vs, rfl, .inl (SqL.of ha), by rw [js.length]; exact q _ H (Same.refl H) rfl⟩
theorem rc_lenT : RC (rLen K) [.t xs] (.i (xs.length : Nat)) := fun S H us _ is Q q => by
  obtain ⟨v, r, rfl, ⟨a, vs, rfl, _, ha, js⟩, rfl⟩ := is
  exact ⟨a, vs, rfl, .inr (SqT.of ha), by rw [js.length]; exact q _ H (Same.refl H) rfl⟩
def rTup (K : PySem.W.Frag) : List V → Hp → VK → Prop := fun xs H Q => ∃ p ys, xs = [.ref p] ∧ ((SqL K H p ys ∧ ∀ l, H l = none → Q (.ref l) (upd H l (.tup ys))) ∨ (SqT K H p ys ∧ Q (.ref p) H))
theorem c_tup {X : Cx} : CallR X (.type "tuple") (rTup X.K) := call_tuple_of
theorem rc_tupL : RC (rTup K) [.l xs] (.t xs) := fun S H us dm is Q q => by
  obtain ⟨v, r, rfl, ⟨a, vs, rfl, _, ha, js⟩, rfl⟩ := is
  exact ⟨a, vs, rfl, .inl ⟨SqL.of ha, fun p hp => q _ _ (Same.new hp) ⟨p, vs, rfl, dm.not hp, upd_same, js.mono (Gr.new hp)⟩⟩⟩
/-- tuple(xs) of an own list -/
theorem ed_tupo {i : Nat} (h : es[i]? = some (.o (.l ds))) : ED (tCB (rTup K) (tCons (tVar i) tNil)) es (.t ds) := fun S A B H σ E Q q => by
  obtain ⟨h1, h2, h3, _, h4, vs, rfl, h5⟩ := E.own i _ h
  exact ⟨_, h1, _, vs, rfl, .inl ⟨SqL.of h4, fun p hp => q _ _ (Same.new hp) ⟨p, vs, rfl, E.dmx.not hp, upd_same, h5.mono (Gr.new hp)⟩⟩⟩
def rLst (K : PySem.W.Frag) : List V → Hp → VK → Prop := fun xs H Q => ∃ p ys, xs = [.ref p] ∧ (SqL K H p ys ∨ SqT K H p ys) ∧ ∀ l, H l = none → Q (.ref l) (upd H l (.lst ys))
theorem c_lst {X : Cx} : CallR X (.type "list") (rLst X.K) := call_list_of
theorem rc_lstL : RCL (rLst K) [.l xs] xs := fun S H us dm is Q q => by
  obtain ⟨v, r, rfl, ⟨a, vs, rfl, n, ha, js⟩, rfl⟩ := is
  exact ⟨a, vs, rfl, .inl (SqL.of ha), fun p hp => q p vs _ (Same.new hp) hp upd_same ((js.more hp).mono (Gr.of (Same.new hp)))⟩
theorem rc_lstT : RCL (rLst K) [.t xs] xs := fun S H us dm is Q q => by
  obtain ⟨v, r, rfl, ⟨a, vs, rfl, n, ha, js⟩, rfl⟩ := is
  exact ⟨a, vs, rfl, .inr (SqT.of ha), fun p hp => q p vs _ (Same.new hp) hp upd_same ((js.more hp).mono (Gr.of (Same.new hp)))⟩
theorem eo_none : EO tNoPart es none := fun S A B H σ E Q q => q H (Same.refl H)
theorem eo_some {k : Int} (h : ED te es (.i k)) : EO (tPart te) es (some k) := fun S A B H σ E Q q =>
  h S A B H σ E _ fun v H2 e i => by cases i; exact ⟨k, rfl, q H2 e⟩
def cutD (xs : List D) (lo hi : Option Int) : List D := (xs.drop (HT.sIx xs.length 0 lo)).take (HT.sIx xs.length xs.length hi - HT.sIx xs.length 0 lo)
theorem cut_isDs {S : Addr → Prop} {H : Hp} {vs : List V} {lo hi : Option Int} (is : IsDs S H ds vs) : IsDs S H (cutD ds lo hi) (cutV vs lo hi) := by
  unfold cutD cutV
  rw [is.length]
  exact (is.drop _).take _
theorem ed_slT {tl th : TO} {lo hi : Option Int} (h : ED te es (.t xs)) (h1 : EO tl es lo) (h2 : EO th es hi) : ED (tSl (rSlA K) te tl th) es (.t (cutD xs lo hi)) := fun S A B H σ E Q q =>
  h S A B H σ E _ fun v H2 e i => h1 S A B H2 σ (E.mono e) _ fun H3 e3 => h2 S A B H3 σ ((E.mono e).mono e3) _ fun H4 e4 => by
    have E4 := ((E.mono e).mono e3).mono e4
    have i4 := i.mono (Gr.of (e3.trans e4))
    obtain ⟨a, vs, rfl, n, ha, is⟩ := i4
    refine ⟨a, vs, rfl, SqT.of ha, fun w => ?_, fun _ p hp => ?_⟩
    · refine q _ H4 (e.trans (e3.trans e4)) ⟨a, vs, rfl, n, ha, ?_⟩
      have c : cutV vs lo hi = vs := by
        unfold cutV
        rw [w.1, w.2, List.drop_zero, Nat.sub_zero, List.take_length]
      rw [← c]
      exact cut_isDs is
    · exact q _ _ ((e.trans (e3.trans e4)).trans (Same.new hp)) ⟨p, _, rfl, E4.dmx.not hp, upd_same, (cut_isDs is).mono (Gr.new hp)⟩
theorem et_test {b : Bool} (h : ED te es (.b b)) : ET (tTest te) es b := fun S A B H σ E Q q => h S A B H σ E _ fun v H2 e i => by cases i; exact ⟨b, rfl, q H2 e⟩
theorem et_B {b : Bool} (h : ED te es (.b b)) : ET (tB te) es b := fun S A B H σ E Q q => h S A B H σ E _ fun v H2 e i => by cases i; exact ⟨b, rfl, q H2 e⟩
theorem et_not {b : Bool} (h : ET t es b) : ET (tNot t) es (!b) := fun S A B H σ E Q q => h S A B H σ E _ fun H2 e => q H2 e
theorem et_or {a b : Bool} (h1 : ET t es a) (h2 : a = false → ET u es b) : ET (tOr t u) es (a || b) := fun S A B H σ E Q q => h1 S A B H σ E _ fun H2 e => by
  cases a with
  | true => exact q H2 e
  | false => exact h2 rfl S A B H2 σ (E.mono e) Q fun H3 e3 => q H3 (e.trans e3)
theorem ed_andV {a b : Bool} (h1 : ED ta es (.b a)) (h2 : a = true → ED tb es (.b b)) : ED (tAndV ta tb) es (.b (a && b)) := fun S A B H σ E Q q => h1 S A B H σ E _ fun v H2 e i => by
  cases i
  cases a with
  | true => exact ⟨true, rfl, h2 rfl S A B H2 σ (E.mono e) Q fun w H3 e3 k => q w H3 (e.trans e3) k⟩
  | false => exact ⟨false, rfl, q _ H2 e rfl⟩
theorem ed_orV {a b : Bool} (h1 : ED ta es (.b a)) (h2 : a = false → ED tb es (.b b)) : ED (tOrV ta tb) es (.b (a || b)) := fun S A B H σ E Q q => h1 S A B H σ E _ fun v H2 e i => by
  cases i
  cases a with
  | true => exact ⟨true, rfl, q _ H2 e rfl⟩
  | false => exact ⟨false, rfl, h2 rfl S A B H2 σ (E.mono e) Q fun w H3 e3 k => q w H3 (e.trans e3) k⟩
theorem ed_notV {a : Bool} (h1 : ED ta es (.b a)) : ED (tNotV ta) es (.b (!a)) := fun S A B H σ E Q q => h1 S A B H σ E _ fun v H2 e i => by
  cases i
  exact ⟨a, rfl, q _ H2 e rfl⟩
theorem ed_if {b : Bool} (h : ET t es b) (h1 : b = true → ED ta es d) (h2 : b = false → ED tb es d) : ED (tIf t ta tb) es d := fun S A B H σ E Q q => h S A B H σ E _ fun H2 e => by
  cases b with
  | true => exact h1 rfl S A B H2 σ (E.mono e) Q fun w H3 e3 k => q w H3 (e.trans e3) k
  | false => exact h2 rfl S A B H2 σ (E.mono e) Q fun w H3 e3 k => q w H3 (e.trans e3) k
/-- the truth of a list -/
def tTru (K : PySem.W.Frag) (ta : TE) : TT := fun σ H Q => ta σ H fun x H' => ∃ k, TruV K x H' k ∧ Q k H'
theorem et_truL (h : EX ta es (.l xs)) : ET (tTru K ta) es (!xs.isEmpty) := fun S A B H σ E Q q => h S A B H σ E _ fun v H2 e i => by
  obtain ⟨a, vs, rfl, n, ha, is⟩ := i
  have e2 : vs.isEmpty = xs.isEmpty := by
    have := is.length
    cases vs <;> cases xs <;> first | rfl | (simp at this)
  exact ⟨!xs.isEmpty, .inl ⟨vs, SqL.of ha, by rw [e2]⟩, q H2 e⟩
theorem et_eq {a b : Bool} (h : ET t es a) (e : a = b) : ET t es b := by
  subst e
  exact h
theorem ed_eq (h : ED te es x) (e : x = y) : ED te es y := by
  subst e
  exact h
theorem el_eq (h : EL te es xs) (e : xs = ys) : EL te es ys := by
  subst e
  exact h
/-- a def that is a relation of data: arguments ds, value d -/
def spR (R : List D → D → Prop) : Sp := fun vs H Q _ => ∃ (S : Addr → Prop) (ds : List D) (d : D), Dm S H ∧ IsDs S H ds vs ∧ R ds d ∧ ∀ v H', Same H H' → IsD S H' d v → Q v H'
/-- a def whose value is a new list -/
def spL (R : List D → List D → Prop) : Sp := fun vs H Q _ => ∃ (S : Addr → Prop) (ds xs : List D), Dm S H ∧ IsDs S H ds vs ∧ R ds xs ∧
  ∀ p ws H', Same H H' → H p = none → H' p = some (.lst ws) → IsDs (fun a => S a ∨ a = p) H' xs ws → Q (.ref p) H'
theorem ed_call {R : List D → D → Prop} {E : XK} (h : EDs tas es xs) (hr : R xs z) : ED (tCall (spR R) [] E tas) es z := fun S A B H σ En' Q q =>
  h S A B H σ En' _ fun vs H2 e i => ⟨_, xs, z, (En'.mono e).dmx, by rw [List.append_nil]; exact i, hr, fun w H3 e3 k => q w H3 (e.trans e3) k⟩
theorem el_call {R : List D → List D → Prop} {E : XK} (h : EDs tas es xs) (hr : R xs ds) : EL (tCall (spL R) [] E tas) es ds := fun S A B H σ En' Q q =>
  h S A B H σ En' _ fun vs H2 e i => ⟨_, xs, ds, (En'.mono e).dmx, by rw [List.append_nil]; exact i, hr, fun p ws H3 e3 n a k => q p ws H3 (e.trans e3) (e.free n) a k⟩
end
end Nz
namespace Nz
open PySem L2
/-- what runs: V its volatile addresses, K0 what is true of the start, J1 what is true of each heap -/
structure Wd where
  V : Addr → Prop
  K0 : Hp → Prop
  J1 : Hp → Prop
  use : ∀ H a, J1 H → V a → H a ≠ none
  stay : ∀ H H', J1 H → (∀ a, V a → H' a = H a) → J1 H'
  up : ∀ B C, K0 B → Same B C → K0 C
/-- nothing is volatile -/
def W0 : Wd := ⟨N0, fun _ => True, fun _ => True, fun _ _ _ h => h.elim, fun _ _ _ _ => trivial, fun _ _ _ _ => trivial⟩
structure WOk (W : Wd) (S : Addr → Prop) (B H : Hp) : Prop where
  vol : ∀ a, W.V a → S a ∧ B a = none
  k0 : W.K0 B
  j1 : W.J1 H
theorem wok0 {S : Addr → Prop} {B H : Hp} : WOk W0 S B H := ⟨fun _ h => h.elim, trivial, trivial⟩
theorem Wd.J1.same {W : Wd} {H H' : Hp} (j : W.J1 H) (e : Same H H') : W.J1 H' := W.stay H H' j fun a v => by
  cases q : H a with
  | none => exact absurd q (W.use H a j v)
  | some o => exact e a o q
theorem WOk.same {W : Wd} {S : Addr → Prop} {B H H' : Hp} (w : WOk W S B H) (e : Same H H') : WOk W S B H' := ⟨w.vol, w.k0, w.j1.same e⟩
theorem WOk.put {W : Wd} {S : Addr → Prop} {B H : Hp} {p : Addr} {o : HO} (w : WOk W S B H) (n : ¬ W.V p) : WOk W S B (upd H p o) := ⟨w.vol, w.k0, W.stay H _ w.j1 fun a v => by
  have ne : a ≠ p := fun z => by
    subst z
    exact n v
  rw [upd_ne ne]⟩
theorem WOk.at {W : Wd} {S : Addr → Prop} {B H H' : Hp} (w : WOk W S B H) (j : W.J1 H') : WOk W S B H' := ⟨w.vol, w.k0, j⟩
structure Po where
  nx : Es → Prop
  rt : D → Prop
  rl : List D → Prop := fun _ => False
  bk : Es → Prop := fun _ => False
  ct : Es → Prop := fun _ => False
/-- what follows a statement -/
structure Ok (W : Wd) (S : Addr → Prop) (B : Hp) (P : Po) (F : Ends) : Prop where
  nx : ∀ es' A' σ' H', P.nx es' → En S A' B H' σ' es' → W.J1 H' → F.nx σ' H'
  rt : ∀ d v H', P.rt d → Same B H' → W.J1 H' → IsD S H' d v → F.rt v H'
  rl : ∀ xs p vs H', P.rl xs → Same B H' → W.J1 H' → B p = none → ¬ S p → H' p = some (.lst vs) → IsDs (fun a => S a ∨ a = p) H' xs vs → F.rt (.ref p) H'
  bk : ∀ es' A' σ' H', P.bk es' → En S A' B H' σ' es' → W.J1 H' → F.bk σ' H'
  ct : ∀ es' A' σ' H', P.ct es' → En S A' B H' σ' es' → W.J1 H' → F.ct σ' H'
def SD (W : Wd) (u : TS) (es : Es) (P : Po) : Prop := ∀ (S : Addr → Prop) (A : Nat → Addr) (B H : Hp) (σ : St), En S A B H σ es → WOk W S B H → ∀ F : Ends, Ok W S B P F → u F σ H
section
variable {W : Wd} {K : PySem.W.Frag} {es : Es} {ta tb te : TE} {tas : TA} {tc : TT} {t u : TS} {x y z d : D} {xs ys ds : List D} {P : Po}
theorem sd_imp {P' : Po} (h : SD W t es P) (n : ∀ e, P.nx e → P'.nx e) (r : ∀ d, P.rt d → P'.rt d) (l : ∀ d, P.rl d → P'.rl d) (b : ∀ e, P.bk e → P'.bk e) (c : ∀ e, P.ct e → P'.ct e) : SD W t es P' := fun S A B H σ E w F k =>
  h S A B H σ E w F ⟨fun _ _ _ _ p => k.nx _ _ _ _ (n _ p), fun _ _ _ p => k.rt _ _ _ (r _ p), fun _ _ _ _ p => k.rl _ _ _ _ (l _ p), fun _ _ _ _ p => k.bk _ _ _ _ (b _ p), fun _ _ _ _ p => k.ct _ _ _ _ (c _ p)⟩
theorem sd_next (h : P.nx es) : SD W tNext es P := fun S A B H σ E w F k => k.nx _ _ _ _ h E w.j1
theorem sd_seq (N : Es → Prop) (h : SD W t es { P with nx := N }) (k : ∀ e, N e → SD W u e P) : SD W (tSeq t u) es P := fun S A B H σ E w F q =>
  h S A B H σ E w { F with nx := u F } ⟨fun es' A' σ' H' n E' j => k es' n S A' B H' σ' E' (w.at j) F q, q.rt, q.rl, q.bk, q.ct⟩
/-- the next state is one -/
theorem sd_seq1 {e' : Es} (h : SD W t es { P with nx := fun e => e = e' }) (k : SD W u e' P) : SD W (tSeq t u) es P := sd_seq (fun e => e = e') h (fun e z => by cases z; exact k)
theorem sd_if {b : Bool} (h : ET tc es b) (h1 : b = true → SD W t es P) (h2 : b = false → SD W u es P) : SD W (tIfS tc t u) es P := fun S A B H σ E w F k => h S A B H σ E _ fun H2 e => by
  cases b with
  | true => exact h1 rfl S A B H2 σ (E.mono e) (w.same e) F k
  | false => exact h2 rfl S A B H2 σ (E.mono e) (w.same e) F k
theorem sd_ret (h : ED te es d) (k : P.rt d) : SD W (tRet te) es P := fun S A B H σ E w F q => h S A B H σ E _ fun v H2 e i => q.rt d v H2 k (E.same.trans e) (w.same e).j1 (i.wide fun _ s => .inl s)
theorem sd_retL (h : EL te es ds) (k : P.rl ds) : SD W (tRet te) es P := fun S A B H σ E w F q => h S A B H σ E _ fun p vs H2 e n a i =>
  q.rl ds p vs H2 k (E.same.trans e) (w.same e).j1 (E.same.free n) (E.dm.not n) a (i.wide fun _ s => s.imp .inl id)
theorem sd_retO {i : Nat} (h : es[i]? = some (.o (.l ds))) (k : P.rl ds) : SD W (tRet (tVar i)) es P := fun S A B H σ E w F q => by
  obtain ⟨h1, h2, h3, _, h4, vs, rfl, h5⟩ := E.own i _ h
  refine ⟨_, h1, q.rl ds (A i) vs H k E.same w.j1 h3 h2 h4 (h5.wide fun a s => ?_)⟩
  rcases s with s | s
  · exact .inl s
  · exact .inr ⟨i, _, h, s⟩
def GD (g : TG) (d : D) (es es' : Es) : Prop := ∀ (S : Addr → Prop) (A : Nat → Addr) (B H : Hp) (σ : St) (v : V), En S A B H σ es → IsD (Sx S A es) H d v → ∀ Q : St → Hp → Prop, (∀ σ', En S A B H σ' es' → (∀ a, Sx S A es' a → Sx S A es a) → Q σ' H) → g v σ H Q
def GDs (g : TGs) (ds : List D) (es es' : Es) : Prop := ∀ (S : Addr → Prop) (A : Nat → Addr) (B H : Hp) (σ : St) (vs : List V), En S A B H σ es → IsDs (Sx S A es) H ds vs → ∀ Q : St → Hp → Prop, (∀ σ', En S A B H σ' es' → (∀ a, Sx S A es' a → Sx S A es a) → Q σ' H) → g vs σ H Q
theorem gd_name {j : Nat} : GD (gName j) d es (es.set j (.d d)) := fun S A B H σ v E i Q q => q _ (E.setD i) fun a s => s.imp id (own_set_d (by intro xs z; cases z))
theorem gds_nil : GDs gNil [] es es := fun S A B H σ vs E i Q q => ⟨i, q σ E fun _ s => s⟩
theorem gds_cons {g : TG} {gs : TGs} {e1 e2 : Es} (h : GD g d es e1) (k : GDs gs ds e1 e2) : GDs (gCons g gs) (d :: ds) es e2 := fun S A B H σ vs E i Q q => by
  obtain ⟨v, r, rfl, i1, i2⟩ := i
  exact ⟨v, r, rfl, h S A B H σ v E i1 _ fun σ' E' w => k S A B H σ' r E' (i2.wide w) _ fun σ2 E2 w2 => q σ2 E2 fun a s => w a (w2 a s)⟩
theorem gd_tup {gs : TGs} {n : Nat} {e' : Es} (h : GDs gs ds es e') (hn : ds.length = n) : GD (gTup K n gs) (.t ds) es e' := fun S A B H σ v E i Q q => by
  obtain ⟨a, vs, rfl, _, ha, is⟩ := i
  exact ⟨a, vs, rfl, SqT.of ha, by rw [is.length]; exact hn, h S A B H σ vs E is Q q⟩
theorem sd_asg {g : TG} {e' : Es} (h : ED te es d) (hg : GD g d es e') (k : P.nx e') : SD W (tAsg te g) es P := fun S A B H σ E w F q =>
  h S A B H σ E _ fun v H2 e i => hg S A B H2 σ v (E.mono e) i _ fun σ' E' _ => q.nx _ _ _ _ k E' (w.same e).j1
theorem sd_set {j : Nat} (h : ED te es d) (k : P.nx (es.set j (.d d))) : SD W (tAsg te (gName j)) es P := sd_asg h gd_name k
theorem sd_setO {j : Nat} (h : EL te es ds) (k : P.nx (es.set j (.o (.l ds)))) : SD W (tAsg te (gName j)) es P := fun S A B H σ E w F q =>
  h S A B H σ E _ fun p vs H2 e n a i => q.nx _ _ _ _ k (E.setO e n a ⟨vs, rfl, i⟩) (w.same e).j1
/-- x = e, then the rest -/
theorem sq_set {j : Nat} (h : ED te es d) (k : SD W u (es.set j (.d d)) P) : SD W (tSeq (tAsg te (gName j)) u) es P := sd_seq1 (sd_set h rfl) k
theorem sq_setO {j : Nat} (h : EL te es ds) (k : SD W u (es.set j (.o (.l ds))) P) : SD W (tSeq (tAsg te (gName j)) u) es P := sd_seq1 (sd_setO h rfl) k
/-- if c: return ..; the rest -/
theorem sq_if {b : Bool} (h : ET tc es b) (h1 : b = true → SD W (tSeq t u) es P) (h2 : b = false → SD W u es P) : SD W (tSeq (tIfS tc t tNext) u) es P := fun S A B H σ E w F k => h S A B H σ E _ fun H2 e => by
  cases b with
  | true => exact h1 rfl S A B H2 σ (E.mono e) (w.same e) F k
  | false => exact h2 rfl S A B H2 σ (E.mono e) (w.same e) F k
theorem sq_ret (h : ED te es d) (k : P.rt d) : SD W (tSeq (tRet te) u) es P := sd_seq (fun _ => False) (sd_ret h k) fun _ z => z.elim
theorem sq_retL (h : EL te es ds) (k : P.rl ds) : SD W (tSeq (tRet te) u) es P := sd_seq (fun _ => False) (sd_retL h k) fun _ z => z.elim
theorem sq_assoc {w : TS} (h : SD W (tSeq t (tSeq u w)) es P) : SD W (tSeq (tSeq t u) w) es P := h
theorem sq_next (h : SD W u es P) : SD W (tSeq tNext u) es P := h
theorem sq_if2 {b : Bool} {w : TS} (h : ET tc es b) (h1 : b = true → SD W (tSeq t w) es P) (h2 : b = false → SD W (tSeq u w) es P) : SD W (tSeq (tIfS tc t u) w) es P := fun S A B H σ E w F k => h S A B H σ E _ fun H2 e => by
  cases b with
  | true => exact h1 rfl S A B H2 σ (E.mono e) (w.same e) F k
  | false => exact h2 rfl S A B H2 σ (E.mono e) (w.same e) F k
theorem sd_app {i : Nat} (h : es[i]? = some (.o (.l xs))) (hd : ED te es d) (hl : xs.length < sizeLine) (k : P.nx (es.set i (.o (.l (xs ++ [d]))))) : SD W (tDrop (tBM K "list" rAppend (tVar i) (tCons te tNil))) es P := fun S A B H σ E w F q => by
  obtain ⟨h1, h2, h3, _, h4, vs, rfl, h5⟩ := E.own i _ h
  refine ⟨_, h1, .inl ⟨rfl, vs, SqL.of h4⟩, hd S A B H σ E _ fun v H2 e j => ?_⟩
  refine ⟨A i, vs, v, rfl, rfl, e _ _ h4, by rw [h5.length]; exact hl, ?_⟩
  exact q.nx _ _ _ _ k ((E.mono e).put h ⟨_, rfl, (h5.mono (Gr.of e)).app (IsDs.one j)⟩) ((w.same e).put fun z => h2 (w.vol _ z).1).j1
theorem sq_app {i : Nat} (h : es[i]? = some (.o (.l xs))) (hd : ED te es d) (hl : xs.length < sizeLine) (k : SD W u (es.set i (.o (.l (xs ++ [d])))) P) : SD W (tSeq (tDrop (tBM K "list" rAppend (tVar i) (tCons te tNil))) u) es P := sd_seq1 (sd_app h hd hl rfl) k
theorem sd_ext {i : Nat} (h : es[i]? = some (.o (.l xs))) (hd : ED te es (.l ds)) (hl : xs.length + ds.length ≤ sizeLine) (k : P.nx (es.set i (.o (.l (xs ++ ds))))) : SD W (tDrop (tBM K "list" rExtend (tVar i) (tCons te tNil))) es P := fun S A B H σ E w F q => by
  obtain ⟨h1, h2, h3, _, h4, vs, rfl, h5⟩ := E.own i _ h
  refine ⟨_, h1, .inl ⟨rfl, vs, SqL.of h4⟩, hd S A B H σ E _ fun v H2 e j => ?_⟩
  obtain ⟨b, ws, rfl, n, hb, js⟩ := j
  refine ⟨A i, b, vs, ws, rfl, rfl, e _ _ h4, hb, by rw [h5.length, js.length]; exact hl, ?_⟩
  exact q.nx _ _ _ _ k ((E.mono e).put h ⟨_, rfl, (h5.mono (Gr.of e)).app js⟩) ((w.same e).put fun z => h2 (w.vol _ z).1).j1
/-- x = xs.pop() -/
theorem sd_pop {i : Nat} {g : TG} {e' : Es} (h : es[i]? = some (.o (.l (xs ++ [d])))) (hg : GD g d (es.set i (.o (.l xs))) e') (k : P.nx e') : SD W (tAsg (tBM0 K "list" rPop (tVar i)) g) es P := fun S A B H σ E w F q => by
  obtain ⟨h1, h2, h3, _, h4, vs, rfl, h5⟩ := E.own i _ h
  have hl := h5.length
  rw [List.length_append] at hl
  obtain ⟨v, hv, hi⟩ := h5.get (j := xs.length) (d := d) (by simp)
  have e1 : vs.length - 1 = xs.length := by rw [hl]; rfl
  have e2 : vs.dropLast = vs.take xs.length := by
    rw [List.dropLast_eq_take, e1]
  have h6 : IsDs (Sx S A es) H xs vs.dropLast := by
    rw [e2]
    have z := h5.take xs.length
    rw [List.take_left'] at z
    · exact z
    · rfl
  refine ⟨_, h1, .inl ⟨rfl, vs, SqL.of h4⟩, A i, vs, v, rfl, rfl, h4, by rw [e1]; exact hv, ?_⟩
  have E2 := E.put (ys := .l xs) (vs := .lst vs.dropLast) h ⟨_, rfl, h6⟩
  have w' : ∀ a, Sx S A (es.set i (.o (.l xs))) a → Sx S A es a := fun a s => by
    rcases s with s | ⟨m, zs, e, rfl⟩
    · exact .inl s
    · rw [List.getElem?_set] at e
      by_cases c : i = m
      · subst c
        exact .inr ⟨i, _, h, rfl⟩
      · rw [if_neg c] at e
        exact .inr ⟨m, zs, e, rfl⟩
  have hi2 : IsD (Sx S A (es.set i (.o (.l xs)))) (upd H (A i) (.lst vs.dropLast)) d v := (hi.mono (Gr.put (.inr ⟨i, _, h, rfl⟩))).wide w'
  exact hg S A B _ σ v E2 hi2 _ fun σ' E' _ => q.nx _ _ _ _ k E' (w.put fun z => h2 (w.vol _ z).1).j1
theorem sq_pop {i : Nat} {g : TG} {e' : Es} (h : es[i]? = some (.o (.l (xs ++ [d])))) (hg : GD g d (es.set i (.o (.l xs))) e') (k : SD W u e' P) : SD W (tSeq (tAsg (tBM0 K "list" rPop (tVar i)) g) u) es P := sd_seq1 (sd_pop h hg rfl) k
/-- an own list is no longer changed: it is a datum -/
theorem En.freeze {S : Addr → Prop} {A : Nat → Addr} {B H : Hp} {σ : St} {i : Nat} (E : En S A B H σ es) (h : es[i]? = some (.o (.l xs))) : En S A B H σ (es.set i (.d (.l xs))) := by
  obtain ⟨h1, h2, h3, _, h4, vs, rfl, h5⟩ := E.own i _ h
  have n : ¬ Sx S A (es.set i (.d (.l xs))) (A i) := fun s => by
    rcases s with s | ⟨m, zs, e, q⟩
    · exact h2 s
    · rw [List.getElem?_set] at e
      by_cases c : i = m
      · subst c
        rw [if_pos rfl] at e
        split at e <;> cases e
      · rw [if_neg c] at e
        exact E.apart i m _ zs c h e q
  have w : ∀ a, Sx S A (es.set i (.d (.l xs))) a → Sx S A es a := fun a s => s.imp id (own_set_d (by intro xs z; cases z))
  refine ⟨fun k y e => ?_, fun k ys e => ?_, fun k j ys zs m e1 e2 => ?_, fun k v e => ?_, E.same, E.dm, by rw [List.length_set]; exact E.len⟩
  · rw [List.getElem?_set] at e
    by_cases c : i = k
    · subst c
      rw [if_pos rfl] at e
      split at e
      · cases e
        exact ⟨_, h1, A i, vs, rfl, n, h4, h5.wide w⟩
      · cases e
    · rw [if_neg c] at e
      obtain ⟨u, e1, e2⟩ := E.dat k y e
      exact ⟨u, e1, e2.wide w⟩
  · rw [List.getElem?_set] at e
    by_cases c : i = k
    · subst c
      rw [if_pos rfl] at e
      split at e <;> cases e
    · rw [if_neg c] at e
      obtain ⟨k1, k2, k3, us, k4, k5⟩ := E.own k ys e
      exact ⟨k1, k2, k3, us, k4, k5.wide w⟩
  · rw [List.getElem?_set] at e1 e2
    by_cases c : i = k
    · rw [if_pos c] at e1
      split at e1 <;> cases e1
    · by_cases c2 : i = j
      · rw [if_pos c2] at e2
        split at e2 <;> cases e2
      · rw [if_neg c] at e1
        rw [if_neg c2] at e2
        exact E.apart k j ys zs m e1 e2
  · rw [List.getElem?_set] at e
    by_cases c : i = k
    · rw [if_pos c] at e
      split at e <;> cases e
    · rw [if_neg c] at e
      exact E.raw k v e
theorem sd_freeze {i : Nat} (h : es[i]? = some (.o (.l xs))) (k : SD W u (es.set i (.d (.l xs))) P) : SD W u es P := fun S A B H σ E w F q => k S A B H σ (E.freeze h) w F q
end
mutual
theorem IsD.dom {T T' : Addr → Prop} {C : Hp} (g : ∀ a o, C a = some o → T' a → T a) : ∀ {d : D} {v : V}, IsD T C d v → IsD T' C d v
  | .s _, _, h => h
  | .i _, _, h => h
  | .b _, _, h => h
  | .n, _, h => h
  | .t _, _, h => by
    obtain ⟨a, vs, e, n, ha, q⟩ := h
    exact ⟨a, vs, e, fun z => n (g a _ ha z), ha, IsDs.dom g q⟩
  | .l _, _, h => by
    obtain ⟨a, vs, e, n, ha, q⟩ := h
    exact ⟨a, vs, e, fun z => n (g a _ ha z), ha, IsDs.dom g q⟩
  | .e _, _, h => by
    obtain ⟨a, e, n, r⟩ := h
    exact ⟨a, e, fun z => n (r.elim (fun ha => g a _ ha z) fun ⟨o, ha⟩ => g a _ ha z), r⟩
theorem IsDs.dom {T T' : Addr → Prop} {C : Hp} (g : ∀ a o, C a = some o → T' a → T a) : ∀ {ds : List D} {vs : List V}, IsDs T C ds vs → IsDs T' C ds vs
  | [], _, h => h
  | _ :: _, _, h => by
    obtain ⟨v, r, e, q, t⟩ := h
    exact ⟨v, r, e, IsD.dom g q, IsDs.dom g t⟩
end
structure Gd (J : It) (xs : List V) (G : Hp → Prop) : Prop where
  go : ∀ i H, G H → i < xs.length → J.go i H
  yld : ∀ i H x H', G H → i < xs.length → J.yld i H x H' → H' = H ∧ xs[i]? = some x
  stop : ∀ i H, G H → xs.length ≤ i → J.stop i H
/-- what a for walks: the data ds; L: the objects that must stand meanwhile -/
def Src (wi : TI) (es : Es) (ds : List D) : Prop := ∀ (S : Addr → Prop) (A : Nat → Addr) (B H : Hp) (σ : St), En S A B H σ es → ∀ R : It → Hp → Prop,
  (∀ J H2 xs (L : List (Addr × HO)), Same H H2 → (∀ p ∈ L, ¬ Sx S A es p.1 ∧ H2 p.1 = some p.2) → Gd J xs (fun H => ∀ p ∈ L, H p.1 = some p.2) → IsDs (Sx S A es) H2 ds xs → R J H2) → wi σ H R
section
variable {W : Wd} {K : PySem.W.Frag} {es : Es} {ta tb te tl : TE} {tas : TA} {tc : TT} {t u : TS} {x y z d : D} {xs ys ds : List D} {P : Po}
theorem src_list (h : ED tl es (.l ds)) : Src (iList K tl) es ds := fun S A B H σ E R r => h S A B H σ E _ fun v H2 e i => by
  obtain ⟨a, vs, rfl, n, ha, is⟩ := i
  refine ⟨a, rfl, ⟨vs, SqL.of ha⟩, r _ H2 vs [(a, .lst vs)] e (fun p hp => ?_) ⟨fun j H3 g hj => ?_, fun j H3 x H4 g hj y => ?_, fun j H3 g hj => ?_⟩ is⟩
  · cases List.mem_singleton.mp hp
    exact ⟨n, ha⟩
  · exact ⟨vs, vs[j], SqL.of (g _ (List.mem_singleton.mpr rfl)), List.getElem?_eq_getElem hj⟩
  · exact ⟨y.1, y.2 vs (SqL.of (g _ (List.mem_singleton.mpr rfl)))⟩
  · exact ⟨vs, SqL.of (g _ (List.mem_singleton.mpr rfl)), hj⟩
theorem src_tup (h : ED tl es (.t ds)) : Src (iTup K tl) es ds := fun S A B H σ E R r => h S A B H σ E _ fun v H2 e i => by
  obtain ⟨a, vs, rfl, n, ha, is⟩ := i
  refine ⟨a, rfl, ⟨vs, SqT.of ha⟩, r _ H2 vs [(a, .tup vs)] e (fun p hp => ?_) ⟨fun j H3 g hj => ?_, fun j H3 x H4 g hj y => ?_, fun j H3 g hj => ?_⟩ is⟩
  · cases List.mem_singleton.mp hp
    exact ⟨n, ha⟩
  · exact ⟨vs, vs[j], SqT.of (g _ (List.mem_singleton.mpr rfl)), List.getElem?_eq_getElem hj⟩
  · exact ⟨y.1, y.2 vs (SqT.of (g _ (List.mem_singleton.mpr rfl)))⟩
  · exact ⟨vs, SqT.of (g _ (List.mem_singleton.mpr rfl)), hj⟩
def rngD (n : Nat) : List D := (List.range n).map fun (k : Nat) => D.i (k : Int)
theorem isDs_rng {S : Addr → Prop} {H : Hp} : ∀ (l : List Nat), IsDs S H (l.map fun (k : Nat) => D.i (k : Int)) (l.map fun (k : Nat) => V.int (k : Int))
  | [] => rfl
  | _ :: r => ⟨_, _, rfl, rfl, isDs_rng r⟩
theorem src_rng {n : Nat} (h : EDs tas es [.i (n : Int)]) (hn : n ≤ 1000000) : Src (iRng1 tas) es (rngD n) := fun S A B H σ E R r => h S A B H σ E _ fun vs H2 e i => by
  obtain ⟨v, q, rfl, i1, i2⟩ := i
  cases i1; cases i2
  refine ⟨(n : Int), rfl, by omega, by omega, ?_⟩
  rw [Int.toNat_natCast]
  refine r _ H2 ((List.range n).map fun (k : Nat) => V.int (k : Int)) [] e (fun p hp => by cases hp) ⟨fun j H3 g hj => ?_, fun j H3 x H4 g hj y => ?_, fun j H3 g hj => ?_⟩ (isDs_rng _)
  · show j < n
    simpa using hj
  · have hj' : j < n := by simpa using hj
    refine ⟨y.1, ?_⟩
    rw [List.getElem?_map, List.getElem?_range hj', y.2, Int.zero_add]
    rfl
  · show n ≤ j
    simpa using hj
/-- another start: all that stands now but the own lists and what is volatile -/
theorem En.cut {S : Addr → Prop} {A : Nat → Addr} {B H : Hp} {σ : St} (E : En S A B H σ es) (V : Addr → Prop) (hV : ∀ a, V a → S a ∧ B a = none) : ∃ C : Hp, En S A C H σ es ∧ Same B C ∧ Gr (Sx S A es) H C ∧ ∀ a, V a → C a = none := by
  refine ⟨fun b => @ite _ (Own A es b ∨ V b) (Classical.propDecidable _) none (H b), ⟨E.dat, fun i ys h => ?_, E.apart, E.raw, fun b o e => ?_, E.dm, E.len⟩, fun b o e => ?_, fun b o n e => ?_, fun a o => ?_⟩
  · obtain ⟨h1, h2, _, h4⟩ := E.own i ys h
    exact ⟨h1, h2, if_pos (.inl ⟨i, ys, h, rfl⟩), h4⟩
  · by_cases c : Own A es b ∨ V b
    · rw [if_pos c] at e
      cases e
    · rw [if_neg c] at e
      exact e
  · have c : ¬ (Own A es b ∨ V b) := fun z => by
      rcases z with ⟨i, ys, h, q⟩ | z
      · obtain ⟨_, _, h3, _⟩ := E.own i ys h
        rw [← q, e] at h3
        cases h3
      · rw [(hV b z).2] at e
        cases e
    show (@ite _ (Own A es b ∨ V b) (Classical.propDecidable _) none (H b)) = some o
    rw [if_neg c]
    exact E.same b o e
  · have c : ¬ (Own A es b ∨ V b) := fun z => z.elim (fun z => n (.inr z)) fun z => n (.inl (hV b z).1)
    show (@ite _ (Own A es b ∨ V b) (Classical.propDecidable _) none (H b)) = some o
    rw [if_neg c]
    exact e
  · exact if_pos (.inr o)
theorem En.back {S : Addr → Prop} {A : Nat → Addr} {B C H : Hp} {σ : St} (E : En S A C H σ es) (s : Same B C) : En S A B H σ es :=
  ⟨E.dat, fun i ys h => by
    obtain ⟨h1, h2, h3, h4⟩ := E.own i ys h
    exact ⟨h1, h2, s.free h3, h4⟩, E.apart, E.raw, s.trans E.same, E.dm, E.len⟩
theorem Ok.cut {S : Addr → Prop} {B C : Hp} {F : Ends} (k : Ok W S B P F) (s : Same B C) : Ok W S C P F :=
  ⟨fun _ _ _ _ p E => k.nx _ _ _ _ p (E.back s), fun _ _ _ p e => k.rt _ _ _ p (s.trans e), fun _ _ _ _ p e j n => k.rl _ _ _ _ p (s.trans e) j (s.free n), fun _ _ _ _ p E => k.bk _ _ _ _ p (E.back s), fun _ _ _ _ p E => k.ct _ _ _ _ p (E.back s)⟩
theorem sd_for {wi : TI} {g : TG} {tb : TS} (h : Src wi es ds) (I : Nat → Es → Prop) (h0 : I 0 es)
    (hs : ∀ i d e, ds[i]? = some d → I i e → ∃ e', GD g d e e' ∧ SD W tb e' { P with nx := I (i + 1), ct := I (i + 1), bk := P.nx }) (hd : ∀ e, I ds.length e → P.nx e) : SD W (tFor wi g tb) es P := fun S A B H σ E w F k =>
  h S A B H σ E _ fun J H2 xs L e hL G is => by
    obtain ⟨C, E2, sBC, gr, hvol⟩ := (E.mono e).cut W.V w.vol
    have k2 := k.cut sBC
    have w2 : WOk W S C H2 := ⟨fun a v => ⟨(w.vol a v).1, hvol a v⟩, W.up _ _ w.k0 sBC, (w.same e).j1⟩
    have isC : IsDs (fun a => S a ∨ C a = none) C ds xs := (is.mono gr).dom fun a o ha s => by
      rcases s with s | s
      · exact .inl s
      · rw [ha] at s
        cases s
    have LC : ∀ p ∈ L, C p.1 = some p.2 := fun p hp => gr _ _ (hL p hp).1 (hL p hp).2
    have hlen := is.length
    refine ⟨fun i m σ' H' => m = xs.length - i ∧ i ≤ xs.length ∧ ∃ e' A', I i e' ∧ En S A' C H' σ' e' ∧ W.J1 H', ⟨_, rfl, Nat.zero_le _, es, A, h0, E2, w2.j1⟩, ?_⟩
    rintro i m σ' H' ⟨rfl, hi, e', A', hI, E', j'⟩
    have g' : ∀ p ∈ L, H' p.1 = some p.2 := fun p hp => E'.same _ _ (LC p hp)
    by_cases hlt : i < xs.length
    · refine .inr ⟨G.go i H' g' hlt, fun σ2 H2 => ∃ e2 A2, I (i + 1) e2 ∧ En S A2 C H2 σ2 e2 ∧ W.J1 H2, fun σ2 H3 ⟨e2, A2, q1, q2⟩ => ⟨xs.length - (i + 1), by omega, rfl, hlt, e2, A2, q1, q2⟩, fun v H3 y => ?_⟩
      obtain ⟨rfl, hv⟩ := G.yld i H' v H3 g' hlt y
      obtain ⟨d, hd1, hd2⟩ := isC.getV hv
      obtain ⟨e3, hg, hb⟩ := hs i d e' hd1 hI
      have hd3 : IsD (Sx S A' e') H3 d v := (hd2.mono (Gr.of E'.same)).wide fun a s => by
        rcases s with s | ⟨j, ys, q, rfl⟩
        · exact .inl s
        · obtain ⟨_, _, h3, _⟩ := E'.own j ys q
          exact .inr h3
      refine hg S A' C H3 σ' v E' hd3 _ fun σ4 E4 _ => hb S A' C H3 σ4 E4 (w2.at j') _ ⟨fun e5 A5 σ5 H5 p q j => ⟨e5, A5, p, q, j⟩, k2.rt, k2.rl, k2.nx, fun e5 A5 σ5 H5 p q j => ⟨e5, A5, p, q, j⟩⟩
    · have ei : i = xs.length := by omega
      refine .inl ⟨G.stop i H' g' (by omega), k2.nx e' A' σ' H' (hd e' (by rw [← hlen, ← ei]; exact hI)) E' j'⟩
end
end Nz
namespace Nz
open PySem L2
def wipeE (es : Es) : List Nat → Es
  | [] => es
  | v :: vs => (wipeE es vs).set v .no
/-- none of these slots is an own list -/
def noOwn (es : Es) (vs : List Nat) : Bool := vs.all fun i => match es[i]? with
  | some (.o _) => false
  | _ => true
theorem En.wiped {S : Addr → Prop} {A : Nat → Addr} {B H : Hp} {σ : St} {es : Es} (E : En S A B H σ es) : ∀ vs : List Nat, En S A B H (wipe σ vs) (wipeE es vs)
  | [] => E
  | v :: vs => (E.wiped vs).setN
theorem wiped_own {es : Es} {i : Nat} {xs : Cn} : ∀ {vs : List Nat}, noOwn es vs = true → es[i]? = some (.o xs) → (wipeE es vs)[i]? = some (.o xs)
  | [], _, h => h
  | v :: vs, n, h => by
    have n' : (match es[v]? with | some (.o _) => false | _ => true) = true ∧ noOwn es vs = true := by
      unfold noOwn at n
      rw [List.all_cons, Bool.and_eq_true] at n
      exact n
    have c : v ≠ i := fun z => by
      subst z
      rw [h] at n'
      exact absurd n'.1 (by simp)
    show ((wipeE es vs).set v .no)[i]? = _
    rw [List.getElem?_set, if_neg c]
    exact wiped_own n'.2 h
theorem own_wiped {A : Nat → Addr} {es : Es} {vs : List Nat} (n : noOwn es vs = true) {a : Addr} (h : Own A es a) : Own A (wipeE es vs) a := by
  obtain ⟨i, xs, e, q⟩ := h
  exact ⟨i, xs, wiped_own n e, q⟩
theorem wiped_of {es : Es} {i : Nat} {xs : Cn} : ∀ {vs : List Nat}, (wipeE es vs)[i]? = some (.o xs) → es[i]? = some (.o xs)
  | [], h => h
  | v :: vs, h => by
    have h' : ((wipeE es vs).set v .no)[i]? = some (.o xs) := h
    rw [List.getElem?_set] at h'
    by_cases c : v = i
    · rw [if_pos c] at h'
      split at h' <;> cases h'
    · rw [if_neg c] at h'
      exact wiped_of h'
theorem own_of_wiped {A : Nat → Addr} {es : Es} {vs : List Nat} {a : Addr} (h : Own A (wipeE es vs) a) : Own A es a := by
  obtain ⟨i, xs, e, q⟩ := h
  exact ⟨i, xs, wiped_of e, q⟩
/-- the target of a comprehension: d is stored into the wiped slots -/
structure GW (g : TG) (d : D) (vs : List Nat) (es e' : Es) : Prop where
  run : ∀ (S : Addr → Prop) (A : Nat → Addr) (B H : Hp) (σ : St) (v : V), En S A B H (wipe σ vs) (wipeE es vs) → IsD (Sx S A (wipeE es vs)) H d v → ∀ Q : St → Hp → Prop, (∀ σ', En S A B H σ' e' → wipe σ' vs = wipe σ vs → Q σ' H) → g v (wipe σ vs) H Q
  own : ∀ A a, Own A es a → Own A e' a
theorem own_set_no {A : Nat → Addr} {es : Es} {j : Nat} {x : Sl} {a : Addr} (n : ∀ xs, es[j]? ≠ some (.o xs)) (h : Own A es a) : Own A (es.set j x) a := by
  obtain ⟨i, xs, e, q⟩ := h
  refine ⟨i, xs, ?_, q⟩
  have c : j ≠ i := fun z => by
    subst z
    exact n xs e
  rw [List.getElem?_set, if_neg c]
  exact e
theorem set_not_o {es : Es} {j : Nat} {x : Sl} (hx : ∀ xs, x ≠ .o xs) : ∀ xs, (es.set j x)[j]? ≠ some (.o xs) := fun xs h => by
  rw [List.getElem?_set, if_pos rfl] at h
  split at h
  · exact hx xs (Option.some.inj h)
  · cases h
theorem gw_name {d : D} {j : Nat} {es : Es} (n : noOwn es [j] = true) : GW (gName j) d [j] es ((es.set j .no).set j (.d d)) where
  run := fun S A B H σ v E i Q q => q _ (E.setD i) (by
    show ((σ.set j none).set j (some v)).set j none = σ.set j none
    rw [List.set_set, List.set_set])
  own := fun A a h => own_set_no (set_not_o (by intro xs z; cases z)) (own_wiped (vs := [j]) n h)
theorem set_comm2 {σ : St} {i j : Nat} {a b : Option V} (h : i ≠ j) : (σ.set i a).set j b = (σ.set j b).set i a := List.set_comm a b h
section
variable {K : PySem.W.Frag} {es : Es} {te : TE} {tt : TT} {d : D} {ds : List D} {P : Po} {α : Type}
/-- what a comprehension walks: it may be an own list -/
def SrcC (wi : TI) (es : Es) (ds : List D) : Prop := ∀ (S : Addr → Prop) (A : Nat → Addr) (B H : Hp) (σ : St), En S A B H σ es → ∀ R : It → Hp → Prop,
  (∀ J H2 xs (L : List (Addr × HO)), Same H H2 → (∀ p ∈ L, H2 p.1 = some p.2) → Gd J xs (fun H => ∀ p ∈ L, H p.1 = some p.2) → IsDs (Sx S A es) H2 ds xs → R J H2) → wi σ H R
theorem Src.c {wi : TI} (h : Src wi es ds) : SrcC wi es ds := fun S A B H σ E R r => h S A B H σ E R fun J H2 xs L e hL G i => r J H2 xs L e (fun p hp => (hL p hp).2) G i
theorem src_own {i : Nat} (h : es[i]? = some (.o (.l ds))) : SrcC (iList K (tVar i)) es ds := fun S A B H σ E R r => by
  obtain ⟨h1, h2, h3, _, h4, vs, rfl, h5⟩ := E.own i _ h
  refine ⟨_, h1, A i, rfl, ⟨vs, SqL.of h4⟩, r _ H vs [(A i, .lst vs)] (Same.refl H) (fun p hp => ?_) ⟨fun j H3 g hj => ?_, fun j H3 x H4 g hj y => ?_, fun j H3 g hj => ?_⟩ h5⟩
  · cases List.mem_singleton.mp hp
    exact h4
  · exact ⟨vs, vs[j], SqL.of (g _ (List.mem_singleton.mpr rfl)), List.getElem?_eq_getElem hj⟩
  · exact ⟨y.1, y.2 vs (SqL.of (g _ (List.mem_singleton.mpr rfl)))⟩
  · exact ⟨vs, SqL.of (g _ (List.mem_singleton.mpr rfl)), hj⟩
/-- [e for x in xs if t] at one place: zs stand for the items (by h), b is the test, k the element -/
theorem lc_at {wi : TI} {g : TG} {vs : List Nat} (zs : List α) (h : α → D) (b : α → Bool) (k : α → D) (hz : zs.length ≤ sizeLine) (n : noOwn es vs = true)
    (hs : ∀ z ∈ zs, ∃ e', GW g (h z) vs es e' ∧ ET tt e' (b z) ∧ (b z = true → ED te e' (k z))) {S : Addr → Prop} {A : Nat → Addr} {B H : Hp} {σ : St} (E : En S A B H σ es)
    (src : ∀ R : It → Hp → Prop, (∀ J H2 xs (L : List (Addr × HO)), Same H H2 → (∀ p ∈ L, H2 p.1 = some p.2) → Gd J xs (fun H => ∀ p ∈ L, H p.1 = some p.2) → IsDs (Sx S A es) H2 (zs.map h) xs → R J H2) → wi σ H R)
    (Q : VK) (q : ∀ p vs' H2, Same H H2 → H p = none → H2 p = some (.lst vs') → IsDs (fun a => Sx S A es a ∨ a = p) H2 ((zs.filter b).map k) vs' → Q (.ref p) H2) : tLc wi g tt te vs σ H Q :=
  src _ fun J H1 xs L e1 hL G is D hD => by
    have E1 := E.mono e1
    have gD : Same H1 (upd H1 D (.lst [])) := Same.new hD
    have E2 := (E1.vol gD hD (by rw [upd_same]; exact fun z => nomatch z)).wiped vs
    have w0 : ∀ a, Sx (fun a => S a ∨ a = D) A (wipeE es vs) a → Sx S A es a ∨ a = D := fun a s => by
      rcases s with (s | s) | s
      · exact .inl (.inl s)
      · exact .inr s
      · exact .inl (.inr (own_of_wiped s))
    have hlen : xs.length = zs.length := by rw [is.length, List.length_map]
    have LD : ∀ p ∈ L, p.1 ≠ D := fun p hp => ne_of_none (hL p hp) hD
    refine ⟨fun i m H' => m = xs.length - i ∧ i ≤ xs.length ∧ Same H1 H' ∧ En (fun a => S a ∨ a = D) A B H' (wipe σ vs) (wipeE es vs) ∧ ∃ acc, H' D = some (.lst acc) ∧ IsDs (fun a => Sx S A es a ∨ a = D) H' (((zs.take i).filter b).map k) acc,
      ⟨_, rfl, Nat.zero_le _, gD, E2, [], upd_same, rfl⟩, ?_⟩
    rintro i m H' ⟨rfl, hi, s1, E', acc, hacc, iacc⟩
    have g' : ∀ p ∈ L, H' p.1 = some p.2 := fun p hp => s1 _ _ (hL p hp)
    by_cases hlt : i < xs.length
    · refine .inr ⟨G.go i H' g' hlt, fun H2 => Same H1 H2 ∧ En (fun a => S a ∨ a = D) A B H2 (wipe σ vs) (wipeE es vs) ∧ ∃ acc, H2 D = some (.lst acc) ∧ IsDs (fun a => Sx S A es a ∨ a = D) H2 (((zs.take (i + 1)).filter b).map k) acc,
        fun H2 r => ⟨_, by omega, rfl, hlt, r⟩, fun v H3 y => ?_⟩
      obtain ⟨rfl, hv⟩ := G.yld i H' v H3 g' hlt y
      obtain ⟨d, hd1, hd2⟩ := is.getV hv
      have hzi : i < zs.length := by omega
      have ez : zs[i]? = some zs[i] := List.getElem?_eq_getElem hzi
      rw [List.getElem?_map, ez] at hd1
      cases hd1
      obtain ⟨e', gw, ht, hk⟩ := hs zs[i] (List.getElem_mem hzi)
      have hd3 : IsD (Sx (fun a => S a ∨ a = D) A (wipeE es vs)) H3 (h zs[i]) v := ((hd2.more hD).mono (Gr.of s1)).wide w0
      have tk : zs.take (i + 1) = zs.take i ++ [zs[i]] := by rw [List.take_succ, ez]; rfl
      refine gw.run _ A B H3 σ v E' hd3 _ fun σ' E4 hw => ⟨hw, ht _ A B H3 σ' E4 _ fun H4 e4 => ?_⟩
      cases hb : b zs[i] with
      | false =>
        show _ ∧ _
        refine ⟨s1.trans e4, E'.mono e4, acc, e4 _ _ hacc, ?_⟩
        rw [tk, List.filter_append, List.filter_cons, hb]
        rw [if_neg Bool.false_ne_true, List.filter_nil, List.append_nil]
        exact iacc.mono (Gr.of e4)
      | true =>
        refine hk hb _ A B H4 σ' (E4.mono e4) _ fun y H5 e5 iy => ?_
        have s5 : Same H3 H5 := e4.trans e5
        have al : acc.length ≤ i := by
          rw [iacc.length, List.length_map]
          exact Nat.le_trans (List.length_filter_le _ _) (by rw [List.length_take]; omega)
        refine ⟨acc, s5 _ _ hacc, by omega, ?_, ?_, acc ++ [y], upd_same, ?_⟩
        · intro a o ha
          rw [upd_ne (ne_of_none ha hD)]
          exact s5 _ _ (s1 _ _ ha)
        · exact (E'.mono s5).chg (.inr rfl) (E1.same.free hD)
        · rw [tk, List.filter_append, List.map_append]
          have gd : Gr (fun a => Sx S A es a ∨ a = D) H5 (upd H5 D (.lst (acc ++ [y]))) := Gr.put (.inr rfl)
          refine ((iacc.mono (Gr.of s5)).app ?_).mono gd
          rw [List.filter_cons, hb, if_pos rfl]
          refine IsDs.one (iy.wide fun a s => ?_)
          rcases s with (s | s) | s
          · exact .inl (.inl s)
          · exact .inr (gw.own A a s)
          · exact .inl (.inr s)
    · have ei : i = zs.length := by omega
      refine .inl ⟨G.stop i H' g' (by omega), ?_⟩
      rw [ei, List.take_length] at iacc
      exact q D acc H' (e1.trans s1) (e1.free hD) hacc iacc
/-- [e for x in xs if t]: zs stand for the items (by h), b is the test, k the element -/
theorem el_lcFc {wi : TI} {g : TG} {vs : List Nat} (zs : List α) (h : α → D) (b : α → Bool) (k : α → D) (hz : zs.length ≤ sizeLine) (n : noOwn es vs = true) (src : SrcC wi es (zs.map h))
    (hs : ∀ z ∈ zs, ∃ e', GW g (h z) vs es e' ∧ ET tt e' (b z) ∧ (b z = true → ED te e' (k z))) : EL (tLc wi g tt te vs) es ((zs.filter b).map k) := fun S A B H σ E Q q => lc_at zs h b k hz n hs E (src S A B H σ E) Q q
/-- the test of a comprehension without one -/
theorem et_yes : ET tYes es true := fun S A B H σ E Q q => q H (Same.refl H)
/-- [e for x in xs] -/
theorem el_lcMc {wi : TI} {g : TG} {vs : List Nat} (zs : List α) (h : α → D) (k : α → D) (hz : zs.length ≤ sizeLine) (n : noOwn es vs = true) (src : SrcC wi es (zs.map h))
    (hs : ∀ z ∈ zs, ∃ e', GW g (h z) vs es e' ∧ ED te e' (k z)) : EL (tLc wi g tYes te vs) es (zs.map k) := by
  have q := el_lcFc (te := te) (tt := tYes) (vs := vs) zs h (fun _ => true) k hz n src fun z hz => by
    obtain ⟨e', h1, h2⟩ := hs z hz
    exact ⟨e', h1, et_yes, fun _ => h2⟩
  have e : zs.filter (fun _ => true) = zs := List.filter_eq_self.mpr fun _ _ => rfl
  rw [e] at q
  exact q
theorem el_lcM {wi : TI} {g : TG} {vs : List Nat} (zs : List α) (h : α → D) (k : α → D) (hz : zs.length ≤ sizeLine) (n : noOwn es vs = true) (src : Src wi es (zs.map h))
    (hs : ∀ z ∈ zs, ∃ e', GW g (h z) vs es e' ∧ ED te e' (k z)) : EL (tLc wi g tYes te vs) es (zs.map k) := el_lcMc zs h k hz n src.c hs
theorem fn_R {P : Program} {w : World} {K : PySem.W.Frag} {mg : Str → Option Value} {base : Heap} {x : Str} {st : Stmt} {f : Addr} {fd : FuncData} {N ps : List Str} {k : Nat} {R : List D → D → Prop}
    (F : L2.Fun K x x st f fd) (S : FnScope N ps (defScope st)) (hN : ps.length ≤ N.length) (len : ∀ ds d, R ds d → ds.length = ps.length)
    (hbody : ∀ (cdv : Value) (A : Around) (outer : List Env) (s : Shared) (H : Hp) (E : XK), Room k (A.deeper (PyProof.Rows.envOfC x (defScope st) s.heap.objs.size f cdv)) →
      ∃ t, PSs (cxOf CX0 P w K mg base N x (defScope st) f cdv A outer s H E).nox (defBody st) t ∧ ∀ ds d, R ds d → SD W0 t (ds.map Sl.d ++ List.replicate (N.length - ds.length) .no) ⟨fun _ => d = .n, fun d' => d' = d, fun xs => d = .l xs, fun _ => False, fun _ => False⟩) :
    FnOk P w K mg base CX0 (k + 1) f fd ps (spR R) := by
  refine F.ok S (fun vs H Q E h => ?_) (fun cdv A outer s H vs Q E hr h => ?_)
  · obtain ⟨T, ds, d, dm, is, hR, q⟩ := h
    rw [is.length]
    exact len ds d hR
  · obtain ⟨T, ds, d, dm, is, hR, q⟩ := h
    obtain ⟨t, h1, h2⟩ := hbody cdv A outer s H E hr
    have hl : ds.length ≤ N.length := by rw [len ds d hR]; exact hN
    refine ⟨t, h1, h2 ds d hR T _ H H _ (env_start dm is hl) wok0 _ ⟨fun es' A' σ' H' p E' _ => ?_, fun d' v H' p e _ i => ?_, fun xs p vs' H' e s _ n _ h i => ?_, fun _ _ _ _ p _ => p.elim, fun _ _ _ _ p _ => p.elim⟩⟩
    · have p' : d = .n := p
      subst p'
      exact q .non H' E'.same rfl
    · have p' : d' = d := p
      subst p'
      exact q v H' e i
    · have e' : d = .l xs := e
      subst e'
      exact q _ H' s ⟨p, vs', rfl, dm.not n, h, i.wide fun a z => .inl z⟩
theorem fn_L {P : Program} {w : World} {K : PySem.W.Frag} {mg : Str → Option Value} {base : Heap} {x : Str} {st : Stmt} {f : Addr} {fd : FuncData} {N ps : List Str} {k : Nat} {R : List D → List D → Prop}
    (F : L2.Fun K x x st f fd) (S : FnScope N ps (defScope st)) (hN : ps.length ≤ N.length) (len : ∀ ds d, R ds d → ds.length = ps.length)
    (hbody : ∀ (cdv : Value) (A : Around) (outer : List Env) (s : Shared) (H : Hp) (E : XK), Room k (A.deeper (PyProof.Rows.envOfC x (defScope st) s.heap.objs.size f cdv)) →
      ∃ t, PSs (cxOf CX0 P w K mg base N x (defScope st) f cdv A outer s H E).nox (defBody st) t ∧ ∀ ds xs, R ds xs → SD W0 t (ds.map Sl.d ++ List.replicate (N.length - ds.length) .no) ⟨fun _ => False, fun _ => False, fun xs' => xs' = xs, fun _ => False, fun _ => False⟩) :
    FnOk P w K mg base CX0 (k + 1) f fd ps (spL R) := by
  refine F.ok S (fun vs H Q E h => ?_) (fun cdv A outer s H vs Q E hr h => ?_)
  · obtain ⟨T, ds, d, dm, is, hR, q⟩ := h
    rw [is.length]
    exact len ds d hR
  · obtain ⟨T, ds, xs, dm, is, hR, q⟩ := h
    obtain ⟨t, h1, h2⟩ := hbody cdv A outer s H E hr
    have hl : ds.length ≤ N.length := by rw [len ds xs hR]; exact hN
    refine ⟨t, h1, h2 ds xs hR T _ H H _ (env_start dm is hl) wok0 _ ⟨fun es' A' σ' H' p E' => p.elim, fun d' v H' p e i => p.elim, fun xs' p vs' H' e s _ n _ h i => ?_, fun _ _ _ _ p _ => p.elim, fun _ _ _ _ p _ => p.elim⟩⟩
    have e' : xs' = xs := e
    subst e'
    exact q p vs' H' s n h i
end
end Nz
namespace Nz
open PySem L2
theorem boot_bool : bootBuiltins "bool" = some (.type "bool") := by decide +kernel
theorem boot_int : bootBuiltins "int" = some (.type "int") := by decide +kernel
theorem boot_str : bootBuiltins "str" = some (.type "str") := by decide +kernel
theorem boot_list : bootBuiltins "list" = some (.type "list") := by decide +kernel
theorem boot_tuple : bootBuiltins "tuple" = some (.type "tuple") := by decide +kernel
theorem boot_isinstance : bootBuiltins "isinstance" = some (.builtin "isinstance") := by decide +kernel
theorem boot_len : bootBuiltins "len" = some (.builtin "len") := by decide +kernel
theorem boot_min : bootBuiltins "min" = some (.builtin "min") := by decide +kernel
section
variable {W : Wd} {K : PySem.W.Frag} {es : Es} {ta tb te : TE} {tas : TA} {t u : TS} {x y z d : D} {xs ys ds : List D} {P : Po}
def rInt : List V → Hp → VK → Prop := fun xs H Q => (∃ i, xs = [.int i] ∧ Q (.int i) H) ∨ ∃ k, xs = [.bl k] ∧ Q (.int (if k then 1 else 0)) H
theorem c_int {X : Cx} : CallR X (.type "int") rInt := call_int1
theorem rc_intB {b : Bool} : RC rInt [.b b] (.i (if b then 1 else 0)) := fun S H us _ is Q q => by
  obtain ⟨v, r, rfl, i1, i2⟩ := is
  cases i1; cases i2
  exact .inr ⟨b, rfl, q _ H (Same.refl H) rfl⟩
def rMin2 : List V → Hp → VK → Prop := fun xs H Q => ∃ i j, xs = [.int i, .int j] ∧ Q (.int (if j < i then j else i)) H
theorem c_min2 {X : Cx} (hc : X.calm = true) : CallR X (.builtin "min") rMin2 := call_min2 hc
theorem rc_min2 {a b : Int} : RC rMin2 [.i a, .i b] (.i (if b < a then b else a)) := fun S H us _ is Q q => by
  obtain ⟨v, r, rfl, i1, w, s, rfl, i2, i3⟩ := is
  cases i1; cases i2; cases i3
  exact ⟨a, b, rfl, q _ H (Same.refl H) rfl⟩
def tyD : D → String
  | .s _ => "str" | .i _ => "int" | .b _ => "bool" | .n => "NoneType" | .t _ => "tuple" | .l _ => "list" | .e _ => "dict"
theorem tyX_of {S : Addr → Prop} {H : Hp} {d : D} {v : V} (h : IsD S H d v) : TyX K H v (.type (tyD d)) := by
  cases d with
  | s x => cases h; exact .base (.str _)
  | i x => cases h; exact .base (.int _)
  | b x => cases h; exact .base (.bl _)
  | n => cases h; exact .base .non
  | t xs => obtain ⟨a, vs, rfl, _, ha, _⟩ := h; exact .base (.tup ha)
  | l xs => obtain ⟨a, vs, rfl, _, ha, _⟩ := h; exact .base (.lst ha)
  | e kvs =>
    obtain ⟨a, rfl, _, r⟩ := h
    rcases r with ha | ⟨o, ha⟩
    · exact .base (.dK ha)
    · exact .fDict ha
theorem ed_isi {T : String} {b : Bool} (h : EX ta es x) (e : kitB (tyD x) T = some b) : ED (tCB (rIsi K) (tCons ta (tCons (tC (.ty T)) tNil))) es (.b b) := fun S A B H σ E Q q => h S A B H σ E _ fun v H2 e2 i =>
  ⟨v, .ty T, .type (tyD x), .type T, b, rfl, .ty T, tyX_of i, kit_ty e, q _ H2 e2 rfl⟩
end
section
variable {X : Cx} (K : PySem.W.Frag)
theorem ixT (e : X.K = K := by rfl) : IxR X (rIxT K) := by subst e; exact ix_tup
theorem ixL (e : X.K = K := by rfl) : IxR X (rIxL K) := by subst e; exact ix_list
theorem ixQ (e : X.K = K := by rfl) : IxR X (rIx K) := by subst e; exact ix_seq
theorem inQ (e : X.K = K := by rfl) : OpR X (compareOp .In) (rIn K false) := by subst e; exact op_in_seq
theorem ninQ (e : X.K = K := by rfl) : OpR X (compareOp .NotIn) (rIn K true) := by subst e; exact op_notIn_seq
theorem catA (e : X.K = K := by rfl) : OpR X (binaryOp .Add) (rCatA K) := by subst e; exact op_catA
theorem slA (e : X.K = K := by rfl) : SlR X (rSlA K) := by subst e; exact sl_tupA
theorem cLen (e : X.K = K := by rfl) : CallR X (.builtin "len") (rLen K) := by subst e; exact c_len
theorem cTup (e : X.K = K := by rfl) : CallR X (.type "tuple") (rTup K) := by subst e; exact c_tup
theorem cLst (e : X.K = K := by rfl) : CallR X (.type "list") (rLst K) := by subst e; exact c_lst
theorem cIsi (e : X.K = K := by rfl) : CallR X (.builtin "isinstance") (rIsi K) := by subst e; exact call_isi
theorem piL {tg l : Expr} {tl : TE} (hl : PE X l tl) (e : X.K = K := by rfl) : PI X tg l (iList K tl) := by subst e; exact pi_list hl
theorem piT {tg l : Expr} {tl : TE} (hl : PE X l tl) (e : X.K = K := by rfl) : PI X tg l (iTup K tl) := by subst e; exact pi_tup hl
theorem ptTru {a : Expr} {ta : TE} (ha : PE X a ta) (e : X.K = K := by rfl) (he : ∀ whole, isTrue a X.env whole = (do let v ← whole; standAt a.pos; holding [v] (truthy v)) := by intro _; rfl) : PT X a (tTru K ta) := by subst e; exact pt_truth ha he
end
section
variable {K : PySem.W.Frag} {ds : List D} {d : D}
theorem rd_ixQt {k : Int} (hk : atI ds k = some d) : RD (rIx K) (.t ds) (.i k) d := fun S H u v dm i j Q q => .inr (.inl (rd_ixT (K := K) hk S H u v dm i j Q q))
theorem rd_ixQl {k : Int} (hk : atI ds k = some d) : RD (rIx K) (.l ds) (.i k) d := fun S H u v dm i j Q q => .inl (rd_ixL (K := K) hk S H u v dm i j Q q)
theorem rd_eqB {a b : Bool} : RD rEq (.b a) (.b b) (.b (a == b)) := fun S H u v _ i j Q q => by
  cases i; cases j
  exact ⟨rfl, by rw [dec_bl]; exact q _ H (Same.refl H) rfl⟩
theorem rd_neB {a b : Bool} : RD rNe (.b a) (.b b) (.b (!(a == b))) := fun S H u v _ i j Q q => by
  cases i; cases j
  exact ⟨rfl, by rw [dec_bl]; exact q _ H (Same.refl H) rfl⟩
theorem rd_eqN : RD rEq .n .n (.b true) := fun S H u v _ i j Q q => by
  cases i; cases j
  exact ⟨rfl, q _ H (Same.refl H) rfl⟩
def isNon : D → Bool
  | .n => true
  | _ => false
def rIsN1 : R2 := fun x y H Q => y = .non ∧ Q (.bl (decide (x = .non))) H
theorem op_isNn {X : Cx} : OpR X (compareOp .Is) rIsN1 := op_isN
theorem rd_isN : RD rIsN1 d .n (.b (isNon d)) := fun S H u v _ i j Q q => by
  cases j
  have e : decide (u = .non) = isNon d := by
    cases d with
    | n => cases i; rfl
    | s x => cases i; rfl
    | i x => cases i; rfl
    | b x => cases i; rfl
    | t x => obtain ⟨a, vs, rfl, _⟩ := i; rfl
    | l x => obtain ⟨a, vs, rfl, _⟩ := i; rfl
    | e x => obtain ⟨a, rfl, _⟩ := i; rfl
  exact ⟨rfl, by rw [e]; exact q _ H (Same.refl H) rfl⟩
end
structure DefF (K : PySem.W.Frag) (mg : Str → Option Value) (x : Str) (st : Stmt) (ps : List Str) : Prop where
  ex : ∃ (f : Addr) (fd : FuncData), L2.Fun K x x st f fd ∧ mg x = some (.ref f) ∧ Binds K fd ps []
section
variable {P : Program} {w : World} {K : PySem.W.Frag} {mg : Str → Option Value} {base : Heap} {x : Str} {st : Stmt} {N ps : List Str} {k : Nat}
theorem DefF.cal {sp : Sp} (F : DefF K mg x st ps) (h : ∀ f fd, L2.Fun K x x st f fd → FnOk P w K mg base CX0 k f fd ps sp) : C8.Cal P w K mg base k x sp [] := by
  obtain ⟨f, fd, hf, hm, hb⟩ := F.ex
  exact ⟨f, fd, ps, [], h f fd hf, hm, hf.kp, hb, .nil⟩
theorem DefF.R {R : List D → D → Prop} (F : DefF K mg x st ps) (S : FnScope N ps (defScope st)) (hN : ps.length ≤ N.length) (len : ∀ ds d, R ds d → ds.length = ps.length)
    (hbody : ∀ (f : Addr) (cdv : Value) (A : Around) (outer : List Env) (s : Shared) (H : Hp) (E : XK), Room k (A.deeper (PyProof.Rows.envOfC x (defScope st) s.heap.objs.size f cdv)) →
      ∃ t, PSs (cxOf CX0 P w K mg base N x (defScope st) f cdv A outer s H E).nox (defBody st) t ∧ ∀ ds d, R ds d → SD W0 t (ds.map Sl.d ++ List.replicate (N.length - ds.length) .no) ⟨fun _ => d = .n, fun d' => d' = d, fun xs => d = .l xs, fun _ => False, fun _ => False⟩) :
    C8.Cal P w K mg base (k + 1) x (spR R) [] := F.cal fun f fd hf => fn_R hf S hN len (hbody f)
theorem DefF.L {R : List D → List D → Prop} (F : DefF K mg x st ps) (S : FnScope N ps (defScope st)) (hN : ps.length ≤ N.length) (len : ∀ ds d, R ds d → ds.length = ps.length)
    (hbody : ∀ (f : Addr) (cdv : Value) (A : Around) (outer : List Env) (s : Shared) (H : Hp) (E : XK), Room k (A.deeper (PyProof.Rows.envOfC x (defScope st) s.heap.objs.size f cdv)) →
      ∃ t, PSs (cxOf CX0 P w K mg base N x (defScope st) f cdv A outer s H E).nox (defBody st) t ∧ ∀ ds xs, R ds xs → SD W0 t (ds.map Sl.d ++ List.replicate (N.length - ds.length) .no) ⟨fun _ => False, fun _ => False, fun xs' => xs' = xs, fun _ => False, fun _ => False⟩) :
    C8.Cal P w K mg base (k + 1) x (spL R) [] := F.cal fun f fd hf => fn_L hf S hN len (hbody f)
end
end Nz
namespace Nz
open PySem L2
inductive Hd where
  | var (x : Str) | num (n : Int) | mk (c : Str) (xs : List Str) | hole | fn (x : Str) | call (x : Str) | lets (xs : List Str) | case (rs : List (Str × List Str)) | op (w : Str)
inductive Tm where
  | nd (h : Hd) (ks : List Tm)
def tS (xs : List Str) : D := .t (xs.map D.s)
def rowD (p : (Str × List Str) × D) : D := .t [.s p.1.1, tS p.1.2, p.2]
def pairD (p : Str × D) : D := .t [.s p.1, p.2]
def encH : Hd → List D → D
  | .var x, _ => .t [.s "var", .s x]
  | .num n, _ => .t [.s "number", .i n]
  | .mk c xs, _ => .t [.s "make", .s c, tS xs]
  | .hole, _ => .t [.s "hole"]
  | .fn x, ks => .t [.s "fun", .s x, ks.getD 0 .n]
  | .call x, ks => .t [.s "call", ks.getD 0 .n, .s x]
  | .lets xs, ks => .t [.s "let", .t ((xs.zip ks).map pairD), ks.getD xs.length .n]
  | .case rs, ks => .t [.s "case", ks.getD 0 .n, .t ((rs.zip ks.tail).map rowD)]
  | .op w, ks => .t (.s w :: ks)
mutual
def enc : Tm → D
  | .nd h ks => encH h (encs ks)
def encs : List Tm → List D
  | [] => []
  | k :: r => enc k :: encs r
end
theorem encs_map : ∀ ks : List Tm, encs ks = ks.map enc
  | [] => rfl
  | k :: r => by
    show enc k :: encs r = enc k :: r.map enc
    rw [encs_map r]
def arities : List (Str × Nat) := [("ifzero", 3), ("tick", 1), ("waste", 1), ("+", 2), ("-", 2), ("*", 2), ("/", 2), ("<", 2), ("=", 2)]
def okH : Hd → Nat → Prop
  | .var _, n => n = 0
  | .num _, n => n = 0
  | .mk _ xs, n => n = 0 ∧ xs.length ≤ 4
  | .hole, n => n = 0
  | .fn _, n => n = 1
  | .call _, n => n = 1
  | .lets xs, n => n = xs.length + 1 ∧ xs.length ≤ 4
  | .case rs, n => n = rs.length + 1 ∧ rs.length ≤ 4 ∧ ∀ r ∈ rs, r.2.length ≤ 4
  | .op w, n => (w, n) ∈ arities
mutual
def Wf : Tm → Prop
  | .nd h ks => okH h ks.length ∧ Wfs ks
def Wfs : List Tm → Prop
  | [] => True
  | k :: r => Wf k ∧ Wfs r
end
theorem wfs_all : ∀ {ks : List Tm}, Wfs ks ↔ ∀ k ∈ ks, Wf k
  | [] => ⟨fun _ => (fun x hx => nomatch hx), fun _ => trivial⟩
  | k :: r => by
    have ih := wfs_all (ks := r)
    refine ⟨fun h x hx => ?_, fun h => ⟨h k (List.mem_cons_self ..), ih.mpr fun x hx => h x (List.mem_cons_of_mem _ hx)⟩⟩
    rcases List.mem_cons.mp hx with rfl | hx
    · exact h.1
    · exact ih.mp h.2 x hx
/-- the names that each part gets -/
def binds : Hd → Nat → List (List Str)
  | .fn x, _ => [[x]]
  | .lets xs, n => List.replicate n xs
  | .case rs, _ => [] :: rs.map (·.2)
  | _, n => List.replicate n []
def kids : Tm → List Tm
  | .nd _ ks => ks
theorem one_of {α : Type} : ∀ {ks : List α}, ks.length = 1 → ∃ k, ks = [k]
  | [k], _ => ⟨k, rfl⟩
/-- the last of n + 1 -/
theorem last_of {α : Type} {n : Nat} : ∀ {ks : List α}, ks.length = n + 1 → ∃ ms m, ks = ms ++ [m] ∧ ms.length = n := fun {ks} h => by
  rcases List.eq_nil_or_concat ks with rfl | ⟨ms, m, rfl⟩
  · cases h
  · refine ⟨ms, m, by simp, ?_⟩
    simpa using h
theorem cons_of {α : Type} {n : Nat} : ∀ {ks : List α}, ks.length = n + 1 → ∃ k r, ks = k :: r ∧ r.length = n
  | k :: r, h => ⟨k, r, rfl, by simpa using h⟩
theorem zip_app1 {α β : Type} : ∀ {xs : List α} {ms : List β} {m : β}, ms.length = xs.length → xs.zip (ms ++ [m]) = xs.zip ms
  | [], [], _, _ => rfl
  | x :: xs, k :: ms, m, h => by
    show (x, k) :: xs.zip (ms ++ [m]) = (x, k) :: xs.zip ms
    rw [zip_app1 (by simpa using h)]
theorem getD_last {α : Type} {d m : α} : ∀ {ms : List α}, (ms ++ [m]).getD ms.length d = m
  | [] => rfl
  | _ :: r => getD_last (ms := r)
theorem enc_lets {xs : List Str} {ms : List Tm} {m : Tm} (h : ms.length = xs.length) : enc (.nd (.lets xs) (ms ++ [m])) = .t [.s "let", .t ((xs.zip ms).map fun p => .t [.s p.1, enc p.2]), enc m] := by
  show encH (.lets xs) (encs (ms ++ [m])) = _
  rw [encs_map, List.map_append]
  show D.t [_, .t ((xs.zip (ms.map enc ++ [enc m])).map pairD), (ms.map enc ++ [enc m]).getD xs.length .n] = _
  have e1 : (ms.map enc ++ [enc m]).getD xs.length .n = enc m := by
    rw [← h, show ms.length = (ms.map enc).length by rw [List.length_map]]
    exact getD_last
  rw [zip_app1 (by rw [List.length_map]; exact h), e1]
  have e : (xs.zip (ms.map enc)).map pairD = (xs.zip ms).map fun p => .t [.s p.1, enc p.2] := by
    rw [List.zip_map_right, List.map_map]
    rfl
  rw [e]
theorem enc_case {rs : List (Str × List Str)} {m : Tm} {ms : List Tm} : enc (.nd (.case rs) (m :: ms)) = .t [.s "case", enc m, .t ((rs.zip ms).map fun p => .t [.s p.1.1, tS p.1.2, enc p.2])] := by
  show encH (.case rs) (encs (m :: ms)) = _
  rw [encs_map]
  show D.t [_, enc m, .t ((rs.zip (ms.map enc)).map rowD)] = _
  have e : (rs.zip (ms.map enc)).map rowD = (rs.zip ms).map fun p => .t [.s p.1.1, tS p.1.2, enc p.2] := by
    rw [List.zip_map_right, List.map_map]
    rfl
  rw [e]
theorem enc_op {w : Str} {ks : List Tm} : enc (.nd (.op w) ks) = .t (.s w :: ks.map enc) := by
  show encH (.op w) (encs ks) = _
  rw [encs_map]
  rfl
theorem map_zip_fst {α β γ : Type} {f : α → γ} : ∀ {xs : List α} {ms : List β}, ms.length = xs.length → (xs.zip ms).map (fun p => f p.1) = xs.map f
  | [], [], _ => rfl
  | x :: xs, m :: ms, h => by
    show f x :: (xs.zip ms).map (fun p => f p.1) = f x :: xs.map f
    rw [map_zip_fst (by simpa using h)]
/-- a list written out of at most n items -/
def shortL : List D → Nat → Bool
  | [], _ => true
  | _ :: r, n + 1 => shortL r n
  | _ :: _, 0 => false
theorem shortL_le : ∀ {xs : List D} {n : Nat}, shortL xs n = true → xs.length ≤ n
  | [], _, _ => Nat.zero_le _
  | _ :: r, n + 1, h => Nat.succ_le_succ (shortL_le (xs := r) h)
theorem short_size {xs : List D} (h : shortL xs 40 = true) : xs.length ≤ sizeLine := Nat.le_trans (shortL_le h) (by decide)
section
variable {W : Wd} {es : Es} {tc : TT} {t u w : TS} {P : Po} {b : Bool}
theorem sq_ifT (h : ET tc es b) (hb : b = true) (k : SD W (tSeq t u) es P) : SD W (tSeq (tIfS tc t tNext) u) es P := by
  subst hb
  exact sq_if h (fun _ => k) (fun z => by cases z)
theorem sq_ifF (h : ET tc es b) (hb : b = false) (k : SD W u es P) : SD W (tSeq (tIfS tc t tNext) u) es P := by
  subst hb
  exact sq_if h (fun z => by cases z) (fun _ => k)
theorem rd_eqSb {a b : Str} {c : Bool} (e : decide (a = b) = c) : RD rEq (.s a) (.s b) (.b c) := by
  subst e
  exact rd_eqS
theorem rd_neSb {a b : Str} {c : Bool} (e : (!decide (a = b)) = c) : RD rNe (.s a) (.s b) (.b c) := by
  subst e
  exact rd_neS
theorem rd_eqIb {a b : Int} {c : Bool} (e : decide (a = b) = c) : RD rEq (.i a) (.i b) (.b c) := by
  subst e
  exact rd_eqI
theorem rd_neIb {a b : Int} {c : Bool} (e : (!decide (a = b)) = c) : RD rNe (.i a) (.i b) (.b c) := by
  subst e
  exact rd_neI
theorem rd_inTc {K : PySem.W.Frag} {neg b : Bool} {x : D} {ds : List D} (fx : flD x = true) (fs : ds.all flD = true) (e : (if neg then !inD x ds else inD x ds) = b) : RD (rIn K neg) x (.t ds) (.b b) := by
  subst e
  exact rd_inT fx fs
section
variable {K : PySem.W.Frag} {x y z : D} {r : List D}
theorem rd_ixT0 : RD (rIxT K) (.t (x :: r)) (.i 0) x := rd_ixT (atI_nat (j := 0) rfl)
theorem rd_ixT1 : RD (rIxT K) (.t (x :: y :: r)) (.i 1) y := rd_ixT (atI_nat (j := 1) rfl)
theorem rd_ixT2 : RD (rIxT K) (.t (x :: y :: z :: r)) (.i 2) z := rd_ixT (atI_nat (j := 2) rfl)
end
end
end Nz
namespace Nz
open PySem L2
mutual
def sz : Tm → Nat
  | .nd _ ks => szs ks + 1
def szs : List Tm → Nat
  | [] => 0
  | k :: r => sz k + szs r
end
theorem sz_mem : ∀ {ks : List Tm} {k : Tm}, k ∈ ks → sz k ≤ szs ks
  | a :: r, k, m => by
    show sz k ≤ sz a + szs r
    rcases List.mem_cons.mp m with rfl | m
    · omega
    · have := sz_mem m
      omega
end Nz
namespace Nz
open PySem L2
/-- te is worth some datum of which R is true; meanwhile W's volatile objects may change -/
def XD (W : Wd) (te : TE) (es : Es) (R : D → Prop) : Prop := ∀ (S : Addr → Prop) (A : Nat → Addr) (B H : Hp) (σ : St), En S A B H σ es → WOk W S B H →
  ∀ Q : VK, (∀ v H2 d, R d → Gr W.V H H2 → W.J1 H2 → IsD (Sx S A es) H2 d v → Q v H2) → te σ H Q
def XDs (W : Wd) (ta : TA) (es : Es) (R : List D → Prop) : Prop := ∀ (S : Addr → Prop) (A : Nat → Addr) (B H : Hp) (σ : St), En S A B H σ es → WOk W S B H →
  ∀ Q : List V → Hp → Prop, (∀ vs H2 ds, R ds → Gr W.V H H2 → W.J1 H2 → IsDs (Sx S A es) H2 ds vs → Q vs H2) → ta σ H Q
def XL (W : Wd) (te : TE) (es : Es) (R : List D → Prop) : Prop := ∀ (S : Addr → Prop) (A : Nat → Addr) (B H : Hp) (σ : St), En S A B H σ es → WOk W S B H →
  ∀ Q : VK, (∀ p vs H2 ds, R ds → Gr W.V H H2 → W.J1 H2 → H p = none → H2 p = some (.lst vs) → IsDs (fun a => Sx S A es a ∨ a = p) H2 ds vs → Q (.ref p) H2) → te σ H Q
def XT (W : Wd) (tt : TT) (es : Es) (R : Bool → Prop) : Prop := ∀ (S : Addr → Prop) (A : Nat → Addr) (B H : Hp) (σ : St), En S A B H σ es → WOk W S B H →
  ∀ Q : Bool → Hp → Prop, (∀ b H2, R b → Gr W.V H H2 → W.J1 H2 → Q b H2) → tt σ H Q
section
variable {W : Wd} {K : PySem.W.Frag} {es : Es} {ta tb te : TE} {tas : TA} {tc : TT} {t u : TS} {x y z d : D} {xs ys ds : List D} {P : Po} {r : R2}
theorem WOk.en {S : Addr → Prop} {A : Nat → Addr} {B H H2 : Hp} {σ : St} (w : WOk W S B H) (E : En S A B H σ es) (g : Gr W.V H H2) (j : W.J1 H2) : En S A B H2 σ es := E.gr g w.vol fun a v => W.use H2 a j v
theorem WOk.gx {S : Addr → Prop} {A : Nat → Addr} {B H H2 H3 : Hp} (w : WOk W S B H) (g : Gr W.V H2 H3) : Gr (Sx S A es) H2 H3 := Gr.wide (fun a v => .inl (w.vol a v).1) g
theorem xd_ed (h : ED te es d) : XD W te es (fun z => z = d) := fun S A B H σ E w Q q => h S A B H σ E Q fun v H2 e i => q v H2 d rfl (Gr.of e) (w.same e).j1 i
theorem xd_imp {R R' : D → Prop} (h : XD W te es R) (k : ∀ d, R d → R' d) : XD W te es R' := fun S A B H σ E w Q q => h S A B H σ E w Q fun v H2 d r g j i => q v H2 d (k d r) g j i
theorem xds_imp {R R' : List D → Prop} (h : XDs W tas es R) (k : ∀ d, R d → R' d) : XDs W tas es R' := fun S A B H σ E w Q q => h S A B H σ E w Q fun v H2 d r g j i => q v H2 d (k d r) g j i
theorem xl_toD {R : List D → Prop} (h : XL W te es R) : XD W te es (fun z => ∃ ds, z = .l ds ∧ R ds) := fun S A B H σ E w Q q => h S A B H σ E w Q fun p vs H2 ds r g j n a i =>
  q _ H2 _ ⟨ds, rfl, r⟩ g j ⟨p, vs, rfl, E.dmx.not n, a, i.wide fun _ s => .inl s⟩
theorem xt_et {b : Bool} (h : ET tc es b) : XT W tc es (fun z => z = b) := fun S A B H σ E w Q q => h S A B H σ E Q fun H2 e => q b H2 rfl (Gr.of e) (w.same e).j1
theorem xs_nil : XDs W tNil es (fun z => z = []) := fun S A B H σ E w Q q => q [] H [] rfl (Gr.refl _ H) w.j1 rfl
theorem xs_cons {tr : TA} {R : D → Prop} {R2 : D → List D → Prop} (h : XD W te es R) (k : ∀ d, R d → XDs W tr es (R2 d)) : XDs W (tCons te tr) es (fun z => ∃ d ds, z = d :: ds ∧ R d ∧ R2 d ds) := fun S A B H σ E w Q q =>
  h S A B H σ E w _ fun v H2 d r g j i => k d r S A B H2 σ (w.en E g j) (w.at j) _ fun vs H3 ds r3 g3 j3 i3 => q _ H3 _ ⟨d, ds, rfl, r, r3⟩ (g.trans g3) j3 (IsDs.cons (i.mono (w.gx g3)) i3)
theorem xs_eds (h : EDs tas es ds) : XDs W tas es (fun z => z = ds) := fun S A B H σ E w Q q => h S A B H σ E Q fun v H2 e i => q v H2 ds rfl (Gr.of e) (w.same e).j1 i
theorem xd_tup {R : List D → Prop} (h : XDs W tas es R) (hl : ∀ ds, R ds → ds.length ≤ sizeLine) : XD W (tTup tas) es (fun z => ∃ ds, z = .t ds ∧ R ds) := fun S A B H σ E w Q q =>
  h S A B H σ E w _ fun vs H2 ds r g j i => ⟨by rw [i.length]; exact hl ds r, fun p hp => q _ _ _ ⟨ds, rfl, r⟩ (g.trans (Gr.new hp)) ((w.at j).same (Same.new hp)).j1 ⟨p, vs, rfl, (w.en E g j).dmx.not hp, upd_same, i.mono (Gr.new hp)⟩⟩
/-- free ahead of a change of what is volatile -/
theorem WOk.free {S : Addr → Prop} {B H H2 : Hp} {p : Addr} (w : WOk W S B H) (g : Gr W.V H H2) (hp : H2 p = none) (j : W.J1 H2) : H p = none := by
  cases q : H p with
  | none => rfl
  | some o =>
    by_cases c : W.V p
    · exact absurd hp (W.use H2 p j c)
    · rw [g p o c q] at hp
      cases hp
theorem xd_op {R : D → Prop} {R2 : D → D → Prop} {R3 : D → D → D → Prop} (ha : XD W ta es R) (hb : ∀ x, R x → XD W tb es (R2 x)) (hr : ∀ x y, R x → R2 x y → ∃ z, RD r x y z ∧ R3 x y z) : XD W (tOp r ta tb) es (fun z => ∃ x y, R x ∧ R2 x y ∧ R3 x y z) := fun S A B H σ E w Q q =>
  ha S A B H σ E w _ fun u H2 x r1 g2 j2 i => hb x r1 S A B H2 σ (w.en E g2 j2) (w.at j2) _ fun v H3 y r2 g3 j3 k => by
    obtain ⟨z, h3, h4⟩ := hr x y r1 r2
    have E3 := (w.at j2).en (w.en E g2 j2) g3 j3
    exact h3 _ H3 u v E3.dmx (i.mono (w.gx g3)) k Q fun w' H4 e4 m => q w' H4 z ⟨x, y, r1, r2, h4⟩ ((g2.trans g3).trans (Gr.of e4)) ((w.at j3).same e4).j1 m
/-- an operation with a pure value, or of a pure value -/
theorem xd_opL {R : D → Prop} {R3 : D → D → Prop} (ha : XD W ta es R) (hb : ED tb es y) (hr : ∀ x, R x → ∃ z, RD r x y z ∧ R3 x z) : XD W (tOp r ta tb) es (fun z => ∃ x, R x ∧ R3 x z) :=
  xd_imp (xd_op (R2 := fun _ z => z = y) (R3 := fun x _ z => R3 x z) ha (fun _ _ => xd_ed hb) (fun x y' r1 e => by cases e; exact hr x r1)) fun d ⟨x, _, r1, _, r3⟩ => ⟨x, r1, r3⟩
theorem xd_opR {R : D → Prop} {R3 : D → D → Prop} (ha : ED ta es x) (hb : XD W tb es R) (hr : ∀ y, R y → ∃ z, RD r x y z ∧ R3 y z) : XD W (tOp r ta tb) es (fun z => ∃ y, R y ∧ R3 y z) :=
  xd_imp (xd_op (R := fun z => z = x) (R2 := fun _ => R) (R3 := fun _ y z => R3 y z) (xd_ed ha) (fun _ _ => hb) (fun x' y e r2 => by cases e; exact hr y r2)) fun d ⟨_, y, _, r2, r3⟩ => ⟨y, r2, r3⟩
theorem xt_test {R : Bool → Prop} (h : XD W te es (fun z => ∃ b, z = .b b ∧ R b)) : XT W (tTest te) es R := fun S A B H σ E w Q q => h S A B H σ E w _ fun v H2 d ⟨b, e, r⟩ g j i => by
  subst e
  cases i
  exact ⟨b, rfl, q b H2 r g j⟩
theorem xd_cb {r : List V → Hp → VK → Prop} {Ra : List D → Prop} {Rz : D → Prop} (h : XDs W tas es Ra) (hr : ∀ xs, Ra xs → ∃ z, RC r xs z ∧ Rz z) : XD W (tCB r tas) es Rz := fun S A B H σ E w Q q =>
  h S A B H σ E w _ fun vs H2 xs r g j i => by
    obtain ⟨z, h1, h2⟩ := hr xs r
    exact h1 _ H2 vs (w.en E g j).dmx i Q fun w' H3 e3 k => q w' H3 z h2 (g.trans (Gr.of e3)) ((w.at j).same e3).j1 k
theorem sd_setX {j : Nat} {R : D → Prop} (h : XD W te es R) (k : ∀ d, R d → P.nx (es.set j (.d d))) : SD W (tAsg te (gName j)) es P := fun S A B H σ E w F q =>
  h S A B H σ E w _ fun v H2 d r g j i => q.nx _ _ _ _ (k d r) ((w.en E g j).setD i) j
theorem sq_setX {j : Nat} {R : D → Prop} (h : XD W te es R) (k : ∀ d, R d → SD W u (es.set j (.d d)) P) : SD W (tSeq (tAsg te (gName j)) u) es P :=
  sd_seq (fun e => ∃ d, R d ∧ e = es.set j (.d d)) (sd_setX h fun d r => ⟨d, r, rfl⟩) fun e ⟨d, r, z⟩ => by cases z; exact k d r
theorem sd_retXD {R : D → Prop} (h : XD W te es R) (k : ∀ d, R d → P.rt d) : SD W (tRet te) es P := fun S A B H σ E w F q => h S A B H σ E w _ fun v H2 d r g j i => q.rt d v H2 (k d r) (w.en E g j).same j (i.wide fun _ s => .inl s)
theorem sq_retXD {R : D → Prop} (h : XD W te es R) (k : ∀ d, R d → P.rt d) : SD W (tSeq (tRet te) u) es P := sd_seq (fun _ => False) (sd_retXD h k) fun _ z => z.elim
theorem sq_ifX {w' : TS} {R : Bool → Prop} (h : XT W tc es R) (h1 : R true → SD W (tSeq t w') es P) (h2 : R false → SD W (tSeq u w') es P) : SD W (tSeq (tIfS tc t u) w') es P := fun S A B H σ E w F k => h S A B H σ E w _ fun b H2 r g j => by
  cases b with
  | true => exact h1 r S A B H2 σ (w.en E g j) (w.at j) F k
  | false => exact h2 r S A B H2 σ (w.en E g j) (w.at j) F k
def XSrc (W : Wd) (wi : TI) (es : Es) (R : List D → Prop) : Prop := ∀ (S : Addr → Prop) (A : Nat → Addr) (B H : Hp) (σ : St), En S A B H σ es → WOk W S B H → ∀ Q : It → Hp → Prop,
  (∀ J H2 xs (L : List (Addr × HO)) ds, R ds → Gr W.V H H2 → W.J1 H2 → (∀ p ∈ L, ¬ Sx S A es p.1 ∧ H2 p.1 = some p.2) → Gd J xs (fun H => ∀ p ∈ L, H p.1 = some p.2) → IsDs (Sx S A es) H2 ds xs → Q J H2) → wi σ H Q
theorem xsrc_of {wi : TI} (h : Src wi es ds) : XSrc W wi es (fun z => z = ds) := fun S A B H σ E w Q q => h S A B H σ E Q fun J H2 xs L e hL G i => q J H2 xs L ds rfl (Gr.of e) (w.same e).j1 hL G i
theorem xsrc_list {R : List D → Prop} {tl : TE} (h : XD W tl es (fun z => ∃ ds, z = .l ds ∧ R ds)) : XSrc W (iList K tl) es R := fun S A B H σ E w Q r => h S A B H σ E w _ fun v H2 z ⟨ds, e1, r1⟩ g j i => by
  subst e1
  obtain ⟨a, vs, rfl, n, ha, is⟩ := i
  refine ⟨a, rfl, ⟨vs, SqL.of ha⟩, r _ H2 vs [(a, .lst vs)] ds r1 g j (fun p hp => ?_) ⟨fun j H3 g hj => ?_, fun j H3 x H4 g hj y => ?_, fun j H3 g hj => ?_⟩ is⟩
  · cases List.mem_singleton.mp hp
    exact ⟨n, ha⟩
  · exact ⟨vs, vs[j], SqL.of (g _ (List.mem_singleton.mpr rfl)), List.getElem?_eq_getElem hj⟩
  · exact ⟨y.1, y.2 vs (SqL.of (g _ (List.mem_singleton.mpr rfl)))⟩
  · exact ⟨vs, SqL.of (g _ (List.mem_singleton.mpr rfl)), hj⟩
theorem xsrc_rng {R : Nat → Prop} (h : XDs W tas es (fun z => ∃ n : Nat, z = [.i (n : Int)] ∧ R n)) (hn : ∀ n, R n → n ≤ 1000000) : XSrc W (iRng1 tas) es (fun z => ∃ n, z = rngD n ∧ R n) := fun S A B H σ E w Q r => h S A B H σ E w _ fun vs H2 z ⟨n, e1, r1⟩ g j i => by
  subst e1
  obtain ⟨v, q, rfl, i1, i2⟩ := i
  cases i1; cases i2
  have hn' := hn n r1
  refine ⟨(n : Int), rfl, by omega, by omega, ?_⟩
  rw [Int.toNat_natCast]
  refine r _ H2 ((List.range n).map fun (k : Nat) => V.int (k : Int)) [] _ ⟨n, rfl, r1⟩ g j (fun p hp => by cases hp) ⟨fun j H3 g hj => ?_, fun j H3 x H4 g hj y => ?_, fun j H3 g hj => ?_⟩ (isDs_rng _)
  · show j < n
    simpa using hj
  · have hj' : j < n := by simpa using hj
    refine ⟨y.1, ?_⟩
    rw [List.getElem?_map, List.getElem?_range hj', y.2, Int.zero_add]
    rfl
  · show n ≤ j
    simpa using hj
theorem sd_forX {wi : TI} {g : TG} {tb : TS} {R : List D → Prop} (h : XSrc W wi es R) (I : List D → Nat → Es → Prop) (h0 : ∀ ds, R ds → I ds 0 es)
    (hs : ∀ ds i d e, R ds → ds[i]? = some d → I ds i e → ∃ e', GD g d e e' ∧ SD W tb e' { P with nx := I ds (i + 1), ct := I ds (i + 1), bk := P.nx }) (hd : ∀ ds e, R ds → I ds ds.length e → P.nx e) : SD W (tFor wi g tb) es P := fun S A B H σ E w F k =>
  h S A B H σ E w _ fun J H2 xs L ds hR gH jH hL G is => by
    obtain ⟨C, E2, sBC, gr, hvol⟩ := (w.en E gH jH).cut W.V w.vol
    have k2 := k.cut sBC
    have w2 : WOk W S C H2 := ⟨fun a v => ⟨(w.vol a v).1, hvol a v⟩, W.up _ _ w.k0 sBC, jH⟩
    have isC : IsDs (fun a => S a ∨ C a = none) C ds xs := (is.mono gr).dom fun a o ha s => by
      rcases s with s | s
      · exact .inl s
      · rw [ha] at s
        cases s
    have LC : ∀ p ∈ L, C p.1 = some p.2 := fun p hp => gr _ _ (hL p hp).1 (hL p hp).2
    have hlen := is.length
    refine ⟨fun i m σ' H' => m = xs.length - i ∧ i ≤ xs.length ∧ ∃ e' A', I ds i e' ∧ En S A' C H' σ' e' ∧ W.J1 H', ⟨_, rfl, Nat.zero_le _, es, A, h0 ds hR, E2, w2.j1⟩, ?_⟩
    rintro i m σ' H' ⟨rfl, hi, e', A', hI, E', j'⟩
    have g' : ∀ p ∈ L, H' p.1 = some p.2 := fun p hp => E'.same _ _ (LC p hp)
    by_cases hlt : i < xs.length
    · refine .inr ⟨G.go i H' g' hlt, fun σ2 H2 => ∃ e2 A2, I ds (i + 1) e2 ∧ En S A2 C H2 σ2 e2 ∧ W.J1 H2, fun σ2 H3 ⟨e2, A2, q1, q2⟩ => ⟨xs.length - (i + 1), by omega, rfl, hlt, e2, A2, q1, q2⟩, fun v H3 y => ?_⟩
      obtain ⟨rfl, hv⟩ := G.yld i H' v H3 g' hlt y
      obtain ⟨d, hd1, hd2⟩ := isC.getV hv
      obtain ⟨e3, hg, hb⟩ := hs ds i d e' hR hd1 hI
      have hd3 : IsD (Sx S A' e') H3 d v := (hd2.mono (Gr.of E'.same)).wide fun a s => by
        rcases s with s | ⟨j, ys, q, rfl⟩
        · exact .inl s
        · obtain ⟨_, _, h3, _⟩ := E'.own j ys q
          exact .inr h3
      refine hg S A' C H3 σ' v E' hd3 _ fun σ4 E4 _ => hb S A' C H3 σ4 E4 (w2.at j') _ ⟨fun e5 A5 σ5 H5 p q j => ⟨e5, A5, p, q, j⟩, k2.rt, k2.rl, k2.nx, fun e5 A5 σ5 H5 p q j => ⟨e5, A5, p, q, j⟩⟩
    · have ei : i = xs.length := by omega
      refine .inl ⟨G.stop i H' g' (by omega), k2.nx e' A' σ' H' (hd ds e' hR (by rw [← hlen, ← ei]; exact hI)) E' j'⟩
theorem paired_app {α β : Type} {R : α → β → Prop} : ∀ {a1 a2 : List α} {b1 b2 : List β}, Paired R a1 b1 → Paired R a2 b2 → Paired R (a1 ++ a2) (b1 ++ b2)
  | _, _, _, _, .nil, s => s
  | _, _, _, _, .cons r t, s => .cons r (paired_app t s)
/-- [e for x in xs], e a change of what is volatile -/
theorem xl_lcM {wi : TI} {g : TG} {vs : List Nat} {Rs : List D → Prop} {R : D → D → Prop} (n : noOwn es vs = true) (src : XSrc W wi es Rs) (hz : ∀ ds, Rs ds → ds.length ≤ sizeLine)
    (hs : ∀ ds, Rs ds → ∀ z ∈ ds, ∃ e', GW g z vs es e' ∧ XD W te e' (R z)) : XL W (tLc wi g tYes te vs) es (fun rs => ∃ ds, Rs ds ∧ Paired R ds rs) := fun S A B H σ E w Q q =>
  src S A B H σ E w _ fun J H1 xs L ds rds g1 j1 hL G is D hD => by
    have E1 := w.en E g1 j1
    have w1 := w.at j1
    have nD : ¬ W.V D := fun v => W.use H1 D j1 v hD
    have gD : Same H1 (upd H1 D (.lst [])) := Same.new hD
    have E2 := (E1.vol gD hD (by rw [upd_same]; exact fun z => nomatch z)).wiped vs
    have wD : ∀ {H' : Hp}, W.J1 H' → WOk W (fun a => S a ∨ a = D) B H' := fun j => ⟨fun a v => ⟨.inl (w.vol a v).1, (w.vol a v).2⟩, w.k0, j⟩
    have w0 : ∀ a, Sx (fun a => S a ∨ a = D) A (wipeE es vs) a → Sx S A es a ∨ a = D := fun a s => by
      rcases s with (s | s) | s
      · exact .inl (.inl s)
      · exact .inr s
      · exact .inl (.inr (own_of_wiped s))
    have hlen : xs.length = ds.length := is.length
    have hlz := hz ds rds
    refine ⟨fun i m H' => m = xs.length - i ∧ i ≤ xs.length ∧ Gr W.V H1 H' ∧ W.J1 H' ∧ En (fun a => S a ∨ a = D) A B H' (wipe σ vs) (wipeE es vs) ∧ ∃ acc rs, H' D = some (.lst acc) ∧ Paired R (ds.take i) rs ∧ IsDs (fun a => Sx S A es a ∨ a = D) H' rs acc,
      ⟨_, rfl, Nat.zero_le _, Gr.of gD, (w1.same gD).j1, E2, [], [], upd_same, .nil, rfl⟩, ?_⟩
    rintro i m H' ⟨rfl, hi, s1, j', E', acc, rs, hacc, pr, iacc⟩
    have g' : ∀ p ∈ L, H' p.1 = some p.2 := fun p hp => s1 _ _ (fun v => (hL p hp).1 (.inl (w.vol _ v).1)) (hL p hp).2
    by_cases hlt : i < xs.length
    · refine .inr ⟨G.go i H' g' hlt, fun H2 => Gr W.V H1 H2 ∧ W.J1 H2 ∧ En (fun a => S a ∨ a = D) A B H2 (wipe σ vs) (wipeE es vs) ∧ ∃ acc rs, H2 D = some (.lst acc) ∧ Paired R (ds.take (i + 1)) rs ∧ IsDs (fun a => Sx S A es a ∨ a = D) H2 rs acc,
        fun H2 r => ⟨_, by omega, rfl, hlt, r⟩, fun v H3 y => ?_⟩
      obtain ⟨rfl, hv⟩ := G.yld i H' v H3 g' hlt y
      obtain ⟨d, hd1, hd2⟩ := is.getV hv
      obtain ⟨e', gw, hk⟩ := hs ds rds d (List.mem_of_getElem? hd1)
      have hd3 : IsD (Sx (fun a => S a ∨ a = D) A (wipeE es vs)) H3 d v := ((hd2.more hD).mono (Gr.wide (fun a v => .inl (.inl (w.vol a v).1)) s1)).wide w0
      have tk : ds.take (i + 1) = ds.take i ++ [d] := by rw [List.take_succ, hd1]; rfl
      refine gw.run _ A B H3 σ v E' hd3 _ fun σ' E4 hw => ⟨hw, ?_⟩
      refine hk _ A B H3 σ' E4 (wD j') _ fun y H5 z rz g5 j5 iy => ?_
      have al : acc.length ≤ i := by
        rw [iacc.length, ← pr.length, List.length_take]
        omega
      refine ⟨acc, g5 _ _ nD hacc, by omega, ?_, ((wD j5).put nD).j1, ?_, acc ++ [y], rs ++ [z], upd_same, ?_, ?_⟩
      · intro a o na ha
        rw [upd_ne (ne_of_none ha hD)]
        exact g5 _ _ na (s1 _ _ na ha)
      · exact ((wD j').en E' g5 j5).chg (.inr rfl) (E1.same.free hD)
      · rw [tk]
        exact paired_app pr (.cons rz .nil)
      · have gd : Gr (fun a => Sx S A es a ∨ a = D) H5 (upd H5 D (.lst (acc ++ [y]))) := Gr.put (.inr rfl)
        refine ((iacc.mono (Gr.wide (fun a v => .inl (.inl (w.vol a v).1)) g5)).app ?_).mono gd
        refine IsDs.one (iy.wide fun a s => ?_)
        rcases s with (s | s) | s
        · exact .inl (.inl s)
        · exact .inr (gw.own A a s)
        · exact .inl (.inr s)
    · have ei : i = ds.length := by omega
      refine .inl ⟨G.stop i H' g' (by omega), ?_⟩
      rw [ei, List.take_length] at pr
      have hD0 : H D = none := w.free g1 hD j1
      exact q D acc H' rs ⟨ds, rds, pr⟩ (g1.trans s1) j' hD0 hacc iacc
theorem xs_one {R : D → Prop} (h : XD W te es R) : XDs W (tCons te tNil) es (fun z => ∃ d, z = [d] ∧ R d) := xds_imp (xs_cons (R2 := fun _ z => z = []) h fun _ _ => xs_nil) fun ds ⟨d, _, e1, r, e2⟩ => by
  subst e2
  exact ⟨d, e1, r⟩
/-- a def's start: a raw first argument *)-/
theorem env_startX {S : Addr → Prop} {B H : Hp} {N : List Str} {ds : List D} {us : List V} {v : V} (dm : Dm S H) (h : IsDs S H ds us) (sB : Same B H) :
    En S (fun _ => 0) B H (L2.start N (v :: us)) (.r v :: (ds.map Sl.d ++ List.replicate (N.length - (ds.length + 1)) .no)) := by
  have hv := h.length
  have noown : ∀ (i : Nat) (xs : Cn), (Sl.r v :: (ds.map Sl.d ++ List.replicate (N.length - (ds.length + 1)) Sl.no))[i]? = some (Sl.o xs) → False := fun i xs e => by
    rcases List.mem_cons.mp (List.mem_of_getElem? e) with m | m
    · cases m
    · rcases List.mem_append.mp m with m | m
      · obtain ⟨y, _, z⟩ := List.mem_map.mp m
        cases z
      · have z := (List.mem_replicate.mp m).2
        cases z
  have w : ∀ a, Sx S (fun _ => 0) (Sl.r v :: (ds.map Sl.d ++ List.replicate (N.length - (ds.length + 1)) Sl.no)) a → S a := fun a s => by
    rcases s with s | ⟨i, xs, e, _⟩
    · exact s
    · exact (noown i xs e).elim
  refine ⟨fun i x e => ?_, fun i xs e => (noown i xs e).elim, fun i j xs ys _ e _ => (noown i xs e).elim, fun i u e => ?_, sB, dm, ?_⟩
  · cases i with
    | zero => cases e
    | succ i =>
      have e' : (ds.map Sl.d ++ List.replicate (N.length - (ds.length + 1)) Sl.no)[i]? = some (Sl.d x) := e
      by_cases c : i < ds.length
      · rw [List.getElem?_append_left (by rw [List.length_map]; exact c), List.getElem?_map] at e'
        cases q : ds[i]? with
        | none =>
          rw [q] at e'
          cases e'
        | some d =>
          rw [q] at e'
          cases e'
          obtain ⟨v', h1, h2⟩ := h.get q
          refine ⟨v', ?_, h2.wide w⟩
          unfold L2.start
          show (us.map some ++ _)[i]? = some (some v')
          rw [List.getElem?_append_left (by rw [List.length_map, hv]; exact c), List.getElem?_map, h1]
          rfl
      · rw [List.getElem?_append_right (by rw [List.length_map]; omega)] at e'
        have z := (List.mem_replicate.mp (List.mem_of_getElem? e')).2
        cases z
  · cases i with
    | zero =>
      cases e
      rfl
    | succ i =>
      have e' : (ds.map Sl.d ++ List.replicate (N.length - (ds.length + 1)) Sl.no)[i]? = some (Sl.r u) := e
      rcases List.mem_append.mp (List.mem_of_getElem? e') with m | m
      · obtain ⟨y, _, z⟩ := List.mem_map.mp m
        cases z
      · have z := (List.mem_replicate.mp m).2
        cases z
  · unfold L2.start
    simp [hv]
end
/-- a promise with a choice -/
theorem fn_ex {P : Program} {w : World} {K : PySem.W.Frag} {mg : Str → Option Value} {base : Heap} {f : Addr} {fd : FuncData} {ps : List Str} {k : Nat} {ι : Type} {sp : ι → Sp} (h : ∀ i, FnOk P w K mg base CX0 k f fd ps (sp i)) : FnOk P w K mg base CX0 k f fd ps (fun vs H Q E => ∃ i, sp i vs H Q E) :=
  ⟨fun vs H Q E ⟨i, q⟩ => (h i).len vs H Q E q, fun A outer s H args us vs Q E h1 h2 h3 h4 ⟨i, q⟩ => (h i).run A outer s H args us vs Q E h1 h2 h3 h4 q⟩
end Nz
namespace Nz
open PySem L2
section
variable {W : Wd} {K : PySem.W.Frag} {es : Es} {ta tb te : TE} {tas : TA} {tc : TT} {t u : TS} {x y z d : D} {xs ys ds : List D} {P : Po}
/-- while, the measure told beside the state -/
theorem sd_whileM {tb : TS} (I : Nat → Es → Prop) (m0 : Nat) (h0 : I m0 es)
    (hs : ∀ m e, I m e → ∃ b, ET tc e b ∧ (b = true → SD W tb e { P with nx := fun e' => ∃ m', m' < m ∧ I m' e', ct := fun e' => ∃ m', m' < m ∧ I m' e', bk := P.nx }) ∧ (b = false → P.nx e)) : SD W (tWhile tc tb) es P := fun S A B H σ E w F k => by
  refine ⟨fun m σ' H' => ∃ e' A', I m e' ∧ En S A' B H' σ' e' ∧ W.J1 H', ⟨m0, es, A, h0, E, w.j1⟩, ?_⟩
  rintro m σ' H' ⟨e', A', hI, E', j'⟩
  obtain ⟨b, hb, ht, hf⟩ := hs m e' hI
  refine hb S A' B H' σ' E' _ fun H2 e => ?_
  cases b with
  | true => exact ⟨fun σ2 H3 => ∃ e2 A2 m2, m2 < m ∧ I m2 e2 ∧ En S A2 B H3 σ2 e2 ∧ W.J1 H3, fun σ2 H3 ⟨e2, A2, m2, q0, q1, q2⟩ => ⟨m2, q0, e2, A2, q1, q2⟩, ht rfl S A' B H2 σ' (E'.mono e) ((w.at j').same e) _ ⟨fun e5 A5 σ5 H5 ⟨m5, p0, p1⟩ q j => ⟨e5, A5, m5, p0, p1, q, j⟩, k.rt, k.rl, k.nx, fun e5 A5 σ5 H5 ⟨m5, p0, p1⟩ q j => ⟨e5, A5, m5, p0, p1, q, j⟩⟩⟩
  | false => exact k.nx e' A' σ' H2 (hf rfl) (E'.mono e) ((w.at j').same e).j1
theorem sq_whileM {tb : TS} (I : Nat → Es → Prop) (m0 : Nat) (h0 : I m0 es) (N : Es → Prop)
    (hs : ∀ m e, I m e → ∃ b, ET tc e b ∧ (b = true → SD W tb e { P with nx := fun e' => ∃ m', m' < m ∧ I m' e', ct := fun e' => ∃ m', m' < m ∧ I m' e', bk := N }) ∧ (b = false → N e)) (k : ∀ e, N e → SD W u e P) : SD W (tSeq (tWhile tc tb) u) es P :=
  sd_seq N (sd_whileM I m0 h0 hs) k
/-- a def whose value is told by a property -/
def spN (Pre : List D → Prop) (R : List D → D → Prop) : Sp := fun vs H Q _ => ∃ (S : Addr → Prop) (ds : List D), Dm S H ∧ IsDs S H ds vs ∧ Pre ds ∧ ∀ d v H', R ds d → Same H H' → IsD S H' d v → Q v H'
end
theorem fn_N {P : Program} {w : World} {K : PySem.W.Frag} {mg : Str → Option Value} {base : Heap} {x : Str} {st : Stmt} {f : Addr} {fd : FuncData} {N ps : List Str} {k : Nat} {Pre : List D → Prop} {R : List D → D → Prop}
    (F : L2.Fun K x x st f fd) (S : FnScope N ps (defScope st)) (hN : ps.length ≤ N.length) (len : ∀ ds, Pre ds → ds.length = ps.length)
    (hbody : ∀ (cdv : Value) (A : Around) (outer : List Env) (s : Shared) (H : Hp) (E : XK), Room k (A.deeper (PyProof.Rows.envOfC x (defScope st) s.heap.objs.size f cdv)) →
      ∃ t, PSs (cxOf CX0 P w K mg base N x (defScope st) f cdv A outer s H E).nox (defBody st) t ∧ ∀ ds, Pre ds → SD W0 t (ds.map Sl.d ++ List.replicate (N.length - ds.length) .no) ⟨fun _ => R ds .n, fun d => R ds d, fun xs => R ds (.l xs), fun _ => False, fun _ => False⟩) :
    FnOk P w K mg base CX0 (k + 1) f fd ps (spN Pre R) := by
  refine F.ok S (fun vs H Q E h => ?_) (fun cdv A outer s H vs Q E hr h => ?_)
  · obtain ⟨T, ds, dm, is, hR, q⟩ := h
    rw [is.length]
    exact len ds hR
  · obtain ⟨T, ds, dm, is, hR, q⟩ := h
    obtain ⟨t, h1, h2⟩ := hbody cdv A outer s H E hr
    have hl : ds.length ≤ N.length := by rw [len ds hR]; exact hN
    refine ⟨t, h1, h2 ds hR T _ H H _ (env_start dm is hl) wok0 _ ⟨fun es' A' σ' H' p E' _ => ?_, fun d' v H' p e _ i => ?_, fun xs p vs' H' e s _ n m h i => ?_, fun _ _ _ _ p _ => p.elim, fun _ _ _ _ p _ => p.elim⟩⟩
    · exact q .n .non H' p E'.same rfl
    · exact q d' v H' p e i
    · exact q (.l xs) _ H' e s ⟨p, vs', rfl, m, h, i.wide fun a z => .inl z⟩
theorem DefF.N {P : Program} {w : World} {K : PySem.W.Frag} {mg : Str → Option Value} {base : Heap} {x : Str} {st : Stmt} {N ps : List Str} {k : Nat} {Pre : List D → Prop} {R : List D → D → Prop} (F : DefF K mg x st ps) (S : FnScope N ps (defScope st)) (hN : ps.length ≤ N.length) (len : ∀ ds, Pre ds → ds.length = ps.length)
    (hbody : ∀ (f : Addr) (cdv : Value) (A : Around) (outer : List Env) (s : Shared) (H : Hp) (E : XK), Room k (A.deeper (PyProof.Rows.envOfC x (defScope st) s.heap.objs.size f cdv)) →
      ∃ t, PSs (cxOf CX0 P w K mg base N x (defScope st) f cdv A outer s H E).nox (defBody st) t ∧ ∀ ds, Pre ds → SD W0 t (ds.map Sl.d ++ List.replicate (N.length - ds.length) .no) ⟨fun _ => R ds .n, fun d => R ds d, fun xs => R ds (.l xs), fun _ => False, fun _ => False⟩) :
    C8.Cal P w K mg base (k + 1) x (spN Pre R) [] := F.cal fun f fd hf => fn_N hf S hN len (hbody f)
end Nz
namespace Nz
open PySem PySem.Spec PyProof.Rows L2
/-- pairs that stand -/
def PZ (H0 H : Hp) (xs ys ps : List V) (i : Nat) : Prop := ps.length = i ∧ ∀ j, j < i → ∃ p x y, ps[j]? = some (.ref p) ∧ H0 p = none ∧ H p = some (.tup [x, y]) ∧ xs[j]? = some x ∧ ys[j]? = some y
theorem PZ.mono {H0 H H' : Hp} {xs ys ps : List V} {i : Nat} (h : PZ H0 H xs ys ps i) (k : ∀ p u, H p = some (.tup u) → H' p = some (.tup u)) : PZ H0 H' xs ys ps i := ⟨h.1, fun j hj => by
  obtain ⟨p, x, y, e1, e0, e2, e3⟩ := h.2 j hj
  exact ⟨p, x, y, e1, e0, k _ _ e2, e3⟩⟩
theorem PZ.add {H0 H : Hp} {xs ys ps : List V} {i : Nat} {p : Addr} {x y : V} (h : PZ H0 H xs ys ps i) (h0 : H0 p = none) (hp : H p = some (.tup [x, y])) (ex : xs[i]? = some x) (ey : ys[i]? = some y) : PZ H0 H xs ys (ps ++ [.ref p]) (i + 1) := by
  refine ⟨by rw [List.length_append, h.1]; rfl, fun j hj => ?_⟩
  by_cases c : j < i
  · obtain ⟨p', x', y', e1, e2⟩ := h.2 j c
    exact ⟨p', x', y', by rw [List.getElem?_append_left (by rw [h.1]; exact c)]; exact e1, e2⟩
  · have e : j = i := by omega
    subst e
    exact ⟨p, x, y, by rw [List.getElem?_append_right (by rw [h.1]; exact Nat.le_refl _), h.1, Nat.sub_self]; rfl, h0, hp, ex, ey⟩
end Nz
namespace Nz
open PySem L2
theorem IsDs.set {S : Addr → Prop} {H : Hp} {d : D} {v : V} (h : IsD S H d v) : ∀ {ds : List D} {vs : List V} {j : Nat}, IsDs S H ds vs → IsDs S H (ds.set j d) (vs.set j v)
  | [], _, _, i => by
    cases i
    exact rfl
  | _ :: _, _, 0, ⟨w, r, e, _, i2⟩ => by
    subst e
    exact ⟨v, r, rfl, h, i2⟩
  | _ :: _, _, j + 1, ⟨w, r, e, i1, i2⟩ => by
    subst e
    exact ⟨w, _, rfl, i1, IsDs.set h i2⟩
theorem IsDs.rev {S : Addr → Prop} {H : Hp} : ∀ {ds : List D} {vs : List V}, IsDs S H ds vs → IsDs S H ds.reverse vs.reverse
  | [], _, i => by
    cases i
    exact rfl
  | _ :: _, _, ⟨w, r, e, i1, i2⟩ => by
    subst e
    rw [List.reverse_cons, List.reverse_cons]
    exact (IsDs.rev i2).app (IsDs.one i1)
theorem gw_name2 {d : D} {i j : Nat} {es : Es} (ij : i ≠ j) (n : noOwn es [i, j] = true) : GW (gName i) d [i, j] es (((es.set j .no).set i .no).set i (.d d)) where
  run := fun S A B H σ v E iv Q q => q _ (E.setD iv) (by
    show ((((σ.set j none).set i none).set i (some v)).set j none).set i none = (σ.set j none).set i none
    rw [List.set_set, set_comm2 ij, List.set_set, List.set_set])
  own := fun A a h => own_set_no (set_not_o (by intro xs z; cases z)) (own_wiped (vs := [i, j]) n h)
section
variable {W : Wd} {K : PySem.W.Frag} {es : Es} {ta tb tc te tl : TE} {tas : TA} {t u : TS} {x y z d : D} {xs ys ds : List D} {P : Po}
theorem ed_lenO {i : Nat} (h : es[i]? = some (.o (.l ds))) : ED (tCB (rLen K) (tCons (tVar i) tNil)) es (.i (ds.length : Nat)) := ed_cbx (ex_cons (ex_own h) ex_nil) rc_lenL rfl
theorem ea_starL {tr : TA} (h : ED te es (.l xs)) (k : EDs tr es ys) : EDs (StX.tStar K te tr) es (xs ++ ys) := fun S A B H σ E Q q =>
  h S A B H σ E _ fun v H2 e i => by
    obtain ⟨a, vs, rfl, n, ha, is⟩ := i
    exact ⟨a, vs, rfl, .inr (SqL.of ha), k S A B H2 σ (E.mono e) _ fun ws H3 e3 js => q _ H3 (e.trans e3) ((is.mono (Gr.of e3)).app js)⟩
theorem ea_starT {tr : TA} (h : ED te es (.t xs)) (k : EDs tr es ys) : EDs (StX.tStar K te tr) es (xs ++ ys) := fun S A B H σ E Q q =>
  h S A B H σ E _ fun v H2 e i => by
    obtain ⟨a, vs, rfl, n, ha, is⟩ := i
    exact ⟨a, vs, rfl, .inl (SqT.of ha), k S A B H2 σ (E.mono e) _ fun ws H3 e3 js => q _ H3 (e.trans e3) ((is.mono (Gr.of e3)).app js)⟩
/-- [e for x in a for y in b] *)-/
theorem el_lc2 {α β : Type} {wi wi1 : TI} {g g1 : TG} {vs vs1 : List Nat} (zs : List α) (h : α → D) (f : α → List β) (h1 : β → D) (k : β → D) (hz : ((zs.map f).flatten).length ≤ sizeLine) (n : noOwn es vs = true) (src : SrcC wi es (zs.map h))
    (hs : ∀ z ∈ zs, ∃ e', GW g (h z) vs es e' ∧ noOwn e' vs1 = true ∧ Src wi1 e' ((f z).map h1) ∧ ∀ y ∈ f z, ∃ e2, GW g1 (h1 y) vs1 e' e2 ∧ ED te e2 (k y)):
    EL (tLc2 wi g tYes wi1 g1 tYes te vs vs1) es (((zs.map f).flatten).map k) := fun S A B H σ E Q q =>
  src S A B H σ E _ fun J H1 xs L e1 hL G is D hD => by
    have E1 := E.mono e1
    have gD : Same H1 (upd H1 D (.lst [])) := Same.new hD
    have E2 := (E1.vol gD hD (by rw [upd_same]; exact fun z => nomatch z)).wiped vs
    have w0 : ∀ a, Sx (fun a => S a ∨ a = D) A (wipeE es vs) a → Sx S A es a ∨ a = D := fun a s => by
      rcases s with (s | s) | s
      · exact .inl (.inl s)
      · exact .inr s
      · exact .inl (.inr (own_of_wiped s))
    have hlen : xs.length = zs.length := by rw [is.length, List.length_map]
    have fl : ∀ i, (((zs.take i).map f).flatten).length ≤ ((zs.map f).flatten).length := fun i => by
      have : (zs.map f).flatten = ((zs.take i).map f).flatten ++ ((zs.drop i).map f).flatten := by rw [← List.flatten_append, ← List.map_append, List.take_append_drop]
      rw [this, List.length_append]
      omega
    refine ⟨fun i m H' => m = xs.length - i ∧ i ≤ xs.length ∧ Same H1 H' ∧ En (fun a => S a ∨ a = D) A B H' (wipe σ vs) (wipeE es vs) ∧ ∃ acc, H' D = some (.lst acc) ∧ IsDs (fun a => Sx S A es a ∨ a = D) H' ((((zs.take i).map f).flatten).map k) acc,
      ⟨_, rfl, Nat.zero_le _, gD, E2, [], upd_same, rfl⟩, ?_⟩
    rintro i m H' ⟨rfl, hi, s1, E', acc, hacc, iacc⟩
    have g' : ∀ p ∈ L, H' p.1 = some p.2 := fun p hp => s1 _ _ (hL p hp)
    by_cases hlt : i < xs.length
    · refine .inr ⟨G.go i H' g' hlt, fun H2 => Same H1 H2 ∧ En (fun a => S a ∨ a = D) A B H2 (wipe σ vs) (wipeE es vs) ∧ ∃ acc, H2 D = some (.lst acc) ∧ IsDs (fun a => Sx S A es a ∨ a = D) H2 ((((zs.take (i + 1)).map f).flatten).map k) acc,
        fun H2 r => ⟨_, by omega, rfl, hlt, r⟩, fun v H3 y => ?_⟩
      obtain ⟨rfl, hv⟩ := G.yld i H' v H3 g' hlt y
      obtain ⟨d, hd1, hd2⟩ := is.getV hv
      have hzi : i < zs.length := by omega
      have ez : zs[i]? = some zs[i] := List.getElem?_eq_getElem hzi
      rw [List.getElem?_map, ez] at hd1
      cases hd1
      obtain ⟨e', gw, n1, src1, hin⟩ := hs zs[i] (List.getElem_mem hzi)
      have hd3 : IsD (Sx (fun a => S a ∨ a = D) A (wipeE es vs)) H3 (h zs[i]) v := ((hd2.more hD).mono (Gr.of s1)).wide w0
      have tk : ((zs.take (i + 1)).map f).flatten = ((zs.take i).map f).flatten ++ f zs[i] := by
        rw [List.take_succ, ez]
        show ((zs.take i ++ [zs[i]]).map f).flatten = _
        rw [List.map_append, List.flatten_append]
        simp
      refine gw.run _ A B H3 σ v E' hd3 _ fun σ' E4 hw => ⟨hw, ?_⟩
      show wi1 σ' H3 _
      refine src1 _ A B H3 σ' E4 _ fun J1 H4 xs1 L1 e4 hL1 G1 is1 => ?_
      have hlen1 : xs1.length = (f zs[i]).length := by rw [is1.length, List.length_map]
      have E5 := (E4.mono e4).wiped vs1
      have LD : ∀ p ∈ L1, p.1 ≠ D := fun p hp => fun w => (hL1 p hp).1 (.inl (.inr w))
      refine ⟨fun j m H' => m = xs1.length - j ∧ j ≤ xs1.length ∧ (∀ a o, a ≠ D → H4 a = some o → H' a = some o) ∧ Same H1 H' ∧ En (fun a => S a ∨ a = D) A B H' (wipe σ' vs1) (wipeE e' vs1) ∧ En (fun a => S a ∨ a = D) A B H' (wipe σ vs) (wipeE es vs) ∧ ∃ acc, H' D = some (.lst acc) ∧ IsDs (fun a => Sx S A es a ∨ a = D) H' ((((zs.take i).map f).flatten ++ (f zs[i]).take j).map k) acc,
        ⟨_, rfl, Nat.zero_le _, fun _ _ _ z => z, s1.trans e4, E5, E'.mono e4, acc, e4 _ _ hacc, by rw [List.take_zero, List.append_nil]; exact iacc.mono (Gr.of e4)⟩, ?_⟩
      rintro j m H5 ⟨rfl, hj, s5, t5, E6, E7, acc5, hacc5, iacc5⟩
      have g5 : ∀ p ∈ L1, H5 p.1 = some p.2 := fun p hp => s5 _ _ (LD p hp) (hL1 p hp).2
      by_cases jlt : j < xs1.length
      · refine .inr ⟨G1.go j H5 g5 jlt, fun H' => (∀ a o, a ≠ D → H4 a = some o → H' a = some o) ∧ Same H1 H' ∧ En (fun a => S a ∨ a = D) A B H' (wipe σ' vs1) (wipeE e' vs1) ∧ En (fun a => S a ∨ a = D) A B H' (wipe σ vs) (wipeE es vs) ∧ ∃ acc, H' D = some (.lst acc) ∧ IsDs (fun a => Sx S A es a ∨ a = D) H' ((((zs.take i).map f).flatten ++ (f zs[i]).take (j + 1)).map k) acc,
          fun H2 r => ⟨_, by omega, rfl, jlt, r⟩, fun v1 H6 y1 => ?_⟩
        obtain ⟨rfl, hv1⟩ := G1.yld j H5 v1 H6 g5 jlt y1
        obtain ⟨d1, hd4, hd5⟩ := is1.getV hv1
        have hyj : j < (f zs[i]).length := by omega
        have ey : (f zs[i])[j]? = some (f zs[i])[j] := List.getElem?_eq_getElem hyj
        rw [List.getElem?_map, ey] at hd4
        cases hd4
        obtain ⟨e2, gw1, hk⟩ := hin (f zs[i])[j] (List.getElem_mem hyj)
        have hd6 : IsD (Sx (fun a => S a ∨ a = D) A (wipeE e' vs1)) H6 (h1 (f zs[i])[j]) v1 := by
          have gg : Gr (Sx (fun a => S a ∨ a = D) A e') H4 H6 := fun a o na e => s5 a o (fun w => na (.inl (.inr w))) e
          exact (hd5.mono gg).wide fun a s => s.imp id own_of_wiped
        have ty : (f zs[i]).take (j + 1) = (f zs[i]).take j ++ [(f zs[i])[j]] := by rw [List.take_succ, ey]; rfl
        refine gw1.run _ A B H6 σ' v1 E6 hd6 _ fun σ3 E8 hw3 => ⟨hw3, ?_⟩
        show te σ3 H6 _
        refine hk _ A B H6 σ3 E8 _ fun y2 H7 e7 i7 => ?_
        have al : acc5.length < sizeLine := by
          rw [iacc5.length, List.length_map, List.length_append, List.length_take]
          have z1 := fl (i + 1)
          rw [tk, List.length_append] at z1
          omega
        have t7 : Same H1 H7 := t5.trans e7
        refine ⟨acc5, e7 _ _ hacc5, al, ?_, ?_, ?_, ?_, acc5 ++ [y2], upd_same, ?_⟩
        · intro a o na ha
          rw [upd_ne na]
          exact e7 _ _ (s5 a o na ha)
        · intro a o ha
          rw [upd_ne (ne_of_none ha hD)]
          exact t7 _ _ ha
        · exact (E6.mono e7).chg (.inr rfl) (E1.same.free hD)
        · exact (E7.mono e7).chg (.inr rfl) (E1.same.free hD)
        · rw [ty, ← List.append_assoc, List.map_append (l₂ := [_])]
          have gd : Gr (fun a => Sx S A es a ∨ a = D) H7 (upd H7 D (.lst (acc5 ++ [y2]))) := Gr.put (.inr rfl)
          refine ((iacc5.mono (Gr.of e7)).app ?_).mono gd
          refine IsDs.one (i7.wide fun a s => ?_)
          rcases s with (s | s) | s
          · exact .inl (.inl s)
          · exact .inr (gw1.own A a (gw.own A a s))
          · exact .inl (.inr s)
      · have ej : j = (f zs[i]).length := by omega
        refine .inl ⟨G1.stop j H5 g5 (by omega), t5, E7, acc5, hacc5, ?_⟩
        rw [ej, List.take_length] at iacc5
        rw [tk]
        exact iacc5
    · have ei : i = zs.length := by omega
      refine .inl ⟨G.stop i H' g' (by omega), ?_⟩
      rw [ei, List.take_length] at iacc
      exact q D acc H' (e1.trans s1) (e1.free hD) hacc iacc
theorem ed_neg {k : Int} (h : ED te es (.i k)) : ED (tUn (rU fun i => .int (-i)) te) es (.i (-k)) := fun S A B H σ E Q q => h S A B H σ E _ fun v H2 e i => by
  cases i
  exact ⟨k, rfl, q _ H2 e rfl⟩
end
section
variable {X : Cx} {K : PySem.W.Frag}
theorem paStar {e : Expr} {es : List Expr} {te : TE} {t : TA} {p : Pos} (he : PE X e te) (hr : PA X es t) (hK : X.K = K := by rfl) (hs : starEach (.Starred e p :: es) X.env = (true, eval e X.env) :: starEach es X.env := by rfl) : PA X (.Starred e p :: es) (StX.tStar K te t) := by subst hK; exact StX.pa_star he hr hs
end
end Nz
namespace Nz
open PySem L2
structure Fam (ι : Type) where
  V : Addr → Prop
  K0 : Hp → Prop
  J : ι → Hp → Prop
  use : ∀ i H a, J i H → V a → H a ≠ none
  stay : ∀ i H H', J i H → (∀ a, V a → H' a = H a) → J i H'
  up : ∀ B C, K0 B → Same B C → K0 C
def Fam.at {ι : Type} (M : Fam ι) (i : ι) : Wd := ⟨M.V, M.K0, M.J i, M.use i, M.stay i, M.up⟩
section
variable {ι : Type} (M : Fam ι)
def YD (i : ι) (te : TE) (es : Es) (R : D → ι → Prop) : Prop := ∀ (S : Addr → Prop) (A : Nat → Addr) (B H : Hp) (σ : St), En S A B H σ es → WOk (M.at i) S B H →
  ∀ Q : VK, (∀ v H2 d j, R d j → Gr M.V H H2 → M.J j H2 → IsD (Sx S A es) H2 d v → Q v H2) → te σ H Q
def YDs (i : ι) (ta : TA) (es : Es) (R : List D → ι → Prop) : Prop := ∀ (S : Addr → Prop) (A : Nat → Addr) (B H : Hp) (σ : St), En S A B H σ es → WOk (M.at i) S B H →
  ∀ Q : List V → Hp → Prop, (∀ vs H2 ds j, R ds j → Gr M.V H H2 → M.J j H2 → IsDs (Sx S A es) H2 ds vs → Q vs H2) → ta σ H Q
def YL (i : ι) (te : TE) (es : Es) (R : List D → ι → Prop) : Prop := ∀ (S : Addr → Prop) (A : Nat → Addr) (B H : Hp) (σ : St), En S A B H σ es → WOk (M.at i) S B H →
  ∀ Q : VK, (∀ p vs H2 ds j, R ds j → Gr M.V H H2 → M.J j H2 → H p = none → H2 p = some (.lst vs) → IsDs (fun a => Sx S A es a ∨ a = p) H2 ds vs → Q (.ref p) H2) → te σ H Q
def YT (i : ι) (tt : TT) (es : Es) (R : Bool → ι → Prop) : Prop := ∀ (S : Addr → Prop) (A : Nat → Addr) (B H : Hp) (σ : St), En S A B H σ es → WOk (M.at i) S B H →
  ∀ Q : Bool → Hp → Prop, (∀ b H2 j, R b j → Gr M.V H H2 → M.J j H2 → Q b H2) → tt σ H Q
def YSrc (i : ι) (wi : TI) (es : Es) (R : List D → ι → Prop) : Prop := ∀ (S : Addr → Prop) (A : Nat → Addr) (B H : Hp) (σ : St), En S A B H σ es → WOk (M.at i) S B H → ∀ Q : It → Hp → Prop,
  (∀ J H2 xs (L : List (Addr × HO)) ds j, R ds j → Gr M.V H H2 → M.J j H2 → (∀ p ∈ L, ¬ Sx S A es p.1 ∧ H2 p.1 = some p.2) → Gd J xs (fun H => ∀ p ∈ L, H p.1 = some p.2) → IsDs (Sx S A es) H2 ds xs → Q J H2) → wi σ H Q
/-- what is promised behind a statement, with the state -/
structure Pq (ι : Type) where
  nx : Es → ι → Prop
  rt : D → ι → Prop
  rl : List D → ι → Prop := fun _ _ => False
  bk : Es → ι → Prop := fun _ _ => False
  ct : Es → ι → Prop := fun _ _ => False
structure Okq (S : Addr → Prop) (B : Hp) (P : Pq ι) (F : Ends) : Prop where
  nx : ∀ es' A' σ' H' j, P.nx es' j → En S A' B H' σ' es' → M.J j H' → F.nx σ' H'
  rt : ∀ d v H' j, P.rt d j → Same B H' → M.J j H' → IsD S H' d v → F.rt v H'
  rl : ∀ xs p vs H' j, P.rl xs j → Same B H' → M.J j H' → B p = none → ¬ S p → H' p = some (.lst vs) → IsDs (fun a => S a ∨ a = p) H' xs vs → F.rt (.ref p) H'
  bk : ∀ es' A' σ' H' j, P.bk es' j → En S A' B H' σ' es' → M.J j H' → F.bk σ' H'
  ct : ∀ es' A' σ' H' j, P.ct es' j → En S A' B H' σ' es' → M.J j H' → F.ct σ' H'
def SY (i : ι) (u : TS) (es : Es) (P : Pq ι) : Prop := ∀ (S : Addr → Prop) (A : Nat → Addr) (B H : Hp) (σ : St), En S A B H σ es → WOk (M.at i) S B H → ∀ F : Ends, Okq M S B P F → u F σ H
end
section
variable {ι : Type} {M : Fam ι} {K : PySem.W.Frag} {i j : ι} {es : Es} {ta tb te : TE} {tas : TA} {tc td : TT} {t u : TS} {x y z d : D} {xs ys ds : List D} {r : R2} {P : Pq ι}
theorem WOk.en2 {S : Addr → Prop} {A : Nat → Addr} {B H H2 : Hp} {σ : St} (w : WOk (M.at i) S B H) (E : En S A B H σ es) (g : Gr M.V H H2) (q : M.J j H2) : En S A B H2 σ es := E.gr g w.vol fun a v => M.use j H2 a q v
theorem WOk.at2 {S : Addr → Prop} {B H H' : Hp} (w : WOk (M.at i) S B H) (q : M.J j H') : WOk (M.at j) S B H' := ⟨w.vol, w.k0, q⟩
theorem WOk.gx2 {S : Addr → Prop} {A : Nat → Addr} {B H H2 H3 : Hp} (w : WOk (M.at i) S B H) (g : Gr M.V H2 H3) : Gr (Sx S A es) H2 H3 := Gr.wide (fun a v => .inl (w.vol a v).1) g
theorem WOk.free2 {S : Addr → Prop} {B H H2 : Hp} {p : Addr} (w : WOk (M.at i) S B H) (g : Gr M.V H H2) (hp : H2 p = none) (q : M.J j H2) : H p = none := by
  cases e : H p with
  | none => rfl
  | some o =>
    by_cases c : M.V p
    · exact absurd hp (M.use j H2 p q c)
    · rw [g p o c e] at hp
      cases hp
theorem yd_xd {R : D → Prop} (h : XD (M.at i) te es R) : YD M i te es (fun d k => R d ∧ k = i) := fun S A B H σ E w Q q => h S A B H σ E w Q fun v H2 d r g k is => q v H2 d i ⟨r, rfl⟩ g k is
theorem yds_xds {R : List D → Prop} (h : XDs (M.at i) tas es R) : YDs M i tas es (fun d k => R d ∧ k = i) := fun S A B H σ E w Q q => h S A B H σ E w Q fun v H2 d r g k is => q v H2 d i ⟨r, rfl⟩ g k is
theorem yt_xt {R : Bool → Prop} (h : XT (M.at i) tc es R) : YT M i tc es (fun b k => R b ∧ k = i) := fun S A B H σ E w Q q => h S A B H σ E w Q fun b H2 r g k => q b H2 i ⟨r, rfl⟩ g k
theorem ysrc_xsrc {wi : TI} {R : List D → Prop} (h : XSrc (M.at i) wi es R) : YSrc M i wi es (fun d k => R d ∧ k = i) := fun S A B H σ E w Q q => h S A B H σ E w Q fun J H2 xs L ds r g k hL G is => q J H2 xs L ds i ⟨r, rfl⟩ g k hL G is
theorem yd_ed (h : ED te es d) : YD M i te es (fun z k => z = d ∧ k = i) := yd_xd (xd_ed h)
theorem yds_eds (h : EDs tas es ds) : YDs M i tas es (fun z k => z = ds ∧ k = i) := yds_xds (xs_eds h)
theorem yt_et {b : Bool} (h : ET tc es b) : YT M i tc es (fun z k => z = b ∧ k = i) := yt_xt (xt_et h)
theorem yd_imp {R R' : D → ι → Prop} (h : YD M i te es R) (k : ∀ d j, R d j → R' d j) : YD M i te es R' := fun S A B H σ E w Q q => h S A B H σ E w Q fun v H2 d j r g q' is => q v H2 d j (k d j r) g q' is
theorem yds_imp {R R' : List D → ι → Prop} (h : YDs M i tas es R) (k : ∀ d j, R d j → R' d j) : YDs M i tas es R' := fun S A B H σ E w Q q => h S A B H σ E w Q fun v H2 d j r g q' is => q v H2 d j (k d j r) g q' is
theorem yl_imp {R R' : List D → ι → Prop} (h : YL M i te es R) (k : ∀ d j, R d j → R' d j) : YL M i te es R' := fun S A B H σ E w Q q => h S A B H σ E w Q fun p v H2 d j r g q' n a is => q p v H2 d j (k d j r) g q' n a is
theorem yt_imp {R R' : Bool → ι → Prop} (h : YT M i tc es R) (k : ∀ d j, R d j → R' d j) : YT M i tc es R' := fun S A B H σ E w Q q => h S A B H σ E w Q fun b H2 j r g q' => q b H2 j (k b j r) g q'
theorem ysrc_imp {wi : TI} {R R' : List D → ι → Prop} (h : YSrc M i wi es R) (k : ∀ d j, R d j → R' d j) : YSrc M i wi es R' := fun S A B H σ E w Q q => h S A B H σ E w Q fun J H2 xs L ds j r g q' hL G is => q J H2 xs L ds j (k ds j r) g q' hL G is
theorem yl_toD {R : List D → ι → Prop} (h : YL M i te es R) : YD M i te es (fun z k => ∃ ds, z = .l ds ∧ R ds k) := fun S A B H σ E w Q q => h S A B H σ E w Q fun p vs H2 ds j r g q' n a is =>
  q _ H2 _ j ⟨ds, rfl, r⟩ g q' ⟨p, vs, rfl, E.dmx.not n, a, is.wide fun _ s => .inl s⟩
theorem ys_nil : YDs M i tNil es (fun z k => z = [] ∧ k = i) := fun S A B H σ E w Q q => q [] H [] i ⟨rfl, rfl⟩ (Gr.refl _ H) w.j1 rfl
theorem ys_cons {tr : TA} {R : D → ι → Prop} {R2 : D → ι → List D → ι → Prop} (h : YD M i te es R) (k : ∀ d j, R d j → YDs M j tr es (R2 d j)) : YDs M i (tCons te tr) es (fun z k => ∃ d ds j, z = d :: ds ∧ R d j ∧ R2 d j ds k) := fun S A B H σ E w Q q =>
  h S A B H σ E w _ fun v H2 d j r g q1 is => k d j r S A B H2 σ (w.en2 E g q1) (w.at2 q1) _ fun vs H3 ds k r3 g3 q3 i3 => q _ H3 _ k ⟨d, ds, j, rfl, r, r3⟩ (g.trans g3) q3 (IsDs.cons (is.mono (w.gx2 g3)) i3)
theorem ys_one {R : D → ι → Prop} (h : YD M i te es R) : YDs M i (tCons te tNil) es (fun z k => ∃ d, z = [d] ∧ R d k) := yds_imp (ys_cons (R2 := fun _ j z k => z = [] ∧ k = j) h fun _ _ _ => ys_nil) fun ds k ⟨d, _, j, e1, r, e2, e3⟩ => by
  subst e2 e3
  exact ⟨d, e1, r⟩
theorem yd_tup {R : List D → ι → Prop} (h : YDs M i tas es R) (hl : ∀ ds j, R ds j → ds.length ≤ sizeLine) : YD M i (tTup tas) es (fun z k => ∃ ds, z = .t ds ∧ R ds k) := fun S A B H σ E w Q q =>
  h S A B H σ E w _ fun vs H2 ds j r g q1 is => ⟨by rw [is.length]; exact hl ds j r, fun p hp => q _ _ _ j ⟨ds, rfl, r⟩ (g.trans (Gr.new hp)) ((w.at2 q1).same (Same.new hp)).j1 ⟨p, vs, rfl, (w.en2 E g q1).dmx.not hp, upd_same, is.mono (Gr.new hp)⟩⟩
theorem yd_op {R : D → ι → Prop} {R2 : D → ι → D → ι → Prop} {R3 : D → D → D → ι → Prop} (ha : YD M i ta es R) (hb : ∀ x j, R x j → YD M j tb es (R2 x j)) (hr : ∀ x j y k, R x j → R2 x j y k → ∃ z, RD r x y z ∧ R3 x y z k) : YD M i (tOp r ta tb) es (fun z k => ∃ x y j, R x j ∧ R2 x j y k ∧ R3 x y z k) := fun S A B H σ E w Q q =>
  ha S A B H σ E w _ fun u H2 x j r1 g2 q2 is => hb x j r1 S A B H2 σ (w.en2 E g2 q2) (w.at2 q2) _ fun v H3 y k r2 g3 q3 ks => by
    obtain ⟨z, h3, h4⟩ := hr x j y k r1 r2
    have E3 := (w.at2 q2).en2 (w.en2 E g2 q2) g3 q3
    exact h3 _ H3 u v E3.dmx (is.mono (w.gx2 g3)) ks Q fun w' H4 e4 m => q w' H4 z k ⟨x, y, j, r1, r2, h4⟩ ((g2.trans g3).trans (Gr.of e4)) ((w.at2 q3).same e4).j1 m
theorem yd_opL {R : D → ι → Prop} {R3 : D → D → ι → Prop} (ha : YD M i ta es R) (hb : ED tb es y) (hr : ∀ x j, R x j → ∃ z, RD r x y z ∧ R3 x z j) : YD M i (tOp r ta tb) es (fun z k => ∃ x, R x k ∧ R3 x z k) :=
  yd_imp (yd_op (R2 := fun _ j z k => z = y ∧ k = j) (R3 := fun x _ z k => R3 x z k) ha (fun _ _ _ => yd_ed hb) (fun x j y' k r1 ⟨e1, e2⟩ => by subst e1 e2; exact hr x _ r1)) fun d k ⟨x, _, j, r1, ⟨_, e⟩, r3⟩ => by subst e; exact ⟨x, r1, r3⟩
theorem yd_opR {R : D → ι → Prop} {R3 : D → D → ι → Prop} (ha : ED ta es x) (hb : YD M i tb es R) (hr : ∀ y j, R y j → ∃ z, RD r x y z ∧ R3 y z j) : YD M i (tOp r ta tb) es (fun z k => ∃ y, R y k ∧ R3 y z k) :=
  yd_imp (yd_op (R := fun z k => z = x ∧ k = i) (R2 := fun _ j y k => R y k) (R3 := fun _ y z k => R3 y z k) (yd_ed ha) (fun x' j ⟨e1, e2⟩ => by subst e2; exact hb) (fun x' j y k ⟨e1, e2⟩ r2 => by subst e1; exact hr y k r2)) fun d k ⟨_, y, j, _, r2, r3⟩ => ⟨y, r2, r3⟩
theorem yt_test {R : Bool → ι → Prop} (h : YD M i te es (fun z k => ∃ b, z = .b b ∧ R b k)) : YT M i (tTest te) es R := fun S A B H σ E w Q q => h S A B H σ E w _ fun v H2 d j ⟨b, e, r⟩ g q1 is => by
  subst e
  cases is
  exact ⟨b, rfl, q b H2 j r g q1⟩
theorem yt_B {R : Bool → ι → Prop} (h : YD M i te es (fun z k => ∃ b, z = .b b ∧ R b k)) : YT M i (tB te) es R := fun S A B H σ E w Q q => h S A B H σ E w _ fun v H2 d j ⟨b, e, r⟩ g q1 is => by
  subst e
  cases is
  exact ⟨b, rfl, q b H2 j r g q1⟩
theorem yt_not {R : Bool → ι → Prop} (h : YT M i tc es R) : YT M i (tNot tc) es (fun b k => R (!b) k) := fun S A B H σ E w Q q => h S A B H σ E w _ fun b H2 j r g q1 => q (!b) H2 j (by show R (!(!b)) j; rw [Bool.not_not]; exact r) g q1
theorem yt_or {R1 : Bool → ι → Prop} {R2 : Bool → ι → Prop} (h1 : YT M i tc es R1) (h2 : ∀ j, R1 false j → YT M j td es R2) : YT M i (tOr tc td) es (fun b k => (b = true ∧ R1 true k) ∨ (∃ j, R1 false j ∧ R2 b k)) := fun S A B H σ E w Q q => h1 S A B H σ E w _ fun b H2 j r g q1 => by
  cases b with
  | true => exact q true H2 j (.inl ⟨rfl, r⟩) g q1
  | false => exact h2 j r S A B H2 σ (w.en2 E g q1) (w.at2 q1) Q fun b H3 k r3 g3 q3 => q b H3 k (.inr ⟨j, r, r3⟩) (g.trans g3) q3
theorem yt_and {R1 : Bool → ι → Prop} {R2 : Bool → ι → Prop} (h1 : YT M i tc es R1) (h2 : ∀ j, R1 true j → YT M j td es R2) : YT M i (tAnd tc td) es (fun b k => (b = false ∧ R1 false k) ∨ (∃ j, R1 true j ∧ R2 b k)) := fun S A B H σ E w Q q => h1 S A B H σ E w _ fun b H2 j r g q1 => by
  cases b with
  | true => exact h2 j r S A B H2 σ (w.en2 E g q1) (w.at2 q1) Q fun b H3 k r3 g3 q3 => q b H3 k (.inr ⟨j, r, r3⟩) (g.trans g3) q3
  | false => exact q false H2 j (.inl ⟨rfl, r⟩) g q1
theorem yd_cb {r : List V → Hp → VK → Prop} {Ra : List D → ι → Prop} {Rz : D → ι → Prop} (h : YDs M i tas es Ra) (hr : ∀ xs j, Ra xs j → ∃ z, RC r xs z ∧ Rz z j) : YD M i (tCB r tas) es Rz := fun S A B H σ E w Q q =>
  h S A B H σ E w _ fun vs H2 xs j r g q1 is => by
    obtain ⟨z, h1, h2⟩ := hr xs j r
    exact h1 _ H2 vs (w.en2 E g q1).dmx is Q fun w' H3 e3 k => q w' H3 z j h2 (g.trans (Gr.of e3)) ((w.at2 q1).same e3).j1 k
def spY (M : Fam ι) (v : V) (Pre : ι → List D → Prop) (R : ι → List D → D → ι → Prop) : Sp := fun vs H Q _ => ∃ (S : Addr → Prop) (ds : List D) (us : List V) (i : ι), vs = v :: us ∧ Dm S H ∧ (∀ a, M.V a → S a) ∧ M.J i H ∧ (∀ B, (∀ a, M.V a → B a = none) → (∀ a o, ¬ M.V a → H a = some o → B a = some o) → M.K0 B) ∧ IsDs S H ds us ∧ Pre i ds ∧
  ∀ d j w H', R i ds d j → Gr M.V H H' → M.J j H' → IsD S H' d w → Q w H'
theorem WOk.k2 {S : Addr → Prop} {A : Nat → Addr} {B H : Hp} {σ : St} (w : WOk (M.at i) S B H) (E : En S A B H σ es) : ∀ C, (∀ a, M.V a → C a = none) → (∀ a o, ¬ M.V a → H a = some o → C a = some o) → M.K0 C := fun C _ h => M.up B C w.k0 fun a o e => h a o (fun z => by
  rw [(w.vol a z).2] at e
  cases e) (E.same a o e)
theorem yd_callY {v : V} {n : Nat} {Pre : ι → List D → Prop} {R : ι → List D → D → ι → Prop} {Ra : List D → ι → Prop} {E0 : XK} (hi : es[n]? = some (.r v)) (h : YDs M i tas es Ra) (hp : ∀ xs j, Ra xs j → Pre j xs) : YD M i (tCall (spY M v Pre R) [] E0 (tCons (tVar n) tas)) es (fun z k => ∃ xs j, Ra xs j ∧ R j xs z k) := fun S A B H σ E w Q q =>
  ⟨v, E.raw n v hi, h S A B H σ E w _ fun vs H2 xs j r g q1 k => by
    have E2 := w.en2 E g q1
    refine ⟨_, xs, vs, j, by rw [List.append_nil], E2.dmx, fun a s => .inl (w.vol a s).1, q1, (w.at2 q1).k2 E2, k, hp xs j r, fun d m w' H3 r3 g3 j3 k3 => ?_⟩
    exact q w' H3 d m ⟨xs, j, r, r3⟩ (g.trans g3) j3 k3⟩
theorem sy_sd (h : SD (M.at i) u es ⟨fun e => P.nx e i, fun d => P.rt d i, fun d => P.rl d i, fun e => P.bk e i, fun e => P.ct e i⟩) : SY M i u es P := fun S A B H σ E w F k =>
  h S A B H σ E w F ⟨fun _ _ _ _ p e q => k.nx _ _ _ _ i p e q, fun _ _ _ p e q s => k.rt _ _ _ i p e q s, fun _ _ _ _ p e q n m a s => k.rl _ _ _ _ i p e q n m a s, fun _ _ _ _ p e q => k.bk _ _ _ _ i p e q, fun _ _ _ _ p e q => k.ct _ _ _ _ i p e q⟩
theorem sy_next (h : P.nx es i) : SY M i tNext es P := fun S A B H σ E w F k => k.nx _ _ _ _ i h E w.j1
theorem sy_seq (N : Es → ι → Prop) (h : SY M i t es { P with nx := N }) (k : ∀ e j, N e j → SY M j u e P) : SY M i (tSeq t u) es P := fun S A B H σ E w F q =>
  h S A B H σ E w { F with nx := u F } ⟨fun es' A' σ' H' j n E' q1 => k es' j n S A' B H' σ' E' (w.at2 q1) F q, q.rt, q.rl, q.bk, q.ct⟩
theorem syq_assoc {v : TS} (h : SY M i (tSeq t (tSeq u v)) es P) : SY M i (tSeq (tSeq t u) v) es P := h
theorem syq_next (h : SY M i u es P) : SY M i (tSeq tNext u) es P := h
theorem sy_setY {n : Nat} {R : D → ι → Prop} (h : YD M i te es R) (k : ∀ d j, R d j → P.nx (es.set n (.d d)) j) : SY M i (tAsg te (gName n)) es P := fun S A B H σ E w F q =>
  h S A B H σ E w _ fun v H2 d j r g q1 is => q.nx _ _ _ _ j (k d j r) ((w.en2 E g q1).setD is) q1
theorem syq_setY {n : Nat} {R : D → ι → Prop} (h : YD M i te es R) (k : ∀ d j, R d j → SY M j u (es.set n (.d d)) P) : SY M i (tSeq (tAsg te (gName n)) u) es P :=
  sy_seq (fun e j => ∃ d, R d j ∧ e = es.set n (.d d)) (sy_setY h fun d j r => ⟨d, r, rfl⟩) fun e j ⟨d, r, z⟩ => by cases z; exact k d j r
theorem syq_set {n : Nat} (h : ED te es d) (k : SY M i u (es.set n (.d d)) P) : SY M i (tSeq (tAsg te (gName n)) u) es P := syq_setY (yd_ed h) fun d' j ⟨e1, e2⟩ => by subst e1 e2; exact k
theorem WOk.lay2 {S : Addr → Prop} {A : Nat → Addr} {B H H2 : Hp} {σ : St} {p : Addr} {o : HO} (w : WOk (M.at i) S B H) (E : En S A B H σ es) (g : Gr M.V H H2) (q : M.J j H2) (n : H p = none) (hp : H2 p = some o) : ∃ H3, En S A B H3 σ es ∧ Same H3 H2 ∧ H3 p = none ∧ M.J j H3 ∧ Gr M.V H H3 := by
  have np : ¬ M.V p := fun v => M.use i H p w.j1 v n
  have g3 : Gr M.V H (fun b => if b = p then none else H2 b) := fun a u nv e => by
    have c : a ≠ p := ne_of_none e n
    show (if a = p then none else H2 a) = some u
    rw [if_neg c]
    exact g a u nv e
  have j3 : M.J j (fun b => if b = p then none else H2 b) := M.stay j H2 _ q fun a v => by
    have c : a ≠ p := fun z => by
      subst z
      exact np v
    show (if a = p then none else H2 a) = H2 a
    rw [if_neg c]
  refine ⟨fun b => if b = p then none else H2 b, w.en2 E g3 j3, fun b u e => ?_, if_pos rfl, j3, g3⟩
  have e' : (if b = p then none else H2 b) = some u := e
  by_cases c : b = p
  · rw [if_pos c] at e'
    cases e'
  · rw [if_neg c] at e'
    exact e'
theorem sy_setYO {n : Nat} {R : List D → ι → Prop} (h : YL M i te es R) (k : ∀ ds j, R ds j → P.nx (es.set n (.o (.l ds))) j) : SY M i (tAsg te (gName n)) es P := fun S A B H σ E w F q =>
  h S A B H σ E w _ fun p vs H2 ds j r g q1 n a is => by
    obtain ⟨H3, E3, s3, n3, j3, _⟩ := w.lay2 E g q1 n a
    exact q.nx _ _ _ _ j (k ds j r) (E3.setO s3 n3 a ⟨vs, rfl, is⟩) q1
theorem syq_setYO {n : Nat} {R : List D → ι → Prop} (h : YL M i te es R) (k : ∀ ds j, R ds j → SY M j u (es.set n (.o (.l ds))) P) : SY M i (tSeq (tAsg te (gName n)) u) es P :=
  sy_seq (fun e j => ∃ d, R d j ∧ e = es.set n (.o (.l d))) (sy_setYO h fun d j r => ⟨d, r, rfl⟩) fun e j ⟨d, r, z⟩ => by cases z; exact k d j r
theorem syq_setO {n : Nat} (h : EL te es ds) (k : SY M i u (es.set n (.o (.l ds))) P) : SY M i (tSeq (tAsg te (gName n)) u) es P :=
  sy_seq (fun e j => e = es.set n (.o (.l ds)) ∧ j = i) (sy_sd (sd_setO h ⟨rfl, rfl⟩)) fun e j ⟨e1, e2⟩ => by subst e1 e2; exact k
theorem sy_retY {R : D → ι → Prop} (h : YD M i te es R) (k : ∀ d j, R d j → P.rt d j) : SY M i (tRet te) es P := fun S A B H σ E w F q => h S A B H σ E w _ fun v H2 d j r g q1 is => q.rt d v H2 j (k d j r) (w.en2 E g q1).same q1 (is.wide fun _ s => .inl s)
theorem syq_retY {R : D → ι → Prop} (h : YD M i te es R) (k : ∀ d j, R d j → P.rt d j) : SY M i (tSeq (tRet te) u) es P := sy_seq (fun _ _ => False) (sy_retY h k) fun _ _ z => z.elim
theorem sy_ret (h : ED te es d) (k : P.rt d i) : SY M i (tRet te) es P := sy_retY (yd_ed h) fun d' j ⟨e1, e2⟩ => by subst e1 e2; exact k
theorem syq_ret (h : ED te es d) (k : P.rt d i) : SY M i (tSeq (tRet te) u) es P := syq_retY (yd_ed h) fun d' j ⟨e1, e2⟩ => by subst e1 e2; exact k
theorem sy_ifY {R : Bool → ι → Prop} (h : YT M i tc es R) (h1 : ∀ j, R true j → SY M j t es P) (h2 : ∀ j, R false j → SY M j u es P) : SY M i (tIfS tc t u) es P := fun S A B H σ E w F k => h S A B H σ E w _ fun b H2 j r g q1 => by
  cases b with
  | true => exact h1 j r S A B H2 σ (w.en2 E g q1) (w.at2 q1) F k
  | false => exact h2 j r S A B H2 σ (w.en2 E g q1) (w.at2 q1) F k
theorem syq_ifY {v : TS} {R : Bool → ι → Prop} (h : YT M i tc es R) (h1 : ∀ j, R true j → SY M j (tSeq t v) es P) (h2 : ∀ j, R false j → SY M j (tSeq u v) es P) : SY M i (tSeq (tIfS tc t u) v) es P := fun S A B H σ E w F k => h S A B H σ E w _ fun b H2 j r g q1 => by
  cases b with
  | true => exact h1 j r S A B H2 σ (w.en2 E g q1) (w.at2 q1) F k
  | false => exact h2 j r S A B H2 σ (w.en2 E g q1) (w.at2 q1) F k
theorem sy_if {b : Bool} (h : ET tc es b) (h1 : b = true → SY M i t es P) (h2 : b = false → SY M i u es P) : SY M i (tIfS tc t u) es P := sy_ifY (yt_et h) (fun j ⟨e1, e2⟩ => by subst e2; exact h1 e1.symm) fun j ⟨e1, e2⟩ => by subst e2; exact h2 e1.symm
/-- if c: ..; the rest -/
theorem syq_if {b : Bool} (h : ET tc es b) (h1 : b = true → SY M i (tSeq t u) es P) (h2 : b = false → SY M i u es P) : SY M i (tSeq (tIfS tc t tNext) u) es P := syq_ifY (yt_et h) (fun j ⟨e1, e2⟩ => by subst e2; exact h1 e1.symm) fun j ⟨e1, e2⟩ => by subst e2; exact h2 e1.symm
theorem sy_appY {n : Nat} {R : D → ι → Prop} (h : es[n]? = some (.o (.l xs))) (hd : YD M i te es R) (hl : xs.length < sizeLine) (k : ∀ d j, R d j → P.nx (es.set n (.o (.l (xs ++ [d])))) j) : SY M i (tDrop (tBM K "list" rAppend (tVar n) (tCons te tNil))) es P := fun S A B H σ E w F q => by
  obtain ⟨h1, h2, h3, _, h4, vs, rfl, h5⟩ := E.own n _ h
  refine ⟨_, h1, .inl ⟨rfl, vs, SqL.of h4⟩, hd S A B H σ E w _ fun v H2 d j r g q1 m => ?_⟩
  have nv : ¬ M.V (A n) := fun z => h2 (w.vol _ z).1
  refine ⟨A n, vs, v, rfl, rfl, g _ _ nv h4, by rw [h5.length]; exact hl, ?_⟩
  exact q.nx _ _ _ _ j (k d j r) ((w.en2 E g q1).put h ⟨_, rfl, (h5.mono (w.gx2 g)).app (IsDs.one m)⟩) ((w.at2 q1).put nv).j1
theorem sy_forY {wi : TI} {g : TG} {tb : TS} {R : List D → ι → Prop} (h : YSrc M i wi es R) (I : List D → Nat → Es → ι → Prop) (h0 : ∀ ds j, R ds j → I ds 0 es j)
    (hs : ∀ ds k d e j, ds[k]? = some d → I ds k e j → ∃ e', GD g d e e' ∧ SY M j tb e' { P with nx := I ds (k + 1), ct := I ds (k + 1), bk := P.nx }) (hd : ∀ ds e j, I ds ds.length e j → P.nx e j) : SY M i (tFor wi g tb) es P := fun S A B H σ E w F k =>
  h S A B H σ E w _ fun J H2 xs L ds j0 hR gH jH hL G is => by
    obtain ⟨C, E2, sBC, gr, hvol⟩ := (w.en2 E gH jH).cut M.V w.vol
    have k2 : Okq M S C P F := ⟨fun _ _ _ _ _ p E => k.nx _ _ _ _ _ p (E.back sBC), fun _ _ _ _ p e => k.rt _ _ _ _ p (sBC.trans e), fun _ _ _ _ _ p e j n => k.rl _ _ _ _ _ p (sBC.trans e) j (sBC.free n), fun _ _ _ _ _ p E => k.bk _ _ _ _ _ p (E.back sBC), fun _ _ _ _ _ p E => k.ct _ _ _ _ _ p (E.back sBC)⟩
    have w2 : ∀ {j H'}, M.J j H' → WOk (M.at j) S C H' := fun q => ⟨fun a v => ⟨(w.vol a v).1, hvol a v⟩, M.up _ _ w.k0 sBC, q⟩
    have isC : IsDs (fun a => S a ∨ C a = none) C ds xs := (is.mono gr).dom fun a o ha s => by
      rcases s with s | s
      · exact .inl s
      · rw [ha] at s
        cases s
    have LC : ∀ p ∈ L, C p.1 = some p.2 := fun p hp => gr _ _ (hL p hp).1 (hL p hp).2
    have hlen := is.length
    refine ⟨fun n m σ' H' => m = xs.length - n ∧ n ≤ xs.length ∧ ∃ e' A' j, I ds n e' j ∧ En S A' C H' σ' e' ∧ M.J j H', ⟨_, rfl, Nat.zero_le _, es, A, j0, h0 ds j0 hR, E2, jH⟩, ?_⟩
    rintro n m σ' H' ⟨rfl, hn, e', A', j, hI, E', q1⟩
    have g' : ∀ p ∈ L, H' p.1 = some p.2 := fun p hp => E'.same _ _ (LC p hp)
    by_cases hlt : n < xs.length
    · refine .inr ⟨G.go n H' g' hlt, fun σ2 H2 => ∃ e2 A2 j2, I ds (n + 1) e2 j2 ∧ En S A2 C H2 σ2 e2 ∧ M.J j2 H2, fun σ2 H3 ⟨e2, A2, j2, q1, q2⟩ => ⟨xs.length - (n + 1), by omega, rfl, hlt, e2, A2, j2, q1, q2⟩, fun v H3 y => ?_⟩
      obtain ⟨rfl, hv⟩ := G.yld n H' v H3 g' hlt y
      obtain ⟨d, hd1, hd2⟩ := isC.getV hv
      obtain ⟨e3, hg, hb⟩ := hs ds n d e' j hd1 hI
      have hd3 : IsD (Sx S A' e') H3 d v := (hd2.mono (Gr.of E'.same)).wide fun a s => by
        rcases s with s | ⟨l, ys, q, rfl⟩
        · exact .inl s
        · obtain ⟨_, _, h3, _⟩ := E'.own l ys q
          exact .inr h3
      refine hg S A' C H3 σ' v E' hd3 _ fun σ4 E4 _ => hb S A' C H3 σ4 E4 (w2 q1) _ ⟨fun e5 A5 σ5 H5 j5 p q j => ⟨e5, A5, j5, p, q, j⟩, k2.rt, k2.rl, k2.nx, fun e5 A5 σ5 H5 j5 p q j => ⟨e5, A5, j5, p, q, j⟩⟩
    · have en : n = xs.length := by omega
      refine .inl ⟨G.stop n H' g' (by omega), k2.nx e' A' σ' H' j (hd ds e' j (by rw [← hlen, ← en]; exact hI)) E' q1⟩
theorem sy_whileY {tb : TS} (I : Nat → Es → ι → Prop) (m0 : Nat) (h0 : I m0 es i)
    (hs : ∀ m e j, I m e j → ∃ R : Bool → ι → Prop, YT M j tc e R ∧ (∀ k, R true k → SY M k tb e { P with nx := fun e' k' => ∃ m', m' < m ∧ I m' e' k', ct := fun e' k' => ∃ m', m' < m ∧ I m' e' k', bk := P.nx }) ∧ ∀ k, R false k → P.nx e k) : SY M i (tWhile tc tb) es P := fun S A B H σ E w F k => by
  refine ⟨fun m σ' H' => ∃ e' A' j, I m e' j ∧ En S A' B H' σ' e' ∧ M.J j H', ⟨m0, es, A, i, h0, E, w.j1⟩, ?_⟩
  rintro m σ' H' ⟨e', A', j, hI, E', q1⟩
  obtain ⟨R, hb, ht, hf⟩ := hs m e' j hI
  refine hb S A' B H' σ' E' (w.at2 q1) _ fun b H2 k2 r g q2 => ?_
  have E2 := (w.at2 q1).en2 E' g q2
  cases b with
  | true => exact ⟨fun σ2 H3 => ∃ e2 A2 j2 m2, m2 < m ∧ I m2 e2 j2 ∧ En S A2 B H3 σ2 e2 ∧ M.J j2 H3, fun σ2 H3 ⟨e2, A2, j2, m2, q0, q1, q2⟩ => ⟨m2, q0, e2, A2, j2, q1, q2⟩, ht k2 r S A' B H2 σ' E2 (w.at2 q2) _ ⟨fun e5 A5 σ5 H5 j5 ⟨m5, p0, p1⟩ q j => ⟨e5, A5, j5, m5, p0, p1, q, j⟩, k.rt, k.rl, k.nx, fun e5 A5 σ5 H5 j5 ⟨m5, p0, p1⟩ q j => ⟨e5, A5, j5, m5, p0, p1, q, j⟩⟩⟩
  | false => exact k.nx e' A' σ' H2 k2 (hf k2 r) E2 q2
/-- [e for x in xs], e a change of the state; C: what is true of what is made so far *)-/
theorem yl_lcC {wi : TI} {g : TG} {vs : List Nat} {Rs : List D → ι → Prop} (C : List D → Nat → List D → ι → Prop) (n : noOwn es vs = true) (src : YSrc M i wi es Rs) (hz : ∀ ds j, Rs ds j → ds.length ≤ sizeLine) (h0 : ∀ ds j, Rs ds j → C ds 0 [] j)
    (hs : ∀ ds k z acc j, ds[k]? = some z → C ds k acc j → ∃ e' R, GW g z vs es e' ∧ YD M j te e' R ∧ ∀ d j', R d j' → C ds (k + 1) (acc ++ [d]) j') : YL M i (tLc wi g tYes te vs) es (fun rs j => ∃ ds, C ds ds.length rs j) := fun S A B H σ E w Q q =>
  src S A B H σ E w _ fun J H1 xs L ds j0 rds g1 q1 hL G is D hD => by
    have E1 := w.en2 E g1 q1
    have w1 := w.at2 q1
    have nD : ¬ M.V D := fun v => M.use j0 H1 D q1 v hD
    have gD : Same H1 (upd H1 D (.lst [])) := Same.new hD
    have E2 := (E1.vol gD hD (by rw [upd_same]; exact fun z => nomatch z)).wiped vs
    have wD : ∀ {j : ι} {H' : Hp}, M.J j H' → WOk (M.at j) (fun a => S a ∨ a = D) B H' := fun j => ⟨fun a v => ⟨.inl (w.vol a v).1, (w.vol a v).2⟩, w.k0, j⟩
    have w0 : ∀ a, Sx (fun a => S a ∨ a = D) A (wipeE es vs) a → Sx S A es a ∨ a = D := fun a s => by
      rcases s with (s | s) | s
      · exact .inl (.inl s)
      · exact .inr s
      · exact .inl (.inr (own_of_wiped s))
    have hlen : xs.length = ds.length := is.length
    have hlz := hz ds j0 rds
    refine ⟨fun k m H' => m = xs.length - k ∧ k ≤ xs.length ∧ Gr M.V H1 H' ∧ En (fun a => S a ∨ a = D) A B H' (wipe σ vs) (wipeE es vs) ∧ ∃ acc rs j, M.J j H' ∧ H' D = some (.lst acc) ∧ rs.length = k ∧ C ds k rs j ∧ IsDs (fun a => Sx S A es a ∨ a = D) H' rs acc,
      ⟨_, rfl, Nat.zero_le _, Gr.of gD, E2, [], [], j0, (w1.same gD).j1, upd_same, rfl, h0 ds j0 rds, rfl⟩, ?_⟩
    rintro k m H' ⟨rfl, hk, s1, E', acc, rs, j, q', hacc, hrl, pr, iacc⟩
    have g' : ∀ p ∈ L, H' p.1 = some p.2 := fun p hp => s1 _ _ (fun v => (hL p hp).1 (.inl (w.vol _ v).1)) (hL p hp).2
    by_cases hlt : k < xs.length
    · refine .inr ⟨G.go k H' g' hlt, fun H2 => Gr M.V H1 H2 ∧ En (fun a => S a ∨ a = D) A B H2 (wipe σ vs) (wipeE es vs) ∧ ∃ acc rs j, M.J j H2 ∧ H2 D = some (.lst acc) ∧ rs.length = k + 1 ∧ C ds (k + 1) rs j ∧ IsDs (fun a => Sx S A es a ∨ a = D) H2 rs acc,
        fun H2 r => ⟨_, by omega, rfl, hlt, r⟩, fun v H3 y => ?_⟩
      obtain ⟨rfl, hv⟩ := G.yld k H' v H3 g' hlt y
      obtain ⟨d, hd1, hd2⟩ := is.getV hv
      obtain ⟨e', R, gw, hk2, hC⟩ := hs ds k d rs j hd1 pr
      have hd3 : IsD (Sx (fun a => S a ∨ a = D) A (wipeE es vs)) H3 d v := ((hd2.more hD).mono (Gr.wide (fun a v => .inl (.inl (w.vol a v).1)) s1)).wide w0
      refine gw.run _ A B H3 σ v E' hd3 _ fun σ' E4 hw => ⟨hw, ?_⟩
      show te σ' H3 _
      refine hk2 _ A B H3 σ' E4 (wD q') _ fun y H5 z j5 rz g5 q5 iy => ?_
      have al : acc.length = k := by rw [iacc.length, hrl]
      refine ⟨acc, g5 _ _ nD hacc, by omega, ?_, ?_, acc ++ [y], rs ++ [z], j5, ((wD q5).put nD).j1, upd_same, by rw [List.length_append, hrl]; rfl, hC z j5 rz, ?_⟩
      · intro a o na ha
        rw [upd_ne (ne_of_none ha hD)]
        exact g5 _ _ na (s1 _ _ na ha)
      · exact ((wD q').en2 E' g5 q5).chg (.inr rfl) (E1.same.free hD)
      · have gd : Gr (fun a => Sx S A es a ∨ a = D) H5 (upd H5 D (.lst (acc ++ [y]))) := Gr.put (.inr rfl)
        refine ((iacc.mono (Gr.wide (fun a v => .inl (.inl (w.vol a v).1)) g5)).app ?_).mono gd
        refine IsDs.one (iy.wide fun a s => ?_)
        rcases s with (s | s) | s
        · exact .inl (.inl s)
        · exact .inr (gw.own A a s)
        · exact .inl (.inr s)
    · have ek : k = ds.length := by omega
      refine .inl ⟨G.stop k H' g' (by omega), ?_⟩
      rw [ek] at pr
      have hD0 : H D = none := w.free2 g1 hD q1
      exact q D acc H' rs j ⟨ds, pr⟩ (g1.trans s1) q' hD0 hacc iacc
end
theorem fn_Y {ι : Type} {M : Fam ι} {P : Program} {w : World} {K : PySem.W.Frag} {mg : Str → Option Value} {base : Heap} {m0 x : Str} {st : Stmt} {f : Addr} {fd : FuncData} {N ps : List Str} {k : Nat} {v : V} {Pre : ι → List D → Prop} {R : ι → List D → D → ι → Prop}
    (F : L2.Fun K m0 x st f fd) (S : FnScope N ps (defScope st)) (len : ∀ i ds, Pre i ds → ds.length + 1 = ps.length)
    (hbody : ∀ (cdv : Value) (A : Around) (outer : List Env) (s : Shared) (H : Hp) (E : XK), Room k (A.deeper (PyProof.Rows.envOfC x (defScope st) s.heap.objs.size f cdv)) →
      ∃ t, PSs (cxOf CX0 P w K mg base N x (defScope st) f cdv A outer s H E).nox (defBody st) t ∧ ∀ i ds, Pre i ds → SY M i t (.r v :: (ds.map Sl.d ++ List.replicate (N.length - (ds.length + 1)) .no)) ⟨fun _ j => R i ds .n j, fun d j => R i ds d j, fun xs j => R i ds (.l xs) j, fun _ _ => False, fun _ _ => False⟩) :
    FnOk P w K mg base CX0 (k + 1) f fd ps (spY M v Pre R) := by
  refine F.ok S (fun vs H Q E h => ?_) (fun cdv A outer s H vs Q E hr h => ?_)
  · obtain ⟨T, ds, us, i, rfl, dm, hV, j, hK, is, hP, q⟩ := h
    show us.length + 1 = ps.length
    rw [is.length]
    exact len i ds hP
  · obtain ⟨T, ds, us, i, rfl, dm, hV, j, hK, is, hP, q⟩ := h
    obtain ⟨t, h1, h2⟩ := hbody cdv A outer s H E hr
    let B : Hp := fun b => @ite _ (M.V b) (Classical.propDecidable _) none (H b)
    have B1 : ∀ a, M.V a → B a = none := fun a s => if_pos s
    have B2 : ∀ a o, ¬ M.V a → H a = some o → B a = some o := fun a o n e => by
      show (@ite _ (M.V a) (Classical.propDecidable _) none (H a)) = some o
      rw [if_neg n]
      exact e
    have sB : Same B H := fun b o e => by
      by_cases c : M.V b
      · rw [B1 b c] at e
        cases e
      · have e' : (@ite _ (M.V b) (Classical.propDecidable _) none (H b)) = some o := e
        rw [if_neg c] at e'
        exact e'
    have gr : ∀ {H' : Hp}, Same B H' → Gr M.V H H' := fun s a o n e => s a o (B2 a o n e)
    refine ⟨t, h1, h2 i ds hP T _ B H _ (env_startX dm is sB) ⟨fun a s => ⟨hV a s, B1 a s⟩, hK B B1 B2, j⟩ _ ⟨fun es' A' σ' H' k p E' j' => ?_, fun d' u H' k p e j' i => ?_, fun xs p vs' H' k e s j' n ns h i => ?_, fun _ _ _ _ _ p _ => p.elim, fun _ _ _ _ _ p _ => p.elim⟩⟩
    · exact q .n k .non H' p (gr E'.same) j' rfl
    · exact q d' k u H' p (gr e) j' i
    · exact q (.l xs) k _ H' e (gr s) j' ⟨p, vs', rfl, ns, h, i.wide fun a z => .inl z⟩
end Nz
namespace Nz
open PySem L2
abbrev spK {ι : Type} (M : Fam ι) (v : V) (Pre : List D → Prop) (R : List D → D → Prop) : Sp := spY M v (fun _ => Pre) (fun i ds d j => R ds d ∧ j = i)
theorem xd_callK {ι : Type} {M : Fam ι} {β : ι} {es : Es} {tas : TA} {v : V} {i : Nat} {Pre : List D → Prop} {R : List D → D → Prop} {Ra : List D → Prop} {E0 : XK} (hi : es[i]? = some (.r v)) (h : XDs (M.at β) tas es Ra) (hp : ∀ xs, Ra xs → Pre xs) : XD (M.at β) (tCall (spK M v Pre R) [] E0 (tCons (tVar i) tas)) es (fun z => ∃ xs, Ra xs ∧ R xs z) := fun S A B H σ E w Q q =>
  ⟨v, E.raw i v hi, h S A B H σ E w _ fun vs H2 xs r g j k => by
    have E2 := w.en2 (j := β) E g j
    refine ⟨_, xs, vs, β, by rw [List.append_nil], E2.dmx, fun a s => .inl (w.vol a s).1, j, (w.at2 (j := β) j).k2 E2, k, hp xs r, fun d m w' H3 r3 g3 j3 k3 => ?_⟩
    obtain ⟨r3, e⟩ := r3
    subst e
    exact q w' H3 d ⟨xs, r, r3⟩ (g.trans g3) j3 k3⟩
theorem fn_K {ι : Type} {M : Fam ι} {P : Program} {w : World} {K : PySem.W.Frag} {mg : Str → Option Value} {base : Heap} {x : Str} {st : Stmt} {f : Addr} {fd : FuncData} {N ps : List Str} {k : Nat} {v : V} {Pre : List D → Prop} {R : List D → D → Prop}
    (F : L2.Fun K x x st f fd) (S : FnScope N ps (defScope st)) (len : ∀ ds, Pre ds → ds.length + 1 = ps.length)
    (hbody : ∀ (cdv : Value) (A : Around) (outer : List Env) (s : Shared) (H : Hp) (E : XK), Room k (A.deeper (PyProof.Rows.envOfC x (defScope st) s.heap.objs.size f cdv)) →
      ∃ t, PSs (cxOf CX0 P w K mg base N x (defScope st) f cdv A outer s H E).nox (defBody st) t ∧ ∀ {β : ι} ds, Pre ds → SD (M.at β) t (.r v :: (ds.map Sl.d ++ List.replicate (N.length - (ds.length + 1)) .no)) ⟨fun _ => R ds .n, fun d => R ds d, fun xs => R ds (.l xs), fun _ => False, fun _ => False⟩) :
    FnOk P w K mg base CX0 (k + 1) f fd ps (spK M v Pre R) := fn_Y F S (fun _ => len) fun cdv A outer s H E hr => by
  obtain ⟨t, h1, h2⟩ := hbody cdv A outer s H E hr
  exact ⟨t, h1, fun i ds hP => sy_sd (sd_imp (h2 (β := i) ds hP) (fun _ h => ⟨h, rfl⟩) (fun _ h => ⟨h, rfl⟩) (fun _ h => ⟨h, rfl⟩) (fun _ h => h) (fun _ h => h))⟩
theorem DefF.K {ι : Type} {M : Fam ι} {P : Program} {w : World} {K : PySem.W.Frag} {mg : Str → Option Value} {base : Heap} {x : Str} {st : Stmt} {N ps : List Str} {k : Nat} {v : V} {Pre : List D → Prop} {R : List D → D → Prop} (F : DefF K mg x st ps) (S : FnScope N ps (defScope st)) (len : ∀ ds, Pre ds → ds.length + 1 = ps.length)
    (hbody : ∀ (f : Addr) (cdv : Value) (A : Around) (outer : List Env) (s : Shared) (H : Hp) (E : XK), Room k (A.deeper (PyProof.Rows.envOfC x (defScope st) s.heap.objs.size f cdv)) →
      ∃ t, PSs (cxOf CX0 P w K mg base N x (defScope st) f cdv A outer s H E).nox (defBody st) t ∧ ∀ {β : ι} ds, Pre ds → SD (M.at β) t (.r v :: (ds.map Sl.d ++ List.replicate (N.length - (ds.length + 1)) .no)) ⟨fun _ => R ds .n, fun d => R ds d, fun xs => R ds (.l xs), fun _ => False, fun _ => False⟩) :
    C8.Cal P w K mg base (k + 1) x (spK M v Pre R) [] := F.cal fun f fd hf => fn_K hf S len (hbody f)
end Nz
namespace Nz
open PySem L2
theorem pe_gE {X : Cx} {x : Str} {v : V} {pos : Pos} (hg : Gl X x) (h : ∃ u, X.mg x = some u ∧ RelV v u) (hd : (x == ("__debug__" : Str)) = false := by decide) : PE X (.Name x pos) (tC v) := by
  obtain ⟨u, h1, h2⟩ := h
  exact pe_glob hg h1 h2 hd
/-- a statement that is never reached -/
def tDead : TS := fun _ _ _ => False
theorem ps_dead {X : Cx} {s : Stmt} : PS X s tDead := ⟨fun _ _ _ _ _ _ h => h.elim⟩
/-- d[key], d a written dict -/
theorem ix_kd {X : Cx} {d : Addr} {es : Array DictEntry} {n : Nat} (D : KDict X.K X.w d es n) : IxR X (fun x y H Q => ∃ (z : Str) (u0 : Value) (v0 : V), x = .ref d ∧ y = .str z ∧ PySem.W.nsIn X.K d z = some (some u0) ∧ RelV v0 u0 ∧ Q v0 H) := by
  intro value slice pins s σ H x y v u Q I rx ry h hs
  have hT : s.TypeIs v "dict" := by
    obtain ⟨z, u0, v0, rfl, _⟩ := h
    cases rx
    exact kd_type D I
  exact PyProof.Rows.tail_any hT PySem.F.slot_dict_getitem.lookup (op_item_kd D pins s σ H x y v u Q I rx ry h) hs
def clsBody : Stmt → List Stmt
  | .ClassDef (body := b) .. => b
  | _ => []
/-- a method of the class at C -/
structure MetF (K : PySem.W.Frag) (C : Addr) (m qual : Str) (st : Stmt) (ps : List Str) : Prop where
  ex : ∃ f fd, Cls K C ∧ Meth K C m f ∧ L2.Fun K m qual st f fd ∧ Binds K fd ps []
/-- the class x at C, made by its __init__ -/
structure MkF (K : PySem.W.Frag) (mg : Str → Option Value) (x : Str) (C : Addr) (qual : Str) (st : Stmt) (ps : List Str) : Prop where
  ex : ∃ f fd, Mk K C f ∧ L2.Fun K "__init__" qual st f fd ∧ mg x = some (.ref C) ∧ Binds K fd ps []
/-- a tuple that the module's top has written -/
def KTup (K : PySem.W.Frag) (a : Addr) (xs : List V) : Prop := ∃ o its n, K.lookup a = some o ∧ o.cls = .type "tuple" ∧ o.data = .seq its n ∧ its.size ≤ sizeLine ∧ Vals xs its.toList
theorem KTup.sq {K : PySem.W.Frag} {a : Addr} {xs : List V} (h : KTup K a xs) {H : Hp} : SqT K H a xs := .inr h
section
variable {P : Program} {w : World} {K : PySem.W.Frag} {mg : Str → Option Value} {base : Heap} {C : Addr} {m qual x : Str} {st : Stmt} {ps : List Str} {k : Nat} {sp : Sp}
theorem MetF.met (F : MetF K C m qual st ps) (h : ∀ f fd, L2.Fun K m qual st f fd → FnOk P w K mg base CX0 k f fd ps sp) : C8.Met P w K mg base k C m sp [] := by
  obtain ⟨f, fd, c, me, F, b⟩ := F.ex
  exact ⟨f, fd, ps, [], c, me, h f fd F, b, .nil⟩
theorem MkF.mak (F : MkF K mg x C qual st ps) (h : ∀ f fd, L2.Fun K "__init__" qual st f fd → FnOk P w K mg base CX0 k f fd ps sp) : C8.Mak P w K mg base k x C sp [] := by
  obtain ⟨f, fd, M, F, hm, b⟩ := F.ex
  exact ⟨f, fd, ps, [], M, h f fd F, hm, b, .nil⟩
theorem DefF.at (F : DefF K mg x st ps) (h : ∀ f fd, L2.Fun K x x st f fd → FnOk P w K mg base CX0 k f fd ps sp) : ∃ f, mg x = some (.ref f) ∧ C8.CalAt P w K mg base k f sp := by
  obtain ⟨f, fd, F, hm, b⟩ := F
  exact ⟨f, hm, fd, ps, h f fd F, F.kp, b⟩
end
section
variable {ι : Type} {M : Fam ι} {K : PySem.W.Frag} {i j : ι} {es : Es} {ta tb te : TE} {tas : TA} {tc td : TT} {t u : TS} {x y z d : D} {xs ys ds : List D} {r : R2} {P : Pq ι}
/-- a method of the object that changes -/
theorem yd_methY {a C : Addr} {m : Str} {n : Nat} {Pre : ι → List D → Prop} {R : ι → List D → D → ι → Prop} {Ra : List D → ι → Prop} {E0 : XK} (hJ : ∀ i H, M.J i H → ∃ dx fs, H a = some (.ins C dx fs) ∧ fs.lookup m = none)
    (hi : es[n]? = some (.r (.ref a))) (h : YDs M i tas es Ra) (hp : ∀ xs j, Ra xs j → Pre j xs) : YD M i (tMeth C m (spY M (.ref a) Pre R) [] E0 (tVar n) tas) es (fun z k => ∃ xs j, Ra xs j ∧ R j xs z k) := fun S A B H σ E w Q q => by
  obtain ⟨dx, fs, h1, h2⟩ := hJ i H w.j1
  refine ⟨_, E.raw n _ hi, a, dx, fs, rfl, h1, h2, h S A B H σ E w _ fun vs H2 xs j r g q1 k => ?_⟩
  have E2 := w.en2 E g q1
  refine ⟨_, xs, vs, j, by rw [List.append_nil], E2.dmx, fun a s => .inl (w.vol a s).1, q1, (w.at2 q1).k2 E2, k, hp xs j r, fun d m w' H3 r3 g3 j3 k3 => ?_⟩
  exact q w' H3 d m ⟨xs, j, r, r3⟩ (g.trans g3) j3 k3
theorem sy_dropY {R : D → ι → Prop} (h : YD M i te es R) (k : ∀ d j, R d j → P.nx es j) : SY M i (tDrop te) es P := fun S A B H σ E w F q =>
  h S A B H σ E w _ fun v H2 d j r g q1 is => q.nx _ _ _ _ j (k d j r) (w.en2 E g q1) q1
theorem syq_dropY {R : D → ι → Prop} (h : YD M i te es R) (k : ∀ d j, R d j → SY M j u es P) : SY M i (tSeq (tDrop te) u) es P :=
  sy_seq (fun e j => ∃ d, R d j ∧ e = es) (sy_dropY h fun d j r => ⟨d, r, rfl⟩) fun e j ⟨d, r, z⟩ => by subst z; exact k d j r
theorem syq_freeze {n : Nat} (h : es[n]? = some (.o (.l xs))) (k : SY M i u (es.set n (.d (.l xs))) P) : SY M i u es P := fun S A B H σ E w F q => k S A B H σ (E.freeze h) w F q
end
section
variable {K : PySem.W.Frag} {W : Wd} {es : Es} {ta tb te : TE} {tas : TA} {d : D} {ds xs : List D}
def rM0 (f : Str → Bool) : V → List V → Hp → VK → Prop := fun x xs H Q => ∃ a, x = .str a ∧ xs = [] ∧ True ∧ Q (.bl (f a)) H
theorem ed_m0 {f : Str → Bool} {a : Str} (h : ED te es (.s a)) : ED (tBM0 K "str" (rM0 f) te) es (.b (f a)) := fun S A B H σ E Q q => h S A B H σ E _ fun v H2 e i => by
  cases i
  exact ⟨rfl, a, rfl, rfl, trivial, q _ H2 e rfl⟩
def rLenS : List V → Hp → VK → Prop := fun xs H Q => ∃ z, xs = [.str z] ∧ z.length ≤ sizeLine ∧ Q (.int z.length) H
theorem c_lenS {X : Cx} : CallR X (.builtin "len") rLenS := call_len_str
theorem ed_lenS {a : Str} (h : ED te es (.s a)) (hl : a.length ≤ sizeLine) : ED (tCB rLenS (tCons te tNil)) es (.i (a.length : Nat)) := fun S A B H σ E Q q => h S A B H σ E _ fun v H2 e i => by
  cases i
  exact ⟨a, rfl, hl, q _ H2 e rfl⟩
theorem et_truS {a : Str} (h : ED te es (.s a)) (hl : a.length ≤ sizeLine) : ET (tTru K te) es ((a.length : Int) != 0) := fun S A B H σ E Q q => h S A B H σ E _ fun v H2 e i => by
  cases i
  exact ⟨_, ⟨hl, rfl⟩, q H2 e⟩
/-- x in a written tuple of texts -/
theorem ed_inK {neg : Bool} {a : Addr} {x : D} {vs : List V} (hk : KTup K a vs) (h : ED ta es x) (fx : flD x = true) (fs : vs.all flatV = true) : ED (tOp (rIn K neg) ta (tC (.ref a))) es (.b (if neg then !inV (vD x) vs else inV (vD x) vs)) := fun S A B H σ E Q q => h S A B H σ E _ fun v H2 e i => by
  obtain ⟨rfl, e2⟩ := isD_flat fx i
  exact ⟨a, vs, rfl, .inr hk.sq, e2, fs, q _ H2 e rfl⟩
theorem inV_strs {a : Str} {xs : List Str} : inV (.str a) (xs.map V.str) = decide (a ∈ xs) := by
  rw [← inD_strs]
  unfold inD
  rw [List.map_map]
  rfl
def rJoin (K : PySem.W.Frag) : V → List V → Hp → VK → Prop := fun x xs H Q => ∃ a p, ∃ ys : List Str, x = .str a ∧ xs = [.ref p] ∧ (SqL K H p (ys.map V.str) ∨ SqT K H p (ys.map V.str)) ∧ (ys.map (·.length)).sum + ys.length * a.length ≤ 16777216 ∧ Q (.str (Txt.join a ys)) H
theorem ed_join {a : Str} {ys : List Str} (ha : ED ta es (.s a)) (h : EX te es (.l (ys.map D.s))) (hl : (ys.map (·.length)).sum + ys.length * a.length ≤ 16777216) : ED (tM1 (rJoin K) ta te) es (.s (Txt.join a ys)) := fun S A B H σ E Q q => ha S A B H σ E _ fun v H2 e i => by
  cases i
  refine ⟨⟨a, rfl⟩, h S A B H2 σ (E.mono e) _ fun v H3 e3 i3 => ?_⟩
  obtain ⟨p, vs, rfl, _, hp, is⟩ := i3
  obtain rfl := IsDs.strs is
  exact ⟨a, p, ys, rfl, rfl, .inl (SqL.of hp), hl, q _ H3 (e.trans e3) rfl⟩
def rSplit : V → List V → Hp → VK → Prop := fun x xs H Q => ∃ a b, x = .str a ∧ xs = [.str b] ∧ (b.length == 0) = false ∧ a.length + 2 ≤ sizeLine ∧ rNewStrs (Txt.split a b) H Q
theorem el_split {a b : Str} (ha : ED ta es (.s a)) (hb : ED te es (.s b)) (h0 : (b.length == 0) = false) (hl : a.length + 2 ≤ sizeLine) : EL (tM1 rSplit ta te) es ((Txt.split a b).map D.s) := fun S A B H σ E Q q => ha S A B H σ E _ fun v H2 e i => by
  cases i
  refine ⟨⟨a, rfl⟩, hb S A B H2 σ (E.mono e) _ fun v H3 e3 i3 => ?_⟩
  cases i3
  refine ⟨a, b, rfl, rfl, h0, hl, fun p hp => ?_⟩
  have e4 := (e.trans e3).trans (Same.new (o := .lst ((Txt.split a b).map V.str)) hp)
  refine q p _ _ e4 ?_ upd_same (IsDs.ofStrs _)
  cases z : H p with
  | none => rfl
  | some o =>
    rw [(e.trans e3) p o z] at hp
    cases hp
def rIntS : List V → Hp → VK → Prop := fun xs H Q => ∃ a n, xs = [.str a] ∧ PySem.intText? a = some n ∧ a.length ≤ 640 ∧ Q (.int n) H
theorem c_intS {X : Cx} : CallR X (.type "int") rIntS := call_int_str
theorem ed_intS {a : Str} {n : Int} (h : ED te es (.s a)) (hn : PySem.intText? a = some n) (hl : a.length ≤ 640) : ED (tCB rIntS (tCons te tNil)) es (.i n) := fun S A B H σ E Q q => h S A B H σ E _ fun v H2 e i => by
  cases i
  exact ⟨a, n, rfl, hn, hl, q _ H2 e rfl⟩
def rStrI : List V → Hp → VK → Prop := fun xs H Q => ∃ i : Int, xs = [.int i] ∧ i.natAbs.log2 < 1920 ∧ Q (.str (toString i)) H
def rStrA : List V → Hp → VK → Prop := fun xs H Q => rStrI xs H Q ∨ ∃ a, xs = [.str a] ∧ Q (.str a) H
theorem c_strA {X : Cx} : CallR X (.type "str") rStrA := fun pins s σ H xs us Q I r h => by
  rcases h with h | h
  · exact call_str_int pins s σ H xs us Q I r h
  · exact SkE.call_str_str pins s σ H xs us Q I r h
theorem ed_strI {n : Int} (h : ED te es (.i n)) (hn : n.natAbs.log2 < 1920) : ED (tCB rStrA (tCons te tNil)) es (.s (toString n : String)) := fun S A B H σ E Q q => h S A B H σ E _ fun v H2 e i => by
  cases i
  exact .inl ⟨n, rfl, hn, q _ H2 e rfl⟩
theorem ed_strS {a : Str} (h : ED te es (.s a)) : ED (tCB rStrA (tCons te tNil)) es (.s a) := fun S A B H σ E Q q => h S A B H σ E _ fun v H2 e i => by
  cases i
  exact .inr ⟨a, rfl, q _ H2 e rfl⟩
/-- xs[::-1], a new list -/
theorem el_revE (h : ED te es (.l ds)) : EL (tRevL K te) es ds.reverse := fun S A B H σ E Q q => h S A B H σ E _ fun v H2 e i => by
  obtain ⟨p, vs, rfl, n, hp, is⟩ := i
  refine ⟨p, vs, rfl, SqL.of hp, fun l hl => q l vs.reverse _ (e.trans (Same.new hl)) (e.free hl) upd_same ((is.rev.more hl).mono (Gr.of (Same.new hl)))⟩
end
end Nz
namespace Nz
open PySem L2
mutual
def pd : D → PyData
  | .n => .none
  | .b x => .bool x
  | .i x => .int x
  | .s x => .str x
  | .t xs => .tuple (pds xs)
  | .l xs => .list (pds xs)
  | .e _ => .none
def pds : List D → List PyData
  | [] => []
  | d :: r => pd d :: pds r
end
mutual
def noE : D → Bool
  | .t xs => noEs xs
  | .l xs => noEs xs
  | .e _ => false
  | _ => true
def noEs : List D → Bool
  | [] => true
  | d :: r => noE d && noEs r
end
mutual
theorem IsD.dp {K : PySem.W.Frag} {S : Addr → Prop} {H : Hp} : ∀ {d : D} {v : V}, noE d = true → IsD S H d v → Dp K H v (pd d)
  | .n, _, _, i => by cases i; simp only [pd]; exact .non
  | .b x, _, _, i => by cases i; simp only [pd]; exact .bl x
  | .i x, _, _, i => by cases i; simp only [pd]; exact .int x
  | .s x, _, _, i => by cases i; simp only [pd]; exact .str x
  | .t xs, _, n, i => by
    obtain ⟨a, vs, rfl, _, ha, is⟩ := i
    simp only [pd]
    simp only [noE] at n
    exact .tup (SqT.of ha) (IsDs.dp n is)
  | .l xs, _, n, i => by
    obtain ⟨a, vs, rfl, _, ha, is⟩ := i
    simp only [pd]
    simp only [noE] at n
    exact .lst (SqL.of ha) (IsDs.dp n is)
  | .e _, _, n, _ => by simp only [noE] at n; cases n
theorem IsDs.dp {K : PySem.W.Frag} {S : Addr → Prop} {H : Hp} : ∀ {ds : List D} {vs : List V}, noEs ds = true → IsDs S H ds vs → DpAll K H vs (pds ds)
  | [], _, _, i => by cases i; simp only [pds]; exact .nil
  | d :: r, _, n, i => by
    obtain ⟨v, s, rfl, h, t⟩ := i
    simp only [noEs, Bool.and_eq_true] at n
    simp only [pds]
    exact .cons (IsD.dp n.1 h) (IsDs.dp n.2 t)
end
/-- fit to be compared -/
structure Fit (d : D) : Prop where
  no : noE d = true
  sh : PySem.SeqAt.shaped (pd d) = true
theorem eqD {X : Cx} {K : PySem.W.Frag} (hu : X.A.units + 64 < cLine) (e : X.K = K := by rfl) : OpR X (compareOp .Eq) (rEqD K) := by subst e; exact op_eqD hu
theorem rd_eqD {K : PySem.W.Frag} {x y : D} (hx : Fit x) (hy : Fit y) : RD (rEqD K) x y (.b (PyData.eqv (pd x) (pd y))) := fun S H u v _ i j Q q => ⟨_, _, IsD.dp hx.no i, IsD.dp hy.no j, hx.sh, hy.sh, q _ H (Same.refl H) rfl⟩
section
variable {K : PySem.W.Frag} {es : Es} {a : Addr} {xs : List Str}
/-- over a tuple of the module -/
theorem src_K (h : KTup K a (xs.map V.str)) : Src (iTup K (tC (.ref a))) es (xs.map D.s) := fun S A B H σ E R r =>
  ⟨a, rfl, ⟨_, h.sq⟩, r _ H (xs.map V.str) [] (Same.refl H) (fun p hp => by cases hp) ⟨fun j H3 g hj => ⟨_, (xs.map V.str)[j], h.sq, List.getElem?_eq_getElem hj⟩, fun j H3 x H4 g hj y => ⟨y.1, y.2 _ h.sq⟩, fun j H3 g hj => ⟨_, h.sq, hj⟩⟩ (IsDs.ofStrs _)⟩
end
end Nz
namespace Nz
open PySem L2
/-- the own dict of the exception: the number in it *)-/
abbrev XAt (H : Hp) (d : Addr) (n : Nat) : Prop := H d = some (.xd [("at", .int (n : Int))])
section
variable {ι : Type} (M : Fam ι)
def Fam.ex (C : Addr) (E : XK) (PE : Nat → Prop) : Fam ι where
  V := M.V
  K0 := fun B => M.K0 B ∧ ∀ n d H' j, PE n → Same B H' → M.J j H' → XAt H' d n → E (.ref C) (some d) H'
  J := M.J
  use := M.use
  stay := M.stay
  up := fun B C' h s => ⟨M.up B C' h.1 s, fun n d H' j p e q x => h.2 n d H' j p (s.trans e) q x⟩
end
section
variable {ι : Type} {M : Fam ι} {C : Addr} {E : XK} {PE : Nat → Prop} {i : ι} {es : Es} {te : TE} {tas : TA} {tc : TT}
theorem WOk.unex {S : Addr → Prop} {B H : Hp} (w : WOk ((M.ex C E PE).at i) S B H) : WOk (M.at i) S B H := ⟨w.vol, w.k0.1, w.j1⟩
theorem YD.ex {R : D → ι → Prop} (h : YD M i te es R) : YD (M.ex C E PE) i te es R := fun S A B H σ En w Q q => h S A B H σ En w.unex Q q
theorem YDs.ex {R : List D → ι → Prop} (h : YDs M i tas es R) : YDs (M.ex C E PE) i tas es R := fun S A B H σ En w Q q => h S A B H σ En w.unex Q q
theorem YT.ex {R : Bool → ι → Prop} (h : YT M i tc es R) : YT (M.ex C E PE) i tc es R := fun S A B H σ En w Q q => h S A B H σ En w.unex Q q
theorem XD.ex {R : D → Prop} (h : XD (M.at i) te es R) : XD ((M.ex C E PE).at i) te es R := fun S A B H σ En w Q q => h S A B H σ En w.unex Q q
end
/-- the keys of a dict that the top has written are among these *)-/
def KeysIn (ks : List Str) : List DictEntry → Prop
  | [] => True
  | e :: r => (e.refKey = false ∧ ∃ s t, e.key = .str s t ∧ s ∈ ks) ∧ KeysIn ks r
theorem keysIn_find {ks : List Str} {z : Str} (hz : z ∉ ks) : ∀ {l : List DictEntry}, KeysIn ks l → l.find? (fun x => x.key.isStr z) = none ∧ (l.any fun x => x.refKey) = false
  | [], _ => ⟨rfl, rfl⟩
  | e :: r, ⟨⟨h1, s, t, h2, h3⟩, k⟩ => by
    obtain ⟨a, b⟩ := keysIn_find hz k
    have c : (e.key.isStr z) = false := by
      rw [h2]
      show (s == z) = false
      rw [beq_eq_false_iff_ne]
      exact fun q => hz (by rw [← q]; exact h3)
    constructor
    · rw [List.find?_cons, c]
      exact a
    · rw [List.any_cons, h1, b]
      rfl
theorem ns_miss {K : PySem.W.Frag} {d : Addr} {es : Array DictEntry} {n : Nat} {ks : List Str} (h : K.lookup d = some ⟨.type "dict", none, .dict es n, #[]⟩) (k : KeysIn ks es.toList) : ∀ z : Str, z ∉ ks → PySem.W.nsIn K d z = some none := fun z hz => by
  obtain ⟨a, b⟩ := keysIn_find hz k
  unfold PySem.W.nsIn
  rw [h]
  show (match List.find? (fun x => x.key.isStr z) es.toList with
    | some e => some (some e.val)
    | none => if (es.toList.any fun x => x.refKey) = true then none else some none) = _
  rw [a, b]
  rfl
end Nz
namespace Nz
open PySem L2
theorem set_get {es : Es} {i : Nat} {x y : Sl} {j : Nat} (h : (es.set i x)[j]? = some y) (n : x ≠ y) : j ≠ i ∧ es[j]? = some y := by
  rw [List.getElem?_set] at h
  by_cases c : i = j
  · rw [if_pos c] at h
    split at h
    · exact absurd (Option.some.inj h) n
    · cases h
  · rw [if_neg c] at h
    exact ⟨fun z => c z.symm, h⟩
theorem src_own1 {K : PySem.W.Frag} {es : Es} {ds : List D} {i : Nat} (h : es[i]? = some (.o (.l ds))) {S : Addr → Prop} {A : Nat → Addr} {B H : Hp} {σ : St} (E : En S A B H σ es) (R : It → Hp → Prop)
    (r : ∀ J vs, H (A i) = some (.lst vs) → Gd J vs (fun H => H (A i) = some (.lst vs)) → IsDs (Sx S A es) H ds vs → R J H) {wi : TI} (ew : iList K (tVar i) = wi) : wi σ H R := by
  subst ew
  obtain ⟨h1, h2, h3, _, h4, vs, rfl, h5⟩ := E.own i _ h
  refine ⟨_, h1, A i, rfl, ⟨vs, SqL.of h4⟩, r _ vs h4 ⟨fun j H3 g hj => ?_, fun j H3 x H4 g hj y => ?_, fun j H3 g hj => ?_⟩ h5⟩
  · exact ⟨vs, vs[j], SqL.of g, List.getElem?_eq_getElem hj⟩
  · exact ⟨y.1, y.2 vs (SqL.of g)⟩
  · exact ⟨vs, SqL.of g, hj⟩
section
variable {ι : Type} {M : Fam ι} {K : PySem.W.Frag} {β : ι} {es : Es}
/-- the own list at slot i becomes volatile, its slot raw -/
theorem En.lend {S : Addr → Prop} {A : Nat → Addr} {B H : Hp} {σ : St} {i : Nat} {ds : List D} (E : En S A B H σ es) (h : es[i]? = some (.o (.l ds))) : En (fun x => S x ∨ x = A i) A B H σ (es.set i (.r (.ref (A i)))) := by
  obtain ⟨h1, h2, h3, _, h4, vs, rfl, h5⟩ := E.own i _ h
  have w : ∀ x, Sx (fun x => S x ∨ x = A i) A (es.set i (.r (.ref (A i)))) x → Sx S A es x := fun x s => by
    rcases s with (s | s) | ⟨j, ys, hj, rfl⟩
    · exact .inl s
    · exact .inr ⟨i, _, h, s⟩
    · exact .inr ⟨j, ys, (set_get hj (by intro z; cases z)).2, rfl⟩
  refine ⟨fun j x hj => ?_, fun j ys hj => ?_, fun j k ys zs n hj hk => ?_, fun j v hj => ?_, E.same, fun x s => ?_, by rw [List.length_set]; exact E.len⟩
  · obtain ⟨v, e1, e2⟩ := E.dat j x (set_get hj (by intro z; cases z)).2
    exact ⟨v, e1, e2.wide w⟩
  · obtain ⟨nj, hj⟩ := set_get hj (by intro z; cases z)
    obtain ⟨e1, e2, e3, v, e4, e5⟩ := E.own j ys hj
    exact ⟨e1, fun z => z.elim e2 (fun z => E.apart j i _ _ nj hj h z), e3, v, e4, e5.wide w⟩
  · exact E.apart j k ys zs n (set_get hj (by intro z; cases z)).2 (set_get hk (by intro z; cases z)).2
  · rw [List.getElem?_set] at hj
    by_cases c : i = j
    · rw [if_pos c] at hj
      split at hj
      · cases hj
        rw [← c]
        exact h1
      · cases hj
    · rw [if_neg c] at hj
      exact E.raw j v hj
  · rcases s with s | s
    · exact E.dm x s
    · rw [s, h4]
      exact fun z => nomatch z
theorem syq_forOwn {i : Nat} {ds : List D} {g : TG} {tb u : TS} {P : Pq ι} (h : es[i]? = some (.o (.l ds))) (I : V → Nat → Es → Prop) (hI : ∀ v k e, I v k e → e[i]? = some (.r v)) (h0 : ∀ v, I v 0 (es.set i (.r v)))
    (hs : ∀ v k d e, ds[k]? = some d → I v k e → ∃ e', GD g d e e' ∧ ∀ W : Wd, SD W tb e' ⟨I v (k + 1), fun _ => False, fun _ => False, fun _ => False, fun _ => False⟩)
    (hk : ∀ v e, I v ds.length e → SY M β u (e.set i (.o (.l ds))) P) : SY M β (tSeq (tFor (iList K (tVar i)) g tb) u) es P := fun S A B H σ E w F q => by
  generalize ew : iList K (tVar i) = wi
  refine src_own1 h E _ (fun J vs ha G is => ?_) ew
  obtain ⟨h1, h2, h3, _, h4, _⟩ := E.own i _ h
  have E1 := E.lend h
  let S' : Addr → Prop := fun x => S x ∨ x = A i
  let W : Wd := ⟨fun x => M.V x ∨ x = A i, fun _ => True, fun H => M.J β H ∧ H (A i) = some (.lst vs), fun H x j v => v.elim (M.use β H x j.1) (fun z => by rw [z, j.2]; exact fun z => nomatch z),
    fun H H' j g => ⟨M.stay β H H' j.1 fun x v => g x (.inl v), by rw [g (A i) (.inr rfl)]; exact j.2⟩, fun _ _ _ _ => trivial⟩
  have w1 : WOk W S' B H := ⟨fun x v => v.elim (fun v => ⟨.inl (w.vol x v).1, (w.vol x v).2⟩) (fun z => ⟨.inr z, by rw [z]; exact h3⟩), trivial, w.j1, ha⟩
  have is1 : IsDs (Sx S' A (es.set i (.r (.ref (A i))))) H ds vs := is.wide fun x s => by
    rcases s with (s | s) | ⟨j, ys, hj, rfl⟩
    · exact .inl s
    · exact .inr ⟨i, _, h, s⟩
    · exact .inr ⟨j, ys, (set_get hj (by intro z; cases z)).2, rfl⟩
  obtain ⟨C, E2, sBC, gr, hvol⟩ := E1.cut W.V w1.vol
  have isC : IsDs (fun x => S' x ∨ C x = none) C ds vs := (is1.mono gr).dom fun x o hx s => by
    rcases s with s | s
    · exact .inl s
    · rw [hx] at s
      cases s
  have hlen := is.length
  have wC : ∀ {H' : Hp}, W.J1 H' → WOk W S' C H' := fun j => ⟨fun x v => ⟨(w1.vol x v).1, hvol x v⟩, trivial, j⟩
  refine ⟨fun k m σ' H' => m = vs.length - k ∧ k ≤ vs.length ∧ ∃ e' A', I (.ref (A i)) k e' ∧ En S' A' C H' σ' e' ∧ W.J1 H', ⟨_, rfl, Nat.zero_le _, _, A, h0 _, E2, w1.j1⟩, ?_⟩
  rintro k m σ' H' ⟨rfl, hkl, e', A', hI', E', j'⟩
  by_cases hlt : k < vs.length
  · refine .inr ⟨G.go k H' j'.2 hlt, fun σ2 H2 => ∃ e2 A2, I (.ref (A i)) (k + 1) e2 ∧ En S' A2 C H2 σ2 e2 ∧ W.J1 H2, fun σ2 H3 ⟨e2, A2, q1, q2⟩ => ⟨vs.length - (k + 1), by omega, rfl, hlt, e2, A2, q1, q2⟩, fun v H3 y => ?_⟩
    obtain ⟨rfl, hv⟩ := G.yld k H' v H3 j'.2 hlt y
    obtain ⟨d, hd1, hd2⟩ := isC.getV hv
    obtain ⟨e3, hg, hb⟩ := hs _ k d e' hd1 hI'
    have hd3 : IsD (Sx S' A' e') H3 d v := (hd2.mono (Gr.of E'.same)).wide fun a s => by
      rcases s with s | ⟨j, ys, q, rfl⟩
      · exact .inl s
      · obtain ⟨_, _, h3, _⟩ := E'.own j ys q
        exact .inr h3
    refine hg S' A' C H3 σ' v E' hd3 _ fun σ4 E4 _ => hb W S' A' C H3 σ4 E4 (wC j') _ ⟨fun e5 A5 σ5 H5 p q j => ⟨e5, A5, p, q, j⟩, fun _ _ _ z => z.elim, fun _ _ _ _ z => z.elim, fun _ _ _ _ z => z.elim, fun _ _ _ _ z => z.elim⟩
  · have ei : k = vs.length := by omega
    refine .inl ⟨G.stop k H' j'.2 (by omega), ?_⟩
    have hI2 : I (.ref (A i)) ds.length e' := by rw [← hlen, ← ei]; exact hI'
    have hr := hI _ _ _ hI'
    have il : i < e'.length := (List.getElem?_eq_some_iff.mp hr).1
    refine hk _ e' hI2 S (A1 A' i (A i)) B H' σ' ?_ ⟨w.vol, w.k0, j'.1⟩ F q
    have wd : ∀ x, Sx S (A1 A' i (A i)) (e'.set i (.o (.l ds))) x → Sx S' A' e' x := fun x s => by
      rcases s with s | s
      · exact .inl (.inl s)
      · rcases own_set_o s with s | s
        · exact .inr s
        · exact .inl (.inr s)
    refine ⟨fun j x hj => ?_, fun j ys hj => ?_, fun j l ys zs n hj hl => ?_, fun j v hj => ?_, sBC.trans E'.same, fun x s => E'.dm x (.inl s), by rw [List.length_set]; exact E'.len⟩
    · obtain ⟨v, e1, e2⟩ := E'.dat j x (set_get hj (by intro z; cases z)).2
      exact ⟨v, e1, e2.wide wd⟩
    · by_cases c : j = i
      · subst c
        rw [List.getElem?_set_self il] at hj
        cases hj
        have ea : A1 A' j (A j) j = A j := if_pos rfl
        rw [ea]
        refine ⟨E'.raw j _ hr, h2, h3, .lst vs, j'.2, vs, rfl, (isC.mono (Gr.of E'.same)).wide fun x s => ?_⟩
        rcases wd x s with s | ⟨l, ys, q, rfl⟩
        · exact .inl s
        · obtain ⟨_, _, h3, _⟩ := E'.own l ys q
          exact .inr h3
      · rw [List.getElem?_set_ne (fun z => c z.symm)] at hj
        have ea : A1 A' i (A i) j = A' j := if_neg c
        rw [ea]
        obtain ⟨e1, e2, e3, v, e4, e5⟩ := E'.own j ys hj
        exact ⟨e1, fun z => e2 (.inl z), sBC.free e3, v, e4, e5.wide wd⟩
    · by_cases c : j = i
      · by_cases c2 : l = i
        · exact absurd (c.trans c2.symm) n
        · rw [List.getElem?_set_ne (fun z => c2 z.symm)] at hl
          have ea : A1 A' i (A i) j = A i := if_pos c
          have eb : A1 A' i (A i) l = A' l := if_neg c2
          rw [ea, eb]
          exact fun z => (E'.own l zs hl).2.1 (.inr z.symm)
      · rw [List.getElem?_set_ne (fun z => c z.symm)] at hj
        have ea : A1 A' i (A i) j = A' j := if_neg c
        rw [ea]
        by_cases c2 : l = i
        · have eb : A1 A' i (A i) l = A i := if_pos c2
          rw [eb]
          exact fun z => (E'.own j ys hj).2.1 (.inr z)
        · rw [List.getElem?_set_ne (fun z => c2 z.symm)] at hl
          have eb : A1 A' i (A i) l = A' l := if_neg c2
          rw [eb]
          exact E'.apart j l ys zs n hj hl
    · exact E'.raw j v (set_get hj (by intro z; cases z)).2
end
end Nz
namespace Nz
open PySem L2
def top (i : Nat) : Stmt := PySem.Challenge.pw_notslower_k70_lines_of_steps_and_librari.main.body.getD i (.Pass ⟨0, 0, 0, 0⟩)
def C_Reader (mg : Str → Option Value) : Addr := match mg "Reader" with
  | some (.ref a) => a
  | _ => 0
def C_Source (mg : Str → Option Value) : Addr := match mg "Source" with
  | some (.ref a) => a
  | _ => 0
abbrev s_kind_of : Stmt := top 63
abbrev n_kind_of : List Str := ["name"]
theorem sc_kind_of : FnScope n_kind_of ["name"] (defScope s_kind_of) := ⟨rfl, rfl, rfl, by decide +kernel, rfl, by decide +kernel, by decide +kernel⟩
abbrev s_is_name : Stmt := top 72
abbrev n_is_name : List Str := ["word", "letters"]
theorem sc_is_name : FnScope n_is_name ["word"] (defScope s_is_name) := ⟨rfl, rfl, rfl, by decide +kernel, rfl, by decide +kernel, by decide +kernel⟩
abbrev s_is_constructor : Stmt := top 73
abbrev n_is_constructor : List Str := ["word", "letters"]
theorem sc_is_constructor : FnScope n_is_constructor ["word"] (defScope s_is_constructor) := ⟨rfl, rfl, rfl, by decide +kernel, rfl, by decide +kernel, by decide +kernel⟩
abbrev s_is_numeral : Stmt := top 74
abbrev n_is_numeral : List Str := ["word", "longest", "digits"]
theorem sc_is_numeral : FnScope n_is_numeral ["word", "longest"] (defScope s_is_numeral) := ⟨rfl, rfl, rfl, by decide +kernel, rfl, by decide +kernel, by decide +kernel⟩
abbrev s_is_number : Stmt := top 75
abbrev n_is_number : List Str := ["word"]
theorem sc_is_number : FnScope n_is_number ["word"] (defScope s_is_number) := ⟨rfl, rfl, rfl, by decide +kernel, rfl, by decide +kernel, by decide +kernel⟩
abbrev s_read_names : Stmt := top 77
abbrev n_read_names : List Str := ["reader", "differ", "names"]
theorem sc_read_names : FnScope n_read_names ["reader", "differ"] (defScope s_read_names) := ⟨rfl, rfl, rfl, by decide +kernel, rfl, by decide +kernel, by decide +kernel⟩
abbrev s_read_make : Stmt := top 78
abbrev n_read_make : List Str := ["reader", "constructor"]
theorem sc_read_make : FnScope n_read_make ["reader"] (defScope s_read_make) := ⟨rfl, rfl, rfl, by decide +kernel, rfl, by decide +kernel, by decide +kernel⟩
abbrev s_read_let : Stmt := top 79
abbrev n_read_let : List Str := ["reader", "left", "pairs", "name", "pair"]
theorem sc_read_let : FnScope n_read_let ["reader", "left"] (defScope s_read_let) := ⟨rfl, rfl, rfl, by decide +kernel, rfl, by decide +kernel, by decide +kernel⟩
abbrev s_read_case : Stmt := top 80
abbrev n_read_case : List Str := ["reader", "left", "rows", "first", "constructor", "names", "row"]
theorem sc_read_case : FnScope n_read_case ["reader", "left"] (defScope s_read_case) := ⟨rfl, rfl, rfl, by decide +kernel, rfl, by decide +kernel, by decide +kernel⟩
abbrev s_read_deep : Stmt := top 81
abbrev n_read_deep : List Str := ["reader", "left", "word", "name", "function", "found", "_"]
theorem sc_read_deep : FnScope n_read_deep ["reader", "left"] (defScope s_read_deep) := ⟨rfl, rfl, rfl, by decide +kernel, rfl, by decide +kernel, by decide +kernel⟩
abbrev s_read_part : Stmt := top 82
abbrev n_read_part : List Str := ["reader", "left", "word"]
theorem sc_read_part : FnScope n_read_part ["reader", "left"] (defScope s_read_part) := ⟨rfl, rfl, rfl, by decide +kernel, rfl, by decide +kernel, by decide +kernel⟩
abbrev s_read_whole : Stmt := top 83
abbrev n_read_whole : List Str := ["reader"]
theorem sc_read_whole : FnScope n_read_whole ["reader"] (defScope s_read_whole) := ⟨rfl, rfl, rfl, by decide +kernel, rfl, by decide +kernel, by decide +kernel⟩
abbrev s_read_all : Stmt := top 84
abbrev n_read_all : List Str := ["text", "read", "reader", "found"]
theorem sc_read_all : FnScope n_read_all ["text", "read"] (defScope s_read_all) := ⟨rfl, rfl, rfl, by decide +kernel, rfl, by decide +kernel, by decide +kernel⟩
abbrev s_pieces : Stmt := top 85
abbrev n_pieces : List Str := ["term", "word", "pairs", "rows", "constructor", "names", "part", "pair", "piece"]
theorem sc_pieces : FnScope n_pieces ["term"] (defScope s_pieces) := ⟨rfl, rfl, rfl, by decide +kernel, rfl, by decide +kernel, by decide +kernel⟩
abbrev s_term_text : Stmt := top 86
abbrev n_term_text : List Str := ["term", "words", "waiting", "piece"]
theorem sc_term_text : FnScope n_term_text ["term"] (defScope s_term_text) := ⟨rfl, rfl, rfl, by decide +kernel, rfl, by decide +kernel, by decide +kernel⟩
abbrev s_words_of : Stmt := top 92
abbrev n_words_of : List Str := ["thing", "item"]
theorem sc_words_of : FnScope n_words_of ["thing"] (defScope s_words_of) := ⟨rfl, rfl, rfl, by decide +kernel, rfl, by decide +kernel, by decide +kernel⟩
abbrev s_step_line : Stmt := top 93
abbrev n_step_line : List Str := ["step", "words", "thing"]
theorem sc_step_line : FnScope n_step_line ["step"] (defScope s_step_line) := ⟨rfl, rfl, rfl, by decide +kernel, rfl, by decide +kernel, by decide +kernel⟩
abbrev s_pairs_words : Stmt := top 94
abbrev n_pairs_words : List Str := ["pairs", "pair", "name"]
theorem sc_pairs_words : FnScope n_pairs_words ["pairs"] (defScope s_pairs_words) := ⟨rfl, rfl, rfl, by decide +kernel, rfl, by decide +kernel, by decide +kernel⟩
abbrev s_entry_lines : Stmt := top 95
abbrev n_entry_lines : List Str := ["entry", "word", "words", "step"]
theorem sc_entry_lines : FnScope n_entry_lines ["entry"] (defScope s_entry_lines) := ⟨rfl, rfl, rfl, by decide +kernel, rfl, by decide +kernel, by decide +kernel⟩
abbrev s_library_lines : Stmt := top 96
abbrev n_library_lines : List Str := ["entries", "entry", "line"]
theorem sc_library_lines : FnScope n_library_lines ["entries"] (defScope s_library_lines) := ⟨rfl, rfl, rfl, by decide +kernel, rfl, by decide +kernel, by decide +kernel⟩
abbrev s_read_least : Stmt := top 97
abbrev n_read_least : List Str := ["reader", "least", "word"]
theorem sc_read_least : FnScope n_read_least ["reader", "least"] (defScope s_read_least) := ⟨rfl, rfl, rfl, by decide +kernel, rfl, by decide +kernel, by decide +kernel⟩
abbrev s_read_number : Stmt := top 98
abbrev n_read_number : List Str := ["reader"]
theorem sc_read_number : FnScope n_read_number ["reader"] (defScope s_read_number) := ⟨rfl, rfl, rfl, by decide +kernel, rfl, by decide +kernel, by decide +kernel⟩
abbrev s_read_numbers : Stmt := top 99
abbrev n_read_numbers : List Str := ["reader", "found", "_"]
theorem sc_read_numbers : FnScope n_read_numbers ["reader"] (defScope s_read_numbers) := ⟨rfl, rfl, rfl, by decide +kernel, rfl, by decide +kernel, by decide +kernel⟩
abbrev s_read_name : Stmt := top 100
abbrev n_read_name : List Str := ["reader"]
theorem sc_read_name : FnScope n_read_name ["reader"] (defScope s_read_name) := ⟨rfl, rfl, rfl, by decide +kernel, rfl, by decide +kernel, by decide +kernel⟩
abbrev s_read_some_names : Stmt := top 101
abbrev n_read_some_names : List Str := ["reader", "found", "_"]
theorem sc_read_some_names : FnScope n_read_some_names ["reader"] (defScope s_read_some_names) := ⟨rfl, rfl, rfl, by decide +kernel, rfl, by decide +kernel, by decide +kernel⟩
abbrev s_read_pairs : Stmt := top 102
abbrev n_read_pairs : List Str := ["reader", "found", "_", "name"]
theorem sc_read_pairs : FnScope n_read_pairs ["reader"] (defScope s_read_pairs) := ⟨rfl, rfl, rfl, by decide +kernel, rfl, by decide +kernel, by decide +kernel⟩
abbrev s_read_things : Stmt := top 104
abbrev n_read_things : List Str := ["reader", "forms", "found", "form", "read"]
theorem sc_read_things : FnScope n_read_things ["reader", "forms"] (defScope s_read_things) := ⟨rfl, rfl, rfl, by decide +kernel, rfl, by decide +kernel, by decide +kernel⟩
abbrev s_read_whole_step : Stmt := top 105
abbrev n_read_whole_step : List Str := ["reader", "word", "place", "rule", "given"]
theorem sc_read_whole_step : FnScope n_read_whole_step ["reader"] (defScope s_read_whole_step) := ⟨rfl, rfl, rfl, by decide +kernel, rfl, by decide +kernel, by decide +kernel⟩
abbrev s_read_head : Stmt := top 106
abbrev n_read_head : List Str := ["reader", "word"]
theorem sc_read_head : FnScope n_read_head ["reader"] (defScope s_read_head) := ⟨rfl, rfl, rfl, by decide +kernel, rfl, by decide +kernel, by decide +kernel⟩
abbrev s_read_entry : Stmt := top 108
abbrev n_read_entry : List Str := ["source", "head", "term", "steps", "_"]
theorem sc_read_entry : FnScope n_read_entry ["source"] (defScope s_read_entry) := ⟨rfl, rfl, rfl, by decide +kernel, rfl, by decide +kernel, by decide +kernel⟩
abbrev s_read_step : Stmt := top 109
abbrev n_read_step : List Str := ["line"]
theorem sc_read_step : FnScope n_read_step ["line"] (defScope s_read_step) := ⟨rfl, rfl, rfl, by decide +kernel, rfl, by decide +kernel, by decide +kernel⟩
abbrev s_read_library : Stmt := top 110
abbrev n_read_library : List Str := ["lines", "source", "entries"]
theorem sc_read_library : FnScope n_read_library ["lines"] (defScope s_read_library) := ⟨rfl, rfl, rfl, by decide +kernel, rfl, by decide +kernel, by decide +kernel⟩
abbrev s__law_pool : Stmt := top 112
abbrev n__law_pool : List Str := ["script", "budget"]
theorem sc__law_pool : FnScope n__law_pool ["script", "budget"] (defScope s__law_pool) := ⟨rfl, rfl, rfl, by decide +kernel, rfl, by decide +kernel, by decide +kernel⟩
abbrev s__law_draw : Stmt := top 113
abbrev n__law_draw : List Str := ["pool", "size", "cell", "value"]
theorem sc__law_draw : FnScope n__law_draw ["pool", "size"] (defScope s__law_draw) := ⟨rfl, rfl, rfl, by decide +kernel, rfl, by decide +kernel, by decide +kernel⟩
abbrev s__law_spend : Stmt := top 114
abbrev n__law_spend : List Str := ["pool"]
theorem sc__law_spend : FnScope n__law_spend ["pool"] (defScope s__law_spend) := ⟨rfl, rfl, rfl, by decide +kernel, rfl, by decide +kernel, by decide +kernel⟩
abbrev s__law_number : Stmt := top 115
abbrev n__law_number : List Str := ["pool"]
theorem sc__law_number : FnScope n__law_number ["pool"] (defScope s__law_number) := ⟨rfl, rfl, rfl, by decide +kernel, rfl, by decide +kernel, by decide +kernel⟩
abbrev s__law_same : Stmt := top 116
abbrev n__law_same : List Str := ["actual", "due", "k"]
theorem sc__law_same : FnScope n__law_same ["actual", "due"] (defScope s__law_same) := ⟨rfl, rfl, rfl, by decide +kernel, rfl, by decide +kernel, by decide +kernel⟩
abbrev s__law_few : Stmt := top 117
abbrev n__law_few : List Str := ["pool", "most", "few"]
theorem sc__law_few : FnScope n__law_few ["pool", "most"] (defScope s__law_few) := ⟨rfl, rfl, rfl, by decide +kernel, rfl, by decide +kernel, by decide +kernel⟩
abbrev s__law_name : Stmt := top 118
abbrev n__law_name : List Str := ["pool", "name", "k"]
theorem sc__law_name : FnScope n__law_name ["pool"] (defScope s__law_name) := ⟨rfl, rfl, rfl, by decide +kernel, rfl, by decide +kernel, by decide +kernel⟩
abbrev s__law_unlike : Stmt := top 119
abbrev n__law_unlike : List Str := ["pool", "count", "names", "k", "name", "other"]
theorem sc__law_unlike : FnScope n__law_unlike ["pool", "count"] (defScope s__law_unlike) := ⟨rfl, rfl, rfl, by decide +kernel, rfl, by decide +kernel, by decide +kernel⟩
abbrev s__law_made : Stmt := top 120
abbrev n__law_made : List Str := ["pool", "name", "k"]
theorem sc__law_made : FnScope n__law_made ["pool"] (defScope s__law_made) := ⟨rfl, rfl, rfl, by decide +kernel, rfl, by decide +kernel, by decide +kernel⟩
abbrev s__law_any : Stmt := top 121
abbrev n__law_any : List Str := ["pool", "deep", "way", "k", "rows", "subject", "names", "made", "sign", "name", "row"]
theorem sc__law_any : FnScope n__law_any ["pool", "deep"] (defScope s__law_any) := ⟨rfl, rfl, rfl, by decide +kernel, rfl, by decide +kernel, by decide +kernel⟩
abbrev s__law_words : Stmt := top 122
abbrev n__law_words : List Str := ["term", "kind", "words", "row", "part"]
theorem sc__law_words : FnScope n__law_words ["term"] (defScope s__law_words) := ⟨rfl, rfl, rfl, by decide +kernel, rfl, by decide +kernel, by decide +kernel⟩
abbrev s__law_path : Stmt := top 123
abbrev n__law_path : List Str := ["pool", "k"]
theorem sc__law_path : FnScope n__law_path ["pool"] (defScope s__law_path) := ⟨rfl, rfl, rfl, by decide +kernel, rfl, by decide +kernel, by decide +kernel⟩
abbrev s__law_told : Stmt := top 124
abbrev n__law_told : List Str := ["pool", "rule", "k"]
theorem sc__law_told : FnScope n__law_told ["pool", "rule"] (defScope s__law_told) := ⟨rfl, rfl, rfl, by decide +kernel, rfl, by decide +kernel, by decide +kernel⟩
abbrev s__law_step : Stmt := top 125
abbrev n__law_step : List Str := ["pool", "kind", "path", "rules", "rule", "step"]
theorem sc__law_step : FnScope n__law_step ["pool"] (defScope s__law_step) := ⟨rfl, rfl, rfl, by decide +kernel, rfl, by decide +kernel, by decide +kernel⟩
abbrev s__law_path_words : Stmt := top 126
abbrev n__law_path_words : List Str := ["path", "index"]
theorem sc__law_path_words : FnScope n__law_path_words ["path"] (defScope s__law_path_words) := ⟨rfl, rfl, rfl, by decide +kernel, rfl, by decide +kernel, by decide +kernel⟩
abbrev s__law_told_words : Stmt := top 127
abbrev n__law_told_words : List Str := ["rule", "given"]
theorem sc__law_told_words : FnScope n__law_told_words ["rule", "given"] (defScope s__law_told_words) := ⟨rfl, rfl, rfl, by decide +kernel, rfl, by decide +kernel, by decide +kernel⟩
abbrev s__law_step_words : Stmt := top 128
abbrev n__law_step_words : List Str := ["step", "words"]
theorem sc__law_step_words : FnScope n__law_step_words ["step"] (defScope s__law_step_words) := ⟨rfl, rfl, rfl, by decide +kernel, rfl, by decide +kernel, by decide +kernel⟩
abbrev s__law_entry : Stmt := top 129
abbrev n__law_entry : List Str := ["pool", "kind", "pairs", "k"]
theorem sc__law_entry : FnScope n__law_entry ["pool"] (defScope s__law_entry) := ⟨rfl, rfl, rfl, by decide +kernel, rfl, by decide +kernel, by decide +kernel⟩
abbrev s__law_entry_lines : Stmt := top 130
abbrev n__law_entry_lines : List Str := ["entry", "lines", "words", "name", "other", "step"]
theorem sc__law_entry_lines : FnScope n__law_entry_lines ["entry"] (defScope s__law_entry_lines) := ⟨rfl, rfl, rfl, by decide +kernel, rfl, by decide +kernel, by decide +kernel⟩
abbrev s_law : Stmt := top 131
abbrev n_law : List Str := ["script", "pool", "turn", "step", "line", "k", "entries", "lines", "entry", "steps", "deep", "passed"]
theorem sc_law : FnScope n_law ["script"] (defScope s_law) := ⟨rfl, rfl, rfl, by decide +kernel, rfl, by decide +kernel, by decide +kernel⟩
abbrev s_Reader___init__ : Stmt := (Nz.clsBody (top 76)).getD 0 (.Pass ⟨0, 0, 0, 0⟩)
abbrev n_Reader___init__ : List Str := ["self", "words"]
theorem sc_Reader___init__ : FnScope n_Reader___init__ ["self", "words"] (defScope s_Reader___init__) := ⟨rfl, rfl, rfl, by decide +kernel, rfl, by decide +kernel, by decide +kernel⟩
abbrev s_Reader_ahead : Stmt := (Nz.clsBody (top 76)).getD 1 (.Pass ⟨0, 0, 0, 0⟩)
abbrev n_Reader_ahead : List Str := ["self"]
theorem sc_Reader_ahead : FnScope n_Reader_ahead ["self"] (defScope s_Reader_ahead) := ⟨rfl, rfl, rfl, by decide +kernel, rfl, by decide +kernel, by decide +kernel⟩
abbrev s_Reader_take : Stmt := (Nz.clsBody (top 76)).getD 2 (.Pass ⟨0, 0, 0, 0⟩)
abbrev n_Reader_take : List Str := ["self", "fits", "word"]
theorem sc_Reader_take : FnScope n_Reader_take ["self", "fits"] (defScope s_Reader_take) := ⟨rfl, rfl, rfl, by decide +kernel, rfl, by decide +kernel, by decide +kernel⟩
abbrev s_Reader_take_word : Stmt := (Nz.clsBody (top 76)).getD 3 (.Pass ⟨0, 0, 0, 0⟩)
abbrev n_Reader_take_word : List Str := ["self", "wanted"]
theorem sc_Reader_take_word : FnScope n_Reader_take_word ["self", "wanted"] (defScope s_Reader_take_word) := ⟨rfl, rfl, rfl, by decide +kernel, rfl, by decide +kernel, by decide +kernel⟩
abbrev s_Reader_take_name : Stmt := (Nz.clsBody (top 76)).getD 4 (.Pass ⟨0, 0, 0, 0⟩)
abbrev n_Reader_take_name : List Str := ["self", "others", "word"]
theorem sc_Reader_take_name : FnScope n_Reader_take_name ["self", "others"] (defScope s_Reader_take_name) := ⟨rfl, rfl, rfl, by decide +kernel, rfl, by decide +kernel, by decide +kernel⟩
abbrev s_Reader_take_constructor : Stmt := (Nz.clsBody (top 76)).getD 5 (.Pass ⟨0, 0, 0, 0⟩)
abbrev n_Reader_take_constructor : List Str := ["self", "others", "word"]
theorem sc_Reader_take_constructor : FnScope n_Reader_take_constructor ["self", "others"] (defScope s_Reader_take_constructor) := ⟨rfl, rfl, rfl, by decide +kernel, rfl, by decide +kernel, by decide +kernel⟩
abbrev s_Source___init__ : Stmt := (Nz.clsBody (top 107)).getD 0 (.Pass ⟨0, 0, 0, 0⟩)
abbrev n_Source___init__ : List Str := ["self", "lines"]
theorem sc_Source___init__ : FnScope n_Source___init__ ["self", "lines"] (defScope s_Source___init__) := ⟨rfl, rfl, rfl, by decide +kernel, rfl, by decide +kernel, by decide +kernel⟩
abbrev s_Source_take : Stmt := (Nz.clsBody (top 107)).getD 1 (.Pass ⟨0, 0, 0, 0⟩)
abbrev n_Source_take : List Str := ["self", "read", "found"]
theorem sc_Source_take : FnScope n_Source_take ["self", "read"] (defScope s_Source_take) := ⟨rfl, rfl, rfl, by decide +kernel, rfl, by decide +kernel, by decide +kernel⟩
structure Facts (K : PySem.W.Frag) (mg : Str → Option Value) (w : World) : Prop where
  kind_of : DefF K mg "kind_of" s_kind_of ["name"]
  is_name : DefF K mg "is_name" s_is_name ["word"]
  is_constructor : DefF K mg "is_constructor" s_is_constructor ["word"]
  is_numeral : DefF K mg "is_numeral" s_is_numeral ["word", "longest"]
  is_number : DefF K mg "is_number" s_is_number ["word"]
  read_names : DefF K mg "read_names" s_read_names ["reader", "differ"]
  read_make : DefF K mg "read_make" s_read_make ["reader"]
  read_let : DefF K mg "read_let" s_read_let ["reader", "left"]
  read_case : DefF K mg "read_case" s_read_case ["reader", "left"]
  read_deep : DefF K mg "read_deep" s_read_deep ["reader", "left"]
  read_part : DefF K mg "read_part" s_read_part ["reader", "left"]
  read_whole : DefF K mg "read_whole" s_read_whole ["reader"]
  read_all : DefF K mg "read_all" s_read_all ["text", "read"]
  pieces : DefF K mg "pieces" s_pieces ["term"]
  term_text : DefF K mg "term_text" s_term_text ["term"]
  words_of : DefF K mg "words_of" s_words_of ["thing"]
  step_line : DefF K mg "step_line" s_step_line ["step"]
  pairs_words : DefF K mg "pairs_words" s_pairs_words ["pairs"]
  entry_lines : DefF K mg "entry_lines" s_entry_lines ["entry"]
  library_lines : DefF K mg "library_lines" s_library_lines ["entries"]
  read_least : DefF K mg "read_least" s_read_least ["reader", "least"]
  read_number : DefF K mg "read_number" s_read_number ["reader"]
  read_numbers : DefF K mg "read_numbers" s_read_numbers ["reader"]
  read_name : DefF K mg "read_name" s_read_name ["reader"]
  read_some_names : DefF K mg "read_some_names" s_read_some_names ["reader"]
  read_pairs : DefF K mg "read_pairs" s_read_pairs ["reader"]
  read_things : DefF K mg "read_things" s_read_things ["reader", "forms"]
  read_whole_step : DefF K mg "read_whole_step" s_read_whole_step ["reader"]
  read_head : DefF K mg "read_head" s_read_head ["reader"]
  read_entry : DefF K mg "read_entry" s_read_entry ["source"]
  read_step : DefF K mg "read_step" s_read_step ["line"]
  read_library : DefF K mg "read_library" s_read_library ["lines"]
  _law_pool : DefF K mg "_law_pool" s__law_pool ["script", "budget"]
  _law_draw : DefF K mg "_law_draw" s__law_draw ["pool", "size"]
  _law_spend : DefF K mg "_law_spend" s__law_spend ["pool"]
  _law_number : DefF K mg "_law_number" s__law_number ["pool"]
  _law_same : DefF K mg "_law_same" s__law_same ["actual", "due"]
  _law_few : DefF K mg "_law_few" s__law_few ["pool", "most"]
  _law_name : DefF K mg "_law_name" s__law_name ["pool"]
  _law_unlike : DefF K mg "_law_unlike" s__law_unlike ["pool", "count"]
  _law_made : DefF K mg "_law_made" s__law_made ["pool"]
  _law_any : DefF K mg "_law_any" s__law_any ["pool", "deep"]
  _law_words : DefF K mg "_law_words" s__law_words ["term"]
  _law_path : DefF K mg "_law_path" s__law_path ["pool"]
  _law_told : DefF K mg "_law_told" s__law_told ["pool", "rule"]
  _law_step : DefF K mg "_law_step" s__law_step ["pool"]
  _law_path_words : DefF K mg "_law_path_words" s__law_path_words ["path"]
  _law_told_words : DefF K mg "_law_told_words" s__law_told_words ["rule", "given"]
  _law_step_words : DefF K mg "_law_step_words" s__law_step_words ["step"]
  _law_entry : DefF K mg "_law_entry" s__law_entry ["pool"]
  _law_entry_lines : DefF K mg "_law_entry_lines" s__law_entry_lines ["entry"]
  law : DefF K mg "law" s_law ["script"]
  mg_Reader : mg "Reader" = some (.ref (C_Reader mg))
  cl_Reader : Cls K (C_Reader mg)
  k_Reader : Nz.MkF K mg "Reader" (C_Reader mg) "Reader.__init__" s_Reader___init__ ["self", "words"]
  n_Reader_at : NoAttr K (C_Reader mg) "at"
  n_Reader_words : NoAttr K (C_Reader mg) "words"
  m_Reader_ahead : Nz.MetF K (C_Reader mg) "ahead" "Reader.ahead" s_Reader_ahead ["self"]
  m_Reader_take : Nz.MetF K (C_Reader mg) "take" "Reader.take" s_Reader_take ["self", "fits"]
  m_Reader_take_word : Nz.MetF K (C_Reader mg) "take_word" "Reader.take_word" s_Reader_take_word ["self", "wanted"]
  m_Reader_take_name : Nz.MetF K (C_Reader mg) "take_name" "Reader.take_name" s_Reader_take_name ["self", "others"]
  m_Reader_take_constructor : Nz.MetF K (C_Reader mg) "take_constructor" "Reader.take_constructor" s_Reader_take_constructor ["self", "others"]
  mg_Source : mg "Source" = some (.ref (C_Source mg))
  cl_Source : Cls K (C_Source mg)
  k_Source : Nz.MkF K mg "Source" (C_Source mg) "Source.__init__" s_Source___init__ ["self", "lines"]
  n_Source_at : NoAttr K (C_Source mg) "at"
  n_Source_lines : NoAttr K (C_Source mg) "lines"
  m_Source_take : Nz.MetF K (C_Source mg) "take" "Source.take" s_Source_take ["self", "read"]
  b_bool : mg "bool" = none
  b_int : mg "int" = none
  b_isinstance : mg "isinstance" = none
  b_len : mg "len" = none
  b_list : mg "list" = none
  b_min : mg "min" = none
  b_range : mg "range" = none
  b_str : mg "str" = none
  b_tuple : mg "tuple" = none
  g_NUMBERS : ∃ u, mg "NUMBERS" = some u ∧ RelV (V.int 65536) u
  g_MOST_PAIRS : ∃ u, mg "MOST_PAIRS" = some u ∧ RelV (V.int 4) u
  g_LONGEST_NAME : ∃ u, mg "LONGEST_NAME" = some u ∧ RelV (V.int 6) u
  g_LONGEST_NUMBER_text : ∃ u, mg "LONGEST_NUMBER_text" = some u ∧ RelV (V.int 5) u
  g_LARGEST_NUMBER : ∃ u, mg "LARGEST_NUMBER" = some u ∧ RelV (V.int 65535) u
  g_MOST_AT_ONCE : ∃ u, mg "MOST_AT_ONCE" = some u ∧ RelV (V.int 4) u
  g_DEEPEST : ∃ u, mg "DEEPEST" = some u ∧ RelV (V.int 60) u
  g_LONGEST_NUMBER_lines : ∃ u, mg "LONGEST_NUMBER_lines" = some u ∧ RelV (V.int 3) u
  g_VALUES : ∃ a, mg "VALUES" = some (.ref a) ∧ Nz.KTup K a [V.str "number", V.str "fun", V.str "make"]
  g_OPERATORS : ∃ a, mg "OPERATORS" = some (.ref a) ∧ Nz.KTup K a [V.str "+", V.str "-", V.str "*", V.str "/", V.str "<", V.str "="]
  g_BRANCHES : ∃ a, mg "BRANCHES" = some (.ref a) ∧ Nz.KTup K a [V.str "case", V.str "ifzero"]
  g_COSTS : ∃ a, mg "COSTS" = some (.ref a) ∧ Nz.KTup K a [V.str "tick", V.str "waste"]
  g_HOLE : ∃ a, mg "HOLE" = some (.ref a) ∧ Nz.KTup K a [V.str "hole"]
  g_KEY_WORDS : ∃ a, mg "KEY_WORDS" = some (.ref a) ∧ Nz.KTup K a [V.str "fun", V.str "call", V.str "let", V.str "in", V.str "make", V.str "case", V.str "of", V.str "end", V.str "ifzero", V.str "tick", V.str "waste", V.str "hole"]
  g_RULE_STEPS : ∃ a, mg "RULE_STEPS" = some (.ref a) ∧ Nz.KTup K a [V.str "go", V.str "back"]
  g_CLAIM_STEPS : ∃ a, mg "CLAIM_STEPS" = some (.ref a) ∧ Nz.KTup K a [V.str "claim", V.str "undo"]
  g_PLAIN_FORMS : ∃ d es n, mg "PLAIN_FORMS" = some (.ref d) ∧ KDict K w d es n ∧ (∃ u, PySem.W.nsIn K d "ifzero" = some (some u) ∧ RelV (V.int 3) u) ∧ (∃ u, PySem.W.nsIn K d "+" = some (some u) ∧ RelV (V.int 2) u) ∧ (∃ u, PySem.W.nsIn K d "-" = some (some u) ∧ RelV (V.int 2) u) ∧ (∃ u, PySem.W.nsIn K d "*" = some (some u) ∧ RelV (V.int 2) u) ∧ (∃ u, PySem.W.nsIn K d "/" = some (some u) ∧ RelV (V.int 2) u) ∧ (∃ u, PySem.W.nsIn K d "<" = some (some u) ∧ RelV (V.int 2) u) ∧ (∃ u, PySem.W.nsIn K d "=" = some (some u) ∧ RelV (V.int 2) u) ∧ (∃ u, PySem.W.nsIn K d "tick" = some (some u) ∧ RelV (V.int 1) u) ∧ (∃ u, PySem.W.nsIn K d "waste" = some (some u) ∧ RelV (V.int 1) u)
  g_SAME_RULES : ∃ d es n, mg "SAME_RULES" = some (.ref d) ∧ KDict K w d es n ∧ (∃ u, PySem.W.nsIn K d "rename" = some (some u)) ∧ (∃ u, PySem.W.nsIn K d "beta" = some (some u)) ∧ (∃ u, PySem.W.nsIn K d "choose" = some (some u)) ∧ (∃ u, PySem.W.nsIn K d "zero" = some (some u)) ∧ (∃ u, PySem.W.nsIn K d "reckon" = some (some u)) ∧ (∃ u, PySem.W.nsIn K d "float-let" = some (some u)) ∧ (∃ u, PySem.W.nsIn K d "float-cost" = some (some u)) ∧ (∃ u, PySem.W.nsIn K d "join" = some (some u)) ∧ (∃ u, PySem.W.nsIn K d "branch" = some (some u)) ∧ (∃ u, PySem.W.nsIn K d "sink" = some (some u)) ∧ (∃ u, PySem.W.nsIn K d "order" = some (some u)) ∧ (∃ u, PySem.W.nsIn K d "copy" = some (some u)) ∧ (∃ u, PySem.W.nsIn K d "spoil" = some (some u)) ∧ (∀ z : Str, z ∉ (["rename", "beta", "choose", "zero", "reckon", "float-let", "float-cost", "join", "branch", "sink", "order", "copy", "spoil"] : List Str) → PySem.W.nsIn K d z = some none)
  g_BETTER_RULES : ∃ d es n, mg "BETTER_RULES" = some (.ref d) ∧ KDict K w d es n ∧ (∃ u, PySem.W.nsIn K d "unused" = some (some u)) ∧ (∃ u, PySem.W.nsIn K d "once" = some (some u)) ∧ (∃ u, PySem.W.nsIn K d "alias" = some (some u)) ∧ (∃ u, PySem.W.nsIn K d "into" = some (some u)) ∧ (∃ u, PySem.W.nsIn K d "untick" = some (some u)) ∧ (∃ u, PySem.W.nsIn K d "cheaper" = some (some u)) ∧ (∀ z : Str, z ∉ (["unused", "once", "alias", "into", "untick", "cheaper"] : List Str) → PySem.W.nsIn K d z = some none)
  g_TOLD : ∃ d es n, mg "TOLD" = some (.ref d) ∧ KDict K w d es n ∧ (∃ a, PySem.W.nsIn K d "rename" = some (some (.ref a)) ∧ Nz.KTup K a [V.str "index", V.str "name", V.str "name"]) ∧ (∃ a, PySem.W.nsIn K d "float-let" = some (some (.ref a)) ∧ Nz.KTup K a [V.str "index"]) ∧ (∃ a, PySem.W.nsIn K d "float-cost" = some (some (.ref a)) ∧ Nz.KTup K a [V.str "index"]) ∧ (∃ a, PySem.W.nsIn K d "order" = some (some (.ref a)) ∧ Nz.KTup K a [V.str "indexes"]) ∧ (∃ a, PySem.W.nsIn K d "copy" = some (some (.ref a)) ∧ Nz.KTup K a [V.str "name", V.str "indexes"]) ∧ (∃ a, PySem.W.nsIn K d "unused" = some (some (.ref a)) ∧ Nz.KTup K a [V.str "names"]) ∧ (∀ z : Str, z ∉ (["rename", "float-let", "float-cost", "order", "copy", "unused"] : List Str) → PySem.W.nsIn K d z = some none)
  g_HEADS : ∃ d es n, mg "HEADS" = some (.ref d) ∧ KDict K w d es n ∧ (∃ a, PySem.W.nsIn K d "derived" = some (some (.ref a)) ∧ Nz.KTup K a [V.str "index"]) ∧ (∃ a, PySem.W.nsIn K d "context" = some (some (.ref a)) ∧ Nz.KTup K a [V.str "index"]) ∧ (∃ a, PySem.W.nsIn K d "chain" = some (some (.ref a)) ∧ Nz.KTup K a [V.str "index", V.str "index"]) ∧ (∃ a, PySem.W.nsIn K d "recursion" = some (some (.ref a)) ∧ Nz.KTup K a [V.str "index", V.str "index", V.str "pairs"]) ∧ (∀ z : Str, z ∉ (["derived", "context", "chain", "recursion"] : List Str) → PySem.W.nsIn K d z = some none)
  g_READINGS : ∃ d es n, mg "READINGS" = some (.ref d) ∧ KDict K w d es n ∧ (∃ f, PySem.W.nsIn K d "index" = some (some (.ref f)) ∧ mg "read_number" = some (.ref f)) ∧ (∃ f, PySem.W.nsIn K d "indexes" = some (some (.ref f)) ∧ mg "read_numbers" = some (.ref f)) ∧ (∃ f, PySem.W.nsIn K d "name" = some (some (.ref f)) ∧ mg "read_name" = some (.ref f)) ∧ (∃ f, PySem.W.nsIn K d "names" = some (some (.ref f)) ∧ mg "read_some_names" = some (.ref f)) ∧ (∃ f, PySem.W.nsIn K d "pairs" = some (some (.ref f)) ∧ mg "read_pairs" = some (.ref f)) ∧ (∀ z : Str, z ∉ (["index", "indexes", "name", "names", "pairs"] : List Str) → PySem.W.nsIn K d z = some none)
  d_read_number_read_numbers : ∀ f, mg "read_number" = some (.ref f) → mg "read_numbers" = some (.ref f) → False
  d_read_number_read_name : ∀ f, mg "read_number" = some (.ref f) → mg "read_name" = some (.ref f) → False
  d_read_number_read_some_names : ∀ f, mg "read_number" = some (.ref f) → mg "read_some_names" = some (.ref f) → False
  d_read_number_read_pairs : ∀ f, mg "read_number" = some (.ref f) → mg "read_pairs" = some (.ref f) → False
  d_read_numbers_read_name : ∀ f, mg "read_numbers" = some (.ref f) → mg "read_name" = some (.ref f) → False
  d_read_numbers_read_some_names : ∀ f, mg "read_numbers" = some (.ref f) → mg "read_some_names" = some (.ref f) → False
  d_read_numbers_read_pairs : ∀ f, mg "read_numbers" = some (.ref f) → mg "read_pairs" = some (.ref f) → False
  d_read_name_read_some_names : ∀ f, mg "read_name" = some (.ref f) → mg "read_some_names" = some (.ref f) → False
  d_read_name_read_pairs : ∀ f, mg "read_name" = some (.ref f) → mg "read_pairs" = some (.ref f) → False
  d_read_some_names_read_pairs : ∀ f, mg "read_some_names" = some (.ref f) → mg "read_pairs" = some (.ref f) → False
  c_BadText : ∃ C, mg "BadText" = some (.ref C)
theorem small4 {n : Nat} (h : n ≤ 1000) : n ≤ sizeLine := Nat.le_trans h (by decide)
end Nz
namespace Nz
open PySem L2
section
variable {P : Program} {w : World} {K : PySem.W.Frag} {mg : Str → Option Value} {base : Heap}
def poolL (q : Addr) (a b c d e : Int) : HO := .lst [.ref q, .int a, .int b, .int c, .int d, .int e]
/-- the pool of draws at p: a list at q of the script's numbers, and five numbers -/
def PoolM (p q : Addr) (ns : List Int) : Fam Int where
  V := fun a => a = p
  K0 := fun B => B q = some (.lst (ns.map V.int))
  J := fun e H => ∃ a b c d, H p = some (poolL q a b c d e) ∧ 0 ≤ a ∧ 0 ≤ c ∧ c < 2147483647
  use := fun e H a ⟨_, _, _, _, h, _⟩ e => by
    subst e
    rw [h]
    exact fun z => nomatch z
  stay := fun e H H' ⟨a, b, c, d, h, r⟩ k => ⟨a, b, c, d, by rw [k p rfl]; exact h, r⟩
  up := fun B C h s => s _ _ h
def Va (te : TE) (σ : St) (H : Hp) (v : V) : Prop := ∀ Q : VK, Q v H → te σ H Q
def At (tt : TT) (σ : St) (H : Hp) (b : Bool) : Prop := ∀ Q : Bool → Hp → Prop, Q b H → tt σ H Q
section
variable {σ : St} {H : Hp} {v x y z : V} {ta tb te : TE} {tc td : TT} {b b' : Bool}
theorem va_var {i : Nat} (h : σ[i]? = some (some v)) : Va (tVar i) σ H v := fun _ q => ⟨v, h, q⟩
theorem va_c : Va (tC v) σ H v := fun _ q => q
theorem va_op {r : R2} (ha : Va ta σ H x) (hb : Va tb σ H y) (hr : ∀ Q : VK, Q z H → r x y H Q) : Va (tOp r ta tb) σ H z := fun Q q => ha _ (hb _ (hr Q q))
theorem va_I {g : Int → Int → V} {i j : Int} (ha : Va ta σ H (.int i)) (hb : Va tb σ H (.int j)) : Va (tOp (rI0 g) ta tb) σ H (g i j) := va_op ha hb fun _ q => ⟨i, j, rfl, rfl, q⟩
theorem va_IC {C : Int → Int → Prop} {g : Int → Int → V} {i j : Int} (ha : Va ta σ H (.int i)) (hb : Va tb σ H (.int j)) (hc : C i j) : Va (tOp (rI C g) ta tb) σ H (g i j) := va_op ha hb fun _ q => ⟨i, j, rfl, rfl, hc, q⟩
theorem va_ix {p : Addr} {xs : List V} {k : Int} (ha : Va ta σ H (.ref p)) (hb : Va tb σ H (.int k)) (h : H p = some (.lst xs)) (hk : atI xs k = some v) : Va (tOp (rIxL K) ta tb) σ H v := va_op ha hb fun _ q => ⟨p, xs, k, v, rfl, rfl, SqL.of h, hk, q⟩
theorem va_len {p : Addr} {xs : List V} (ha : Va ta σ H (.ref p)) (h : H p = some (.lst xs)) : Va (tCB (rLen K) (tCons ta tNil)) σ H (.int xs.length) := fun Q q => ha _ ⟨p, xs, rfl, .inl (SqL.of h), q⟩
theorem va_int {i : Int} (ha : Va ta σ H (.int i)) : Va (tCB rInt (tCons ta tNil)) σ H (.int i) := fun Q q => ha _ (.inl ⟨i, rfl, q⟩)
theorem at_test (h : Va te σ H (.bl b)) : At (tTest te) σ H b := fun Q q => h _ ⟨b, rfl, q⟩
theorem at_and (h1 : At tc σ H b) (h2 : At td σ H b') : At (tAnd tc td) σ H (b && b') := fun Q q => h1 _ (by
  cases b with
  | true => exact h2 Q q
  | false => exact q)
theorem at_ite {t u : TS} {D : Ends} (h : At tc σ H b) (h1 : b = true → t D σ H) (h2 : b = false → u D σ H) : tIfS tc t u D σ H := h _ (by
  cases b with
  | true => exact h1 rfl
  | false => exact h2 rfl)
theorem rq_name {i : Nat} {u : TS} {F : Ends} (h : Va te σ H v) (k : u F (σ.set i (some v)) H) : tSeq (tAsg te (gName i)) u F σ H := h _ k
theorem rq_ite {t u w : TS} {F : Ends} (h : At tc σ H b) (h1 : b = true → tSeq t w F σ H) (h2 : b = false → tSeq u w F σ H) : tSeq (tIfS tc t u) w F σ H := at_ite h h1 h2
theorem r_ret {F : Ends} (h : Va te σ H v) (k : F.rt v H) : tRet te F σ H := h _ k
theorem seq_rest {t u : TS} {F : Ends} (C : St → Hp → Prop) (hu : ∀ σ' H', C σ' H' → u F σ' H') (ht : (∀ σ' H', C σ' H' → u F σ' H') → t { F with nx := u F } σ H) : tSeq t u F σ H := ht hu
theorem va_set {p : Addr} {xs : List V} {i j : Nat} {k : Int} {D : Ends} (hs : σ[i]? = some (some (.ref p))) (h : H p = some (.lst xs)) (hv : Va te σ H v) (hk : ixN xs.length k = some j) (q : D.nx σ (upd H p (.lst (xs.set j v)))) : tAsg te (gSub (tVar i) (tC (.int k)) rSetL) D σ H :=
  hv _ ⟨_, hs, p, xs, k, j, rfl, rfl, h, hk, q⟩
theorem rq_set {p : Addr} {xs : List V} {i j : Nat} {k : Int} {u : TS} {F : Ends} (hs : σ[i]? = some (some (.ref p))) (h : H p = some (.lst xs)) (hv : Va te σ H v) (hk : ixN xs.length k = some j) (q : u F σ (upd H p (.lst (xs.set j v)))) : tSeq (tAsg te (gSub (tVar i) (tC (.int k)) rSetL)) u F σ H :=
  hv _ ⟨_, hs, p, xs, k, j, rfl, rfl, h, hk, q⟩
end
def preDraw (ds : List D) : Prop := ∃ n : Int, ds = [.i n] ∧ 0 < n ∧ n < 1073741824
def relDraw (ds : List D) (d : D) : Prop := ∃ n k : Int, ds = [.i n] ∧ d = .i k ∧ 0 ≤ k ∧ k < n
theorem fk__law_draw (F : Facts K mg w) (p q : Addr) (ns : List Int) (f : Addr) (fd : FuncData) (hf : L2.Fun K "_law_draw" "_law_draw" s__law_draw f fd) : FnOk P w K mg base CX0 1 f fd ["pool", "size"] (spK (PoolM p q ns) (.ref p) preDraw relDraw) := by
  refine hf.ok sc__law_draw (fun vs H Q E h => ?_) (fun cdv A outer s H vs Q E hr h => ⟨_, (pss_cons (ps_if (PW.pt (pw_and (pt_cmpR op_le (pe_ix (Nz.ixL K) (pv 0) pe_int (fun _ _ => rfl)) pe_int (nomark _)) (pw_and (pt_cmpR op_le (pe_ix (Nz.ixL K) (pv 0) pe_int (fun _ _ => rfl)) pe_int (nomark _)) (pw_and1 (pt_cmpR op_lt (pe_ix (Nz.ixL K) (pv 0) pe_int (fun _ _ => rfl)) (pe_callB (Nz.cLen K) rfl F.b_len Nz.boot_len (pa_cons (pe_ix (Nz.ixL K) (pv 0) pe_int (fun _ _ => rfl)) pa_nil)) (nomark _)))))) (pss_cons (ps_set (i := 2) sc__law_draw.nd rfl (Or.inl rfl) (pe_ix (Nz.ixL K) (pe_ix (Nz.ixL K) (pv 0) pe_int (fun _ _ => rfl)) (pe_ix (Nz.ixL K) (pv 0) pe_int (fun _ _ => rfl)) (fun _ _ => rfl)))
    (pss_cons (ps_asg (pe_op op_add (pe_ix (Nz.ixL K) (pv 0) pe_int (fun _ _ => rfl)) pe_int) (pg_sub (pv 0) pe_int set_list (fun _ => rfl)))
    (pss_cons (ps_asg (pe_op op_mod (pe_callTy Nz.c_int rfl F.b_int Nz.boot_int (pa_cons (pe_op op_add (pe_op op_mul (pe_ix (Nz.ixL K) (pv 0) pe_int (fun _ _ => rfl)) pe_int) (pv 2)) pa_nil)) pe_int) (pg_sub (pv 0) pe_int set_list (fun _ => rfl)))
    (pss_cons (ps_asg pe_int (pg_sub (pv 0) pe_int set_list (fun _ => rfl)))
    (pss_one (ps_if (pt_cmpR op_ge (pv 2) (pe_op op_pow pe_int pe_int) (nomark _)) (pss_one (ps_asg (pv 2) (pg_sub (pv 0) pe_int set_list (fun _ => rfl)))) pss_nil)))))) pss_nil)
    (pss_cons (ps_if (pt_cmpR op_gt (pe_ix (Nz.ixL K) (pv 0) pe_int (fun _ _ => rfl)) pe_int (nomark _)) (pss_cons (ps_set (i := 3) sc__law_draw.nd rfl (Or.inl rfl) (pe_op op_mod (pe_callTy Nz.c_int rfl F.b_int Nz.boot_int (pa_cons (pe_ix (Nz.ixL K) (pv 0) pe_int (fun _ _ => rfl)) pa_nil)) (pv 1)))
    (pss_cons (ps_asg (pe_op op_fdiv (pe_ix (Nz.ixL K) (pv 0) pe_int (fun _ _ => rfl)) (pv 1)) (pg_sub (pv 0) pe_int set_list (fun _ => rfl)))
    (pss_cons (ps_asg pe_int (pg_sub (pv 0) pe_int set_list (fun _ => rfl)))
    (pss_one (ps_ret (pv 3)))))) pss_nil)
    (pss_cons (ps_asg (pe_op op_sub (pe_ix (Nz.ixL K) (pv 0) pe_int (fun _ _ => rfl)) pe_int) (pg_sub (pv 0) pe_int set_list (fun _ => rfl)))
    (pss_cons (ps_asg (pe_op op_mod (pe_callTy Nz.c_int rfl F.b_int Nz.boot_int (pa_cons (pe_op op_add (pe_op op_mul (pe_ix (Nz.ixL K) (pv 0) pe_int (fun _ _ => rfl)) pe_int) pe_int) pa_nil)) pe_int) (pg_sub (pv 0) pe_int set_list (fun _ => rfl)))
    (pss_one (ps_ret (pe_op op_mod (pe_op op_mod (pe_callTy Nz.c_int rfl F.b_int Nz.boot_int (pa_cons (pe_op op_add (pe_op op_mul (pe_ix (Nz.ixL K) (pv 0) pe_int (fun _ _ => rfl)) pe_int) pe_int) pa_nil)) pe_int) (pv 1)))))))), ?_⟩)
  · obtain ⟨S, ds, us, _, rfl, _, _, _, _, is, ⟨n, rfl, _⟩, _⟩ := h
    obtain ⟨v, r, rfl, _, rfl⟩ := is
    rfl
  obtain ⟨S, ds, us, e, rfl, dm, hS, ⟨a, b, c, d, hp, ha, hc, hc2⟩, hK, is, ⟨n, rfl, hn, hn2⟩, k⟩ := h
  obtain ⟨v, r, rfl, i1, rfl⟩ := is
  cases i1
  have hq : H q = some (.lst (ns.map V.int)) ∧ q ≠ p := by
    have z := hK (fun b => if b = p then none else H b) (fun a e => if_pos e) (fun a o m e => by
      have m' : ¬ a = p := m
      show (if a = p then none else H a) = some o
      rw [if_neg m']
      exact e)
    have z' : (if q = p then none else H q) = some (.lst (ns.map V.int)) := z
    by_cases c : q = p
    · rw [if_pos c] at z'
      cases z'
    · rw [if_neg c] at z'
      exact ⟨z', c⟩
  have gp : ∀ {H1 : Hp} {o : HO}, Gr (fun a => a = p) H H1 → Gr (fun a => a = p) H (upd H1 p o) := fun g => g.trans (Gr.put rfl)
  have qn : ∀ {H1 : Hp}, Gr (fun a => a = p) H H1 → H1 q = some (.lst (ns.map V.int)) := fun g => g q _ hq.2 hq.1
  refine seq_rest (fun σ' H' => ∃ a b c d x2 x3, σ' = [some (.ref p), some (.int n), x2, x3] ∧ H' p = some (poolL q a b c d e) ∧ 0 ≤ a ∧ 0 ≤ c ∧ c < 2147483647 ∧ Gr (fun a => a = p) H H') ?_ ?_
  · rintro σ' H' ⟨a, b, c, d, x2, x3, rfl, hp, ha, hc, hc2, g⟩
    refine rq_ite (at_test (va_I (va_ix (va_var rfl) va_c hp rfl) va_c)) (fun h => ?_) (fun h => ?_)
    · refine rq_name (va_IC (va_int (va_ix (va_var rfl) va_c hp rfl)) (va_var rfl) hn) ?_
      refine rq_set rfl hp (va_IC (va_ix (va_var rfl) va_c hp rfl) (va_var rfl) ⟨hn, hn2⟩) (j := 2) rfl ?_
      refine rq_set rfl upd_same va_c (j := 4) rfl ?_
      rw [upd_upd]
      refine r_ret (va_var rfl) ?_
      exact k (.i (b % n)) e _ _ ⟨⟨n, _, rfl, rfl, Int.emod_nonneg _ (by omega), Int.emod_lt_of_pos _ hn⟩, rfl⟩ (gp g) ⟨a, _, c, 0, upd_same, ha, hc, hc2⟩ rfl
    · refine rq_set rfl hp (va_I (va_ix (va_var rfl) va_c hp rfl) va_c) (j := 4) rfl ?_
      refine rq_set rfl upd_same (va_IC (va_int (va_I (va_IC (va_ix (va_var rfl) va_c upd_same rfl) va_c (.inl ⟨by omega, by omega⟩)) va_c)) va_c (by decide)) (j := 3) rfl ?_
      rw [upd_upd]
      have m0 : 0 ≤ (c * 48271 + 12345) % 2147483647 := Int.emod_nonneg _ (by decide)
      have m1 : (c * 48271 + 12345) % 2147483647 < 2147483647 := Int.emod_lt_of_pos _ (by decide)
      refine r_ret (va_IC (va_IC (va_int (va_I (va_IC (va_ix (va_var rfl) va_c upd_same rfl) va_c (.inl ⟨by omega, by omega⟩)) va_c)) va_c (by decide)) (va_var rfl) hn) ?_
      exact k (.i _) e _ _ ⟨⟨n, _, rfl, rfl, Int.emod_nonneg _ (by omega), Int.emod_lt_of_pos _ hn⟩, rfl⟩ (gp g) ⟨a, _, _, _, upd_same, ha, m0, m1⟩ rfl
  · intro rest
    have here := rest [some (.ref p), some (.int n), none, none] H ⟨a, b, c, d, none, none, rfl, hp, ha, hc, hc2, Gr.refl _ H⟩
    refine at_ite (at_and (at_test (va_I (va_ix (va_var rfl) va_c hp rfl) va_c)) (at_and (at_test (va_I (va_ix (va_var rfl) va_c hp rfl) va_c)) (at_test (va_I (va_ix (va_var rfl) va_c hp rfl) (va_len (va_ix (va_var rfl) va_c hp rfl) hq.1))))) (fun h => ?_) (fun _ => here)
    rw [Bool.and_eq_true, Bool.and_eq_true] at h
    have hal : a < ((ns.map V.int).length : Nat) := of_decide_eq_true h.2.2
    rw [List.length_map] at hal
    obtain ⟨z, hx⟩ : ∃ z, atI (ns.map V.int) a = some (.int z) := by
      obtain ⟨m, rfl⟩ := Int.eq_ofNat_of_zero_le ha
      have ex : m < ns.length := by omega
      exact ⟨ns[m], atI_nat (by rw [List.getElem?_map, List.getElem?_eq_getElem ex] <;> rfl)⟩
    refine rq_name (va_ix (va_ix (va_var rfl) va_c hp rfl) (va_ix (va_var rfl) va_c hp rfl) hq.1 hx) ?_
    refine rq_set rfl hp (va_I (va_ix (va_var rfl) va_c hp rfl) va_c) (j := 1) rfl ?_
    refine rq_set rfl upd_same (va_IC (va_int (va_I (va_IC (va_ix (va_var rfl) va_c upd_same rfl) va_c (.inl ⟨by omega, by omega⟩)) (va_var rfl))) va_c (by decide)) (j := 3) rfl ?_
    rw [upd_upd]
    refine rq_set rfl upd_same va_c (j := 4) rfl ?_
    rw [upd_upd]
    have m0 : 0 ≤ (c * 31 + z) % 2147483647 := Int.emod_nonneg _ (by decide)
    have m1 : (c * 31 + z) % 2147483647 < 2147483647 := Int.emod_lt_of_pos _ (by decide)
    refine at_ite (at_test (va_I (va_var rfl) (va_IC va_c va_c ⟨by decide, by decide, by decide⟩))) (fun _ => ?_) (fun _ => ?_)
    · refine va_set rfl upd_same (va_var rfl) (j := 2) rfl ?_
      rw [upd_upd]
      exact rest _ _ ⟨a + 1, z, _, 7, some (.int z), none, rfl, upd_same, by omega, m0, m1, gp (Gr.refl _ H)⟩
    · exact rest _ _ ⟨a + 1, b, _, 7, some (.int z), none, rfl, upd_same, by omega, m0, m1, gp (Gr.refl _ H)⟩
theorem k__law_draw (F : Facts K mg w) (p q : Addr) (ns : List Int) : C8.Cal P w K mg base 1 "_law_draw" (spK (PoolM p q ns) (.ref p) preDraw relDraw) [] := F._law_draw.cal fun f fd hf => fk__law_draw F p q ns f fd hf
end
end Nz
namespace Nz
open PySem L2
section
variable {P : Program} {w : World} {K : PySem.W.Frag} {mg : Str → Option Value} {base : Heap}
/-- a call of _law_draw with a written number -/
theorem xd_draw {p q : Addr} {ns : List Int} {es : Es} {i : Nat} {n : Int} {E0 : XK} (hi : es[i]? = some (.r (.ref p))) (h0 : 0 < n) (h1 : n < 1073741824) :
    XD ((PoolM p q ns).at β) (tCall (spK (PoolM p q ns) (.ref p) preDraw relDraw) [] E0 (tCons (tVar i) (tCons (tC (.int n)) tNil))) es (fun z => ∃ k : Int, z = .i k ∧ 0 ≤ k ∧ k < n) :=
  xd_imp (xd_callK hi (xs_eds (ea_cons ed_int ea_nil)) fun xs e => by subst e; exact ⟨n, rfl, h0, h1⟩) fun d ⟨xs, e, n', k, e1, e2, e3, e4⟩ => by
    subst e
    cases e1
    exact ⟨k, e2, e3, e4⟩
theorem xd_drawV {p q : Addr} {ns : List Int} {es : Es} {i : Nat} {n : Int} {te : TE} {E0 : XK} (hi : es[i]? = some (.r (.ref p))) (hn : ED te es (.i n)) (h0 : 0 < n) (h1 : n < 1073741824) :
    XD ((PoolM p q ns).at β) (tCall (spK (PoolM p q ns) (.ref p) preDraw relDraw) [] E0 (tCons (tVar i) (tCons te tNil))) es (fun z => ∃ k : Int, z = .i k ∧ 0 ≤ k ∧ k < n) :=
  xd_imp (xd_callK hi (xs_eds (ea_cons hn ea_nil)) fun xs e => by subst e; exact ⟨n, rfl, h0, h1⟩) fun d ⟨xs, e, n', k, e1, e2, e3, e4⟩ => by
    subst e
    cases e1
    exact ⟨k, e2, e3, e4⟩
def preNil (ds : List D) : Prop := ds = []
theorem k__law_spend (F : Facts K mg w) (p q : Addr) (ns : List Int) : C8.Cal P w K mg base 1 "_law_spend" (spY (PoolM p q ns) (.ref p) (fun _ => preNil) (fun e _ d j => j = e - 1 ∧ d = .b (decide (0 ≤ j)))) [] := by
  refine F._law_spend.cal fun f fd hf => hf.ok sc__law_spend (fun vs H Q E h => ?_) (fun cdv A outer s H vs Q E hr h => ⟨_, (pss_cons (ps_asg (pe_op op_sub (pe_ix (Nz.ixL K) (pv 0) pe_int (fun _ _ => rfl)) pe_int) (pg_sub (pv 0) pe_int set_list (fun _ => rfl)))
    (pss_one (ps_ret (pe_cmpR op_ge (pe_ix (Nz.ixL K) (pv 0) pe_int (fun _ _ => rfl)) pe_int (nomark _))))), ?_⟩)
  · obtain ⟨S, ds, us, _, rfl, _, _, _, _, is, rfl, _⟩ := h
    cases is
    rfl
  obtain ⟨S, ds, us, e, rfl, dm, hS, ⟨a, b, c, d, hp, ha, hc, hc2⟩, hK, is, rfl, k⟩ := h
  cases is
  refine rq_set rfl hp (va_I (va_ix (va_var rfl) va_c hp rfl) va_c) (j := 5) rfl ?_
  refine r_ret (va_I (va_ix (va_var rfl) va_c upd_same rfl) va_c) ?_
  exact k (.b _) (e - 1) _ _ ⟨rfl, rfl⟩ (Gr.put rfl) ⟨a, b, c, d, upd_same, ha, hc, hc2⟩ rfl
def preFew (ds : List D) : Prop := ∃ m : Int, ds = [.i m] ∧ 0 ≤ m ∧ m < 1000
def relFew (ds : List D) (d : D) : Prop := ∃ m k : Int, ds = [.i m] ∧ d = .i k ∧ 0 ≤ k ∧ k ≤ m
theorem k__law_few (F : Facts K mg w) (p q : Addr) (ns : List Int) : C8.Cal P w K mg base 2 "_law_few" (spK (PoolM p q ns) (.ref p) preFew relFew) [] := by
  have c__law_draw := k__law_draw (P := P) (w := w) (base := base) F p q ns
  refine F._law_few.K sc__law_few (fun ds ⟨m, e, _⟩ => by subst e; rfl) (fun f cdv A outer s H E hr => ⟨_, (pss_cons (ps_set (i := 2) sc__law_few.nd rfl (Or.inl rfl) (C8.pe_c c__law_draw hr (by first | decide | omega) rfl (pa_cons (pv 0) (pa_cons pe_int pa_nil))))
    (pss_cons (ps_if (pt_cmpR op_eq (pv 2) pe_int (nomark _)) (pss_one (ps_ret (C8.pe_c c__law_draw hr (by first | decide | omega) rfl (pa_cons (pv 0) (pa_cons (pe_op op_add (pv 1) pe_int) pa_nil))))) pss_nil)
    (pss_one (ps_ret (pe_callB (Nz.c_min2 rfl) rfl F.b_min Nz.boot_min (pa_cons (pv 2) (pa_cons (pv 1) pa_nil))))))), fun {β} ds hP => ?_⟩)
  obtain ⟨m, rfl, h0, h1⟩ := hP
  refine sq_setX (xd_draw rfl (by decide) (by decide)) fun d ⟨k, e, k0, k1⟩ => ?_
  subst e
  refine sq_if (by (repeat' (first
      | with_reducible exact ed_str | with_reducible exact ed_int | with_reducible exact ed_bl | with_reducible exact ed_non
      | exact ed_var rfl | exact ed_var (by assumption) | with_reducible exact ea_nil | with_reducible apply ea_cons
      | with_reducible apply et_test | with_reducible apply et_B | with_reducible apply et_not
      | with_reducible apply ed_tup | with_reducible apply ed_op | with_reducible apply el_lst
      | exact rd_eqSb rfl | exact rd_neSb rfl | exact rd_eqIb rfl | exact rd_neIb rfl
      | exact rd_ixT0 | exact rd_ixT1 | exact rd_ixT2 | exact rd_bool rfl | exact rd_int rfl | exact rd_inTc rfl rfl rfl | exact short_size rfl))) (fun h => ?_) (fun h => ?_)
  · refine sq_retXD (xd_drawV rfl (n := m + 1) (ed_op (ed_var rfl) ed_int (rd_int rfl)) (by omega) (by omega)) fun d ⟨j, e, j0, j1⟩ => ?_
    exact ⟨m, j, rfl, e, j0, by omega⟩
  · refine sd_ret (ed_cb (ea_cons (ed_var rfl) (ea_cons (ed_var rfl) ea_nil)) rc_min2) ?_
    refine ⟨m, _, rfl, rfl, ?_, ?_⟩ <;> split <;> omega
def relNum (ds : List D) (d : D) : Prop := ∃ k : Int, d = .i k ∧ 0 ≤ k ∧ k < 65536
theorem k__law_number (F : Facts K mg w) (p q : Addr) (ns : List Int) : C8.Cal P w K mg base 2 "_law_number" (spK (PoolM p q ns) (.ref p) preNil relNum) [] := by
  have c__law_draw := k__law_draw (P := P) (w := w) (base := base) F p q ns
  refine F._law_number.K sc__law_number (fun ds e => by cases e; rfl) (fun f cdv A outer s H E hr => ⟨_, (pss_cons (ps_if (pt_cmpR op_eq (C8.pe_c c__law_draw hr (by first | decide | omega) rfl (pa_cons (pv 0) (pa_cons pe_int pa_nil))) pe_int (nomark _)) (pss_one (ps_ret (C8.pe_c c__law_draw hr (by first | decide | omega) rfl (pa_cons (pv 0) (pa_cons pe_int pa_nil))))) pss_nil)
    (pss_one (ps_ret (C8.pe_c c__law_draw hr (by first | decide | omega) rfl (pa_cons (pv 0) (pa_cons pe_int pa_nil)))))), fun {β} ds hP => ?_⟩)
  cases hP
  refine sq_ifX (R := fun _ => True) (xt_test (xd_imp (xd_opL (xd_draw rfl (by decide) (by decide)) ed_int (R3 := fun _ z => ∃ b, z = .b b) fun x ⟨k, e, _⟩ => by subst e; exact ⟨_, rd_eqI, _, rfl⟩) fun d ⟨_, _, b, e⟩ => ⟨b, e, trivial⟩)) (fun _ => ?_) (fun _ => ?_)
  · refine sq_retXD (xd_draw rfl (by decide) (by decide)) fun d ⟨k, e, k0, k1⟩ => ⟨k, e, k0, k1⟩
  · refine sq_next (sd_retXD (xd_draw rfl (by decide) (by decide)) fun d ⟨k, e, k0, k1⟩ => ⟨k, e, k0, by omega⟩)
end
end Nz
namespace Nz
open PySem L2
abbrev keyWords : List Str := ["fun", "call", "let", "in", "make", "case", "of", "end", "ifzero", "tick", "waste", "hole"]
abbrev kwD : List D := [.s "fun", .s "call", .s "let", .s "in", .s "make", .s "case", .s "of", .s "end", .s "ifzero", .s "tick", .s "waste", .s "hole"]
theorem kwD_eq : kwD = keyWords.map D.s := rfl
def Low (l : List Nat) : Prop := ∀ c ∈ l, 97 ≤ c ∧ c ≤ 122
def Upp (l : List Nat) : Prop := ∀ c ∈ l, 65 ≤ c ∧ c ≤ 90
/-- a name: 1 to 6 letters, no key word -/
def NameOk (x : Str) : Prop := ∃ l : List Nat, x = ⟨l.toArray⟩ ∧ Low l ∧ 1 ≤ l.length ∧ l.length ≤ 6 ∧ x ∉ keyWords
def ConOk (x : Str) : Prop := ∃ l : List Nat, x = ⟨l.toArray⟩ ∧ Upp l ∧ 1 ≤ l.length ∧ l.length ≤ 6
section
variable {K : PySem.W.Frag} {W : Wd} {es : Es} {tb : TE} {x : D} {ds : List D}
theorem rd_inTb (fx : flD x = true) (fs : ds.all flD = true) : RD (rIn K false) x (.t ds) (.b (inD x ds)) := rd_inT fx fs
theorem rd_ninTb (fx : flD x = true) (fs : ds.all flD = true) : RD (rIn K true) x (.t ds) (.b (!inD x ds)) := rd_inT fx fs
theorem rd_inLb (fx : flD x = true) (fs : ds.all flD = true) : RD (rIn K false) x (.l ds) (.b (inD x ds)) := rd_inL fx fs
theorem rd_ninLb (fx : flD x = true) (fs : ds.all flD = true) : RD (rIn K true) x (.l ds) (.b (!inD x ds)) := rd_inL fx fs
theorem xd_sign {z : Str} {n : Int} (hn : n = (z.cps.toList.length : Nat)) (hz : z.length ≤ sizeLine) (h : XD W tb es (fun d => ∃ k : Int, d = .i k ∧ 0 ≤ k ∧ k < n)) : XD W (tOp rIxS (tC (.str z)) tb) es (fun d => ∃ c : Nat, d = .s ⟨#[c]⟩ ∧ c ∈ z.cps.toList) :=
  xd_imp (xd_opR (R3 := fun _ d => ∃ c : Nat, d = .s ⟨#[c]⟩ ∧ c ∈ z.cps.toList) ed_str h fun y ⟨k, e, k0, k1⟩ => by
    subst e
    obtain ⟨m, rfl⟩ := Int.eq_ofNat_of_zero_le k0
    have hm : m < z.cps.toList.length := by omega
    exact ⟨.s ⟨#[z.cps.toList[m]]⟩, rd_ixS hz (atI_nat (List.getElem?_eq_getElem hm)), _, rfl, List.getElem_mem hm⟩) fun d ⟨_, _, r⟩ => r
theorem app_sign (l : List Nat) (c : Nat) : (⟨l.toArray⟩ : Str) ++ ⟨#[c]⟩ = ⟨(l ++ [c]).toArray⟩ := SX.S_cat l [c]
theorem len_sign (l : List Nat) : (⟨l.toArray⟩ : Str).length = l.length := SX.S_len l
theorem all_low {z : Str} (h : (z.cps.toList.all fun c => decide (97 ≤ c) && decide (c ≤ 122)) = true) {c : Nat} (m : c ∈ z.cps.toList) : 97 ≤ c ∧ c ≤ 122 := by
  have := List.all_eq_true.mp h c m
  rw [Bool.and_eq_true] at this
  exact ⟨of_decide_eq_true this.1, of_decide_eq_true this.2⟩
theorem all_upp {z : Str} (h : (z.cps.toList.all fun c => decide (65 ≤ c) && decide (c ≤ 90)) = true) {c : Nat} (m : c ∈ z.cps.toList) : 65 ≤ c ∧ c ≤ 90 := by
  have := List.all_eq_true.mp h c m
  rw [Bool.and_eq_true] at this
  exact ⟨of_decide_eq_true this.1, of_decide_eq_true this.2⟩
/-- a single letter of abcdxyz is a name -/
theorem name_one {c : Nat} (h : 97 ≤ c ∧ c ≤ 122) : NameOk ⟨#[c]⟩ := by
  refine ⟨[c], rfl, fun d m => ?_, Nat.le_refl _, (by show 1 ≤ 6; decide), fun m => ?_⟩
  · cases List.mem_singleton.mp m
    exact h
  · have e : ∀ y ∈ keyWords, y.cps.size ≠ 1 := by decide
    exact e _ m rfl
end
section
variable {P : Program} {w : World} {K : PySem.W.Frag} {mg : Str → Option Value} {base : Heap}
def relName (ds : List D) (d : D) : Prop := ∃ x, d = .s x ∧ NameOk x
/-- range(1 + a draw) -/
theorem xsrc_draw1 {p q : Addr} {ns : List Int} {es : Es} {n : Int} {tc : TE} (h : XD ((PoolM p q ns).at β) tc es (fun z => ∃ k : Int, z = .i k ∧ 0 ≤ k ∧ k < n)) (hn : n < 1000) :
    XSrc ((PoolM p q ns).at β) (iRng1 (tCons (tOp (rI0 fun i j => .int (i + j)) (tC (.int 1)) tc) tNil)) es (fun z => ∃ m : Nat, z = rngD m ∧ 1 ≤ m ∧ (m : Int) ≤ n) :=
  xsrc_rng (R := fun m => 1 ≤ m ∧ (m : Int) ≤ n) (xds_imp (xs_one (R := fun z => ∃ m : Nat, z = .i (m : Int) ∧ 1 ≤ m ∧ (m : Int) ≤ n) (xd_imp (xd_opR (R3 := fun _ z => ∃ m : Nat, z = .i (m : Int) ∧ 1 ≤ m ∧ (m : Int) ≤ n) ed_int h fun y ⟨k, e, k0, k1⟩ => by
    subst e
    obtain ⟨m, rfl⟩ := Int.eq_ofNat_of_zero_le k0
    exact ⟨.i ((m + 1 : Nat) : Int), rd_int (congrArg V.int (by omega)), m + 1, rfl, by omega, by omega⟩) fun d ⟨_, _, r⟩ => r)) fun ds ⟨d, e, m, e2, r⟩ => ⟨m, by rw [e, e2], r⟩) fun m r => by omega
theorem k__law_name (F : Facts K mg w) (p q : Addr) (ns : List Int) : C8.Cal P w K mg base 2 "_law_name" (spK (PoolM p q ns) (.ref p) preNil relName) [] := by
  have c__law_draw := k__law_draw (P := P) (w := w) (base := base) F p q ns
  refine F._law_name.K sc__law_name (fun ds e => by cases e; rfl) (fun f cdv A outer s H E hr => ⟨_, (pss_cons (ps_if (pt_cmpR op_gt (C8.pe_c c__law_draw hr (by first | decide | omega) rfl (pa_cons (pv 0) (pa_cons pe_int pa_nil))) pe_int (nomark _)) (pss_one (ps_ret (pe_ix ix_str pe_str (C8.pe_c c__law_draw hr (by first | decide | omega) rfl (pa_cons (pv 0) (pa_cons pe_int pa_nil))) (fun _ _ => rfl)))) pss_nil)
    (pss_cons (ps_set (i := 1) sc__law_name.nd rfl (Or.inl rfl) pe_str)
    (pss_cons (ps_for PassesOwn.never rfl (pi_range1 rfl F.b_range (pa_cons (pe_op op_add pe_int (C8.pe_c c__law_draw hr (by first | decide | omega) rfl (pa_cons (pv 0) (pa_cons pe_int pa_nil)))) pa_nil)) (pg_name (i := 2) sc__law_name.nd rfl (Or.inl rfl)) (pss_one (ps_set (i := 1) sc__law_name.nd rfl (Or.inl rfl) (pe_op Nz.op_addS (pv 1) (pe_ix ix_str pe_str (C8.pe_c c__law_draw hr (by first | decide | omega) rfl (pa_cons (pv 0) (pa_cons pe_int pa_nil))) (fun _ _ => rfl))))))
    (pss_cons (ps_if (pt_cmpR (Nz.inQ K) (pv 1) (pe_tup (pa_cons pe_str (pa_cons pe_str (pa_cons pe_str (pa_cons pe_str (pa_cons pe_str (pa_cons pe_str (pa_cons pe_str (pa_cons pe_str (pa_cons pe_str (pa_cons pe_str (pa_cons pe_str (pa_cons pe_str pa_nil))))))))))))) rfl) (pss_one (ps_ret pe_str)) pss_nil)
    (pss_one (ps_ret (pv 1))))))), fun {β} ds hP => ?_⟩)
  cases hP
  refine sq_ifX (R := fun _ => True) (xt_test (xd_imp (xd_opL (xd_draw rfl (by decide) (by decide)) ed_int (R3 := fun _ z => ∃ b, z = .b b) fun x ⟨k, e, _⟩ => by subst e; exact ⟨_, rd_bool rfl, _, rfl⟩) fun d ⟨_, _, b, e⟩ => ⟨b, e, trivial⟩)) (fun _ => ?_) (fun _ => ?_)
  · refine sq_retXD (xd_sign (n := 7) rfl (by decide) (xd_draw rfl (by decide) (by decide))) fun d ⟨c, e, m⟩ => ⟨_, e, name_one (all_low (by decide) m)⟩
  refine sq_next (sq_set ed_str ?_)
  refine sd_seq (fun e => ∃ l κ, e = [.r (.ref p), .d (.s ⟨List.toArray l⟩), κ] ∧ Low l ∧ 1 ≤ l.length ∧ l.length ≤ 6) ?_ ?_
  · refine sd_forX (xsrc_draw1 (xd_draw rfl (n := 6) (by decide) (by decide)) (by decide)) (fun ds i e => ∃ l κ, e = [.r (.ref p), .d (.s ⟨List.toArray l⟩), κ] ∧ Low l ∧ l.length = i) (fun ds _ => ⟨[], _, rfl, (fun c m => by cases m), rfl⟩) (fun ds i d e r hd he => ?_) (fun ds e ⟨m, hm, m1, m6⟩ he => ?_)
    · obtain ⟨l, κ, rfl, hl, hi⟩ := he
      obtain ⟨m, rfl, m1, m6⟩ := r
      have hi6 : i < 6 := by
        have := (List.getElem?_eq_some_iff.mp hd).1
        have e : (rngD m).length = m := by simp [rngD]
        omega
      refine ⟨_, gd_name, sd_setX (xd_opR (R3 := fun _ d => ∃ c : Nat, d = .s ⟨(l ++ [c]).toArray⟩ ∧ 97 ≤ c ∧ c ≤ 122) (ed_var rfl) (xd_sign (n := 26) rfl (by decide) (xd_draw rfl (by decide) (by decide))) fun y ⟨c, e, mc⟩ => ?_) fun d ⟨_, _, c, e, hc⟩ => ?_⟩
      · subst e
        refine ⟨_, rd_addS (by rw [len_sign]; show l.length + 1 ≤ _; exact small4 (by omega)), c, ?_, all_low (by decide) mc⟩
        rw [app_sign]
      · subst e
        refine ⟨l ++ [c], _, rfl, fun b m => ?_, by rw [List.length_append, hi]; rfl⟩
        rcases List.mem_append.mp m with m | m
        · exact hl b m
        · cases List.mem_singleton.mp m
          exact hc
    · obtain ⟨l, κ, rfl, hl, hi⟩ := he
      subst hm
      have e : (rngD m).length = m := by simp [rngD]
      rw [e] at hi
      exact ⟨l, κ, rfl, hl, by omega, by omega⟩
  · rintro e ⟨l, κ, rfl, hl, h1, h6⟩
    refine sq_if (b := inD (.s ⟨l.toArray⟩) kwD) (et_test (ed_op (ed_var rfl) (show ED _ _ (.t kwD) by (repeat' (first
      | with_reducible exact ed_str | with_reducible exact ed_int | with_reducible exact ed_bl | with_reducible exact ed_non
      | exact ed_var rfl | exact ed_var (by assumption) | with_reducible exact ea_nil | with_reducible apply ea_cons
      | with_reducible apply et_test | with_reducible apply et_B | with_reducible apply et_not
      | with_reducible apply ed_tup | with_reducible apply ed_op | with_reducible apply el_lst
      | exact rd_eqSb rfl | exact rd_neSb rfl | exact rd_eqIb rfl | exact rd_neIb rfl
      | exact rd_ixT0 | exact rd_ixT1 | exact rd_ixT2 | exact rd_bool rfl | exact rd_int rfl | exact rd_inTc rfl rfl rfl | exact short_size rfl))) (rd_inTb rfl rfl))) (fun h => ?_) (fun h => ?_)
    · exact sq_ret ed_str ⟨_, rfl, name_one (by decide)⟩
    · refine sd_ret (ed_var rfl) ⟨_, rfl, l, rfl, hl, h1, h6, fun m => ?_⟩
      rw [kwD_eq, inD_strs] at h
      exact of_decide_eq_false h m
def relCon (ds : List D) (d : D) : Prop := ∃ x, d = .s x ∧ ConOk x
theorem k__law_made (F : Facts K mg w) (p q : Addr) (ns : List Int) : C8.Cal P w K mg base 3 "_law_made" (spK (PoolM p q ns) (.ref p) preNil relCon) [] := by
  have c__law_draw := k__law_draw (P := P) (w := w) (base := base) F p q ns
  have c__law_few := k__law_few (P := P) (w := w) (base := base) F p q ns
  refine F._law_made.K sc__law_made (fun ds e => by cases e; rfl) (fun f cdv A outer s H E hr => ⟨_, (pss_cons (ps_set (i := 1) sc__law_made.nd rfl (Or.inl rfl) pe_str)
    (pss_cons (ps_for PassesOwn.never rfl (pi_range1 rfl F.b_range (pa_cons (pe_op op_add pe_int (C8.pe_c c__law_few hr (by first | decide | omega) rfl (pa_cons (pv 0) (pa_cons pe_int pa_nil)))) pa_nil)) (pg_name (i := 2) sc__law_made.nd rfl (Or.inl rfl)) (pss_one (ps_set (i := 1) sc__law_made.nd rfl (Or.inl rfl) (pe_op Nz.op_addS (pv 1) (pe_ix ix_str pe_str (C8.pe_c c__law_draw hr (by first | decide | omega) rfl (pa_cons (pv 0) (pa_cons pe_int pa_nil))) (fun _ _ => rfl))))))
    (pss_one (ps_ret (pv 1))))), fun {β} ds hP => ?_⟩)
  cases hP
  refine sq_set ed_str ?_
  have few : XD ((PoolM p q ns).at β) (tCall (spK (PoolM p q ns) (.ref p) preFew relFew) [] E0 (tCons (tVar 0) (tCons (tC (.int 5)) tNil))) [.r (.ref p), .d (.s ⟨#[]⟩), .no] (fun z => ∃ k : Int, z = .i k ∧ 0 ≤ k ∧ k < 6) :=
    xd_imp (xd_callK rfl (xs_eds (ea_cons ed_int ea_nil)) fun xs e => by subst e; exact ⟨5, rfl, by decide, by decide⟩) fun d ⟨xs, e, n', k, e1, e2, e3, e4⟩ => by
      subst e
      cases e1
      exact ⟨k, e2, e3, by omega⟩
  refine sd_seq (fun e => ∃ l κ, e = [.r (.ref p), .d (.s ⟨List.toArray l⟩), κ] ∧ Upp l ∧ 1 ≤ l.length ∧ l.length ≤ 6) ?_ ?_
  · refine sd_forX (xsrc_draw1 few (by decide)) (fun ds i e => ∃ l κ, e = [.r (.ref p), .d (.s ⟨List.toArray l⟩), κ] ∧ Upp l ∧ l.length = i) (fun ds _ => ⟨[], _, rfl, (fun c m => by cases m), rfl⟩) (fun ds i d e r hd he => ?_) (fun ds e ⟨m, hm, m1, m6⟩ he => ?_)
    · obtain ⟨l, κ, rfl, hl, hi⟩ := he
      obtain ⟨m, rfl, m1, m6⟩ := r
      have hi6 : i < 6 := by
        have := (List.getElem?_eq_some_iff.mp hd).1
        have e : (rngD m).length = m := by simp [rngD]
        omega
      refine ⟨_, gd_name, sd_setX (xd_opR (R3 := fun _ d => ∃ c : Nat, d = .s ⟨(l ++ [c]).toArray⟩ ∧ 65 ≤ c ∧ c ≤ 90) (ed_var rfl) (xd_sign (n := 26) rfl (by decide) (xd_draw rfl (by decide) (by decide))) fun y ⟨c, e, mc⟩ => ?_) fun d ⟨_, _, c, e, hc⟩ => ?_⟩
      · subst e
        refine ⟨_, rd_addS (by rw [len_sign]; show l.length + 1 ≤ _; exact small4 (by omega)), c, ?_, all_upp (by decide) mc⟩
        rw [app_sign]
      · subst e
        refine ⟨l ++ [c], _, rfl, fun b m => ?_, by rw [List.length_append, hi]; rfl⟩
        rcases List.mem_append.mp m with m | m
        · exact hl b m
        · cases List.mem_singleton.mp m
          exact hc
    · obtain ⟨l, κ, rfl, hl, hi⟩ := he
      subst hm
      have e : (rngD m).length = m := by simp [rngD]
      rw [e] at hi
      exact ⟨l, κ, rfl, hl, by omega, by omega⟩
  · rintro e ⟨l, κ, rfl, hl, h1, h6⟩
    exact sd_ret (ed_var rfl) ⟨_, rfl, l, rfl, hl, h1, h6⟩
end
end Nz
namespace Nz
open PySem L2
theorem nodup_sub {α : Type} [DecidableEq α] : ∀ {l xs : List α}, l.Nodup → (∀ x ∈ l, x ∈ xs) → l.length ≤ xs.length
  | [], _, _, _ => Nat.zero_le _
  | a :: l, xs, n, h => by
    have ha := h a (List.mem_cons_self ..)
    have n' := List.nodup_cons.mp n
    have ih := nodup_sub (l := l) (xs := xs.erase a) n'.2 fun x hx => (List.mem_erase_of_ne (fun z => n'.1 (by rw [← z]; exact hx))).mpr (h x (List.mem_cons_of_mem _ hx))
    rw [List.length_erase_of_mem ha] at ih
    have : 0 < xs.length := List.length_pos_of_mem ha
    show l.length + 1 ≤ _
    omega
section
variable {P : Program} {w : World} {K : PySem.W.Frag} {mg : Str → Option Value} {base : Heap}
abbrev others : List Str := ["mm", "nn", "oo", "pp", "qq"]
def preUn (ds : List D) : Prop := ∃ c : Nat, ds = [.i (c : Int)] ∧ c ≤ 4
def relUn (ds : List D) (d : D) : Prop := ∃ (c : Nat) (xs : List Str), ds = [.i (c : Int)] ∧ d = .l (xs.map D.s) ∧ xs.length = c ∧ (∀ x ∈ xs, NameOk x) ∧ xs.Nodup
theorem other_ok : ∀ o ∈ others, NameOk o := by
  intro o h
  have e : ∀ o ∈ others, ∃ c, o = ⟨#[c, c]⟩ ∧ 97 ≤ c ∧ c ≤ 122 := by
    intro o h
    simp only [List.mem_cons, List.not_mem_nil, or_false] at h
    rcases h with rfl | rfl | rfl | rfl | rfl
    · exact ⟨109, rfl, by decide, by decide⟩
    · exact ⟨110, rfl, by decide, by decide⟩
    · exact ⟨111, rfl, by decide, by decide⟩
    · exact ⟨112, rfl, by decide, by decide⟩
    · exact ⟨113, rfl, by decide, by decide⟩
  have nk : ∀ o ∈ others, o ∉ keyWords := by decide
  obtain ⟨c, rfl, hc⟩ := e o h
  refine ⟨[c, c], rfl, fun b m => ?_, (by show 1 ≤ 2; decide), (by show 2 ≤ 6; decide), nk _ h⟩
  rcases List.mem_cons.mp m with rfl | m
  · exact hc
  · cases List.mem_singleton.mp m
    exact hc
theorem k__law_unlike (F : Facts K mg w) (p q : Addr) (ns : List Int) : C8.Cal P w K mg base 3 "_law_unlike" (spK (PoolM p q ns) (.ref p) preUn relUn) [] := by
  have c__law_name := k__law_name (P := P) (w := w) (base := base) F p q ns
  refine F._law_unlike.K sc__law_unlike (fun ds ⟨c, e, _⟩ => by subst e; rfl) (fun f cdv A outer s H E hr => ⟨_, (pss_cons (ps_set (i := 2) sc__law_unlike.nd rfl (Or.inl rfl) (pe_lst pa_nil))
    (pss_cons (ps_for PassesOwn.never rfl (pi_range1 rfl F.b_range (pa_cons (pv 1) pa_nil)) (pg_name (i := 3) sc__law_unlike.nd rfl (Or.inl rfl)) (pss_cons (ps_set (i := 4) sc__law_unlike.nd rfl (Or.inl rfl) (C8.pe_c c__law_name hr (by first | decide | omega) rfl (pa_cons (pv 0) pa_nil)))
    (pss_cons (ps_for PassesOwn.never rfl (Nz.piT K (pe_tup (pa_cons pe_str (pa_cons pe_str (pa_cons pe_str (pa_cons pe_str (pa_cons pe_str pa_nil))))))) (pg_name (i := 5) sc__law_unlike.nd rfl (Or.inl rfl)) (pss_one (ps_if (pt_cmpR (Nz.inQ K) (pv 4) (pv 2) rfl) (pss_one (ps_set (i := 4) sc__law_unlike.nd rfl (Or.inl rfl) (pv 5))) pss_nil)))
    (pss_one (ps_expr (pe_bm PySem.F.plainAttrs_list PySem.F.slot_list_append PySem.F.type_list_append mt_append (pv 2) (pa_cons (pv 4) pa_nil)))))))
    (pss_one (ps_ret (pv 2))))), fun {β} ds hP => ?_⟩)
  obtain ⟨c, rfl, h4⟩ := hP
  refine sq_setO (el_lst ea_nil (Nat.zero_le _)) ?_
  refine sd_seq (fun e => ∃ xs κ τ μ, e = [.r (.ref p), .d (.i (c : Int)), .o (.l (List.map D.s xs)), κ, τ, μ] ∧ xs.length = c ∧ (∀ x ∈ xs, NameOk x) ∧ xs.Nodup) ?_ ?_
  · refine sd_for (src_rng (ea_cons (ed_var rfl) ea_nil) (by omega)) (fun i e => ∃ xs κ τ μ, e = [.r (.ref p), .d (.i (c : Int)), .o (.l (List.map D.s xs)), κ, τ, μ] ∧ xs.length = i ∧ (∀ x ∈ xs, NameOk x) ∧ xs.Nodup)
      ⟨[], _, _, _, rfl, rfl, (fun x m => by cases m), List.nodup_nil⟩ (fun i d e hd he => ?_) (fun e he => ?_)
    · obtain ⟨xs, κ, τ, μ, rfl, hi, hn, nd⟩ := he
      have hic : i < c := by
        have := (List.getElem?_eq_some_iff.mp hd).1
        simpa [rngD] using this
      refine ⟨_, gd_name, ?_⟩
      refine sq_setX (R := fun z => ∃ x, z = .s x ∧ NameOk x) (xd_imp (xd_callK rfl (xs_eds ea_nil) fun xs e => e) fun d ⟨_, _, r⟩ => r) fun d' ⟨x, e, hx⟩ => ?_
      subst e
      refine sd_seq (fun e => ∃ y μ, e = [.r (.ref p), .d (.i (c : Int)), .o (.l (List.map D.s xs)), .d d, .d (.s y), μ] ∧ NameOk y ∧ y ∉ xs) ?_ ?_
      · refine sd_for (src_tup (show ED _ _ (.t (others.map D.s)) from (by (repeat' (first
      | with_reducible exact ed_str | with_reducible exact ed_int | with_reducible exact ed_bl | with_reducible exact ed_non
      | exact ed_var rfl | exact ed_var (by assumption) | with_reducible exact ea_nil | with_reducible apply ea_cons
      | with_reducible apply et_test | with_reducible apply et_B | with_reducible apply et_not
      | with_reducible apply ed_tup | with_reducible apply ed_op | with_reducible apply el_lst
      | exact rd_eqSb rfl | exact rd_neSb rfl | exact rd_eqIb rfl | exact rd_neIb rfl
      | exact rd_ixT0 | exact rd_ixT1 | exact rd_ixT2 | exact rd_bool rfl | exact rd_int rfl | exact rd_inTc rfl rfl rfl | exact short_size rfl)) : ED _ _ (.t [.s "mm", .s "nn", .s "oo", .s "pp", .s "qq"])))) (fun j e => ∃ y μ, e = [.r (.ref p), .d (.i (c : Int)), .o (.l (List.map D.s xs)), .d d, .d (.s y), μ] ∧ NameOk y ∧ (y ∈ xs → ∀ o ∈ others.take j, o ∈ xs))
          ⟨x, _, rfl, hx, fun _ o m => by cases m⟩ (fun j d2 e hd2 he => ?_) (fun e he => ?_)
        · obtain ⟨y, μ, rfl, hy, hs⟩ := he
          rw [List.getElem?_map] at hd2
          cases ho : others[j]? with
          | none =>
            rw [ho] at hd2
            cases hd2
          | some o =>
            rw [ho] at hd2
            cases hd2
            have om := List.mem_of_getElem? ho
            have tk : others.take (j + 1) = others.take j ++ [o] := by rw [List.take_succ, ho]; rfl
            refine ⟨_, gd_name, ?_⟩
            refine sd_if (b := inD (.s y) (xs.map D.s)) (et_test (ed_opx (ED.toX (ed_var rfl)) (ex_own rfl) (rd_inLb rfl (flD_strs xs)) rfl)) (fun h => ?_) (fun h => ?_)
            · rw [inD_strs] at h
              have ym := of_decide_eq_true h
              refine sd_set (ed_var rfl) ⟨o, _, rfl, other_ok o om, fun z b m => ?_⟩
              rw [tk] at m
              rcases List.mem_append.mp m with m | m
              · exact hs ym b m
              · cases List.mem_singleton.mp m
                exact z
            · rw [inD_strs] at h
              exact sd_next ⟨y, _, rfl, hy, fun z => absurd z (of_decide_eq_false h)⟩
        · obtain ⟨y, μ, rfl, hy, hs⟩ := he
          refine ⟨y, μ, rfl, hy, fun m => ?_⟩
          have := nodup_sub (l := others) (xs := xs) (by decide) (fun o ho => hs m o (by rw [List.take_of_length_le (by rw [List.length_map]; exact Nat.le_refl _)]; exact ho))
          have e5 : others.length = 5 := rfl
          omega
      · rintro e ⟨y, μ, rfl, hy, ny⟩
        refine sd_app rfl (ed_var rfl) (by rw [List.length_map]; exact Nat.lt_of_lt_of_le (by omega) (small4 (n := 10) (by decide))) ?_
        refine ⟨xs ++ [y], _, _, _, by rw [List.map_append]; rfl, by rw [List.length_append, hi]; rfl, fun z m => ?_, ?_⟩
        · rcases List.mem_append.mp m with m | m
          · exact hn z m
          · cases List.mem_singleton.mp m
            exact hy
        · exact List.nodup_append.mpr ⟨nd, List.nodup_cons.mpr ⟨List.not_mem_nil, List.nodup_nil⟩, fun a ha b hb => by
            cases List.mem_singleton.mp hb
            exact fun z => ny (by rw [← z]; exact ha)⟩
    · obtain ⟨xs, κ, τ, μ, rfl, hi, hn, nd⟩ := he
      exact ⟨xs, κ, τ, μ, rfl, by rw [hi]; simp [rngD], hn, nd⟩
  · rintro e ⟨xs, κ, τ, μ, rfl, hi, hn, nd⟩
    exact sd_retO rfl ⟨c, xs, rfl, rfl, hi, hn, nd⟩
end
end Nz
namespace Nz
open PySem L2
/-- heads whose names and constructors are such -/
def okN : Hd → Prop
  | .var x => NameOk x
  | .num n => 0 ≤ n ∧ n < 65536
  | .mk c xs => ConOk c ∧ ∀ x ∈ xs, NameOk x
  | .hole => True
  | .fn x => NameOk x
  | .call x => NameOk x
  | .lets xs => (∀ x ∈ xs, NameOk x) ∧ xs.Nodup ∧ 1 ≤ xs.length
  | .case rs => (∀ r ∈ rs, ConOk r.1 ∧ (∀ x ∈ r.2, NameOk x) ∧ r.2.Nodup) ∧ (rs.map (·.1)).Nodup ∧ 1 ≤ rs.length
  | .op _ => True
mutual
def Wn : Tm → Prop
  | .nd h ks => okN h ∧ Wns ks
def Wns : List Tm → Prop
  | [] => True
  | k :: r => Wn k ∧ Wns r
end
mutual
def dep : Tm → Nat
  | .nd _ ks => deps ks + 1
def deps : List Tm → Nat
  | [] => 0
  | k :: r => max (dep k) (deps r)
end
theorem wns_all : ∀ {ks : List Tm}, Wns ks ↔ ∀ k ∈ ks, Wn k
  | [] => ⟨fun _ => (fun x hx => nomatch hx), fun _ => trivial⟩
  | k :: r => by
    have ih := wns_all (ks := r)
    refine ⟨fun h x hx => ?_, fun h => ⟨h k (List.mem_cons_self ..), ih.mpr fun x hx => h x (List.mem_cons_of_mem _ hx)⟩⟩
    rcases List.mem_cons.mp hx with rfl | hx
    · exact h.1
    · exact ih.mp h.2 x hx
theorem deps_le {n : Nat} : ∀ {ks : List Tm}, deps ks ≤ n ↔ ∀ k ∈ ks, dep k ≤ n
  | [] => ⟨fun _ => (fun x hx => nomatch hx), fun _ => Nat.zero_le _⟩
  | k :: r => by
    have ih := deps_le (n := n) (ks := r)
    refine ⟨fun h x hx => ?_, fun h => Nat.max_le.mpr ⟨h k (List.mem_cons_self ..), ih.mpr fun x hx => h x (List.mem_cons_of_mem _ hx)⟩⟩
    have h' := Nat.max_le.mp h
    rcases List.mem_cons.mp hx with rfl | hx
    · exact h'.1
    · exact ih.mp h'.2 x hx
mutual
/-- nodes with parts -/
def inn : Tm → Nat
  | .nd _ ks => inns ks + min 1 ks.length
def inns : List Tm → Nat
  | [] => 0
  | k :: r => inn k + inns r
end
theorem inns_app : ∀ {a b : List Tm}, inns (a ++ b) = inns a + inns b
  | [], b => by
    show inns b = 0 + inns b
    omega
  | k :: r, b => by
    show inn k + inns (r ++ b) = inn k + inns r + inns b
    rw [inns_app]
    omega
theorem inn_nd {h : Hd} {k : Tm} {r : List Tm} : inn (.nd h (k :: r)) = inns (k :: r) + 1 := by
  show inns (k :: r) + min 1 (r.length + 1) = _
  omega
section
variable {ι : Type} {M : Fam ι} {i : ι} {es : Es} {te : TE} {tr : TA}
theorem ys_ced {d : D} {R2 : List D → ι → Prop} (h : ED te es d) (k : YDs M i tr es R2) : YDs M i (tCons te tr) es (fun z j => ∃ ds, z = d :: ds ∧ R2 ds j) :=
  yds_imp (ys_cons (R2 := fun _ _ => R2) (yd_ed h) fun d j ⟨_, e⟩ => by subst e; exact k) fun z j ⟨d', ds, j', e, ⟨e2, _⟩, r⟩ => ⟨ds, by rw [e, e2], r⟩
theorem ys_cxd {R : D → Prop} {R2 : List D → ι → Prop} (h : XD (M.at i) te es R) (k : YDs M i tr es R2) : YDs M i (tCons te tr) es (fun z j => ∃ d ds, z = d :: ds ∧ R d ∧ R2 ds j) :=
  yds_imp (ys_cons (R2 := fun _ _ => R2) (yd_xd h) fun d j ⟨_, e⟩ => by subst e; exact k) fun z j ⟨d', ds, j', e, ⟨r1, _⟩, r⟩ => ⟨d', ds, e, r1, r⟩
theorem ys_cy {R : D → ι → Prop} {R2 : ι → List D → ι → Prop} (h : YD M i te es R) (k : ∀ j, YDs M j tr es (R2 j)) : YDs M i (tCons te tr) es (fun z j' => ∃ d ds j, z = d :: ds ∧ R d j ∧ R2 j ds j') :=
  yds_imp (ys_cons (R2 := fun _ j => R2 j) h fun d j _ => k j) fun z j ⟨d', ds, j', e, r1, r⟩ => ⟨d', ds, j', e, r1, r⟩
theorem ys_1x {R : D → Prop} (h : XD (M.at i) te es R) : YDs M i (tCons te tNil) es (fun z j => ∃ d, z = [d] ∧ R d ∧ j = i) := yds_imp (ys_one (yd_xd h)) fun z j ⟨d, e, r, ej⟩ => ⟨d, e, r, ej⟩
end
section
variable {P : Program} {w : World} {K : PySem.W.Frag} {mg : Str → Option Value} {base : Heap}
/-- a term as it is drawn -/
def Good (n : Nat) (t : Tm) : Prop := Wf t ∧ Wn t ∧ dep t ≤ n
def preAny (n : Nat) (_ : Int) (ds : List D) : Prop := ∃ k : Int, ds = [.i k] ∧ k ≤ (n : Int)
def relAny (β : Int) (ds : List D) (d : D) (β' : Int) : Prop := ∃ (k : Int) (t : Tm), ds = [.i k] ∧ d = enc t ∧ Good (max k.toNat 1) t ∧ inn t + β'.toNat ≤ β.toNat
abbrev preAny' (n : Nat) (_ : Int) (ds : List D) : Prop := ∃ k : Int, ds = [.i k] ∧ 1 ≤ k ∧ k < (n : Int)
theorem yd_sub {p q : Addr} {ns : List Int} {es : Es} {n : Nat} {k β : Int} {E0 : XK} (hi : es[0]? = some (.r (.ref p))) (h1 : es[1]? = some (.d (.i k))) (h2 : 2 ≤ k) (hk : k ≤ (n : Int)) :
    YD (PoolM p q ns) β (tCall (spY (PoolM p q ns) (.ref p) (preAny' n) relAny) [] E0 (tCons (tVar 0) (tCons (tOp (rI0 fun i j => .int (i - j)) (tVar 1) (tC (.int 1))) tNil))) es (fun z j => ∃ t, z = enc t ∧ Good (k.toNat - 1) t ∧ inn t + j.toNat ≤ β.toNat) :=
  yd_imp (yd_callY hi (yds_eds (ea_cons (ed_op (ed_var h1) ed_int (rd_int rfl)) ea_nil)) fun xs j ⟨e, _⟩ => by subst e; exact ⟨k - 1, rfl, by omega, by omega⟩) fun d j ⟨xs, j0, ⟨e, e0⟩, k', t, e1, e2, e3, e4⟩ => by
    subst e e0
    cases e1
    have e : max (k - 1).toNat 1 = k.toNat - 1 := by omega
    rw [e] at e3
    exact ⟨t, e2, e3, e4⟩
theorem xd_name {p q : Addr} {ns : List Int} {es : Es} {β : Int} {E0 : XK} (hi : es[0]? = some (.r (.ref p))) :
    XD ((PoolM p q ns).at β) (tCall (spK (PoolM p q ns) (.ref p) preNil relName) [] E0 (tCons (tVar 0) tNil)) es (fun z => ∃ x, z = .s x ∧ NameOk x) := xd_imp (xd_callK hi (xs_eds ea_nil) fun xs e => e) fun d ⟨_, _, r⟩ => r
theorem xd_con {p q : Addr} {ns : List Int} {es : Es} {β : Int} {E0 : XK} (hi : es[0]? = some (.r (.ref p))) :
    XD ((PoolM p q ns).at β) (tCall (spK (PoolM p q ns) (.ref p) preNil relCon) [] E0 (tCons (tVar 0) tNil)) es (fun z => ∃ x, z = .s x ∧ ConOk x) := xd_imp (xd_callK hi (xs_eds ea_nil) fun xs e => e) fun d ⟨_, _, r⟩ => r
theorem xd_num {p q : Addr} {ns : List Int} {es : Es} {β : Int} {E0 : XK} (hi : es[0]? = some (.r (.ref p))) :
    XD ((PoolM p q ns).at β) (tCall (spK (PoolM p q ns) (.ref p) preNil relNum) [] E0 (tCons (tVar 0) tNil)) es (fun z => ∃ k : Int, z = .i k ∧ 0 ≤ k ∧ k < 65536) := xd_imp (xd_callK hi (xs_eds ea_nil) fun xs e => e) fun d ⟨_, _, r⟩ => r
/-- a draw as a natural number -/
theorem xd_drawN {p q : Addr} {ns : List Int} {es : Es} {n : Nat} {β : Int} {E0 : XK} (hi : es[0]? = some (.r (.ref p))) (h0 : 0 < n) (h1 : n < 1000) :
    XD ((PoolM p q ns).at β) (tCall (spK (PoolM p q ns) (.ref p) preDraw relDraw) [] E0 (tCons (tVar 0) (tCons (tC (.int (n : Int))) tNil))) es (fun z => ∃ k : Nat, z = .i (k : Int) ∧ k < n) :=
  xd_imp (xd_draw hi (by omega) (by omega)) fun d ⟨k, e, k0, k1⟩ => by
    obtain ⟨m, rfl⟩ := Int.eq_ofNat_of_zero_le k0
    exact ⟨m, e, by omega⟩
theorem paired_names {ds rs : List D} (h : Paired (fun _ d => ∃ x, d = .s x ∧ NameOk x) ds rs) : ∃ xs : List Str, rs = xs.map D.s ∧ xs.length = ds.length ∧ ∀ x ∈ xs, NameOk x := by
  induction h with
  | nil => exact ⟨[], rfl, rfl, fun x m => by cases m⟩
  | cons r t ih =>
    obtain ⟨x, rfl, hx⟩ := r
    obtain ⟨xs, rfl, hl, hn⟩ := ih
    refine ⟨x :: xs, rfl, by rw [List.length_cons, List.length_cons, hl], fun y m => ?_⟩
    rcases List.mem_cons.mp m with rfl | m
    · exact hx
    · exact hn y m
theorem good_op {n : Nat} {w : Str} {ks : List Tm} (h : (w, ks.length) ∈ arities) (hn : 1 ≤ n) (hk : ∀ k ∈ ks, Good (n - 1) k) : Good n (.nd (.op w) ks) :=
  ⟨⟨h, wfs_all.mpr fun k m => (hk k m).1⟩, ⟨trivial, wns_all.mpr fun k m => (hk k m).2.1⟩, by
    have := deps_le.mpr fun k m => (hk k m).2.2
    show deps ks + 1 ≤ n
    omega⟩
theorem good_nd {n : Nat} {h : Hd} {ks : List Tm} (h1 : okH h ks.length) (h2 : okN h) (hn : 1 ≤ n) (hk : ∀ k ∈ ks, Good (n - 1) k) : Good n (.nd h ks) :=
  ⟨⟨h1, wfs_all.mpr fun k m => (hk k m).1⟩, ⟨h2, wns_all.mpr fun k m => (hk k m).2.1⟩, by
    have := deps_le.mpr fun k m => (hk k m).2.2
    show deps ks + 1 ≤ n
    omega⟩
theorem good_leaf {n : Nat} {h : Hd} (h1 : okH h 0) (h2 : okN h) (hn : 1 ≤ n) : Good n (.nd h []) := good_nd h1 h2 hn fun k m => by cases m
abbrev rowsD (rs : List (Str × List Str)) (ms : List Tm) : List D := (rs.zip ms).map fun p => .t [.s p.1.1, tS p.1.2, enc p.2]
structure RowsOk (n i : Nat) (rs : List (Str × List Str)) (ms : List Tm) : Prop where
  len : ms.length = rs.length
  le : rs.length ≤ i
  ge : 1 ≤ i → 1 ≤ rs.length
  good : ∀ m ∈ ms, Good n m
  row : ∀ r ∈ rs, ConOk r.1 ∧ (∀ x ∈ r.2, NameOk x) ∧ r.2.Nodup ∧ r.2.length ≤ 4
  nd : (rs.map (·.1)).Nodup
theorem RowsOk.add {n i : Nat} {rs : List (Str × List Str)} {ms : List Tm} (h : RowsOk n i rs ms) {c : Str} {xs : List Str} {t : Tm} (hc : ConOk c) (hx : ∀ x ∈ xs, NameOk x) (nx : xs.Nodup) (lx : xs.length ≤ 4) (ht : Good n t) (nc : c ∉ rs.map (·.1)) : RowsOk n (i + 1) (rs ++ [(c, xs)]) (ms ++ [t]) where
  len := by rw [List.length_append, List.length_append, h.len]; rfl
  le := by rw [List.length_append]; exact Nat.succ_le_succ h.le
  ge := fun _ => by rw [List.length_append]; exact Nat.succ_le_succ (Nat.zero_le _)
  good := fun m hm => by
    rcases List.mem_append.mp hm with hm | hm
    · exact h.good m hm
    · cases List.mem_singleton.mp hm
      exact ht
  row := fun m hm => by
    rcases List.mem_append.mp hm with hm | hm
    · exact h.row m hm
    · cases List.mem_singleton.mp hm
      exact ⟨hc, hx, nx, lx⟩
  nd := by
    rw [List.map_append]
    refine List.nodup_append.mpr ⟨h.nd, List.nodup_cons.mpr ⟨List.not_mem_nil, List.nodup_nil⟩, fun a ha b hb => ?_⟩
    cases List.mem_singleton.mp hb
    exact fun z => nc (by
      have z' : a = c := z
      rw [← z']
      exact ha)
theorem rowsD_add {rs : List (Str × List Str)} {ms : List Tm} (h : ms.length = rs.length) {c : Str} {xs : List Str} {t : Tm} : rowsD (rs ++ [(c, xs)]) (ms ++ [t]) = rowsD rs ms ++ [.t [.s c, tS xs, enc t]] := by
  show ((rs ++ [(c, xs)]).zip (ms ++ [t])).map _ = _
  rw [List.zip_append h.symm, List.map_append]
  rfl
theorem con_zz {c : Nat} (h : 65 ≤ c ∧ c ≤ 90) : ConOk ("ZZ" ++ ⟨#[c]⟩) := by
  refine ⟨[90, 90, c], SX.S_cat [90, 90] [c], fun b m => ?_, (by show 1 ≤ 3; decide), (by show 3 ≤ 6; decide)⟩
  rcases List.mem_cons.mp m with rfl | m
  · exact ⟨by decide, by decide⟩
  rcases List.mem_cons.mp m with rfl | m
  · exact ⟨by decide, by decide⟩
  cases List.mem_singleton.mp m
  exact h
theorem zip_take {ds : List D} {ms : List Tm} {i : Nat} {z : D} {t : Tm} (hz : ds[i]? = some z) (hl : ms.length = i) : ((ds.take (i + 1)).zip (ms ++ [t])).map (fun p => D.t [p.1, enc p.2]) = ((ds.take i).zip ms).map (fun p => D.t [p.1, enc p.2]) ++ [.t [z, enc t]] := by
  have hi := (List.getElem?_eq_some_iff.mp hz).1
  rw [List.take_succ, hz]
  show ((ds.take i ++ [z]).zip (ms ++ [t])).map _ = _
  rw [List.zip_append (by rw [List.length_take, hl]; omega), List.map_append]
  rfl
theorem any_step (F : Facts K mg w) (p q : Addr) (ns : List Int) (n : Nat) (c__law_any : C8.Cal P w K mg base (n + 3) "_law_any" (spY (PoolM p q ns) (.ref p) (preAny' n) relAny) []) (f : Addr) (fd : FuncData) (hf : L2.Fun K "_law_any" "_law_any" s__law_any f fd) : FnOk P w K mg base CX0 (n + 4) f fd ["pool", "deep"] (spY (PoolM p q ns) (.ref p) (preAny n) relAny) := by
  have c__law_draw := k__law_draw (P := P) (w := w) (base := base) F p q ns
  have c__law_spend := k__law_spend (P := P) (w := w) (base := base) F p q ns
  have c__law_number := k__law_number (P := P) (w := w) (base := base) F p q ns
  have c__law_name := k__law_name (P := P) (w := w) (base := base) F p q ns
  have c__law_made := k__law_made (P := P) (w := w) (base := base) F p q ns
  have c__law_unlike := k__law_unlike (P := P) (w := w) (base := base) F p q ns
  refine fn_Y hf sc__law_any (fun _ ds ⟨k, e, _⟩ => by subst e; rfl) (fun cdv A outer s H E hr => ⟨_, (pss_cons (ps_set (i := 2) sc__law_any.nd rfl (Or.inl rfl) (C8.pe_c c__law_draw hr (by first | decide | omega) rfl (pa_cons (pv 0) (pa_cons pe_int pa_nil))))
    (pss_cons (ps_if (PW.pt (pw_or (pt_cmpR op_lt (pv 1) pe_int (nomark _)) (pw_or (pt_cmpR op_lt (pv 2) pe_int (nomark _)) (pw_or1 (pt_not (pt_val (C8.pe_c c__law_spend hr (by first | decide | omega) rfl (pa_cons (pv 0) pa_nil)))))))) (pss_cons (ps_if (pt_cmpR op_eq (pv 2) pe_int (nomark _)) (pss_one (ps_ret (pe_tup (pa_cons pe_str (pa_cons (C8.pe_c c__law_made hr (by first | decide | omega) rfl (pa_cons (pv 0) pa_nil)) (pa_cons (pe_callTy (Nz.cTup K) rfl F.b_tuple Nz.boot_tuple (pa_cons (pe_lc (own := [("k", 3)]) (g := (gName 3)) rfl sc__law_any.nd (pi_range1 rfl F.b_range (pa_cons (C8.pe_c c__law_draw hr (by first | decide | omega) rfl (pa_cons (pv 0) (pa_cons pe_int pa_nil))) pa_nil)) (blkOk_by (own := [("k", 3)]) (N := n__law_any) (sc := defScope s__law_any) (by decide +kernel)) (fun _ _ _ _ _ => (pg_name (i := 3) sc__law_any.nd rfl (Or.inl rfl))) (fun _ _ _ _ _ => pts_nil) (fun _ _ _ _ _ => (C8.pe_c c__law_name hr (by first | decide | omega) rfl (pa_cons (pv 0) pa_nil)))) pa_nil)) pa_nil)))))) pss_nil)
    (pss_cons (ps_if (pt_cmpR op_eq (pv 2) pe_int (nomark _)) (pss_one (ps_ret (pe_tup (pa_cons pe_str pa_nil)))) pss_nil)
    (pss_one (ps_ret (pe_ix (Nz.ixT K) (pe_tup (pa_cons (pe_tup (pa_cons pe_str (pa_cons (C8.pe_c c__law_name hr (by first | decide | omega) rfl (pa_cons (pv 0) pa_nil)) pa_nil))) (pa_cons (pe_tup (pa_cons pe_str (pa_cons (C8.pe_c c__law_number hr (by first | decide | omega) rfl (pa_cons (pv 0) pa_nil)) pa_nil))) pa_nil))) (C8.pe_c c__law_draw hr (by first | decide | omega) rfl (pa_cons (pv 0) (pa_cons pe_int pa_nil))) (fun _ _ => rfl)))))) pss_nil)
    (pss_cons (ps_if (pt_cmpR op_lt (pv 2) pe_int (nomark _)) (pss_one (ps_ret (pe_tup (pa_cons pe_str (pa_cons (C8.pe_c c__law_name hr (by first | decide | omega) rfl (pa_cons (pv 0) pa_nil)) (pa_cons (C8.pe_c c__law_any hr (by first | decide | omega) rfl (pa_cons (pv 0) (pa_cons (pe_op op_sub (pv 1) pe_int) pa_nil))) pa_nil)))))) pss_nil)
    (pss_cons (ps_if (pt_cmpR op_lt (pv 2) pe_int (nomark _)) (pss_one (ps_ret (pe_tup (pa_cons pe_str (pa_cons (C8.pe_c c__law_any hr (by first | decide | omega) rfl (pa_cons (pv 0) (pa_cons (pe_op op_sub (pv 1) pe_int) pa_nil))) (pa_cons (C8.pe_c c__law_name hr (by first | decide | omega) rfl (pa_cons (pv 0) pa_nil)) pa_nil)))))) pss_nil)
    (pss_cons (ps_if (pt_cmpR op_lt (pv 2) pe_int (nomark _)) (pss_cons (ps_setLc (i := 4) (own := [("name", 9)]) (g := (gName 9)) rfl sc__law_any.nd rfl rfl (sw_true rfl rfl rfl (by decide +kernel)) (Nz.piL K (C8.pe_c c__law_unlike hr (by first | decide | omega) rfl (pa_cons (pv 0) (pa_cons (pe_op op_add pe_int (C8.pe_c c__law_draw hr (by first | decide | omega) rfl (pa_cons (pv 0) (pa_cons pe_int pa_nil)))) pa_nil)))) (blkOk_by (own := [("name", 9)]) (N := n__law_any) (sc := defScope s__law_any) (by decide +kernel)) (fun _ _ _ _ _ => (pg_name (i := 9) sc__law_any.nd rfl (Or.inl rfl))) (fun _ _ _ _ _ => pts_nil) (fun _ _ _ _ _ => (pe_tup (pa_cons (pv 9) (pa_cons (C8.pe_c c__law_any hr (by first | decide | omega) rfl (pa_cons (pv 0) (pa_cons (pe_op op_sub (pv 1) pe_int) pa_nil))) pa_nil)))))
    (pss_one (ps_ret (pe_tup (pa_cons pe_str (pa_cons (pe_callTy (Nz.cTup K) rfl F.b_tuple Nz.boot_tuple (pa_cons (pv 4) pa_nil)) (pa_cons (C8.pe_c c__law_any hr (by first | decide | omega) rfl (pa_cons (pv 0) (pa_cons (pe_op op_sub (pv 1) pe_int) pa_nil))) pa_nil))))))) pss_nil)
    (pss_cons (ps_if (pt_cmpR op_lt (pv 2) pe_int (nomark _)) (pss_cons (ps_set (i := 4) sc__law_any.nd rfl (Or.inl rfl) (pe_lst pa_nil))
    (pss_cons (ps_set (i := 5) sc__law_any.nd rfl (Or.inl rfl) (C8.pe_c c__law_any hr (by first | decide | omega) rfl (pa_cons (pv 0) (pa_cons (pe_op op_sub (pv 1) pe_int) pa_nil))))
    (pss_cons (ps_for PassesOwn.never rfl (pi_range1 rfl F.b_range (pa_cons (pe_op op_add pe_int (C8.pe_c c__law_draw hr (by first | decide | omega) rfl (pa_cons (pv 0) (pa_cons pe_int pa_nil)))) pa_nil)) (pg_name (i := 3) sc__law_any.nd rfl (Or.inl rfl)) (pss_cons (ps_set (i := 6) sc__law_any.nd rfl (Or.inl rfl) (pe_callTy (Nz.cTup K) rfl F.b_tuple Nz.boot_tuple (pa_cons (C8.pe_c c__law_unlike hr (by first | decide | omega) rfl (pa_cons (pv 0) (pa_cons (C8.pe_c c__law_draw hr (by first | decide | omega) rfl (pa_cons (pv 0) (pa_cons pe_int pa_nil))) pa_nil))) pa_nil)))
    (pss_cons (ps_set (i := 7) sc__law_any.nd rfl (Or.inl rfl) (C8.pe_c c__law_made hr (by first | decide | omega) rfl (pa_cons (pv 0) pa_nil)))
    (pss_cons (ps_if (pt_cmpR (Nz.inQ K) (pv 7) (pe_lc (own := [("row", 10)]) (g := (gName 10)) rfl sc__law_any.nd (Nz.piL K (pv 4)) (blkOk_by (own := [("row", 10)]) (N := n__law_any) (sc := defScope s__law_any) (by decide +kernel)) (fun _ _ _ _ _ => (pg_name (i := 10) sc__law_any.nd rfl (Or.inl rfl))) (fun _ _ _ _ _ => pts_nil) (fun _ _ _ _ _ => (pe_ix (Nz.ixT K) (pv 10) pe_int (fun _ _ => rfl)))) rfl) (pss_one (ps_set (i := 7) sc__law_any.nd rfl (Or.inl rfl) (pe_op Nz.op_addS pe_str (pe_ix ix_str pe_str (pv 3) (fun _ _ => rfl))))) pss_nil)
    (pss_one (ps_if (pt_cmpR (Nz.ninQ K) (pv 7) (pe_lc (own := [("row", 10)]) (g := (gName 10)) rfl sc__law_any.nd (Nz.piL K (pv 4)) (blkOk_by (own := [("row", 10)]) (N := n__law_any) (sc := defScope s__law_any) (by decide +kernel)) (fun _ _ _ _ _ => (pg_name (i := 10) sc__law_any.nd rfl (Or.inl rfl))) (fun _ _ _ _ _ => pts_nil) (fun _ _ _ _ _ => (pe_ix (Nz.ixT K) (pv 10) pe_int (fun _ _ => rfl)))) rfl) (pss_one (ps_expr (pe_bm PySem.F.plainAttrs_list PySem.F.slot_list_append PySem.F.type_list_append mt_append (pv 4) (pa_cons (pe_tup (pa_cons (pv 7) (pa_cons (pv 6) (pa_cons (C8.pe_c c__law_any hr (by first | decide | omega) rfl (pa_cons (pv 0) (pa_cons (pe_op op_sub (pv 1) pe_int) pa_nil))) pa_nil)))) pa_nil)))) pss_nil))))))
    (pss_one (ps_ret (pe_tup (pa_cons pe_str (pa_cons (pv 5) (pa_cons (pe_callTy (Nz.cTup K) rfl F.b_tuple Nz.boot_tuple (pa_cons (pv 4) pa_nil)) pa_nil))))))))) pss_nil)
    (pss_cons (ps_if (pt_cmpR op_eq (pv 2) pe_int (nomark _)) (pss_one (ps_ret (pe_tup (pa_cons (pe_ix (Nz.ixT K) (pe_tup (pa_cons pe_str (pa_cons pe_str pa_nil))) (C8.pe_c c__law_draw hr (by first | decide | omega) rfl (pa_cons (pv 0) (pa_cons pe_int pa_nil))) (fun _ _ => rfl)) (pa_cons (C8.pe_c c__law_any hr (by first | decide | omega) rfl (pa_cons (pv 0) (pa_cons (pe_op op_sub (pv 1) pe_int) pa_nil))) pa_nil))))) pss_nil)
    (pss_cons (ps_if (pt_cmpR op_eq (pv 2) pe_int (nomark _)) (pss_one (ps_ret (pe_tup (pa_cons pe_str (pa_cons (C8.pe_c c__law_any hr (by first | decide | omega) rfl (pa_cons (pv 0) (pa_cons (pe_op op_sub (pv 1) pe_int) pa_nil))) (pa_cons (C8.pe_c c__law_any hr (by first | decide | omega) rfl (pa_cons (pv 0) (pa_cons (pe_op op_sub (pv 1) pe_int) pa_nil))) (pa_cons (C8.pe_c c__law_any hr (by first | decide | omega) rfl (pa_cons (pv 0) (pa_cons (pe_op op_sub (pv 1) pe_int) pa_nil))) pa_nil))))))) pss_nil)
    (pss_cons (ps_set (i := 8) sc__law_any.nd rfl (Or.inl rfl) (pe_ix (Nz.ixT K) (pe_tup (pa_cons pe_str (pa_cons pe_str (pa_cons pe_str (pa_cons pe_str (pa_cons pe_str (pa_cons pe_str pa_nil))))))) (C8.pe_c c__law_draw hr (by first | decide | omega) rfl (pa_cons (pv 0) (pa_cons pe_int pa_nil))) (fun _ _ => rfl)))
    (pss_one (ps_ret (pe_tup (pa_cons (pv 8) (pa_cons (C8.pe_c c__law_any hr (by first | decide | omega) rfl (pa_cons (pv 0) (pa_cons (pe_op op_sub (pv 1) pe_int) pa_nil))) (pa_cons (C8.pe_c c__law_any hr (by first | decide | omega) rfl (pa_cons (pv 0) (pa_cons (pe_op op_sub (pv 1) pe_int) pa_nil))) pa_nil))))))))))))))), fun β ds hP => ?_⟩)
  obtain ⟨k, rfl, hk⟩ := hP
  have m1 : 1 ≤ max k.toNat 1 := Nat.le_max_right _ _
  refine syq_setY (yd_xd (xd_draw rfl (by decide) (by decide))) fun d β ⟨⟨j, e, j0, j1⟩, eβ⟩ => ?_
  subst e eβ
  refine syq_ifY (R := fun b γ => (b = true → γ = β ∨ γ = β - 1) ∧ (b = false → 2 ≤ k ∧ γ = β - 1 ∧ 1 ≤ β)) (yt_imp (yt_or (R2 := fun b γ => (γ = β ∧ b = true) ∨ (γ = β - 1 ∧ (b = false → 1 ≤ β))) (yt_et (by (repeat' (first
      | with_reducible exact ed_str | with_reducible exact ed_int | with_reducible exact ed_bl | with_reducible exact ed_non
      | exact ed_var rfl | exact ed_var (by assumption) | with_reducible exact ea_nil | with_reducible apply ea_cons
      | with_reducible apply et_test | with_reducible apply et_B | with_reducible apply et_not
      | with_reducible apply ed_tup | with_reducible apply ed_op | with_reducible apply el_lst
      | exact rd_eqSb rfl | exact rd_neSb rfl | exact rd_eqIb rfl | exact rd_neIb rfl
      | exact rd_ixT0 | exact rd_ixT1 | exact rd_ixT2 | exact rd_bool rfl | exact rd_int rfl | exact rd_inTc rfl rfl rfl | exact short_size rfl)))) fun γ0 r0 => ?_) fun b γ r => ?_) (fun γ ⟨h, _⟩ => ?_) (fun γ ⟨_, h⟩ => ?_)
  · obtain ⟨_, rfl⟩ := r0
    refine yt_imp (yt_or (R2 := fun b γ => γ = γ0 - 1 ∧ (b = false → 1 ≤ γ0)) (yt_et (by (repeat' (first
      | with_reducible exact ed_str | with_reducible exact ed_int | with_reducible exact ed_bl | with_reducible exact ed_non
      | exact ed_var rfl | exact ed_var (by assumption) | with_reducible exact ea_nil | with_reducible apply ea_cons
      | with_reducible apply et_test | with_reducible apply et_B | with_reducible apply et_not
      | with_reducible apply ed_tup | with_reducible apply ed_op | with_reducible apply el_lst
      | exact rd_eqSb rfl | exact rd_neSb rfl | exact rd_eqIb rfl | exact rd_neIb rfl
      | exact rd_ixT0 | exact rd_ixT1 | exact rd_ixT2 | exact rd_bool rfl | exact rd_int rfl | exact rd_inTc rfl rfl rfl | exact short_size rfl)))) fun γ1 r1 => ?_) fun b γ r => ?_
    · obtain ⟨_, rfl⟩ := r1
      refine yt_imp (yt_not (R := fun b γ => γ = γ1 - 1 ∧ b = decide (0 ≤ γ1 - 1)) (yt_B (yd_imp (yd_callY rfl (yds_eds ea_nil) ?_) ?_))) ?_
      · exact fun xs j ⟨e, _⟩ => e
      · rintro d γ ⟨xs, γ2, ⟨_, e1⟩, e2, e3⟩
        subst e1
        exact ⟨_, e3, e2, by rw [e2]⟩
      · rintro b γ ⟨h1, h2⟩
        refine ⟨h1, fun e => ?_⟩
        rw [e] at h2
        have h' := of_decide_eq_true h2.symm
        omega
    · rcases r with ⟨e, _, e3⟩ | ⟨_, _, e4, h4⟩
      · exact .inl ⟨e3, e⟩
      · exact .inr ⟨e4, h4⟩
  · rcases r with ⟨e, _, e3⟩ | ⟨γ0, ⟨e1, e2⟩, r⟩
    · exact ⟨fun _ => .inl e3, fun z => by rw [e] at z; cases z⟩
    · have hk2 : 2 ≤ k := by
        have := of_decide_eq_false e1.symm
        omega
      rcases r with ⟨e4, e5⟩ | ⟨e4, h4⟩
      · exact ⟨fun _ => .inl e4, fun z => by rw [e5] at z; cases z⟩
      · exact ⟨fun _ => .inr e4, fun z => ⟨hk2, e4, h4 z⟩⟩
  · -- a leaf
    have h := h rfl
    have hb : γ.toNat ≤ β.toNat := by omega
    refine sy_sd ?_
    refine sq_assoc (sq_if (by (repeat' (first
      | with_reducible exact ed_str | with_reducible exact ed_int | with_reducible exact ed_bl | with_reducible exact ed_non
      | exact ed_var rfl | exact ed_var (by assumption) | with_reducible exact ea_nil | with_reducible apply ea_cons
      | with_reducible apply et_test | with_reducible apply et_B | with_reducible apply et_not
      | with_reducible apply ed_tup | with_reducible apply ed_op | with_reducible apply el_lst
      | exact rd_eqSb rfl | exact rd_neSb rfl | exact rd_eqIb rfl | exact rd_neIb rfl
      | exact rd_ixT0 | exact rd_ixT1 | exact rd_ixT2 | exact rd_bool rfl | exact rd_int rfl | exact rd_inTc rfl rfl rfl | exact short_size rfl))) (fun _ => ?_) (fun _ => ?_))
    · refine sq_retXD (xd_tup (xs_cons (xd_ed ed_str) fun _ _ => xs_cons (xd_con rfl) fun _ _ => xs_one (xd_cb (Rz := fun z => ∃ xs, z = tS xs ∧ xs.length ≤ 4 ∧ ∀ x ∈ xs, NameOk x) (xs_one (xl_toD (xl_lcM (R := fun _ d => ∃ x, d = .s x ∧ NameOk x) rfl (xsrc_rng (R := fun m => m < 5) (xds_imp (xs_one (xd_drawN (n := 5) rfl (by decide) (by decide))) fun ds ⟨d, e, m, e2, r⟩ => ⟨m, by rw [e, e2], r⟩) fun m r => by omega) (fun ds ⟨m, e, r⟩ => by subst e; simp only [rngD, List.length_map, List.length_range]; exact small4 (by omega)) fun ds r z hz => ⟨_, gw_name rfl, xd_name rfl⟩))) fun xs r => ?_)) fun ds r => ?_) fun d r => ?_
      · obtain ⟨_, rfl, rs, rfl, ds, ⟨m, rfl, hm⟩, pr⟩ := r
        obtain ⟨xs, rfl, hl, hn⟩ := paired_names pr
        refine ⟨_, rc_tupL, xs, rfl, ?_, hn⟩
        rw [hl]
        simp only [rngD, List.length_map, List.length_range]
        omega
      · obtain ⟨_, _, rfl, _, _, _, rfl, _, _, rfl, _⟩ := r
        exact short_size rfl
      · obtain ⟨_, rfl, _, _, rfl, rfl, _, _, rfl, ⟨c, rfl, hc⟩, _, rfl, xs, rfl, hl, hn⟩ := r
        exact ⟨k, .nd (.mk c xs) [], rfl, rfl, good_leaf ⟨rfl, hl⟩ ⟨hc, hn⟩ m1, by show 0 + _ ≤ _; omega⟩
    · refine sq_assoc (sq_if (by (repeat' (first
      | with_reducible exact ed_str | with_reducible exact ed_int | with_reducible exact ed_bl | with_reducible exact ed_non
      | exact ed_var rfl | exact ed_var (by assumption) | with_reducible exact ea_nil | with_reducible apply ea_cons
      | with_reducible apply et_test | with_reducible apply et_B | with_reducible apply et_not
      | with_reducible apply ed_tup | with_reducible apply ed_op | with_reducible apply el_lst
      | exact rd_eqSb rfl | exact rd_neSb rfl | exact rd_eqIb rfl | exact rd_neIb rfl
      | exact rd_ixT0 | exact rd_ixT1 | exact rd_ixT2 | exact rd_bool rfl | exact rd_int rfl | exact rd_inTc rfl rfl rfl | exact short_size rfl))) (fun _ => ?_) (fun _ => ?_))
      · exact sq_ret (d := .t [.s "hole"]) (by (repeat' (first
      | with_reducible exact ed_str | with_reducible exact ed_int | with_reducible exact ed_bl | with_reducible exact ed_non
      | exact ed_var rfl | exact ed_var (by assumption) | with_reducible exact ea_nil | with_reducible apply ea_cons
      | with_reducible apply et_test | with_reducible apply et_B | with_reducible apply et_not
      | with_reducible apply ed_tup | with_reducible apply ed_op | with_reducible apply el_lst
      | exact rd_eqSb rfl | exact rd_neSb rfl | exact rd_eqIb rfl | exact rd_neIb rfl
      | exact rd_ixT0 | exact rd_ixT1 | exact rd_ixT2 | exact rd_bool rfl | exact rd_int rfl | exact rd_inTc rfl rfl rfl | exact short_size rfl))) ⟨k, .nd .hole [], rfl, rfl, good_leaf rfl trivial m1, by show 0 + _ ≤ _; omega⟩
      · refine sq_retXD (xd_op (R := fun z => ∃ x i, z = .t [.t [.s "var", .s x], .t [.s "number", .i i]] ∧ NameOk x ∧ 0 ≤ i ∧ i < 65536) (R3 := fun _ _ z => relAny β [.i k] z γ) (xd_imp (xd_tup (xs_cons (xd_tup (xs_cons (xd_ed ed_str) fun _ _ => xs_one (xd_name rfl)) fun ds r => ?_) fun _ _ => xs_one (xd_tup (xs_cons (xd_ed ed_str) fun _ _ => xs_one (xd_num rfl)) fun ds r => ?_)) fun ds r => ?_) fun d r => ?_) (fun _ _ => xd_drawN (n := 2) rfl (by decide) (by decide)) fun x y r1 r2 => ?_) fun d ⟨_, _, _, _, r⟩ => r
        · obtain ⟨_, _, rfl, _, _, rfl, _⟩ := r
          exact short_size rfl
        · obtain ⟨_, _, rfl, _, _, rfl, _⟩ := r
          exact short_size rfl
        · obtain ⟨_, _, rfl, _, _, rfl, _⟩ := r
          exact short_size rfl
        · obtain ⟨_, rfl, _, _, rfl, ⟨_, rfl, _, _, rfl, rfl, _, rfl, x, rfl, hx⟩, _, rfl, _, rfl, _, _, rfl, rfl, _, rfl, i, rfl, hi⟩ := r
          exact ⟨x, i, rfl, hx, hi⟩
        · obtain ⟨x, i, rfl, hx, hi⟩ := r1
          obtain ⟨b, rfl, hb⟩ := r2
          match b, hb with
          | 0, _ => exact ⟨_, rd_ixT0, k, .nd (.var x) [], rfl, rfl, good_leaf rfl hx m1, by show 0 + _ ≤ _; omega⟩
          | 1, _ => exact ⟨_, rd_ixT1, k, .nd (.num i) [], rfl, rfl, good_leaf rfl hi m1, by show 0 + _ ≤ _; omega⟩
  -- with parts
  obtain ⟨h2, eγ, hβ⟩ := h rfl
  have hγ : γ.toNat + 1 = β.toNat := by omega
  clear h eγ
  have e1 : max k.toNat 1 = k.toNat := by omega
  have e2 : 1 ≤ k.toNat := by omega
  refine syq_next ?_
  refine syq_if (by (repeat' (first
      | with_reducible exact ed_str | with_reducible exact ed_int | with_reducible exact ed_bl | with_reducible exact ed_non
      | exact ed_var rfl | exact ed_var (by assumption) | with_reducible exact ea_nil | with_reducible apply ea_cons
      | with_reducible apply et_test | with_reducible apply et_B | with_reducible apply et_not
      | with_reducible apply ed_tup | with_reducible apply ed_op | with_reducible apply el_lst
      | exact rd_eqSb rfl | exact rd_neSb rfl | exact rd_eqIb rfl | exact rd_neIb rfl
      | exact rd_ixT0 | exact rd_ixT1 | exact rd_ixT2 | exact rd_bool rfl | exact rd_int rfl | exact rd_inTc rfl rfl rfl | exact short_size rfl))) (fun _ => ?_) (fun _ => ?_)
  · refine syq_retY (yd_tup (ys_ced ed_str (ys_cxd (xd_name rfl) (ys_one (yd_sub rfl rfl h2 hk)))) fun ds j r => ?_) fun d j r => ?_
    · obtain ⟨_, rfl, _, _, rfl, _, _, rfl, _⟩ := r
      exact short_size rfl
    · obtain ⟨_, rfl, _, rfl, _, _, rfl, ⟨x, rfl, hx⟩, _, rfl, t, rfl, ht, hb⟩ := r
      exact ⟨k, .nd (.fn x) [t], rfl, rfl, by rw [e1]; exact good_nd rfl hx e2 (fun m hm => by cases List.mem_singleton.mp hm; exact ht), by rw [inn_nd]; show inn t + 0 + 1 + _ ≤ _; omega⟩
  refine syq_if (by (repeat' (first
      | with_reducible exact ed_str | with_reducible exact ed_int | with_reducible exact ed_bl | with_reducible exact ed_non
      | exact ed_var rfl | exact ed_var (by assumption) | with_reducible exact ea_nil | with_reducible apply ea_cons
      | with_reducible apply et_test | with_reducible apply et_B | with_reducible apply et_not
      | with_reducible apply ed_tup | with_reducible apply ed_op | with_reducible apply el_lst
      | exact rd_eqSb rfl | exact rd_neSb rfl | exact rd_eqIb rfl | exact rd_neIb rfl
      | exact rd_ixT0 | exact rd_ixT1 | exact rd_ixT2 | exact rd_bool rfl | exact rd_int rfl | exact rd_inTc rfl rfl rfl | exact short_size rfl))) (fun _ => ?_) (fun _ => ?_)
  · refine syq_retY (yd_tup (ys_ced ed_str (ys_cy (yd_sub rfl rfl h2 hk) fun _ => ys_1x (xd_name rfl))) fun ds j r => ?_) fun d j r => ?_
    · obtain ⟨_, rfl, _, _, _, rfl, _, _, rfl, _⟩ := r
      exact short_size rfl
    · obtain ⟨_, rfl, _, rfl, _, _, j0, rfl, ⟨t, rfl, ht, hb⟩, _, rfl, ⟨x, rfl, hx⟩, rfl⟩ := r
      exact ⟨k, .nd (.call x) [t], rfl, rfl, by rw [e1]; exact good_nd rfl hx e2 (fun m hm => by cases List.mem_singleton.mp hm; exact ht), by rw [inn_nd]; show inn t + 0 + 1 + _ ≤ _; omega⟩
  have un : ∀ {es : Es} {E0 : XK}, es[0]? = some (.r (.ref p)) → XD ((PoolM p q ns).at γ) (tCall (spK (PoolM p q ns) (.ref p) preUn relUn) [] E0 (tCons (tVar 0) (tCons (tOp (rI0 fun i j => .int (i + j)) (tC (.int 1)) (tCall (spK (PoolM p q ns) (.ref p) preDraw relDraw) [] C8.E0 (tCons (tVar 0) (tCons (tC (.int 4)) tNil)))) tNil))) es
      (fun z => ∃ ds, z = .l ds ∧ ∃ xs : List Str, ds = xs.map D.s ∧ 1 ≤ xs.length ∧ xs.length ≤ 4 ∧ (∀ x ∈ xs, NameOk x) ∧ xs.Nodup) := fun hi =>
    xd_imp (xd_callK hi (xs_one (xd_opR (R3 := fun _ z => ∃ m : Nat, z = .i (m : Int) ∧ 1 ≤ m ∧ m ≤ 4) ed_int (xd_drawN (n := 4) hi (by decide) (by decide)) fun y ⟨m, e, hm⟩ => by subst e; exact ⟨.i ((m + 1 : Nat) : Int), rd_int (congrArg V.int (by omega)), m + 1, rfl, by omega, by omega⟩)) fun xs ⟨d, e, _, _, m, e2, m1, m4⟩ => by subst e e2; exact ⟨m, rfl, m4⟩)
      fun d ⟨xs, ⟨d1, e, _, _, m, e2, m1, m4⟩, c, ys, e3, e4, hl, hn, nd⟩ => by
        subst e e2
        have : (m : Int) = (c : Int) := by
          cases e3
          rfl
        exact ⟨_, e4, ys, rfl, by omega, by omega, hn, nd⟩
  refine syq_if (by (repeat' (first
      | with_reducible exact ed_str | with_reducible exact ed_int | with_reducible exact ed_bl | with_reducible exact ed_non
      | exact ed_var rfl | exact ed_var (by assumption) | with_reducible exact ea_nil | with_reducible apply ea_cons
      | with_reducible apply et_test | with_reducible apply et_B | with_reducible apply et_not
      | with_reducible apply ed_tup | with_reducible apply ed_op | with_reducible apply el_lst
      | exact rd_eqSb rfl | exact rd_neSb rfl | exact rd_eqIb rfl | exact rd_neIb rfl
      | exact rd_ixT0 | exact rd_ixT1 | exact rd_ixT2 | exact rd_bool rfl | exact rd_int rfl | exact rd_inTc rfl rfl rfl | exact short_size rfl))) (fun _ => ?_) (fun _ => ?_)
  · -- a let
    refine syq_assoc (syq_setYO (R := fun ds j => ∃ (xs : List Str) (ms : List Tm), ds = (xs.zip ms).map (fun p => .t [.s p.1, enc p.2]) ∧ ms.length = xs.length ∧ (∀ m ∈ ms, Good (k.toNat - 1) m) ∧ inns ms + j.toNat ≤ γ.toNat ∧ 1 ≤ xs.length ∧ xs.length ≤ 4 ∧ (∀ x ∈ xs, NameOk x) ∧ xs.Nodup)
      (yl_imp (yl_lcC (Rs := fun ds j => (∃ xs : List Str, ds = xs.map D.s ∧ 1 ≤ xs.length ∧ xs.length ≤ 4 ∧ (∀ x ∈ xs, NameOk x) ∧ xs.Nodup) ∧ j = γ) (C := fun ds i rs j => (∃ xs : List Str, ds = xs.map D.s ∧ 1 ≤ xs.length ∧ xs.length ≤ 4 ∧ (∀ x ∈ xs, NameOk x) ∧ xs.Nodup) ∧ ∃ ms : List Tm, rs = ((ds.take i).zip ms).map (fun p => .t [p.1, enc p.2]) ∧ ms.length = i ∧ (∀ m ∈ ms, Good (k.toNat - 1) m) ∧ inns ms + j.toNat ≤ γ.toNat) rfl (ysrc_xsrc (xsrc_list (un rfl)))
        (fun ds j ⟨⟨xs, e, _, h4, _⟩, _⟩ => by subst e; rw [List.length_map]; exact small4 (by omega)) (fun ds j ⟨r, e⟩ => ⟨r, [], rfl, rfl, (fun m hm => by cases hm), by subst e; show 0 + _ ≤ _; omega⟩)
        fun ds i z acc j hz ⟨r, ms, e, hl, hg, hb⟩ => ⟨_, _, gw_name rfl, yd_tup (ys_ced (ed_var rfl) (ys_one (yd_sub rfl rfl h2 hk))) fun ds j r => ?_, fun d j' r2 => ?_⟩) fun ds j ⟨ds0, ⟨xs, e, l1, l4, hn, nd⟩, ms, e2, hl, hg, hb⟩ => ?_) fun ds j r => ?_)
    · obtain ⟨_, rfl, _, rfl, _⟩ := r
      exact short_size rfl
    · obtain ⟨_, rfl, _, rfl, _, rfl, t, rfl, ht, hb2⟩ := r2
      refine ⟨r, ms ++ [t], by rw [e]; exact (zip_take hz hl).symm, by rw [List.length_append, hl]; rfl, fun m hm => ?_, ?_⟩
      · rcases List.mem_append.mp hm with hm | hm
        · exact hg m hm
        · cases List.mem_singleton.mp hm
          exact ht
      · rw [inns_app]
        show inns ms + (inn t + 0) + _ ≤ _
        omega
    · subst e
      rw [List.length_map] at hl
      refine ⟨xs, ms, ?_, hl, hg, hb, l1, l4, hn, nd⟩
      rw [e2, List.take_of_length_le (Nat.le_refl _), List.zip_map_left, List.map_map]
      rfl
    · obtain ⟨xs, ms, rfl, hl, hg, hb, l1, l4, hn, nd⟩ := r
      refine syq_retY (yd_tup (ys_ced ed_str (ys_ced (ed_tupo rfl) (ys_one (yd_sub rfl rfl h2 hk)))) fun ds j r => ?_) fun d j r => ?_
      · obtain ⟨_, rfl, _, rfl, _, rfl, _⟩ := r
        exact short_size rfl
      · obtain ⟨_, rfl, _, rfl, _, rfl, _, rfl, t, rfl, ht, hb2⟩ := r
        refine ⟨k, .nd (.lets xs) (ms ++ [t]), rfl, (enc_lets hl).symm, ?_, ?_⟩
        · rw [e1]
          refine good_nd ⟨by rw [List.length_append, hl]; rfl, l4⟩ ⟨hn, nd, l1⟩ e2 fun m hm => ?_
          rcases List.mem_append.mp hm with hm | hm
          · exact hg m hm
          · cases List.mem_singleton.mp hm
            exact ht
        · have : inn (.nd (.lets xs) (ms ++ [t])) = inns (ms ++ [t]) + min 1 (ms ++ [t]).length := rfl
          rw [this, inns_app]
          show inns ms + (inn t + 0) + _ + _ ≤ _
          omega
  refine syq_if (by (repeat' (first
      | with_reducible exact ed_str | with_reducible exact ed_int | with_reducible exact ed_bl | with_reducible exact ed_non
      | exact ed_var rfl | exact ed_var (by assumption) | with_reducible exact ea_nil | with_reducible apply ea_cons
      | with_reducible apply et_test | with_reducible apply et_B | with_reducible apply et_not
      | with_reducible apply ed_tup | with_reducible apply ed_op | with_reducible apply el_lst
      | exact rd_eqSb rfl | exact rd_neSb rfl | exact rd_eqIb rfl | exact rd_neIb rfl
      | exact rd_ixT0 | exact rd_ixT1 | exact rd_ixT2 | exact rd_bool rfl | exact rd_int rfl | exact rd_inTc rfl rfl rfl | exact short_size rfl))) (fun _ => ?_) (fun _ => ?_)
  · -- a case
    refine syq_assoc (syq_setO (el_lst ea_nil (Nat.zero_le _)) ?_)
    refine syq_assoc (syq_setY (yd_sub rfl rfl h2 hk) fun d γ2 ⟨subj, e, hs, hb0⟩ => ?_)
    subst e
    refine syq_assoc (sy_seq (fun e j' => ∃ rs ms κ3 κ6 κ7, e = [.r (.ref p), .d (.i k), .d (.i j), κ3, .o (.l (rowsD rs ms)), .d (enc subj), κ6, κ7, .no, .no, .no] ∧ RowsOk (k.toNat - 1) 4 rs ms ∧ inns ms + j'.toNat ≤ γ2.toNat) ?_ ?_)
    · refine sy_forY (ysrc_xsrc (xsrc_draw1 (xd_draw rfl (n := 4) (by decide) (by decide)) (by decide))) (fun ds i e j' => (∃ m : Nat, ds = rngD m ∧ 1 ≤ m ∧ (m : Int) ≤ 4) ∧ ∃ rs ms κ3 κ6 κ7, e = [.r (.ref p), .d (.i k), .d (.i j), κ3, .o (.l (rowsD rs ms)), .d (enc subj), κ6, κ7, .no, .no, .no] ∧ RowsOk (k.toNat - 1) i rs ms ∧ inns ms + j'.toNat ≤ γ2.toNat)
        (fun ds j' ⟨r, ej⟩ => ⟨r, [], [], _, _, _, rfl, ⟨rfl, Nat.le_refl _, (fun z => absurd z (by decide)), (fun m hm => by cases hm), (fun m hm => by cases hm), List.nodup_nil⟩, by subst ej; show 0 + _ ≤ _; omega⟩) (fun ds i d e j' hd he => ?_) (fun ds e j' he => ?_)
      · obtain ⟨⟨m, rfl, m1, m6⟩, rs, ms, κ3, κ6, κ7, rfl, ok, hb⟩ := he
        have hi4 : i < 4 := by
          have := (List.getElem?_eq_some_iff.mp hd).1
          have e : (rngD m).length = m := by simp [rngD]
          omega
        have ed : d = .i (i : Int) := by
          have hl := (List.getElem?_eq_some_iff.mp hd).1
          have e : (rngD m).length = m := by simp [rngD]
          unfold rngD at hd
          rw [List.getElem?_map, List.getElem?_range (by omega)] at hd
          exact (Option.some.inj hd).symm
        subst ed
        have hz : (rs.zip ms).length ≤ sizeLine := small4 (by rw [List.length_zip]; have := ok.le; omega)
        have cons : ∀ {es : Es}, es[4]? = some (.o (.l (rowsD rs ms))) → noOwn es [10] = true → ((es.set 10 .no).set 10 (.d .n))[10]? = some (.d .n) → ED (tLc (iList K (tVar 4)) (gName 10) tYes (tOp (rIxT K) (tVar 10) (tC (.int 0))) [10]) es (.l ((rs.map (·.1)).map D.s)) := fun {es} h4 hn hl =>
          ed_eq (EL.toD (el_lcMc (vs := [10]) (rs.zip ms) (fun p => .t [.s p.1.1, tS p.1.2, enc p.2]) (fun p => .s p.1.1) hz hn (src_own h4) fun z hz => ⟨_, gw_name hn, ed_op (ed_var (by
            rw [List.getElem?_set, if_pos rfl] at hl ⊢
            split at hl
            · rename_i q
              rw [if_pos q]
            · cases hl)) ed_int rd_ixT0⟩)) (congrArg D.l (by rw [map_zip_fst (f := fun r => D.s r.1) ok.len, List.map_map]; rfl))
        refine ⟨_, gd_name, ?_⟩
        refine syq_setY (R := fun z j'' => (∃ xs : List Str, z = tS xs ∧ xs.length ≤ 4 ∧ (∀ x ∈ xs, NameOk x) ∧ xs.Nodup) ∧ j'' = j') (yd_xd (xd_cb (xs_one (xd_callK rfl (xs_one (xd_drawN (n := 5) rfl (by decide) (by decide))) fun xs ⟨d, e, m, e2, hm⟩ => by subst e e2; exact ⟨m, rfl, by omega⟩)) fun xs ⟨d, e, ys, ⟨d1, e1, m, e2, hm⟩, c, zs, e3, e4, hl, hn, nd⟩ => ?_)) fun d' j'' ⟨⟨xs, e, l4, hn, nd⟩, ej⟩ => ?_
        · subst e e4 e1 e2
          have : (m : Int) = (c : Int) := by
            cases e3
            rfl
          exact ⟨_, rc_tupL, zs, rfl, by omega, hn, nd⟩
        subst e ej
        refine syq_setY (yd_xd (xd_con rfl)) fun d' j'' ⟨⟨c, e, hc⟩, ej⟩ => ?_
        subst e ej
        refine sy_seq (fun e j3 => (∃ c, ConOk c ∧ e = [.r (.ref p), .d (.i k), .d (.i j), .d (.i (i : Int)), .o (.l (rowsD rs ms)), .d (enc subj), .d (tS xs), .d (.s c), .no, .no, .no]) ∧ j3 = j'') (sy_sd ?_) ?_
        · refine sd_if (et_test (ed_op (ed_var rfl) (cons rfl rfl rfl) (rd_inLb rfl (flD_strs _)))) (fun _ => ?_) (fun _ => ?_)
          · have hl4 : i < ("WXYZ" : Str).cps.toList.length := hi4
            refine sd_set (ed_op ed_str (ed_op ed_str (ed_var rfl) (rd_ixS (by decide) (atI_nat (List.getElem?_eq_getElem hl4)))) (rd_addS (by show 2 + 1 ≤ sizeLine; decide))) ⟨⟨_, con_zz (all_upp (z := "WXYZ") (by decide) (List.getElem_mem hl4)), rfl⟩, rfl⟩
          · exact sd_next ⟨⟨c, hc, rfl⟩, rfl⟩
        · rintro e j3 ⟨⟨c, hc, rfl⟩, rfl⟩
          refine sy_if (et_test (ed_op (ed_var rfl) (cons rfl rfl rfl) (rd_ninLb rfl (flD_strs _)))) (fun h => ?_) (fun h => ?_)
          · rw [inD_strs, Bool.not_eq_true', decide_eq_false_iff_not] at h
            refine sy_appY rfl (yd_tup (ys_ced (ed_var rfl) (ys_ced (ed_var rfl) (ys_one (yd_sub rfl rfl h2 hk)))) fun ds j r => ?_) (by rw [List.length_map]; exact Nat.lt_of_le_of_lt (by rw [List.length_zip]; have := ok.le; omega : _ ≤ 10) (by decide)) fun d j4 r => ?_
            · obtain ⟨_, rfl, _, rfl, _, rfl, _⟩ := r
              exact short_size rfl
            · obtain ⟨_, rfl, _, rfl, _, rfl, _, rfl, t, rfl, ht, hb2⟩ := r
              refine ⟨⟨m, rfl, m1, m6⟩, rs ++ [(c, xs)], ms ++ [t], .d (.i (i : Int)), .d (tS xs), .d (.s c), ?_, ok.add hc hn nd l4 ht h, ?_⟩
              · rw [rowsD_add ok.len]
                rfl
              · rw [inns_app]
                show inns ms + (inn t + 0) + _ ≤ _
                omega
          · rw [inD_strs, Bool.not_eq_false', decide_eq_true_eq] at h
            refine sy_next ⟨⟨m, rfl, m1, m6⟩, rs, ms, _, _, _, rfl, ⟨ok.len, Nat.le_succ_of_le ok.le, fun _ => ?_, ok.good, ok.row, ok.nd⟩, hb⟩
            have := List.length_pos_of_mem h
            rw [List.length_map] at this
            exact this
      · obtain ⟨⟨m, hm, m1, m6⟩, rs, ms, κ3, κ6, κ7, rfl, ok, hb⟩ := he
        subst hm
        have e : (rngD m).length = m := by simp [rngD]
        rw [e] at ok
        exact ⟨rs, ms, κ3, κ6, κ7, rfl, ⟨ok.len, Nat.le_trans ok.le (by omega), fun _ => ok.ge m1, ok.good, ok.row, ok.nd⟩, hb⟩
    · rintro e j' ⟨rs, ms, κ3, κ6, κ7, rfl, ok, hb⟩
      refine syq_ret (ed_tup (ea_cons ed_str (ea_cons (ed_var rfl) (ea_cons (ed_tupo rfl) ea_nil))) (short_size rfl)) ?_
      refine ⟨k, .nd (.case rs) (subj :: ms), rfl, enc_case.symm, ?_, ?_⟩
      · rw [e1]
        refine good_nd ⟨by rw [List.length_cons, ok.len], ok.le, fun r hr => (ok.row r hr).2.2.2⟩ ⟨fun r hr => ⟨(ok.row r hr).1, (ok.row r hr).2.1, (ok.row r hr).2.2.1⟩, ok.nd, ok.ge (by decide)⟩ e2 fun m hm => ?_
        rcases List.mem_cons.mp hm with rfl | hm
        · exact hs
        · exact ok.good m hm
      · rw [inn_nd]
        show inn subj + inns ms + 1 + _ ≤ _
        omega
  refine syq_if (by (repeat' (first
      | with_reducible exact ed_str | with_reducible exact ed_int | with_reducible exact ed_bl | with_reducible exact ed_non
      | exact ed_var rfl | exact ed_var (by assumption) | with_reducible exact ea_nil | with_reducible apply ea_cons
      | with_reducible apply et_test | with_reducible apply et_B | with_reducible apply et_not
      | with_reducible apply ed_tup | with_reducible apply ed_op | with_reducible apply el_lst
      | exact rd_eqSb rfl | exact rd_neSb rfl | exact rd_eqIb rfl | exact rd_neIb rfl
      | exact rd_ixT0 | exact rd_ixT1 | exact rd_ixT2 | exact rd_bool rfl | exact rd_int rfl | exact rd_inTc rfl rfl rfl | exact short_size rfl))) (fun _ => ?_) (fun _ => ?_)
  · refine syq_retY (yd_tup (ys_cxd (xd_opR (R3 := fun _ z => ∃ w : Str, z = .s w ∧ (w, 1) ∈ arities) (show ED _ _ (.t [.s "tick", .s "waste"]) by (repeat' (first
      | with_reducible exact ed_str | with_reducible exact ed_int | with_reducible exact ed_bl | with_reducible exact ed_non
      | exact ed_var rfl | exact ed_var (by assumption) | with_reducible exact ea_nil | with_reducible apply ea_cons
      | with_reducible apply et_test | with_reducible apply et_B | with_reducible apply et_not
      | with_reducible apply ed_tup | with_reducible apply ed_op | with_reducible apply el_lst
      | exact rd_eqSb rfl | exact rd_neSb rfl | exact rd_eqIb rfl | exact rd_neIb rfl
      | exact rd_ixT0 | exact rd_ixT1 | exact rd_ixT2 | exact rd_bool rfl | exact rd_int rfl | exact rd_inTc rfl rfl rfl | exact short_size rfl))) (xd_drawN (n := 2) rfl (by decide) (by decide)) fun y r => ?_) (ys_one (yd_sub rfl rfl h2 hk))) fun ds j r => ?_) fun d j r => ?_
    · obtain ⟨b, rfl, hb⟩ := r
      match b, hb with
      | 0, _ => exact ⟨_, rd_ixT0, "tick", rfl, by decide⟩
      | 1, _ => exact ⟨_, rd_ixT1, "waste", rfl, by decide⟩
    · obtain ⟨_, _, rfl, _, _, rfl, _⟩ := r
      exact short_size rfl
    · obtain ⟨_, rfl, _, _, rfl, ⟨_, _, w, rfl, hw⟩, _, rfl, t, rfl, ht, hb⟩ := r
      exact ⟨k, .nd (.op w) [t], rfl, rfl, by rw [e1]; exact good_op hw e2 (fun m hm => by cases List.mem_singleton.mp hm; exact ht), by rw [inn_nd]; show inn t + 0 + 1 + _ ≤ _; omega⟩
  refine syq_if (by (repeat' (first
      | with_reducible exact ed_str | with_reducible exact ed_int | with_reducible exact ed_bl | with_reducible exact ed_non
      | exact ed_var rfl | exact ed_var (by assumption) | with_reducible exact ea_nil | with_reducible apply ea_cons
      | with_reducible apply et_test | with_reducible apply et_B | with_reducible apply et_not
      | with_reducible apply ed_tup | with_reducible apply ed_op | with_reducible apply el_lst
      | exact rd_eqSb rfl | exact rd_neSb rfl | exact rd_eqIb rfl | exact rd_neIb rfl
      | exact rd_ixT0 | exact rd_ixT1 | exact rd_ixT2 | exact rd_bool rfl | exact rd_int rfl | exact rd_inTc rfl rfl rfl | exact short_size rfl))) (fun _ => ?_) (fun _ => ?_)
  · refine syq_retY (yd_tup (ys_ced ed_str (ys_cy (yd_sub rfl rfl h2 hk) fun _ => ys_cy (yd_sub rfl rfl h2 hk) fun _ => ys_one (yd_sub rfl rfl h2 hk))) fun ds j r => ?_) fun d j r => ?_
    · obtain ⟨_, rfl, _, _, _, rfl, _, _, _, _, rfl, _, _, rfl, _⟩ := r
      exact short_size rfl
    · obtain ⟨_, rfl, _, rfl, _, _, j1, rfl, ⟨t1, rfl, h1, b1⟩, _, _, j2, rfl, ⟨t2, rfl, h3, b2⟩, _, rfl, t3, rfl, h4, b3⟩ := r
      refine ⟨k, .nd (.op "ifzero") [t1, t2, t3], rfl, rfl, ?_, ?_⟩
      · rw [e1]
        refine good_op (show (("ifzero" : Str), 3) ∈ arities by decide) e2 fun m hm => ?_
        rcases List.mem_cons.mp hm with rfl | hm
        · exact h1
        rcases List.mem_cons.mp hm with rfl | hm
        · exact h3
        cases List.mem_singleton.mp hm
        exact h4
      · rw [inn_nd]
        show inn t1 + (inn t2 + (inn t3 + 0)) + 1 + _ ≤ _
        omega
  refine syq_setY (R := fun z j' => (∃ w : Str, z = .s w ∧ (w, 2) ∈ arities) ∧ j' = γ) (yd_xd (xd_imp (xd_opR (R3 := fun _ z => ∃ w : Str, z = .s w ∧ (w, 2) ∈ arities) (show ED _ _ (.t [.s "+", .s "-", .s "*", .s "/", .s "<", .s "="]) by (repeat' (first
      | with_reducible exact ed_str | with_reducible exact ed_int | with_reducible exact ed_bl | with_reducible exact ed_non
      | exact ed_var rfl | exact ed_var (by assumption) | with_reducible exact ea_nil | with_reducible apply ea_cons
      | with_reducible apply et_test | with_reducible apply et_B | with_reducible apply et_not
      | with_reducible apply ed_tup | with_reducible apply ed_op | with_reducible apply el_lst
      | exact rd_eqSb rfl | exact rd_neSb rfl | exact rd_eqIb rfl | exact rd_neIb rfl
      | exact rd_ixT0 | exact rd_ixT1 | exact rd_ixT2 | exact rd_bool rfl | exact rd_int rfl | exact rd_inTc rfl rfl rfl | exact short_size rfl))) (xd_drawN (n := 6) rfl (by decide) (by decide)) fun y r => ?_) fun d ⟨_, _, r⟩ => r)) fun d j' ⟨⟨w, e, hw⟩, ej⟩ => ?_
  · obtain ⟨b, rfl, hb⟩ := r
    match b, hb with
    | 0, _ => exact ⟨_, rd_ixT0, "+", rfl, by decide⟩
    | 1, _ => exact ⟨_, rd_ixT1, "-", rfl, by decide⟩
    | 2, _ => exact ⟨_, rd_ixT2, "*", rfl, by decide⟩
    | 3, _ => exact ⟨_, rd_ixT (atI_nat (j := 3) rfl), "/", rfl, by decide⟩
    | 4, _ => exact ⟨_, rd_ixT (atI_nat (j := 4) rfl), "<", rfl, by decide⟩
    | 5, _ => exact ⟨_, rd_ixT (atI_nat (j := 5) rfl), "=", rfl, by decide⟩
  subst e ej
  refine sy_retY (yd_tup (ys_ced (ed_var rfl) (ys_cy (yd_sub rfl rfl h2 hk) fun _ => ys_one (yd_sub rfl rfl h2 hk))) fun ds j r => ?_) fun d j r => ?_
  · obtain ⟨_, rfl, _, _, _, rfl, _, _, rfl, _⟩ := r
    exact short_size rfl
  · obtain ⟨_, rfl, _, rfl, _, _, j1, rfl, ⟨t1, rfl, h1, b1⟩, _, rfl, t2, rfl, h3, b2⟩ := r
    refine ⟨k, .nd (.op w) [t1, t2], rfl, rfl, ?_, ?_⟩
    · rw [e1]
      refine good_op hw e2 fun m hm => ?_
      rcases List.mem_cons.mp hm with rfl | hm
      · exact h1
      cases List.mem_singleton.mp hm
      exact h3
    · rw [inn_nd]
      show inn t1 + (inn t2 + 0) + 1 + _ ≤ _
      omega
/-- for each number of levels -/
theorem fk__law_any (F : Facts K mg w) (p q : Addr) (ns : List Int) : ∀ (n : Nat) (f : Addr) (fd : FuncData), L2.Fun K "_law_any" "_law_any" s__law_any f fd → FnOk P w K mg base CX0 (n + 4) f fd ["pool", "deep"] (spY (PoolM p q ns) (.ref p) (preAny n) relAny)
  | 0 => any_step F p q ns 0 (F._law_any.cal fun f fd hf => by
      have no : ∀ vs H Q E, ¬ spY (PoolM p q ns) (.ref p) (preAny' 0) relAny vs H Q E := fun vs H Q E h => by
        obtain ⟨_, _, _, _, _, _, _, _, _, _, ⟨k, _, h1, h2⟩, _⟩ := h
        omega
      exact ⟨fun vs H Q E h => absurd h (no vs H Q E), fun A outer s H args us vs Q E _ _ _ _ h => absurd h (no vs H Q E)⟩)
  | n + 1 => any_step F p q ns (n + 1) (F._law_any.cal fun f fd hf => (fk__law_any F p q ns n f fd hf).imp fun vs H Q E h => by
      obtain ⟨S, ds, us, i, e, dm, hV, j, hK, is, ⟨k, e1, h1, h2⟩, q⟩ := h
      exact ⟨S, ds, us, i, e, dm, hV, j, hK, is, ⟨k, e1, by omega⟩, q⟩)
end
end Nz
namespace Nz
open PySem L2
open TL (numL tl_num numL_lt numL_step numL_ne numL_digits numL_len int_num)
def isLow (w : Str) : Bool := Txt.isascii w && (Txt.isalpha w && Txt.islower w)
def isUpp (w : Str) : Bool := Txt.isascii w && (Txt.isalpha w && Txt.isupper w)
def isDig (w : Str) : Bool := Txt.isascii w && Txt.isdigit w
def isNm (w : Str) : Bool := isLow w && (decide ((w.length : Int) ≤ 6) && !decide (w ∈ keyWords))
def isCn (w : Str) : Bool := isUpp w && decide ((w.length : Int) ≤ 6)
def isNu (w : Str) (n : Int) : Bool := isDig w && (decide ((w.length : Int) ≤ n) && (decide (w = "0") || !decide ((⟨#[w.cps.toList.headD 0]⟩ : Str) = "0")))
def numV (w : Str) : Int := (PySem.intText? w).getD 0
def isNr (w : Str) : Bool := isNu w 5 && decide (numV w ≤ 65535)
theorem uni_low : ∀ c, 97 ≤ c → c ≤ 122 → Unicode.isAlpha c = true ∧ Unicode.isLower c = true ∧ Unicode.isUpper c = false ∧ Unicode.isTitle c = false ∧ Unicode.isDigit c = false := by
  have h : ∀ c, c < 123 → 97 ≤ c → (Unicode.isAlpha c && (Unicode.isLower c && (!Unicode.isUpper c && (!Unicode.isTitle c && !Unicode.isDigit c)))) = true := by decide +kernel
  intro c h1 h2
  have := h c (by omega) h1
  simp only [Bool.and_eq_true, Bool.not_eq_true'] at this
  exact this
theorem uni_upp : ∀ c, 65 ≤ c → c ≤ 90 → Unicode.isAlpha c = true ∧ Unicode.isUpper c = true ∧ Unicode.isLower c = false ∧ Unicode.isTitle c = false ∧ Unicode.isDigit c = false := by
  have h : ∀ c, c < 91 → 65 ≤ c → (Unicode.isAlpha c && (Unicode.isUpper c && (!Unicode.isLower c && (!Unicode.isTitle c && !Unicode.isDigit c)))) = true := by decide +kernel
  intro c h1 h2
  have := h c (by omega) h1
  simp only [Bool.and_eq_true, Bool.not_eq_true'] at this
  exact this
theorem uni_dig : ∀ c, 48 ≤ c → c ≤ 57 → Unicode.isAlpha c = false ∧ Unicode.isDigit c = true := by
  have h : ∀ c, c < 58 → 48 ≤ c → (!Unicode.isAlpha c && Unicode.isDigit c) = true := by decide +kernel
  intro c h1 h2
  have := h c (by omega) h1
  simp only [Bool.and_eq_true, Bool.not_eq_true'] at this
  exact this
theorem uni_dig' : ∀ c, c < 128 → Unicode.isDigit c = true → 48 ≤ c ∧ c ≤ 57 := by
  have h : ∀ c, c < 128 → (!Unicode.isDigit c || (decide (48 ≤ c) && decide (c ≤ 57))) = true := by decide +kernel
  intro c h1 h2
  have := h c h1
  rw [h2] at this
  simpa using this
theorem all_cps {l : List Nat} {f : Nat → Bool} : (⟨l.toArray⟩ : Str).cps.all f = l.all f := by
  show l.toArray.all f = l.all f
  exact List.all_toArray
theorem any_cps {l : List Nat} {f : Nat → Bool} : (⟨l.toArray⟩ : Str).cps.any f = l.any f := by
  show l.toArray.any f = l.any f
  exact List.any_toArray
theorem low_is {l : List Nat} (h : Low l) (h1 : 1 ≤ l.length) : isLow ⟨l.toArray⟩ = true := by
  have hl : (⟨l.toArray⟩ : Str).length = l.length := len_sign l
  have a1 : Txt.isascii ⟨l.toArray⟩ = true := by
    unfold Txt.isascii
    rw [all_cps]
    exact List.all_eq_true.mpr fun c m => decide_eq_true (by have := h c m; omega)
  have a2 : Txt.isalpha ⟨l.toArray⟩ = true := by
    unfold Txt.isalpha
    rw [all_cps, Bool.and_eq_true]
    exact ⟨decide_eq_true (by rw [hl]; omega), List.all_eq_true.mpr fun c m => (uni_low c (h c m).1 (h c m).2).1⟩
  have a3 : Txt.islower ⟨l.toArray⟩ = true := by
    unfold Txt.islower
    rw [any_cps, any_cps, Bool.and_eq_true, Bool.not_eq_true']
    refine ⟨List.any_eq_true.mpr ?_, List.any_eq_false.mpr fun c m => ?_⟩
    · cases l with
      | nil => cases h1
      | cons c r => exact ⟨c, List.mem_cons_self .., (uni_low c (h c (List.mem_cons_self ..)).1 (h c (List.mem_cons_self ..)).2).2.1⟩
    · have := uni_low c (h c m).1 (h c m).2
      rw [this.2.2.1, this.2.2.2.1]
      decide
  unfold isLow
  rw [a1, a2, a3]
  rfl
theorem upp_is {l : List Nat} (h : Upp l) (h1 : 1 ≤ l.length) : isUpp ⟨l.toArray⟩ = true := by
  have hl : (⟨l.toArray⟩ : Str).length = l.length := len_sign l
  have a1 : Txt.isascii ⟨l.toArray⟩ = true := by
    unfold Txt.isascii
    rw [all_cps]
    exact List.all_eq_true.mpr fun c m => decide_eq_true (by have := h c m; omega)
  have a2 : Txt.isalpha ⟨l.toArray⟩ = true := by
    unfold Txt.isalpha
    rw [all_cps, Bool.and_eq_true]
    exact ⟨decide_eq_true (by rw [hl]; omega), List.all_eq_true.mpr fun c m => (uni_upp c (h c m).1 (h c m).2).1⟩
  have a3 : Txt.isupper ⟨l.toArray⟩ = true := by
    unfold Txt.isupper
    rw [any_cps, any_cps, Bool.and_eq_true, Bool.not_eq_true']
    refine ⟨List.any_eq_true.mpr ?_, List.any_eq_false.mpr fun c m => ?_⟩
    · cases l with
      | nil => cases h1
      | cons c r => exact ⟨c, List.mem_cons_self .., (uni_upp c (h c (List.mem_cons_self ..)).1 (h c (List.mem_cons_self ..)).2).2.1⟩
    · have := uni_upp c (h c m).1 (h c m).2
      rw [this.2.2.1, this.2.2.2.1]
      decide
  unfold isUpp
  rw [a1, a2, a3]
  rfl
theorem name_is {x : Str} (h : NameOk x) : isNm x = true := by
  obtain ⟨l, rfl, h1, h2, h3, h4⟩ := h
  unfold isNm
  rw [low_is h1 h2, decide_eq_true (by rw [len_sign]; omega), decide_eq_false h4]
  rfl
theorem con_is {x : Str} (h : ConOk x) : isCn x = true := by
  obtain ⟨l, rfl, h1, h2, h3⟩ := h
  unfold isCn
  rw [upp_is h1 h2, decide_eq_true (by rw [len_sign]; omega)]
  rfl
/-- the text of a number -/
def numS (n : Int) : Str := (toString n : String)
theorem numS_eq (n : Nat) : numS (n : Int) = ⟨(numL n).toArray⟩ := by
  have := tl_num n
  exact (TL.mk_tl (numS (n : Int))).symm.trans (congrArg (fun l : List Nat => (⟨l.toArray⟩ : Str)) this)
theorem numL_head {n : Nat} (h : 0 < n) : (numL n).headD 0 ≠ 48 := by
  induction n using Nat.strongRecOn with
  | _ n ih =>
    by_cases c : n < 10
    · rw [numL_lt c]
      show 48 + n ≠ 48
      omega
    · have := ih (n / 10) (by omega) (by omega)
      rw [numL_step (by omega)]
      cases e : numL (n / 10) with
      | nil => exact absurd e (numL_ne _)
      | cons d r =>
        rw [e] at this
        exact this
theorem num_dig (n : Nat) : isDig (numS (n : Int)) = true ∧ isLow (numS (n : Int)) = false := by
  rw [numS_eq]
  have hl : (⟨(numL n).toArray⟩ : Str).length = (numL n).length := len_sign _
  have hd := numL_digits n
  have hne := numL_ne n
  have h1 : 0 < (numL n).length := List.length_pos_iff.mpr hne
  constructor
  · unfold isDig Txt.isascii Txt.isdigit
    rw [all_cps, all_cps, Bool.and_eq_true, Bool.and_eq_true]
    exact ⟨List.all_eq_true.mpr fun c m => decide_eq_true (by have := hd c m; omega), decide_eq_true (by rw [hl]; omega), List.all_eq_true.mpr fun c m => (uni_dig c (hd c m).1 (hd c m).2).2⟩
  · unfold isLow Txt.isalpha
    rw [all_cps]
    have : (numL n).all Unicode.isAlpha = false := by
      cases e : numL n with
      | nil => exact absurd e hne
      | cons c r =>
        rw [e] at hd
        have := (uni_dig c (hd c (List.mem_cons_self ..)).1 (hd c (List.mem_cons_self ..)).2).1
        rw [List.all_cons, this]
        rfl
    rw [this]
    simp
theorem num_val {n : Nat} (h : n < 65536) : PySem.intText? (numS (n : Int)) = some (n : Int) := int_num (Nat.le_trans (numL_len (k := 5) (by decide) (Nat.lt_of_lt_of_le h (by decide))) (by decide))
theorem num_is {n : Nat} (h : n < 65536) : isNr (numS (n : Int)) = true ∧ isNm (numS (n : Int)) = false := by
  have d := num_dig n
  have hl : (numS (n : Int)).length ≤ 5 := by
    rw [numS_eq, len_sign]
    exact numL_len (by decide) (Nat.lt_of_lt_of_le h (by decide))
  constructor
  · have hz : (decide (numS (n : Int) = "0") || !decide ((⟨#[(numS (n : Int)).cps.toList.headD 0]⟩ : Str) = "0")) = true := by
      by_cases z : n = 0
      · subst z
        decide +kernel
      · rw [Bool.or_eq_true]
        refine .inr ?_
        rw [Bool.not_eq_true', decide_eq_false_iff_not]
        intro e
        have e2 : (numS (n : Int)).cps.toList.headD 0 = 48 := by
          have := congrArg (fun x : Str => x.cps.toList.headD 0) e
          exact this
        rw [numS_eq] at e2
        exact numL_head (by omega) e2
    unfold isNr isNu
    rw [d.1, hz, decide_eq_true (by omega)]
    unfold numV
    rw [num_val h, decide_eq_true (by show (n : Int) ≤ 65535; omega)]
    rfl
  · unfold isNm
    rw [d.2]
    rfl
theorem dig_all {w : Str} (h : isDig w = true) : NumText.AllDigits w.cps.toList ∧ w.cps.toList ≠ [] := by
  unfold isDig Txt.isascii Txt.isdigit at h
  rw [Bool.and_eq_true, Bool.and_eq_true] at h
  obtain ⟨h1, h2, h3⟩ := h
  rw [← Array.all_toList] at h1 h3
  have h2' : 0 < w.length := of_decide_eq_true h2
  refine ⟨fun c m => uni_dig' c (of_decide_eq_true (List.all_eq_true.mp h1 c m)) (List.all_eq_true.mp h3 c m), fun z => ?_⟩
  have e : w.length = w.cps.toList.length := by
    show w.cps.size = _
    simp
  rw [z] at e
  simp at e
  omega
theorem nu_val {w : Str} {n : Int} (h : isNu w n = true) (hn : n ≤ 600) : PySem.intText? w = some (numV w) ∧ w.length ≤ 600 := by
  unfold isNu at h
  rw [Bool.and_eq_true, Bool.and_eq_true] at h
  obtain ⟨h1, h2, _⟩ := h
  have hl : w.length ≤ 600 := by
    have := of_decide_eq_true h2
    omega
  obtain ⟨a, b⟩ := dig_all h1
  have e := PySem.intText_digits a b (by omega)
  exact ⟨by unfold numV; rw [e]; rfl, hl⟩
section
variable {P : Program} {w : World} {K : PySem.W.Frag} {mg : Str → Option Value} {base : Heap}
def R_w (f : Str → Bool) (ds : List D) (d : D) : Prop := ∃ x : Str, ds = [.s x] ∧ x.length ≤ 10000000 ∧ d = .b (f x)
theorem k_is_name (F : Facts K mg w) : C8.Cal P w K mg base 1 "is_name" (spR (R_w isNm)) [] := by
  obtain ⟨a_KEY_WORDS, h_KEY_WORDS, t_KW⟩ := F.g_KEY_WORDS
  refine F.is_name.R sc_is_name (by decide) (fun ds d h => ?_) (fun f cdv A outer s H E hr => ⟨_, (pss_cons (ps_set (i := 1) sc_is_name.nd rfl (Or.inl rfl) (pe_and (pe_bm0 PySem.F.plainAttrs_str PySem.F.slot_str_isascii PySem.F.type_str_isascii mt_isascii (pv 0)) (pe_and (pe_bm0 PySem.F.plainAttrs_str PySem.F.slot_str_isalpha PySem.F.type_str_isalpha mt_isalpha (pv 0)) (pe_one (pe_bm0 PySem.F.plainAttrs_str PySem.F.slot_str_islower PySem.F.type_str_islower mt_islower (pv 0))))))
    (pss_one (ps_ret (pe_and (pv 1) (pe_and (pe_cmpR op_le (pe_callB Nz.c_lenS rfl F.b_len Nz.boot_len (pa_cons (pv 0) pa_nil)) (Nz.pe_gE (v := V.int 6) rfl F.g_LONGEST_NAME) (nomark _)) (pe_one (pe_cmpR (Nz.ninQ K) (pv 0) (pe_glob (v := V.ref a_KEY_WORDS) rfl h_KEY_WORDS rfl) rfl))))))), fun ds d h => ?_⟩)
  · obtain ⟨x, rfl, _⟩ := h
    rfl
  obtain ⟨x, rfl, hl, rfl⟩ := h
  refine sq_set (d := .b (isLow x)) (ed_andV (ed_m0 (ed_var rfl)) fun _ => ed_andV (ed_m0 (ed_var rfl)) fun _ => ed_m0 (ed_var rfl)) ?_
  refine sd_ret (d := .b (isNm x)) (ed_andV (ed_var rfl) fun _ => ed_andV (ed_op (ed_lenS (ed_var rfl) (Nat.le_trans hl (by decide))) ed_int (rd_bool rfl)) fun _ => ?_) rfl
  have e := ed_inK (K := K) (neg := true) (es := [.d (.s x), .d (.b (isLow x))]) (ta := tVar 0) (x := .s x) t_KW (ed_var rfl) rfl rfl
  refine ed_eq e ?_
  show D.b (!inV (.str x) (keyWords.map V.str)) = _
  rw [inV_strs]
theorem k_is_constructor (F : Facts K mg w) : C8.Cal P w K mg base 1 "is_constructor" (spR (R_w isCn)) [] := by
  refine F.is_constructor.R sc_is_constructor (by decide) (fun ds d h => ?_) (fun f cdv A outer s H E hr => ⟨_, (pss_cons (ps_set (i := 1) sc_is_constructor.nd rfl (Or.inl rfl) (pe_and (pe_bm0 PySem.F.plainAttrs_str PySem.F.slot_str_isascii PySem.F.type_str_isascii mt_isascii (pv 0)) (pe_and (pe_bm0 PySem.F.plainAttrs_str PySem.F.slot_str_isalpha PySem.F.type_str_isalpha mt_isalpha (pv 0)) (pe_one (pe_bm0 PySem.F.plainAttrs_str PySem.F.slot_str_isupper PySem.F.type_str_isupper mt_isupper (pv 0))))))
    (pss_one (ps_ret (pe_and (pv 1) (pe_one (pe_cmpR op_le (pe_callB Nz.c_lenS rfl F.b_len Nz.boot_len (pa_cons (pv 0) pa_nil)) (Nz.pe_gE (v := V.int 6) rfl F.g_LONGEST_NAME) (nomark _))))))), fun ds d h => ?_⟩)
  · obtain ⟨x, rfl, _⟩ := h
    rfl
  obtain ⟨x, rfl, hl, rfl⟩ := h
  refine sq_set (d := .b (isUpp x)) (ed_andV (ed_m0 (ed_var rfl)) fun _ => ed_andV (ed_m0 (ed_var rfl)) fun _ => ed_m0 (ed_var rfl)) ?_
  exact sd_ret (d := .b (isCn x)) (ed_andV (ed_var rfl) fun _ => ed_op (ed_lenS (ed_var rfl) (Nat.le_trans hl (by decide))) ed_int (rd_bool rfl)) rfl
def R_nu (ds : List D) (d : D) : Prop := ∃ (x : Str) (n : Int), ds = [.s x, .i n] ∧ x.length ≤ 10000000 ∧ d = .b (isNu x n)
theorem k_is_numeral (F : Facts K mg w) : C8.Cal P w K mg base 1 "is_numeral" (spR R_nu) [] := by
  refine F.is_numeral.R sc_is_numeral (by decide) (fun ds d h => ?_) (fun f cdv A outer s H E hr => ⟨_, (pss_cons (ps_set (i := 2) sc_is_numeral.nd rfl (Or.inl rfl) (pe_and (pe_bm0 PySem.F.plainAttrs_str PySem.F.slot_str_isascii PySem.F.type_str_isascii mt_isascii (pv 0)) (pe_one (pe_bm0 PySem.F.plainAttrs_str PySem.F.slot_str_isdigit PySem.F.type_str_isdigit mt_isdigit (pv 0)))))
    (pss_one (ps_ret (pe_and (pv 2) (pe_and (pe_cmpR op_le (pe_callB Nz.c_lenS rfl F.b_len Nz.boot_len (pa_cons (pv 0) pa_nil)) (pv 1) (nomark _)) (pe_one (pe_or (pe_cmpR op_eq (pv 0) pe_str (nomark _)) (pe_one (pe_cmpR op_ne (pe_ix ix_str (pv 0) pe_int (fun _ _ => rfl)) pe_str (nomark _)))))))))), fun ds d h => ?_⟩)
  · obtain ⟨x, n, rfl, _⟩ := h
    rfl
  obtain ⟨x, n, rfl, hl, rfl⟩ := h
  refine sq_set (d := .b (isDig x)) (ed_andV (ed_m0 (ed_var rfl)) fun _ => ed_m0 (ed_var rfl)) ?_
  refine sd_ret (d := .b (isNu x n)) (ed_andV (ed_var rfl) fun hd => ed_andV (ed_op (ed_lenS (ed_var rfl) (Nat.le_trans hl (by decide))) (ed_var rfl) (rd_bool rfl)) fun _ => ed_orV (ed_op (ed_var rfl) ed_str rd_eqS) fun _ => ed_op (ed_op (ed_var rfl) ed_int (rd_ixS (Nat.le_trans hl (by decide)) (atI_nat (j := 0) ?_))) ed_str rd_neS) rfl
  have := (dig_all hd).2
  cases e : x.cps.toList with
  | nil => exact absurd e this
  | cons c r => rfl
theorem k_is_number (F : Facts K mg w) : C8.Cal P w K mg base 2 "is_number" (spR (R_w isNr)) [] := by
  have c_is_numeral := k_is_numeral (P := P) (w := w) (base := base) F
  refine F.is_number.R sc_is_number (by decide) (fun ds d h => ?_) (fun f cdv A outer s H E hr => ⟨_, (pss_one (ps_ret (pe_and (C8.pe_c c_is_numeral hr (by first | decide | omega) rfl (pa_cons (pv 0) (pa_cons (Nz.pe_gE (v := V.int 5) rfl F.g_LONGEST_NUMBER_text) pa_nil))) (pe_one (pe_cmpR op_le (pe_callTy Nz.c_intS rfl F.b_int Nz.boot_int (pa_cons (pv 0) pa_nil)) (Nz.pe_gE (v := V.int 65535) rfl F.g_LARGEST_NUMBER) (nomark _)))))), fun ds d h => ?_⟩)
  · obtain ⟨x, rfl, _⟩ := h
    rfl
  obtain ⟨x, rfl, hl, rfl⟩ := h
  refine sd_ret (d := .b (isNr x)) (ed_andV (ed_call (ea_cons (ed_var rfl) (ea_cons ed_int ea_nil)) ⟨x, 5, rfl, hl, rfl⟩) fun hd => ?_) rfl
  have hv := nu_val hd (by decide)
  exact ed_op (ed_intS (ed_var rfl) hv.1 (by omega)) ed_int (rd_bool rfl)
end
end Nz
namespace Nz
open PySem L2
/-- the fields of a reader -/
def rf (l : Addr) (k : Nat) : List (Str × V) := [("words", .ref l), ("at", .int (k : Int))]
theorem aw : (("at" : Str) == "words") = false := by decide +kernel
theorem rf_words (l : Addr) (k : Nat) : (rf l k).lookup ("words" : Str) = some (.ref l) := by
  unfold rf
  rw [List.lookup_cons, beq_self_eq_true]
theorem rf_at (l : Addr) (k : Nat) : (rf l k).lookup ("at" : Str) = some (.int (k : Int)) := by
  unfold rf
  rw [List.lookup_cons, aw, List.lookup_cons, beq_self_eq_true]
theorem rf_no (l : Addr) (k : Nat) {m : Str} (h1 : (m == "words") = false) (h2 : (m == "at") = false) : (rf l k).lookup m = none := by
  unfold rf
  rw [List.lookup_cons, h1, List.lookup_cons, h2]
  rfl
theorem wa : ¬ (("words" : Str) = "at") := by decide +kernel
theorem rf_put (l : Addr) (k j : Nat) : putF "at" (.int (j : Int)) (rf l k) = rf l j := by
  show (if ("words" : Str) = "at" then _ else (("words" : Str), V.ref l) :: (if ("at" : Str) = "at" then [(("at" : Str), V.int (j : Int))] else _)) = _
  rw [if_neg wa, if_pos rfl]
  rfl
theorem rf_new (l : Addr) : putF "at" (.int 0) (putF "words" (.ref l) []) = rf l 0 := by
  show (if ("words" : Str) = "at" then _ else (("words" : Str), V.ref l) :: [(("at" : Str), V.int 0)]) = _
  rw [if_neg wa]
  rfl
/-- a reader at r, with the words at l: its state is the index of the next word -/
def RdM (C r l : Addr) (ws : List Str) : Fam Nat where
  V := fun a => a = r
  K0 := fun B => B l = some (.lst (ws.map V.str))
  J := fun k H => ∃ dx, H r = some (.ins C dx (rf l k))
  use := fun k H a ⟨dx, h⟩ e => by
    subst e
    rw [h]
    exact fun z => nomatch z
  stay := fun k H H' ⟨dx, h⟩ g => ⟨dx, by rw [g r rfl]; exact h⟩
  up := fun B C h s => s _ _ h
section
variable {K : PySem.W.Frag} {C r l : Addr} {ws : List Str} {k n : Nat} {es : Es}
theorem RdM.me {m : Str} (h1 : (m == "words") = false) (h2 : (m == "at") = false) : ∀ i H, (RdM C r l ws).J i H → ∃ dx fs, H r = some (.ins C dx fs) ∧ fs.lookup m = none := fun i H ⟨dx, h⟩ => ⟨dx, _, h, rf_no l i h1 h2⟩
theorem xd_at (cl : Cls K C) (na : NoAttr K C "at") (hi : es[n]? = some (.r (.ref r))) : XD ((RdM C r l ws).at k) (tFld K (tVar n) "at") es (fun z => z = .i (k : Int)) := fun S A B H σ E w Q q => by
  obtain ⟨dx, h⟩ := w.j1
  exact ⟨_, E.raw n _ hi, r, C, dx, _, _, rfl, h, cl, na, rf_at l k, q _ H _ rfl (Gr.refl _ H) ⟨dx, h⟩ rfl⟩
theorem xd_lenW (cl : Cls K C) (nw : NoAttr K C "words") (hi : es[n]? = some (.r (.ref r))) : XD ((RdM C r l ws).at k) (tCB (rLen K) (tCons (tFld K (tVar n) "words") tNil)) es (fun z => z = .i (ws.length : Int)) := fun S A B H σ E w Q q => by
  obtain ⟨dx, h⟩ := w.j1
  have hl := E.same _ _ w.k0
  exact ⟨_, E.raw n _ hi, r, C, dx, _, _, rfl, h, cl, nw, rf_words l k, l, _, rfl, .inl (SqL.of hl), q _ H (.i (ws.length : Int)) rfl (Gr.refl _ H) ⟨dx, h⟩ (by show V.int _ = V.int _; rw [List.length_map])⟩
theorem xd_word (cl : Cls K C) (na : NoAttr K C "at") (nw : NoAttr K C "words") (hi : es[n]? = some (.r (.ref r))) {x : Str} (hx : ws[k]? = some x) : XD ((RdM C r l ws).at k) (tOp (rIxL K) (tFld K (tVar n) "words") (tFld K (tVar n) "at")) es (fun z => z = .s x) := fun S A B H σ E w Q q => by
  obtain ⟨dx, h⟩ := w.j1
  have hl := E.same _ _ w.k0
  refine ⟨_, E.raw n _ hi, r, C, dx, _, _, rfl, h, cl, nw, rf_words l k, _, E.raw n _ hi, r, C, dx, _, _, rfl, h, cl, na, rf_at l k, l, _, (k : Int), .str x, rfl, rfl, SqL.of hl, atI_nat (by rw [List.getElem?_map, hx]; rfl), ?_⟩
  exact q _ H (.s x) rfl (Gr.refl _ H) ⟨dx, h⟩ rfl
/-- self.at += 1 -/
theorem syq_atInc {u : TS} {P : Pq Nat} (cl : Cls K C) (na : NoAttr K C "at") (hi : es[n]? = some (.r (.ref r))) (q : SY (RdM C r l ws) (k + 1) u es P) : SY (RdM C r l ws) k (tSeq (sFldAug K (tVar n) (tC (.int 1)) rAdd "at") u) es P := fun S A B H σ E w F k' => by
  obtain ⟨dx, h⟩ := w.j1
  refine ⟨_, E.raw n _ hi, r, C, dx, _, _, rfl, h, cl, na, rf_at l k, (k : Int), 1, rfl, rfl, dx, _, h, (by show 2 < 1000; decide), ?_⟩
  have e : (k : Int) + 1 = ((k + 1 : Nat) : Int) := by omega
  rw [e, rf_put]
  exact q S A B _ σ (E.chg (w.vol r rfl).1 (w.vol r rfl).2) ⟨w.vol, w.k0, dx, upd_same⟩ F k'
end
section
variable {P : Program} {w : World} {K : PySem.W.Frag} {mg : Str → Option Value} {base : Heap}
abbrev gw (ws : List Str) (k : Nat) : Str := ws.getD k ""
theorem gw_at {ws : List Str} {k : Nat} (h : k < ws.length) : ws[k]? = some (gw ws k) := by
  show ws[k]? = some (ws.getD k "")
  rw [List.getD_eq_getElem?_getD, List.getElem?_eq_getElem h]
  rfl
theorem gw_end {ws : List Str} {k : Nat} (h : ¬ k < ws.length) : gw ws k = "" := by
  show ws.getD k "" = ""
  rw [List.getD_eq_getElem?_getD, List.getElem?_eq_none (by omega)]
  rfl
abbrev rM (mg : Str → Option Value) (r l : Addr) (ws : List Str) : Fam Nat := RdM (C_Reader mg) r l ws
def preA (n : Nat) (k : Nat) (ds : List D) : Prop := ds = [] ∧ k ≤ n
def relA (ws : List Str) (k : Nat) (_ : List D) (d : D) (j : Nat) : Prop := d = .s (gw ws k) ∧ j = k
theorem k_ahead (F : Facts K mg w) (r l : Addr) (ws : List Str) : C8.Met P w K mg base 1 (C_Reader mg) "ahead" (spY (rM mg r l ws) (.ref r) (preA ws.length) (relA ws)) [] := by
  refine F.m_Reader_ahead.met fun f fd hf => fn_Y hf sc_Reader_ahead (fun _ ds ⟨e, _⟩ => by subst e; rfl) (fun cdv A outer s H E hr => ⟨_, (pss_cons (ps_if (pt_cmpR op_eq (pe_fld (pv 0) rfl) (pe_callB (Nz.cLen K) rfl F.b_len Nz.boot_len (pa_cons (pe_fld (pv 0) rfl) pa_nil)) (nomark _)) (pss_one (ps_ret pe_str)) pss_nil)
    (pss_one (ps_ret (pe_ix (Nz.ixL K) (pe_fld (pv 0) rfl) (pe_fld (pv 0) rfl) (fun _ _ => rfl))))), fun k ds hP => ?_⟩)
  obtain ⟨rfl, hk⟩ := hP
  refine sy_sd (sq_ifX (R := fun b => b = decide ((k : Int) = (ws.length : Int))) (xt_test (xd_imp (xd_op (R3 := fun x y z => x = .i (k : Int) ∧ y = .i (ws.length : Int) ∧ z = .b (decide ((k : Int) = (ws.length : Int)))) (xd_at F.cl_Reader F.n_Reader_at rfl) (fun _ _ => xd_lenW F.cl_Reader F.n_Reader_words rfl) fun x y e1 e2 => ?_) fun d ⟨_, _, _, _, _, _, e⟩ => ⟨_, e, rfl⟩)) (fun h => ?_) (fun h => ?_))
  · subst e1 e2
    exact ⟨_, rd_eqI, rfl, rfl, rfl⟩
  · have := of_decide_eq_true h.symm
    exact sq_ret ed_str ⟨by rw [gw_end (by omega)], rfl⟩
  · have := of_decide_eq_false h.symm
    exact sd_retXD (xd_word F.cl_Reader F.n_Reader_at F.n_Reader_words rfl (gw_at (by omega))) fun d e => ⟨e, rfl⟩
theorem yd_ahead {r l : Addr} {ws : List Str} {n k : Nat} {es : Es} {E0 : XK} (hi : es[n]? = some (.r (.ref r))) (hk : k ≤ ws.length) : YD (rM mg r l ws) k (tMeth (C_Reader mg) "ahead" (spY (rM mg r l ws) (.ref r) (preA ws.length) (relA ws)) [] E0 (tVar n) tNil) es (fun z j => z = .s (gw ws k) ∧ j = k) :=
  yd_imp (yd_methY (RdM.me (by decide +kernel) (by decide +kernel)) hi (yds_eds ea_nil) fun xs j ⟨e, ej⟩ => ⟨e, by rw [ej]; exact hk⟩) fun d j ⟨xs, j0, ⟨_, ej⟩, e, ej2⟩ => by
    subst ej
    exact ⟨e, ej2⟩
def preT (n : Nat) (k : Nat) (ds : List D) : Prop := ds = [.b true] ∧ k < n
def relT (ws : List Str) (k : Nat) (_ : List D) (d : D) (j : Nat) : Prop := d = .s (gw ws k) ∧ j = k + 1
theorem k_take (F : Facts K mg w) (r l : Addr) (ws : List Str) : C8.Met P w K mg base 2 (C_Reader mg) "take" (spY (rM mg r l ws) (.ref r) (preT ws.length) (relT ws)) [] := by
  have m_Reader_ahead := k_ahead (P := P) (w := w) (base := base) F r l ws
  refine F.m_Reader_take.met fun f fd hf => fn_Y hf sc_Reader_take (fun _ ds ⟨e, _⟩ => by subst e; rfl) (fun cdv A outer s H E hr => ⟨_, (pss_cons (ps_if (pt_not (pt_val (pv 1))) (pss_one ps_dead) pss_nil)
    (pss_cons (ps_set (i := 2) sc_Reader_take.nd rfl (Or.inl rfl) (C8.pe_mt0 m_Reader_ahead hr (by first | decide | omega) (pv 0)))
    (pss_cons (ps_fldaug (pv 0) pe_int in_add)
    (pss_one (ps_ret (pv 2)))))), fun k ds hP => ?_⟩)
  obtain ⟨rfl, hk⟩ := hP
  refine syq_if (et_not (et_B (ed_var rfl))) (fun h => by cases h) (fun _ => ?_)
  refine syq_setY (yd_ahead rfl (by omega)) fun d j ⟨e, ej⟩ => ?_
  subst e ej
  refine syq_atInc F.cl_Reader F.n_Reader_at rfl ?_
  exact sy_ret (ed_var rfl) ⟨rfl, rfl⟩
theorem yd_take {r l : Addr} {ws : List Str} {n k : Nat} {es : Es} {tas : TA} {E0 : XK} (hi : es[n]? = some (.r (.ref r))) (hk : k < ws.length) (h : YDs (rM mg r l ws) k tas es (fun z j => z = [.b true] ∧ j = k)) : YD (rM mg r l ws) k (tMeth (C_Reader mg) "take" (spY (rM mg r l ws) (.ref r) (preT ws.length) (relT ws)) [] E0 (tVar n) tas) es (fun z j => z = .s (gw ws k) ∧ j = k + 1) :=
  yd_imp (yd_methY (RdM.me (by decide +kernel) (by decide +kernel)) hi h fun xs j ⟨e, ej⟩ => ⟨e, by rw [ej]; exact hk⟩) fun d j ⟨xs, j0, ⟨_, ej⟩, e, ej2⟩ => by
    subst ej
    exact ⟨e, ej2⟩
def preW (ws : List Str) (k : Nat) (ds : List D) : Prop := ds = [.s (gw ws k)] ∧ k < ws.length
theorem k_take_word (F : Facts K mg w) (r l : Addr) (ws : List Str) : C8.Met P w K mg base 3 (C_Reader mg) "take_word" (spY (rM mg r l ws) (.ref r) (preW ws) (relT ws)) [] := by
  have m_Reader_ahead := k_ahead (P := P) (w := w) (base := base) F r l ws
  have m_Reader_take := k_take (P := P) (w := w) (base := base) F r l ws
  refine F.m_Reader_take_word.met fun f fd hf => fn_Y hf sc_Reader_take_word (fun _ ds ⟨e, _⟩ => by subst e; rfl) (fun cdv A outer s H E hr => ⟨_, (pss_one (ps_ret (C8.pe_mt m_Reader_take hr (by first | decide | omega) (pv 0) (pa_cons (pe_cmpR op_eq (C8.pe_mt0 m_Reader_ahead hr (by first | decide | omega) (pv 0)) (pv 1) (nomark _)) pa_nil)))), fun k ds hP => ?_⟩)
  obtain ⟨rfl, hk⟩ := hP
  refine sy_retY (yd_take rfl hk (yds_imp (ys_one (yd_opL (R3 := fun _ z j => z = .b true ∧ j = k) (yd_ahead rfl (by omega)) (ed_var rfl) fun x j ⟨e, ej⟩ => ?_)) fun z j ⟨d, e, _, _, e2, ej⟩ => ⟨by rw [e, e2], ej⟩)) fun d j h => h
  subst e ej
  exact ⟨_, rd_eqS, by rw [decide_eq_true rfl], rfl⟩
def preN (f : Str → Bool) (ws : List Str) (k : Nat) (ds : List D) : Prop := ∃ others : List Str, (ds = [tS others] ∨ ds = [.l (others.map D.s)]) ∧ k < ws.length ∧ (gw ws k).length ≤ 10000000 ∧ f (gw ws k) = true ∧ gw ws k ∉ others
theorem k_take_name (F : Facts K mg w) (r l : Addr) (ws : List Str) : C8.Met P w K mg base 3 (C_Reader mg) "take_name" (spY (rM mg r l ws) (.ref r) (preN isNm ws) (relT ws)) [] := by
  have m_Reader_ahead := k_ahead (P := P) (w := w) (base := base) F r l ws
  have m_Reader_take := k_take (P := P) (w := w) (base := base) F r l ws
  have c_is_name := k_is_name (P := P) (w := w) (base := base) F
  refine F.m_Reader_take_name.met fun f fd hf => fn_Y hf sc_Reader_take_name (fun _ ds ⟨o, e, _⟩ => by rcases e with e | e <;> (subst e; rfl)) (fun cdv A outer s H E hr => ⟨_, (pss_cons (ps_set (i := 2) sc_Reader_take_name.nd rfl (Or.inl rfl) (C8.pe_mt0 m_Reader_ahead hr (by first | decide | omega) (pv 0)))
    (pss_one (ps_ret (C8.pe_mt m_Reader_take hr (by first | decide | omega) (pv 0) (pa_cons (pe_and (C8.pe_c c_is_name hr (by first | decide | omega) rfl (pa_cons (pv 2) pa_nil)) (pe_one (pe_cmpR (Nz.ninQ K) (pv 2) (pv 1) rfl))) pa_nil))))), fun k ds hP => ?_⟩)
  obtain ⟨o, e, hk, hl, hn, ho⟩ := hP
  rcases e with rfl | rfl
  · refine syq_setY (yd_ahead rfl (by omega)) fun d j ⟨e, ej⟩ => ?_
    subst e ej
    refine sy_retY (yd_take rfl hk (yds_eds (ea_cons (ed_eq (ed_andV (ed_call (ea_cons (ed_var rfl) ea_nil) ⟨_, rfl, hl, rfl⟩) fun _ => ed_op (ed_var rfl) (ed_var rfl) (rd_ninTb rfl (flD_strs _))) ?_) ea_nil))) fun d j h => h
    rw [inD_strs, hn, decide_eq_false ho]
    rfl
  · refine syq_setY (yd_ahead rfl (by omega)) fun d j ⟨e, ej⟩ => ?_
    subst e ej
    refine sy_retY (yd_take rfl hk (yds_eds (ea_cons (ed_eq (ed_andV (ed_call (ea_cons (ed_var rfl) ea_nil) ⟨_, rfl, hl, rfl⟩) fun _ => ed_op (ed_var rfl) (ed_var rfl) (rd_ninLb rfl (flD_strs _))) ?_) ea_nil))) fun d j h => h
    rw [inD_strs, hn, decide_eq_false ho]
    rfl
theorem k_take_constructor (F : Facts K mg w) (r l : Addr) (ws : List Str) : C8.Met P w K mg base 3 (C_Reader mg) "take_constructor" (spY (rM mg r l ws) (.ref r) (preN isCn ws) (relT ws)) [] := by
  have m_Reader_ahead := k_ahead (P := P) (w := w) (base := base) F r l ws
  have m_Reader_take := k_take (P := P) (w := w) (base := base) F r l ws
  have c_is_constructor := k_is_constructor (P := P) (w := w) (base := base) F
  refine F.m_Reader_take_constructor.met fun f fd hf => fn_Y hf sc_Reader_take_constructor (fun _ ds ⟨o, e, _⟩ => by rcases e with e | e <;> (subst e; rfl)) (fun cdv A outer s H E hr => ⟨_, (pss_cons (ps_set (i := 2) sc_Reader_take_constructor.nd rfl (Or.inl rfl) (C8.pe_mt0 m_Reader_ahead hr (by first | decide | omega) (pv 0)))
    (pss_one (ps_ret (C8.pe_mt m_Reader_take hr (by first | decide | omega) (pv 0) (pa_cons (pe_and (C8.pe_c c_is_constructor hr (by first | decide | omega) rfl (pa_cons (pv 2) pa_nil)) (pe_one (pe_cmpR (Nz.ninQ K) (pv 2) (pv 1) rfl))) pa_nil))))), fun k ds hP => ?_⟩)
  obtain ⟨o, e, hk, hl, hn, ho⟩ := hP
  rcases e with rfl | rfl
  · refine syq_setY (yd_ahead rfl (by omega)) fun d j ⟨e, ej⟩ => ?_
    subst e ej
    refine sy_retY (yd_take rfl hk (yds_eds (ea_cons (ed_eq (ed_andV (ed_call (ea_cons (ed_var rfl) ea_nil) ⟨_, rfl, hl, rfl⟩) fun _ => ed_op (ed_var rfl) (ed_var rfl) (rd_ninTb rfl (flD_strs _))) ?_) ea_nil))) fun d j h => h
    rw [inD_strs, hn, decide_eq_false ho]
    rfl
  · refine syq_setY (yd_ahead rfl (by omega)) fun d j ⟨e, ej⟩ => ?_
    subst e ej
    refine sy_retY (yd_take rfl hk (yds_eds (ea_cons (ed_eq (ed_andV (ed_call (ea_cons (ed_var rfl) ea_nil) ⟨_, rfl, hl, rfl⟩) fun _ => ed_op (ed_var rfl) (ed_var rfl) (rd_ninLb rfl (flD_strs _))) ?_) ea_nil))) fun d j h => h
    rw [inD_strs, hn, decide_eq_false ho]
    rfl
end
end Nz
namespace Nz
open PySem L2
def letW : List Str → List (List Str) → List Str
  | x :: xs, w :: ws => x :: (w ++ letW xs ws)
  | [], w :: _ => ("in" : Str) :: w
  | _, [] => []
def caseW : List (Str × List Str) → List (List Str) → List Str
  | r :: rs, w :: ws => ("of" : Str) :: r.1 :: ("(" : Str) :: (r.2 ++ (")" : Str) :: (w ++ caseW rs ws))
  | _, _ => [("end" : Str)]
def headW : Hd → List (List Str) → List Str
  | .var x, _ => [x]
  | .num n, _ => [numS n]
  | .mk c xs, _ => ("make" : Str) :: c :: ("(" : Str) :: (xs ++ [(")" : Str)])
  | .hole, _ => [("hole" : Str)]
  | .fn x, ws => ("fun" : Str) :: x :: ws.flatten
  | .call x, ws => ("call" : Str) :: (ws.flatten ++ [x])
  | .lets xs, ws => ("let" : Str) :: letW xs ws
  | .case rs, ws => ("case" : Str) :: (ws.headD [] ++ caseW rs ws.tail)
  | .op o, ws => o :: ws.flatten
mutual
def wd : Tm → List Str
  | .nd h ks => headW h (wds ks)
def wds : List Tm → List (List Str)
  | [] => []
  | k :: r => wd k :: wds r
end
theorem wds_map : ∀ ks : List Tm, wds ks = ks.map wd
  | [] => rfl
  | k :: r => by
    show wd k :: wds r = wd k :: r.map wd
    rw [wds_map r]
/-- at index k stand these words -/
def Wat (ws : List Str) (k : Nat) (us : List Str) : Prop := ∃ rest, ws.drop k = us ++ rest
section
variable {ws us vs : List Str} {k : Nat} {u : Str}
theorem Wat.lt (h : Wat ws k (u :: us)) : k < ws.length := by
  obtain ⟨rest, e⟩ := h
  by_cases c : k < ws.length
  · exact c
  · rw [List.drop_eq_nil_of_le (by omega)] at e
    cases e
theorem Wat.gw (h : Wat ws k (u :: us)) : gw ws k = u := by
  have hl := h.lt
  obtain ⟨rest, e⟩ := h
  rw [List.drop_eq_getElem_cons hl] at e
  have e1 := (List.cons.inj e).1
  show ws.getD k "" = u
  rw [List.getD_eq_getElem?_getD, List.getElem?_eq_getElem hl]
  exact e1
theorem Wat.next (h : Wat ws k (u :: us)) : Wat ws (k + 1) us := by
  have hl := h.lt
  obtain ⟨rest, e⟩ := h
  rw [List.drop_eq_getElem_cons hl] at e
  exact ⟨rest, (List.cons.inj e).2⟩
theorem Wat.left (h : Wat ws k (us ++ vs)) : Wat ws k us := by
  obtain ⟨rest, e⟩ := h
  exact ⟨vs ++ rest, by rw [e, List.append_assoc]⟩
theorem Wat.right (h : Wat ws k (us ++ vs)) : Wat ws (k + us.length) vs := by
  obtain ⟨rest, e⟩ := h
  refine ⟨rest, ?_⟩
  rw [← List.drop_drop, e, List.append_assoc, List.drop_left]
theorem Wat.le (h : Wat ws k (u :: us)) : k ≤ ws.length := Nat.le_of_lt h.lt
end
theorem name_ne {x : Str} (h : NameOk x) {y : Str} (hy : y ∈ keyWords ∨ y = "(" ∨ y = ")" ∨ isNm y = false) : x ≠ y := fun e => by
  subst e
  have hn := name_is h
  rcases hy with hy | hy | hy | hy
  · obtain ⟨l, rfl, _, _, _, h4⟩ := h
    exact h4 hy
  · subst hy
    exact absurd hn (by decide +kernel)
  · subst hy
    exact absurd hn (by decide +kernel)
  · rw [hy] at hn
    cases hn
theorem name_len {x : Str} (h : NameOk x) : x.length ≤ 6 := by
  obtain ⟨l, rfl, _, _, h3, _⟩ := h
  rw [len_sign]
  exact h3
theorem con_len {x : Str} (h : ConOk x) : x.length ≤ 6 := by
  obtain ⟨l, rfl, _, _, h3⟩ := h
  rw [len_sign]
  exact h3
/-- a promise with a ghost -/
def spG {ι γ : Type} (M : Fam ι) (v : V) (Pre : γ → ι → List D → Prop) (R : γ → ι → List D → D → ι → Prop) : Sp := fun vs H Q E => ∃ g, spY M v (Pre g) (R g) vs H Q E
theorem yd_callG {ι γ : Type} {M : Fam ι} {i : ι} {es : Es} {tas : TA} {v : V} {n : Nat} {Pre : γ → ι → List D → Prop} {R : γ → ι → List D → D → ι → Prop} {Ra : List D → ι → Prop} {E0 : XK} (g : γ) (hi : es[n]? = some (.r v)) (h : YDs M i tas es Ra) (hp : ∀ xs j, Ra xs j → Pre g j xs) : YD M i (tCall (spG M v Pre R) [] E0 (tCons (tVar n) tas)) es (fun z k => ∃ xs j, Ra xs j ∧ R g j xs z k) := fun S A B H σ E w Q q =>
  ⟨v, E.raw n v hi, h S A B H σ E w _ fun vs H2 xs j r g1 q1 k => by
    have E2 := w.en2 E g1 q1
    refine ⟨g, _, xs, vs, j, by rw [List.append_nil], E2.dmx, fun a s => .inl (w.vol a s).1, q1, (w.at2 q1).k2 E2, k, hp xs j r, fun d m w' H3 r3 g3 j3 k3 => ?_⟩
    exact q w' H3 d m ⟨xs, j, r, r3⟩ (g1.trans g3) j3 k3⟩
section
variable {P : Program} {w : World} {K : PySem.W.Frag} {mg : Str → Option Value} {base : Heap}
theorem yd_tword {r l : Addr} {ws us : List Str} {u : Str} {n k : Nat} {es : Es} {E0 : XK} (hi : es[n]? = some (.r (.ref r))) (h : Wat ws k (u :: us)) : YD (rM mg r l ws) k (tMeth (C_Reader mg) "take_word" (spY (rM mg r l ws) (.ref r) (preW ws) (relT ws)) [] E0 (tVar n) (tCons (tC (.str u)) tNil)) es (fun z j => j = k + 1) :=
  yd_imp (yd_methY (RdM.me (by decide +kernel) (by decide +kernel)) hi (yds_eds (ea_cons ed_str ea_nil)) fun xs j ⟨e, ej⟩ => by
    subst ej
    exact ⟨by rw [e, h.gw], h.lt⟩) fun d j ⟨xs, j0, ⟨_, ej⟩, e, ej2⟩ => by
    subst ej
    exact ej2
theorem yd_tname {r l : Addr} {ws us : List Str} {u : Str} {n k : Nat} {es : Es} {te : TE} {d : D} {E0 : XK} (others : List Str) (hi : es[n]? = some (.r (.ref r))) (h : Wat ws k (u :: us)) (hn : NameOk u) (hd : ED te es d) (hd2 : d = tS others ∨ d = .l (others.map D.s)) (ho : u ∉ others) : YD (rM mg r l ws) k (tMeth (C_Reader mg) "take_name" (spY (rM mg r l ws) (.ref r) (preN isNm ws) (relT ws)) [] E0 (tVar n) (tCons te tNil)) es (fun z j => z = .s u ∧ j = k + 1) :=
  yd_imp (yd_methY (RdM.me (by decide +kernel) (by decide +kernel)) hi (yds_eds (ea_cons hd ea_nil)) fun xs j ⟨e, ej⟩ => by
    subst ej
    refine ⟨others, ?_, h.lt, by rw [h.gw]; exact Nat.le_trans (name_len hn) (by decide), by rw [h.gw]; exact name_is hn, by rw [h.gw]; exact ho⟩
    rcases hd2 with z | z
    · exact .inl (by rw [e, z])
    · exact .inr (by rw [e, z])) fun d j ⟨xs, j0, ⟨_, ej⟩, e, ej2⟩ => by
    subst ej
    exact ⟨by rw [e, h.gw], ej2⟩
theorem yd_tcon {r l : Addr} {ws us : List Str} {u : Str} {n k : Nat} {es : Es} {te : TE} {d : D} {E0 : XK} (others : List Str) (hi : es[n]? = some (.r (.ref r))) (h : Wat ws k (u :: us)) (hn : ConOk u) (hd : ED te es d) (hd2 : d = tS others ∨ d = .l (others.map D.s)) (ho : u ∉ others) : YD (rM mg r l ws) k (tMeth (C_Reader mg) "take_constructor" (spY (rM mg r l ws) (.ref r) (preN isCn ws) (relT ws)) [] E0 (tVar n) (tCons te tNil)) es (fun z j => z = .s u ∧ j = k + 1) :=
  yd_imp (yd_methY (RdM.me (by decide +kernel) (by decide +kernel)) hi (yds_eds (ea_cons hd ea_nil)) fun xs j ⟨e, ej⟩ => by
    subst ej
    refine ⟨others, ?_, h.lt, by rw [h.gw]; exact Nat.le_trans (con_len hn) (by decide), by rw [h.gw]; exact con_is hn, by rw [h.gw]; exact ho⟩
    rcases hd2 with z | z
    · exact .inl (by rw [e, z])
    · exact .inr (by rw [e, z])) fun d j ⟨xs, j0, ⟨_, ej⟩, e, ej2⟩ => by
    subst ej
    exact ⟨by rw [e, h.gw], ej2⟩
def preNs (ws : List Str) (xs : List Str) (k : Nat) (ds : List D) : Prop := ∃ b : Bool, ds = [.b b] ∧ Wat ws k (("(" : Str) :: (xs ++ [(")" : Str)])) ∧ (∀ x ∈ xs, NameOk x) ∧ (b = true → xs.Nodup) ∧ xs.length ≤ 4
def relNs (xs : List Str) (k : Nat) (_ : List D) (d : D) (j : Nat) : Prop := d = tS xs ∧ j = k + (xs.length + 2)
theorem k_read_names (F : Facts K mg w) (r l : Addr) (ws : List Str) : C8.Cal P w K mg base 4 "read_names" (spG (rM mg r l ws) (.ref r) (preNs ws) relNs) [] := by
  have m_Reader_ahead := k_ahead (P := P) (w := w) (base := base) F r l ws
  have m_Reader_take_word := k_take_word (P := P) (w := w) (base := base) F r l ws
  have m_Reader_take_name := k_take_name (P := P) (w := w) (base := base) F r l ws
  refine F.read_names.cal fun f fd hf => fn_ex fun xs => fn_Y hf sc_read_names (fun _ ds ⟨b, e, _⟩ => by subst e; rfl) (fun cdv A outer s H E hr => ⟨_, (pss_cons (ps_set (i := 2) sc_read_names.nd rfl (Or.inl rfl) (pe_tup pa_nil))
    (pss_cons (ps_expr (C8.pe_mt m_Reader_take_word hr (by first | decide | omega) (pv 0) (pa_cons pe_str pa_nil)))
    (pss_cons (ps_while PassesOwn.never (PW.pt (pw_and (pt_cmpR op_ne (C8.pe_mt0 m_Reader_ahead hr (by first | decide | omega) (pv 0)) pe_str (nomark _)) (pw_and1 (pt_cmpR op_lt (pe_callB (Nz.cLen K) rfl F.b_len Nz.boot_len (pa_cons (pv 2) pa_nil)) (Nz.pe_gE (v := V.int 4) rfl F.g_MOST_AT_ONCE) (nomark _))))) (pss_one (ps_set (i := 2) sc_read_names.nd rfl (Or.inl rfl) (pe_op (Nz.catA K) (pv 2) (pe_tup (pa_cons (C8.pe_mt m_Reader_take_name hr (by first | decide | omega) (pv 0) (pa_cons (pe_ifExp (pt_val (pv 1)) (pv 2) (pe_tup pa_nil)) pa_nil)) pa_nil))))))
    (pss_cons (ps_expr (C8.pe_mt m_Reader_take_word hr (by first | decide | omega) (pv 0) (pa_cons pe_str pa_nil)))
    (pss_one (ps_ret (pv 2))))))), fun k ds hP => ?_⟩)
  obtain ⟨b, rfl, hw, hn, hd, h4⟩ := hP
  have t0 : ED (tTup tNil) [.r (.ref r), .d (.b b), .no] (tS []) := ed_tup ea_nil (Nat.zero_le _)
  refine syq_setY (yd_ed t0) fun d j ⟨e, ej⟩ => ?_
  subst e ej
  refine syq_dropY (yd_tword rfl hw) fun d j' ej => ?_
  subst ej
  refine sy_seq (fun e j' => e = [.r (.ref r), .d (.b b), .d (tS xs)] ∧ j' = j + 1 + xs.length) ?_ ?_
  · refine sy_whileY (fun m e j' => ∃ xa xb, xs = xa ++ xb ∧ m = xb.length ∧ e = [.r (.ref r), .d (.b b), .d (tS xa)] ∧ j' = j + 1 + xa.length) xs.length ⟨[], xs, rfl, rfl, rfl, rfl⟩ (fun m e j' he => ?_)
    obtain ⟨xa, xb, ex, rfl, rfl, rfl⟩ := he
    have hw2 : Wat ws (j + 1 + xa.length) (xb ++ [(")" : Str)]) := by
      have := hw.next
      rw [ex, List.append_assoc] at this
      exact this.right
    have lx : xs.length = xa.length + xb.length := by rw [ex, List.length_append]
    cases xb with
    | nil =>
      refine ⟨fun c j' => c = false ∧ j' = j + 1 + xa.length, yt_imp (yt_and (R2 := fun c j' => c = false ∧ j' = j + 1 + xa.length) (yt_test (R := fun c j' => c = false ∧ j' = j + 1 + xa.length) (yd_imp (yd_opL (R3 := fun _ z j' => z = .b false ∧ j' = j + 1 + xa.length) (yd_ahead rfl hw2.le) ed_str fun x j' ⟨e, ej⟩ => ?_) fun d j' ⟨_, _, e, ej⟩ => ⟨_, e, rfl, ej⟩)) fun j' ⟨e, _⟩ => by cases e) fun c j' h => ?_, fun j' ⟨e, _⟩ => (by cases e), fun j' ⟨_, ej⟩ => ?_⟩
      · subst e ej
        refine ⟨_, rd_neS, ?_, rfl⟩
        rw [hw2.gw, decide_eq_true rfl]
        rfl
      · rcases h with ⟨e, _, ej⟩ | ⟨_, ⟨e, _⟩, _⟩
        · exact ⟨e, ej⟩
        · cases e
      · subst ej
        rw [List.append_nil] at ex
        subst ex
        exact ⟨rfl, rfl⟩
    | cons y yb =>
      have hy : NameOk y := hn y (by rw [ex]; simp)
      have ny : y ≠ ")" := name_ne hy (.inr (.inr (.inl rfl)))
      have la : xa.length < 4 := by
        rw [List.length_cons] at lx
        omega
      refine ⟨fun c j' => c = true ∧ j' = j + 1 + xa.length, yt_imp (yt_and (R2 := fun c j' => c = true ∧ j' = j + 1 + xa.length) (yt_test (R := fun c j' => c = true ∧ j' = j + 1 + xa.length) (yd_imp (yd_opL (R3 := fun _ z j' => z = .b true ∧ j' = j + 1 + xa.length) (yd_ahead rfl hw2.le) ed_str fun x j' ⟨e, ej⟩ => ?_) fun d j' ⟨_, _, e, ej⟩ => ⟨_, e, rfl, ej⟩)) fun j' ⟨_, ej⟩ => ?_) fun c j' h => ?_, fun j' ⟨_, ej⟩ => ?_, fun j' ⟨e, _⟩ => by cases e⟩
      · subst e ej
        refine ⟨_, rd_neS, ?_, rfl⟩
        rw [hw2.gw, decide_eq_false ny]
        rfl
      · subst ej
        refine yt_imp (yt_et (et_test (ed_op (ed_cb (ea_cons (ed_var rfl) ea_nil) rc_lenT) ed_int (rd_bool rfl)))) fun c j' ⟨e, ej⟩ => ⟨?_, ej⟩
        rw [e, List.length_map]
        exact decide_eq_true (by omega)
      · rcases h with ⟨_, e, _⟩ | ⟨_, _, e, ej⟩
        · cases e
        · exact ⟨e, ej⟩
      · subst ej
        have oth : ∃ others : List Str, ED (tIf (tB (tVar 1)) (tVar 2) (tTup tNil)) [.r (.ref r), .d (.b b), .d (tS xa)] (tS others) ∧ y ∉ others := by
          cases b with
          | true =>
            refine ⟨xa, ed_if (b := true) (et_B (ed_var rfl)) (fun _ => ed_var rfl) (fun h => by cases h), fun m => ?_⟩
            have nd := hd rfl
            rw [ex, List.nodup_append] at nd
            exact nd.2.2 y m y (List.mem_cons_self ..) rfl
          | false => exact ⟨[], ed_if (b := false) (et_B (ed_var rfl)) (fun h => by cases h) (fun _ => ed_tup ea_nil (Nat.zero_le _)), by simp⟩
        obtain ⟨others, ho, no⟩ := oth
        refine sy_setY (yd_opR (R3 := fun _ z j' => z = tS (xa ++ [y]) ∧ j' = j + 1 + xa.length + 1) (ed_var rfl) (yd_tup (ys_one (yd_tname others rfl hw2 hy ho (.inl rfl) no)) fun ds j' ⟨d, e, _⟩ => by subst e; exact short_size rfl) fun z j' ⟨ds, e, d, e2, e3, ej⟩ => ?_) fun d j' ⟨_, _, e, ej⟩ => ?_
        · subst e e2 e3 ej
          refine ⟨_, rd_catT (by rw [List.length_map]; exact small4 (by show xa.length + 1 ≤ 1000; omega)), ?_, rfl⟩
          show D.t _ = D.t _
          rw [List.map_append]
          rfl
        · subst e ej
          refine ⟨yb.length, Nat.lt_succ_self _, xa ++ [y], yb, by rw [ex]; simp, rfl, rfl, by rw [List.length_append]; rfl⟩
  · rintro e j' ⟨rfl, rfl⟩
    have hw3 : Wat ws (j + 1 + xs.length) [(")" : Str)] := hw.next.right
    refine syq_dropY (yd_tword rfl hw3) fun d j' ej => ?_
    subst ej
    exact sy_ret (ed_var rfl) ⟨rfl, by omega⟩
theorem yd_names {r l : Addr} {ws us : List Str} {xs : List Str} {n k : Nat} {es : Es} {te : TE} {b : Bool} {E0 : XK} (hi : es[n]? = some (.r (.ref r))) (h : Wat ws k (("(" : Str) :: (xs ++ (")" : Str) :: us))) (hb : ED te es (.b b)) (hn : ∀ x ∈ xs, NameOk x) (hd : b = true → xs.Nodup) (h4 : xs.length ≤ 4) : YD (rM mg r l ws) k (tCall (spG (rM mg r l ws) (.ref r) (preNs ws) relNs) [] E0 (tCons (tVar n) (tCons te tNil))) es (fun z j => z = tS xs ∧ j = k + (xs.length + 2)) :=
  yd_imp (yd_callG xs hi (yds_eds (ea_cons hb ea_nil)) fun ys j ⟨e, ej⟩ => by
    subst ej
    refine ⟨b, e, ?_, hn, hd, h4⟩
    have e2 : ("(" : Str) :: (xs ++ (")" : Str) :: us) = (("(" : Str) :: (xs ++ [(")" : Str)])) ++ us := by simp
    rw [e2] at h
    exact h.left) fun d j ⟨xs, j0, ⟨_, ej⟩, e, ej2⟩ => by
    subst ej
    exact ⟨e, ej2⟩
/-- make C ( .. ) -/
def preMk (ws : List Str) (g : Str × List Str) (k : Nat) (ds : List D) : Prop := ds = [] ∧ Wat ws k (("make" : Str) :: g.1 :: ("(" : Str) :: (g.2 ++ [(")" : Str)])) ∧ ConOk g.1 ∧ (∀ x ∈ g.2, NameOk x) ∧ g.2.length ≤ 4
def relMk (g : Str × List Str) (k : Nat) (_ : List D) (d : D) (j : Nat) : Prop := d = .t [.s "make", .s g.1, tS g.2] ∧ j = k + (g.2.length + 4)
theorem k_read_make (F : Facts K mg w) (r l : Addr) (ws : List Str) : C8.Cal P w K mg base 5 "read_make" (spG (rM mg r l ws) (.ref r) (preMk ws) relMk) [] := by
  have m_Reader_take_word := k_take_word (P := P) (w := w) (base := base) F r l ws
  have m_Reader_take_constructor := k_take_constructor (P := P) (w := w) (base := base) F r l ws
  have c_read_names := k_read_names (P := P) (w := w) (base := base) F r l ws
  refine F.read_make.cal fun f fd hf => fn_ex fun g => fn_Y hf sc_read_make (fun _ ds ⟨e, _⟩ => by subst e; rfl) (fun cdv A outer s H E hr => ⟨_, (pss_cons (ps_expr (C8.pe_mt m_Reader_take_word hr (by first | decide | omega) (pv 0) (pa_cons pe_str pa_nil)))
    (pss_cons (ps_set (i := 1) sc_read_make.nd rfl (Or.inl rfl) (C8.pe_mt m_Reader_take_constructor hr (by first | decide | omega) (pv 0) (pa_cons (pe_tup pa_nil) pa_nil)))
    (pss_one (ps_ret (pe_tup (pa_cons pe_str (pa_cons (pv 1) (pa_cons (C8.pe_c c_read_names hr (by first | decide | omega) rfl (pa_cons (pv 0) (pa_cons pe_bl pa_nil))) pa_nil)))))))), fun k ds hP => ?_⟩)
  obtain ⟨c, xs⟩ := g
  obtain ⟨rfl, hw, hc, hn, h4⟩ := hP
  refine syq_dropY (yd_tword rfl hw) fun d j ej => ?_
  subst ej
  refine syq_setY (yd_tcon [] rfl hw.next hc (ed_tup ea_nil (Nat.zero_le _)) (.inl rfl) (by simp)) fun d j ⟨e, ej⟩ => ?_
  subst e ej
  refine sy_retY (yd_tup (ys_ced ed_str (ys_ced (ed_var rfl) (ys_one (yd_names rfl hw.next.next ed_bl hn (fun h => by cases h) h4)))) fun ds j r => ?_) fun d j r => ?_
  · obtain ⟨_, rfl, _, rfl, _, rfl, _⟩ := r
    exact short_size rfl
  · obtain ⟨_, rfl, _, rfl, _, rfl, _, rfl, rfl, rfl⟩ := r
    exact ⟨rfl, by show k + 1 + 1 + (xs.length + 2) = k + (xs.length + 4); omega⟩
end
end Nz
namespace Nz
open PySem L2
def okT (left n : Nat) (t : Tm) : Prop := Wf t ∧ Wn t ∧ dep t ≤ left ∧ dep t ≤ n
def preP (ws : List Str) (n : Nat) (t : Tm) (k : Nat) (ds : List D) : Prop := ∃ left : Nat, ds = [.i (left : Int)] ∧ okT left n t ∧ Wat ws k (wd t)
def relP (t : Tm) (k : Nat) (_ : List D) (d : D) (j : Nat) : Prop := d = enc t ∧ j = k + (wd t).length
theorem zip_snoc {α β : Type} {xs : List α} {ys : List β} {x : α} {y : β} (h : ys.length = xs.length) : (xs ++ [x]).zip (ys ++ [y]) = xs.zip ys ++ [(x, y)] := by
  rw [List.zip_append h.symm]
  rfl
section
variable {P : Program} {w : World} {K : PySem.W.Frag} {mg : Str → Option Value} {base : Heap}
theorem yd_part {r l : Addr} {ws us : List Str} {nn n k left : Nat} {t : Tm} {es : Es} {te : TE} {E0 : XK} (hi : es[n]? = some (.r (.ref r))) (hd : ED te es (.i (left : Int))) (ht : okT left nn t) (h : Wat ws k (wd t ++ us)) : YD (rM mg r l ws) k (tCall (spG (rM mg r l ws) (.ref r) (preP ws nn) relP) [] E0 (tCons (tVar n) (tCons te tNil))) es (fun z j => z = enc t ∧ j = k + (wd t).length) :=
  yd_imp (yd_callG t hi (yds_eds (ea_cons hd ea_nil)) fun ys j ⟨e, ej⟩ => by
    subst ej
    exact ⟨left, e, ht, h.left⟩) fun d j ⟨xs, j0, ⟨_, ej⟩, e, ej2⟩ => by
    subst ej
    exact ⟨e, ej2⟩
structure LetG where
  xs : List Str
  ms : List Tm
  m : Tm
def LetG.ws (g : LetG) : List Str := letW g.xs ((g.ms ++ [g.m]).map wd)
def preL (ws : List Str) (n : Nat) (g : LetG) (k : Nat) (ds : List D) : Prop := ∃ left : Nat, ds = [.i (left : Int)] ∧ g.ms.length = g.xs.length ∧ 1 ≤ g.xs.length ∧ g.xs.length ≤ 4 ∧ (∀ x ∈ g.xs, NameOk x) ∧ g.xs.Nodup ∧ (∀ t ∈ g.ms, okT left n t) ∧ okT left n g.m ∧ Wat ws k (("let" : Str) :: g.ws)
def relL (g : LetG) (k : Nat) (_ : List D) (d : D) (j : Nat) : Prop := d = .t [.s "let", .t ((g.xs.zip g.ms).map fun p => .t [.s p.1, enc p.2]), enc g.m] ∧ j = k + (1 + g.ws.length)
abbrev prsD (xs : List Str) (ms : List Tm) : List D := (xs.zip ms).map fun p => .t [.s p.1, enc p.2]
theorem k_read_let (F : Facts K mg w) (r l : Addr) (ws : List Str) (n q : Nat) (hq : 4 ≤ q) (c_read_part : C8.Cal P w K mg base q "read_part" (spG (rM mg r l ws) (.ref r) (preP ws n) relP) []) : C8.Cal P w K mg base (q + 1) "read_let" (spG (rM mg r l ws) (.ref r) (preL ws n) relL) [] := by
  have m_Reader_ahead := k_ahead (P := P) (w := w) (base := base) F r l ws
  have m_Reader_take_word := k_take_word (P := P) (w := w) (base := base) F r l ws
  have m_Reader_take_name := k_take_name (P := P) (w := w) (base := base) F r l ws
  refine F.read_let.cal fun f fd hf => fn_ex fun g => fn_Y hf sc_read_let (fun _ ds ⟨b, e, _⟩ => by subst e; rfl) (fun cdv A outer s H E hr => ⟨_, (pss_cons (ps_set (i := 2) sc_read_let.nd rfl (Or.inl rfl) (pe_lst pa_nil))
    (pss_cons (ps_expr (C8.pe_mt m_Reader_take_word hr (by first | decide | omega) (pv 0) (pa_cons pe_str pa_nil)))
    (pss_cons (ps_while PassesOwn.never (PW.pt (pw_or (pt_not (Nz.ptTru K (pv 2))) (pw_or1 (PW.pt (pw_and (pt_cmpR op_ne (C8.pe_mt0 m_Reader_ahead hr (by first | decide | omega) (pv 0)) pe_str (nomark _)) (pw_and1 (pt_cmpR op_lt (pe_callB (Nz.cLen K) rfl F.b_len Nz.boot_len (pa_cons (pv 2) pa_nil)) (Nz.pe_gE (v := V.int 4) rfl F.g_MOST_AT_ONCE) (nomark _)))))))) (pss_cons (ps_set (i := 3) sc_read_let.nd rfl (Or.inl rfl) (C8.pe_mt m_Reader_take_name hr (by first | decide | omega) (pv 0) (pa_cons (pe_lc (own := [("pair", 4)]) (g := (gName 4)) rfl sc_read_let.nd (Nz.piL K (pv 2)) (blkOk_by (own := [("pair", 4)]) (N := n_read_let) (sc := defScope s_read_let) (by decide +kernel)) (fun _ _ _ _ _ => (pg_name (i := 4) sc_read_let.nd rfl (Or.inl rfl))) (fun _ _ _ _ _ => pts_nil) (fun _ _ _ _ _ => (pe_ix (Nz.ixT K) (pv 4) pe_int (fun _ _ => rfl)))) pa_nil)))
    (pss_one (ps_expr (pe_bm PySem.F.plainAttrs_list PySem.F.slot_list_append PySem.F.type_list_append mt_append (pv 2) (pa_cons (pe_tup (pa_cons (pv 3) (pa_cons (C8.pe_c c_read_part hr (by first | decide | omega) rfl (pa_cons (pv 0) (pa_cons (pv 1) pa_nil))) pa_nil))) pa_nil))))))
    (pss_cons (ps_expr (C8.pe_mt m_Reader_take_word hr (by first | decide | omega) (pv 0) (pa_cons pe_str pa_nil)))
    (pss_one (ps_ret (pe_tup (pa_cons pe_str (pa_cons (pe_callTy (Nz.cTup K) rfl F.b_tuple Nz.boot_tuple (pa_cons (pv 2) pa_nil)) (pa_cons (C8.pe_c c_read_part hr (by first | decide | omega) rfl (pa_cons (pv 0) (pa_cons (pv 1) pa_nil))) pa_nil)))))))))), fun k ds hP => ?_⟩)
  obtain ⟨xs, ms, m⟩ := g
  obtain ⟨left, rfl, hlen, h1, h4, hn, hd, hms, hm, hw⟩ := hP
  have hlen' : ms.length = xs.length := hlen
  have h1' : 1 ≤ xs.length := h1
  have h4' : xs.length ≤ 4 := h4
  refine syq_setO (el_lst ea_nil (Nat.zero_le _)) ?_
  refine syq_dropY (yd_tword rfl hw) fun d j' ej => ?_
  subst ej
  refine sy_seq (fun e j' => ∃ κ, e = [.r (.ref r), .d (.i (left : Int)), .o (.l (prsD xs ms)), κ, .no] ∧ Wat ws j' (("in" : Str) :: wd m) ∧ j' + (1 + (wd m).length) = k + (1 + (LetG.ws ⟨xs, ms, m⟩).length)) ?_ ?_
  · refine sy_whileY (fun c e j' => ∃ xa xb ma mb κ, xs = xa ++ xb ∧ ms = ma ++ mb ∧ ma.length = xa.length ∧ c = xb.length ∧ e = [.r (.ref r), .d (.i (left : Int)), .o (.l (prsD xa ma)), κ, .no] ∧ Wat ws j' (letW xb ((mb ++ [m]).map wd)) ∧ j' + (letW xb ((mb ++ [m]).map wd)).length = k + (1 + (LetG.ws ⟨xs, ms, m⟩).length)) xs.length ⟨[], xs, [], ms, .no, rfl, rfl, rfl, rfl, rfl, hw.next, by show k + 1 + (letW xs ((ms ++ [m]).map wd)).length = k + (1 + (letW xs ((ms ++ [m]).map wd)).length); omega⟩ (fun c e j' he => ?_)
    obtain ⟨xa, xb, ma, mb, κ, ex, em, hl, rfl, rfl, hw2, hj⟩ := he
    have lx : xs.length = xa.length + xb.length := by rw [ex, List.length_append]
    have lm : ms.length = ma.length + mb.length := by rw [em, List.length_append]
    have zl : (xa.zip ma).length = xa.length := by rw [List.length_zip, hl]; exact Nat.min_self _
    cases xb with
    | nil =>
      have emb : mb = [] := List.length_eq_zero_iff.mp (by rw [List.length_nil] at lx; omega)
      subst emb
      rw [List.append_nil] at ex em
      subst ex em
      have hw3 : Wat ws j' (("in" : Str) :: wd m) := hw2
      refine ⟨fun c i => c = false ∧ i = j', yt_imp (yt_or (R2 := fun c i => c = false ∧ i = j') (yt_et (et_not (et_truL (ex_own rfl)))) fun i ⟨_, ei⟩ => ?_) fun c i h => ?_, fun i ⟨e, _⟩ => (by cases e), fun i ⟨_, ei⟩ => ?_⟩
      · subst ei
        refine yt_imp (yt_and (R1 := fun c i' => c = false ∧ i' = i) (R2 := fun c i' => c = false ∧ i' = i) (yt_test (yd_imp (yd_opL (R3 := fun _ z i' => z = .b false ∧ i' = i) (yd_ahead rfl hw3.le) ed_str fun x i' ⟨e, ei⟩ => ?_) fun d i' ⟨_, _, e, ei⟩ => ⟨_, e, rfl, ei⟩)) fun i' ⟨e, _⟩ => (by cases e)) fun c i' h => ?_
        · subst e ei
          refine ⟨_, rd_neS, ?_, rfl⟩
          rw [hw3.gw, decide_eq_true rfl]
          rfl
        · rcases h with ⟨e, _, ei⟩ | ⟨_, ⟨e, _⟩, _⟩
          · exact ⟨e, ei⟩
          · cases e
      · rcases h with ⟨e, e2, ei⟩ | ⟨_, _, e, ei⟩
        · exfalso
          have z : (!(!(prsD xs ms).isEmpty)) = true := e2.symm
          rw [Bool.not_not, List.isEmpty_iff_length_eq_zero, List.length_map, zl] at z
          omega
        · exact ⟨e, ei⟩
      · subst ei
        refine ⟨κ, rfl, hw3, ?_⟩
        have e : (letW [] (([] ++ [m]).map wd)).length = 1 + (wd m).length := by
          show (("in" : Str) :: wd m).length = _
          rw [List.length_cons]
          omega
        rw [e] at hj
        exact hj
    | cons y yb =>
      cases mb with
      | nil =>
        rw [List.length_cons] at lx
        rw [List.length_nil] at lm
        omega
      | cons t tb =>
        have hw3 : Wat ws j' (y :: (wd t ++ letW yb ((tb ++ [m]).map wd))) := hw2
        have hy : NameOk y := hn y (by rw [ex]; simp)
        have ht : okT left n t := hms t (by rw [em]; simp)
        have ny : y ≠ "in" := name_ne hy (.inl (by decide))
        have la : xa.length < 4 := by
          rw [List.length_cons] at lx
          omega
        have nx : y ∉ xa := fun z => by
          have hd' : xs.Nodup := hd
          rw [ex, List.nodup_append] at hd'
          exact hd'.2.2 y z y (List.mem_cons_self ..) rfl
        refine ⟨fun c i => c = true ∧ i = j', yt_imp (yt_or (R2 := fun c i => c = true ∧ i = j') (yt_et (et_not (et_truL (ex_own rfl)))) fun i ⟨_, ei⟩ => ?_) fun c i h => ?_, fun i ⟨_, ei⟩ => ?_, fun i ⟨e, _⟩ => (by cases e)⟩
        · subst ei
          refine yt_imp (yt_and (R1 := fun c i' => c = true ∧ i' = i) (R2 := fun c i' => c = true ∧ i' = i) (yt_test (yd_imp (yd_opL (R3 := fun _ z i' => z = .b true ∧ i' = i) (yd_ahead rfl hw3.le) ed_str fun x i' ⟨e, ei⟩ => ?_) fun d i' ⟨_, _, e, ei⟩ => ⟨_, e, rfl, ei⟩)) fun i' ⟨_, ei⟩ => ?_) fun c i' h => ?_
          · subst e ei
            refine ⟨_, rd_neS, ?_, rfl⟩
            rw [hw3.gw, decide_eq_false ny]
            rfl
          · subst ei
            refine yt_imp (yt_et (et_test (ed_op (ed_lenO rfl) ed_int (rd_bool rfl)))) fun c i ⟨e, ei⟩ => ⟨?_, ei⟩
            rw [e, List.length_map, zl]
            exact decide_eq_true (by omega)
          · rcases h with ⟨_, e, _⟩ | ⟨_, _, e, ei⟩
            · cases e
            · exact ⟨e, ei⟩
        · rcases h with ⟨e, _, ei⟩ | ⟨_, _, e, ei⟩
          · exact ⟨e, ei⟩
          · exact ⟨e, ei⟩
        · subst ei
          refine syq_setY (yd_tname xa rfl hw3 hy (EL.toD (el_lcMc (vs := [4]) (xa.zip ma) (fun p => .t [.s p.1, enc p.2]) (fun p => .s p.1) (small4 (by rw [zl]; omega)) rfl (src_own rfl) fun z hz => ⟨_, gw_name rfl, ed_op (ed_var rfl) ed_int rd_ixT0⟩)) (.inr (by rw [map_zip_fst (f := D.s) hl])) nx) fun d i' ⟨e, ei⟩ => ?_
          subst e ei
          refine sy_appY rfl (yd_tup (ys_ced (ed_var rfl) (ys_one (yd_part rfl (ed_var rfl) ht hw3.next))) fun ds j r => ?_) (by rw [List.length_map, zl]; exact Nat.lt_of_lt_of_le (show xa.length < 1000 by omega) (by decide)) fun d i' r => ?_
          · obtain ⟨_, rfl, _, rfl, _⟩ := r
            exact short_size rfl
          · obtain ⟨_, rfl, _, rfl, _, rfl, rfl, rfl⟩ := r
            refine ⟨yb.length, Nat.lt_succ_self _, xa ++ [y], yb, ma ++ [t], tb, .d (.s y), by rw [ex]; simp, by rw [em]; simp, by rw [List.length_append, List.length_append, hl]; rfl, rfl, ?_, hw3.next.right, ?_⟩
            · show [_, _, Sl.o (Cn.l (prsD xa ma ++ [_])), _, _] = [_, _, Sl.o (Cn.l (prsD (xa ++ [y]) (ma ++ [t]))), _, _]
              rw [show prsD (xa ++ [y]) (ma ++ [t]) = prsD xa ma ++ [.t [.s y, enc t]] by unfold prsD; rw [zip_snoc hl, List.map_append]; rfl]
            · have e : (letW (y :: yb) ((t :: tb ++ [m]).map wd)).length = 1 + ((wd t).length + (letW yb ((tb ++ [m]).map wd)).length) := by
                show (y :: (wd t ++ letW yb ((tb ++ [m]).map wd))).length = _
                rw [List.length_cons, List.length_append]
                omega
              rw [e] at hj
              omega
  · rintro e j' ⟨κ, rfl, hw3, hj⟩
    refine syq_dropY (yd_tword rfl hw3) fun d i ei => ?_
    subst ei
    have hw4 : Wat ws (j' + 1) (wd m ++ []) := by
      rw [List.append_nil]
      exact hw3.next
    refine sy_retY (yd_tup (ys_ced ed_str (ys_ced (ed_tupo rfl) (ys_one (yd_part rfl (ed_var rfl) hm hw4)))) fun ds j r => ?_) fun d j r => ?_
    · obtain ⟨_, rfl, _, rfl, _, rfl, _⟩ := r
      exact short_size rfl
    · obtain ⟨_, rfl, _, rfl, _, rfl, _, rfl, rfl, rfl⟩ := r
      exact ⟨rfl, by show j' + 1 + (wd m).length = _; omega⟩
structure CaseG where
  s : Tm
  rs : List (Str × List Str)
  ms : List Tm
def CaseG.ws (g : CaseG) : List Str := wd g.s ++ caseW g.rs (g.ms.map wd)
def rowOk (r : Str × List Str) : Prop := ConOk r.1 ∧ (∀ x ∈ r.2, NameOk x) ∧ r.2.Nodup ∧ r.2.length ≤ 4
def preC (ws : List Str) (n : Nat) (g : CaseG) (k : Nat) (ds : List D) : Prop := ∃ left : Nat, ds = [.i (left : Int)] ∧ g.ms.length = g.rs.length ∧ 1 ≤ g.rs.length ∧ g.rs.length ≤ 4 ∧ (∀ r ∈ g.rs, rowOk r) ∧ (g.rs.map (·.1)).Nodup ∧ (∀ t ∈ g.ms, okT left n t) ∧ okT left n g.s ∧ Wat ws k (("case" : Str) :: g.ws)
def relC (g : CaseG) (k : Nat) (_ : List D) (d : D) (j : Nat) : Prop := d = .t [.s "case", enc g.s, .t (rowsD g.rs g.ms)] ∧ j = k + (1 + g.ws.length)
theorem k_read_case (F : Facts K mg w) (r l : Addr) (ws : List Str) (n q : Nat) (hq : 4 ≤ q) (c_read_part : C8.Cal P w K mg base q "read_part" (spG (rM mg r l ws) (.ref r) (preP ws n) relP) []) : C8.Cal P w K mg base (q + 1) "read_case" (spG (rM mg r l ws) (.ref r) (preC ws n) relC) [] := by
  have m_Reader_ahead := k_ahead (P := P) (w := w) (base := base) F r l ws
  have m_Reader_take_word := k_take_word (P := P) (w := w) (base := base) F r l ws
  have m_Reader_take_constructor := k_take_constructor (P := P) (w := w) (base := base) F r l ws
  have c_read_names := k_read_names (P := P) (w := w) (base := base) F r l ws
  refine F.read_case.cal fun f fd hf => fn_ex fun g => fn_Y hf sc_read_case (fun _ ds ⟨b, e, _⟩ => by subst e; rfl) (fun cdv A outer s H E hr => ⟨_, (pss_cons (ps_set (i := 2) sc_read_case.nd rfl (Or.inl rfl) (pe_lst pa_nil))
    (pss_cons (ps_expr (C8.pe_mt m_Reader_take_word hr (by first | decide | omega) (pv 0) (pa_cons pe_str pa_nil)))
    (pss_cons (ps_set (i := 3) sc_read_case.nd rfl (Or.inl rfl) (C8.pe_c c_read_part hr (by first | decide | omega) rfl (pa_cons (pv 0) (pa_cons (pv 1) pa_nil))))
    (pss_cons (ps_while PassesOwn.never (PW.pt (pw_or (pt_not (Nz.ptTru K (pv 2))) (pw_or1 (PW.pt (pw_and (pt_cmpR op_eq (C8.pe_mt0 m_Reader_ahead hr (by first | decide | omega) (pv 0)) pe_str (nomark _)) (pw_and1 (pt_cmpR op_lt (pe_callB (Nz.cLen K) rfl F.b_len Nz.boot_len (pa_cons (pv 2) pa_nil)) (Nz.pe_gE (v := V.int 4) rfl F.g_MOST_AT_ONCE) (nomark _)))))))) (pss_cons (ps_expr (C8.pe_mt m_Reader_take_word hr (by first | decide | omega) (pv 0) (pa_cons pe_str pa_nil)))
    (pss_cons (ps_set (i := 4) sc_read_case.nd rfl (Or.inl rfl) (C8.pe_mt m_Reader_take_constructor hr (by first | decide | omega) (pv 0) (pa_cons (pe_lc (own := [("row", 6)]) (g := (gName 6)) rfl sc_read_case.nd (Nz.piL K (pv 2)) (blkOk_by (own := [("row", 6)]) (N := n_read_case) (sc := defScope s_read_case) (by decide +kernel)) (fun _ _ _ _ _ => (pg_name (i := 6) sc_read_case.nd rfl (Or.inl rfl))) (fun _ _ _ _ _ => pts_nil) (fun _ _ _ _ _ => (pe_ix (Nz.ixT K) (pv 6) pe_int (fun _ _ => rfl)))) pa_nil)))
    (pss_cons (ps_set (i := 5) sc_read_case.nd rfl (Or.inl rfl) (C8.pe_c c_read_names hr (by first | decide | omega) rfl (pa_cons (pv 0) (pa_cons pe_bl pa_nil))))
    (pss_one (ps_expr (pe_bm PySem.F.plainAttrs_list PySem.F.slot_list_append PySem.F.type_list_append mt_append (pv 2) (pa_cons (pe_tup (pa_cons (pv 4) (pa_cons (pv 5) (pa_cons (C8.pe_c c_read_part hr (by first | decide | omega) rfl (pa_cons (pv 0) (pa_cons (pv 1) pa_nil))) pa_nil)))) pa_nil))))))))
    (pss_cons (ps_expr (C8.pe_mt m_Reader_take_word hr (by first | decide | omega) (pv 0) (pa_cons pe_str pa_nil)))
    (pss_one (ps_ret (pe_tup (pa_cons pe_str (pa_cons (pv 3) (pa_cons (pe_callTy (Nz.cTup K) rfl F.b_tuple Nz.boot_tuple (pa_cons (pv 2) pa_nil)) pa_nil))))))))))), fun k ds hP => ?_⟩)
  obtain ⟨sb, rs, ms⟩ := g
  obtain ⟨left, rfl, hlen, h1, h4, hrow, hd, hms, hs, hw⟩ := hP
  have hlen' : ms.length = rs.length := hlen
  have h1' : 1 ≤ rs.length := h1
  have h4' : rs.length ≤ 4 := h4
  refine syq_setO (el_lst ea_nil (Nat.zero_le _)) ?_
  refine syq_dropY (yd_tword rfl hw) fun d j' ej => ?_
  subst ej
  have hw1 : Wat ws (k + 1) (wd sb ++ caseW rs (ms.map wd)) := hw.next
  refine syq_setY (yd_part rfl (ed_var rfl) hs hw1) fun d j' ⟨e, ej⟩ => ?_
  subst e ej
  refine sy_seq (fun e j' => ∃ κ1 κ2, e = [.r (.ref r), .d (.i (left : Int)), .o (.l (rowsD rs ms)), .d (enc sb), κ1, κ2, .no] ∧ Wat ws j' [("end" : Str)] ∧ j' + 1 = k + (1 + (CaseG.ws ⟨sb, rs, ms⟩).length)) ?_ ?_
  · refine sy_whileY (fun c e j' => ∃ xa xb ma mb κ1 κ2, rs = xa ++ xb ∧ ms = ma ++ mb ∧ ma.length = xa.length ∧ c = xb.length ∧ e = [.r (.ref r), .d (.i (left : Int)), .o (.l (rowsD xa ma)), .d (enc sb), κ1, κ2, .no] ∧ Wat ws j' (caseW xb (mb.map wd)) ∧ j' + (caseW xb (mb.map wd)).length = k + (1 + (CaseG.ws ⟨sb, rs, ms⟩).length)) rs.length ⟨[], rs, [], ms, .no, .no, rfl, rfl, rfl, rfl, rfl, hw1.right, by show k + 1 + (wd sb).length + (caseW rs (ms.map wd)).length = k + (1 + (wd sb ++ caseW rs (ms.map wd)).length); rw [List.length_append]; omega⟩ (fun c e j' he => ?_)
    obtain ⟨xa, xb, ma, mb, κ1, κ2, ex, em, hl, rfl, rfl, hw2, hj⟩ := he
    have lx : rs.length = xa.length + xb.length := by rw [ex, List.length_append]
    have lm : ms.length = ma.length + mb.length := by rw [em, List.length_append]
    have zl : (xa.zip ma).length = xa.length := by rw [List.length_zip, hl]; exact Nat.min_self _
    cases xb with
    | nil =>
      have emb : mb = [] := List.length_eq_zero_iff.mp (by rw [List.length_nil] at lx; omega)
      subst emb
      rw [List.append_nil] at ex em
      subst ex em
      have hw3 : Wat ws j' [("end" : Str)] := hw2
      refine ⟨fun c i => c = false ∧ i = j', yt_imp (yt_or (R2 := fun c i => c = false ∧ i = j') (yt_et (et_not (et_truL (ex_own rfl)))) fun i ⟨_, ei⟩ => ?_) fun c i h => ?_, fun i ⟨e, _⟩ => (by cases e), fun i ⟨_, ei⟩ => ?_⟩
      · subst ei
        refine yt_imp (yt_and (R1 := fun c i' => c = false ∧ i' = i) (R2 := fun c i' => c = false ∧ i' = i) (yt_test (yd_imp (yd_opL (R3 := fun _ z i' => z = .b false ∧ i' = i) (yd_ahead rfl hw3.le) ed_str fun x i' ⟨e, ei⟩ => ?_) fun d i' ⟨_, _, e, ei⟩ => ⟨_, e, rfl, ei⟩)) fun i' ⟨e, _⟩ => (by cases e)) fun c i' h => ?_
        · subst e ei
          refine ⟨_, rd_eqS, ?_, rfl⟩
          rw [hw3.gw]
          rfl
        · rcases h with ⟨e, _, ei⟩ | ⟨_, ⟨e, _⟩, _⟩
          · exact ⟨e, ei⟩
          · cases e
      · rcases h with ⟨e, e2, ei⟩ | ⟨_, _, e, ei⟩
        · exfalso
          have z : (!(!(rowsD rs ms).isEmpty)) = true := e2.symm
          rw [Bool.not_not, List.isEmpty_iff_length_eq_zero, List.length_map, zl] at z
          omega
        · exact ⟨e, ei⟩
      · subst ei
        exact ⟨κ1, κ2, rfl, hw3, hj⟩
    | cons y yb =>
      cases mb with
      | nil =>
        rw [List.length_cons] at lx
        rw [List.length_nil] at lm
        omega
      | cons t tb =>
        obtain ⟨cn, xs⟩ := y
        have hw3 : Wat ws j' (("of" : Str) :: cn :: ("(" : Str) :: (xs ++ (")" : Str) :: (wd t ++ caseW yb (tb.map wd)))) := hw2
        obtain ⟨hc, hx, hnd, hx4⟩ := hrow (cn, xs) (by rw [ex]; simp)
        have ht : okT left n t := hms t (by rw [em]; simp)
        have la : xa.length < 4 := by
          rw [List.length_cons] at lx
          omega
        have nx : cn ∉ xa.map (·.1) := fun z => by
          have hd' : (rs.map (·.1)).Nodup := hd
          rw [ex, List.map_append, List.nodup_append] at hd'
          exact hd'.2.2 cn z cn (List.mem_cons_self ..) rfl
        refine ⟨fun c i => c = true ∧ i = j', yt_imp (yt_or (R2 := fun c i => c = true ∧ i = j') (yt_et (et_not (et_truL (ex_own rfl)))) fun i ⟨_, ei⟩ => ?_) fun c i h => ?_, fun i ⟨_, ei⟩ => ?_, fun i ⟨e, _⟩ => (by cases e)⟩
        · subst ei
          refine yt_imp (yt_and (R1 := fun c i' => c = true ∧ i' = i) (R2 := fun c i' => c = true ∧ i' = i) (yt_test (yd_imp (yd_opL (R3 := fun _ z i' => z = .b true ∧ i' = i) (yd_ahead rfl hw3.le) ed_str fun x i' ⟨e, ei⟩ => ?_) fun d i' ⟨_, _, e, ei⟩ => ⟨_, e, rfl, ei⟩)) fun i' ⟨_, ei⟩ => ?_) fun c i' h => ?_
          · subst e ei
            refine ⟨_, rd_eqS, ?_, rfl⟩
            rw [hw3.gw]
            rfl
          · subst ei
            refine yt_imp (yt_et (et_test (ed_op (ed_lenO rfl) ed_int (rd_bool rfl)))) fun c i ⟨e, ei⟩ => ⟨?_, ei⟩
            rw [e, List.length_map, zl]
            exact decide_eq_true (by omega)
          · rcases h with ⟨_, e, _⟩ | ⟨_, _, e, ei⟩
            · cases e
            · exact ⟨e, ei⟩
        · rcases h with ⟨e, _, ei⟩ | ⟨_, _, e, ei⟩
          · exact ⟨e, ei⟩
          · exact ⟨e, ei⟩
        · subst ei
          refine syq_dropY (yd_tword rfl hw3) fun d i' ei => ?_
          subst ei
          refine syq_setY (yd_tcon (xa.map (·.1)) rfl hw3.next hc (EL.toD (el_lcMc (vs := [6]) (xa.zip ma) (fun p => .t [.s p.1.1, tS p.1.2, enc p.2]) (fun p => .s p.1.1) (small4 (by rw [zl]; omega)) rfl (src_own rfl) fun z hz => ⟨_, gw_name rfl, ed_op (ed_var rfl) ed_int rd_ixT0⟩)) (.inr (by rw [map_zip_fst (f := fun r : Str × List Str => D.s r.1) hl, List.map_map]; rfl)) nx) fun d i' ⟨e, ei⟩ => ?_
          subst e ei
          refine syq_setY (yd_names rfl hw3.next.next ed_bl hx (fun _ => hnd) hx4) fun d i' ⟨e, ei⟩ => ?_
          subst e ei
          have hw5 : Wat ws (i + 1 + 1 + (xs.length + 2)) (wd t ++ caseW yb (tb.map wd)) := by
            have e : ("(" : Str) :: (xs ++ (")" : Str) :: (wd t ++ caseW yb (tb.map wd))) = (("(" : Str) :: (xs ++ [(")" : Str)])) ++ (wd t ++ caseW yb (tb.map wd)) := by simp
            have h5 := hw3.next.next
            rw [e] at h5
            have h6 := h5.right
            have e2 : (("(" : Str) :: (xs ++ [(")" : Str)])).length = xs.length + 2 := by simp
            rw [e2] at h6
            exact h6
          refine sy_appY rfl (yd_tup (ys_ced (ed_var rfl) (ys_ced (ed_var rfl) (ys_one (yd_part rfl (ed_var rfl) ht hw5)))) fun ds j r => ?_) (by rw [List.length_map, zl]; exact Nat.lt_of_lt_of_le (show xa.length < 1000 by omega) (by decide)) fun d i' r => ?_
          · obtain ⟨_, rfl, _, rfl, _, rfl, _⟩ := r
            exact short_size rfl
          · obtain ⟨_, rfl, _, rfl, _, rfl, _, rfl, rfl, rfl⟩ := r
            refine ⟨yb.length, Nat.lt_succ_self _, xa ++ [(cn, xs)], yb, ma ++ [t], tb, .d (.s cn), .d (tS xs), by rw [ex]; simp, by rw [em]; simp, by rw [List.length_append, List.length_append, hl]; rfl, rfl, ?_, hw5.right, ?_⟩
            · rw [rowsD_add hl]
              rfl
            · have e : (caseW ((cn, xs) :: yb) ((t :: tb).map wd)).length = 4 + xs.length + ((wd t).length + (caseW yb (tb.map wd)).length) := by
                show (("of" : Str) :: cn :: ("(" : Str) :: (xs ++ (")" : Str) :: (wd t ++ caseW yb (tb.map wd)))).length = _
                rw [List.length_cons, List.length_cons, List.length_cons, List.length_append, List.length_cons, List.length_append]
                omega
              rw [e] at hj
              omega
  · rintro e j' ⟨κ1, κ2, rfl, hw3, hj⟩
    refine syq_dropY (yd_tword rfl hw3) fun d i ei => ?_
    subst ei
    exact sy_ret (ed_tup (ea_cons ed_str (ea_cons (ed_var rfl) (ea_cons (ed_tupo rfl) ea_nil))) (short_size rfl)) ⟨rfl, hj⟩
end
end Nz
namespace Nz
open PySem L2
section
variable {K : PySem.W.Frag} {es : Es} {ta : TE} {dd : Addr} {x : Str}
def rInKD (K : PySem.W.Frag) (dd : Addr) : R2 := fun x y H Q => ∃ (z : Str) (r : Option Value), x = .str z ∧ y = .ref dd ∧ PySem.W.nsIn K dd z = some r ∧ Q (.bl r.isSome) H
theorem ed_inKD {r : Option Value} (h : ED ta es (.s x)) (hx : PySem.W.nsIn K dd x = some r) : ED (tOp (rInKD K dd) ta (tC (.ref dd))) es (.b r.isSome) := fun S A B H σ E Q q => h S A B H σ E _ fun v H2 e i => by
  cases i
  exact ⟨x, r, rfl, rfl, hx, q _ H2 e rfl⟩
def rItKD (K : PySem.W.Frag) (dd : Addr) : R2 := fun x y H Q => ∃ (z : Str) (u0 : Value) (v0 : V), x = .ref dd ∧ y = .str z ∧ PySem.W.nsIn K dd z = some (some u0) ∧ RelV v0 u0 ∧ Q v0 H
theorem ed_itKD {u : Value} {n : Int} (h : ED ta es (.s x)) (hx : PySem.W.nsIn K dd x = some (some u)) (hu : RelV (.int n) u) : ED (tOp (rItKD K dd) (tC (.ref dd)) ta) es (.i n) := fun S A B H σ E Q q => h S A B H σ E _ fun v H2 e i => by
  cases i
  exact ⟨x, u, .int n, rfl, rfl, hx, hu, q _ H2 e rfl⟩
end
theorem rc_intS {a : Str} {n : Int} (hn : PySem.intText? a = some n) (hl : a.length ≤ 640) : RC rIntS [.s a] (.i n) := fun S H us dm is Q q => by
  obtain ⟨v, r, rfl, i1, i2⟩ := is
  cases i1; cases i2
  exact ⟨a, n, rfl, hn, hl, q _ H (Same.refl H) rfl⟩
theorem ar_ne {o : Str} {n : Nat} (h : (o, n) ∈ arities) : isNm o = false ∧ isNr o = false ∧ o ≠ "hole" ∧ o ≠ "make" ∧ o ≠ "let" ∧ o ≠ "case" ∧ o ≠ "fun" ∧ o ≠ "call" ∧ o.length ≤ 10 ∧ 1 ≤ n := by
  have e : (arities.all fun p => !isNm p.1 && (!isNr p.1 && (decide (p.1 ≠ "hole") && (decide (p.1 ≠ "make") && (decide (p.1 ≠ "let") && (decide (p.1 ≠ "case") && (decide (p.1 ≠ "fun") && (decide (p.1 ≠ "call") && (decide (p.1.length ≤ 10) && decide (1 ≤ p.2)))))))))) = true := by decide +kernel
  have := List.all_eq_true.mp e _ h
  simp only [Bool.and_eq_true, Bool.not_eq_true', decide_eq_true_eq] at this
  exact this
theorem flat_cons {a : List Str} {b : List (List Str)} : (a :: b).flatten = a ++ b.flatten := rfl
section
variable {P : Program} {w : World} {K : PySem.W.Frag} {mg : Str → Option Value} {base : Heap}
/-- heads with parts -/
def preD (ws : List Str) (n : Nat) (t : Tm) (k : Nat) (ds : List D) : Prop := ∃ left : Nat, ds = [.i (left : Int)] ∧ Wf t ∧ Wn t ∧ 1 ≤ (kids t).length ∧ deps (kids t) ≤ left ∧ deps (kids t) ≤ n ∧ Wat ws k (wd t)
theorem kid_ok {left n : Nat} {h : Hd} {ks : List Tm} (hf : Wf (.nd h ks)) (hn : Wn (.nd h ks)) (h1 : deps ks ≤ left) (h2 : deps ks ≤ n) {t : Tm} (m : t ∈ ks) : okT left n t :=
  ⟨wfs_all.mp hf.2 t m, wns_all.mp hn.2 t m, deps_le.mp h1 t m, deps_le.mp h2 t m⟩
theorem k_read_deep (F : Facts K mg w) (r l : Addr) (ws : List Str) (n q : Nat) (hq : 4 ≤ q) (c_read_part : C8.Cal P w K mg base q "read_part" (spG (rM mg r l ws) (.ref r) (preP ws n) relP) []) : C8.Cal P w K mg base (q + 2) "read_deep" (spG (rM mg r l ws) (.ref r) (preD ws n) relP) [] := by
  have m_Reader_ahead := k_ahead (P := P) (w := w) (base := base) F r l ws
  have m_Reader_take := k_take (P := P) (w := w) (base := base) F r l ws
  have m_Reader_take_name := k_take_name (P := P) (w := w) (base := base) F r l ws
  have c_read_let := k_read_let (P := P) (w := w) (base := base) F r l ws n q hq c_read_part
  have c_read_case := k_read_case (P := P) (w := w) (base := base) F r l ws n q hq c_read_part
  obtain ⟨a_PLAIN_FORMS, es_PF, n_PF, h_PLAIN_FORMS, D_PLAIN_FORMS, g0, g1, g2, g3, g4, g5, g6, g7, g8⟩ := F.g_PLAIN_FORMS
  have ar : ∀ {o : Str} {m : Nat}, (o, m) ∈ arities → ∃ u, PySem.W.nsIn K a_PLAIN_FORMS o = some (some u) ∧ RelV (.int (m : Int)) u := fun {o m} h => by
    simp only [arities, List.mem_cons, List.not_mem_nil, or_false, Prod.mk.injEq] at h
    rcases h with ⟨rfl, rfl⟩ | ⟨rfl, rfl⟩ | ⟨rfl, rfl⟩ | ⟨rfl, rfl⟩ | ⟨rfl, rfl⟩ | ⟨rfl, rfl⟩ | ⟨rfl, rfl⟩ | ⟨rfl, rfl⟩ | ⟨rfl, rfl⟩
    · exact g0
    · exact g7
    · exact g8
    · exact g1
    · exact g2
    · exact g3
    · exact g4
    · exact g5
    · exact g6
  refine F.read_deep.cal fun f fd hf => fn_ex fun t => fn_Y hf sc_read_deep (fun _ ds ⟨b, e, _⟩ => by subst e; rfl) (fun cdv A outer s H E hr => ⟨_, (pss_cons (ps_set (i := 2) sc_read_deep.nd rfl (Or.inl rfl) (C8.pe_mt0 m_Reader_ahead hr (by first | decide | omega) (pv 0)))
    (pss_cons (ps_if (pt_cmpR op_eq (pv 2) pe_str (nomark _)) (pss_one (ps_ret (C8.pe_c c_read_let hr (by first | decide | omega) rfl (pa_cons (pv 0) (pa_cons (pv 1) pa_nil))))) pss_nil)
    (pss_cons (ps_if (pt_cmpR op_eq (pv 2) pe_str (nomark _)) (pss_one (ps_ret (C8.pe_c c_read_case hr (by first | decide | omega) rfl (pa_cons (pv 0) (pa_cons (pv 1) pa_nil))))) pss_nil)
    (pss_cons (ps_expr (C8.pe_mt m_Reader_take hr (by first | decide | omega) (pv 0) (pa_cons (pe_or (pe_cmpR (Nz.inQ K) (pv 2) (pe_tup (pa_cons pe_str (pa_cons pe_str pa_nil))) rfl) (pe_one (pe_cmpR (op_in_kd D_PLAIN_FORMS) (pv 2) (pe_glob (v := V.ref a_PLAIN_FORMS) rfl h_PLAIN_FORMS rfl) rfl))) pa_nil)))
    (pss_cons (ps_if (pt_cmpR op_eq (pv 2) pe_str (nomark _)) (pss_cons (ps_set (i := 3) sc_read_deep.nd rfl (Or.inl rfl) (C8.pe_mt m_Reader_take_name hr (by first | decide | omega) (pv 0) (pa_cons (pe_tup pa_nil) pa_nil)))
    (pss_one (ps_ret (pe_tup (pa_cons (pv 2) (pa_cons (pv 3) (pa_cons (C8.pe_c c_read_part hr (by first | decide | omega) rfl (pa_cons (pv 0) (pa_cons (pv 1) pa_nil))) pa_nil))))))) pss_nil)
    (pss_cons (ps_if (pt_cmpR op_eq (pv 2) pe_str (nomark _)) (pss_cons (ps_set (i := 4) sc_read_deep.nd rfl (Or.inl rfl) (C8.pe_c c_read_part hr (by first | decide | omega) rfl (pa_cons (pv 0) (pa_cons (pv 1) pa_nil))))
    (pss_one (ps_ret (pe_tup (pa_cons (pv 2) (pa_cons (pv 4) (pa_cons (C8.pe_mt m_Reader_take_name hr (by first | decide | omega) (pv 0) (pa_cons (pe_tup pa_nil) pa_nil)) pa_nil))))))) pss_nil)
    (pss_cons (ps_set (i := 5) sc_read_deep.nd rfl (Or.inl rfl) (pe_lst pa_nil))
    (pss_cons (ps_for PassesOwn.never rfl (pi_range1 rfl F.b_range (pa_cons (pe_ix (Nz.ix_kd D_PLAIN_FORMS) (pe_glob (v := V.ref a_PLAIN_FORMS) rfl h_PLAIN_FORMS rfl) (pv 2) (fun _ _ => rfl)) pa_nil)) (pg_name (i := 6) sc_read_deep.nd rfl (Or.inl rfl)) (pss_one (ps_expr (pe_bm PySem.F.plainAttrs_list PySem.F.slot_list_append PySem.F.type_list_append mt_append (pv 5) (pa_cons (C8.pe_c c_read_part hr (by first | decide | omega) rfl (pa_cons (pv 0) (pa_cons (pv 1) pa_nil))) pa_nil)))))
    (pss_one (ps_ret (pe_tup (pa_cons (pv 2) (Nz.paStar (K := K) (pv 5) pa_nil))))))))))))), fun k ds hP => ?_⟩)
  obtain ⟨left, rfl, hf, hn, h1, hl, hln, hw⟩ := hP
  obtain ⟨h, ks⟩ := t
  have h1' : 1 ≤ ks.length := h1
  cases h with
  | var x =>
    have : ks.length = 0 := hf.1
    omega
  | num x =>
    have : ks.length = 0 := hf.1
    omega
  | mk c xs =>
    have : ks.length = 0 := hf.1.1
    omega
  | hole =>
    have : ks.length = 0 := hf.1
    omega
  | lets xs =>
    obtain ⟨ms, m, rfl, hlen⟩ := last_of hf.1.1
    have hw' : Wat ws k (("let" : Str) :: letW xs ((ms ++ [m]).map wd)) := by
      have e : wd (.nd (.lets xs) (ms ++ [m])) = ("let" : Str) :: letW xs (wds (ms ++ [m])) := rfl
      rw [e, wds_map] at hw
      exact hw
    refine syq_setY (yd_ahead rfl hw'.le) fun d j ⟨e, ej⟩ => ?_
    rw [hw'.gw] at e
    subst e ej
    refine syq_if (et_test (ed_op (ed_var rfl) ed_str (rd_eqSb rfl))) (fun _ => ?_) (fun h => by cases h)
    refine syq_retY (yd_callG ⟨xs, ms, m⟩ rfl (yds_eds (ea_cons (ed_var rfl) ea_nil)) fun ys j ⟨e, ej⟩ => ?_) fun d j ⟨ys, j0, ⟨_, ej⟩, e, e2⟩ => ?_
    · subst e ej
      exact ⟨left, rfl, hlen, hn.1.2.2, hf.1.2, hn.1.1, hn.1.2.1, fun t ht => kid_ok hf hn hl hln (List.mem_append_left _ ht), kid_ok hf hn hl hln (List.mem_append_right _ (List.mem_singleton.mpr rfl)), hw'⟩
    · subst ej
      refine ⟨by rw [e, enc_lets hlen], ?_⟩
      have e3 : (wd (.nd (.lets xs) (ms ++ [m]))).length = 1 + (letW xs ((ms ++ [m]).map wd)).length := by
        show (("let" : Str) :: letW xs (wds (ms ++ [m]))).length = _
        rw [wds_map, List.length_cons]
        omega
      rw [e3]
      exact e2
  | case rs =>
    obtain ⟨m, ms, rfl, hlen⟩ := cons_of hf.1.1
    have ew : wd (.nd (.case rs) (m :: ms)) = ("case" : Str) :: (wd m ++ caseW rs (ms.map wd)) := by
      show ("case" : Str) :: (wd m ++ caseW rs (wds ms)) = _
      rw [wds_map]
    rw [ew] at hw
    refine syq_setY (yd_ahead rfl hw.le) fun d j ⟨e, ej⟩ => ?_
    rw [hw.gw] at e
    subst e ej
    refine syq_if (et_test (ed_op (ed_var rfl) ed_str (rd_eqSb rfl))) (fun h => by cases h) (fun _ => ?_)
    refine syq_if (et_test (ed_op (ed_var rfl) ed_str (rd_eqSb rfl))) (fun _ => ?_) (fun h => by cases h)
    refine syq_retY (yd_callG ⟨m, rs, ms⟩ rfl (yds_eds (ea_cons (ed_var rfl) ea_nil)) fun ys j ⟨e, ej⟩ => ?_) fun d j ⟨ys, j0, ⟨_, ej⟩, e, e2⟩ => ?_
    · subst e ej
      exact ⟨left, rfl, hlen, hn.1.2.2, hf.1.2.1, fun r hr => ⟨(hn.1.1 r hr).1, (hn.1.1 r hr).2.1, (hn.1.1 r hr).2.2, hf.1.2.2 r hr⟩, hn.1.2.1, fun t ht => kid_ok hf hn hl hln (List.mem_cons_of_mem _ ht), kid_ok hf hn hl hln (List.mem_cons_self ..), hw⟩
    · subst ej
      refine ⟨by rw [e, enc_case], ?_⟩
      rw [ew, List.length_cons]
      have e2' : j = _ + (1 + (wd m ++ caseW rs (ms.map wd)).length) := e2
      omega
  | fn x =>
    obtain ⟨t, rfl⟩ := one_of hf.1
    have ew : wd (.nd (.fn x) [t]) = ("fun" : Str) :: x :: (wd t ++ []) := rfl
    rw [ew] at hw
    refine syq_setY (yd_ahead rfl hw.le) fun d j ⟨e, ej⟩ => ?_
    rw [hw.gw] at e
    subst e ej
    refine syq_if (et_test (ed_op (ed_var rfl) ed_str (rd_eqSb rfl))) (fun h => by cases h) (fun _ => ?_)
    refine syq_if (et_test (ed_op (ed_var rfl) ed_str (rd_eqSb rfl))) (fun h => by cases h) (fun _ => ?_)
    refine syq_dropY (yd_take rfl hw.lt (yds_eds (ea_cons (ed_orV (a := true) (b := true) (ed_op (ed_var rfl) (ed_tup (ea_cons ed_str (ea_cons ed_str ea_nil)) (short_size rfl)) (rd_inTc rfl rfl rfl)) (fun h => by cases h)) ea_nil))) fun d j' ⟨_, ej⟩ => ?_
    subst ej
    refine syq_if (et_test (ed_op (ed_var rfl) ed_str (rd_eqSb rfl))) (fun _ => ?_) (fun h => by cases h)
    refine syq_assoc (syq_setY (yd_tname [] rfl hw.next hn.1 (ed_tup ea_nil (Nat.zero_le _)) (.inl rfl) (by simp)) fun d j' ⟨e, ej⟩ => ?_)
    subst e ej
    refine syq_retY (yd_tup (ys_ced (ed_var rfl) (ys_ced (ed_var rfl) (ys_one (yd_part rfl (ed_var rfl) (kid_ok hf hn hl hln (List.mem_cons_self ..)) hw.next.next)))) fun ds j r => ?_) fun d j r => ?_
    · obtain ⟨_, rfl, _, rfl, _, rfl, _⟩ := r
      exact short_size rfl
    · obtain ⟨_, rfl, _, rfl, _, rfl, _, rfl, rfl, rfl⟩ := r
      refine ⟨rfl, ?_⟩
      rw [ew]
      simp only [List.length_cons, List.length_append, List.length_nil]
      omega
  | call x =>
    obtain ⟨t, rfl⟩ := one_of hf.1
    have ew : wd (.nd (.call x) [t]) = ("call" : Str) :: (wd t ++ [x]) := by
      show ("call" : Str) :: ((wd t ++ []) ++ [x]) = _
      rw [List.append_nil]
    rw [ew] at hw
    refine syq_setY (yd_ahead rfl hw.le) fun d j ⟨e, ej⟩ => ?_
    rw [hw.gw] at e
    subst e ej
    refine syq_if (et_test (ed_op (ed_var rfl) ed_str (rd_eqSb rfl))) (fun h => by cases h) (fun _ => ?_)
    refine syq_if (et_test (ed_op (ed_var rfl) ed_str (rd_eqSb rfl))) (fun h => by cases h) (fun _ => ?_)
    refine syq_dropY (yd_take rfl hw.lt (yds_eds (ea_cons (ed_orV (a := true) (b := true) (ed_op (ed_var rfl) (ed_tup (ea_cons ed_str (ea_cons ed_str ea_nil)) (short_size rfl)) (rd_inTc rfl rfl rfl)) (fun h => by cases h)) ea_nil))) fun d j' ⟨_, ej⟩ => ?_
    subst ej
    refine syq_if (et_test (ed_op (ed_var rfl) ed_str (rd_eqSb rfl))) (fun h => by cases h) (fun _ => ?_)
    refine syq_if (et_test (ed_op (ed_var rfl) ed_str (rd_eqSb rfl))) (fun _ => ?_) (fun h => by cases h)
    refine syq_assoc (syq_setY (yd_part rfl (ed_var rfl) (kid_ok hf hn hl hln (List.mem_cons_self ..)) hw.next) fun d j' ⟨e, ej⟩ => ?_)
    subst e ej
    refine syq_retY (yd_tup (ys_ced (ed_var rfl) (ys_ced (ed_var rfl) (ys_one (yd_tname [] rfl hw.next.right hn.1 (ed_tup ea_nil (Nat.zero_le _)) (.inl rfl) (by simp))))) fun ds j r => ?_) fun d j r => ?_
    · obtain ⟨_, rfl, _, rfl, _, rfl, _⟩ := r
      exact short_size rfl
    · obtain ⟨_, rfl, _, rfl, _, rfl, _, rfl, rfl, rfl⟩ := r
      refine ⟨rfl, ?_⟩
      rw [ew]
      simp only [List.length_cons, List.length_append, List.length_nil]
      omega
  | op o =>
    have ho : (o, ks.length) ∈ arities := hf.1
    obtain ⟨_, _, _, _, n1, n2, n3, n4, _, _⟩ := ar_ne ho
    obtain ⟨u, hu, ru⟩ := ar ho
    have ew : wd (.nd (.op o) ks) = o :: (ks.map wd).flatten := by
      show o :: (wds ks).flatten = _
      rw [wds_map]
    rw [ew] at hw
    have k3 : ks.length ≤ 3 := by
      have e : ∀ p ∈ arities, p.2 ≤ 3 := by decide
      exact e _ ho
    refine syq_setY (yd_ahead rfl hw.le) fun d j ⟨e, ej⟩ => ?_
    rw [hw.gw] at e
    subst e ej
    refine syq_if (et_test (ed_op (ed_var rfl) ed_str (rd_eqSb (decide_eq_false n1)))) (fun h => by cases h) (fun _ => ?_)
    refine syq_if (et_test (ed_op (ed_var rfl) ed_str (rd_eqSb (decide_eq_false n2)))) (fun h => by cases h) (fun _ => ?_)
    have inF : inD (.s o) [.s "fun", .s "call"] = false := by
      rw [show ([.s "fun", .s "call"] : List D) = (["fun", "call"] : List Str).map D.s from rfl, inD_strs]
      exact decide_eq_false (by simp [n3, n4])
    refine syq_dropY (yd_take rfl hw.lt (yds_eds (ea_cons (ed_orV (a := false) (b := true) (ed_op (ed_var rfl) (ed_tup (ea_cons ed_str (ea_cons ed_str ea_nil)) (short_size rfl)) (rd_inTc rfl rfl inF)) (fun _ => ed_inKD (K := K) (ed_var rfl) hu)) ea_nil))) fun d j' ⟨_, ej⟩ => ?_
    subst ej
    refine syq_if (et_test (ed_op (ed_var rfl) ed_str (rd_eqSb (decide_eq_false n3)))) (fun h => by cases h) (fun _ => ?_)
    refine syq_if (et_test (ed_op (ed_var rfl) ed_str (rd_eqSb (decide_eq_false n4)))) (fun h => by cases h) (fun _ => ?_)
    refine syq_setO (el_lst ea_nil (Nat.zero_le _)) ?_
    have ok : ∀ t ∈ ks, okT left n t := fun t ht => kid_ok hf hn hl hln ht
    refine sy_seq (fun e i => ∃ κ, e = [.r (.ref r), .d (.i (left : Int)), .d (.s o), .no, .no, .o (.l (ks.map enc)), κ] ∧ i = j + (wd (.nd (.op o) ks)).length) ?_ ?_
    · refine sy_forY (ysrc_xsrc (xsrc_of (src_rng (n := ks.length) (ea_cons (ed_itKD (K := K) (ed_var rfl) hu ru) ea_nil) (by omega)))) (fun ds i e i' => ds = rngD ks.length ∧ ∃ κ, e = [.r (.ref r), .d (.i (left : Int)), .d (.s o), .no, .no, .o (.l ((ks.take i).map enc)), κ] ∧ Wat ws i' ((ks.drop i).map wd).flatten ∧ i' + ((ks.drop i).map wd).flatten.length = j + (wd (.nd (.op o) ks)).length)
        (fun ds i' ⟨e, ei⟩ => ⟨e, .no, rfl, by rw [ei, List.drop_zero]; exact hw.next, by rw [ei, List.drop_zero, ew, List.length_cons]; omega⟩) (fun ds i d e i' hd he => ?_) (fun ds e i' he => ?_)
      · obtain ⟨eds, κ, rfl, hw2, hj⟩ := he
        have hi : i < ks.length := by
          have := (List.getElem?_eq_some_iff.mp hd).1
          rw [eds] at this
          simpa [rngD] using this
        have dr : ks.drop i = ks[i] :: ks.drop (i + 1) := List.drop_eq_getElem_cons hi
        rw [dr, List.map_cons, flat_cons] at hw2 hj
        rw [List.length_append] at hj
        refine ⟨_, gd_name, ?_⟩
        refine sy_appY rfl (yd_part rfl (ed_var rfl) (ok _ (List.getElem_mem hi)) hw2) (by rw [List.length_map, List.length_take]; exact Nat.lt_of_le_of_lt (show _ ≤ 1000 by omega) (by decide)) fun d' i'' ⟨e, ei⟩ => ?_
        subst e ei
        refine ⟨eds, .d d, ?_, hw2.right, by omega⟩
        rw [show (ks.take (i + 1)).map enc = (ks.take i).map enc ++ [enc ks[i]] by rw [List.take_succ, List.getElem?_eq_getElem hi, List.map_append]; rfl]
        rfl
      · obtain ⟨eds, κ, rfl, hw2, hj⟩ := he
        have e1 : ds.length = ks.length := by rw [eds]; simp [rngD]
        rw [e1, List.take_length] 
        rw [e1, List.drop_length] at hj
        exact ⟨κ, rfl, hj⟩
    · rintro e i ⟨κ, rfl, rfl⟩
      refine syq_freeze (n := 5) rfl ?_
      refine sy_ret (ed_tup (ea_cons (ed_var rfl) (ea_starL (ed_var rfl) ea_nil)) (by rw [List.length_cons, List.append_nil, List.length_map]; exact small4 (by omega))) ⟨?_, rfl⟩
      rw [List.append_nil, enc_op]
theorem part_step (F : Facts K mg w) (r l : Addr) (ws : List Str) (n q : Nat) (hq : 6 ≤ q) (c_read_part : C8.Cal P w K mg base q "read_part" (spG (rM mg r l ws) (.ref r) (preP ws n) relP) []) : C8.Cal P w K mg base (q + 3) "read_part" (spG (rM mg r l ws) (.ref r) (preP ws (n + 1)) relP) [] := by
  have m_Reader_ahead := k_ahead (P := P) (w := w) (base := base) F r l ws
  have m_Reader_take := k_take (P := P) (w := w) (base := base) F r l ws
  have c_is_name := k_is_name (P := P) (w := w) (base := base) F
  have c_is_number := k_is_number (P := P) (w := w) (base := base) F
  have c_read_make := k_read_make (P := P) (w := w) (base := base) F r l ws
  have c_read_deep := k_read_deep (P := P) (w := w) (base := base) F r l ws n q (by omega) c_read_part
  refine F.read_part.cal fun f fd hf => fn_ex fun t => fn_Y hf sc_read_part (fun _ ds ⟨b, e, _⟩ => by subst e; rfl) (fun cdv A outer s H E hr => ⟨_, (pss_cons (ps_set (i := 2) sc_read_part.nd rfl (Or.inl rfl) (C8.pe_mt0 m_Reader_ahead hr (by first | decide | omega) (pv 0)))
    (pss_cons (ps_if (pt_val (C8.pe_c c_is_name hr (by first | decide | omega) rfl (pa_cons (pv 2) pa_nil))) (pss_one (ps_ret (pe_tup (pa_cons pe_str (pa_cons (C8.pe_mt m_Reader_take hr (by first | decide | omega) (pv 0) (pa_cons pe_bl pa_nil)) pa_nil))))) pss_nil)
    (pss_cons (ps_if (pt_val (C8.pe_c c_is_number hr (by first | decide | omega) rfl (pa_cons (pv 2) pa_nil))) (pss_one (ps_ret (pe_tup (pa_cons pe_str (pa_cons (pe_callTy Nz.c_intS rfl F.b_int Nz.boot_int (pa_cons (C8.pe_mt m_Reader_take hr (by first | decide | omega) (pv 0) (pa_cons pe_bl pa_nil)) pa_nil)) pa_nil))))) pss_nil)
    (pss_cons (ps_if (pt_cmpR op_eq (pv 2) pe_str (nomark _)) (pss_one (ps_ret (pe_tup (pa_cons (C8.pe_mt m_Reader_take hr (by first | decide | omega) (pv 0) (pa_cons pe_bl pa_nil)) pa_nil)))) pss_nil)
    (pss_cons (ps_if (pt_cmpR op_eq (pv 2) pe_str (nomark _)) (pss_one (ps_ret (C8.pe_c c_read_make hr (by first | decide | omega) rfl (pa_cons (pv 0) pa_nil)))) pss_nil)
    (pss_cons (ps_if (pt_cmpR op_eq (pv 1) pe_int (nomark _)) (pss_one ps_dead) pss_nil)
    (pss_one (ps_ret (C8.pe_c c_read_deep hr (by first | decide | omega) rfl (pa_cons (pv 0) (pa_cons (pe_op op_sub (pv 1) pe_int) pa_nil))))))))))), fun k ds hP => ?_⟩)
  obtain ⟨left, rfl, ⟨hf, hn, hl, hln⟩, hw⟩ := hP
  have iN : ∀ {es : Es} {u : Str} {b : Bool}, es[2]? = some (.d (.s u)) → u.length ≤ 10000000 → isNm u = b → ET (tB (tCall (spR (R_w isNm)) [] C8.E0 (tCons (tVar 2) tNil))) es b := fun h2 hl h => et_eq (et_B (ed_call (ea_cons (ed_var h2) ea_nil) ⟨_, rfl, hl, rfl⟩)) h
  have iR : ∀ {es : Es} {u : Str} {b : Bool}, es[2]? = some (.d (.s u)) → u.length ≤ 10000000 → isNr u = b → ET (tB (tCall (spR (R_w isNr)) [] C8.E0 (tCons (tVar 2) tNil))) es b := fun h2 hl h => et_eq (et_B (ed_call (ea_cons (ed_var h2) ea_nil) ⟨_, rfl, hl, rfl⟩)) h
  obtain ⟨h, ks⟩ := t
  have deep : ∀ {u : Str} {us : List Str}, wd (.nd h ks) = u :: us → 1 ≤ ks.length → u.length ≤ 10000000 → isNm u = false → isNr u = false → u ≠ "hole" → u ≠ "make" →
      SY (rM mg r l ws) k (tSeq (tAsg (tMeth (C_Reader mg) "ahead" (spY (rM mg r l ws) (.ref r) (preA ws.length) (relA ws)) [] C8.E0 (tVar 0) tNil) (gName 2))
        (tSeq (tIfS (tB (tCall (spR (R_w isNm)) [] C8.E0 (tCons (tVar 2) tNil))) (tRet (tTup (tCons (tC (.str "var")) (tCons (tMeth (C_Reader mg) "take" (spY (rM mg r l ws) (.ref r) (preT ws.length) (relT ws)) [] C8.E0 (tVar 0) (tCons (tC (.bl true)) tNil)) tNil)))) tNext)
        (tSeq (tIfS (tB (tCall (spR (R_w isNr)) [] C8.E0 (tCons (tVar 2) tNil))) (tRet (tTup (tCons (tC (.str "number")) (tCons (tCB rIntS (tCons (tMeth (C_Reader mg) "take" (spY (rM mg r l ws) (.ref r) (preT ws.length) (relT ws)) [] C8.E0 (tVar 0) (tCons (tC (.bl true)) tNil)) tNil)) tNil)))) tNext)
        (tSeq (tIfS (tTest (tOp rEq (tVar 2) (tC (.str "hole")))) (tRet (tTup (tCons (tMeth (C_Reader mg) "take" (spY (rM mg r l ws) (.ref r) (preT ws.length) (relT ws)) [] C8.E0 (tVar 0) (tCons (tC (.bl true)) tNil)) tNil))) tNext)
        (tSeq (tIfS (tTest (tOp rEq (tVar 2) (tC (.str "make")))) (tRet (tCall (spG (rM mg r l ws) (.ref r) (preMk ws) relMk) [] C8.E0 (tCons (tVar 0) tNil))) tNext)
        (tSeq (tIfS (tTest (tOp rEq (tVar 1) (tC (.int 1)))) tDead tNext)
          (tRet (tCall (spG (rM mg r l ws) (.ref r) (preD ws n) relP) [] C8.E0 (tCons (tVar 0) (tCons (tOp (rI0 fun i j => .int (i - j)) (tVar 1) (tC (.int 1))) tNil))))))))))
      [.r (.ref r), .d (.i (left : Int)), .no] ⟨fun _ j => relP (.nd h ks) k [.i (left : Int)] .n j, fun d j => relP (.nd h ks) k [.i (left : Int)] d j, fun xs j => relP (.nd h ks) k [.i (left : Int)] (.l xs) j, fun _ _ => False, fun _ _ => False⟩ := fun {u us} ew h1 hul hu1 hu2 hu3 hu4 => by
    have hw' := hw
    rw [ew] at hw'
    have hd1 : 1 ≤ deps ks := by
      cases ks with
      | nil => simp at h1
      | cons t r =>
        have : 1 ≤ dep t := by cases t; exact Nat.succ_le_succ (Nat.zero_le _)
        exact Nat.le_trans this (Nat.le_max_left _ _)
    have hdd : dep (.nd h ks) = deps ks + 1 := rfl
    refine syq_setY (yd_ahead rfl hw'.le) fun d j ⟨e, ej⟩ => ?_
    rw [hw'.gw] at e
    subst e ej
    refine syq_if (iN rfl hul hu1) (fun h => by cases h) (fun _ => ?_)
    refine syq_if (iR rfl hul hu2) (fun h => by cases h) (fun _ => ?_)
    refine syq_if (et_test (ed_op (ed_var rfl) ed_str (rd_eqSb (decide_eq_false hu3)))) (fun h => by cases h) (fun _ => ?_)
    refine syq_if (et_test (ed_op (ed_var rfl) ed_str (rd_eqSb (decide_eq_false hu4)))) (fun h => by cases h) (fun _ => ?_)
    refine syq_if (et_test (ed_op (ed_var rfl) ed_int (rd_eqIb (decide_eq_false (by omega))))) (fun h => by cases h) (fun _ => ?_)
    refine sy_retY (yd_callG (.nd h ks) rfl (yds_eds (ea_cons (ed_op (ed_var rfl) ed_int (rd_int (c := ((left - 1 : Nat) : Int)) (congrArg V.int (by omega)))) ea_nil)) fun ys i ⟨e, ei⟩ => ?_) fun d i ⟨ys, i0, ⟨_, ei⟩, e⟩ => ?_
    · subst e ei
      exact ⟨left - 1, rfl, hf, hn, h1, (by show deps ks ≤ _; omega), (by show deps ks ≤ _; omega), hw⟩
    · subst ei
      exact e
  cases h with
  | var x =>
    obtain rfl : ks = [] := List.length_eq_zero_iff.mp hf.1
    have hw' : Wat ws k (x :: []) := hw
    refine syq_setY (yd_ahead rfl hw'.le) fun d j ⟨e, ej⟩ => ?_
    rw [hw'.gw] at e
    subst e ej
    have hx : NameOk x := hn.1
    refine syq_if (iN rfl (Nat.le_trans (name_len hx) (by decide)) (name_is hx)) (fun _ => ?_) (fun h => by cases h)
    refine syq_retY (yd_tup (ys_ced ed_str (ys_one (yd_take rfl hw'.lt (yds_eds (ea_cons ed_bl ea_nil))))) fun ds j r => ?_) fun d j r => ?_
    · obtain ⟨_, rfl, _, rfl, _⟩ := r
      exact short_size rfl
    · obtain ⟨_, rfl, _, rfl, _, rfl, rfl, rfl⟩ := r
      exact ⟨by rw [hw'.gw]; rfl, rfl⟩
  | num m =>
    obtain rfl : ks = [] := List.length_eq_zero_iff.mp hf.1
    have hw' : Wat ws k (numS m :: []) := hw
    obtain ⟨i, rfl⟩ := Int.eq_ofNat_of_zero_le hn.1.1
    have hi : i < 65536 := by
      have := hn.1.2
      omega
    have hl5 : (numS (i : Int)).length ≤ 5 := by
      rw [numS_eq, len_sign]
      exact TL.numL_len (by decide) (Nat.lt_of_lt_of_le hi (by decide))
    refine syq_setY (yd_ahead rfl hw'.le) fun d j ⟨e, ej⟩ => ?_
    rw [hw'.gw] at e
    subst e ej
    refine syq_if (iN rfl (Nat.le_trans hl5 (by decide)) (num_is hi).2) (fun h => by cases h) (fun _ => ?_)
    refine syq_if (iR rfl (Nat.le_trans hl5 (by decide)) (num_is hi).1) (fun _ => ?_) (fun h => by cases h)
    refine syq_retY (yd_tup (ys_ced ed_str (ys_one (yd_cb (Rz := fun z i' => z = .i (i : Int) ∧ i' = j + 1) (ys_one (yd_take rfl hw'.lt (yds_eds (ea_cons ed_bl ea_nil)))) fun xs i' ⟨d, e, e2, e3⟩ => ?_))) fun ds j r => ?_) fun d j r => ?_
    · subst e e2
      rw [hw'.gw]
      exact ⟨_, rc_intS (num_val hi) (by omega), rfl, e3⟩
    · obtain ⟨_, rfl, _, rfl, _⟩ := r
      exact short_size rfl
    · obtain ⟨_, rfl, _, rfl, _, rfl, rfl, rfl⟩ := r
      exact ⟨rfl, rfl⟩
  | hole =>
    obtain rfl : ks = [] := List.length_eq_zero_iff.mp hf.1
    have hw' : Wat ws k (("hole" : Str) :: []) := hw
    refine syq_setY (yd_ahead rfl hw'.le) fun d j ⟨e, ej⟩ => ?_
    rw [hw'.gw] at e
    subst e ej
    refine syq_if (iN (b := false) rfl (by decide) (by decide +kernel)) (fun h => by cases h) (fun _ => ?_)
    refine syq_if (iR (b := false) rfl (by decide) (by decide +kernel)) (fun h => by cases h) (fun _ => ?_)
    refine syq_if (et_test (ed_op (ed_var rfl) ed_str (rd_eqSb rfl))) (fun _ => ?_) (fun h => by cases h)
    refine syq_retY (yd_tup (ys_one (yd_take rfl hw'.lt (yds_eds (ea_cons ed_bl ea_nil)))) fun ds j r => ?_) fun d j r => ?_
    · obtain ⟨_, rfl, _⟩ := r
      exact short_size rfl
    · obtain ⟨_, rfl, _, rfl, rfl, rfl⟩ := r
      exact ⟨by rw [hw'.gw]; rfl, rfl⟩
  | mk c xs =>
    obtain rfl : ks = [] := List.length_eq_zero_iff.mp hf.1.1
    have hw' : Wat ws k (("make" : Str) :: c :: ("(" : Str) :: (xs ++ [(")" : Str)])) := hw
    refine syq_setY (yd_ahead rfl hw'.le) fun d j ⟨e, ej⟩ => ?_
    rw [hw'.gw] at e
    subst e ej
    refine syq_if (iN (b := false) rfl (by decide) (by decide +kernel)) (fun h => by cases h) (fun _ => ?_)
    refine syq_if (iR (b := false) rfl (by decide) (by decide +kernel)) (fun h => by cases h) (fun _ => ?_)
    refine syq_if (et_test (ed_op (ed_var rfl) ed_str (rd_eqSb rfl))) (fun h => by cases h) (fun _ => ?_)
    refine syq_if (et_test (ed_op (ed_var rfl) ed_str (rd_eqSb rfl))) (fun _ => ?_) (fun h => by cases h)
    refine syq_retY (yd_callG (c, xs) rfl (yds_eds ea_nil) fun ys i ⟨e, ei⟩ => ?_) fun d i ⟨ys, i0, ⟨_, ei⟩, e, e2⟩ => ?_
    · subst ei
      exact ⟨e, hw', hn.1.1, hn.1.2, hf.1.2⟩
    · subst ei
      refine ⟨e, ?_⟩
      have e3 : (wd (.nd (.mk c xs) [])).length = xs.length + 4 := by
        show (("make" : Str) :: c :: ("(" : Str) :: (xs ++ [(")" : Str)])).length = _
        simp
      rw [e3]
      exact e2
  | fn x =>
    obtain ⟨t, rfl⟩ := one_of hf.1
    exact deep rfl (Nat.le_refl _) (by decide) (by decide +kernel) (by decide +kernel) (by decide) (by decide)
  | call x =>
    obtain ⟨t, rfl⟩ := one_of hf.1
    exact deep rfl (Nat.le_refl _) (by decide) (by decide +kernel) (by decide +kernel) (by decide) (by decide)
  | lets xs =>
    exact deep rfl (by have := hf.1.1; omega) (by decide) (by decide +kernel) (by decide +kernel) (by decide) (by decide)
  | case rs =>
    exact deep rfl (by have := hf.1.1; omega) (by decide) (by decide +kernel) (by decide +kernel) (by decide) (by decide)
  | op o =>
    obtain ⟨a1, a2, a3, a4, _, _, _, _, a5, a6⟩ := ar_ne hf.1
    exact deep rfl a6 (Nat.le_trans a5 (by decide)) a1 a2 a3 a4
theorem k_read_part (F : Facts K mg w) (r l : Addr) (ws : List Str) : ∀ n : Nat, C8.Cal P w K mg base (6 + 3 * n) "read_part" (spG (rM mg r l ws) (.ref r) (preP ws n) relP) []
  | 0 => F.read_part.cal fun f fd hf => by
      have no : ∀ vs H Q E, ¬ spG (rM mg r l ws) (.ref r) (preP ws 0) relP vs H Q E := fun vs H Q E h => by
        obtain ⟨t, _, _, _, _, _, _, _, _, _, _, ⟨left, _, ⟨_, _, _, h0⟩, _⟩, _⟩ := h
        cases t
        exact absurd h0 (Nat.not_succ_le_zero _)
      exact ⟨fun vs H Q E h => absurd h (no vs H Q E), fun A outer s H args us vs Q E _ _ _ _ h => absurd h (no vs H Q E)⟩
  | n + 1 => part_step F r l ws n (6 + 3 * n) (by omega) (k_read_part F r l ws n)
end
end Nz
namespace Nz
open PySem L2
def okW (w : Str) : Prop := 32 ∉ w.cps.toList ∧ 1 ≤ w.length ∧ w.length ≤ 6 ∧ ∀ c ∈ w.cps.toList, c < 1114112
def txt (ws : List Str) : Str := Txt.join " " ws
theorem okW_of {l : List Nat} (h : ∀ c ∈ l, 33 ≤ c ∧ c < 1114112) (h1 : 1 ≤ l.length) (h6 : l.length ≤ 6) : okW ⟨l.toArray⟩ := ⟨fun m => by have := h 32 m; omega, by rw [len_sign]; exact h1, by rw [len_sign]; exact h6, fun c m => (h c m).2⟩
theorem okW_name {x : Str} (h : NameOk x) : okW x := by
  obtain ⟨l, rfl, h1, h2, h3, _⟩ := h
  exact okW_of (fun c m => by have := h1 c m; omega) h2 h3
theorem okW_con {x : Str} (h : ConOk x) : okW x := by
  obtain ⟨l, rfl, h1, h2, h3⟩ := h
  exact okW_of (fun c m => by have := h1 c m; omega) h2 h3
theorem okW_num {n : Nat} (h : n < 65536) : okW (numS (n : Int)) := by
  rw [numS_eq]
  exact okW_of (fun c m => by have := TL.numL_digits n c m; omega) (List.length_pos_iff.mpr (TL.numL_ne n)) (Nat.le_trans (TL.numL_len (k := 5) (by decide) (Nat.lt_of_lt_of_le h (by decide))) (by decide))
def okWb (w : Str) : Bool := !decide (32 ∈ w.cps.toList) && (decide (1 ≤ w.length) && (decide (w.length ≤ 6) && w.cps.toList.all fun c => decide (c < 1114112)))
theorem okW_dec {w : Str} (h : okWb w = true) : okW w := by
  unfold okWb at h
  rw [Bool.and_eq_true, Bool.and_eq_true, Bool.and_eq_true, Bool.not_eq_true', decide_eq_false_iff_not, decide_eq_true_eq, decide_eq_true_eq] at h
  exact ⟨h.1, h.2.1, h.2.2.1, fun c m => of_decide_eq_true (List.all_eq_true.mp h.2.2.2 c m)⟩
theorem okW_key {w : Str} (h : w ∈ keyWords ++ ([("(" : Str), (")" : Str)] : List Str) ++ arities.map (·.1)) : okW w := by
  have e : ((keyWords ++ ([("(" : Str), (")" : Str)] : List Str) ++ arities.map (·.1)).all okWb) = true := by decide +kernel
  exact okW_dec (List.all_eq_true.mp e w h)
theorem letW_mem {w : Str} : ∀ {xs : List Str} {ws : List (List Str)}, w ∈ letW xs ws → w ∈ xs ∨ w = "in" ∨ ∃ u ∈ ws, w ∈ u
  | x :: xs, u :: ws, h => by
    rcases List.mem_cons.mp h with rfl | h
    · exact .inl (List.mem_cons_self ..)
    rcases List.mem_append.mp h with h | h
    · exact .inr (.inr ⟨u, List.mem_cons_self .., h⟩)
    rcases letW_mem h with h | h | ⟨v, h1, h2⟩
    · exact .inl (List.mem_cons_of_mem _ h)
    · exact .inr (.inl h)
    · exact .inr (.inr ⟨v, List.mem_cons_of_mem _ h1, h2⟩)
  | [], u :: _, h => by
    rcases List.mem_cons.mp h with rfl | h
    · exact .inr (.inl rfl)
    · exact .inr (.inr ⟨u, List.mem_cons_self .., h⟩)
  | [], [], h => by cases h
  | _ :: _, [], h => by cases h
theorem caseW_mem {w : Str} : ∀ {rs : List (Str × List Str)} {ws : List (List Str)}, w ∈ caseW rs ws → (∃ r ∈ rs, w = r.1 ∨ w ∈ r.2) ∨ w ∈ (["of", "(", ")", "end"] : List Str) ∨ ∃ u ∈ ws, w ∈ u
  | r :: rs, u :: ws, h => by
    rcases List.mem_cons.mp h with rfl | h
    · exact .inr (.inl (by simp))
    rcases List.mem_cons.mp h with rfl | h
    · exact .inl ⟨r, List.mem_cons_self .., .inl rfl⟩
    rcases List.mem_cons.mp h with rfl | h
    · exact .inr (.inl (by simp))
    rcases List.mem_append.mp h with h | h
    · exact .inl ⟨r, List.mem_cons_self .., .inr h⟩
    rcases List.mem_cons.mp h with rfl | h
    · exact .inr (.inl (by simp))
    rcases List.mem_append.mp h with h | h
    · exact .inr (.inr ⟨u, List.mem_cons_self .., h⟩)
    rcases caseW_mem h with ⟨r', h1, h2⟩ | h | ⟨v, h1, h2⟩
    · exact .inl ⟨r', List.mem_cons_of_mem _ h1, h2⟩
    · exact .inr (.inl h)
    · exact .inr (.inr ⟨v, List.mem_cons_of_mem _ h1, h2⟩)
  | [], _, h => by
    have h' : w ∈ [("end" : Str)] := by
      cases h
      · exact List.mem_cons_self ..
      · rename_i h
        cases h
    exact .inr (.inl (by cases List.mem_singleton.mp h'; simp))
  | _ :: _, [], h => by
    have h' : w ∈ [("end" : Str)] := h
    exact .inr (.inl (by cases List.mem_singleton.mp h'; simp))
theorem key_of {w : Str} (h : w ∈ keyWords ∨ w = "(" ∨ w = ")" ∨ ∃ n, (w, n) ∈ arities) : okW w := okW_key (by
  rcases h with h | h | h | ⟨n, h⟩
  · exact List.mem_append_left _ (List.mem_append_left _ h)
  · subst h; exact List.mem_append_left _ (List.mem_append_right _ (List.mem_cons_self ..))
  · subst h; exact List.mem_append_left _ (List.mem_append_right _ (List.mem_cons_of_mem _ (List.mem_cons_self ..)))
  · exact List.mem_append_right _ (List.mem_map.mpr ⟨_, h, rfl⟩))
mutual
theorem wd_ok : ∀ (t : Tm), Wf t → Wn t → ∀ w ∈ wd t, okW w
  | .nd h ks, hf, hn, w, m => by
    have ih := wds_ok ks hf.2 hn.2
    have m' : w ∈ headW h (wds ks) := m
    cases h with
    | var x =>
      cases List.mem_singleton.mp m'
      exact okW_name hn.1
    | num n =>
      cases List.mem_singleton.mp m'
      obtain ⟨i, rfl⟩ := Int.eq_ofNat_of_zero_le hn.1.1
      exact okW_num (by have := hn.1.2; omega)
    | hole =>
      cases List.mem_singleton.mp m'
      exact key_of (.inl (by decide))
    | mk c xs =>
      rcases List.mem_cons.mp m' with rfl | m'
      · exact key_of (.inl (by decide))
      rcases List.mem_cons.mp m' with rfl | m'
      · exact okW_con hn.1.1
      rcases List.mem_cons.mp m' with rfl | m'
      · exact key_of (.inr (.inl rfl))
      rcases List.mem_append.mp m' with m' | m'
      · exact okW_name (hn.1.2 w m')
      · cases List.mem_singleton.mp m'
        exact key_of (.inr (.inr (.inl rfl)))
    | fn x =>
      rcases List.mem_cons.mp m' with rfl | m'
      · exact key_of (.inl (by decide))
      rcases List.mem_cons.mp m' with rfl | m'
      · exact okW_name hn.1
      obtain ⟨u, h1, h2⟩ := List.mem_flatten.mp m'
      exact ih u h1 w h2
    | call x =>
      rcases List.mem_cons.mp m' with rfl | m'
      · exact key_of (.inl (by decide))
      rcases List.mem_append.mp m' with m' | m'
      · obtain ⟨u, h1, h2⟩ := List.mem_flatten.mp m'
        exact ih u h1 w h2
      · cases List.mem_singleton.mp m'
        exact okW_name hn.1
    | lets xs =>
      rcases List.mem_cons.mp m' with rfl | m'
      · exact key_of (.inl (by decide))
      rcases letW_mem m' with h | rfl | ⟨u, h1, h2⟩
      · exact okW_name (hn.1.1 w h)
      · exact key_of (.inl (by decide))
      · exact ih u h1 w h2
    | case rs =>
      rcases List.mem_cons.mp m' with rfl | m'
      · exact key_of (.inl (by decide))
      have sub : ∀ u, u ∈ (wds ks).headD [] → ∃ v ∈ wds ks, u ∈ v := fun u hu => by
        cases e : wds ks with
        | nil =>
          rw [e] at hu
          cases hu
        | cons v r =>
          rw [e] at hu
          exact ⟨v, List.mem_cons_self .., hu⟩
      rcases List.mem_append.mp m' with m' | m'
      · obtain ⟨u, h1, h2⟩ := sub w m'
        exact ih u h1 w h2
      rcases caseW_mem m' with ⟨r, h1, h2⟩ | h | ⟨u, h1, h2⟩
      · rcases h2 with rfl | h2
        · exact okW_con (hn.1.1 r h1).1
        · exact okW_name ((hn.1.1 r h1).2.1 w h2)
      · simp only [List.mem_cons, List.not_mem_nil, or_false] at h
        rcases h with rfl | rfl | rfl | rfl
        · exact key_of (.inl (by decide))
        · exact key_of (.inr (.inl rfl))
        · exact key_of (.inr (.inr (.inl rfl)))
        · exact key_of (.inl (by decide))
      · exact ih u (List.mem_of_mem_tail h1) w h2
    | op o =>
      rcases List.mem_cons.mp m' with rfl | m'
      · exact key_of (.inr (.inr (.inr ⟨_, hf.1⟩)))
      obtain ⟨u, h1, h2⟩ := List.mem_flatten.mp m'
      exact ih u h1 w h2
theorem wds_ok : ∀ (ks : List Tm), Wfs ks → Wns ks → ∀ u ∈ wds ks, ∀ w ∈ u, okW w
  | [], _, _, u, m => by cases m
  | k :: r, hf, hn, u, m => by
    rcases List.mem_cons.mp m with rfl | m
    · exact wd_ok k hf.1 hn.1
    · exact wds_ok r hf.2 hn.2 u m
end
def lens (ws : List (List Str)) : Nat := (ws.map (·.length)).sum
theorem letW_len : ∀ {xs : List Str} {ws : List (List Str)}, (letW xs ws).length ≤ xs.length + 1 + lens ws
  | x :: xs, u :: ws => by
    have := letW_len (xs := xs) (ws := ws)
    show (x :: (u ++ letW xs ws)).length ≤ xs.length + 1 + 1 + (u.length + lens ws)
    rw [List.length_cons, List.length_append]
    omega
  | [], u :: ws => by
    show u.length + 1 ≤ 0 + 1 + (u.length + lens ws)
    omega
  | [], [] => Nat.zero_le _
  | _ :: _, [] => Nat.zero_le _
theorem caseW_len : ∀ {rs : List (Str × List Str)} {ws : List (List Str)}, (∀ r ∈ rs, r.2.length ≤ 4) → (caseW rs ws).length ≤ 8 * rs.length + 1 + lens ws
  | r :: rs, u :: ws, h => by
    have := caseW_len (rs := rs) (ws := ws) fun r' m => h r' (List.mem_cons_of_mem _ m)
    have h4 := h r (List.mem_cons_self ..)
    show (("of" : Str) :: r.1 :: ("(" : Str) :: (r.2 ++ (")" : Str) :: (u ++ caseW rs ws))).length ≤ 8 * (rs.length + 1) + 1 + (u.length + lens ws)
    rw [List.length_cons, List.length_cons, List.length_cons, List.length_append, List.length_cons, List.length_append]
    omega
  | [], [], _ => by show 1 ≤ _; omega
  | [], _ :: _, _ => by show 1 ≤ _; omega
  | _ :: _, [], _ => by show 1 ≤ _; omega
theorem flat_len (ws : List (List Str)) : ws.flatten.length = lens ws := List.length_flatten
mutual
theorem wd_len : ∀ (t : Tm), Wf t → 1 ≤ (wd t).length ∧ (wd t).length ≤ 35 * sz t
  | .nd h ks, hf => by
    have ih := wds_len ks hf.2
    show 1 ≤ (headW h (wds ks)).length ∧ (headW h (wds ks)).length ≤ 35 * (szs ks + 1)
    cases h with
    | var x => exact ⟨Nat.le_refl _, by show 1 ≤ _; omega⟩
    | num n => exact ⟨Nat.le_refl _, by show 1 ≤ _; omega⟩
    | hole => exact ⟨Nat.le_refl _, by show 1 ≤ _; omega⟩
    | mk c xs =>
      have h4 := hf.1.2
      have e : (headW (.mk c xs) (wds ks)).length = xs.length + 4 := by
        show (("make" : Str) :: c :: ("(" : Str) :: (xs ++ [(")" : Str)])).length = _
        simp
      omega
    | fn x =>
      have e : (headW (.fn x) (wds ks)).length = lens (wds ks) + 2 := by
        show (("fun" : Str) :: x :: (wds ks).flatten).length = _
        rw [List.length_cons, List.length_cons, flat_len]
      omega
    | call x =>
      have e : (headW (.call x) (wds ks)).length = lens (wds ks) + 2 := by
        show (("call" : Str) :: ((wds ks).flatten ++ [x])).length = _
        rw [List.length_cons, List.length_append, flat_len]
        rfl
      omega
    | lets xs =>
      have h4 := hf.1.2
      have l := letW_len (xs := xs) (ws := wds ks)
      have e : (headW (.lets xs) (wds ks)).length = (letW xs (wds ks)).length + 1 := rfl
      omega
    | case rs =>
      have h4 := hf.1.2.1
      have l := caseW_len (rs := rs) (ws := (wds ks).tail) hf.1.2.2
      have e : (headW (.case rs) (wds ks)).length = ((wds ks).headD []).length + (caseW rs (wds ks).tail).length + 1 := by
        show (("case" : Str) :: ((wds ks).headD [] ++ caseW rs (wds ks).tail)).length = _
        rw [List.length_cons, List.length_append]
      have e2 : ((wds ks).headD []).length + lens (wds ks).tail ≤ lens (wds ks) := by
        cases wds ks with
        | nil => exact Nat.le_refl _
        | cons a r => exact Nat.le_refl _
      omega
    | op o =>
      have e : (headW (.op o) (wds ks)).length = lens (wds ks) + 1 := by
        show (o :: (wds ks).flatten).length = _
        rw [List.length_cons, flat_len]
      omega
theorem wds_len : ∀ (ks : List Tm), Wfs ks → lens (wds ks) ≤ 35 * szs ks
  | [], _ => Nat.zero_le _
  | k :: r, hf => by
    have h1 := wd_len k hf.1
    have h2 := wds_len r hf.2
    show (wd k).length + lens (wds r) ≤ 35 * (sz k + szs r)
    omega
end
mutual
theorem sz_inn : ∀ (t : Tm), Wf t → sz t ≤ 1 + 5 * inn t
  | .nd h ks, hf => by
    have ih := szs_inn ks hf.2
    have k5 : ks.length ≤ 5 := by
      have ok := hf.1
      cases h with
      | var x => have : ks.length = 0 := ok; omega
      | num x => have : ks.length = 0 := ok; omega
      | mk c xs => have := ok.1; omega
      | hole => have : ks.length = 0 := ok; omega
      | fn x => have : ks.length = 1 := ok; omega
      | call x => have : ks.length = 1 := ok; omega
      | lets xs => have := ok.1; have := ok.2; omega
      | case rs => have := ok.1; have := ok.2.1; omega
      | op w =>
        have e : ∀ p ∈ arities, p.2 ≤ 5 := by decide
        exact e _ ok
    show szs ks + 1 ≤ 1 + 5 * (inns ks + min 1 ks.length)
    by_cases z : ks.length = 0
    · have : ks = [] := List.length_eq_zero_iff.mp z
      subst this
      exact Nat.le_refl _
    · have : min 1 ks.length = 1 := by omega
      rw [this]
      omega
theorem szs_inn : ∀ (ks : List Tm), Wfs ks → szs ks ≤ ks.length + 5 * inns ks
  | [], _ => Nat.zero_le _
  | k :: r, hf => by
    have h1 := sz_inn k hf.1
    have h2 := szs_inn r hf.2
    show sz k + szs r ≤ r.length + 1 + 5 * (inn k + inns r)
    omega
end
theorem txt_S (ws : List Str) : txt ws = SX.S (TL.joinL [32] (ws.map fun w => w.cps.toList)) := by
  have e := SX.join_S [32] (ws.map fun w => w.cps.toList)
  have e2 : (ws.map fun w => w.cps.toList).map SX.S = ws := by
    rw [List.map_map]
    exact (List.map_congr_left fun w _ => SX.S_tl w).trans (List.map_id _)
  rw [e2] at e
  exact e
theorem joinL_len : ∀ (ls : List (List Nat)), (TL.joinL [32] ls).length ≤ (ls.map (·.length)).sum + ls.length ∧ ∀ a r, ls = a :: r → a.length ≤ (TL.joinL [32] ls).length
  | [] => ⟨Nat.zero_le _, fun a r e => by cases e⟩
  | [x] => by
    have e : TL.joinL [32] [x] = x := by simp [TL.joinL]
    rw [e]
    exact ⟨by simp, fun a r h => by cases h; exact Nat.le_refl _⟩
  | x :: y :: r => by
    have ih := (joinL_len (y :: r)).1
    have e : TL.joinL [32] (x :: y :: r) = x ++ ([32] ++ TL.joinL [32] (y :: r)) := by simp [TL.joinL]
    rw [e]
    refine ⟨?_, fun a r h => by cases h; rw [List.length_append]; omega⟩
    rw [List.length_append, List.length_append]
    show x.length + (1 + _) ≤ x.length + ((y :: r).map (·.length)).sum + ((y :: r).length + 1)
    omega
theorem sum_len {ws : List Str} (h : ∀ w ∈ ws, okW w) : (ws.map (·.length)).sum ≤ 6 * ws.length := by
  induction ws with
  | nil => exact Nat.le_refl _
  | cons w r ih =>
    have h1 := (h w (List.mem_cons_self ..)).2.2
    have h2 := ih fun u m => h u (List.mem_cons_of_mem _ m)
    show w.length + (r.map (·.length)).sum ≤ 6 * (r.length + 1)
    omega
end Nz
namespace Nz
open PySem L2
theorem En.setR {S : Addr → Prop} {A : Nat → Addr} {B H : Hp} {σ : St} {es : Es} (E : En S A B H σ es) {k : Nat} {v : V} : En S A B H (σ.set k (some v)) (es.set k (.r v)) := by
  have F : En S A B H (σ.set k (some v)) (es.set k .no) := E.setN
  have same : ∀ {i : Nat} {y : Sl}, (∀ v, y ≠ .r v) → (es.set k (.r v))[i]? = some y → (es.set k .no)[i]? = some y := fun {i y} ny h => by
    rw [List.getElem?_set] at h ⊢
    by_cases c : k = i
    · rw [if_pos c] at h
      split at h
      · cases h
        exact absurd rfl (ny v)
      · cases h
    · rw [if_neg c] at h ⊢
      exact h
  have w : ∀ a, Sx S A (es.set k (.r v)) a → Sx S A (es.set k .no) a := fun a s => s.imp id fun ⟨i, xs, h, e⟩ => ⟨i, xs, same (by intro v z; cases z) h, e⟩
  refine ⟨fun i y h => ?_, fun i xs h => ?_, fun i j xs ys n h1 h2 => F.apart i j xs ys n (same (by intro v z; cases z) h1) (same (by intro v z; cases z) h2), raw_set E (fun v' z => by cases z; rfl), E.same, E.dm, by rw [List.length_set, List.length_set]; exact E.len⟩
  · obtain ⟨u, h1, h2⟩ := F.dat i y (same (by intro v z; cases z) h)
    exact ⟨u, h1, h2.wide w⟩
  · obtain ⟨h1, h2, h3, vs, h4, h5⟩ := F.own i xs (same (by intro v z; cases z) h)
    exact ⟨h1, h2, h3, vs, h4, h5.wide w⟩
/-- Reader(words) -/
def spInit (C : Addr) : Sp := fun vs H Q _ => ∃ r l dx, vs = [.ref r, .ref l] ∧ H r = some (.ins C dx []) ∧ Q .non (upd H r (.ins C dx (rf l 0)))
theorem make_start {C : Addr} {te : TE} {es : Es} {n : Nat} {u : TS} {P : Po} {ws : List Str} {E0 : XK} (h : EL te es (ws.map D.s)) (k : ∀ r l, SY (RdM C r l ws) 0 u (es.set n (.r (.ref r))) ⟨fun _ _ => False, fun d _ => P.rt d, fun d _ => P.rl d, fun _ _ => False, fun _ _ => False⟩) : SD W0 (tSeq (tAsg (tMake C (spInit C) [] E0 (tCons te tNil)) (gName n)) u) es P := fun S A B H σ E w F q =>
  h S A B H σ E _ fun p vs H2 e hn hp is => by
    intro x dx hx hdx ne
    have nx : x ≠ dx := fun z => ne z.symm
    refine ⟨x, p, dx, rfl, upd_same, rfl, ?_⟩
    rw [upd_upd]
    have E2 := E.mono e
    obtain rfl := IsDs.strs is
    obtain ⟨C', E3, sBC, gr, _⟩ := E2.cut (fun _ => False) fun a z => z.elim
    have np : ¬ Sx S A es p := E.dmx.not hn
    have hC : C' p = some (.lst (ws.map V.str)) := gr p _ np hp
    have s2 : Same H2 (upd (upd H2 dx (.own x)) x (.ins C dx (rf p 0))) := fun b o z => by
      have n1 : b ≠ x := fun y => by rw [y, hx] at z; cases z
      have n2 : b ≠ dx := fun y => by rw [y, hdx] at z; cases z
      rw [upd_ne n1, upd_ne n2]
      exact z
    have E4 := E3.vol (p := x) s2 hx (by rw [upd_same]; exact fun z => nomatch z)
    have Cx : C' x = none := E3.same.free hx
    refine k x p _ A C' _ _ E4.setR ⟨fun a z => ?_, hC, dx, upd_same⟩ F ⟨fun _ _ _ _ _ z => z.elim, fun d v H' j r s _ i => ?_, fun xs p' vs' H' j r s _ m n a i => ?_, fun _ _ _ _ _ z => z.elim, fun _ _ _ _ _ z => z.elim⟩
    · cases z
      exact ⟨.inr rfl, Cx⟩
    · exact q.rt d v H' r (sBC.trans s) trivial (i.wide fun a z => .inl z)
    · exact q.rl xs p' vs' H' r (sBC.trans s) trivial (sBC.free m) (fun z => n (.inl z)) a (i.wide fun a z => by
        rcases z with z | z
        · exact .inl (.inl z)
        · exact .inr z)
theorem el_if {te tb : TE} {tc : TT} {es : Es} {ds : List D} {b : Bool} (h : ET tc es b) (h1 : b = true → EL te es ds) (h2 : b = false → EL tb es ds) : EL (tIf tc te tb) es ds := fun S A B H σ E Q q => h S A B H σ E _ fun H2 e => by
  have nn : ∀ p, H2 p = none → H p = none := fun p z => e.free z
  cases b with
  | true => exact h1 rfl S A B H2 σ (E.mono e) Q fun p vs H3 e3 n a k => q p vs H3 (e.trans e3) (nn p n) a k
  | false => exact h2 rfl S A B H2 σ (E.mono e) Q fun p vs H3 e3 n a k => q p vs H3 (e.trans e3) (nn p n) a k
theorem yd_callVG {ι γ : Type} {M : Fam ι} {i : ι} {es : Es} {tas : TA} {v : V} {n m : Nat} {f : Addr} {sp : Sp} {Pre : γ → ι → List D → Prop} {R : γ → ι → List D → D → ι → Prop} {Ra : List D → ι → Prop} (g : γ) (hs : ∀ vs H Q E, spY M v (Pre g) (R g) vs H Q E → sp vs H Q E) (hf : es[m]? = some (.r (.ref f))) (hi : es[n]? = some (.r v)) (h : YDs M i tas es Ra) (hp : ∀ xs j, Ra xs j → Pre g j xs) : YD M i (C8.tCallV m f f sp sp (tCons (tVar n) tas)) es (fun z k => ∃ xs j, Ra xs j ∧ R g j xs z k) := fun S A B H σ E w Q q => by
  refine .inl ⟨E.raw m _ hf, v, E.raw n v hi, h S A B H σ E w _ fun vs H2 xs j r g1 q1 k => ?_⟩
  have E2 := w.en2 E g1 q1
  refine hs _ _ _ _ ⟨_, xs, vs, j, rfl, E2.dmx, fun a s => .inl (w.vol a s).1, q1, (w.at2 q1).k2 E2, k, hp xs j r, fun d m w' H3 r3 g3 j3 k3 => ?_⟩
  exact q w' H3 d m ⟨xs, j, r, r3⟩ (g1.trans g3) j3 k3
/-- words without blanks, as they come out of a text *)-/
structure WsOk (ws : List Str) : Prop where
  sp : ∀ w ∈ ws, 32 ∉ w.cps.toList
  ne : ws ≠ [("" : Str)]
  len : ws.length ≤ 100000
  sum : (ws.map (·.length)).sum ≤ 1000000
theorem WsOk.of {ws : List Str} (h : ∀ w ∈ ws, okW w) (hl : ws.length ≤ 100000) : WsOk ws := ⟨fun w m => (h w m).1, fun z => by
  have := (h "" (by rw [z]; simp)).2.1
  have e : ("" : Str).length = 0 := by decide +kernel
  omega, hl, by have := sum_len h; omega⟩
theorem txt_ln (ws : List Str) : (txt ws).length ≤ (ws.map (·.length)).sum + ws.length := by
  have e : (txt ws).length = (TL.joinL [32] (ws.map fun w => w.cps.toList)).length := by
    rw [txt_S, SX.S_len]
  have jl := (joinL_len (ws.map fun w => w.cps.toList)).1
  have es : ((ws.map fun w => w.cps.toList).map (·.length)) = ws.map (·.length) := by
    rw [List.map_map]
    refine List.map_congr_left fun w _ => ?_
    show w.cps.toList.length = w.cps.size
    simp
  rw [es, List.length_map] at jl
  rw [e]
  exact jl
theorem txt_pos {ws : List Str} (h1 : ws ≠ []) (h2 : ws ≠ [("" : Str)]) : 1 ≤ (txt ws).length := by
  have e : (txt ws).length = (TL.joinL [32] (ws.map fun w => w.cps.toList)).length := by
    rw [txt_S, SX.S_len]
  rw [e]
  match ws, h1, h2 with
  | [w], _, h2 =>
    have e : TL.joinL [32] ([w].map fun w => w.cps.toList) = w.cps.toList := by simp [TL.joinL]
    rw [e]
    cases q : w.cps.toList with
    | nil =>
      exfalso
      apply h2
      have e2 : w = ⟨w.cps.toList.toArray⟩ := (SX.S_tl w).symm
      rw [q] at e2
      rw [e2]
      rfl
    | cons c r => simp
  | w :: v :: r, _, _ =>
    have e : TL.joinL [32] ((w :: v :: r).map fun w => w.cps.toList) = w.cps.toList ++ ([32] ++ TL.joinL [32] ((v :: r).map fun w => w.cps.toList)) := by simp [TL.joinL]
    rw [e, List.length_append, List.length_append]
    show 1 ≤ _ + (1 + _)
    omega
theorem split_tx {ws : List Str} (h : ∀ w ∈ ws, 32 ∉ w.cps.toList) (hne : ws ≠ []) : Txt.split (txt ws) " " = ws := by
  rw [txt_S]
  have e := SX.split_S (a := TL.joinL [32] (ws.map fun w => w.cps.toList)) (b := [32]) (by simp) (by decide)
  have e2 : SX.S [32] = (" " : Str) := rfl
  rw [e2] at e
  rw [e, SX.spl_join (by intro z; exact hne (List.map_eq_nil_iff.mp z)) (fun p hp => ?_), List.map_map]
  · exact (List.map_congr_left fun w _ => SX.S_tl w).trans (List.map_id _)
  · obtain ⟨w, hw, rfl⟩ := List.mem_map.mp hp
    exact h w hw
section
variable {P : Program} {w : World} {K : PySem.W.Frag} {mg : Str → Option Value} {base : Heap}
abbrev RT : Type := Addr × Addr × List Str × Tm
def preWh (x : RT) (k : Nat) (ds : List D) : Prop := ds = [] ∧ okT 60 60 x.2.2.2 ∧ Wat x.2.2.1 k (wd x.2.2.2)
def spWh (mg : Str → Option Value) : Sp := fun vs H Q E => ∃ x : RT, spY (rM mg x.1 x.2.1 x.2.2.1) (.ref x.1) (preWh x) (relP x.2.2.2) vs H Q E
theorem k_read_whole (F : Facts K mg w) : ∃ f, mg "read_whole" = some (.ref f) ∧ C8.CalAt P w K mg base 187 f (spWh mg) := by
  refine F.read_whole.at fun f fd hf => fn_ex fun x => ?_
  have c_read_part := k_read_part (P := P) (w := w) (base := base) F x.1 x.2.1 x.2.2.1 60
  refine fn_Y hf sc_read_whole (fun _ ds ⟨e, _⟩ => by subst e; rfl) (fun cdv A outer s H E hr => ⟨_, (pss_one (ps_ret (C8.pe_c c_read_part hr (by first | decide | omega) rfl (pa_cons (pv 0) (pa_cons (Nz.pe_gE (v := V.int 60) rfl F.g_DEEPEST) pa_nil))))), fun k ds hP => ?_⟩)
  obtain ⟨rfl, ht, hw⟩ := hP
  have hw' : Wat x.2.2.1 k (wd x.2.2.2 ++ []) := by rw [List.append_nil]; exact hw
  exact sy_retY (yd_part (left := 60) rfl ed_int ht hw') fun d j h => h
theorem k_init (F : Facts K mg w) : C8.Mak P w K mg base 1 "Reader" (C_Reader mg) (spInit (C_Reader mg)) [] := by
  refine F.k_Reader.mak fun f fd hf => hf.ok sc_Reader___init__ (fun vs H Q E h => ?_) (fun cdv A outer s H vs Q E hr h => ⟨_, (pss_cons (ps_fld (pv 0) (pv 1) rfl)
    (pss_one (ps_fld (pv 0) pe_int rfl))), ?_⟩)
  · obtain ⟨r, l, dx, rfl, _⟩ := h
    rfl
  obtain ⟨r, l, dx, rfl, h1, k⟩ := h
  refine ⟨_, rfl, _, rfl, r, _, dx, [], rfl, h1, F.cl_Reader, F.n_Reader_words, (by show 0 < 1000; decide), _, rfl, r, _, dx, _, rfl, upd_same, F.cl_Reader, F.n_Reader_at, (by show 1 < 1000; decide), ?_⟩
  rw [upd_upd]
  have e : putF "at" (.int 0) (putF "words" (.ref l) []) = rf l 0 := rf_new l
  show Q .non (upd H r (.ins _ dx (putF "at" (.int 0) (putF "words" (.ref l) []))))
  rw [e]
  exact k
/-- read(reader) reads all these words as this *)-/
def ReadsAs (mg : Str → Option Value) (sp0 : Sp) (ws : List Str) (d : D) : Prop := ∀ r l vs H Q E, spY (rM mg r l ws) (.ref r) (fun k ds => ds = [] ∧ k = 0) (fun _ _ d' j => d' = d ∧ j = ws.length) vs H Q E → sp0 vs H Q E
def spRA (P : Program) (w : World) (K : PySem.W.Frag) (mg : Str → Option Value) (base : Heap) : Sp := fun vs H Q _ => ∃ (S : Addr → Prop) (ws : List Str) (d : D) (f0 : Addr) (sp0 : Sp), vs = [.str (txt ws), .ref f0] ∧ Dm S H ∧ WsOk ws ∧ ws ≠ [] ∧ C8.CalAt P w K mg base 189 f0 sp0 ∧ ReadsAs mg sp0 ws d ∧ ∀ v H', Same H H' → IsD S H' d v → Q v H'
theorem k_read_all (F : Facts K mg w) : C8.Cal P w K mg base 190 "read_all" (spRA P w K mg base) [] := by
  have k_Reader := k_init (P := P) (w := w) (base := base) F
  refine F.read_all.cal fun f fd hf => hf.ok sc_read_all (fun vs H Q E h => ?_) (fun cdv A outer s H vs Q E hr h => ?_)
  · obtain ⟨S, ws, d, f0, sp0, rfl, _⟩ := h
    rfl
  obtain ⟨S, ws, d0, f0, sp0, rfl, dm, hok, ne, v_read, hR, kq⟩ := h
  refine ⟨_, (pss_cons (ps_set (i := 2) sc_read_all.nd rfl (Or.inl rfl) (C8.pe_mk k_Reader hr (by first | decide | omega) rfl (pa_cons (pe_ifExp (Nz.ptTru K (pv 0)) (pe_split (pv 0) pe_str) (pe_lst pa_nil)) pa_nil)))
    (pss_cons (ps_set (i := 3) sc_read_all.nd rfl (Or.inl rfl) (C8.pe_cv v_read v_read hr (by first | decide | omega) (by first | decide | omega) (i := 1) rfl (by first | exact Or.inl rfl | exact Or.inr (Or.inl rfl)) (pa_cons (pv 2) pa_nil)))
    (pss_cons (ps_if (pt_cmpR op_lt (pe_fld (pv 2) rfl) (pe_callB (Nz.cLen K) rfl F.b_len Nz.boot_len (pa_cons (pe_fld (pv 2) rfl) pa_nil)) (nomark _)) (pss_one ps_dead) pss_nil)
    (pss_one (ps_ret (pv 3)))))), ?_⟩
  have tl := txt_ln ws
  have hl := hok.len
  have hs := hok.sum
  have tp := txt_pos ne hok.ne
  have En0 : En S (fun _ => 0) H H [some (.str (txt ws)), some (.ref f0), none, none] [.d (.s (txt ws)), .r (.ref f0), .no, .no] := by
    refine ⟨fun i y h => ?_, fun i xs h => ?_, fun i j xs ys n h1 h2 => ?_, fun i v h => ?_, Same.refl H, dm, rfl⟩
    · match i, h with
      | 0, h => cases h; exact ⟨_, rfl, rfl⟩
      | 1, h | 2, h | 3, h => cases h
      | i + 4, h => cases h
    · match i, h with
      | 0, h | 1, h | 2, h | 3, h => cases h
      | i + 4, h => cases h
    · match i, h1 with
      | 0, h | 1, h | 2, h | 3, h => cases h
      | i + 4, h => cases h
    · match i, h with
      | 1, h => cases h; rfl
      | 0, h | 2, h | 3, h => cases h
      | i + 4, h => cases h
  refine (make_start (ws := ws) (P := ⟨fun _ => False, fun d => d = d0, fun _ => False, fun _ => False, fun _ => False⟩) ?_ fun r l => ?_) S (fun _ => 0) H H _ En0 wok0 _ ⟨fun _ _ _ _ z => z.elim, fun d v H' e s _ i => kq v H' s (by subst e; exact i), fun _ _ _ _ z => z.elim, fun _ _ _ _ z => z.elim, fun _ _ _ _ z => z.elim⟩
  · refine el_if (et_truS (ed_var rfl) (Nat.le_trans (show (txt ws).length ≤ 2000000 by omega) (by decide))) (fun _ => ?_) (fun h => ?_)
    · have e := el_split (ta := tVar 0) (te := tC (.str " ")) (es := [.d (.s (txt ws)), .r (.ref f0), .no, .no]) (ed_var rfl) (ed_str (x := " ")) rfl (Nat.le_trans (show (txt ws).length + 2 ≤ 2000000 by omega) (by decide))
      rw [split_tx hok.sp ne] at e
      exact e
    · exfalso
      have : ((txt ws).length : Int) = 0 := by simpa using h
      omega
  · refine syq_setY (yd_callVG (Pre := fun (_ : Unit) (k : Nat) ds => ds = [] ∧ k = 0) (R := fun (_ : Unit) (_ : Nat) (_ : List D) d' (j : Nat) => d' = d0 ∧ j = ws.length) () (fun vs H Q E h => hR r l vs H Q E h) rfl rfl (yds_eds ea_nil) fun xs j h => h) fun d j ⟨xs, j0, _, e, e2⟩ => ?_
    subst e e2
    refine sy_sd (sq_ifX (R := fun b => b = false) (xt_test (xd_imp (xd_op (R3 := fun x y z => z = .b false) (xd_at F.cl_Reader F.n_Reader_at rfl) (fun _ _ => xd_lenW F.cl_Reader F.n_Reader_words rfl) fun x y e1 e2 => ?_) fun d ⟨_, _, _, _, e⟩ => ⟨_, e, rfl⟩)) (fun h => by cases h) (fun _ => ?_))
    · subst e1 e2
      exact ⟨_, rd_bool rfl, congrArg D.b (decide_eq_false (by omega))⟩
    · exact sd_ret (ed_var rfl) rfl
end
end Nz
namespace Nz
open PySem L2
mutual
def dD : D → Nat
  | .t xs => dDs xs + 1
  | .l xs => dDs xs + 1
  | _ => 0
def dDs : List D → Nat
  | [] => 0
  | x :: r => max (dD x) (dDs r)
end
mutual
/-- all lists in it are of bounded length -/
def smD : D → Prop
  | .t xs => xs.length ≤ 1000000 ∧ smDs xs
  | .l xs => xs.length ≤ 1000000 ∧ smDs xs
  | .e _ => False
  | _ => True
def smDs : List D → Prop
  | [] => True
  | x :: r => smD x ∧ smDs r
end
theorem dDs_get {x : D} : ∀ {xs : List D} {i : Nat}, xs[i]? = some x → dD x ≤ dDs xs
  | _ :: _, 0, h => by
    cases h
    exact Nat.le_max_left _ _
  | _ :: r, i + 1, h => Nat.le_trans (dDs_get (xs := r) (i := i) h) (Nat.le_max_right _ _)
theorem smDs_get {x : D} : ∀ {xs : List D} {i : Nat}, smDs xs → xs[i]? = some x → smD x
  | _ :: _, 0, w, h => by
    cases h
    exact w.1
  | _ :: r, i + 1, w, h => smDs_get (xs := r) (i := i) w.2 h
theorem kids_le {h : Hd} {n : Nat} (ok : okH h n) : n ≤ 5 := by
  cases h with
  | var x => have : n = 0 := ok; omega
  | num x => have : n = 0 := ok; omega
  | mk c xs => have := ok.1; omega
  | hole => have : n = 0 := ok; omega
  | fn x => have : n = 1 := ok; omega
  | call x => have : n = 1 := ok; omega
  | lets xs => have := ok.1; have := ok.2; omega
  | case rs => have := ok.1; have := ok.2.1; omega
  | op w =>
    have e : ∀ p ∈ arities, p.2 ≤ 5 := by decide
    exact e _ ok
theorem dDs_le {n : Nat} : ∀ {xs : List D}, (∀ x ∈ xs, dD x ≤ n) → dDs xs ≤ n
  | [], _ => Nat.zero_le _
  | x :: r, h => Nat.max_le.mpr ⟨h x (List.mem_cons_self ..), dDs_le fun y m => h y (List.mem_cons_of_mem _ m)⟩
theorem smDs_of : ∀ {xs : List D}, (∀ x ∈ xs, smD x) → smDs xs
  | [], _ => trivial
  | x :: r, h => ⟨h x (List.mem_cons_self ..), smDs_of fun y m => h y (List.mem_cons_of_mem _ m)⟩
theorem dD_t {n : Nat} {xs : List D} (h : ∀ x ∈ xs, dD x ≤ n) : dD (.t xs) ≤ n + 1 := Nat.succ_le_succ (dDs_le h)
theorem dD_l {n : Nat} {xs : List D} (h : ∀ x ∈ xs, dD x ≤ n) : dD (.l xs) ≤ n + 1 := Nat.succ_le_succ (dDs_le h)
theorem smD_t {xs : List D} (hl : xs.length ≤ 1000000) (h : ∀ x ∈ xs, smD x) : smD (.t xs) := ⟨hl, smDs_of h⟩
theorem smD_l {xs : List D} (hl : xs.length ≤ 1000000) (h : ∀ x ∈ xs, smD x) : smD (.l xs) := ⟨hl, smDs_of h⟩
theorem tS_d (xs : List Str) : dD (tS xs) ≤ 1 := dD_t (n := 0) fun x m => by
  obtain ⟨s, _, rfl⟩ := List.mem_map.mp m
  exact Nat.le_refl _
theorem tS_s {xs : List Str} (h : xs.length ≤ 1000000) : smD (tS xs) := smD_t (by rw [List.length_map]; exact h) fun x m => by
  obtain ⟨s, _, rfl⟩ := List.mem_map.mp m
  trivial
theorem all3 {P : D → Prop} {a b c : D} (h1 : P a) (h2 : P b) (h3 : P c) : ∀ x ∈ [a, b, c], P x := fun x m => by
  rcases List.mem_cons.mp m with rfl | m
  · exact h1
  rcases List.mem_cons.mp m with rfl | m
  · exact h2
  cases List.mem_singleton.mp m
  exact h3
theorem all2 {P : D → Prop} {a b : D} (h1 : P a) (h2 : P b) : ∀ x ∈ [a, b], P x := fun x m => by
  rcases List.mem_cons.mp m with rfl | m
  · exact h1
  cases List.mem_singleton.mp m
  exact h2
theorem getD_all {P : D → Prop} {xs : List D} {i : Nat} (h : ∀ x ∈ xs, P x) (hn : P .n) : P (xs.getD i .n) := by
  rw [List.getD_eq_getElem?_getD]
  cases e : xs[i]? with
  | none => exact hn
  | some x => exact h x (List.mem_of_getElem? e)
/-- how deep a head's data lie above its parts' -/
def wt : Hd → Nat
  | .op _ => 1
  | _ => 4
mutual
def ew : Tm → Nat
  | .nd h ks => ews ks + wt h
def ews : List Tm → Nat
  | [] => 0
  | k :: r => max (ew k) (ews r)
end
theorem wt_le (h : Hd) : wt h ≤ 4 := by
  cases h with
  | op w => show 1 ≤ 4; decide
  | _ => exact Nat.le_refl _
mutual
theorem ew_dep : ∀ t : Tm, ew t ≤ 4 * dep t
  | .nd h ks => by
    have h1 := ews_dep ks
    have h2 := wt_le h
    show ews ks + wt h ≤ 4 * (deps ks + 1)
    omega
theorem ews_dep : ∀ ks : List Tm, ews ks ≤ 4 * deps ks
  | [] => Nat.le_refl _
  | k :: r => by
    have h1 := ew_dep k
    have h2 := ews_dep r
    show max (ew k) (ews r) ≤ 4 * max (dep k) (deps r)
    omega
end
theorem dD_encH {h : Hd} {ds : List D} {n : Nat} (hd : ∀ d ∈ ds, dD d ≤ n) : dD (encH h ds) ≤ n + wt h := by
  have z : ∀ {x : D}, dD x ≤ n → dD x ≤ n + 3 := fun h => Nat.le_trans h (by omega)
  have g : ∀ i, dD (ds.getD i .n) ≤ n + 3 := fun i => getD_all (P := fun x => dD x ≤ n + 3) (fun x m => z (hd x m)) (Nat.zero_le _)
  cases h with
  | var x => exact dD_t (n := n + 3) (all2 (Nat.zero_le _) (Nat.zero_le _))
  | num x => exact dD_t (n := n + 3) (all2 (Nat.zero_le _) (Nat.zero_le _))
  | mk c xs => exact dD_t (n := n + 3) (all3 (Nat.zero_le _) (Nat.zero_le _) (Nat.le_trans (tS_d xs) (by omega)))
  | hole => exact dD_t (n := n + 3) fun x m => by cases List.mem_singleton.mp m; exact Nat.zero_le _
  | fn x => exact dD_t (n := n + 3) (all3 (Nat.zero_le _) (Nat.zero_le _) (g 0))
  | call x => exact dD_t (n := n + 3) (all3 (Nat.zero_le _) (g 0) (Nat.zero_le _))
  | lets xs =>
    refine dD_t (n := n + 3) (all3 (Nat.zero_le _) (dD_t (n := n + 2) fun x m => ?_) (g _))
    obtain ⟨p, hp, rfl⟩ := List.mem_map.mp m
    exact dD_t (n := n + 1) (all2 (Nat.zero_le _) (Nat.le_succ_of_le (hd _ (List.of_mem_zip (show (p.1, p.2) ∈ _ from hp)).2)))
  | case rs =>
    refine dD_t (n := n + 3) (all3 (Nat.zero_le _) (g 0) (dD_t (n := n + 2) fun x m => ?_))
    obtain ⟨p, hp, rfl⟩ := List.mem_map.mp m
    have := hd _ (List.mem_of_mem_tail (List.of_mem_zip (show (p.1, p.2) ∈ _ from hp)).2)
    have t1 := tS_d p.1.2
    exact dD_t (n := n + 1) (all3 (Nat.zero_le _) (by omega) (by omega))
  | op w =>
    refine dD_t (n := n) fun x m => ?_
    rcases List.mem_cons.mp m with rfl | m
    · exact Nat.zero_le _
    · exact hd x m
theorem sh1m {xs : List D} (h : shortL xs 40 = true) : xs.length ≤ 1000000 := Nat.le_trans (shortL_le h) (by decide)
theorem smD_encH {h : Hd} {ds : List D} (ok : okH h ds.length) (hd : ∀ d ∈ ds, smD d) : smD (encH h ds) := by
  have g : ∀ i, smD (ds.getD i .n) := fun i => getD_all hd trivial
  have k5 := kids_le ok
  cases h with
  | var x => exact smD_t (sh1m rfl) (all2 trivial trivial)
  | num x => exact smD_t (sh1m rfl) (all2 trivial trivial)
  | mk c xs => exact smD_t (sh1m rfl) (all3 trivial trivial (tS_s (Nat.le_trans ok.2 (by decide))))
  | hole => exact smD_t (sh1m rfl) fun x m => by cases List.mem_singleton.mp m; trivial
  | fn x => exact smD_t (sh1m rfl) (all3 trivial trivial (g 0))
  | call x => exact smD_t (sh1m rfl) (all3 trivial (g 0) trivial)
  | lets xs =>
    refine smD_t (sh1m rfl) (all3 trivial (smD_t ?_ fun x m => ?_) (g _))
    · rw [List.length_map, List.length_zip]
      omega
    obtain ⟨p, hp, rfl⟩ := List.mem_map.mp m
    exact smD_t (sh1m rfl) (all2 trivial (hd _ (List.of_mem_zip (show (p.1, p.2) ∈ _ from hp)).2))
  | case rs =>
    refine smD_t (sh1m rfl) (all3 trivial (g 0) (smD_t ?_ fun x m => ?_))
    · rw [List.length_map, List.length_zip, List.length_tail]
      omega
    obtain ⟨p, hp, rfl⟩ := List.mem_map.mp m
    have q := List.of_mem_zip (show (p.1, p.2) ∈ _ from hp)
    exact smD_t (sh1m rfl) (all3 trivial (tS_s (Nat.le_trans (ok.2.2 _ q.1) (by decide))) (hd _ (List.mem_of_mem_tail q.2)))
  | op w =>
    refine smD_t (by show ds.length + 1 ≤ _; omega) fun x m => ?_
    rcases List.mem_cons.mp m with rfl | m
    · trivial
    · exact hd x m
mutual
theorem dD_enc : ∀ t : Tm, dD (enc t) ≤ ew t
  | .nd h ks => by
    show dD (encH h (encs ks)) ≤ ews ks + wt h
    exact dD_encH (n := ews ks) (dD_encs ks)
theorem dD_encs : ∀ ks : List Tm, ∀ d ∈ encs ks, dD d ≤ ews ks
  | k :: r, d, m => by
    rcases List.mem_cons.mp (show d ∈ enc k :: encs r from m) with e | m
    · rw [e]
      exact Nat.le_trans (dD_enc k) (Nat.le_max_left _ _)
    · exact Nat.le_trans (dD_encs r d m) (Nat.le_max_right _ _)
end
mutual
theorem smD_enc : ∀ t : Tm, Wf t → smD (enc t)
  | .nd h ks, w => by
    show smD (encH h (encs ks))
    refine smD_encH (by rw [encs_map, List.length_map]; exact w.1) (smD_encs ks w.2)
theorem smD_encs : ∀ ks : List Tm, Wfs ks → ∀ d ∈ encs ks, smD d
  | k :: r, w, d, m => by
    rcases List.mem_cons.mp (show d ∈ enc k :: encs r from m) with e | m
    · rw [e]
      exact smD_enc k w.1
    · exact smD_encs r w.2 d m
end
section
variable {P : Program} {w : World} {K : PySem.W.Frag} {mg : Str → Option Value} {base : Heap}
def R_same (n : Nat) (ds : List D) (d : D) : Prop := ∃ x, dD x ≤ n ∧ smD x ∧ ds = [x, x] ∧ d = .b true
def R_same' (n : Nat) (ds : List D) (d : D) : Prop := ∃ x, dD x < n ∧ smD x ∧ ds = [x, x] ∧ d = .b true
theorem same_step (F : Facts K mg w) (n : Nat) (c__law_same : C8.Cal P w K mg base n "_law_same" (spR (R_same' n)) []) : C8.Cal P w K mg base (n + 1) "_law_same" (spR (R_same n)) [] := by
  refine F._law_same.R sc__law_same (by decide) (fun ds d h => ?_) (fun f cdv A outer s H E hr => ⟨_, (pss_cons (ps_if (PW.pt (pw_or (pt_val (pe_callB (Nz.cIsi K) rfl F.b_isinstance Nz.boot_isinstance (pa_cons (pv 1) (pa_cons (pe_bltn (v := V.ty "tuple") rfl F.b_tuple Nz.boot_tuple rfl) pa_nil)))) (pw_or1 (pt_val (pe_callB (Nz.cIsi K) rfl F.b_isinstance Nz.boot_isinstance (pa_cons (pv 1) (pa_cons (pe_bltn (v := V.ty "list") rfl F.b_list Nz.boot_list rfl) pa_nil))))))) (pss_cons (ps_if (PW.pt (pw_or (pt_cmpR op_ne (pe_callB (Nz.cIsi K) rfl F.b_isinstance Nz.boot_isinstance (pa_cons (pv 1) (pa_cons (pe_bltn (v := V.ty "tuple") rfl F.b_tuple Nz.boot_tuple rfl) pa_nil))) (pe_callB (Nz.cIsi K) rfl F.b_isinstance Nz.boot_isinstance (pa_cons (pv 0) (pa_cons (pe_bltn (v := V.ty "tuple") rfl F.b_tuple Nz.boot_tuple rfl) pa_nil))) (nomark _)) (pw_or1 (pt_cmpR op_ne (pe_callB (Nz.cIsi K) rfl F.b_isinstance Nz.boot_isinstance (pa_cons (pv 1) (pa_cons (pe_bltn (v := V.ty "list") rfl F.b_list Nz.boot_list rfl) pa_nil))) (pe_callB (Nz.cIsi K) rfl F.b_isinstance Nz.boot_isinstance (pa_cons (pv 0) (pa_cons (pe_bltn (v := V.ty "list") rfl F.b_list Nz.boot_list rfl) pa_nil))) (nomark _))))) (pss_one (ps_ret pe_bl)) pss_nil)
    (pss_cons (ps_if (pt_cmpR op_ne (pe_callB (Nz.cLen K) rfl F.b_len Nz.boot_len (pa_cons (pv 0) pa_nil)) (pe_callB (Nz.cLen K) rfl F.b_len Nz.boot_len (pa_cons (pv 1) pa_nil)) (nomark _)) (pss_one (ps_ret pe_bl)) pss_nil)
    (pss_cons (ps_for PassesOwn.never rfl (pi_range1 rfl F.b_range (pa_cons (pe_callB (Nz.cLen K) rfl F.b_len Nz.boot_len (pa_cons (pv 1) pa_nil)) pa_nil)) (pg_name (i := 2) sc__law_same.nd rfl (Or.inl rfl)) (pss_one (ps_if (pt_not (pt_val (C8.pe_c c__law_same hr (by first | decide | omega) rfl (pa_cons (pe_ix (Nz.ixQ K) (pv 0) (pv 2) (fun _ _ => rfl)) (pa_cons (pe_ix (Nz.ixQ K) (pv 1) (pv 2) (fun _ _ => rfl)) pa_nil))))) (pss_one (ps_ret pe_bl)) pss_nil)))
    (pss_one (ps_ret pe_bl))))) pss_nil)
    (pss_cons (ps_if (PW.pt (pw_or (pt_cmpR Nz.op_isNn (pv 1) pe_non (nomark _)) (pw_or1 (pt_val (pe_callB (Nz.cIsi K) rfl F.b_isinstance Nz.boot_isinstance (pa_cons (pv 1) (pa_cons (pe_bltn (v := V.ty "bool") rfl F.b_bool Nz.boot_bool rfl) pa_nil))))))) (pss_one (ps_ret (pe_and (pe_cmpR op_eq (pe_cmpR Nz.op_isNn (pv 0) pe_non (nomark _)) (pe_cmpR Nz.op_isNn (pv 1) pe_non (nomark _)) (nomark _)) (pe_and (pe_or (pe_cmpR Nz.op_isNn (pv 1) pe_non (nomark _)) (pe_one (pe_callB (Nz.cIsi K) rfl F.b_isinstance Nz.boot_isinstance (pa_cons (pv 0) (pa_cons (pe_bltn (v := V.ty "bool") rfl F.b_bool Nz.boot_bool rfl) pa_nil))))) (pe_one (pe_cmpR op_eq (pv 0) (pv 1) (nomark _))))))) pss_nil)
    (pss_cons (ps_if (pt_val (pe_callB (Nz.cIsi K) rfl F.b_isinstance Nz.boot_isinstance (pa_cons (pv 1) (pa_cons (pe_bltn (v := V.ty "int") rfl F.b_int Nz.boot_int rfl) pa_nil)))) (pss_one (ps_ret (pe_and (pe_callB (Nz.cIsi K) rfl F.b_isinstance Nz.boot_isinstance (pa_cons (pv 0) (pa_cons (pe_bltn (v := V.ty "int") rfl F.b_int Nz.boot_int rfl) pa_nil))) (pe_and (pe_not (pe_callB (Nz.cIsi K) rfl F.b_isinstance Nz.boot_isinstance (pa_cons (pv 0) (pa_cons (pe_bltn (v := V.ty "bool") rfl F.b_bool Nz.boot_bool rfl) pa_nil)))) (pe_one (pe_cmpR op_eq (pv 0) (pv 1) (nomark _))))))) pss_nil)
    (pss_one (ps_ret (pe_and (pe_callB (Nz.cIsi K) rfl F.b_isinstance Nz.boot_isinstance (pa_cons (pv 0) (pa_cons (pe_bltn (v := V.ty "str") rfl F.b_str Nz.boot_str rfl) pa_nil))) (pe_one (pe_cmpR op_eq (pv 0) (pv 1) (nomark _))))))))), fun ds d h => ?_⟩)
  · obtain ⟨x, _, _, rfl, _⟩ := h
    rfl
  obtain ⟨x, hd, hs, rfl, rfl⟩ := h
  have isi : ∀ {te : TE} {es : Es} {x : D} (T : String) (b : Bool), ED te es x → L2.kitB (tyD x) T = some b → ED (tCB (rIsi K) (tCons te (tCons (tC (.ty T)) tNil))) es (.b b) := fun T b h e => ed_isi (ED.toX h) e
  cases x with
  | e z => exact (show False from hs).elim
  | s z =>
    refine sq_ifF (et_or (et_B (isi "tuple" false (ed_var rfl) (by simp only [tyD]; decide +kernel))) fun _ => et_B (isi "list" false (ed_var rfl) (by simp only [tyD]; decide +kernel))) rfl ?_
    refine sq_ifF (et_or (et_test (ed_op (ed_var rfl) ed_non rd_isN)) fun _ => et_B (isi "bool" false (ed_var rfl) (by simp only [tyD]; decide +kernel))) rfl ?_
    refine sq_ifF (et_B (isi "int" false (ed_var rfl) (by simp only [tyD]; decide +kernel))) rfl ?_
    exact sd_ret (ed_andV (isi "str" true (ed_var rfl) (by simp only [tyD]; decide +kernel)) fun _ => ed_op (ed_var rfl) (ed_var rfl) rd_eqS) (by rw [decide_eq_true rfl]; rfl)
  | i z =>
    refine sq_ifF (et_or (et_B (isi "tuple" false (ed_var rfl) (by simp only [tyD]; decide +kernel))) fun _ => et_B (isi "list" false (ed_var rfl) (by simp only [tyD]; decide +kernel))) rfl ?_
    refine sq_ifF (et_or (et_test (ed_op (ed_var rfl) ed_non rd_isN)) fun _ => et_B (isi "bool" false (ed_var rfl) (by simp only [tyD]; decide +kernel))) rfl ?_
    refine sq_ifT (et_B (isi "int" true (ed_var rfl) (by simp only [tyD]; decide +kernel))) rfl ?_
    exact sq_ret (ed_andV (isi "int" true (ed_var rfl) (by simp only [tyD]; decide +kernel)) fun _ => ed_andV (ed_notV (isi "bool" false (ed_var rfl) (by simp only [tyD]; decide +kernel))) fun _ => ed_op (ed_var rfl) (ed_var rfl) rd_eqI) (by rw [decide_eq_true rfl]; rfl)
  | b z =>
    refine sq_ifF (et_or (et_B (isi "tuple" false (ed_var rfl) (by simp only [tyD]; decide +kernel))) fun _ => et_B (isi "list" false (ed_var rfl) (by simp only [tyD]; decide +kernel))) rfl ?_
    refine sq_ifT (et_or (et_test (ed_op (ed_var rfl) ed_non rd_isN)) fun _ => et_B (isi "bool" true (ed_var rfl) (by simp only [tyD]; decide +kernel))) rfl ?_
    exact sq_ret (ed_andV (ed_op (ed_op (ed_var rfl) ed_non rd_isN) (ed_op (ed_var rfl) ed_non rd_isN) rd_eqB) fun _ => ed_andV (ed_orV (ed_op (ed_var rfl) ed_non rd_isN) fun _ => isi "bool" true (ed_var rfl) (by simp only [tyD]; decide +kernel)) fun _ => ed_op (ed_var rfl) (ed_var rfl) rd_eqB) (by cases z <;> rfl)
  | n =>
    refine sq_ifF (et_or (et_B (isi "tuple" false (ed_var rfl) (by simp only [tyD]; decide +kernel))) fun _ => et_B (isi "list" false (ed_var rfl) (by simp only [tyD]; decide +kernel))) rfl ?_
    have e0 : ∀ (te : TE) (es : Es), ED te es .n → ED (tOp rIsN1 te (tC .non)) es (.b true) := fun te es h => ed_op h ed_non rd_isN
    refine sq_ifT (et_or (a := true) (b := true) (et_test (e0 _ _ (ed_var rfl))) fun h => absurd h (by decide)) rfl ?_
    exact sq_ret (ed_andV (a := true) (ed_op (e0 _ _ (ed_var rfl)) (e0 _ _ (ed_var rfl)) rd_eqB) fun _ => ed_andV (a := true) (ed_orV (a := true) (b := true) (e0 _ _ (ed_var rfl)) fun h => absurd h (by decide)) fun _ => ed_op (ed_var rfl) (ed_var rfl) rd_eqN) rfl
  | t xs =>
    refine sq_ifT (et_or (b := true) (et_B (isi "tuple" true (ed_var rfl) (by simp only [tyD]; decide +kernel))) fun h => absurd h (by decide)) rfl ?_
    refine sq_assoc (sq_ifF (et_or (et_test (ed_op (isi "tuple" true (ed_var rfl) (by simp only [tyD]; decide +kernel)) (isi "tuple" true (ed_var rfl) (by simp only [tyD]; decide +kernel)) rd_neB)) fun _ => et_test (ed_op (isi "list" false (ed_var rfl) (by simp only [tyD]; decide +kernel)) (isi "list" false (ed_var rfl) (by simp only [tyD]; decide +kernel)) rd_neB)) rfl ?_)
    refine sq_assoc (sq_ifF (b := false) (et_eq (et_test (ed_op (ed_cb (ea_cons (ed_var rfl) ea_nil) rc_lenT) (ed_cb (ea_cons (ed_var rfl) ea_nil) rc_lenT) rd_neI)) (by rw [decide_eq_true rfl]; rfl)) rfl ?_)
    refine sq_assoc (sd_seq (fun e => ∃ κ, e = [.d (.t xs), .d (.t xs), κ]) ?_ ?_)
    · refine sd_for (src_rng (ea_cons (ed_cb (ea_cons (ed_var rfl) ea_nil) rc_lenT) ea_nil) hs.1) (fun i e => ∃ κ, e = [.d (.t xs), .d (.t xs), κ]) ⟨_, rfl⟩ (fun i d e hdi he => ?_) (fun e he => he)
      obtain ⟨κ, rfl⟩ := he
      have hi : i < xs.length := by
        have := (List.getElem?_eq_some_iff.mp hdi).1
        simpa [rngD] using this
      have ed : d = .i (i : Int) := by
        unfold rngD at hdi
        rw [List.getElem?_map, List.getElem?_range hi] at hdi
        exact (Option.some.inj hdi).symm
      subst ed
      have hx := List.getElem?_eq_getElem hi
      have hdx : dD (.t xs) = dDs xs + 1 := rfl
      have h1 := dDs_get hx
      refine ⟨_, gd_name, ?_⟩
      refine sd_if (et_not (et_B (ed_call (ea_cons (ed_op (ed_var rfl) (ed_var rfl) (rd_ixQt (atI_nat hx))) (ea_cons (ed_op (ed_var rfl) (ed_var rfl) (rd_ixQt (atI_nat hx))) ea_nil)) ⟨xs[i], by omega, smDs_get hs.2 hx, rfl, rfl⟩))) (fun h => by cases h) (fun _ => sd_next ⟨_, rfl⟩)
    · rintro e ⟨κ, rfl⟩
      exact sq_ret ed_bl rfl
  | l xs =>
    refine sq_ifT (et_or (et_B (isi "tuple" false (ed_var rfl) (by simp only [tyD]; decide +kernel))) fun _ => et_B (isi "list" true (ed_var rfl) (by simp only [tyD]; decide +kernel))) rfl ?_
    refine sq_assoc (sq_ifF (et_or (et_test (ed_op (isi "tuple" false (ed_var rfl) (by simp only [tyD]; decide +kernel)) (isi "tuple" false (ed_var rfl) (by simp only [tyD]; decide +kernel)) rd_neB)) fun _ => et_test (ed_op (isi "list" true (ed_var rfl) (by simp only [tyD]; decide +kernel)) (isi "list" true (ed_var rfl) (by simp only [tyD]; decide +kernel)) rd_neB)) rfl ?_)
    refine sq_assoc (sq_ifF (b := false) (et_eq (et_test (ed_op (ed_cb (ea_cons (ed_var rfl) ea_nil) rc_lenL) (ed_cb (ea_cons (ed_var rfl) ea_nil) rc_lenL) rd_neI)) (by rw [decide_eq_true rfl]; rfl)) rfl ?_)
    refine sq_assoc (sd_seq (fun e => ∃ κ, e = [.d (.l xs), .d (.l xs), κ]) ?_ ?_)
    · refine sd_for (src_rng (ea_cons (ed_cb (ea_cons (ed_var rfl) ea_nil) rc_lenL) ea_nil) hs.1) (fun i e => ∃ κ, e = [.d (.l xs), .d (.l xs), κ]) ⟨_, rfl⟩ (fun i d e hdi he => ?_) (fun e he => he)
      obtain ⟨κ, rfl⟩ := he
      have hi : i < xs.length := by
        have := (List.getElem?_eq_some_iff.mp hdi).1
        simpa [rngD] using this
      have ed : d = .i (i : Int) := by
        unfold rngD at hdi
        rw [List.getElem?_map, List.getElem?_range hi] at hdi
        exact (Option.some.inj hdi).symm
      subst ed
      have hx := List.getElem?_eq_getElem hi
      have hdx : dD (.l xs) = dDs xs + 1 := rfl
      have h1 := dDs_get hx
      refine ⟨_, gd_name, ?_⟩
      refine sd_if (et_not (et_B (ed_call (ea_cons (ed_op (ed_var rfl) (ed_var rfl) (rd_ixQl (atI_nat hx))) (ea_cons (ed_op (ed_var rfl) (ed_var rfl) (rd_ixQl (atI_nat hx))) ea_nil)) ⟨xs[i], by omega, smDs_get hs.2 hx, rfl, rfl⟩))) (fun h => by cases h) (fun _ => sd_next ⟨_, rfl⟩)
    · rintro e ⟨κ, rfl⟩
      exact sq_ret ed_bl rfl
theorem k__law_same (F : Facts K mg w) : ∀ n : Nat, C8.Cal P w K mg base (n + 1) "_law_same" (spR (R_same n)) []
  | 0 => same_step F 0 (F._law_same.cal fun f fd hf => by
      have no : ∀ vs H Q E, ¬ spR (R_same' 0) vs H Q E := fun vs H Q E h => by
        obtain ⟨_, _, _, _, _, ⟨t, h1, _⟩, _⟩ := h
        omega
      exact ⟨fun vs H Q E h => absurd h (no vs H Q E), fun A outer s H args us vs Q E _ _ _ _ h => absurd h (no vs H Q E)⟩)
  | n + 1 => same_step F (n + 1) (by
      obtain ⟨f, fd, ps, ds, G, r⟩ := (k__law_same F n).ex
      refine ⟨f, fd, ps, ds, (G.imp fun vs H Q E h => ?_), r⟩
      obtain ⟨S, ds, d, dm, is, ⟨x, h1, h2, h3, h4⟩, q⟩ := h
      exact ⟨S, ds, d, dm, is, ⟨x, by omega, h2, h3, h4⟩, q⟩)
/-- the pool is made: a new list of a new list of the script's numbers and five numbers -/
def spPool (K : PySem.W.Frag) : Sp := fun vs H Q _ => ∃ (a : Addr) (ns : List Int) (b : Int), vs = [.ref a, .int b] ∧ SqL K H a (ns.map V.int) ∧ ∀ p q H', Same H H' → H p = none → H q = none → p ≠ q → H' p = some (poolL q 0 0 1 0 b) → H' q = some (.lst (ns.map V.int)) → Q (.ref p) H'
theorem k__law_pool (F : Facts K mg w) : C8.Cal P w K mg base 1 "_law_pool" (spPool K) [] := by
  refine F._law_pool.cal fun f fd hf => hf.ok sc__law_pool (fun vs H Q E h => ?_) (fun cdv A outer s H vs Q E hr h => ⟨_, (pss_one (ps_ret (pe_lst (pa_cons (pe_callTy (Nz.cLst K) rfl F.b_list Nz.boot_list (pa_cons (pv 0) pa_nil)) (pa_cons pe_int (pa_cons pe_int (pa_cons pe_int (pa_cons pe_int (pa_cons (pv 1) pa_nil))))))))), ?_⟩)
  · obtain ⟨a, ns, b, rfl, _⟩ := h
    rfl
  obtain ⟨a, ns, b, rfl, hS, k⟩ := h
  refine ⟨_, rfl, a, _, rfl, .inl hS, fun q hq => ?_⟩
  refine ⟨_, rfl, (by show 6 ≤ sizeLine; decide), fun p hp => ?_⟩
  have ne : p ≠ q := fun z => by
    rw [z, upd_same] at hp
    cases hp
  have hp0 : H p = none := by
    rw [upd_ne ne] at hp
    exact hp
  exact k p q _ ((Same.new hq).trans (Same.new hp)) hp0 hq ne upd_same (by rw [upd_ne (fun z => ne z.symm), upd_same])
end
end Nz
namespace Nz
open PySem L2
section
variable {P : Program} {w : World} {K : PySem.W.Frag} {mg : Str → Option Value} {base : Heap}
def R_wds (n : Nat) (ds xs : List D) : Prop := ∃ t, Wf t ∧ Wn t ∧ dep t ≤ n ∧ sz t ≤ 1000 ∧ ds = [enc t] ∧ xs = (wd t).map D.s
theorem log_num {i : Int} (h0 : 0 ≤ i) (h1 : i < 65536) : i.natAbs.log2 < 1920 := by
  have h : i.natAbs < 2 ^ 16 := by omega
  by_cases z : i.natAbs = 0
  · rw [z]
    decide
  · exact Nat.lt_trans ((Nat.log2_lt z).mpr h) (by decide)
theorem sz_in {ks : List Tm} {t : Tm} (m : t ∈ ks) : sz t ≤ szs ks := sz_mem m
theorem letW_eq : ∀ {xs : List Str} {ms : List Tm} {m : Tm}, ms.length = xs.length → letW xs ((ms ++ [m]).map wd) = ((xs.zip ms).map fun p => p.1 :: wd p.2).flatten ++ (("in" : Str) :: wd m)
  | [], [], m, _ => rfl
  | x :: xs, t :: ms, m, h => by
    have ih := letW_eq (xs := xs) (ms := ms) (m := m) (Nat.succ.inj h)
    show x :: (wd t ++ letW xs ((ms ++ [m]).map wd)) = ((x :: wd t) ++ ((xs.zip ms).map fun p => p.1 :: wd p.2).flatten) ++ (("in" : Str) :: wd m)
    rw [ih]
    simp
theorem caseW_eq : ∀ {rs : List (Str × List Str)} {ms : List Tm}, ms.length = rs.length → caseW rs (ms.map wd) = ((rs.zip ms).map fun p => ("of" : Str) :: p.1.1 :: ("(" : Str) :: (p.1.2 ++ (")" : Str) :: wd p.2)).flatten ++ [("end" : Str)]
  | [], [], _ => rfl
  | r :: rs, t :: ms, h => by
    have ih := caseW_eq (rs := rs) (ms := ms) (Nat.succ.inj h)
    show ("of" : Str) :: r.1 :: ("(" : Str) :: (r.2 ++ (")" : Str) :: (wd t ++ caseW rs (ms.map wd))) = ((("of" : Str) :: r.1 :: ("(" : Str) :: (r.2 ++ (")" : Str) :: wd t)) ++ ((rs.zip ms).map fun p => ("of" : Str) :: p.1.1 :: ("(" : Str) :: (p.1.2 ++ (")" : Str) :: wd p.2)).flatten) ++ [("end" : Str)]
    rw [ih]
    simp
theorem take_flat {α : Type} {f : α → List Str} {l : List α} {i : Nat} {a : α} (h : l[i]? = some a) : ((l.take (i + 1)).map f).flatten = ((l.take i).map f).flatten ++ f a := by
  rw [List.take_succ, h]
  show ((l.take i ++ [a]).map f).flatten = _
  rw [List.map_append, List.flatten_append]
  simp
theorem flat_le {α : Type} {f : α → List Str} {l : List α} {i : Nat} : ((l.take i).map f).flatten.length ≤ ((l.map f).flatten).length := by
  have e : l = l.take i ++ l.drop i := (List.take_append_drop i l).symm
  have : (l.map f).flatten = ((l.take i).map f).flatten ++ ((l.drop i).map f).flatten := by
    rw [← List.flatten_append, ← List.map_append, List.take_append_drop]
  rw [this, List.length_append]
  omega
theorem words_step (F : Facts K mg w) (n : Nat) (c__law_words : C8.Cal P w K mg base (n + 1) "_law_words" (spL (R_wds n)) []) : C8.Cal P w K mg base (n + 2) "_law_words" (spL (R_wds (n + 1))) [] := by
  refine F._law_words.L sc__law_words (by decide) (fun ds d h => ?_) (fun f cdv A outer s H E hr => ⟨_, (pss_cons (ps_set (i := 1) sc__law_words.nd rfl (Or.inl rfl) (pe_ix (Nz.ixT K) (pv 0) pe_int (fun _ _ => rfl)))
    (pss_cons (ps_if (PW.pt (pw_or (pt_cmpR op_eq (pv 1) pe_str (nomark _)) (pw_or1 (pt_cmpR op_eq (pv 1) pe_str (nomark _))))) (pss_one (ps_ret (pe_lst (pa_cons (pe_callTy Nz.c_strA rfl F.b_str Nz.boot_str (pa_cons (pe_ix (Nz.ixT K) (pv 0) pe_int (fun _ _ => rfl)) pa_nil)) pa_nil)))) pss_nil)
    (pss_cons (ps_if (pt_cmpR op_eq (pv 1) pe_str (nomark _)) (pss_one (ps_ret (pe_lst (pa_cons pe_str pa_nil)))) pss_nil)
    (pss_cons (ps_if (pt_cmpR op_eq (pv 1) pe_str (nomark _)) (pss_one (ps_ret (pe_op op_cat (pe_lst (pa_cons pe_str (pa_cons (pe_ix (Nz.ixT K) (pv 0) pe_int (fun _ _ => rfl)) pa_nil))) (C8.pe_c c__law_words hr (by first | decide | omega) rfl (pa_cons (pe_ix (Nz.ixT K) (pv 0) pe_int (fun _ _ => rfl)) pa_nil))))) pss_nil)
    (pss_cons (ps_if (pt_cmpR op_eq (pv 1) pe_str (nomark _)) (pss_one (ps_ret (pe_op op_cat (pe_op op_cat (pe_lst (pa_cons pe_str pa_nil)) (C8.pe_c c__law_words hr (by first | decide | omega) rfl (pa_cons (pe_ix (Nz.ixT K) (pv 0) pe_int (fun _ _ => rfl)) pa_nil))) (pe_lst (pa_cons (pe_ix (Nz.ixT K) (pv 0) pe_int (fun _ _ => rfl)) pa_nil))))) pss_nil)
    (pss_cons (ps_if (pt_cmpR op_eq (pv 1) pe_str (nomark _)) (pss_one (ps_ret (pe_op op_cat (pe_op op_cat (pe_lst (pa_cons pe_str (pa_cons (pe_ix (Nz.ixT K) (pv 0) pe_int (fun _ _ => rfl)) (pa_cons pe_str pa_nil)))) (pe_callTy (Nz.cLst K) rfl F.b_list Nz.boot_list (pa_cons (pe_ix (Nz.ixT K) (pv 0) pe_int (fun _ _ => rfl)) pa_nil))) (pe_lst (pa_cons pe_str pa_nil))))) pss_nil)
    (pss_cons (ps_set (i := 2) sc__law_words.nd rfl (Or.inl rfl) (pe_lst (pa_cons (pv 1) pa_nil)))
    (pss_cons (ps_if (pt_cmpR op_eq (pv 1) pe_str (nomark _)) (pss_cons (ps_for PassesOwn.never rfl (Nz.piT K (pe_ix (Nz.ixT K) (pv 0) pe_int (fun _ _ => rfl))) (pg_name (i := 3) sc__law_words.nd rfl (Or.inl rfl)) (pss_one (ps_set (i := 2) sc__law_words.nd rfl (Or.inl rfl) (pe_op op_cat (pe_op op_cat (pv 2) (pe_lst (pa_cons (pe_ix (Nz.ixT K) (pv 3) pe_int (fun _ _ => rfl)) pa_nil))) (C8.pe_c c__law_words hr (by first | decide | omega) rfl (pa_cons (pe_ix (Nz.ixT K) (pv 3) pe_int (fun _ _ => rfl)) pa_nil))))))
    (pss_one (ps_ret (pe_op op_cat (pe_op op_cat (pv 2) (pe_lst (pa_cons pe_str pa_nil))) (C8.pe_c c__law_words hr (by first | decide | omega) rfl (pa_cons (pe_ix (Nz.ixT K) (pv 0) pe_int (fun _ _ => rfl)) pa_nil)))))) pss_nil)
    (pss_cons (ps_if (pt_cmpR op_eq (pv 1) pe_str (nomark _)) (pss_cons (ps_set (i := 2) sc__law_words.nd rfl (Or.inl rfl) (pe_op op_cat (pv 2) (C8.pe_c c__law_words hr (by first | decide | omega) rfl (pa_cons (pe_ix (Nz.ixT K) (pv 0) pe_int (fun _ _ => rfl)) pa_nil))))
    (pss_cons (ps_for PassesOwn.never rfl (Nz.piT K (pe_ix (Nz.ixT K) (pv 0) pe_int (fun _ _ => rfl))) (pg_name (i := 3) sc__law_words.nd rfl (Or.inl rfl)) (pss_one (ps_set (i := 2) sc__law_words.nd rfl (Or.inl rfl) (pe_op op_cat (pe_op op_cat (pe_op op_cat (pe_op op_cat (pv 2) (pe_lst (pa_cons pe_str (pa_cons (pe_ix (Nz.ixT K) (pv 3) pe_int (fun _ _ => rfl)) (pa_cons pe_str pa_nil))))) (pe_callTy (Nz.cLst K) rfl F.b_list Nz.boot_list (pa_cons (pe_ix (Nz.ixT K) (pv 3) pe_int (fun _ _ => rfl)) pa_nil))) (pe_lst (pa_cons pe_str pa_nil))) (C8.pe_c c__law_words hr (by first | decide | omega) rfl (pa_cons (pe_ix (Nz.ixT K) (pv 3) pe_int (fun _ _ => rfl)) pa_nil))))))
    (pss_one (ps_ret (pe_op op_cat (pv 2) (pe_lst (pa_cons pe_str pa_nil))))))) pss_nil)
    (pss_cons (ps_for PassesOwn.never rfl (Nz.piT K (pe_slice (Nz.slA K) (pv 0) (po_some pe_int) po_none)) (pg_name (i := 4) sc__law_words.nd rfl (Or.inl rfl)) (pss_one (ps_set (i := 2) sc__law_words.nd rfl (Or.inl rfl) (pe_op op_cat (pv 2) (C8.pe_c c__law_words hr (by first | decide | omega) rfl (pa_cons (pv 4) pa_nil))))))
    (pss_one (ps_ret (pv 2))))))))))))), fun ds xs h => ?_⟩)
  · obtain ⟨t, _, _, _, _, rfl, _⟩ := h
    rfl
  obtain ⟨⟨h, ks⟩, hf, hn, hd, hz, rfl, rfl⟩ := h
  have hd' : deps ks ≤ n := Nat.le_of_succ_le_succ hd
  have hz' : szs ks + 1 ≤ 1000 := hz
  have L35 := (wd_len _ hf).2
  have kid : ∀ {t : Tm}, t ∈ ks → R_wds n [enc t] ((wd t).map D.s) := fun {t} m => ⟨t, wfs_all.mp hf.2 t m, wns_all.mp hn.2 t m, deps_le.mp hd' t m, by have := sz_in m; omega, rfl, rfl⟩
  have big : (wd (.nd h ks)).length ≤ 40000 := by omega
  have small : ∀ {x : Nat}, x ≤ 50000 → x ≤ sizeLine := fun h => Nat.le_trans h (by decide)
  cases h with
  | var x =>
    obtain rfl : ks = [] := List.length_eq_zero_iff.mp hf.1
    refine sq_set (d := .s "var") (ed_op (ed_var rfl) ed_int rd_ixT0) ?_
    refine sq_ifT (et_or (a := true) (b := true) (et_test (ed_op (ed_var rfl) ed_str (rd_eqSb rfl))) (fun h => by cases h)) rfl ?_
    exact sq_retL (el_lst (ea_cons (ed_strS (ed_op (ed_var rfl) ed_int rd_ixT1)) ea_nil) (short_size rfl)) rfl
  | num m =>
    obtain rfl : ks = [] := List.length_eq_zero_iff.mp hf.1
    refine sq_set (d := .s "number") (ed_op (ed_var rfl) ed_int rd_ixT0) ?_
    refine sq_ifT (et_or (a := false) (b := true) (et_test (ed_op (ed_var rfl) ed_str (rd_eqSb rfl))) (fun _ => et_test (ed_op (ed_var rfl) ed_str (rd_eqSb rfl)))) rfl ?_
    exact sq_retL (el_lst (ea_cons (ed_strI (ed_op (ed_var rfl) ed_int rd_ixT1) (log_num hn.1.1 hn.1.2)) ea_nil) (short_size rfl)) rfl
  | hole =>
    obtain rfl : ks = [] := List.length_eq_zero_iff.mp hf.1
    refine sq_set (d := .s "hole") (ed_op (ed_var rfl) ed_int rd_ixT0) ?_
    refine sq_ifF (et_or (a := false) (b := false) (et_test (ed_op (ed_var rfl) ed_str (rd_eqSb rfl))) (fun _ => et_test (ed_op (ed_var rfl) ed_str (rd_eqSb rfl)))) rfl ?_
    refine sq_ifT (et_test (ed_op (ed_var rfl) ed_str (rd_eqSb rfl))) rfl ?_
    exact sq_retL (el_lst (ea_cons ed_str ea_nil) (short_size rfl)) rfl
  | fn x =>
    obtain ⟨t, rfl⟩ := one_of hf.1
    have e : wd (.nd (.fn x) [t]) = ("fun" : Str) :: x :: wd t := by
      show ("fun" : Str) :: x :: (wd t ++ []) = _
      rw [List.append_nil]
    rw [e] at big ⊢
    refine sq_set (d := .s "fun") (ed_op (ed_var rfl) ed_int rd_ixT0) ?_
    refine sq_ifF (et_or (a := false) (b := false) (et_test (ed_op (ed_var rfl) ed_str (rd_eqSb rfl))) (fun _ => et_test (ed_op (ed_var rfl) ed_str (rd_eqSb rfl)))) rfl ?_
    refine sq_ifF (et_test (ed_op (ed_var rfl) ed_str (rd_eqSb rfl))) rfl ?_
    refine sq_ifT (et_test (ed_op (ed_var rfl) ed_str (rd_eqSb rfl))) rfl ?_
    simp only [List.length_cons] at big
    exact sq_retL (el_op (EL.toD (el_lst (ea_cons ed_str (ea_cons (ed_op (ed_var rfl) ed_int rd_ixT1) ea_nil)) (short_size rfl))) (EL.toD (el_call (ea_cons (ed_op (ed_var rfl) ed_int rd_ixT2) ea_nil) (kid (List.mem_cons_self ..)))) (rl_cat (small (by rw [List.length_map]; show 2 + _ ≤ _; omega)))) rfl
  | call x =>
    obtain ⟨t, rfl⟩ := one_of hf.1
    have e : wd (.nd (.call x) [t]) = ("call" : Str) :: (wd t ++ [x]) := by
      show ("call" : Str) :: ((wd t ++ []) ++ [x]) = _
      rw [List.append_nil]
    rw [e] at big ⊢
    refine sq_set (d := .s "call") (ed_op (ed_var rfl) ed_int rd_ixT0) ?_
    refine sq_ifF (et_or (a := false) (b := false) (et_test (ed_op (ed_var rfl) ed_str (rd_eqSb rfl))) (fun _ => et_test (ed_op (ed_var rfl) ed_str (rd_eqSb rfl)))) rfl ?_
    refine sq_ifF (et_test (ed_op (ed_var rfl) ed_str (rd_eqSb rfl))) rfl ?_
    refine sq_ifF (et_test (ed_op (ed_var rfl) ed_str (rd_eqSb rfl))) rfl ?_
    refine sq_ifT (et_test (ed_op (ed_var rfl) ed_str (rd_eqSb rfl))) rfl ?_
    simp only [List.length_cons, List.length_append, List.length_nil] at big
    refine sq_retL (el_op (EL.toD (el_op (EL.toD (el_lst (ea_cons ed_str ea_nil) (short_size rfl))) (EL.toD (el_call (ea_cons (ed_op (ed_var rfl) ed_int rd_ixT1) ea_nil) (kid (List.mem_cons_self ..)))) (rl_cat (small (by rw [List.length_map]; show 1 + _ ≤ _; omega))))) (EL.toD (el_lst (ea_cons (ed_op (ed_var rfl) ed_int rd_ixT2) ea_nil) (short_size rfl))) (rl_cat (small ?_))) ?_
    · rw [List.length_append, List.length_map]
      show 1 + (wd t).length + 1 ≤ _
      omega
    · show _ = _
      rw [List.map_cons, List.map_append]
      rfl
  | mk c xs =>
    obtain rfl : ks = [] := List.length_eq_zero_iff.mp hf.1.1
    have x4 := hf.1.2
    refine sq_set (d := .s "make") (ed_op (ed_var rfl) ed_int rd_ixT0) ?_
    refine sq_ifF (et_or (a := false) (b := false) (et_test (ed_op (ed_var rfl) ed_str (rd_eqSb rfl))) (fun _ => et_test (ed_op (ed_var rfl) ed_str (rd_eqSb rfl)))) rfl ?_
    refine sq_ifF (et_test (ed_op (ed_var rfl) ed_str (rd_eqSb rfl))) rfl ?_
    refine sq_ifF (et_test (ed_op (ed_var rfl) ed_str (rd_eqSb rfl))) rfl ?_
    refine sq_ifF (et_test (ed_op (ed_var rfl) ed_str (rd_eqSb rfl))) rfl ?_
    refine sq_ifT (et_test (ed_op (ed_var rfl) ed_str (rd_eqSb rfl))) rfl ?_
    refine sq_retL (el_op (EL.toD (el_op (EL.toD (el_lst (ea_cons ed_str (ea_cons (ed_op (ed_var rfl) ed_int rd_ixT1) (ea_cons ed_str ea_nil))) (short_size rfl))) (EL.toD (el_cb (ea_cons (ed_op (ed_var rfl) ed_int rd_ixT2) ea_nil) rc_lstT)) (rl_cat (small (by rw [List.length_map]; show 3 + _ ≤ _; omega))))) (EL.toD (el_lst (ea_cons ed_str ea_nil) (short_size rfl))) (rl_cat (small ?_))) ?_
    · rw [List.length_append, List.length_map]
      show 3 + xs.length + 1 ≤ _
      omega
    · show _ = ((("make" : Str) :: c :: ("(" : Str) :: (xs ++ [(")" : Str)])).map D.s)
      rw [List.map_cons, List.map_cons, List.map_cons, List.map_append]
      rfl
  | lets xs =>
    obtain ⟨ms, m, rfl, hl⟩ := last_of hf.1.1
    have x4 := hf.1.2
    have ew : wd (.nd (.lets xs) (ms ++ [m])) = ("let" : Str) :: (((xs.zip ms).map fun p => p.1 :: wd p.2).flatten ++ (("in" : Str) :: wd m)) := by
      show ("let" : Str) :: letW xs (wds (ms ++ [m])) = _
      rw [wds_map, letW_eq hl]
    rw [ew] at big ⊢
    simp only [List.length_cons, List.length_append] at big
    rw [enc_lets hl]
    refine sq_set (d := .s "let") (ed_op (ed_var rfl) ed_int rd_ixT0) ?_
    refine sq_ifF (et_or (a := false) (b := false) (et_test (ed_op (ed_var rfl) ed_str (rd_eqSb rfl))) (fun _ => et_test (ed_op (ed_var rfl) ed_str (rd_eqSb rfl)))) rfl ?_
    refine sq_ifF (et_test (ed_op (ed_var rfl) ed_str (rd_eqSb rfl))) rfl ?_
    refine sq_ifF (et_test (ed_op (ed_var rfl) ed_str (rd_eqSb rfl))) rfl ?_
    refine sq_ifF (et_test (ed_op (ed_var rfl) ed_str (rd_eqSb rfl))) rfl ?_
    refine sq_ifF (et_test (ed_op (ed_var rfl) ed_str (rd_eqSb rfl))) rfl ?_
    refine sq_set (EL.toD (el_lst (ea_cons (ed_var rfl) ea_nil) (short_size rfl))) ?_
    refine sq_ifT (et_test (ed_op (ed_var rfl) ed_str (rd_eqSb rfl))) rfl ?_
    have big2 : ∀ i, (((xs.zip ms).take i).map fun p => p.1 :: wd p.2).flatten.length ≤ 40000 := fun i => Nat.le_trans flat_le (by omega)
    refine sq_assoc (sd_seq (fun e => ∃ κ, e = [.d (.t [.s "let", .t ((xs.zip ms).map fun p => .t [.s p.1, enc p.2]), enc m]), .d (.s "let"), .d (.l ((("let" : Str) :: (((xs.zip ms).map fun p => p.1 :: wd p.2).flatten)).map D.s)), κ, .no]) ?_ ?_)
    · refine sd_for (src_tup (ed_op (ed_var rfl) ed_int rd_ixT1)) (fun i e => ∃ κ, e = [.d (.t [.s "let", .t ((xs.zip ms).map fun p => .t [.s p.1, enc p.2]), enc m]), .d (.s "let"), .d (.l ((("let" : Str) :: ((((xs.zip ms).take i).map fun p => p.1 :: wd p.2).flatten)).map D.s)), κ, .no]) ⟨_, rfl⟩ (fun i d e hdi he => ?_) (fun e he => ?_)
      · obtain ⟨κ, rfl⟩ := he
        rw [List.getElem?_map] at hdi
        cases hp : (xs.zip ms)[i]? with
        | none =>
          rw [hp] at hdi
          cases hdi
        | some p =>
          rw [hp] at hdi
          cases hdi
          have pm : p.2 ∈ ms ++ [m] := List.mem_append_left _ (List.of_mem_zip (show (p.1, p.2) ∈ _ from List.mem_of_getElem? hp)).2
          have b1 := big2 i
          have b2 := big2 (i + 1)
          rw [take_flat hp, List.length_append, List.length_cons] at b2
          refine ⟨_, gd_name, ?_⟩
          refine sd_set (EL.toD (el_eq (ys := ((("let" : Str) :: ((((xs.zip ms).take (i + 1)).map fun p => p.1 :: wd p.2).flatten)).map D.s)) (el_op (EL.toD (el_op (ed_var rfl) (EL.toD (el_lst (ea_cons (ed_op (ed_var rfl) ed_int rd_ixT0) ea_nil) (short_size rfl))) (rl_cat (small ?_)))) (EL.toD (el_call (ea_cons (ed_op (ed_var rfl) ed_int rd_ixT1) ea_nil) (kid pm))) (rl_cat (small ?_))) ?_)) ⟨_, rfl⟩
          · simp only [List.length_append, List.length_map, List.length_cons, List.length_nil]
            omega
          · simp only [List.length_append, List.length_map, List.length_cons, List.length_nil]
            omega
          rw [take_flat hp]
          simp
      · obtain ⟨κ, rfl⟩ := he
        refine ⟨κ, ?_⟩
        rw [List.length_map, List.take_length]
    · rintro e ⟨κ, rfl⟩
      refine sq_retL (el_op (EL.toD (el_op (ed_var rfl) (EL.toD (el_lst (ea_cons ed_str ea_nil) (short_size rfl))) (rl_cat (small ?_)))) (EL.toD (el_call (ea_cons (ed_op (ed_var rfl) ed_int rd_ixT2) ea_nil) (kid (List.mem_append_right _ (List.mem_singleton.mpr rfl))))) (rl_cat (small ?_))) ?_
      · rw [List.length_map, List.length_cons]
        show _ + 1 ≤ _
        omega
      · rw [List.length_append, List.length_map, List.length_map, List.length_cons]
        show _ + 1 + _ ≤ _
        omega
      · show _ = _
        simp
  | case rs =>
    obtain ⟨m, ms, rfl, hl⟩ := cons_of hf.1.1
    have ew : wd (.nd (.case rs) (m :: ms)) = ("case" : Str) :: (wd m ++ (((rs.zip ms).map fun p => ("of" : Str) :: p.1.1 :: ("(" : Str) :: (p.1.2 ++ (")" : Str) :: wd p.2)).flatten ++ [("end" : Str)])) := by
      show ("case" : Str) :: (wd m ++ caseW rs (wds ms)) = _
      rw [wds_map, caseW_eq hl]
    rw [ew] at big ⊢
    simp only [List.length_cons, List.length_append, List.length_nil] at big
    rw [enc_case]
    refine sq_set (d := .s "case") (ed_op (ed_var rfl) ed_int rd_ixT0) ?_
    refine sq_ifF (et_or (a := false) (b := false) (et_test (ed_op (ed_var rfl) ed_str (rd_eqSb rfl))) (fun _ => et_test (ed_op (ed_var rfl) ed_str (rd_eqSb rfl)))) rfl ?_
    refine sq_ifF (et_test (ed_op (ed_var rfl) ed_str (rd_eqSb rfl))) rfl ?_
    refine sq_ifF (et_test (ed_op (ed_var rfl) ed_str (rd_eqSb rfl))) rfl ?_
    refine sq_ifF (et_test (ed_op (ed_var rfl) ed_str (rd_eqSb rfl))) rfl ?_
    refine sq_ifF (et_test (ed_op (ed_var rfl) ed_str (rd_eqSb rfl))) rfl ?_
    refine sq_set (EL.toD (el_lst (ea_cons (ed_var rfl) ea_nil) (short_size rfl))) ?_
    refine sq_ifF (et_test (ed_op (ed_var rfl) ed_str (rd_eqSb rfl))) rfl ?_
    refine sq_ifT (et_test (ed_op (ed_var rfl) ed_str (rd_eqSb rfl))) rfl ?_
    have big2 : ∀ i, (((rs.zip ms).take i).map fun p => ("of" : Str) :: p.1.1 :: ("(" : Str) :: (p.1.2 ++ (")" : Str) :: wd p.2)).flatten.length ≤ (((rs.zip ms)).map fun p => ("of" : Str) :: p.1.1 :: ("(" : Str) :: (p.1.2 ++ (")" : Str) :: wd p.2)).flatten.length := fun i => flat_le
    refine sq_assoc (sq_set (d := .l ((("case" : Str) :: wd m).map D.s)) (EL.toD (el_op (ed_var rfl) (EL.toD (el_call (ea_cons (ed_op (ed_var rfl) ed_int rd_ixT1) ea_nil) (kid (List.mem_cons_self ..)))) (rl_cat (small (by rw [List.length_map]; show 1 + _ ≤ _; omega))))) ?_)
    refine sq_assoc (sd_seq (fun e => ∃ κ, e = [.d (.t [.s "case", enc m, .t ((rs.zip ms).map fun p => .t [.s p.1.1, tS p.1.2, enc p.2])]), .d (.s "case"), .d (.l ((("case" : Str) :: (wd m ++ (((rs.zip ms)).map fun p => ("of" : Str) :: p.1.1 :: ("(" : Str) :: (p.1.2 ++ (")" : Str) :: wd p.2)).flatten)).map D.s)), κ, .no]) ?_ ?_)
    · refine sd_for (src_tup (ed_op (ed_var rfl) ed_int rd_ixT2)) (fun i e => ∃ κ, e = [.d (.t [.s "case", enc m, .t ((rs.zip ms).map fun p => .t [.s p.1.1, tS p.1.2, enc p.2])]), .d (.s "case"), .d (.l ((("case" : Str) :: (wd m ++ (((rs.zip ms).take i).map fun p => ("of" : Str) :: p.1.1 :: ("(" : Str) :: (p.1.2 ++ (")" : Str) :: wd p.2)).flatten)).map D.s)), κ, .no]) ⟨.no, by simp⟩ (fun i d e hdi he => ?_) (fun e he => ?_)
      · obtain ⟨κ, rfl⟩ := he
        rw [List.getElem?_map] at hdi
        cases hp : (rs.zip ms)[i]? with
        | none =>
          rw [hp] at hdi
          cases hdi
        | some p =>
          rw [hp] at hdi
          cases hdi
          have pm : p.2 ∈ m :: ms := List.mem_cons_of_mem _ (List.of_mem_zip (show (p.1, p.2) ∈ _ from List.mem_of_getElem? hp)).2
          have b1 := big2 i
          have b2 := big2 (i + 1)
          rw [take_flat hp] at b2
          simp only [List.length_append, List.length_cons] at b2
          refine ⟨_, gd_name, ?_⟩
          refine sd_set (EL.toD (el_eq (ys := ((("case" : Str) :: (wd m ++ (((rs.zip ms).take (i + 1)).map fun p => ("of" : Str) :: p.1.1 :: ("(" : Str) :: (p.1.2 ++ (")" : Str) :: wd p.2)).flatten)).map D.s)) (el_op (EL.toD (el_op (EL.toD (el_op (EL.toD (el_op (ed_var rfl) (EL.toD (el_lst (ea_cons ed_str (ea_cons (ed_op (ed_var rfl) ed_int rd_ixT0) (ea_cons ed_str ea_nil))) (short_size rfl))) (rl_cat (small ?_)))) (EL.toD (el_cb (ea_cons (ed_op (ed_var rfl) ed_int rd_ixT1) ea_nil) rc_lstT)) (rl_cat (small ?_)))) (EL.toD (el_lst (ea_cons ed_str ea_nil) (short_size rfl))) (rl_cat (small ?_)))) (EL.toD (el_call (ea_cons (ed_op (ed_var rfl) ed_int rd_ixT2) ea_nil) (kid pm))) (rl_cat (small ?_))) ?_)) ⟨_, rfl⟩
          · simp only [List.length_append, List.length_map, List.length_cons, List.length_nil]
            omega
          · simp only [List.length_append, List.length_map, List.length_cons, List.length_nil]
            omega
          · simp only [List.length_append, List.length_map, List.length_cons, List.length_nil]
            omega
          · simp only [List.length_append, List.length_map, List.length_cons, List.length_nil]
            omega
          · rw [take_flat hp]
            simp
      · obtain ⟨κ, rfl⟩ := he
        refine ⟨κ, ?_⟩
        rw [List.length_map, List.take_length]
    · rintro e ⟨κ, rfl⟩
      refine sq_retL (el_op (ed_var rfl) (EL.toD (el_lst (ea_cons ed_str ea_nil) (short_size rfl))) (rl_cat (small ?_))) ?_
      · simp only [List.length_append, List.length_map, List.length_cons, List.length_nil]
        omega
      · show _ = _
        simp
  | op o =>
    have ho : (o, ks.length) ∈ arities := hf.1
    obtain ⟨_, _, n5, n6, n1, n2, n3, n4, _, _⟩ := ar_ne ho
    have nv : ∀ {y : Str}, y ∈ (["var", "number"] : List Str) → o ≠ y := fun {y} hy e => by
      subst e
      have e : (arities.all fun p => decide (p.1 ∉ (["var", "number"] : List Str))) = true := by decide +kernel
      exact of_decide_eq_true (List.all_eq_true.mp e _ ho) hy
    have ew : wd (.nd (.op o) ks) = o :: (ks.map wd).flatten := by
      show o :: (wds ks).flatten = _
      rw [wds_map]
    rw [ew] at big ⊢
    simp only [List.length_cons] at big
    rw [enc_op]
    refine sq_set (d := .s o) (ed_op (ed_var rfl) ed_int rd_ixT0) ?_
    refine sq_ifF (et_or (a := false) (b := false) (et_test (ed_op (ed_var rfl) ed_str (rd_eqSb (decide_eq_false (nv (by simp)))))) (fun _ => et_test (ed_op (ed_var rfl) ed_str (rd_eqSb (decide_eq_false (nv (by simp))))))) rfl ?_
    refine sq_ifF (et_test (ed_op (ed_var rfl) ed_str (rd_eqSb (decide_eq_false n5)))) rfl ?_
    refine sq_ifF (et_test (ed_op (ed_var rfl) ed_str (rd_eqSb (decide_eq_false n3)))) rfl ?_
    refine sq_ifF (et_test (ed_op (ed_var rfl) ed_str (rd_eqSb (decide_eq_false n4)))) rfl ?_
    refine sq_ifF (et_test (ed_op (ed_var rfl) ed_str (rd_eqSb (decide_eq_false n6)))) rfl ?_
    refine sq_setO (el_lst (ea_cons (ed_var rfl) ea_nil) (short_size rfl)) ?_
    refine sq_ifF (et_test (ed_op (ed_var rfl) ed_str (rd_eqSb (decide_eq_false n1)))) rfl ?_
    refine sq_ifF (et_test (ed_op (ed_var rfl) ed_str (rd_eqSb (decide_eq_false n2)))) rfl ?_
    have hc : cutD (.s o :: ks.map enc) (some 1) none = ks.map enc := by
      unfold cutD
      rw [show HT.sIx (D.s o :: ks.map enc).length 0 (some 1) = 1 by show HT.sIx _ 0 (some ((1 : Nat) : Int)) = 1; rw [HT.sIx_nat]; exact Nat.min_eq_left (by simp)]
      rw [HT.sIx_none]
      show (ks.map enc).take _ = _
      exact List.take_of_length_le (by simp)
    have big2 : ∀ i, ((ks.take i).map wd).flatten.length ≤ (ks.map wd).flatten.length := fun i => flat_le
    refine sd_seq (fun e => ∃ κ, e = [.d (.t (.s o :: ks.map enc)), .d (.s o), .o (.l ((o :: (ks.map wd).flatten).map D.s)), .no, κ]) ?_ ?_
    · refine sd_for (src_tup (ed_eq (ed_slT (ed_var rfl) (eo_some ed_int) eo_none) (congrArg D.t hc))) (fun i e => ∃ κ, e = [.d (.t (.s o :: ks.map enc)), .d (.s o), .o (.l ((o :: ((ks.take i).map wd).flatten).map D.s)), .no, κ]) ⟨_, rfl⟩ (fun i d e hdi he => ?_) (fun e he => ?_)
      · obtain ⟨κ, rfl⟩ := he
        rw [List.getElem?_map] at hdi
        cases hp : ks[i]? with
        | none =>
          rw [hp] at hdi
          cases hdi
        | some t =>
          rw [hp] at hdi
          cases hdi
          have b2 := big2 (i + 1)
          rw [take_flat hp, List.length_append] at b2
          refine ⟨_, gd_name, ?_⟩
          refine sd_freeze (i := 2) rfl (sd_setO (el_eq (ys := (o :: ((ks.take (i + 1)).map wd).flatten).map D.s) (el_op (ed_var rfl) (EL.toD (el_call (ea_cons (ed_var rfl) ea_nil) (kid (List.mem_of_getElem? hp)))) (rl_cat (small ?_))) ?_) ⟨_, rfl⟩)
          · simp only [List.length_map, List.length_cons]
            omega
          · rw [take_flat hp]
            simp
      · obtain ⟨κ, rfl⟩ := he
        refine ⟨κ, ?_⟩
        rw [List.length_map, List.take_length]
    · rintro e ⟨κ, rfl⟩
      exact sd_retO rfl rfl
theorem k__law_words (F : Facts K mg w) : ∀ n : Nat, C8.Cal P w K mg base (n + 1) "_law_words" (spL (R_wds n)) []
  | 0 => F._law_words.cal fun f fd hf => by
      have no : ∀ vs H Q E, ¬ spL (R_wds 0) vs H Q E := fun vs H Q E h => by
        obtain ⟨_, _, _, _, _, ⟨t, _, _, h1, _⟩, _⟩ := h
        cases t
        exact absurd h1 (Nat.not_succ_le_zero _)
      exact ⟨fun vs H Q E h => absurd h (no vs H Q E), fun A outer s H args us vs Q E _ _ _ _ h => absurd h (no vs H Q E)⟩
  | n + 1 => words_step F n (k__law_words F n)
end
end Nz
namespace Nz
open PySem L2
inductive Pc where
  | w (x : Str) | t (t : Tm)
def pcD : Pc → D
  | .w x => .s x
  | .t t => enc t
def pcW : Pc → List Str
  | .w x => [x]
  | .t t => wd t
def pcM : Pc → Nat
  | .w _ => 1
  | .t t => (wd t).length + sz t
def pcs : Tm → List Pc
  | .nd (.var x) _ => [.w x]
  | .nd (.num n) _ => [.w (numS n)]
  | .nd (.mk c xs) _ => .w "make" :: .w c :: .w "(" :: (xs.map Pc.w ++ [.w ")"])
  | .nd .hole _ => [.w "hole"]
  | .nd (.fn x) ks => .w "fun" :: .w x :: ks.map Pc.t
  | .nd (.call x) ks => .w "call" :: (ks.map Pc.t ++ [.w x])
  | .nd (.lets xs) ks => .w "let" :: (((xs.zip ks).map fun p => [Pc.w p.1, .t p.2]).flatten ++ (.w "in" :: (ks.drop xs.length).map Pc.t))
  | .nd (.case rs) ks => .w "case" :: ((ks.take 1).map Pc.t ++ (((rs.zip ks.tail).map fun p => Pc.w "of" :: .w p.1.1 :: .w "(" :: (p.1.2.map Pc.w ++ [.w ")", .t p.2])).flatten ++ [.w "end"]))
  | .nd (.op o) ks => .w o :: ks.map Pc.t
def pcsW (l : List Pc) : List Str := (l.map pcW).flatten
def pcsM (l : List Pc) : Nat := (l.map pcM).sum
theorem pcsW_app (a b : List Pc) : pcsW (a ++ b) = pcsW a ++ pcsW b := by
  unfold pcsW
  rw [List.map_append, List.flatten_append]
theorem pcsM_app (a b : List Pc) : pcsM (a ++ b) = pcsM a + pcsM b := by
  unfold pcsM
  rw [List.map_append, List.sum_append]
theorem pcsW_cons (a : Pc) (b : List Pc) : pcsW (a :: b) = pcW a ++ pcsW b := rfl
theorem pcsM_cons (a : Pc) (b : List Pc) : pcsM (a :: b) = pcM a + pcsM b := rfl
theorem pcsM_rev (a : List Pc) : pcsM a.reverse = pcsM a := by
  unfold pcsM
  rw [List.map_reverse, List.sum_reverse]
theorem pcsW_w (xs : List Str) : pcsW (xs.map Pc.w) = xs := by
  induction xs with
  | nil => rfl
  | cons x r ih =>
    show [x] ++ pcsW (r.map Pc.w) = _
    rw [ih]
    rfl
theorem pcsM_w (xs : List Str) : pcsM (xs.map Pc.w) = xs.length := by
  induction xs with
  | nil => rfl
  | cons x r ih =>
    show 1 + pcsM (r.map Pc.w) = r.length + 1
    omega
theorem pcsW_t (ks : List Tm) : pcsW (ks.map Pc.t) = (ks.map wd).flatten := by
  induction ks with
  | nil => rfl
  | cons x r ih =>
    show wd x ++ pcsW (r.map Pc.t) = wd x ++ (r.map wd).flatten
    rw [ih]
theorem pcsM_t (ks : List Tm) : pcsM (ks.map Pc.t) = ((ks.map wd).flatten).length + szs ks := by
  induction ks with
  | nil => rfl
  | cons x r ih =>
    show ((wd x).length + sz x) + pcsM (r.map Pc.t) = (wd x ++ (r.map wd).flatten).length + (sz x + szs r)
    rw [List.length_append]
    omega
theorem szs_app : ∀ (a b : List Tm), szs (a ++ b) = szs a + szs b
  | [], b => (Nat.zero_add _).symm
  | k :: r, b => by
    show sz k + szs (r ++ b) = sz k + szs r + szs b
    rw [szs_app r b]
    omega
theorem pcs_lets {xs : List Str} {ms : List Tm} (h : ms.length = xs.length) : pcsW ((xs.zip ms).map fun p => [Pc.w p.1, .t p.2]).flatten = ((xs.zip ms).map fun p => p.1 :: wd p.2).flatten ∧ pcsM ((xs.zip ms).map fun p => [Pc.w p.1, .t p.2]).flatten = ((xs.zip ms).map fun p => p.1 :: wd p.2).flatten.length + szs ms := by
  induction xs generalizing ms with
  | nil =>
    cases ms with
    | nil => exact ⟨rfl, rfl⟩
    | cons _ _ => cases h
  | cons x r ih =>
    cases ms with
    | nil => cases h
    | cons t ts =>
      obtain ⟨h1, h2⟩ := ih (ms := ts) (Nat.succ.inj h)
      constructor
      · show pcsW (Pc.w x :: .t t :: ((r.zip ts).map fun p => [Pc.w p.1, .t p.2]).flatten) = (x :: wd t) ++ ((r.zip ts).map fun p => p.1 :: wd p.2).flatten
        rw [pcsW_cons, pcsW_cons, h1]
        rfl
      · show pcsM (Pc.w x :: .t t :: ((r.zip ts).map fun p => [Pc.w p.1, .t p.2]).flatten) = ((x :: wd t) ++ ((r.zip ts).map fun p => p.1 :: wd p.2).flatten).length + (sz t + szs ts)
        rw [pcsM_cons, pcsM_cons, h2, List.length_append]
        show 1 + (((wd t).length + sz t) + _) = (wd t).length + 1 + _ + _
        omega
theorem pcs_case {rs : List (Str × List Str)} {ms : List Tm} (h : ms.length = rs.length) : pcsW ((rs.zip ms).map fun p => Pc.w "of" :: .w p.1.1 :: .w "(" :: (p.1.2.map Pc.w ++ [.w ")", .t p.2])).flatten = ((rs.zip ms).map fun p => ("of" : Str) :: p.1.1 :: ("(" : Str) :: (p.1.2 ++ (")" : Str) :: wd p.2)).flatten ∧
    pcsM ((rs.zip ms).map fun p => Pc.w "of" :: .w p.1.1 :: .w "(" :: (p.1.2.map Pc.w ++ [.w ")", .t p.2])).flatten = ((rs.zip ms).map fun p => ("of" : Str) :: p.1.1 :: ("(" : Str) :: (p.1.2 ++ (")" : Str) :: wd p.2)).flatten.length + szs ms := by
  induction rs generalizing ms with
  | nil =>
    cases ms with
    | nil => exact ⟨rfl, rfl⟩
    | cons _ _ => cases h
  | cons x r ih =>
    cases ms with
    | nil => cases h
    | cons t ts =>
      obtain ⟨h1, h2⟩ := ih (ms := ts) (Nat.succ.inj h)
      have e1 : pcsW [.w ")", .t t] = (")" : Str) :: wd t := by
        show [(")" : Str)] ++ (wd t ++ []) = _
        rw [List.append_nil]
        rfl
      have e2 : pcsM [.w ")", .t t] = 1 + ((wd t).length + sz t) := by
        show 1 + ((wd t).length + sz t + 0) = _
        omega
      constructor
      · show pcsW ((Pc.w "of" :: .w x.1 :: .w "(" :: (x.2.map Pc.w ++ [.w ")", .t t])) ++ ((r.zip ts).map fun p => Pc.w "of" :: .w p.1.1 :: .w "(" :: (p.1.2.map Pc.w ++ [.w ")", .t p.2])).flatten) = _
        rw [pcsW_app, h1, pcsW_cons, pcsW_cons, pcsW_cons, pcsW_app, pcsW_w, e1]
        rfl
      · show pcsM ((Pc.w "of" :: .w x.1 :: .w "(" :: (x.2.map Pc.w ++ [.w ")", .t t])) ++ ((r.zip ts).map fun p => Pc.w "of" :: .w p.1.1 :: .w "(" :: (p.1.2.map Pc.w ++ [.w ")", .t p.2])).flatten) = ((("of" : Str) :: x.1 :: ("(" : Str) :: (x.2 ++ (")" : Str) :: wd t)) ++ ((r.zip ts).map fun p => ("of" : Str) :: p.1.1 :: ("(" : Str) :: (p.1.2 ++ (")" : Str) :: wd p.2)).flatten).length + (sz t + szs ts)
        rw [pcsM_app, h2, pcsM_cons, pcsM_cons, pcsM_cons, pcsM_app, pcsM_w, e2]
        simp only [List.length_append, List.length_cons]
        show 1 + (1 + (1 + (x.2.length + (1 + ((wd t).length + sz t))))) + _ = _
        omega
theorem pcs_ok {t : Tm} (hf : Wf t) : pcsW (pcs t) = wd t ∧ pcsM (pcs t) + 1 = (wd t).length + sz t := by
  obtain ⟨h, ks⟩ := t
  have s1 : sz (.nd h ks) = szs ks + 1 := rfl
  have ew : wd (.nd h ks) = headW h (ks.map wd) := by
    show headW h (wds ks) = _
    rw [wds_map]
  rw [ew, s1]
  cases h with
  | var x =>
    obtain rfl : ks = [] := List.length_eq_zero_iff.mp hf.1
    exact ⟨rfl, rfl⟩
  | num n =>
    obtain rfl : ks = [] := List.length_eq_zero_iff.mp hf.1
    exact ⟨rfl, rfl⟩
  | hole =>
    obtain rfl : ks = [] := List.length_eq_zero_iff.mp hf.1
    exact ⟨rfl, rfl⟩
  | mk c xs =>
    obtain rfl : ks = [] := List.length_eq_zero_iff.mp hf.1.1
    constructor
    · show pcsW (.w "make" :: .w c :: .w "(" :: (xs.map Pc.w ++ [.w ")"])) = _
      rw [pcsW_cons, pcsW_cons, pcsW_cons, pcsW_app, pcsW_w]
      rfl
    · show pcsM (.w "make" :: .w c :: .w "(" :: (xs.map Pc.w ++ [.w ")"])) + 1 = (("make" : Str) :: c :: ("(" : Str) :: (xs ++ [(")" : Str)])).length + (0 + 1)
      rw [pcsM_cons, pcsM_cons, pcsM_cons, pcsM_app, pcsM_w]
      simp only [List.length_cons, List.length_append, List.length_nil]
      show 1 + (1 + (1 + (xs.length + 1))) + 1 = _
      omega
  | fn x =>
    constructor
    · show pcsW (.w "fun" :: .w x :: ks.map Pc.t) = _
      rw [pcsW_cons, pcsW_cons, pcsW_t]
      rfl
    · show pcsM (.w "fun" :: .w x :: ks.map Pc.t) + 1 = (("fun" : Str) :: x :: (ks.map wd).flatten).length + (szs ks + 1)
      rw [pcsM_cons, pcsM_cons, pcsM_t]
      simp only [List.length_cons]
      show 1 + (1 + _) + 1 = _
      omega
  | call x =>
    constructor
    · show pcsW (.w "call" :: (ks.map Pc.t ++ [.w x])) = _
      rw [pcsW_cons, pcsW_app, pcsW_t]
      rfl
    · show pcsM (.w "call" :: (ks.map Pc.t ++ [.w x])) + 1 = (("call" : Str) :: ((ks.map wd).flatten ++ [x])).length + (szs ks + 1)
      rw [pcsM_cons, pcsM_app, pcsM_t]
      simp only [List.length_cons, List.length_append, List.length_nil]
      show 1 + (_ + 1) + 1 = _
      omega
  | lets xs =>
    obtain ⟨ms, m, rfl, hl⟩ := last_of hf.1.1
    have ed : (ms ++ [m]).drop xs.length = [m] := by rw [← hl, List.drop_left]
    have ez : xs.zip (ms ++ [m]) = xs.zip ms := zip_app1 hl
    obtain ⟨h1, h2⟩ := pcs_lets hl
    have e0 : headW (.lets xs) ((ms ++ [m]).map wd) = ("let" : Str) :: (((xs.zip ms).map fun p => p.1 :: wd p.2).flatten ++ (("in" : Str) :: wd m)) := by
      show ("let" : Str) :: letW xs ((ms ++ [m]).map wd) = _
      rw [letW_eq hl]
    have e1 : pcs (.nd (.lets xs) (ms ++ [m])) = .w "let" :: (((xs.zip ms).map fun p => [Pc.w p.1, .t p.2]).flatten ++ [.w "in", .t m]) := by
      show .w "let" :: (((xs.zip (ms ++ [m])).map fun p => [Pc.w p.1, .t p.2]).flatten ++ (.w "in" :: ((ms ++ [m]).drop xs.length).map Pc.t)) = _
      rw [ed, ez]
      rfl
    rw [e0, e1, pcsW_cons, pcsM_cons, pcsW_app, pcsM_app, h1, h2, szs_app]
    constructor
    · show [("let" : Str)] ++ (_ ++ ([("in" : Str)] ++ (wd m ++ []))) = _
      rw [List.append_nil]
      rfl
    · simp only [List.length_cons, List.length_append]
      show 1 + (_ + (1 + ((wd m).length + sz m + 0))) + 1 = _ + (szs ms + (sz m + 0) + 1)
      omega
  | case rs =>
    obtain ⟨m, ms, rfl, hl⟩ := cons_of hf.1.1
    obtain ⟨h1, h2⟩ := pcs_case hl
    have e0 : headW (.case rs) ((m :: ms).map wd) = ("case" : Str) :: (wd m ++ (((rs.zip ms).map fun p => ("of" : Str) :: p.1.1 :: ("(" : Str) :: (p.1.2 ++ (")" : Str) :: wd p.2)).flatten ++ [("end" : Str)])) := by
      show ("case" : Str) :: (wd m ++ caseW rs (ms.map wd)) = _
      rw [caseW_eq hl]
    have e1 : pcs (.nd (.case rs) (m :: ms)) = .w "case" :: .t m :: (((rs.zip ms).map fun p => Pc.w "of" :: .w p.1.1 :: .w "(" :: (p.1.2.map Pc.w ++ [.w ")", .t p.2])).flatten ++ [.w "end"]) := rfl
    rw [e0, e1, pcsW_cons, pcsM_cons, pcsW_cons, pcsM_cons, pcsW_app, pcsM_app, h1, h2]
    constructor
    · show [("case" : Str)] ++ (wd m ++ (_ ++ [("end" : Str)])) = _
      rfl
    · simp only [List.length_cons, List.length_append]
      show 1 + (((wd m).length + sz m) + (_ + 1)) + 1 = _ + ((sz m + szs ms) + 1)
      simp only [List.length_nil]
      omega
  | op o =>
    constructor
    · show pcsW (.w o :: ks.map Pc.t) = _
      rw [pcsW_cons, pcsW_t]
      rfl
    · show pcsM (.w o :: ks.map Pc.t) + 1 = (o :: (ks.map wd).flatten).length + (szs ks + 1)
      rw [pcsM_cons, pcsM_t]
      simp only [List.length_cons]
      show 1 + _ + 1 = _
      omega
def pcOk : Pc → Prop
  | .w _ => True
  | .t t => Wf t ∧ Wn t
theorem pcs_sub {t : Tm} (hf : Wf t) (hn : Wn t) : ∀ p ∈ pcs t, pcOk p := by
  obtain ⟨h, ks⟩ := t
  have kid : ∀ {t : Tm}, t ∈ ks → pcOk (.t t) := fun {t} m => ⟨wfs_all.mp hf.2 t m, wns_all.mp hn.2 t m⟩
  have ts : ∀ {p : Pc} {l : List Tm}, (∀ t ∈ l, t ∈ ks) → p ∈ l.map Pc.t → pcOk p := fun {p l} hs m => by
    obtain ⟨t, ht, rfl⟩ := List.mem_map.mp m
    exact kid (hs t ht)
  have wsO : ∀ {p : Pc} {xs : List Str}, p ∈ xs.map Pc.w → pcOk p := fun {p xs} m => by
    obtain ⟨t, ht, rfl⟩ := List.mem_map.mp m
    trivial
  intro p m
  cases h with
  | var x => cases List.mem_singleton.mp m; trivial
  | num n => cases List.mem_singleton.mp m; trivial
  | hole => cases List.mem_singleton.mp m; trivial
  | mk c xs =>
    rcases List.mem_cons.mp m with rfl | m
    · trivial
    rcases List.mem_cons.mp m with rfl | m
    · trivial
    rcases List.mem_cons.mp m with rfl | m
    · trivial
    rcases List.mem_append.mp m with m | m
    · exact wsO m
    · cases List.mem_singleton.mp m; trivial
  | fn x =>
    rcases List.mem_cons.mp m with rfl | m
    · trivial
    rcases List.mem_cons.mp m with rfl | m
    · trivial
    exact ts (fun t h => h) m
  | call x =>
    rcases List.mem_cons.mp m with rfl | m
    · trivial
    rcases List.mem_append.mp m with m | m
    · exact ts (fun t h => h) m
    · cases List.mem_singleton.mp m; trivial
  | lets xs =>
    rcases List.mem_cons.mp m with rfl | m
    · trivial
    rcases List.mem_append.mp m with m | m
    · obtain ⟨l, hl, hp⟩ := List.mem_flatten.mp m
      obtain ⟨q, hq, rfl⟩ := List.mem_map.mp hl
      rcases List.mem_cons.mp hp with rfl | hp
      · trivial
      · cases List.mem_singleton.mp hp
        exact kid (List.of_mem_zip (show (q.1, q.2) ∈ _ from hq)).2
    · rcases List.mem_cons.mp m with rfl | m
      · trivial
      exact ts (fun t h => List.mem_of_mem_drop h) m
  | case rs =>
    rcases List.mem_cons.mp m with rfl | m
    · trivial
    rcases List.mem_append.mp m with m | m
    · exact ts (fun t h => List.mem_of_mem_take h) m
    rcases List.mem_append.mp m with m | m
    · obtain ⟨l, hl, hp⟩ := List.mem_flatten.mp m
      obtain ⟨q, hq, rfl⟩ := List.mem_map.mp hl
      rcases List.mem_cons.mp hp with rfl | hp
      · trivial
      rcases List.mem_cons.mp hp with rfl | hp
      · trivial
      rcases List.mem_cons.mp hp with rfl | hp
      · trivial
      rcases List.mem_append.mp hp with hp | hp
      · exact wsO hp
      rcases List.mem_cons.mp hp with rfl | hp
      · trivial
      · cases List.mem_singleton.mp hp
        exact kid (List.mem_of_mem_tail (List.of_mem_zip (show (q.1, q.2) ∈ _ from hq)).2)
    · cases List.mem_singleton.mp m; trivial
  | op o =>
    rcases List.mem_cons.mp m with rfl | m
    · trivial
    exact ts (fun t h => h) m
theorem pcs_len : ∀ (l : List Pc), l.length ≤ pcsM l
  | [] => Nat.le_refl _
  | p :: r => by
    have h := pcs_len r
    have h1 : 1 ≤ pcM p := by
      cases p with
      | w x => exact Nat.le_refl _
      | t t =>
        obtain ⟨h, ks⟩ := t
        show 1 ≤ _ + (szs ks + 1)
        omega
    show r.length + 1 ≤ pcM p + pcsM r
    omega
section
variable {P : Program} {w : World} {K : PySem.W.Frag} {mg : Str → Option Value} {base : Heap}
def R_pcs (ds xs : List D) : Prop := ∃ t, Wf t ∧ Wn t ∧ ds = [enc t] ∧ xs = (pcs t).map pcD
theorem map_pw (xs : List Str) : (xs.map Pc.w).map pcD = xs.map D.s := by
  rw [List.map_map]
  rfl
theorem map_pt (ks : List Tm) : (ks.map Pc.t).map pcD = ks.map enc := by
  rw [List.map_map]
  rfl
theorem k_pieces (F : Facts K mg w) : C8.Cal P w K mg base 1 "pieces" (spL R_pcs) [] := by
  refine F.pieces.L sc_pieces (by decide) (fun ds d h => ?_) (fun f cdv A outer s H E hr => ⟨_, (pss_cons (ps_set (i := 1) sc_pieces.nd rfl (Or.inl rfl) (pe_ix (Nz.ixT K) (pv 0) pe_int (fun _ _ => rfl)))
    (pss_cons (ps_if (pt_cmpR op_eq (pv 1) pe_str (nomark _)) (pss_one (ps_ret (pe_lst (pa_cons (pe_ix (Nz.ixT K) (pv 0) pe_int (fun _ _ => rfl)) pa_nil)))) pss_nil)
    (pss_cons (ps_if (pt_cmpR op_eq (pv 1) pe_str (nomark _)) (pss_one (ps_ret (pe_lst (pa_cons (pe_callTy Nz.c_strA rfl F.b_str Nz.boot_str (pa_cons (pe_ix (Nz.ixT K) (pv 0) pe_int (fun _ _ => rfl)) pa_nil)) pa_nil)))) pss_nil)
    (pss_cons (ps_if (pt_cmpR op_eq (pv 1) pe_str (nomark _)) (pss_one (ps_ret (pe_lst (pa_cons (pv 1) (pa_cons (pe_ix (Nz.ixT K) (pv 0) pe_int (fun _ _ => rfl)) (pa_cons pe_str (Nz.paStar (K := K) (pe_ix (Nz.ixT K) (pv 0) pe_int (fun _ _ => rfl)) (pa_cons pe_str pa_nil)))))))) pss_nil)
    (pss_cons (ps_if (pt_cmpR op_eq (pv 1) pe_str (nomark _)) (pss_cons (ps_setLc2 (i := 2) (own := [("pair", 7), ("piece", 8)]) (vs1 := [8]) (g := (gName 7)) (g1 := (gName 8)) rfl sc_pieces.nd rfl rfl (sw_true rfl rfl rfl (by decide +kernel)) (Nz.piT K (pe_ix (Nz.ixT K) (pv 0) pe_int (fun _ _ => rfl))) (blkOk_by (own := [("pair", 7), ("piece", 8)]) (N := n_pieces) (sc := defScope s_pieces) (by decide +kernel)) (by decide) (fun _ _ _ _ _ => (pg_name (i := 7) sc_pieces.nd rfl (Or.inl rfl))) (fun _ _ _ _ _ => pts_nil) (fun _ _ _ _ _ => (Nz.piT K (pv 7))) (fun _ _ _ _ _ => (pg_name (i := 8) sc_pieces.nd rfl (Or.inl rfl))) (fun _ _ _ _ _ => pts_nil) (fun _ _ _ _ _ => (pv 8)))
    (pss_one (ps_ret (pe_lst (pa_cons (pv 1) (Nz.paStar (K := K) (pv 2) (pa_cons pe_str (pa_cons (pe_ix (Nz.ixT K) (pv 0) pe_int (fun _ _ => rfl)) pa_nil)))))))) pss_nil)
    (pss_cons (ps_if (pt_cmpR op_eq (pv 1) pe_str (nomark _)) (pss_cons (ps_set (i := 3) sc_pieces.nd rfl (Or.inl rfl) (pe_lst pa_nil))
    (pss_cons (ps_for PassesOwn.never rfl (Nz.piT K (pe_ix (Nz.ixT K) (pv 0) pe_int (fun _ _ => rfl))) (pg_tup rfl (pgs_cons (pg_name (i := 4) sc_pieces.nd rfl (Or.inl rfl)) (pgs_cons (pg_name (i := 5) sc_pieces.nd rfl (Or.inl rfl)) (pgs_cons (pg_name (i := 6) sc_pieces.nd rfl (Or.inl rfl)) pgs_nil)))) (pss_one (ps_expr (pe_bm PySem.F.plainAttrs_list PySem.F.slot_list_extend PySem.F.type_list_extend mt_extend (pv 3) (pa_cons (pe_lst (pa_cons pe_str (pa_cons (pv 4) (pa_cons pe_str (Nz.paStar (K := K) (pv 5) (pa_cons pe_str (pa_cons (pv 6) pa_nil))))))) pa_nil)))))
    (pss_one (ps_ret (pe_lst (pa_cons (pv 1) (pa_cons (pe_ix (Nz.ixT K) (pv 0) pe_int (fun _ _ => rfl)) (Nz.paStar (K := K) (pv 3) (pa_cons pe_str pa_nil))))))))) pss_nil)
    (pss_one (ps_ret (pe_callTy (Nz.cLst K) rfl F.b_list Nz.boot_list (pa_cons (pv 0) pa_nil)))))))))), fun ds xs h => ?_⟩)
  · obtain ⟨t, _, _, rfl, _⟩ := h
    rfl
  obtain ⟨⟨h, ks⟩, hf, hn, rfl, rfl⟩ := h
  cases h with
  | var x =>
    obtain rfl : ks = [] := List.length_eq_zero_iff.mp hf.1
    refine sq_set (d := .s "var") (ed_op (ed_var rfl) ed_int rd_ixT0) ?_
    refine sq_ifT (et_test (ed_op (ed_var rfl) ed_str (rd_eqSb rfl))) rfl ?_
    exact sq_retL (el_lst (ea_cons (ed_op (ed_var rfl) ed_int rd_ixT1) ea_nil) (short_size rfl)) rfl
  | num m =>
    obtain rfl : ks = [] := List.length_eq_zero_iff.mp hf.1
    refine sq_set (d := .s "number") (ed_op (ed_var rfl) ed_int rd_ixT0) ?_
    refine sq_ifF (et_test (ed_op (ed_var rfl) ed_str (rd_eqSb rfl))) rfl ?_
    refine sq_ifT (et_test (ed_op (ed_var rfl) ed_str (rd_eqSb rfl))) rfl ?_
    exact sq_retL (el_lst (ea_cons (ed_strI (ed_op (ed_var rfl) ed_int rd_ixT1) (log_num hn.1.1 hn.1.2)) ea_nil) (short_size rfl)) rfl
  | mk c xs =>
    obtain rfl : ks = [] := List.length_eq_zero_iff.mp hf.1.1
    have x4 := hf.1.2
    refine sq_set (d := .s "make") (ed_op (ed_var rfl) ed_int rd_ixT0) ?_
    refine sq_ifF (et_test (ed_op (ed_var rfl) ed_str (rd_eqSb rfl))) rfl ?_
    refine sq_ifF (et_test (ed_op (ed_var rfl) ed_str (rd_eqSb rfl))) rfl ?_
    refine sq_ifT (et_test (ed_op (ed_var rfl) ed_str (rd_eqSb rfl))) rfl ?_
    refine sq_retL (el_lst (ea_cons (ed_var rfl) (ea_cons (ed_op (ed_var rfl) ed_int rd_ixT1) (ea_cons ed_str (ea_starT (ed_op (ed_var rfl) ed_int rd_ixT2) (ea_cons ed_str ea_nil))))) ?_) ?_
    · simp only [List.length_cons, List.length_append, List.length_map, List.length_nil]
      exact small4 (by omega)
    · show _ = ((Pc.w "make" :: .w c :: .w "(" :: (xs.map Pc.w ++ [.w ")"])).map pcD)
      simp only [List.map_cons, List.map_append, map_pw]
      rfl
  | hole =>
    obtain rfl : ks = [] := List.length_eq_zero_iff.mp hf.1
    refine sq_set (d := .s "hole") (ed_op (ed_var rfl) ed_int rd_ixT0) ?_
    refine sq_ifF (et_test (ed_op (ed_var rfl) ed_str (rd_eqSb rfl))) rfl ?_
    refine sq_ifF (et_test (ed_op (ed_var rfl) ed_str (rd_eqSb rfl))) rfl ?_
    refine sq_ifF (et_test (ed_op (ed_var rfl) ed_str (rd_eqSb rfl))) rfl ?_
    refine sq_ifF (et_test (ed_op (ed_var rfl) ed_str (rd_eqSb rfl))) rfl ?_
    refine sq_ifF (et_test (ed_op (ed_var rfl) ed_str (rd_eqSb rfl))) rfl ?_
    exact sd_retL (el_cb (ea_cons (ed_var rfl) ea_nil) rc_lstT) rfl
  | fn x =>
    obtain ⟨t, rfl⟩ := one_of hf.1
    refine sq_set (d := .s "fun") (ed_op (ed_var rfl) ed_int rd_ixT0) ?_
    refine sq_ifF (et_test (ed_op (ed_var rfl) ed_str (rd_eqSb rfl))) rfl ?_
    refine sq_ifF (et_test (ed_op (ed_var rfl) ed_str (rd_eqSb rfl))) rfl ?_
    refine sq_ifF (et_test (ed_op (ed_var rfl) ed_str (rd_eqSb rfl))) rfl ?_
    refine sq_ifF (et_test (ed_op (ed_var rfl) ed_str (rd_eqSb rfl))) rfl ?_
    refine sq_ifF (et_test (ed_op (ed_var rfl) ed_str (rd_eqSb rfl))) rfl ?_
    exact sd_retL (el_cb (ea_cons (ed_var rfl) ea_nil) rc_lstT) rfl
  | call x =>
    obtain ⟨t, rfl⟩ := one_of hf.1
    refine sq_set (d := .s "call") (ed_op (ed_var rfl) ed_int rd_ixT0) ?_
    refine sq_ifF (et_test (ed_op (ed_var rfl) ed_str (rd_eqSb rfl))) rfl ?_
    refine sq_ifF (et_test (ed_op (ed_var rfl) ed_str (rd_eqSb rfl))) rfl ?_
    refine sq_ifF (et_test (ed_op (ed_var rfl) ed_str (rd_eqSb rfl))) rfl ?_
    refine sq_ifF (et_test (ed_op (ed_var rfl) ed_str (rd_eqSb rfl))) rfl ?_
    refine sq_ifF (et_test (ed_op (ed_var rfl) ed_str (rd_eqSb rfl))) rfl ?_
    exact sd_retL (el_cb (ea_cons (ed_var rfl) ea_nil) rc_lstT) rfl
  | lets xs =>
    obtain ⟨ms, m, rfl, hl⟩ := last_of hf.1.1
    have x4 := hf.1.2
    have zl : (xs.zip ms).length = xs.length := by rw [List.length_zip, hl]; exact Nat.min_self _
    have fl : ∀ (l : List (Str × Tm)), ((l.map fun p => [Pc.w p.1, .t p.2]).flatten).length = 2 * l.length := fun l => by
      induction l with
      | nil => rfl
      | cons p r ih =>
        show (([Pc.w p.1, .t p.2] : List Pc) ++ (r.map fun p => [Pc.w p.1, .t p.2]).flatten).length = 2 * (r.length + 1)
        rw [List.length_append, ih]
        show 2 + _ = _
        omega
    rw [enc_lets hl]
    refine sq_set (d := .s "let") (ed_op (ed_var rfl) ed_int rd_ixT0) ?_
    refine sq_ifF (et_test (ed_op (ed_var rfl) ed_str (rd_eqSb rfl))) rfl ?_
    refine sq_ifF (et_test (ed_op (ed_var rfl) ed_str (rd_eqSb rfl))) rfl ?_
    refine sq_ifF (et_test (ed_op (ed_var rfl) ed_str (rd_eqSb rfl))) rfl ?_
    refine sq_ifT (et_test (ed_op (ed_var rfl) ed_str (rd_eqSb rfl))) rfl ?_
    refine sq_assoc (sq_setO (el_lc2 (vs := [7, 8]) (vs1 := [8]) (xs.zip ms) (fun p => .t [.s p.1, enc p.2]) (fun p => [Pc.w p.1, .t p.2]) pcD pcD (small4 (by rw [fl, zl]; omega)) rfl (src_tup (ed_op (ed_var rfl) ed_int rd_ixT1)).c fun p hp => ⟨_, gw_name2 (by decide) rfl, rfl, src_tup (ed_var rfl), fun y hy => ⟨_, gw_name rfl, ed_var rfl⟩⟩) ?_)
    refine sd_freeze (i := 2) rfl ?_
    refine sq_retL (el_lst (ea_cons (ed_var rfl) (ea_starL (ed_var rfl) (ea_cons ed_str (ea_cons (ed_op (ed_var rfl) ed_int rd_ixT2) ea_nil)))) ?_) ?_
    · simp only [List.length_cons, List.length_append, List.length_map, List.length_nil, fl, zl]
      exact small4 (by omega)
    · have ed : (ms ++ [m]).drop xs.length = [m] := by rw [← hl, List.drop_left]
      have ez : xs.zip (ms ++ [m]) = xs.zip ms := zip_app1 hl
      show _ = (Pc.w "let" :: (((xs.zip (ms ++ [m])).map fun p => [Pc.w p.1, .t p.2]).flatten ++ (.w "in" :: ((ms ++ [m]).drop xs.length).map Pc.t))).map pcD
      rw [ed, ez]
      simp only [List.map_cons, List.map_append]
      rfl
  | case rs =>
    obtain ⟨m, ms, rfl, hl⟩ := cons_of hf.1.1
    have x4 := hf.1.2.1
    have r4 := hf.1.2.2
    have zl : (rs.zip ms).length = rs.length := by rw [List.length_zip, hl]; exact Nat.min_self _
    rw [enc_case]
    refine sq_set (d := .s "case") (ed_op (ed_var rfl) ed_int rd_ixT0) ?_
    refine sq_ifF (et_test (ed_op (ed_var rfl) ed_str (rd_eqSb rfl))) rfl ?_
    refine sq_ifF (et_test (ed_op (ed_var rfl) ed_str (rd_eqSb rfl))) rfl ?_
    refine sq_ifF (et_test (ed_op (ed_var rfl) ed_str (rd_eqSb rfl))) rfl ?_
    refine sq_ifF (et_test (ed_op (ed_var rfl) ed_str (rd_eqSb rfl))) rfl ?_
    refine sq_ifT (et_test (ed_op (ed_var rfl) ed_str (rd_eqSb rfl))) rfl ?_
    refine sq_assoc (sq_setO (el_lst ea_nil (Nat.zero_le _)) ?_)
    refine sq_assoc (sd_seq (fun e => ∃ κ4 κ5 κ6, e = [.d (.t [.s "case", enc m, .t ((rs.zip ms).map fun p => .t [.s p.1.1, tS p.1.2, enc p.2])]), .d (.s "case"), .no, .o (.l ((((rs.zip ms).map fun p => Pc.w "of" :: .w p.1.1 :: .w "(" :: (p.1.2.map Pc.w ++ [.w ")", .t p.2])).flatten).map pcD)), κ4, κ5, κ6, .no, .no] ∧ ((((rs.zip ms).map fun p => Pc.w "of" :: .w p.1.1 :: .w "(" :: (p.1.2.map Pc.w ++ [.w ")", .t p.2])).flatten).map pcD).length ≤ 10 * rs.length) ?_ ?_)
    · refine sd_for (src_tup (ed_op (ed_var rfl) ed_int rd_ixT2)) (fun i e => ∃ κ4 κ5 κ6, e = [.d (.t [.s "case", enc m, .t ((rs.zip ms).map fun p => .t [.s p.1.1, tS p.1.2, enc p.2])]), .d (.s "case"), .no, .o (.l (((((rs.zip ms).take i).map fun p => Pc.w "of" :: .w p.1.1 :: .w "(" :: (p.1.2.map Pc.w ++ [.w ")", .t p.2])).flatten).map pcD)), κ4, κ5, κ6, .no, .no] ∧ (((((rs.zip ms).take i).map fun p => Pc.w "of" :: .w p.1.1 :: .w "(" :: (p.1.2.map Pc.w ++ [.w ")", .t p.2])).flatten).map pcD).length ≤ 10 * i) ⟨_, _, _, rfl, Nat.le_refl _⟩ (fun i d e hdi he => ?_) (fun e he => ?_)
      · obtain ⟨κ4, κ5, κ6, rfl, hb⟩ := he
        rw [List.getElem?_map] at hdi
        cases hp : (rs.zip ms)[i]? with
        | none =>
          rw [hp] at hdi
          cases hdi
        | some p =>
          rw [hp] at hdi
          cases hdi
          have hi : i < rs.length := by
            have := (List.getElem?_eq_some_iff.mp hp).1
            omega
          have p4 := r4 p.1 (List.of_mem_zip (show (p.1, p.2) ∈ _ from List.mem_of_getElem? hp)).1
          refine ⟨_, gd_tup (gds_cons gd_name (gds_cons gd_name (gds_cons gd_name gds_nil))) rfl, ?_⟩
          have tk : ((((rs.zip ms).take (i + 1)).map fun p => Pc.w "of" :: .w p.1.1 :: .w "(" :: (p.1.2.map Pc.w ++ [.w ")", .t p.2])).flatten).map pcD = ((((rs.zip ms).take i).map fun p => Pc.w "of" :: .w p.1.1 :: .w "(" :: (p.1.2.map Pc.w ++ [.w ")", .t p.2])).flatten).map pcD ++ (.s "of" :: .s p.1.1 :: .s "(" :: (p.1.2.map D.s ++ [.s ")", enc p.2])) := by
            rw [List.take_succ, hp]
            simp only [Option.toList_some, List.map_append, List.flatten_append, List.map_cons, List.map_nil, List.flatten_cons, List.flatten_nil, List.append_nil, map_pw]
            rfl
          refine sd_ext rfl (EL.toD (el_lst (ea_cons ed_str (ea_cons (ed_var rfl) (ea_cons ed_str (ea_starT (ed_var rfl) (ea_cons ed_str (ea_cons (ed_var rfl) ea_nil)))))) ?_)) ?_ ⟨.d (.s p.1.1), .d (tS p.1.2), .d (enc p.2), ?_, ?_⟩
          · simp only [List.length_cons, List.length_append, List.length_map, List.length_nil]
            exact small4 (by omega)
          · simp only [List.length_cons, List.length_append, List.length_map, List.length_nil] at hb ⊢
            exact small4 (by omega)
          · rw [tk]
            rfl
          · rw [tk, List.length_append]
            simp only [List.length_cons, List.length_append, List.length_map, List.length_nil] at hb ⊢
            omega
      · obtain ⟨κ4, κ5, κ6, rfl, hb⟩ := he
        have e0 : (List.map (fun p : (Str × List Str) × Tm => D.t [D.s p.fst.fst, tS p.fst.snd, enc p.snd]) (rs.zip ms)).length = rs.length := by rw [List.length_map, zl]
        have e1 : (rs.zip ms).take rs.length = rs.zip ms := List.take_of_length_le (by omega)
        rw [e0, e1] at hb
        refine ⟨κ4, κ5, κ6, ?_, hb⟩
        rw [e0, e1]
    · rintro e ⟨κ4, κ5, κ6, rfl, hb⟩
      refine sd_freeze (i := 3) rfl ?_
      refine sq_retL (el_lst (ea_cons (ed_var rfl) (ea_cons (ed_op (ed_var rfl) ed_int rd_ixT1) (ea_starL (ed_var rfl) (ea_cons ed_str ea_nil)))) ?_) ?_
      · simp only [List.length_cons, List.length_append, List.length_nil] at hb ⊢
        exact small4 (by omega)
      · show _ = (Pc.w "case" :: .t m :: (((rs.zip ms).map fun p => Pc.w "of" :: .w p.1.1 :: .w "(" :: (p.1.2.map Pc.w ++ [.w ")", .t p.2])).flatten ++ [.w "end"])).map pcD
        simp only [List.map_cons, List.map_append]
        rfl
  | op o =>
    have ho : (o, ks.length) ∈ arities := hf.1
    have nv : ∀ {y : Str}, y ∈ (["var", "number", "make", "let", "case"] : List Str) → o ≠ y := fun {y} hy e => by
      subst e
      have e : (arities.all fun p => decide (p.1 ∉ (["var", "number", "make", "let", "case"] : List Str))) = true := by decide +kernel
      exact of_decide_eq_true (List.all_eq_true.mp e _ ho) hy
    rw [enc_op]
    refine sq_set (d := .s o) (ed_op (ed_var rfl) ed_int rd_ixT0) ?_
    refine sq_ifF (et_test (ed_op (ed_var rfl) ed_str (rd_eqSb (decide_eq_false (nv (by simp)))))) rfl ?_
    refine sq_ifF (et_test (ed_op (ed_var rfl) ed_str (rd_eqSb (decide_eq_false (nv (by simp)))))) rfl ?_
    refine sq_ifF (et_test (ed_op (ed_var rfl) ed_str (rd_eqSb (decide_eq_false (nv (by simp)))))) rfl ?_
    refine sq_ifF (et_test (ed_op (ed_var rfl) ed_str (rd_eqSb (decide_eq_false (nv (by simp)))))) rfl ?_
    refine sq_ifF (et_test (ed_op (ed_var rfl) ed_str (rd_eqSb (decide_eq_false (nv (by simp)))))) rfl ?_
    refine sd_retL (el_cb (ea_cons (ed_var rfl) ea_nil) rc_lstT) ?_
    show _ = (Pc.w o :: ks.map Pc.t).map pcD
    rw [List.map_cons, map_pt]
    rfl
def R_tt (ds : List D) (d : D) : Prop := ∃ t, Wf t ∧ Wn t ∧ (wd t).length + sz t ≤ 100000 ∧ ds = [enc t] ∧ d = .s (txt (wd t))
theorem enc_tup (t : Tm) : ∃ xs, enc t = .t xs := by
  obtain ⟨h, ks⟩ := t
  show ∃ xs, encH h (encs ks) = .t xs
  cases h <;> exact ⟨_, rfl⟩
theorem k_term_text (F : Facts K mg w) : C8.Cal P w K mg base 2 "term_text" (spR R_tt) [] := by
  have c_pieces := k_pieces (P := P) (w := w) (base := base) F
  refine F.term_text.R sc_term_text (by decide) (fun ds d h => ?_) (fun f cdv A outer s H E hr => ⟨_, (pss_cons (ps_set (i := 1) sc_term_text.nd rfl (Or.inl rfl) (pe_lst pa_nil))
    (pss_cons (ps_set (i := 2) sc_term_text.nd rfl (Or.inl rfl) (pe_lst (pa_cons (pv 0) pa_nil)))
    (pss_cons (ps_while PassesOwn.never (Nz.ptTru K (pv 2)) (pss_cons (ps_set (i := 3) sc_term_text.nd rfl (Or.inl rfl) (pe_bm0 PySem.F.plainAttrs_list PySem.F.slot_list_pop PySem.F.type_list_pop mt_pop (pv 2)))
    (pss_one (ps_if (pt_val (pe_callB (Nz.cIsi K) rfl F.b_isinstance Nz.boot_isinstance (pa_cons (pv 3) (pa_cons (pe_bltn (v := V.ty "str") rfl F.b_str Nz.boot_str rfl) pa_nil)))) (pss_one (ps_expr (pe_bm PySem.F.plainAttrs_list PySem.F.slot_list_append PySem.F.type_list_append mt_append (pv 1) (pa_cons (pv 3) pa_nil)))) (pss_one (ps_expr (pe_bm PySem.F.plainAttrs_list PySem.F.slot_list_extend PySem.F.type_list_extend mt_extend (pv 2) (pa_cons (pe_revL (C8.pe_c c_pieces hr (by first | decide | omega) rfl (pa_cons (pv 3) pa_nil))) pa_nil))))))))
    (pss_one (ps_ret (pe_join pe_str (pv 1))))))), fun ds d h => ?_⟩)
  · obtain ⟨t, _, _, _, rfl, _⟩ := h
    rfl
  obtain ⟨t, hf, hn, hb, rfl, rfl⟩ := h
  have ok := wd_ok t hf hn
  refine sq_setO (el_lst ea_nil (Nat.zero_le _)) ?_
  refine sq_setO (el_lst (ea_cons (ed_var rfl) ea_nil) (short_size rfl)) ?_
  refine sq_whileM (fun m e => ∃ (done : List Str) (stk : List Pc) (κ3 : Sl), e = [.d (enc t), .o (.l (done.map D.s)), .o (.l (stk.map pcD)), κ3] ∧ done ++ pcsW stk.reverse = wd t ∧ pcsM stk = m ∧ (∀ p ∈ stk, pcOk p) ∧ done.length + m ≤ 100000) ((wd t).length + sz t)
    ⟨[], [.t t], _, rfl, ?_, rfl, fun p m => by cases List.mem_singleton.mp m; exact ⟨hf, hn⟩, by show 0 + _ ≤ _; omega⟩ (fun e => ∃ κ2 κ3, e = [.d (enc t), .o (.l ((wd t).map D.s)), κ2, κ3]) (fun m e he => ?_) (fun e he => ?_)
  · show [] ++ (wd t ++ []) = wd t
    simp
  · obtain ⟨done, stk, κ3, rfl, h1, h2, h3, h4⟩ := he
    refine ⟨_, et_truL (ex_own rfl), fun hbb => ?_, fun hbb => ?_⟩
    · have ne : stk ≠ [] := fun z => by
        subst z
        cases hbb
      obtain ⟨l, q, rfl⟩ : ∃ l q, stk = l ++ [q] := by
        rcases List.eq_nil_or_concat stk with rfl | ⟨r, a, rfl⟩
        · exact absurd rfl ne
        · exact ⟨r, a, by simp⟩
      have hq := h3 q (by simp)
      rw [pcsM_app] at h2
      have h2' : pcsM l + (pcM q + 0) = m := h2
      have ll := pcs_len l
      rw [List.map_append]
      refine sq_pop rfl gd_name ?_
      cases q with
      | w x =>
        refine sd_if (et_B (ed_isi (b := true) (ED.toX (ed_var rfl)) (by simp only [pcD, tyD]; decide +kernel))) (fun _ => ?_) (fun h => by cases h)
        refine sd_app rfl (ed_var rfl) (by rw [List.length_map]; exact Nat.lt_of_le_of_lt (show _ ≤ 100000 by omega) (by decide)) ?_
        refine ⟨pcsM l, by show pcsM l < m; have : pcM (.w x) = 1 := rfl; omega, done ++ [x], l, .d (.s x), ?_, ?_, rfl, fun p hp => h3 p (List.mem_append_left _ hp), ?_⟩
        · rw [List.map_append]
          rfl
        · rw [← h1, List.reverse_append, List.append_assoc]
          rfl
        · rw [List.length_append]
          have : pcM (.w x) = 1 := rfl
          show done.length + 1 + _ ≤ _
          omega
      | t u =>
        obtain ⟨xs, ex⟩ := enc_tup u
        obtain ⟨w1, w2⟩ := pcs_ok hq.1
        have pm : pcM (.t u) = (wd u).length + sz u := rfl
        have pl := pcs_len (pcs u)
        refine sd_if (et_B (ed_isi (b := false) (ED.toX (ed_var rfl)) (by simp only [pcD, ex, tyD]; decide +kernel))) (fun h => by cases h) (fun _ => ?_)
        refine sd_ext rfl (EL.toD (el_revE (EL.toD (el_call (ea_cons (ed_var rfl) ea_nil) ⟨u, hq.1, hq.2, rfl, rfl⟩)))) ?_ ?_
        · rw [List.length_map, List.length_reverse, List.length_map]
          exact Nat.le_trans (show _ ≤ 200000 by omega) (by decide)
        · refine ⟨pcsM l + pcsM (pcs u), by omega, done, l ++ (pcs u).reverse, .d (enc u), ?_, ?_, by rw [pcsM_app, pcsM_rev], fun p hp => ?_, by omega⟩
          · rw [List.map_append, List.map_reverse]
            rfl
          · rw [← h1, List.reverse_append, List.reverse_reverse, List.reverse_append, pcsW_app, w1]
            rfl
          · rcases List.mem_append.mp hp with hp | hp
            · exact h3 p (List.mem_append_left _ hp)
            · exact pcs_sub hq.1 hq.2 p (List.mem_reverse.mp hp)
    · have e : stk = [] := by
        cases stk with
        | nil => rfl
        | cons _ _ => cases hbb
      subst e
      have e2 : done = wd t := by
        rw [← h1]
        show done = done ++ []
        simp
      exact ⟨_, _, by rw [e2]⟩
  · obtain ⟨κ2, κ3, rfl⟩ := he
    refine sd_ret (ed_join ed_str (ex_own rfl) ?_) rfl
    have := sum_len ok
    show _ + (wd t).length * 1 ≤ _
    omega
end
end Nz
namespace Nz
open PySem L2
inductive Th where
  | n (k : Nat) | x (s : Str) | is (ks : List Nat) | xs (ns : List Str)
def natsD (ks : List Nat) : List D := ks.map fun k => D.i ((k : Nat) : Int)
def nW (k : Nat) : Str := numS (k : Int)
def thD : Th → D
  | .n k => .i (k : Int)
  | .x s => .s s
  | .is ks => .t (natsD ks)
  | .xs ns => tS ns
def thW : Th → List Str
  | .n k => [nW k]
  | .x s => [s]
  | .is ks => nW ks.length :: ks.map nW
  | .xs ns => nW ns.length :: ns
def thOk : Th → Prop
  | .n k => k < 1000
  | .x s => NameOk s
  | .is ks => ks.length < 1000 ∧ ∀ k ∈ ks, k < 1000
  | .xs ns => 1 ≤ ns.length ∧ ns.length < 1000 ∧ ∀ x ∈ ns, NameOk x
theorem nW_len {k : Nat} (h : k < 1000) : (nW k).length ≤ 3 := by
  unfold nW
  rw [numS_eq, len_sign]
  exact TL.numL_len (by decide) (Nat.lt_of_lt_of_le h (by decide))
theorem nW_log {k : Nat} (h : k < 100000) : (k : Int).natAbs.log2 < 1920 := by
  show k.log2 < 1920
  by_cases z : k = 0
  · subst z
    decide
  · exact (Nat.log2_lt z).mpr (Nat.lt_of_lt_of_le h (by decide +kernel))
section
variable {K : PySem.W.Frag} {es : Es} {te : TE} {tas : TA}
theorem ed_strN {k : Nat} (h : ED te es (.i (k : Int))) (hk : k < 100000) : ED (tCB rStrA (tCons te tNil)) es (.s (nW k)) := ed_strI h (nW_log hk)
def EJ (ts : List TE) (es : Es) (xs : List Str) : Prop := Paired (fun te x => ED te es (.s x)) ts xs
theorem ed_fmtN {k : Nat} (h : ED te es (.i (k : Int))) (hk : k < 100000) : ED (tFmt te) es (.s (nW k)) := fun S A B H σ E Q q => h S A B H σ E _ fun v H2 e i => by
  cases i
  exact .inr ⟨(k : Int), rfl, nW_log hk, q _ H2 e rfl⟩
theorem ed_js {ts : List TE} {xs : List Str} (h : EJ ts es xs) : ∀ (acc : Str), acc.length + (xs.map (·.length)).sum ≤ sizeLine → ED (fun σ H Q => tJs ts acc σ H fun out H1 => Q (.str out) H1) es (.s (xs.foldl (fun a b => a ++ b) acc)) := by
  unfold EJ at h
  induction h with
  | nil => exact fun acc _ S A B H σ E Q q => q _ H (Same.refl H) rfl
  | cons h1 _ ih =>
    intro acc hl S A B H σ E Q q
    rw [List.map_cons, List.sum_cons] at hl
    refine h1 S A B H σ E _ fun v H2 e i => ?_
    cases i
    refine ⟨_, rfl, by rw [Str.length_append]; omega, ?_⟩
    exact ih _ (by rw [Str.length_append]; omega) S A B H2 σ (E.mono e) Q fun v H3 e3 i => q v H3 (e.trans e3) i
/-- *xs of an own list of texts *)-/
theorem ea_starO {i : Nat} {tr : TA} {xs : List Str} {ds : List D} (h : es[i]? = some (.o (.l (xs.map D.s)))) (k : EDs tr es ds) : EDs (StX.tStar K (tVar i) tr) es (xs.map D.s ++ ds) := fun S A B H σ E Q q => by
  obtain ⟨h1, h2, h3, _, h4, vs, rfl, h5⟩ := E.own i _ h
  obtain rfl := IsDs.strs h5
  exact ⟨_, h1, _, _, rfl, .inr (SqL.of h4), k S A B H σ E _ fun ws H3 e3 js => q _ H3 e3 ((IsDs.ofStrs xs).app js)⟩
end
theorem txt_cons2 (a : Str) {r : List Str} (h : r ≠ []) : txt (a :: r) = (a ++ (" " : Str)) ++ txt r := by
  have e : (a ++ (" " : Str)) ++ txt r = SX.S ((a.cps.toList ++ [32]) ++ TL.joinL [32] (r.map fun w => w.cps.toList)) := by
    rw [← SX.S_cat, ← SX.S_cat, ← txt_S r]
    have : SX.S a.cps.toList = a := SX.S_tl a
    rw [this]
    rfl
  rw [e, txt_S]
  congr 1
  cases r with
  | nil => exact absurd rfl h
  | cons b r =>
    show a.cps.toList ++ ([32] ++ TL.joinL [32] ((b :: r).map fun w => w.cps.toList)) = _
    rw [List.append_assoc]
theorem txt_one (a : Str) : txt [a] = a := by
  rw [txt_S]
  exact SX.S_tl a
theorem joinL_cons {x : List Nat} : ∀ {r : List (List Nat)}, r ≠ [] → TL.joinL [32] (x :: r) = x ++ ([32] ++ TL.joinL [32] r)
  | [], h => absurd rfl h
  | _ :: _, _ => rfl
theorem joinL_nest {b : List (List Nat)} (hb : b ≠ []) : ∀ ks : List (List Nat), TL.joinL [32] (ks ++ [TL.joinL [32] b]) = TL.joinL [32] (ks ++ b)
  | [] => rfl
  | x :: r => by
    show TL.joinL [32] (x :: (r ++ [TL.joinL [32] b])) = TL.joinL [32] (x :: (r ++ b))
    rw [joinL_cons (by simp), joinL_cons (by simp [hb]), joinL_nest hb r]
theorem txt_nest {ks ws : List Str} (h : ws ≠ []) : txt (ks ++ [txt ws]) = txt (ks ++ ws) := by
  rw [txt_S, txt_S (ks ++ ws)]
  congr 1
  rw [List.map_append, List.map_append]
  show TL.joinL [32] (_ ++ [(txt ws).cps.toList]) = _
  have e : (txt ws).cps.toList = TL.joinL [32] (ws.map fun w => w.cps.toList) := by
    rw [txt_S]
  rw [e]
  exact joinL_nest (by intro z; exact h (List.map_eq_nil_iff.mp z)) _
section
variable {P : Program} {w : World} {K : PySem.W.Frag} {mg : Str → Option Value} {base : Heap}
def R_wo (ds : List D) (d : List D) : Prop := ∃ t, thOk t ∧ ds = [thD t] ∧ d = (thW t).map D.s
theorem k_words_of (F : Facts K mg w) : C8.Cal P w K mg base 1 "words_of" (spL R_wo) [] := by
  refine F.words_of.L sc_words_of (by decide) (fun ds d h => ?_) (fun f cdv A outer s H E hr => ⟨_, (pss_cons (ps_if (pt_val (pe_callB (Nz.cIsi K) rfl F.b_isinstance Nz.boot_isinstance (pa_cons (pv 0) (pa_cons (pe_bltn (v := V.ty "tuple") rfl F.b_tuple Nz.boot_tuple rfl) pa_nil)))) (pss_one (ps_ret (pe_lst (pa_cons (pe_callTy Nz.c_strA rfl F.b_str Nz.boot_str (pa_cons (pe_callB (Nz.cLen K) rfl F.b_len Nz.boot_len (pa_cons (pv 0) pa_nil)) pa_nil)) (Nz.paStar (K := K) (pe_lc (own := [("item", 1)]) (g := (gName 1)) rfl sc_words_of.nd (Nz.piT K (pv 0)) (blkOk_by (own := [("item", 1)]) (N := n_words_of) (sc := defScope s_words_of) (by decide +kernel)) (fun _ _ _ _ _ => (pg_name (i := 1) sc_words_of.nd rfl (Or.inl rfl))) (fun _ _ _ _ _ => pts_nil) (fun _ _ _ _ _ => (pe_callTy Nz.c_strA rfl F.b_str Nz.boot_str (pa_cons (pv 1) pa_nil)))) pa_nil))))) pss_nil)
    (pss_one (ps_ret (pe_lst (pa_cons (pe_callTy Nz.c_strA rfl F.b_str Nz.boot_str (pa_cons (pv 0) pa_nil)) pa_nil))))), fun ds d h => ?_⟩)
  · obtain ⟨t, _, rfl, _⟩ := h
    rfl
  obtain ⟨t, ht, rfl, rfl⟩ := h
  have isi : ∀ {te : TE} {es : Es} {x : D} (T : String) (b : Bool), ED te es x → L2.kitB (tyD x) T = some b → ED (tCB (rIsi K) (tCons te (tCons (tC (.ty T)) tNil))) es (.b b) := fun T b h e => ed_isi (ED.toX h) e
  cases t with
  | n k =>
    refine sq_if (b := false) (et_B (isi "tuple" false (ed_var rfl) (by simp only [thD, tS, tyD]; decide +kernel))) (fun h => by cases h) (fun _ => ?_)
    exact sd_retL (el_lst (ea_cons (ed_strN (ed_var rfl) (Nat.lt_of_lt_of_le ht (by decide))) ea_nil) (short_size rfl)) rfl
  | x s =>
    refine sq_if (b := false) (et_B (isi "tuple" false (ed_var rfl) (by simp only [thD, tS, tyD]; decide +kernel))) (fun h => by cases h) (fun _ => ?_)
    exact sd_retL (el_lst (ea_cons (ed_strS (ed_var rfl)) ea_nil) (short_size rfl)) rfl
  | is ks =>
    obtain ⟨h1, h2⟩ := ht
    refine sq_if (b := true) (et_B (isi "tuple" true (ed_var rfl) (by simp only [thD, tS, tyD]; decide +kernel))) (fun _ => ?_) (fun h => by cases h)
    refine sq_retL (ds := (nW ks.length :: ks.map nW).map D.s) (el_lst (ds := (nW ks.length :: ks.map nW).map D.s) (ea_cons (ed_strN (ed_eq (ed_cb (ea_cons (ed_var rfl) ea_nil) rc_lenT) (by unfold natsD; rw [List.length_map])) (by omega)) (?_ : EDs _ _ ((ks.map nW).map D.s))) (by rw [List.length_map, List.length_cons, List.length_map]; exact small4 (by omega))) rfl
    have e : (ks.map nW).map D.s = (ks.map fun k => D.s (nW k)) ++ [] := by
      rw [List.append_nil, List.map_map]
      rfl
    rw [e]
    exact ea_starL (EL.toD (el_lcM (vs := [1]) ks (fun k => D.i ((k : Nat) : Int)) (fun k => .s (nW k)) (small4 (by omega)) rfl (src_tup (ed_var rfl)) fun k hk => ⟨_, gw_name rfl, ed_strN (ed_var rfl) (Nat.lt_of_lt_of_le (h2 k hk) (by decide))⟩)) ea_nil
  | xs ns =>
    obtain ⟨h0, h1, h2⟩ := ht
    refine sq_if (b := true) (et_B (isi "tuple" true (ed_var rfl) (by simp only [thD, tS, tyD]; decide +kernel))) (fun _ => ?_) (fun h => by cases h)
    refine sq_retL (ds := (nW ns.length :: ns).map D.s) (el_lst (ds := (nW ns.length :: ns).map D.s) (ea_cons (ed_strN (ed_eq (ed_cb (ea_cons (ed_var rfl) ea_nil) rc_lenT) (by rw [List.length_map])) (by omega)) (?_ : EDs _ _ (ns.map D.s))) (by rw [List.length_map, List.length_cons]; exact small4 (by omega))) rfl
    have e : ns.map D.s = ns.map D.s ++ [] := (List.append_nil _).symm
    rw [e]
    exact ea_starL (EL.toD (el_lcM (vs := [1]) ns D.s D.s (small4 (by omega)) rfl (src_tup (ed_var rfl)) fun k hk => ⟨_, gw_name rfl, ed_strS (ed_var rfl)⟩)) ea_nil
end
end Nz
namespace Nz
open PySem L2
inductive Stp where
  | cl (kind : Str) (path : List Nat) (k : Nat)
  | go (path : List Nat) (rule : Str) (given : List Th)
  | back (path : List Nat) (rule : Str) (given : List Th) (t : Tm)
def stpD : Stp → D
  | .cl kind path k => .t [.s kind, .t (natsD path), .i (k : Int)]
  | .go path rule given => .t [.s "go", .t (natsD path), .s rule, .t (given.map thD)]
  | .back path rule given t => .t [.s "back", .t (natsD path), .s rule, .t (given.map thD), enc t]
def thsW (l : List Th) : List Str := (l.map thW).flatten
def stpW : Stp → List Str
  | .cl kind path k => kind :: (thW (.is path) ++ [nW k])
  | .go path rule given => ("go" : Str) :: (thW (.is path) ++ (rule :: thsW given))
  | .back path rule given t => ("back" : Str) :: (thW (.is path) ++ (rule :: (thsW given ++ wd t)))
def thF : Th → Str
  | .n _ => "index"
  | .x _ => "name"
  | .is _ => "indexes"
  | .xs _ => "names"
def sameR : List Str := ["rename", "beta", "choose", "zero", "reckon", "float-let", "float-cost", "join", "branch", "sink", "order", "copy", "spoil"]
def betterR : List Str := ["unused", "once", "alias", "into", "untick", "cheaper"]
def toldT : List (Str × List Str) := [("rename", ["index", "name", "name"]), ("float-let", ["index"]), ("float-cost", ["index"]), ("order", ["indexes"]), ("copy", ["name", "indexes"]), ("unused", ["names"])]
def toldF (rule : Str) : List Str := (toldT.lookup rule).getD []
def tmOk (t : Tm) : Prop := okT 60 60 t ∧ (wd t).length + sz t ≤ 8000 ∧ sz t ≤ 1000
def goOk (path : List Nat) (rule : Str) (given : List Th) : Prop := thOk (.is path) ∧ rule ∈ sameR ++ betterR ∧ given.map thF = toldF rule ∧ ∀ g ∈ given, thOk g
def stpOk : Stp → Prop
  | .cl kind path k => (kind = "claim" ∨ kind = "undo") ∧ thOk (.is path) ∧ k < 1000
  | .go path rule given => goOk path rule given
  | .back path rule given t => goOk path rule given ∧ tmOk t
/-- a word: without a blank, short *)-/
def okWd (x : Str) : Prop := 32 ∉ x.cps.toList ∧ x.length ≤ 10 ∧ ∀ c ∈ x.cps.toList, c < 1114112
theorem okWd_of {x : Str} (h : okW x) : okWd x := ⟨h.1, by have := h.2.2.1; omega, h.2.2.2⟩
theorem okWd_n {k : Nat} (h : k < 1000) : okWd (nW k) := by
  have dg : ∀ c ∈ (nW k).cps.toList, 48 ≤ c ∧ c ≤ 57 := fun c z => by
    unfold nW at z
    rw [numS_eq] at z
    have := TL.numL_digits k c z
    omega
  exact ⟨fun z => by have := dg 32 z; omega, by have := nW_len h; omega, fun c m => by have := dg c m; omega⟩
theorem okWd_x {x : Str} (h : NameOk x) : okWd x := okWd_of (okW_name h)
theorem th_ok {t : Th} (h : thOk t) : (∀ u ∈ thW t, okWd u) ∧ (thW t).length ≤ 1000 := by
  cases t with
  | n k => exact ⟨fun u m => (by cases List.mem_singleton.mp m; exact okWd_n h), (by show 1 ≤ 1000; decide)⟩
  | x s => exact ⟨fun u m => (by cases List.mem_singleton.mp m; exact okWd_x h), (by show 1 ≤ 1000; decide)⟩
  | is ks =>
    refine ⟨fun u m => ?_, by show (nW ks.length :: ks.map nW).length ≤ _; rw [List.length_cons, List.length_map]; exact h.1⟩
    rcases List.mem_cons.mp m with rfl | m
    · exact okWd_n h.1
    · obtain ⟨k, hk, rfl⟩ := List.mem_map.mp m
      exact okWd_n (h.2 k hk)
  | xs ns =>
    refine ⟨fun u m => ?_, by show (nW ns.length :: ns).length ≤ _; rw [List.length_cons]; exact h.2.1⟩
    rcases List.mem_cons.mp m with rfl | m
    · exact okWd_n h.2.1
    · exact okWd_x (h.2.2 u m)
theorem ths_ok : ∀ {l : List Th}, (∀ g ∈ l, thOk g) → (∀ u ∈ thsW l, okWd u) ∧ (thsW l).length ≤ 1000 * l.length
  | [], _ => ⟨fun u m => (by cases m), Nat.le_refl _⟩
  | g :: l, h => by
    have h1 := th_ok (h g (List.mem_cons_self ..))
    have h2 := ths_ok (l := l) fun g m => h g (List.mem_cons_of_mem _ m)
    have e : thsW (g :: l) = thW g ++ thsW l := rfl
    rw [e]
    refine ⟨fun u m => (List.mem_append.mp m).elim (h1.1 u) (h2.1 u), ?_⟩
    rw [List.length_append, List.length_cons]
    have := h1.2
    have := h2.2
    omega
theorem told_len (rule : Str) : (toldF rule).length ≤ 3 := by
  unfold toldF
  cases q : toldT.lookup rule with
  | none => exact Nat.zero_le _
  | some l =>
    have e : ∀ p ∈ toldT, p.2.length ≤ 3 := by decide
    have gen : ∀ (T : List (Str × List Str)), T.lookup rule = some l → ∃ p ∈ T, p.2 = l := fun T => by
      induction T with
      | nil => intro z; cases z
      | cons a r ih =>
        intro z
        rw [List.lookup_cons] at z
        split at z
        · cases z
          exact ⟨a, List.mem_cons_self .., rfl⟩
        · obtain ⟨p, m, e⟩ := ih z
          exact ⟨p, List.mem_cons_of_mem _ m, e⟩
    obtain ⟨p, m, rfl⟩ := gen toldT q
    exact e p m
theorem rule_ok {r : Str} (h : r ∈ sameR ++ betterR) : okWd r := by
  have e : ((sameR ++ betterR).all fun x => !x.cps.toList.contains 32 && (decide (x.length ≤ 10) && x.cps.toList.all fun c => decide (c < 1114112))) = true := by decide +kernel
  have := List.all_eq_true.mp e r h
  rw [Bool.and_eq_true, Bool.and_eq_true, Bool.not_eq_true'] at this
  refine ⟨fun z => ?_, of_decide_eq_true this.2.1, fun c m => of_decide_eq_true (List.all_eq_true.mp this.2.2 c m)⟩
  have h1 := this.1
  rw [List.contains_eq_mem, decide_eq_false_iff_not] at h1
  exact h1 z
theorem wd_okd {t : Tm} (h : tmOk t) : ∀ u ∈ wd t, okWd u := fun u m => okWd_of (wd_ok t h.1.1 h.1.2.1 u m)
theorem given_len {path : List Nat} {rule : Str} {given : List Th} (h : goOk path rule given) : given.length ≤ 3 := by
  have := told_len rule
  rw [← h.2.2.1, List.length_map] at this
  exact this
theorem kind_ok : okWd "claim" ∧ okWd "undo" ∧ okWd "go" ∧ okWd "back" ∧ okWd "derived" ∧ okWd "context" ∧ okWd "chain" ∧ okWd "recursion" := by
  have e : ((["claim", "undo", "go", "back", "derived", "context", "chain", "recursion"] : List Str).all fun x => !x.cps.toList.contains 32 && (decide (x.length ≤ 10) && x.cps.toList.all fun c => decide (c < 1114112))) = true := by decide +kernel
  have g : ∀ x ∈ (["claim", "undo", "go", "back", "derived", "context", "chain", "recursion"] : List Str), okWd x := fun x hx => by
    have := List.all_eq_true.mp e x hx
    rw [Bool.and_eq_true, Bool.and_eq_true, Bool.not_eq_true'] at this
    refine ⟨fun z => ?_, of_decide_eq_true this.2.1, fun c m => of_decide_eq_true (List.all_eq_true.mp this.2.2 c m)⟩
    have h1 := this.1
    rw [List.contains_eq_mem, decide_eq_false_iff_not] at h1
    exact h1 z
  exact ⟨g _ (by decide), g _ (by decide), g _ (by decide), g _ (by decide), g _ (by decide), g _ (by decide), g _ (by decide), g _ (by decide)⟩
theorem stp_ok {s : Stp} (h : stpOk s) : (∀ u ∈ stpW s, okWd u) ∧ (stpW s).length ≤ 12100 ∧ stpW s ≠ [] := by
  obtain ⟨k1, k2, k3, k4, _⟩ := kind_ok
  cases s with
  | cl kind path k =>
    obtain ⟨hk, hp, hn⟩ := h
    have p := th_ok hp
    refine ⟨fun u m => ?_, ?_, fun z => by cases z⟩
    · rcases List.mem_cons.mp m with rfl | m
      · rcases hk with rfl | rfl
        · exact k1
        · exact k2
      · rcases List.mem_append.mp m with m | m
        · exact p.1 u m
        · cases List.mem_singleton.mp m
          exact okWd_n hn
    · show (kind :: (thW (.is path) ++ [nW k])).length ≤ _
      rw [List.length_cons, List.length_append]
      have := p.2
      show _ + 1 + 1 ≤ _
      omega
  | go path rule given =>
    have p := th_ok h.1
    have q := ths_ok h.2.2.2
    have gl := given_len h
    refine ⟨fun u m => ?_, ?_, fun z => by cases z⟩
    · rcases List.mem_cons.mp m with rfl | m
      · exact k3
      · rcases List.mem_append.mp m with m | m
        · exact p.1 u m
        · rcases List.mem_cons.mp m with rfl | m
          · exact rule_ok h.2.1
          · exact q.1 u m
    · show (("go" : Str) :: (thW (.is path) ++ (rule :: thsW given))).length ≤ _
      rw [List.length_cons, List.length_append, List.length_cons]
      have := p.2
      have := q.2
      omega
  | back path rule given t =>
    obtain ⟨h, ht⟩ := h
    have p := th_ok h.1
    have q := ths_ok h.2.2.2
    have gl := given_len h
    refine ⟨fun u m => ?_, ?_, fun z => by cases z⟩
    · rcases List.mem_cons.mp m with rfl | m
      · exact k4
      · rcases List.mem_append.mp m with m | m
        · exact p.1 u m
        · rcases List.mem_cons.mp m with rfl | m
          · exact rule_ok h.2.1
          · rcases List.mem_append.mp m with m | m
            · exact q.1 u m
            · exact wd_okd ht u m
    · show (("back" : Str) :: (thW (.is path) ++ (rule :: (thsW given ++ wd t)))).length ≤ _
      rw [List.length_cons, List.length_append, List.length_cons, List.length_append]
      have := p.2
      have := q.2
      have := ht.2
      omega
theorem sum_10 : ∀ {ws : List Str}, (∀ u ∈ ws, okWd u) → (ws.map (·.length)).sum ≤ 10 * ws.length
  | [], _ => Nat.zero_le _
  | u :: r, h => by
    have h1 := (h u (List.mem_cons_self ..)).2.1
    have h2 := sum_10 (ws := r) fun v m => h v (List.mem_cons_of_mem _ m)
    show u.length + (r.map (·.length)).sum ≤ 10 * (r.length + 1)
    omega
theorem bl1 : (" " : Str).length = 1 := by decide +kernel
theorem fits {ws : List Str} (h : ∀ u ∈ ws, okWd u) (hl : ws.length ≤ 100000) : (ws.map (·.length)).sum + ws.length * (" " : Str).length ≤ 16777216 := by
  have := sum_10 h
  rw [bl1]
  omega
theorem okd_app {a b : List Str} (h1 : ∀ u ∈ a, okWd u) (h2 : ∀ u ∈ b, okWd u) : ∀ u ∈ a ++ b, okWd u := fun u m => (List.mem_append.mp m).elim (h1 u) (h2 u)
theorem okd_cons {a : Str} {b : List Str} (h1 : okWd a) (h2 : ∀ u ∈ b, okWd u) : ∀ u ∈ a :: b, okWd u := fun u m => by
  rcases List.mem_cons.mp m with rfl | m
  · exact h1
  · exact h2 u m
theorem okd_nil : ∀ u ∈ ([] : List Str), okWd u := fun u m => by cases m
section
variable {P : Program} {w : World} {K : PySem.W.Frag} {mg : Str → Option Value} {base : Heap}
def R_sl (ds : List D) (d : D) : Prop := ∃ s, stpOk s ∧ ds = [stpD s] ∧ d = .s (txt (stpW s))
theorem tm_tt {t : Tm} (h : tmOk t) : R_tt [enc t] (.s (txt (wd t))) := ⟨t, h.1.1, h.1.2.1, by have := h.2; omega, rfl, rfl⟩
theorem k_step_line (F : Facts K mg w) : C8.Cal P w K mg base 3 "step_line" (spR R_sl) [] := by
  have c_words_of := k_words_of (P := P) (w := w) (base := base) F
  have c_term_text := k_term_text (P := P) (w := w) (base := base) F
  obtain ⟨a_CLAIM_STEPS, h_CLAIM_STEPS, t_CS⟩ := F.g_CLAIM_STEPS
  refine F.step_line.R sc_step_line (by decide) (fun ds d h => ?_) (fun f cdv A outer s H E hr => ⟨_, (pss_cons (ps_set (i := 1) sc_step_line.nd rfl (Or.inl rfl) (pe_lst (pa_cons (pe_ix (Nz.ixT K) (pv 0) pe_int (fun _ _ => rfl)) (Nz.paStar (K := K) (C8.pe_c c_words_of hr (by first | decide | omega) rfl (pa_cons (pe_ix (Nz.ixT K) (pv 0) pe_int (fun _ _ => rfl)) pa_nil)) pa_nil))))
    (pss_cons (ps_if (pt_cmpR (Nz.inQ K) (pe_ix (Nz.ixT K) (pv 0) pe_int (fun _ _ => rfl)) (pe_glob (v := V.ref a_CLAIM_STEPS) rfl h_CLAIM_STEPS rfl) rfl) (pss_one (ps_ret (pe_join pe_str (pe_lst (Nz.paStar (K := K) (pv 1) (pa_cons (pe_callTy Nz.c_strA rfl F.b_str Nz.boot_str (pa_cons (pe_ix (Nz.ixT K) (pv 0) pe_int (fun _ _ => rfl)) pa_nil)) pa_nil)))))) pss_nil)
    (pss_cons (ps_expr (pe_bm PySem.F.plainAttrs_list PySem.F.slot_list_append PySem.F.type_list_append mt_append (pv 1) (pa_cons (pe_ix (Nz.ixT K) (pv 0) pe_int (fun _ _ => rfl)) pa_nil)))
    (pss_cons (ps_for PassesOwn.never rfl (Nz.piT K (pe_ix (Nz.ixT K) (pv 0) pe_int (fun _ _ => rfl))) (pg_name (i := 2) sc_step_line.nd rfl (Or.inl rfl)) (pss_one (ps_expr (pe_bm PySem.F.plainAttrs_list PySem.F.slot_list_extend PySem.F.type_list_extend mt_extend (pv 1) (pa_cons (C8.pe_c c_words_of hr (by first | decide | omega) rfl (pa_cons (pv 2) pa_nil)) pa_nil)))))
    (pss_cons (ps_if (pt_cmpR op_eq (pe_ix (Nz.ixT K) (pv 0) pe_int (fun _ _ => rfl)) pe_str (nomark _)) (pss_one (ps_expr (pe_bm PySem.F.plainAttrs_list PySem.F.slot_list_append PySem.F.type_list_append mt_append (pv 1) (pa_cons (C8.pe_c c_term_text hr (by first | decide | omega) rfl (pa_cons (pe_ix (Nz.ixT K) (pv 0) pe_int (fun _ _ => rfl)) pa_nil)) pa_nil)))) pss_nil)
    (pss_one (ps_ret (pe_join pe_str (pv 1))))))))), fun ds d h => ?_⟩)
  · obtain ⟨s, _, rfl, _⟩ := h
    rfl
  obtain ⟨s, ok, rfl, rfl⟩ := h
  have so := stp_ok ok
  have head : ∀ (kind : Str) (path : List Nat) (rs : List D), thOk (.is path) → EL (tLst (tCons (tOp (rIxT K) (tVar 0) (tC (.int 0))) (StX.tStar K (tCall (spL R_wo) [] C8.E0 (tCons (tOp (rIxT K) (tVar 0) (tC (.int 1))) tNil)) tNil))) [.d (.t (.s kind :: .t (natsD path) :: rs)), .no, .no] ((kind :: thW (.is path)).map D.s) := fun kind path rs hp => by
    have e : (kind :: thW (.is path)).map D.s = D.s kind :: ((thW (.is path)).map D.s ++ []) := by rw [List.append_nil]; rfl
    rw [e]
    refine el_lst (ea_cons (ed_op (ed_var rfl) ed_int rd_ixT0) (ea_starL (EL.toD (el_call (ea_cons (ed_op (ed_var rfl) ed_int rd_ixT1) ea_nil) ⟨.is path, hp, rfl, rfl⟩)) ea_nil)) ?_
    rw [List.append_nil, List.length_cons, List.length_map]
    exact Nat.le_trans (show _ ≤ 2000 by have := (th_ok hp).2; omega) (by decide)
  have inC : ∀ (kind : Str) (rs : List D) (κ1 κ2 : Sl), ET (tTest (tOp (rIn K false) (tOp (rIxT K) (tVar 0) (tC (.int 0))) (tC (.ref a_CLAIM_STEPS)))) [.d (.t (.s kind :: rs)), κ1, κ2] (decide (kind ∈ (["claim", "undo"] : List Str))) := fun kind rs κ1 κ2 => et_eq (et_test (ed_inK t_CS (ed_op (ed_var rfl) ed_int rd_ixT0) rfl rfl)) (inV_strs (xs := ["claim", "undo"]))
  have B1 : ∀ {n : Nat}, n ≤ 100000 → n ≤ sizeLine := fun h => Nat.le_trans h (by decide)
  have B2 : ∀ {n : Nat}, n ≤ 100000 → n < sizeLine := fun h => Nat.lt_of_le_of_lt h (by decide)
  cases s with
  | cl kind path k =>
    obtain ⟨hk, hp, hn⟩ := ok
    have p := th_ok hp
    refine sq_setO (head kind path _ hp) ?_
    refine sq_if (inC kind _ _ _) (fun _ => ?_) (fun h => ?_)
    · refine sq_ret (ed_join (K := K) (ys := (kind :: thW (.is path)) ++ [nW k]) ed_str (ED.toX (EL.toD (?_ : EL _ _ ((((kind :: thW (.is path)) ++ [nW k])).map D.s)))) (fits so.1 (Nat.le_trans so.2.1 (by decide)))) rfl
      rw [List.map_append]
      refine el_lst (ea_starO rfl (ea_cons (ed_strN (ed_op (ed_var rfl) ed_int rd_ixT2) (by omega)) ea_nil)) (B1 ?_)
      rw [← List.map_append, List.length_map]
      exact Nat.le_trans so.2.1 (by decide)
    · have := of_decide_eq_false h
      rcases hk with rfl | rfl
      · exact absurd (by decide) this
      · exact absurd (by decide) this
  | go path rule given =>
    have hp := ok.1
    have p := th_ok hp
    have q := ths_ok ok.2.2.2
    have gl := given_len ok
    refine sq_setO (head "go" path _ hp) ?_
    refine sq_if (b := false) (et_eq (inC "go" _ _ _) (by decide)) (fun h => by cases h) (fun _ => ?_)
    refine sq_app rfl (ed_op (ed_var rfl) ed_int rd_ixT2) (B2 (by rw [List.length_map, List.length_cons]; have := p.2; omega)) ?_
    refine sd_seq (fun e => ∃ κ, e = [.d (stpD (.go path rule given)), .o (.l (((("go" : Str) :: thW (.is path)) ++ (rule :: thsW given)).map D.s)), κ]) ?_ ?_
    · refine sd_for (ds := given.map thD) (src_tup (ed_op (ed_var rfl) ed_int (rd_ixT (atI_nat (j := 3) rfl)))) (fun i e => ∃ κ, e = [.d (stpD (.go path rule given)), .o (.l (((("go" : Str) :: thW (.is path)) ++ (rule :: thsW (given.take i))).map D.s)), κ]) ⟨_, by rw [List.map_append (l₂ := rule :: _)]; rfl⟩ (fun i d e hdi he => ?_) (fun e he => ?_)
      · obtain ⟨κ, rfl⟩ := he
        rw [List.getElem?_map] at hdi
        cases qg : given[i]? with
        | none => rw [qg] at hdi; cases hdi
        | some g =>
          rw [qg] at hdi
          cases hdi
          have gm := List.mem_of_getElem? qg
          have g1 := th_ok (ok.2.2.2 g gm)
          have q2 := ths_ok (l := given.take i) fun g m => ok.2.2.2 g (List.mem_of_mem_take m)
          have l2 : (given.take i).length ≤ 3 := by rw [List.length_take]; omega
          refine ⟨_, gd_name, ?_⟩
          refine sd_ext rfl (EL.toD (el_call (ea_cons (ed_var rfl) ea_nil) ⟨g, ok.2.2.2 g gm, rfl, rfl⟩)) (B1 ?_) ⟨.d (thD g), ?_⟩
          · rw [List.length_map, List.length_map, List.length_append, List.length_cons, List.length_cons]
            have := p.2
            have := q2.2
            have := g1.2
            omega
          · have tk : thsW (given.take (i + 1)) = thsW (given.take i) ++ thW g := by
              unfold thsW
              rw [List.take_succ, qg, List.map_append, List.flatten_append]
              simp
            rw [tk, ← List.map_append, List.append_assoc]
            rfl
      · obtain ⟨κ, rfl⟩ := he
        rw [List.length_map, List.take_length]
        exact ⟨κ, rfl⟩
    · rintro e ⟨κ, rfl⟩
      refine sq_if (b := false) (et_test (ed_op (ed_op (ed_var rfl) ed_int rd_ixT0) ed_str (rd_eqSb (by decide)))) (fun h => by cases h) (fun _ => ?_)
      exact sd_ret (ed_join (K := K) (ys := (("go" : Str) :: thW (.is path)) ++ (rule :: thsW given)) ed_str (ex_own rfl) (fits so.1 (Nat.le_trans so.2.1 (by decide)))) rfl
  | back path rule given t =>
    obtain ⟨ok, ht⟩ := ok
    have hp := ok.1
    have p := th_ok hp
    have q := ths_ok ok.2.2.2
    have gl := given_len ok
    refine sq_setO (head "back" path _ hp) ?_
    refine sq_if (b := false) (et_eq (inC "back" _ _ _) (by decide)) (fun h => by cases h) (fun _ => ?_)
    refine sq_app rfl (ed_op (ed_var rfl) ed_int rd_ixT2) (B2 (by rw [List.length_map, List.length_cons]; have := p.2; omega)) ?_
    refine sd_seq (fun e => ∃ κ, e = [.d (stpD (.back path rule given t)), .o (.l (((("back" : Str) :: thW (.is path)) ++ (rule :: thsW given)).map D.s)), κ]) ?_ ?_
    · refine sd_for (ds := given.map thD) (src_tup (ed_op (ed_var rfl) ed_int (rd_ixT (atI_nat (j := 3) rfl)))) (fun i e => ∃ κ, e = [.d (stpD (.back path rule given t)), .o (.l (((("back" : Str) :: thW (.is path)) ++ (rule :: thsW (given.take i))).map D.s)), κ]) ⟨_, by rw [List.map_append (l₂ := rule :: _)]; rfl⟩ (fun i d e hdi he => ?_) (fun e he => ?_)
      · obtain ⟨κ, rfl⟩ := he
        rw [List.getElem?_map] at hdi
        cases qg : given[i]? with
        | none => rw [qg] at hdi; cases hdi
        | some g =>
          rw [qg] at hdi
          cases hdi
          have gm := List.mem_of_getElem? qg
          have g1 := th_ok (ok.2.2.2 g gm)
          have q2 := ths_ok (l := given.take i) fun g m => ok.2.2.2 g (List.mem_of_mem_take m)
          have l2 : (given.take i).length ≤ 3 := by rw [List.length_take]; omega
          refine ⟨_, gd_name, ?_⟩
          refine sd_ext rfl (EL.toD (el_call (ea_cons (ed_var rfl) ea_nil) ⟨g, ok.2.2.2 g gm, rfl, rfl⟩)) (B1 ?_) ⟨.d (thD g), ?_⟩
          · rw [List.length_map, List.length_map, List.length_append, List.length_cons, List.length_cons]
            have := p.2
            have := q2.2
            have := g1.2
            omega
          · have tk : thsW (given.take (i + 1)) = thsW (given.take i) ++ thW g := by
              unfold thsW
              rw [List.take_succ, qg, List.map_append, List.flatten_append]
              simp
            rw [tk, ← List.map_append, List.append_assoc]
            rfl
      · obtain ⟨κ, rfl⟩ := he
        rw [List.length_map, List.take_length]
        exact ⟨κ, rfl⟩
    · rintro e ⟨κ, rfl⟩
      have nW0 : wd t ≠ [] := fun z => by
        have := (wd_len t ht.1.1).1
        rw [z] at this
        simp at this
      have so1 : ∀ u ∈ (("back" : Str) :: thW (.is path)) ++ (rule :: thsW given), okWd u := okd_app (okd_cons kind_ok.2.2.2.1 p.1) (okd_cons (rule_ok ok.2.1) q.1)
      have sl1 : ((("back" : Str) :: thW (.is path)) ++ (rule :: thsW given)).length ≤ 5000 := by
        rw [List.length_append, List.length_cons, List.length_cons]
        have := p.2
        have := q.2
        omega
      refine sq_if (b := true) (et_test (ed_op (ed_op (ed_var rfl) ed_int rd_ixT0) ed_str (rd_eqSb (by decide)))) (fun _ => ?_) (fun h => by cases h)
      refine sq_app rfl (ed_call (ea_cons (ed_op (ed_var rfl) ed_int (rd_ixT (atI_nat (j := 4) rfl))) ea_nil) (tm_tt ht)) (B2 (by rw [List.length_map]; omega)) ?_
      have ej : ED (tM1 (rJoin K) (tC (.str " ")) (tVar 1)) [.d (stpD (.back path rule given t)), .o (.l (((("back" : Str) :: thW (.is path)) ++ (rule :: thsW given)).map D.s ++ [D.s (txt (wd t))])), κ] (.s (Txt.join " " (((("back" : Str) :: thW (.is path)) ++ (rule :: thsW given)) ++ [txt (wd t)]))) := ed_join (K := K) ed_str (by rw [List.map_append (l₂ := [txt (wd t)])]; exact ex_own rfl) (by
        have s1 := sum_10 so1
        have tl := txt_ln (wd t)
        have s2 := sum_10 (wd_okd ht)
        have h2 := ht.2
        rw [bl1, List.map_append, List.sum_append, List.length_append]
        show _ + ((txt (wd t)).length + 0) + (_ + 1) * 1 ≤ _
        omega)
      refine sd_ret ej ?_
      show D.s (txt _) = D.s (txt _)
      rw [txt_nest nW0]
      congr 2
      show (("back" : Str) :: thW (.is path)) ++ (rule :: thsW given) ++ wd t = ("back" : Str) :: (thW (.is path) ++ (rule :: (thsW given ++ wd t)))
      simp
end
end Nz
namespace Nz
open PySem L2
inductive Ent where
  | der (t : Tm) (ss : List Stp)
  | ctx (k : Nat) (t : Tm)
  | chain (a b : Nat)
  | rcn (a b : Nat) (t : Tm) (ps : List (Str × Str))
abbrev psD (ps : List (Str × Str)) : D := .t (ps.map fun p => .t [.s p.1, .s p.2])
def entD : Ent → D
  | .der t ss => .t [.s "derived", enc t, .t (ss.map stpD)]
  | .ctx k t => .t [.s "context", .i (k : Int), enc t]
  | .chain a b => .t [.s "chain", .i (a : Int), .i (b : Int)]
  | .rcn a b t ps => .t [.s "recursion", .i (a : Int), .i (b : Int), enc t, psD ps]
def psW (ps : List (Str × Str)) : List Str := (ps.map fun p => [p.1, p.2]).flatten
def headL : Ent → List Str
  | .der t ss => ["derived", nW ss.length]
  | .ctx k t => ["context", nW k]
  | .chain a b => ["chain", nW a, nW b]
  | .rcn a b t ps => ("recursion" : Str) :: nW a :: nW b :: nW ps.length :: psW ps
def entL : Ent → List (List Str)
  | .der t ss => headL (.der t ss) :: wd t :: ss.map stpW
  | .ctx k t => [headL (.ctx k t), wd t]
  | .chain a b => [headL (.chain a b)]
  | .rcn a b t ps => [headL (.rcn a b t ps), wd t]
def psOk (ps : List (Str × Str)) : Prop := ps.length < 1000 ∧ ∀ p ∈ ps, NameOk p.1 ∧ NameOk p.2
def entOk : Ent → Prop
  | .der t ss => tmOk t ∧ ss.length < 1000 ∧ ∀ s ∈ ss, stpOk s
  | .ctx k t => k < 1000 ∧ tmOk t
  | .chain a b => a < 1000 ∧ b < 1000
  | .rcn a b t ps => a < 1000 ∧ b < 1000 ∧ tmOk t ∧ psOk ps
theorem ps_ok : ∀ {ps : List (Str × Str)}, (∀ p ∈ ps, NameOk p.1 ∧ NameOk p.2) → (∀ u ∈ psW ps, okWd u) ∧ (psW ps).length = 2 * ps.length
  | [], _ => ⟨fun u m => (by cases m), rfl⟩
  | p :: r, h => by
    have h1 := h p (List.mem_cons_self ..)
    have h2 := ps_ok (ps := r) fun q m => h q (List.mem_cons_of_mem _ m)
    have e : psW (p :: r) = p.1 :: p.2 :: psW r := rfl
    rw [e]
    refine ⟨okd_cons (okWd_x h1.1) (okd_cons (okWd_x h1.2) h2.1), ?_⟩
    rw [List.length_cons, List.length_cons, List.length_cons, h2.2]
    omega
theorem wd_ne {t : Tm} (h : tmOk t) : wd t ≠ [] := fun z => by
  have := (wd_len t h.1.1).1
  rw [z] at this
  simp at this
theorem tm_wd {t : Tm} (h : tmOk t) : (∀ u ∈ wd t, okWd u) ∧ (wd t).length ≤ 12100 ∧ wd t ≠ [] := ⟨wd_okd h, by have := h.2; omega, wd_ne h⟩
theorem head_ok {e : Ent} (h : entOk e) : (∀ u ∈ headL e, okWd u) ∧ (headL e).length ≤ 12100 ∧ headL e ≠ [] := by
  obtain ⟨_, _, _, _, k5, k6, k7, k8⟩ := kind_ok
  cases e with
  | der t ss => exact ⟨okd_cons k5 (okd_cons (okWd_n h.2.1) okd_nil), (by show 2 ≤ 12100; decide), fun z => by cases z⟩
  | ctx k t => exact ⟨okd_cons k6 (okd_cons (okWd_n h.1) okd_nil), (by show 2 ≤ 12100; decide), fun z => by cases z⟩
  | chain a b => exact ⟨okd_cons k7 (okd_cons (okWd_n h.1) (okd_cons (okWd_n h.2) okd_nil)), (by show 3 ≤ 12100; decide), fun z => by cases z⟩
  | rcn a b t ps =>
    obtain ⟨h1, h2, h3, h4, h5⟩ := h
    have q := ps_ok h5
    refine ⟨okd_cons k8 (okd_cons (okWd_n h1) (okd_cons (okWd_n h2) (okd_cons (okWd_n h4) q.1))), ?_, fun z => by cases z⟩
    show (("recursion" : Str) :: nW a :: nW b :: nW ps.length :: psW ps).length ≤ _
    simp only [List.length_cons]
    have := q.2
    omega
theorem ent_ok {e : Ent} (h : entOk e) : ∀ l ∈ entL e, (∀ u ∈ l, okWd u) ∧ l.length ≤ 12100 ∧ l ≠ [] := by
  have hh := head_ok h
  cases e with
  | der t ss =>
    intro l m
    rcases List.mem_cons.mp m with rfl | m
    · exact hh
    rcases List.mem_cons.mp m with rfl | m
    · exact tm_wd h.1
    obtain ⟨s, ms, rfl⟩ := List.mem_map.mp m
    exact stp_ok (h.2.2 s ms)
  | ctx k t =>
    intro l m
    rcases List.mem_cons.mp m with rfl | m
    · exact hh
    cases List.mem_singleton.mp m
    exact tm_wd h.2
  | chain a b =>
    intro l m
    cases List.mem_singleton.mp m
    exact hh
  | rcn a b t ps =>
    intro l m
    rcases List.mem_cons.mp m with rfl | m
    · exact hh
    cases List.mem_singleton.mp m
    exact tm_wd h.2.2.1
def linesD (ls : List (List Str)) : List D := ls.map fun l => D.s (txt l)
def libL (es : List Ent) : List (List Str) := (es.map entL).flatten
theorem sp_a (a b : Str) (c : Str) (h : c = a ++ (" " : Str)) : c ++ b = txt [a, b] := by
  rw [txt_cons2 a (by simp), txt_one, h]
section
variable {P : Program} {w : World} {K : PySem.W.Frag} {mg : Str → Option Value} {base : Heap}
def R_pw (ds zs : List D) : Prop := ∃ ps, psOk ps ∧ ds = [psD ps] ∧ zs = (nW ps.length :: psW ps).map D.s
theorem k_pairs_words (F : Facts K mg w) : C8.Cal P w K mg base 1 "pairs_words" (spL R_pw) [] := by
  refine F.pairs_words.L sc_pairs_words (by decide) (fun ds d h => ?_) (fun f cdv A outer s H E hr => ⟨_, (pss_one (ps_ret (pe_lst (pa_cons (pe_callTy Nz.c_strA rfl F.b_str Nz.boot_str (pa_cons (pe_callB (Nz.cLen K) rfl F.b_len Nz.boot_len (pa_cons (pv 0) pa_nil)) pa_nil)) (Nz.paStar (K := K) (pe_lc2 (own := [("pair", 1), ("name", 2)]) (vs1 := [2]) (g := (gName 1)) (g1 := (gName 2)) rfl sc_pairs_words.nd (Nz.piT K (pv 0)) (blkOk_by (own := [("pair", 1), ("name", 2)]) (N := n_pairs_words) (sc := defScope s_pairs_words) (by decide +kernel)) (by decide) (fun _ _ _ _ _ => (pg_name (i := 1) sc_pairs_words.nd rfl (Or.inl rfl))) (fun _ _ _ _ _ => pts_nil) (fun _ _ _ _ _ => (Nz.piT K (pv 1))) (fun _ _ _ _ _ => (pg_name (i := 2) sc_pairs_words.nd rfl (Or.inl rfl))) (fun _ _ _ _ _ => pts_nil) (fun _ _ _ _ _ => (pv 2))) pa_nil))))), fun ds d h => ?_⟩)
  · obtain ⟨t, _, rfl, _⟩ := h
    rfl
  obtain ⟨ps, ok, rfl, rfl⟩ := h
  have q := ps_ok ok.2
  have l1 := ok.1
  have e : (nW ps.length :: psW ps).map D.s = D.s (nW ps.length) :: ((psW ps).map D.s ++ []) := by rw [List.append_nil]; rfl
  refine sd_retL (ds := (nW ps.length :: psW ps).map D.s) ?_ rfl
  rw [e]
  refine el_lst (ea_cons (ed_strN (ed_eq (ed_cb (ea_cons (ed_var rfl) ea_nil) rc_lenT) (by rw [List.length_map])) (by omega)) (ea_starL (EL.toD (el_lc2 (vs := [1, 2]) (vs1 := [2]) ps (fun p => .t [.s p.1, .s p.2]) (fun p => [p.1, p.2]) D.s D.s (by show (psW ps).length ≤ _; rw [q.2]; exact Nat.le_trans (show _ ≤ 2000 by omega) (by decide)) rfl (src_tup (ed_var rfl)).c fun p hp => ⟨_, gw_name2 (by decide) rfl, rfl, src_tup (ed_var rfl), fun y hy => ⟨_, gw_name rfl, ed_var rfl⟩⟩)) ea_nil)) ?_
  rw [List.append_nil, List.length_cons, List.length_map, q.2]
  exact Nat.le_trans (show _ ≤ 3000 by omega) (by decide)
def R_el (ds zs : List D) : Prop := ∃ e, entOk e ∧ ds = [entD e] ∧ zs = linesD (entL e)
theorem k_entry_lines (F : Facts K mg w) : C8.Cal P w K mg base 4 "entry_lines" (spL R_el) [] := by
  have c_step_line := k_step_line (P := P) (w := w) (base := base) F
  have c_term_text := k_term_text (P := P) (w := w) (base := base) F
  have c_pairs_words := k_pairs_words (P := P) (w := w) (base := base) F
  refine F.entry_lines.L sc_entry_lines (by decide) (fun ds d h => ?_) (fun f cdv A outer s H E hr => ⟨_, (pss_cons (ps_set (i := 1) sc_entry_lines.nd rfl (Or.inl rfl) (pe_ix (Nz.ixT K) (pv 0) pe_int (fun _ _ => rfl)))
    (pss_cons (ps_if (pt_cmpR op_eq (pv 1) pe_str (nomark _)) (pss_one (ps_ret (pe_lst (pa_cons (pe_joined (.cons pe_str (.cons (pe_fmt (pe_callB (Nz.cLen K) rfl F.b_len Nz.boot_len (pa_cons (pe_ix (Nz.ixT K) (pv 0) pe_int (fun _ _ => rfl)) pa_nil))) .nil))) (pa_cons (C8.pe_c c_term_text hr (by first | decide | omega) rfl (pa_cons (pe_ix (Nz.ixT K) (pv 0) pe_int (fun _ _ => rfl)) pa_nil)) (Nz.paStar (K := K) (pe_lc (own := [("step", 3)]) (g := (gName 3)) rfl sc_entry_lines.nd (Nz.piT K (pe_ix (Nz.ixT K) (pv 0) pe_int (fun _ _ => rfl))) (blkOk_by (own := [("step", 3)]) (N := n_entry_lines) (sc := defScope s_entry_lines) (by decide +kernel)) (fun _ _ _ _ _ => (pg_name (i := 3) sc_entry_lines.nd rfl (Or.inl rfl))) (fun _ _ _ _ _ => pts_nil) (fun _ _ _ _ _ => (C8.pe_c c_step_line hr (by first | decide | omega) rfl (pa_cons (pv 3) pa_nil)))) pa_nil)))))) pss_nil)
    (pss_cons (ps_if (pt_cmpR op_eq (pv 1) pe_str (nomark _)) (pss_one (ps_ret (pe_lst (pa_cons (pe_joined (.cons pe_str (.cons (pe_fmt (pe_ix (Nz.ixT K) (pv 0) pe_int (fun _ _ => rfl))) .nil))) (pa_cons (C8.pe_c c_term_text hr (by first | decide | omega) rfl (pa_cons (pe_ix (Nz.ixT K) (pv 0) pe_int (fun _ _ => rfl)) pa_nil)) pa_nil))))) pss_nil)
    (pss_cons (ps_if (pt_cmpR op_eq (pv 1) pe_str (nomark _)) (pss_one (ps_ret (pe_lst (pa_cons (pe_joined (.cons pe_str (.cons (pe_fmt (pe_ix (Nz.ixT K) (pv 0) pe_int (fun _ _ => rfl))) (.cons pe_str (.cons (pe_fmt (pe_ix (Nz.ixT K) (pv 0) pe_int (fun _ _ => rfl))) .nil))))) pa_nil)))) pss_nil)
    (pss_cons (ps_set (i := 2) sc_entry_lines.nd rfl (Or.inl rfl) (pe_lst (pa_cons pe_str (pa_cons (pe_callTy Nz.c_strA rfl F.b_str Nz.boot_str (pa_cons (pe_ix (Nz.ixT K) (pv 0) pe_int (fun _ _ => rfl)) pa_nil)) (pa_cons (pe_callTy Nz.c_strA rfl F.b_str Nz.boot_str (pa_cons (pe_ix (Nz.ixT K) (pv 0) pe_int (fun _ _ => rfl)) pa_nil)) (Nz.paStar (K := K) (C8.pe_c c_pairs_words hr (by first | decide | omega) rfl (pa_cons (pe_ix (Nz.ixT K) (pv 0) pe_int (fun _ _ => rfl)) pa_nil)) pa_nil))))))
    (pss_one (ps_ret (pe_lst (pa_cons (pe_join pe_str (pv 2)) (pa_cons (C8.pe_c c_term_text hr (by first | decide | omega) rfl (pa_cons (pe_ix (Nz.ixT K) (pv 0) pe_int (fun _ _ => rfl)) pa_nil)) pa_nil)))))))))), fun ds d h => ?_⟩)
  · obtain ⟨e, _, rfl, _⟩ := h
    rfl
  obtain ⟨e, ok, rfl, rfl⟩ := h
  have B1 : ∀ {n : Nat}, n ≤ 100000 → n ≤ sizeLine := fun h => Nat.le_trans h (by decide)
  have se : Str.empty.length = 0 := by decide +kernel
  have ea : ∀ a : Str, Str.empty ++ a = a := fun a => by
    have := SX.S_cat [] a.cps.toList
    have e0 : SX.S [] = Str.empty := rfl
    rw [e0, SX.S_tl] at this
    rw [this, List.nil_append, SX.S_tl]
  have js2 : ∀ (es : Es) (te : TE) (k : Nat) (a c : Str), c = a ++ (" " : Str) → c.length ≤ 20 → k < 1000 → ED te es (.i (k : Int)) → ED (fun σ H Q => tJs [tC (.str c), tFmt te] Str.empty σ H fun out H1 => Q (.str out) H1) es (.s (txt [a, nW k])) := fun es te k a c hc hl hk h => by
    have z := ed_js (es := es) (ts := [tC (.str c), tFmt te]) (xs := [c, nW k]) (.cons ed_str (.cons (ed_fmtN h (by omega)) .nil)) Str.empty (by
      have := nW_len hk
      show _ + (c.length + ((nW k).length + 0)) ≤ _
      rw [se]
      exact B1 (by omega))
    have e2 : ([c, nW k] : List Str).foldl (fun a b => a ++ b) Str.empty = txt [a, nW k] := by
      show (Str.empty ++ c) ++ nW k = _
      rw [ea]
      exact sp_a a (nW k) c hc
    rw [e2] at z
    exact z
  have tt : ∀ {es : Es} {te : TE} {t : Tm}, tmOk t → ED te es (enc t) → ED (tCall (spR R_tt) [] C8.E0 (tCons te tNil)) es (.s (txt (wd t))) := fun ht h => ed_call (ea_cons h ea_nil) (tm_tt ht)
  cases e with
  | der t ss =>
    obtain ⟨ht, hl, hs⟩ := ok
    refine sq_set (ed_op (ed_var rfl) ed_int rd_ixT0) ?_
    refine sq_if (b := true) (et_test (ed_op (ed_var rfl) ed_str (rd_eqSb (by decide)))) (fun _ => ?_) (fun h => by cases h)
    have e1 : linesD (entL (.der t ss)) = D.s (txt ["derived", nW ss.length]) :: D.s (txt (wd t)) :: ((ss.map fun s => D.s (txt (stpW s))) ++ []) := by
      rw [List.append_nil]
      show D.s _ :: D.s _ :: (ss.map stpW).map _ = _
      rw [List.map_map]
      rfl
    refine sq_retL (ds := linesD (entL (.der t ss))) ?_ rfl
    rw [e1]
    refine el_lst (ea_cons (js2 _ _ _ _ _ (by decide +kernel) (by decide +kernel) hl (ed_eq (ed_cb (ea_cons (ed_op (ed_var rfl) ed_int rd_ixT2) ea_nil) rc_lenT) (by rw [List.length_map]))) (ea_cons (tt ht (ed_op (ed_var rfl) ed_int rd_ixT1)) (ea_starL (EL.toD (el_lcM (vs := [3]) ss stpD (fun s => D.s (txt (stpW s))) (small4 (by omega)) rfl (src_tup (ed_op (ed_var rfl) ed_int rd_ixT2)) fun s hm => ⟨_, gw_name rfl, ed_call (ea_cons (ed_var rfl) ea_nil) ⟨s, hs s hm, rfl, rfl⟩⟩)) ea_nil))) ?_
    rw [List.append_nil, List.length_cons, List.length_cons, List.length_map]
    exact B1 (by omega)
  | ctx k t =>
    obtain ⟨hk, ht⟩ := ok
    refine sq_set (ed_op (ed_var rfl) ed_int rd_ixT0) ?_
    refine sq_if (b := false) (et_test (ed_op (ed_var rfl) ed_str (rd_eqSb (by decide)))) (fun h => by cases h) (fun _ => ?_)
    refine sq_if (b := true) (et_test (ed_op (ed_var rfl) ed_str (rd_eqSb (by decide)))) (fun _ => ?_) (fun h => by cases h)
    exact sq_retL (el_lst (ea_cons (js2 _ _ _ "context" _ (by decide +kernel) (by decide +kernel) hk (ed_op (ed_var rfl) ed_int rd_ixT1)) (ea_cons (tt ht (ed_op (ed_var rfl) ed_int rd_ixT2)) ea_nil)) (short_size rfl)) rfl
  | chain a b =>
    obtain ⟨h1, h2⟩ := ok
    refine sq_set (ed_op (ed_var rfl) ed_int rd_ixT0) ?_
    refine sq_if (b := false) (et_test (ed_op (ed_var rfl) ed_str (rd_eqSb (by decide)))) (fun h => by cases h) (fun _ => ?_)
    refine sq_if (b := false) (et_test (ed_op (ed_var rfl) ed_str (rd_eqSb (by decide)))) (fun h => by cases h) (fun _ => ?_)
    refine sq_if (b := true) (et_test (ed_op (ed_var rfl) ed_str (rd_eqSb (by decide)))) (fun _ => ?_) (fun h => by cases h)
    refine sq_retL (ds := linesD (entL (.chain a b))) (el_lst (ea_cons (?_ : ED _ _ (.s (txt ["chain", nW a, nW b]))) ea_nil) (short_size rfl)) rfl
    have z := ed_js (es := [.d (entD (.chain a b)), .d (.s "chain"), .no, .no]) (ts := [tC (.str "chain "), tFmt (tOp (rIxT K) (tVar 0) (tC (.int 1))), tC (.str " "), tFmt (tOp (rIxT K) (tVar 0) (tC (.int 2)))]) (xs := ["chain ", nW a, " ", nW b]) (.cons ed_str (.cons (ed_fmtN (ed_op (ed_var rfl) ed_int rd_ixT1) (by omega)) (.cons ed_str (.cons (ed_fmtN (ed_op (ed_var rfl) ed_int rd_ixT2) (by omega)) .nil)))) Str.empty (by
      have := nW_len h1
      have := nW_len h2
      have e1 : ("chain " : Str).length = 6 := by decide +kernel
      show _ + (("chain " : Str).length + ((nW a).length + ((" " : Str).length + ((nW b).length + 0)))) ≤ _
      rw [se, e1, bl1]
      exact B1 (by omega))
    have e2 : (["chain ", nW a, " ", nW b] : List Str).foldl (fun a b => a ++ b) Str.empty = txt ["chain", nW a, nW b] := by
      show (((Str.empty ++ ("chain " : Str)) ++ nW a) ++ (" " : Str)) ++ nW b = _
      rw [ea, txt_cons2 "chain" (by simp), txt_cons2 (nW a) (by simp), txt_one]
      have e3 : ("chain " : Str) = ("chain" : Str) ++ (" " : Str) := by decide +kernel
      have as : ∀ x y z : Str, (x ++ y) ++ z = x ++ (y ++ z) := fun x y z => by
        rw [← SX.S_tl x, ← SX.S_tl y, ← SX.S_tl z]
        simp only [SX.S_cat, List.append_assoc]
      rw [e3]
      simp only [as]
    rw [e2] at z
    exact z
  | rcn a b t ps =>
    have hh := head_ok ok
    obtain ⟨h1, h2, ht, hp⟩ := ok
    have q := ps_ok hp.2
    have l1 := hp.1
    refine sq_set (ed_op (ed_var rfl) ed_int rd_ixT0) ?_
    refine sq_if (b := false) (et_test (ed_op (ed_var rfl) ed_str (rd_eqSb (by decide)))) (fun h => by cases h) (fun _ => ?_)
    refine sq_if (b := false) (et_test (ed_op (ed_var rfl) ed_str (rd_eqSb (by decide)))) (fun h => by cases h) (fun _ => ?_)
    refine sq_if (b := false) (et_test (ed_op (ed_var rfl) ed_str (rd_eqSb (by decide)))) (fun h => by cases h) (fun _ => ?_)
    refine sq_set (d := .l ((headL (.rcn a b t ps)).map D.s)) (EL.toD (?_ : EL _ _ ((headL (.rcn a b t ps)).map D.s))) ?_
    · have e1 : (headL (.rcn a b t ps)).map D.s = D.s "recursion" :: D.s (nW a) :: D.s (nW b) :: ((nW ps.length :: psW ps).map D.s ++ []) := by
        rw [List.append_nil]
        rfl
      rw [e1]
      refine el_lst (ea_cons ed_str (ea_cons (ed_strN (ed_op (ed_var rfl) ed_int rd_ixT1) (by omega)) (ea_cons (ed_strN (ed_op (ed_var rfl) ed_int rd_ixT2) (by omega)) (ea_starL (EL.toD (el_call (ea_cons (ed_op (ed_var rfl) ed_int (rd_ixT (atI_nat (j := 4) rfl))) ea_nil) ⟨ps, hp, rfl, rfl⟩)) ea_nil)))) ?_
      rw [List.append_nil, List.length_cons, List.length_cons, List.length_cons, List.length_map, List.length_cons, q.2]
      exact B1 (by omega)
    exact sd_retL (el_lst (ea_cons (ed_join (K := K) (ys := headL (.rcn a b t ps)) ed_str (ED.toX (ed_var rfl)) (fits hh.1 (Nat.le_trans hh.2.1 (by decide)))) (ea_cons (tt ht (ed_op (ed_var rfl) ed_int (rd_ixT (atI_nat (j := 3) rfl)))) ea_nil)) (short_size rfl)) rfl
def R_ll (ds zs : List D) : Prop := ∃ es : List Ent, (∀ e ∈ es, entOk e) ∧ (libL es).length ≤ 100000 ∧ ds = [.l (es.map entD)] ∧ zs = linesD (libL es)
theorem k_library_lines (F : Facts K mg w) : C8.Cal P w K mg base 5 "library_lines" (spL R_ll) [] := by
  have c_entry_lines := k_entry_lines (P := P) (w := w) (base := base) F
  refine F.library_lines.L sc_library_lines (by decide) (fun ds d h => ?_) (fun f cdv A outer s H E hr => ⟨_, (pss_one (ps_ret (pe_lc2 (own := [("entry", 1), ("line", 2)]) (vs1 := [2]) (g := (gName 1)) (g1 := (gName 2)) rfl sc_library_lines.nd (Nz.piL K (pv 0)) (blkOk_by (own := [("entry", 1), ("line", 2)]) (N := n_library_lines) (sc := defScope s_library_lines) (by decide +kernel)) (by decide) (fun _ _ _ _ _ => (pg_name (i := 1) sc_library_lines.nd rfl (Or.inl rfl))) (fun _ _ _ _ _ => pts_nil) (fun _ _ _ _ _ => (Nz.piL K (C8.pe_c c_entry_lines hr (by first | decide | omega) rfl (pa_cons (pv 1) pa_nil)))) (fun _ _ _ _ _ => (pg_name (i := 2) sc_library_lines.nd rfl (Or.inl rfl))) (fun _ _ _ _ _ => pts_nil) (fun _ _ _ _ _ => (pv 2))))), fun ds d h => ?_⟩)
  · obtain ⟨es, _, _, rfl, _⟩ := h
    rfl
  obtain ⟨es, ok, hl, rfl, rfl⟩ := h
  exact sd_retL (el_lc2 (vs := [1, 2]) (vs1 := [2]) es entD entL (fun l => D.s (txt l)) (fun l => D.s (txt l)) (Nat.le_trans hl (by decide)) rfl (src_list (ed_var rfl)).c fun e he => ⟨_, gw_name2 (by decide) rfl, rfl, src_list (EL.toD (el_call (ea_cons (ed_var rfl) ea_nil) ⟨e, ok e he, rfl, rfl⟩)), fun y hy => ⟨_, gw_name rfl, ed_var rfl⟩⟩) rfl
end
end Nz
namespace Nz
open PySem L2
theorem ysrc_rng {ι : Type} {M : Fam ι} {i : ι} {es : Es} {tas : TA} {R : Nat → ι → Prop} (h : YDs M i tas es (fun z k => ∃ n : Nat, z = [.i (n : Int)] ∧ R n k)) (hn : ∀ n k, R n k → n ≤ 1000000) : YSrc M i (iRng1 tas) es (fun z k => ∃ n, z = rngD n ∧ R n k) := fun S A B H σ E w Q r => h S A B H σ E w _ fun vs H2 z k ⟨n, e1, r1⟩ g j i => by
  subst e1
  obtain ⟨v, q, rfl, i1, i2⟩ := i
  cases i1; cases i2
  have hn' := hn n k r1
  refine ⟨(n : Int), rfl, by omega, by omega, ?_⟩
  rw [Int.toNat_natCast]
  refine r _ H2 ((List.range n).map fun (k : Nat) => V.int (k : Int)) [] _ k ⟨n, rfl, r1⟩ g j (fun p hp => by cases hp) ⟨fun j H3 g hj => ?_, fun j H3 x H4 g hj y => ?_, fun j H3 g hj => ?_⟩ (isDs_rng _)
  · show j < n
    simpa using hj
  · have hj' : j < n := by simpa using hj
    refine ⟨y.1, ?_⟩
    rw [List.getElem?_map, List.getElem?_range hj', y.2, Int.zero_add]
    rfl
  · show n ≤ j
    simpa using hj
theorem rng_lt {n i : Nat} {d : D} (h : (rngD n)[i]? = some d) : i < n ∧ d = .i (i : Int) := by
  have hi : i < n := by
    have := (List.getElem?_eq_some_iff.mp h).1
    simpa [rngD] using this
  refine ⟨hi, ?_⟩
  unfold rngD at h
  rw [List.getElem?_map, List.getElem?_range hi] at h
  exact (Option.some.inj h).symm
theorem rng_len (n : Nat) : (rngD n).length = n := by simp [rngD]
theorem nW_nu {n : Nat} (h : n < 1000) : isNu (nW n) 3 = true := by
  have h5 := (num_is (n := n) (by omega)).1
  have l3 := nW_len h
  unfold isNr isNu at h5
  unfold isNu nW at *
  rw [Bool.and_eq_true, Bool.and_eq_true, Bool.and_eq_true] at h5
  rw [Bool.and_eq_true, Bool.and_eq_true]
  exact ⟨h5.1.1, decide_eq_true (by omega), h5.1.2.2⟩
theorem nW_val {n : Nat} (h : n < 1000) : PySem.intText? (nW n) = some (n : Int) := num_val (by omega)
theorem drop_cons {α : Type} {xs : List α} {i : Nat} (h : i < xs.length) : xs.drop i = xs[i] :: xs.drop (i + 1) := List.drop_eq_getElem_cons h
theorem take_snoc {α : Type} {xs : List α} {i : Nat} (h : i < xs.length) : xs.take (i + 1) = xs.take i ++ [xs[i]] := by
  rw [List.take_succ, List.getElem?_eq_getElem h]
  rfl
section
variable {P : Program} {w : World} {K : PySem.W.Frag} {mg : Str → Option Value} {base : Heap}
theorem yd_g0 {ι γ : Type} {M : Fam ι} {i : ι} {es : Es} {v : V} {n : Nat} {Pre : γ → ι → List D → Prop} {R : γ → ι → List D → D → ι → Prop} {E0 : XK} (g : γ) (hi : es[n]? = some (.r v)) (hp : Pre g i []) : YD M i (tCall (spG M v Pre R) [] E0 (tCons (tVar n) tNil)) es (fun z j => R g i [] z j) :=
  yd_imp (yd_callG g hi (yds_eds ea_nil) fun xs j ⟨e, ej⟩ => by subst e ej; exact hp) fun d j ⟨xs, j0, ⟨e, ej⟩, r⟩ => by subst e ej; exact r
def preLe (ws : List Str) (g : Nat × Nat) (k : Nat) (ds : List D) : Prop := ds = [.i (g.2 : Int)] ∧ g.2 ≤ g.1 ∧ g.1 < 1000 ∧ Wat ws k [nW g.1]
def relLe (g : Nat × Nat) (k : Nat) (_ : List D) (d : D) (j : Nat) : Prop := d = .i (g.1 : Int) ∧ j = k + 1
theorem k_read_least (F : Facts K mg w) (r l : Addr) (ws : List Str) : C8.Cal P w K mg base 3 "read_least" (spG (rM mg r l ws) (.ref r) (preLe ws) relLe) [] := by
  have m_Reader_ahead := k_ahead (P := P) (w := w) (base := base) F r l ws
  have m_Reader_take := k_take (P := P) (w := w) (base := base) F r l ws
  have c_is_numeral := k_is_numeral (P := P) (w := w) (base := base) F
  refine F.read_least.cal fun f fd hf => fn_ex fun g => fn_Y hf sc_read_least (fun _ ds ⟨e, _⟩ => by subst e; rfl) (fun cdv A outer s H E hr => ⟨_, (pss_cons (ps_set (i := 2) sc_read_least.nd rfl (Or.inl rfl) (C8.pe_mt0 m_Reader_ahead hr (by first | decide | omega) (pv 0)))
    (pss_one (ps_ret (pe_callTy Nz.c_intS rfl F.b_int Nz.boot_int (pa_cons (C8.pe_mt m_Reader_take hr (by first | decide | omega) (pv 0) (pa_cons (pe_and (C8.pe_c c_is_numeral hr (by first | decide | omega) rfl (pa_cons (pv 2) (pa_cons (Nz.pe_gE (v := V.int 3) rfl F.g_LONGEST_NUMBER_lines) pa_nil))) (pe_one (pe_cmpR op_ge (pe_callTy Nz.c_intS rfl F.b_int Nz.boot_int (pa_cons (pv 2) pa_nil)) (pv 1) (nomark _)))) pa_nil)) pa_nil))))), fun k ds hP => ?_⟩)
  obtain ⟨n, m⟩ := g
  obtain ⟨rfl, hm, hn, hw⟩ := hP
  have hm : m ≤ n := hm
  have hn : n < 1000 := hn
  refine syq_setY (yd_ahead rfl hw.le) fun d j ⟨e, ej⟩ => ?_
  subst e ej
  have eg : gw ws j = nW n := hw.gw
  rw [eg]
  have l3 := nW_len hn
  refine sy_retY (yd_cb (Rz := fun z i => z = .i (n : Int) ∧ i = j + 1) (ys_one (yd_take rfl hw.lt (yds_eds (ea_cons (ed_andV (a := true) (b := true) (ed_eq (ed_call (ea_cons (ed_var rfl) (ea_cons ed_int ea_nil)) ⟨nW n, 3, rfl, by omega, rfl⟩) (by rw [nW_nu hn])) fun _ => ed_op (ed_intS (ed_var rfl) (nW_val hn) (by omega)) (ed_var rfl) (rd_bool (by rw [decide_eq_true (show (n : Int) ≥ (m : Int) by omega)]))) ea_nil)))) fun xs i ⟨d, e, e2, ei⟩ => ?_) fun d i h => h
  subst e e2 ei
  rw [eg]
  exact ⟨_, rc_intS (nW_val hn) (by omega), rfl, rfl⟩
def preNu (ws : List Str) (n : Nat) (k : Nat) (ds : List D) : Prop := ds = [] ∧ n < 1000 ∧ Wat ws k [nW n]
def relNu (n : Nat) (k : Nat) (_ : List D) (d : D) (j : Nat) : Prop := d = .i (n : Int) ∧ j = k + 1
theorem fk_read_number (F : Facts K mg w) (r l : Addr) (ws : List Str) (f : Addr) (fd : FuncData) (hf : L2.Fun K "read_number" "read_number" s_read_number f fd) : FnOk P w K mg base CX0 4 f fd ["reader"] (spG (rM mg r l ws) (.ref r) (preNu ws) relNu) := fn_ex fun n => by
  have c_read_least := k_read_least (P := P) (w := w) (base := base) F r l ws
  refine fn_Y hf sc_read_number (fun _ ds ⟨e, _⟩ => by subst e; rfl) (fun cdv A outer s H E hr => ⟨_, (pss_one (ps_ret (C8.pe_c c_read_least hr (by first | decide | omega) rfl (pa_cons (pv 0) (pa_cons pe_int pa_nil))))), fun k ds hP => ?_⟩)
  obtain ⟨rfl, hn, hw⟩ := hP
  exact sy_retY (yd_callG (n, 0) rfl (yds_eds (ea_cons ed_int ea_nil)) fun xs j ⟨e, ej⟩ => by subst e ej; exact ⟨rfl, Nat.zero_le _, hn, hw⟩) fun d j ⟨xs, j0, ⟨_, ej⟩, e⟩ => by subst ej; exact e
theorem k_read_number (F : Facts K mg w) (r l : Addr) (ws : List Str) : C8.Cal P w K mg base 4 "read_number" (spG (rM mg r l ws) (.ref r) (preNu ws) relNu) [] := F.read_number.cal fun f fd hf => fk_read_number F r l ws f fd hf
theorem yd_num {r l : Addr} {ws us : List Str} {n : Nat} {k i : Nat} {es : Es} {E0 : XK} (hi : es[i]? = some (.r (.ref r))) (hn : n < 1000) (hw : Wat ws k (nW n :: us)) : YD (rM mg r l ws) k (tCall (spG (rM mg r l ws) (.ref r) (preNu ws) relNu) [] E0 (tCons (tVar i) tNil)) es (fun z j => z = .i (n : Int) ∧ j = k + 1) :=
  yd_g0 n hi ⟨rfl, hn, Wat.left (us := [nW n]) hw⟩
def preNs2 (ws : List Str) (ks : List Nat) (k : Nat) (ds : List D) : Prop := ds = [] ∧ thOk (.is ks) ∧ Wat ws k (thW (.is ks))
def relNs2 (ks : List Nat) (k : Nat) (_ : List D) (d : D) (j : Nat) : Prop := d = .t (natsD ks) ∧ j = k + (thW (.is ks)).length
theorem fk_read_numbers (F : Facts K mg w) (r l : Addr) (ws : List Str) (f : Addr) (fd : FuncData) (hf : L2.Fun K "read_numbers" "read_numbers" s_read_numbers f fd) : FnOk P w K mg base CX0 5 f fd ["reader"] (spG (rM mg r l ws) (.ref r) (preNs2 ws) relNs2) := fn_ex fun ks => by
  have c_read_number := k_read_number (P := P) (w := w) (base := base) F r l ws
  refine fn_Y hf sc_read_numbers (fun _ ds ⟨e, _⟩ => by subst e; rfl) (fun cdv A outer s H E hr => ⟨_, (pss_cons (ps_set (i := 1) sc_read_numbers.nd rfl (Or.inl rfl) (pe_lst pa_nil))
    (pss_cons (ps_for PassesOwn.never rfl (pi_range1 rfl F.b_range (pa_cons (C8.pe_c c_read_number hr (by first | decide | omega) rfl (pa_cons (pv 0) pa_nil)) pa_nil)) (pg_name (i := 2) sc_read_numbers.nd rfl (Or.inl rfl)) (pss_one (ps_expr (pe_bm PySem.F.plainAttrs_list PySem.F.slot_list_append PySem.F.type_list_append mt_append (pv 1) (pa_cons (C8.pe_c c_read_number hr (by first | decide | omega) rfl (pa_cons (pv 0) pa_nil)) pa_nil)))))
    (pss_one (ps_ret (pe_callTy (Nz.cTup K) rfl F.b_tuple Nz.boot_tuple (pa_cons (pv 1) pa_nil)))))), fun k ds hP => ?_⟩)
  obtain ⟨rfl, ⟨hl, hk⟩, hw⟩ := hP
  have hw : Wat ws k (nW ks.length :: ks.map nW) := hw
  refine syq_setO (el_lst ea_nil (Nat.zero_le _)) ?_
  refine sy_seq (fun e i => ∃ κ, e = [.r (.ref r), .o (.l (natsD ks)), κ] ∧ i = k + (thW (.is ks)).length) ?_ ?_
  · refine sy_forY (ysrc_rng (R := fun n i => n = ks.length ∧ i = k + 1) (yds_imp (ys_one (yd_num rfl hl hw)) fun z i ⟨d, e, e2, ei⟩ => ⟨ks.length, by rw [e, e2], rfl, ei⟩) fun n k h => by have := h.1; omega) (fun ds i e i' => ds = rngD ks.length ∧ ∃ κ, e = [.r (.ref r), .o (.l (natsD (ks.take i))), κ] ∧ Wat ws i' ((ks.drop i).map nW) ∧ i' = k + 1 + i)
      (fun ds i' ⟨n, e, en, ei⟩ => ⟨by rw [e, en], .no, rfl, by rw [ei, List.drop_zero]; exact hw.next, by omega⟩) (fun ds i d e i' hd he => ?_) (fun ds e i' he => ?_)
    · obtain ⟨eds, κ, rfl, hw2, hj⟩ := he
      subst eds
      obtain ⟨hi, rfl⟩ := rng_lt hd
      rw [drop_cons hi, List.map_cons] at hw2
      refine ⟨_, gd_name, ?_⟩
      refine sy_appY rfl (yd_num rfl (hk _ (List.getElem_mem hi)) hw2) (by unfold natsD; rw [List.length_map, List.length_take]; exact Nat.lt_of_le_of_lt (show _ ≤ 1000 by omega) (by decide)) fun d' i'' ⟨e, ei⟩ => ?_
      subst e ei
      refine ⟨rfl, .d (.i (i : Int)), ?_, hw2.next, by omega⟩
      rw [take_snoc hi]
      unfold natsD
      rw [List.map_append]
      rfl
    · obtain ⟨eds, κ, rfl, hw2, hj⟩ := he
      subst eds
      rw [rng_len] at hj
      rw [rng_len, List.take_length]
      refine ⟨κ, rfl, ?_⟩
      show _ = k + (nW ks.length :: ks.map nW).length
      rw [List.length_cons, List.length_map]
      omega
  · rintro e i ⟨κ, rfl, ei⟩
    exact sy_ret (ed_tupo rfl) ⟨rfl, ei⟩
theorem k_read_numbers (F : Facts K mg w) (r l : Addr) (ws : List Str) : C8.Cal P w K mg base 5 "read_numbers" (spG (rM mg r l ws) (.ref r) (preNs2 ws) relNs2) [] := F.read_numbers.cal fun f fd hf => fk_read_numbers F r l ws f fd hf
def preNa (ws : List Str) (x : Str) (k : Nat) (ds : List D) : Prop := ds = [] ∧ NameOk x ∧ Wat ws k [x]
def relNa (x : Str) (k : Nat) (_ : List D) (d : D) (j : Nat) : Prop := d = .s x ∧ j = k + 1
theorem fk_read_name (F : Facts K mg w) (r l : Addr) (ws : List Str) (f : Addr) (fd : FuncData) (hf : L2.Fun K "read_name" "read_name" s_read_name f fd) : FnOk P w K mg base CX0 4 f fd ["reader"] (spG (rM mg r l ws) (.ref r) (preNa ws) relNa) := fn_ex fun x => by
  have m_Reader_take_name := k_take_name (P := P) (w := w) (base := base) F r l ws
  refine fn_Y hf sc_read_name (fun _ ds ⟨e, _⟩ => by subst e; rfl) (fun cdv A outer s H E hr => ⟨_, (pss_one (ps_ret (C8.pe_mt m_Reader_take_name hr (by first | decide | omega) (pv 0) (pa_cons (pe_tup pa_nil) pa_nil)))), fun k ds hP => ?_⟩)
  obtain ⟨rfl, hn, hw⟩ := hP
  exact sy_retY (yd_tname [] rfl hw hn (ed_tup ea_nil (Nat.zero_le _)) (.inl rfl) List.not_mem_nil) fun d j h => h
theorem k_read_name (F : Facts K mg w) (r l : Addr) (ws : List Str) : C8.Cal P w K mg base 4 "read_name" (spG (rM mg r l ws) (.ref r) (preNa ws) relNa) [] := F.read_name.cal fun f fd hf => fk_read_name F r l ws f fd hf
theorem yd_nam {r l : Addr} {ws us : List Str} {x : Str} {k i : Nat} {es : Es} {E0 : XK} (hi : es[i]? = some (.r (.ref r))) (hn : NameOk x) (hw : Wat ws k (x :: us)) : YD (rM mg r l ws) k (tCall (spG (rM mg r l ws) (.ref r) (preNa ws) relNa) [] E0 (tCons (tVar i) tNil)) es (fun z j => z = .s x ∧ j = k + 1) :=
  yd_g0 x hi ⟨rfl, hn, Wat.left (us := [x]) hw⟩
def preXs (ws : List Str) (ns : List Str) (k : Nat) (ds : List D) : Prop := ds = [] ∧ thOk (.xs ns) ∧ Wat ws k (thW (.xs ns))
def relXs (ns : List Str) (k : Nat) (_ : List D) (d : D) (j : Nat) : Prop := d = tS ns ∧ j = k + (thW (.xs ns)).length
theorem fk_read_some_names (F : Facts K mg w) (r l : Addr) (ws : List Str) (f : Addr) (fd : FuncData) (hf : L2.Fun K "read_some_names" "read_some_names" s_read_some_names f fd) : FnOk P w K mg base CX0 5 f fd ["reader"] (spG (rM mg r l ws) (.ref r) (preXs ws) relXs) := fn_ex fun ns => by
  have c_read_least := k_read_least (P := P) (w := w) (base := base) F r l ws
  have c_read_name := k_read_name (P := P) (w := w) (base := base) F r l ws
  refine fn_Y hf sc_read_some_names (fun _ ds ⟨e, _⟩ => by subst e; rfl) (fun cdv A outer s H E hr => ⟨_, (pss_cons (ps_set (i := 1) sc_read_some_names.nd rfl (Or.inl rfl) (pe_lst pa_nil))
    (pss_cons (ps_for PassesOwn.never rfl (pi_range1 rfl F.b_range (pa_cons (C8.pe_c c_read_least hr (by first | decide | omega) rfl (pa_cons (pv 0) (pa_cons pe_int pa_nil))) pa_nil)) (pg_name (i := 2) sc_read_some_names.nd rfl (Or.inl rfl)) (pss_one (ps_expr (pe_bm PySem.F.plainAttrs_list PySem.F.slot_list_append PySem.F.type_list_append mt_append (pv 1) (pa_cons (C8.pe_c c_read_name hr (by first | decide | omega) rfl (pa_cons (pv 0) pa_nil)) pa_nil)))))
    (pss_one (ps_ret (pe_callTy (Nz.cTup K) rfl F.b_tuple Nz.boot_tuple (pa_cons (pv 1) pa_nil)))))), fun k ds hP => ?_⟩)
  obtain ⟨rfl, ⟨h1, hl, hk⟩, hw⟩ := hP
  have hw : Wat ws k (nW ns.length :: ns) := hw
  refine syq_setO (el_lst ea_nil (Nat.zero_le _)) ?_
  refine sy_seq (fun e i => ∃ κ, e = [.r (.ref r), .o (.l (ns.map D.s)), κ] ∧ i = k + (thW (.xs ns)).length) ?_ ?_
  · refine sy_forY (ysrc_rng (R := fun n i => n = ns.length ∧ i = k + 1) (yds_imp (ys_one (yd_callG (ns.length, 1) rfl (yds_eds (ea_cons ed_int ea_nil)) fun xs j ⟨e, ej⟩ => by subst e ej; exact ⟨rfl, h1, hl, Wat.left (us := [nW ns.length]) hw⟩)) fun z i ⟨d, e, xs, j0, ⟨_, ej⟩, e2, ei⟩ => ⟨ns.length, by rw [e, e2], rfl, by subst ej; exact ei⟩) fun n k h => by have := h.1; omega) (fun ds i e i' => ds = rngD ns.length ∧ ∃ κ, e = [.r (.ref r), .o (.l ((ns.take i).map D.s)), κ] ∧ Wat ws i' (ns.drop i) ∧ i' = k + 1 + i)
      (fun ds i' ⟨n, e, en, ei⟩ => ⟨by rw [e, en], .no, rfl, by rw [ei, List.drop_zero]; exact hw.next, by omega⟩) (fun ds i d e i' hd he => ?_) (fun ds e i' he => ?_)
    · obtain ⟨eds, κ, rfl, hw2, hj⟩ := he
      subst eds
      obtain ⟨hi, rfl⟩ := rng_lt hd
      rw [drop_cons hi] at hw2
      refine ⟨_, gd_name, ?_⟩
      refine sy_appY rfl (yd_nam rfl (hk _ (List.getElem_mem hi)) hw2) (by rw [List.length_map, List.length_take]; exact Nat.lt_of_le_of_lt (show _ ≤ 1000 by omega) (by decide)) fun d' i'' ⟨e, ei⟩ => ?_
      subst e ei
      refine ⟨rfl, .d (.i (i : Int)), ?_, hw2.next, by omega⟩
      rw [take_snoc hi, List.map_append]
      rfl
    · obtain ⟨eds, κ, rfl, hw2, hj⟩ := he
      subst eds
      rw [rng_len] at hj
      rw [rng_len, List.take_length]
      refine ⟨κ, rfl, ?_⟩
      show _ = k + (nW ns.length :: ns).length
      rw [List.length_cons]
      omega
  · rintro e i ⟨κ, rfl, ei⟩
    exact sy_ret (ed_tupo rfl) ⟨rfl, ei⟩
theorem k_read_some_names (F : Facts K mg w) (r l : Addr) (ws : List Str) : C8.Cal P w K mg base 5 "read_some_names" (spG (rM mg r l ws) (.ref r) (preXs ws) relXs) [] := F.read_some_names.cal fun f fd hf => fk_read_some_names F r l ws f fd hf
def prePs (ws : List Str) (ps : List (Str × Str)) (k : Nat) (ds : List D) : Prop := ds = [] ∧ psOk ps ∧ Wat ws k (nW ps.length :: psW ps)
def relPs (ps : List (Str × Str)) (k : Nat) (_ : List D) (d : D) (j : Nat) : Prop := d = psD ps ∧ j = k + (nW ps.length :: psW ps).length
theorem fk_read_pairs (F : Facts K mg w) (r l : Addr) (ws : List Str) (f : Addr) (fd : FuncData) (hf : L2.Fun K "read_pairs" "read_pairs" s_read_pairs f fd) : FnOk P w K mg base CX0 5 f fd ["reader"] (spG (rM mg r l ws) (.ref r) (prePs ws) relPs) := fn_ex fun ps => by
  have c_read_number := k_read_number (P := P) (w := w) (base := base) F r l ws
  have c_read_name := k_read_name (P := P) (w := w) (base := base) F r l ws
  refine fn_Y hf sc_read_pairs (fun _ ds ⟨e, _⟩ => by subst e; rfl) (fun cdv A outer s H E hr => ⟨_, (pss_cons (ps_set (i := 1) sc_read_pairs.nd rfl (Or.inl rfl) (pe_lst pa_nil))
    (pss_cons (ps_for PassesOwn.never rfl (pi_range1 rfl F.b_range (pa_cons (C8.pe_c c_read_number hr (by first | decide | omega) rfl (pa_cons (pv 0) pa_nil)) pa_nil)) (pg_name (i := 2) sc_read_pairs.nd rfl (Or.inl rfl)) (pss_cons (ps_set (i := 3) sc_read_pairs.nd rfl (Or.inl rfl) (C8.pe_c c_read_name hr (by first | decide | omega) rfl (pa_cons (pv 0) pa_nil)))
    (pss_one (ps_expr (pe_bm PySem.F.plainAttrs_list PySem.F.slot_list_append PySem.F.type_list_append mt_append (pv 1) (pa_cons (pe_tup (pa_cons (pv 3) (pa_cons (C8.pe_c c_read_name hr (by first | decide | omega) rfl (pa_cons (pv 0) pa_nil)) pa_nil))) pa_nil))))))
    (pss_one (ps_ret (pe_callTy (Nz.cTup K) rfl F.b_tuple Nz.boot_tuple (pa_cons (pv 1) pa_nil)))))), fun k ds hP => ?_⟩)
  obtain ⟨rfl, ⟨hl, hk⟩, hw⟩ := hP
  refine syq_setO (el_lst ea_nil (Nat.zero_le _)) ?_
  refine sy_seq (fun e i => ∃ κ κ', e = [.r (.ref r), .o (.l (ps.map fun p => .t [.s p.1, .s p.2])), κ, κ'] ∧ i = k + (nW ps.length :: psW ps).length) ?_ ?_
  · refine sy_forY (ysrc_rng (R := fun n i => n = ps.length ∧ i = k + 1) (yds_imp (ys_one (yd_num rfl hl hw)) fun z i ⟨d, e, e2, ei⟩ => ⟨ps.length, by rw [e, e2], rfl, ei⟩) fun n k h => by have := h.1; omega) (fun ds i e i' => ds = rngD ps.length ∧ ∃ κ κ', e = [.r (.ref r), .o (.l ((ps.take i).map fun p => .t [.s p.1, .s p.2])), κ, κ'] ∧ Wat ws i' (psW (ps.drop i)) ∧ i' = k + 1 + 2 * i)
      (fun ds i' ⟨n, e, en, ei⟩ => ⟨by rw [e, en], .no, .no, rfl, by rw [ei, List.drop_zero]; exact hw.next, by omega⟩) (fun ds i d e i' hd he => ?_) (fun ds e i' he => ?_)
    · obtain ⟨eds, κ, κ', rfl, hw2, hj⟩ := he
      subst eds
      obtain ⟨hi, rfl⟩ := rng_lt hd
      rw [drop_cons hi] at hw2
      have hw2 : Wat ws i' (ps[i].1 :: ps[i].2 :: psW (ps.drop (i + 1))) := hw2
      have hn := hk _ (List.getElem_mem hi)
      refine ⟨_, gd_name, ?_⟩
      refine syq_setY (yd_nam rfl hn.1 hw2) fun d' i'' ⟨e, ei⟩ => ?_
      subst e ei
      refine sy_appY (R := fun z j => z = .t [.s ps[i].1, .s ps[i].2] ∧ j = i' + 1 + 1) rfl (yd_imp (yd_tup (ys_ced (ed_var rfl) (ys_one (yd_nam rfl hn.2 hw2.next))) fun ds j ⟨ds', e, d, e2, _⟩ => by rw [e, e2]; exact small4 (Nat.le_of_ble_eq_true rfl)) fun z j ⟨ds, e, ds', e1, d, e2, e3, ej⟩ => ⟨by rw [e, e1, e2, e3], ej⟩) (by rw [List.length_map, List.length_take]; exact Nat.lt_of_le_of_lt (show _ ≤ 1000 by omega) (by decide)) fun d' i'' ⟨e, ei⟩ => ?_
      subst e ei
      refine ⟨rfl, .d (.i (i : Int)), .d (.s ps[i].1), ?_, hw2.next.next, by omega⟩
      rw [take_snoc hi, List.map_append]
      rfl
    · obtain ⟨eds, κ, κ', rfl, hw2, hj⟩ := he
      subst eds
      rw [rng_len] at hj
      rw [rng_len, List.take_length]
      refine ⟨κ, κ', rfl, ?_⟩
      rw [List.length_cons, (ps_ok hk).2]
      omega
  · rintro e i ⟨κ, κ', rfl, ei⟩
    exact sy_ret (ed_tupo rfl) ⟨rfl, ei⟩
theorem k_read_pairs (F : Facts K mg w) (r l : Addr) (ws : List Str) : C8.Cal P w K mg base 5 "read_pairs" (spG (rM mg r l ws) (.ref r) (prePs ws) relPs) [] := F.read_pairs.cal fun f fd hf => fk_read_pairs F r l ws f fd hf
end
end Nz
namespace Nz
open PySem L2
def tKGet2 (K : PySem.W.Frag) (d : Addr) (tx ty : TE) : TE := fun σ H Q => tx σ H fun x H1 => ty σ H1 fun y H2 => ∃ (z : Str) (r : Option Value), x = .str z ∧ PySem.W.nsIn K d z = some r ∧ (∀ u, r = some u → ∃ v0 : V, RelV v0 u ∧ Q v0 H2) ∧ (r = none → Q y H2)
theorem pe_kget2 {X : Cx} {d : Addr} {es : Array DictEntry} {n : Nat} {o e f : Expr} {tx ty : TE} {ap cp : Pos} (D : KDict X.K X.w d es n) (ho : PE X o (tC (.ref d))) (he : PE X e tx) (hf : PE X f ty) (m : M2 X o "get" ap e f cp) : PE X (.Call (.Attribute o "get" ap) [e, f] [] cp) (tKGet2 X.K d tx ty) := .mk fun pins s σ H Q I h => by
  refine wpAny_Call_method m.base m.few m.line PySem.F.plainAttrs_dict
    PySem.F.slot_dict_get PySem.F.type_dict_get (thn (ho.run pins s σ H (fun v H' => v = .ref d ∧ H' = H) I ⟨rfl, rfl⟩) fun u s1 ⟨x, H1, I1, rx, ex, eH⟩ => ?_)
  subst ex eH
  have eu : u = Value.ref d := rx
  subst eu
  have mo := PySem.W.mapOf_K (prog := X.prog) (w := X.w) I1.kIn D.at_ D.lit
  refine ⟨mo.typeIs, fun b q => ?_, ?_⟩
  · cases q
    exact ⟨_, I1.kIn _ _ D.at_, rfl⟩
  rw [m.trees]
  refine Calls.callWith_builtin rfl
    (Calls.evalArgs_plain (Calls.spliced_cons (thn (he.run pins s1 σ H1 _ I1 h) fun iv s2 ⟨y, H2, I2, ry, q2⟩ =>
      Calls.spliced_cons (thn (hf.run pins s2 σ H2 _ I2 q2) fun fv s3 ⟨z, H3, I3, rz, zs, r, e1, e2, q3, q4⟩ => Calls.spliced_nil ?_))))
  subst e1
  obtain ⟨t, rfl⟩ := ry
  have m3 := PySem.W.mapOf_K (prog := X.prog) (w := X.w) I3.kIn D.at_ D.lit
  refine call_meetsIn PySem.F.slot_dict_get m3.typeIs PySem.F.entry_dict_get (PySem.F.args_dict_get_3 _ _ _)
    (meets_dict_get_default (knd := strKind X.prog X.w) d (PySem.strKind_is X.prog X.w zs t) D.low fv) ⟨_, m3, ?_⟩
  rw [PySem.W.find_K D.at_ e2]
  cases r with
  | none => exact ⟨z, H3, I3.tok _, rz, q4 rfl⟩
  | some u =>
    obtain ⟨v0, r0, q0⟩ := q3 u rfl
    exact ⟨v0, H3, I3.tok _, r0, q0⟩
theorem syq_setK {ι : Type} {M : Fam ι} {i : ι} {es : Es} {te : TE} {u : TS} {P : Pq ι} {n : Nat} {v : V} (h : ∀ (S : Addr → Prop) (A : Nat → Addr) (B H : Hp) (σ : St), En S A B H σ es → ∀ Q : VK, Q v H → te σ H Q) (k : SY M i u (es.set n (.r v)) P) : SY M i (tSeq (tAsg te (gName n)) u) es P := fun S A B H σ E w F q =>
  h S A B H σ E _ (k S A B H _ E.setR w F q)
theorem src_KR {K : PySem.W.Frag} {a : Addr} {xs : List Str} {es : Es} {n : Nat} (h : KTup K a (xs.map V.str)) (hi : es[n]? = some (.r (.ref a))) : Src (iTup K (tVar n)) es (xs.map D.s) := fun S A B H σ E R r => ⟨.ref a, E.raw n _ hi, src_K h S A B H σ E R r⟩
theorem yd_callAG {ι γ : Type} {M : Fam ι} {i : ι} {es : Es} {tas : TA} {v : V} {n m : Nat} {f : Addr} {sp : Sp} {S0 : Addr → Option Sp} {Pre : γ → ι → List D → Prop} {R : γ → ι → List D → D → ι → Prop} {Ra : List D → ι → Prop} (g : γ) (hS : S0 f = some sp) (hs : ∀ vs H Q E, spY M v (Pre g) (R g) vs H Q E → sp vs H Q E) (hf : es[m]? = some (.r (.ref f))) (hi : es[n]? = some (.r v)) (h : YDs M i tas es Ra) (hp : ∀ xs j, Ra xs j → Pre g j xs) : YD M i (tCallA m S0 (tCons (tVar n) tas)) es (fun z k => ∃ xs j, Ra xs j ∧ R g j xs z k) := fun S A B H σ E w Q q => by
  refine ⟨f, sp, E.raw m _ hf, hS, v, E.raw n v hi, h S A B H σ E w _ fun vs H2 xs j r g1 q1 k => ?_⟩
  have E2 := w.en2 E g1 q1
  refine hs _ _ _ _ ⟨_, xs, vs, j, rfl, E2.dmx, fun a s => .inl (w.vol a s).1, q1, (w.at2 q1).k2 E2, k, hp xs j r, fun d m w' H3 r3 g3 j3 k3 => ?_⟩
  exact q w' H3 d m ⟨xs, j, r, r3⟩ (g1.trans g3) j3 k3
theorem fn_or {P : Program} {w : World} {K : PySem.W.Frag} {mg : Str → Option Value} {base : Heap} {f : Addr} {fd : FuncData} {ps : List Str} {k : Nat} {sp1 sp2 : Sp} (h1 : FnOk P w K mg base CX0 k f fd ps sp1) (h2 : FnOk P w K mg base CX0 k f fd ps sp2) : FnOk P w K mg base CX0 k f fd ps (fun vs H Q E => sp1 vs H Q E ∨ sp2 vs H Q E) :=
  ⟨fun vs H Q E q => q.elim (h1.len vs H Q E) (h2.len vs H Q E), fun A outer s H args us vs Q E a b c d q => q.elim (h1.run A outer s H args us vs Q E a b c d) (h2.run A outer s H args us vs Q E a b c d)⟩
/-- a def with an object and a written value *)-/
theorem fn_YR {ι : Type} {M : Fam ι} {P : Program} {w : World} {K : PySem.W.Frag} {mg : Str → Option Value} {base : Heap} {m0 x : Str} {st : Stmt} {f : Addr} {fd : FuncData} {N ps : List Str} {k : Nat} {v : V} {a : Addr} {Pre : ι → List D → Prop} {R : ι → List D → D → ι → Prop}
    (F : L2.Fun K m0 x st f fd) (S : FnScope N ps (defScope st)) (len : 2 = ps.length) (hN : ∃ n, N.length = n + 2) (hP : ∀ i ds, Pre i ds → ds = [])
    (hbody : ∀ (cdv : Value) (A : Around) (outer : List Env) (s : Shared) (H : Hp) (E : XK), Room k (A.deeper (PyProof.Rows.envOfC x (defScope st) s.heap.objs.size f cdv)) →
      ∃ t, PSs (cxOf CX0 P w K mg base N x (defScope st) f cdv A outer s H E).nox (defBody st) t ∧ ∀ i, Pre i [] → SY M i t (.r v :: .r (.ref a) :: List.replicate (N.length - 2) .no) ⟨fun _ j => R i [] .n j, fun d j => R i [] d j, fun xs j => R i [] (.l xs) j, fun _ _ => False, fun _ _ => False⟩) :
    FnOk P w K mg base CX0 (k + 1) f fd ps (fun vs H Q E => vs = [v, .ref a] ∧ spY M v Pre R [v] H Q E) := by
  refine F.ok S (fun vs H Q E h => ?_) (fun cdv A outer s H vs Q E hr h => ?_)
  · rw [h.1]
    exact len
  · obtain ⟨rfl, T, ds, us, i, e, dm, hV, j, hK, is, hp, q⟩ := h
    obtain rfl := hP i ds hp
    cases is
    obtain ⟨t, h1, h2⟩ := hbody cdv A outer s H E hr
    let B : Hp := fun b => @ite _ (M.V b) (Classical.propDecidable _) none (H b)
    have Bn : ∀ a, M.V a → B a = none := fun a s => if_pos s
    have Bs : ∀ a o, ¬ M.V a → H a = some o → B a = some o := fun a o n e => by
      show (@ite _ (M.V a) (Classical.propDecidable _) none (H a)) = some o
      rw [if_neg n, e]
    have sB : Same B H := fun b o e => by
      by_cases c : M.V b
      · rw [Bn b c] at e
        cases e
      · have e' : (@ite _ (M.V b) (Classical.propDecidable _) none (H b)) = some o := e
        rw [if_neg c] at e'
        exact e'
    have gr : ∀ {H' : Hp}, Same B H' → Gr M.V H H' := fun s a o n e => s a o (Bs a o n e)
    obtain ⟨n, hn⟩ := hN
    have E0 := env_startX (N := N) (v := v) dm (show IsDs T H [] [] from rfl) sB
    have E1 := En.setR (k := 1) (v := .ref a) E0
    have eσ : (L2.start N [v]).set 1 (some (.ref a)) = L2.start N [v, .ref a] := by
      unfold L2.start
      simp only [List.map_cons, List.map_nil, List.length_cons, List.length_nil, hn]
      rfl
    have ee : (Sl.r v :: (([] : List D).map Sl.d ++ List.replicate (N.length - (([] : List D).length + 1)) Sl.no)).set 1 (.r (.ref a)) = .r v :: .r (.ref a) :: List.replicate (N.length - 2) .no := by
      rw [hn]
      rfl
    rw [eσ, ee] at E1
    refine ⟨t, h1, h2 i hp T _ B H _ E1 ⟨fun a s => ⟨hV a s, Bn a s⟩, hK B Bn Bs, j⟩ _ ⟨fun es' A' σ' H' k p E' j' => ?_, fun d' u H' k p e j' i => ?_, fun xs p vs' H' k e s j' n ns h i => ?_, fun _ _ _ _ _ p _ => p.elim, fun _ _ _ _ _ p _ => p.elim⟩⟩
    · exact q .n k .non H' p (gr E'.same) j' rfl
    · exact q d' k u H' p (gr e) j' i
    · exact q (.l xs) k _ H' e (gr s) j' ⟨p, vs', rfl, ns, h, i.wide fun a z => .inl z⟩
inductive Tg where
  | th (t : Th) | ps (l : List (Str × Str))
def tgD : Tg → D
  | .th t => thD t
  | .ps l => psD l
def tgW : Tg → List Str
  | .th t => thW t
  | .ps l => nW l.length :: psW l
def tgF : Tg → Str
  | .th t => thF t
  | .ps _ => "pairs"
def tgOk : Tg → Prop
  | .th t => thOk t
  | .ps l => psOk l
def tgsW (l : List Tg) : List Str := (l.map tgW).flatten
theorem tgs_th (l : List Th) : tgsW (l.map .th) = thsW l := by
  unfold tgsW thsW
  rw [List.map_map]
  rfl
section
variable {P : Program} {w : World} {K : PySem.W.Frag} {mg : Str → Option Value} {base : Heap}
def R_ko (ds : List D) (d : D) : Prop := ∃ r, r ∈ sameR ++ betterR ∧ ds = [.s r] ∧ d = .s (if r ∈ sameR then "same" else "better")
theorem k_kind_of (F : Facts K mg w) : C8.Cal P w K mg base 1 "kind_of" (spR R_ko) [] := by
  obtain ⟨a_SAME_RULES, es_S, n_S, h_SAME_RULES, D_SAME_RULES, s0, s1, s2, s3, s4, s5, s6, s7, s8, s9, s10, s11, s12, sm⟩ := F.g_SAME_RULES
  obtain ⟨a_BETTER_RULES, es_B, n_B, h_BETTER_RULES, D_BETTER_RULES, b0, b1, b2, b3, b4, b5, bm⟩ := F.g_BETTER_RULES
  refine F.kind_of.R sc_kind_of (by decide) (fun ds d h => ?_) (fun f cdv A outer s H E hr => ⟨_, (pss_cons (ps_if (pt_cmpR (op_in_kd D_SAME_RULES) (pv 0) (pe_glob (v := V.ref a_SAME_RULES) rfl h_SAME_RULES rfl) rfl) (pss_one (ps_ret pe_str)) pss_nil)
    (pss_cons (ps_if (pt_cmpR (op_in_kd D_BETTER_RULES) (pv 0) (pe_glob (v := V.ref a_BETTER_RULES) rfl h_BETTER_RULES rfl) rfl) (pss_one (ps_ret pe_str)) pss_nil)
    (pss_one (ps_ret pe_non)))), fun ds d h => ?_⟩)
  · obtain ⟨r, _, rfl, _⟩ := h
    rfl
  obtain ⟨r, hr, rfl, rfl⟩ := h
  by_cases c : r ∈ sameR
  · have hx : ∃ u, PySem.W.nsIn K a_SAME_RULES r = some (some u) := by
      simp only [sameR, List.mem_cons, List.not_mem_nil, or_false] at c
      rcases c with rfl | rfl | rfl | rfl | rfl | rfl | rfl | rfl | rfl | rfl | rfl | rfl | rfl
      · exact s0
      · exact s1
      · exact s2
      · exact s3
      · exact s4
      · exact s5
      · exact s6
      · exact s7
      · exact s8
      · exact s9
      · exact s10
      · exact s11
      · exact s12
    obtain ⟨u, hu⟩ := hx
    refine sq_if (b := true) (et_test (ed_inKD (K := K) (ed_var rfl) hu)) (fun _ => ?_) (fun h => by cases h)
    exact sq_ret ed_str (by rw [if_pos c])
  · have hb : r ∈ betterR := (List.mem_append.mp hr).resolve_left c
    have hx : ∃ u, PySem.W.nsIn K a_BETTER_RULES r = some (some u) := by
      simp only [betterR, List.mem_cons, List.not_mem_nil, or_false] at hb
      rcases hb with rfl | rfl | rfl | rfl | rfl | rfl
      · exact b0
      · exact b1
      · exact b2
      · exact b3
      · exact b4
      · exact b5
    obtain ⟨u, hu⟩ := hx
    refine sq_if (b := false) (et_test (ed_inKD (K := K) (ed_var rfl) (sm r c))) (fun h => by cases h) (fun _ => ?_)
    refine sq_if (b := true) (et_test (ed_inKD (K := K) (ed_var rfl) hu)) (fun _ => ?_) (fun h => by cases h)
    exact sq_ret ed_str (by rw [if_neg c])
end
end Nz
namespace Nz
open PySem L2
open Classical in
noncomputable def rdS (mg : Str → Option Value) (r l : Addr) (ws : List Str) (f : Addr) : Option Sp :=
  if mg "read_number" = some (.ref f) then some (spG (rM mg r l ws) (.ref r) (preNu ws) relNu) else
  if mg "read_numbers" = some (.ref f) then some (spG (rM mg r l ws) (.ref r) (preNs2 ws) relNs2) else
  if mg "read_name" = some (.ref f) then some (spG (rM mg r l ws) (.ref r) (preNa ws) relNa) else
  if mg "read_some_names" = some (.ref f) then some (spG (rM mg r l ws) (.ref r) (preXs ws) relXs) else
  if mg "read_pairs" = some (.ref f) then some (spG (rM mg r l ws) (.ref r) (prePs ws) relPs) else none
def rNotN : R2 := fun x y H Q => y = .non ∧ Q (.bl (!decide (x = .non))) H
theorem op_notN1 {X : Cx} : OpR X (compareOp .IsNot) rNotN := op_notN
theorem rd_notS {a : Str} : RD rNotN (.s a) .n (.b true) := fun S H u v _ i j Q q => by
  cases i; cases j
  exact ⟨rfl, by rw [decide_eq_false (fun z => by cases z)]; exact q _ H (Same.refl H) rfl⟩
section
variable {P : Program} {w : World} {K : PySem.W.Frag} {mg : Str → Option Value} {base : Heap}
theorem held1 {x : Str} {st : Stmt} {ps : List Str} {f : Addr} {sp : Sp} (D : DefF K mg x st ps) (h : mg x = some (.ref f)) (fk : ∀ f fd, L2.Fun K x x st f fd → FnOk P w K mg base CX0 5 f fd ps sp) : Held P w K mg base 5 f sp := by
  obtain ⟨f', fd, hf, hm, hb⟩ := D.ex
  rw [h] at hm
  cases hm
  exact ⟨fd, ps, fk _ _ hf, hf.kp, hb⟩
theorem rdS_held (F : Facts K mg w) (r l : Addr) (ws : List Str) : ∀ f sp, rdS mg r l ws f = some sp → Held P w K mg base 5 f sp := fun f sp h => by
  unfold rdS at h
  split at h
  · rename_i c
    cases h
    exact held1 F.read_number c fun f fd hf => (fk_read_number F r l ws f fd hf).mono (by decide)
  split at h
  · rename_i c
    cases h
    exact held1 F.read_numbers c fun f fd hf => fk_read_numbers F r l ws f fd hf
  split at h
  · rename_i c
    cases h
    exact held1 F.read_name c fun f fd hf => (fk_read_name F r l ws f fd hf).mono (by decide)
  split at h
  · rename_i c
    cases h
    exact held1 F.read_some_names c fun f fd hf => fk_read_some_names F r l ws f fd hf
  split at h
  · rename_i c
    cases h
    exact held1 F.read_pairs c fun f fd hf => fk_read_pairs F r l ws f fd hf
  · cases h
theorem rdS1 {r l : Addr} {ws : List Str} {f : Addr} (h : mg "read_number" = some (.ref f)) : rdS mg r l ws f = some (spG (rM mg r l ws) (.ref r) (preNu ws) relNu) := by
  unfold rdS
  rw [if_pos h]
theorem rdS2 (F : Facts K mg w) {r l : Addr} {ws : List Str} {f : Addr} (h : mg "read_numbers" = some (.ref f)) : rdS mg r l ws f = some (spG (rM mg r l ws) (.ref r) (preNs2 ws) relNs2) := by
  unfold rdS
  rw [if_neg (fun z => F.d_read_number_read_numbers f z h), if_pos h]
theorem rdS3 (F : Facts K mg w) {r l : Addr} {ws : List Str} {f : Addr} (h : mg "read_name" = some (.ref f)) : rdS mg r l ws f = some (spG (rM mg r l ws) (.ref r) (preNa ws) relNa) := by
  unfold rdS
  rw [if_neg (fun z => F.d_read_number_read_name f z h), if_neg (fun z => F.d_read_numbers_read_name f z h), if_pos h]
theorem rdS4 (F : Facts K mg w) {r l : Addr} {ws : List Str} {f : Addr} (h : mg "read_some_names" = some (.ref f)) : rdS mg r l ws f = some (spG (rM mg r l ws) (.ref r) (preXs ws) relXs) := by
  unfold rdS
  rw [if_neg (fun z => F.d_read_number_read_some_names f z h), if_neg (fun z => F.d_read_numbers_read_some_names f z h), if_neg (fun z => F.d_read_name_read_some_names f z h), if_pos h]
theorem rdS5 (F : Facts K mg w) {r l : Addr} {ws : List Str} {f : Addr} (h : mg "read_pairs" = some (.ref f)) : rdS mg r l ws f = some (spG (rM mg r l ws) (.ref r) (prePs ws) relPs) := by
  unfold rdS
  rw [if_neg (fun z => F.d_read_number_read_pairs f z h), if_neg (fun z => F.d_read_numbers_read_pairs f z h), if_neg (fun z => F.d_read_name_read_pairs f z h), if_neg (fun z => F.d_read_some_names_read_pairs f z h), if_pos h]
/-- the reading that the dict names for this thing *)-/
def Rds (mg : Str → Option Value) (r l : Addr) (ws : List Str) (g : Tg) (f : Addr) : Prop := ∀ {es : Es} {us : List Str} {k i m : Nat}, es[m]? = some (.r (.ref f)) → es[i]? = some (.r (.ref r)) → tgOk g → Wat ws k (tgW g ++ us) → YD (rM mg r l ws) k (tCallA m (rdS mg r l ws) (tCons (tVar i) tNil)) es (fun z j => z = tgD g ∧ j = k + (tgW g).length)
theorem rds_of {γ : Type} {r l : Addr} {ws : List Str} {g : Tg} {f : Addr} {Pre : γ → Nat → List D → Prop} {R : γ → Nat → List D → D → Nat → Prop} (x : γ) (hS : rdS mg r l ws f = some (spG (rM mg r l ws) (.ref r) Pre R)) (hp : tgOk g → ∀ k, Wat ws k (tgW g) → Pre x k []) (hr : ∀ k z j, R x k [] z j → z = tgD g ∧ j = k + (tgW g).length) : Rds mg r l ws g f := fun {es us k i m} hf hi ok hw =>
  yd_imp (yd_callAG (Pre := Pre) (R := R) x hS (fun vs H Q E h => ⟨x, h⟩) hf hi (yds_eds ea_nil) fun xs j ⟨e, ej⟩ => by subst e ej; exact hp ok _ hw.left) fun d j ⟨xs, j0, ⟨e, ej⟩, h⟩ => by subst e ej; exact hr _ _ _ h
def spTh (K : PySem.W.Frag) (mg : Str → Option Value) (r l : Addr) (ws : List Str) : Sp := fun vs H Q E => (∃ (a : Addr) (g : List Tg), KTup K a ((g.map tgF).map V.str) ∧ (∀ t ∈ g, tgOk t) ∧ g.length ≤ 10 ∧ (vs = [.ref r, .ref a] ∧ spY (rM mg r l ws) (.ref r) (fun k ds => ds = [] ∧ Wat ws k (tgsW g)) (fun k _ d j => d = .t (g.map tgD) ∧ j = k + (tgsW g).length) [.ref r] H Q E)) ∨
  spY (rM mg r l ws) (.ref r) (fun k ds => ds = [.t []]) (fun k _ d j => d = .t [] ∧ j = k) vs H Q E
theorem k_read_things (F : Facts K mg w) (r l : Addr) (ws : List Str) : C8.Cal P w K mg base 6 "read_things" (spTh K mg r l ws) [] := by
  obtain ⟨a_READINGS, es_R, n_R, h_READINGS, D_READINGS, ⟨f0, r0, m0⟩, ⟨f1, r1, m1⟩, ⟨f2, r2, m2⟩, ⟨f3, r3, m3⟩, ⟨f4, r4, m4⟩, _⟩ := F.g_READINGS
  have AR := rdS_held (P := P) (w := w) (base := base) F r l ws
  have look : ∀ g : Tg, ∃ f, PySem.W.nsIn K a_READINGS (tgF g) = some (some (.ref f)) ∧ Rds mg r l ws g f := fun g => by
    cases g with
    | th t =>
      cases t with
      | n k => exact ⟨f0, r0, rds_of (g := .th (.n k)) k (rdS1 m0) (fun ok i hw => ⟨rfl, ok, hw⟩) fun k z j h => h⟩
      | x s => exact ⟨f2, r2, rds_of (g := .th (.x s)) s (rdS3 F m2) (fun ok i hw => ⟨rfl, ok, hw⟩) fun k z j h => h⟩
      | is ks => exact ⟨f1, r1, rds_of (g := .th (.is ks)) ks (rdS2 F m1) (fun ok i hw => ⟨rfl, ok, hw⟩) fun k z j h => h⟩
      | xs ns => exact ⟨f3, r3, rds_of (g := .th (.xs ns)) ns (rdS4 F m3) (fun ok i hw => ⟨rfl, ok, hw⟩) fun k z j h => h⟩
    | ps l => exact ⟨f4, r4, rds_of (g := .ps l) l (rdS5 F m4) (fun ok i hw => ⟨rfl, ok, hw⟩) fun k z j h => h⟩
  refine F.read_things.cal fun f fd hf => fn_or (fn_ex fun a => fn_ex fun g => ?_) ?_
  · have fk : KTup K a ((g.map tgF).map V.str) → (∀ t ∈ g, tgOk t) → g.length ≤ 10 → FnOk P w K mg base CX0 6 f fd ["reader", "forms"] (fun vs H Q E => vs = [.ref r, .ref a] ∧ spY (rM mg r l ws) (.ref r) (fun k ds => ds = [] ∧ Wat ws k (tgsW g)) (fun k _ d j => d = .t (g.map tgD) ∧ j = k + (tgsW g).length) [.ref r] H Q E) := fun hK ok hl => by
      refine fn_YR hf sc_read_things rfl ⟨3, rfl⟩ (fun _ ds h => h.1) (fun cdv A outer s H E hr => ⟨_, (pss_cons (ps_set (i := 2) sc_read_things.nd rfl (Or.inl rfl) (pe_lst pa_nil))
    (pss_cons (ps_for PassesOwn.never rfl (Nz.piT K (pv 1)) (pg_name (i := 3) sc_read_things.nd rfl (Or.inl rfl)) (pss_cons (ps_set (i := 4) sc_read_things.nd rfl (Or.inl rfl) (pe_ix (Nz.ix_kd D_READINGS) (pe_glob (v := V.ref a_READINGS) rfl h_READINGS rfl) (pv 3) (fun _ _ => rfl)))
    (pss_one (ps_expr (pe_bm PySem.F.plainAttrs_list PySem.F.slot_list_append PySem.F.type_list_append mt_append (pv 2) (pa_cons (pe_callA (k := 5) AR (hr.mono (by decide)) (i := 4) rfl (by first | exact Or.inl rfl | exact Or.inr (Or.inl rfl)) (pa_cons (pv 0) pa_nil)) pa_nil))))))
    (pss_one (ps_ret (pe_callTy (Nz.cTup K) rfl F.b_tuple Nz.boot_tuple (pa_cons (pv 2) pa_nil)))))), fun k hP => ?_⟩)
      obtain ⟨_, hw⟩ := hP
      refine syq_setO (el_lst ea_nil (Nat.zero_le _)) ?_
      refine sy_seq (fun e i => ∃ κ3 κ4, e = [.r (.ref r), .r (.ref a), .o (.l (g.map tgD)), κ3, κ4] ∧ i = k + (tgsW g).length) ?_ ?_
      · refine sy_forY (ysrc_xsrc (xsrc_of (src_KR hK rfl))) (fun ds i e i' => ds = (g.map tgF).map D.s ∧ ∃ κ3 κ4, e = [.r (.ref r), .r (.ref a), .o (.l ((g.take i).map tgD)), κ3, κ4] ∧ Wat ws i' (tgsW (g.drop i)) ∧ i' + (tgsW (g.drop i)).length = k + (tgsW g).length)
          (fun ds i' ⟨e, ei⟩ => ⟨e, .no, .no, rfl, by rw [ei, List.drop_zero]; exact hw, by rw [ei, List.drop_zero]⟩) (fun ds i d e i' hd he => ?_) (fun ds e i' he => ?_)
        · obtain ⟨eds, κ3, κ4, rfl, hw2, hj⟩ := he
          subst eds
          have hi : i < g.length := by
            have := (List.getElem?_eq_some_iff.mp hd).1
            simpa using this
          have ed : d = .s (tgF g[i]) := by
            rw [List.getElem?_map, List.getElem?_map, List.getElem?_eq_getElem hi] at hd
            exact (Option.some.inj hd).symm
          subst ed
          have e0 : tgsW (g.drop i) = tgW g[i] ++ tgsW (g.drop (i + 1)) := by
            rw [drop_cons hi]
            rfl
          rw [e0] at hw2 hj
          rw [List.length_append] at hj
          obtain ⟨fi, hn, rds⟩ := look g[i]
          refine ⟨_, gd_name, ?_⟩
          refine syq_setK (v := .ref fi) (fun S A B H σ E Q q => ?_) ?_
          · obtain ⟨v, hv, iv⟩ := E.dat 3 _ rfl
            cases iv
            exact ⟨_, hv, _, .ref fi, .ref fi, rfl, rfl, hn, rfl, q⟩
          refine sy_appY rfl (rds rfl rfl (ok _ (List.getElem_mem hi)) hw2) (by rw [List.length_map, List.length_take]; exact Nat.lt_of_le_of_lt (show _ ≤ 1000 by omega) (by decide)) fun d' i'' ⟨e, ei⟩ => ?_
          subst e ei
          refine ⟨rfl, .d (.s (tgF g[i])), .r (.ref fi), ?_, hw2.right, by omega⟩
          rw [take_snoc hi, List.map_append]
          rfl
        · obtain ⟨eds, κ3, κ4, rfl, hw2, hj⟩ := he
          subst eds
          rw [List.length_map, List.length_map, List.drop_length] at hj
          rw [List.length_map, List.length_map, List.take_length]
          exact ⟨κ3, κ4, rfl, hj⟩
      · rintro e i ⟨κ3, κ4, rfl, ei⟩
        exact sy_ret (ed_tupo rfl) ⟨rfl, ei⟩
    by_cases c : KTup K a ((g.map tgF).map V.str) ∧ (∀ t ∈ g, tgOk t) ∧ g.length ≤ 10
    · exact (fk c.1 c.2.1 c.2.2).imp fun vs H Q E h => h.2.2.2
    · exact ⟨fun vs H Q E h => absurd ⟨h.1, h.2.1, h.2.2.1⟩ c, fun A outer s H args us vs Q E _ _ _ _ h => absurd ⟨h.1, h.2.1, h.2.2.1⟩ c⟩
  · refine fn_Y hf sc_read_things (fun _ ds e => by subst e; rfl) (fun cdv A outer s H E hr => ⟨_, (pss_cons (ps_set (i := 2) sc_read_things.nd rfl (Or.inl rfl) (pe_lst pa_nil))
    (pss_cons (ps_for PassesOwn.never rfl (Nz.piT K (pv 1)) (pg_name (i := 3) sc_read_things.nd rfl (Or.inl rfl)) (pss_cons (ps_set (i := 4) sc_read_things.nd rfl (Or.inl rfl) (pe_ix (Nz.ix_kd D_READINGS) (pe_glob (v := V.ref a_READINGS) rfl h_READINGS rfl) (pv 3) (fun _ _ => rfl)))
    (pss_one (ps_expr (pe_bm PySem.F.plainAttrs_list PySem.F.slot_list_append PySem.F.type_list_append mt_append (pv 2) (pa_cons (pe_callA (k := 5) AR (hr.mono (by decide)) (i := 4) rfl (by first | exact Or.inl rfl | exact Or.inr (Or.inl rfl)) (pa_cons (pv 0) pa_nil)) pa_nil))))))
    (pss_one (ps_ret (pe_callTy (Nz.cTup K) rfl F.b_tuple Nz.boot_tuple (pa_cons (pv 2) pa_nil)))))), fun k ds hP => ?_⟩)
    subst hP
    refine syq_setO (el_lst ea_nil (Nat.zero_le _)) ?_
    refine sy_seq (fun e i => e = [.r (.ref r), .d (.t []), .o (.l []), .no, .no] ∧ i = k) ?_ ?_
    · refine sy_forY (ysrc_xsrc (xsrc_of (src_tup (ed_var rfl)))) (fun ds i e i' => ds = [] ∧ e = [.r (.ref r), .d (.t []), .o (.l []), .no, .no] ∧ i' = k) (fun ds i' ⟨e, ei⟩ => ⟨e, rfl, ei⟩) (fun ds i d e i' hd he => ?_) (fun ds e i' he => he.2)
      obtain ⟨rfl, _⟩ := he
      cases hd
    · rintro e i ⟨rfl, ei⟩
      exact sy_ret (ed_tupo rfl) ⟨rfl, ei⟩
end
end Nz
namespace Nz
open PySem L2
theorem ys_starT {ι : Type} {M : Fam ι} {i : ι} {es : Es} {K : PySem.W.Frag} {te : TE} {R : List D → ι → Prop} (h : YD M i te es (fun z j => ∃ xs, z = .t xs ∧ R xs j)) : YDs M i (StX.tStar K te tNil) es R := fun S A B H σ E w Q q => h S A B H σ E w _ fun v H2 z j ⟨xs, e, r⟩ g q1 is => by
  subst e
  obtain ⟨a, vs, rfl, n, ha, is⟩ := is
  refine ⟨a, vs, rfl, .inl (SqT.of ha), ?_⟩
  show Q (vs ++ []) H2
  rw [List.append_nil]
  exact q vs H2 xs j r g q1 is
section
variable {P : Program} {w : World} {K : PySem.W.Frag} {mg : Str → Option Value} {base : Heap}
theorem yd_told {r l0 : Addr} {ws us : List Str} {k : Nat} {es : Es} {dd : Addr} {rule : Str} {l : List Th} {E0 : XK} (h0 : es[0]? = some (.r (.ref r))) (h3 : es[3]? = some (.d (.s rule))) (hT : (∃ a, PySem.W.nsIn K dd rule = some (some (.ref a)) ∧ KTup K a ((toldF rule).map V.str)) ∨ (PySem.W.nsIn K dd rule = some none ∧ toldF rule = []))
    (hl : l.map thF = toldF rule) (ok : ∀ t ∈ l, thOk t) (hw : Wat ws k (thsW l ++ us)) : YD (rM mg r l0 ws) k (tCall (spTh K mg r l0 ws) [] E0 (tCons (tVar 0) (tCons (tKGet2 K dd (tVar 3) (tTup tNil)) tNil))) es (fun z j => z = .t (l.map thD) ∧ j = k + (thsW l).length) := fun S A B H σ E wk Q q => by
  obtain ⟨v, hv, iv⟩ := E.dat 3 _ h3
  cases iv
  have ll : l.length ≤ 10 := by
    have := told_len rule
    rw [← hl, List.length_map] at this
    omega
  have mf : (l.map Tg.th).map tgF = l.map thF := by
    rw [List.map_map]
    rfl
  have md : (l.map Tg.th).map tgD = l.map thD := by
    rw [List.map_map]
    rfl
  refine ⟨_, E.raw 0 _ h0, _, hv, (ed_tup ea_nil (Nat.zero_le _) : ED (tTup tNil) es (.t [])) S A B H σ E _ fun y H2 e iy => ?_⟩
  have E2 := E.mono e
  have w2 := wk.same e
  rcases hT with ⟨a, hn, hK⟩ | ⟨hn, h00⟩
  · refine ⟨rule, _, rfl, hn, fun u hu => ?_, fun z => by cases z⟩
    cases hu
    refine ⟨.ref a, rfl, .inl ⟨a, l.map .th, by rw [mf, hl]; exact hK, fun t ht => ?_, by rw [List.length_map]; exact ll, rfl, _, [], [], k, rfl, E2.dmx, fun a s => .inl (wk.vol a s).1, w2.j1, (wk.at2 w2.j1).k2 E2, rfl, ⟨rfl, by rw [tgs_th]; exact hw.left⟩, fun d m w' H3 r3 g3 j3 k3 => ?_⟩⟩
    · obtain ⟨t', m', rfl⟩ := List.mem_map.mp ht
      exact ok t' m'
    · rw [md, tgs_th] at r3
      exact q w' H3 d m r3 ((Gr.of e).trans g3) j3 k3
  · have l0' : l = [] := by
      rw [h00] at hl
      exact List.map_eq_nil_iff.mp hl
    subst l0'
    refine ⟨rule, _, rfl, hn, fun u hu => (by cases hu), fun _ => .inr ⟨_, [.t []], [y], k, rfl, E2.dmx, fun a s => .inl (wk.vol a s).1, w2.j1, (wk.at2 w2.j1).k2 E2, ⟨y, [], rfl, iy, rfl⟩, rfl, fun d m w' H3 r3 g3 j3 k3 => ?_⟩⟩
    exact q w' H3 d m r3 ((Gr.of e).trans g3) j3 k3
theorem yd_callGs {ι γ : Type} {M : Fam ι} {i : ι} {es : Es} {tas : TA} {v : V} {n : Nat} {sp : Sp} {Pre : γ → ι → List D → Prop} {R : γ → ι → List D → D → ι → Prop} {Ra : List D → ι → Prop} {E0 : XK} (g : γ) (hs : ∀ vs H Q E, spY M v (Pre g) (R g) vs H Q E → sp vs H Q E) (hi : es[n]? = some (.r v)) (h : YDs M i tas es Ra) (hp : ∀ xs j, Ra xs j → Pre g j xs) : YD M i (tCall sp [] E0 (tCons (tVar n) tas)) es (fun z k => ∃ xs j, Ra xs j ∧ R g j xs z k) := fun S A B H σ E w Q q =>
  ⟨v, E.raw n v hi, h S A B H σ E w _ fun vs H2 xs j r g1 q1 k => by
    have E2 := w.en2 E g1 q1
    refine hs _ _ _ _ ⟨_, xs, vs, j, by rw [List.append_nil], E2.dmx, fun a s => .inl (w.vol a s).1, q1, (w.at2 q1).k2 E2, k, hp xs j r, fun d m w' H3 r3 g3 j3 k3 => ?_⟩
    exact q w' H3 d m ⟨xs, j, r, r3⟩ (g1.trans g3) j3 k3⟩
theorem c_read_whole (F : Facts K mg w) : C8.Cal P w K mg base 187 "read_whole" (spWh mg) [] := by
  obtain ⟨f, hm, fd, ps, h1, h2, h3⟩ := k_read_whole (P := P) (w := w) (base := base) F
  exact ⟨f, fd, ps, [], h1, hm, h2, h3, .nil⟩
def preSt (ws : List Str) (s : Stp) (k : Nat) (ds : List D) : Prop := ds = [] ∧ stpOk s ∧ Wat ws k (stpW s)
def relSt (s : Stp) (k : Nat) (_ : List D) (d : D) (j : Nat) : Prop := d = stpD s ∧ j = k + (stpW s).length
theorem fk_read_whole_step (F : Facts K mg w) (r l : Addr) (ws : List Str) (f : Addr) (fd : FuncData) (hf : L2.Fun K "read_whole_step" "read_whole_step" s_read_whole_step f fd) : FnOk P w K mg base CX0 188 f fd ["reader"] (spG (rM mg r l ws) (.ref r) (preSt ws) relSt) := fn_ex fun s => by
  have m_Reader_ahead := k_ahead (P := P) (w := w) (base := base) F r l ws
  have m_Reader_take := k_take (P := P) (w := w) (base := base) F r l ws
  have c_read_numbers := k_read_numbers (P := P) (w := w) (base := base) F r l ws
  have c_read_number := k_read_number (P := P) (w := w) (base := base) F r l ws
  have c_kind_of := k_kind_of (P := P) (w := w) (base := base) F
  have c_read_things := k_read_things (P := P) (w := w) (base := base) F r l ws
  have c_read_whole := c_read_whole (P := P) (w := w) (base := base) F
  obtain ⟨a_RULE_STEPS, h_RULE_STEPS, t_RS⟩ := F.g_RULE_STEPS
  obtain ⟨a_CLAIM_STEPS, h_CLAIM_STEPS, t_CS⟩ := F.g_CLAIM_STEPS
  obtain ⟨a_TOLD, es_T, n_T, h_TOLD, D_TOLD, t0, t1, t2, t3, t4, t5, tm⟩ := F.g_TOLD
  have hT : ∀ rule, (∃ a, PySem.W.nsIn K a_TOLD rule = some (some (.ref a)) ∧ KTup K a ((toldF rule).map V.str)) ∨ (PySem.W.nsIn K a_TOLD rule = some none ∧ toldF rule = []) := fun rule => by
    by_cases c : rule ∈ (["rename", "float-let", "float-cost", "order", "copy", "unused"] : List Str)
    · refine .inl ?_
      simp only [List.mem_cons, List.not_mem_nil, or_false] at c
      rcases c with rfl | rfl | rfl | rfl | rfl | rfl
      · exact t0
      · exact t1
      · exact t2
      · exact t3
      · exact t4
      · exact t5
    · refine .inr ⟨tm rule c, ?_⟩
      unfold toldF
      have : toldT.lookup rule = none := by
        rw [List.lookup_eq_none_iff]
        intro p hp
        rw [bne_iff_ne]
        intro z
        have h : ∀ p ∈ toldT, p.1 ∈ (["rename", "float-let", "float-cost", "order", "copy", "unused"] : List Str) := by decide
        exact c (by rw [z]; exact h p hp)
      rw [this]
      rfl
  refine fn_Y hf sc_read_whole_step (fun _ ds ⟨e, _⟩ => by subst e; rfl) (fun cdv A outer s' H E hr => ⟨_, (pss_cons (ps_set (i := 1) sc_read_whole_step.nd rfl (Or.inl rfl) (C8.pe_mt0 m_Reader_ahead hr (by first | decide | omega) (pv 0)))
    (pss_cons (ps_expr (C8.pe_mt m_Reader_take hr (by first | decide | omega) (pv 0) (pa_cons (pe_or (pe_cmpR (Nz.inQ K) (pv 1) (pe_glob (v := V.ref a_RULE_STEPS) rfl h_RULE_STEPS rfl) rfl) (pe_one (pe_cmpR (Nz.inQ K) (pv 1) (pe_glob (v := V.ref a_CLAIM_STEPS) rfl h_CLAIM_STEPS rfl) rfl))) pa_nil)))
    (pss_cons (ps_set (i := 2) sc_read_whole_step.nd rfl (Or.inl rfl) (C8.pe_c c_read_numbers hr (by first | decide | omega) rfl (pa_cons (pv 0) pa_nil)))
    (pss_cons (ps_if (pt_cmpR (Nz.inQ K) (pv 1) (pe_glob (v := V.ref a_CLAIM_STEPS) rfl h_CLAIM_STEPS rfl) rfl) (pss_one (ps_ret (pe_tup (pa_cons (pv 1) (pa_cons (pv 2) (pa_cons (C8.pe_c c_read_number hr (by first | decide | omega) rfl (pa_cons (pv 0) pa_nil)) pa_nil)))))) pss_nil)
    (pss_cons (ps_set (i := 3) sc_read_whole_step.nd rfl (Or.inl rfl) (C8.pe_mt0 m_Reader_ahead hr (by first | decide | omega) (pv 0)))
    (pss_cons (ps_expr (C8.pe_mt m_Reader_take hr (by first | decide | omega) (pv 0) (pa_cons (pe_cmpR op_notN1 (C8.pe_c c_kind_of hr (by first | decide | omega) rfl (pa_cons (pv 3) pa_nil)) pe_non (nomark _)) pa_nil)))
    (pss_cons (ps_set (i := 4) sc_read_whole_step.nd rfl (Or.inl rfl) (C8.pe_c c_read_things hr (by first | decide | omega) rfl (pa_cons (pv 0) (pa_cons (Nz.pe_kget2 D_TOLD (pe_glob (v := V.ref a_TOLD) rfl h_TOLD rfl) (pv 3) (pe_tup pa_nil) ⟨rfl, rfl, rfl, rfl⟩) pa_nil))))
    (pss_cons (ps_if (pt_cmpR op_eq (pv 1) pe_str (nomark _)) (pss_one (ps_ret (pe_tup (pa_cons (pv 1) (pa_cons (pv 2) (pa_cons (pv 3) (pa_cons (pv 4) pa_nil))))))) pss_nil)
    (pss_one (ps_ret (pe_tup (pa_cons (pv 1) (pa_cons (pv 2) (pa_cons (pv 3) (pa_cons (pv 4) (pa_cons (C8.pe_c c_read_whole hr (by first | decide | omega) rfl (pa_cons (pv 0) pa_nil)) pa_nil)))))))))))))))), fun k ds hP => ?_⟩)
  obtain ⟨rfl, ok, hw⟩ := hP
  have inR : ∀ (kind : Str) {es : Es}, es[1]? = some (.d (.s kind)) → ED (tOp (rIn K false) (tVar 1) (tC (.ref a_RULE_STEPS))) es (.b (decide (kind ∈ (["go", "back"] : List Str)))) := fun kind es h => ed_eq (ed_inK t_RS (ed_var h) rfl rfl) (congrArg D.b (inV_strs (xs := ["go", "back"])))
  have inC : ∀ (kind : Str) {es : Es}, es[1]? = some (.d (.s kind)) → ED (tOp (rIn K false) (tVar 1) (tC (.ref a_CLAIM_STEPS))) es (.b (decide (kind ∈ (["claim", "undo"] : List Str)))) := fun kind es h => ed_eq (ed_inK t_CS (ed_var h) rfl rfl) (congrArg D.b (inV_strs (xs := ["claim", "undo"])))
  have start : ∀ {kind : Str} {path : List Nat} {us : List Str} {t : TS} {P' : Pq Nat}, Wat ws k (kind :: (thW (.is path) ++ us)) → thOk (.is path) → (decide (kind ∈ (["go", "back"] : List Str)) || decide (kind ∈ (["claim", "undo"] : List Str))) = true →
      (Wat ws (k + 1 + (thW (.is path)).length) us → SY (rM mg r l ws) (k + 1 + (thW (.is path)).length) t [.r (.ref r), .d (.s kind), .d (.t (natsD path)), .no, .no] P') → SY (rM mg r l ws) k (tSeq (tAsg (tMeth (C_Reader mg) "ahead" (spY (rM mg r l ws) (.ref r) (preA ws.length) (relA ws)) [] C8.E0 (tVar 0) tNil) (gName 1)) (tSeq (tDrop (tMeth (C_Reader mg) "take" (spY (rM mg r l ws) (.ref r) (preT ws.length) (relT ws)) [] C8.E0 (tVar 0) (tCons (tOrV (tOp (rIn K false) (tVar 1) (tC (.ref a_RULE_STEPS))) (tOp (rIn K false) (tVar 1) (tC (.ref a_CLAIM_STEPS)))) tNil))) (tSeq (tAsg (tCall (spG (rM mg r l ws) (.ref r) (preNs2 ws) relNs2) [] C8.E0 (tCons (tVar 0) tNil)) (gName 2)) t))) [.r (.ref r), .no, .no, .no, .no] P' := fun {kind path us t P'} hw hp hb q => by
    refine syq_setY (yd_ahead rfl hw.le) fun d j ⟨e, ej⟩ => ?_
    subst e ej
    rw [hw.gw]
    refine syq_dropY (yd_take rfl hw.lt (yds_eds (ea_cons (ed_eq (ed_orV (inR kind rfl) fun _ => inC kind rfl) (congrArg D.b hb)) ea_nil))) fun d j' ⟨_, ej⟩ => ?_
    subst ej
    refine syq_setY (yd_g0 path rfl ⟨rfl, hp, hw.next.left⟩) fun d j' ⟨e, ej⟩ => ?_
    subst e ej
    exact q hw.next.right
  have mid : ∀ {kind : Str} {path : List Nat} {rule : Str} {given : List Th} {us : List Str} {k' : Nat} {t : TS} {P' : Pq Nat}, Wat ws k' (rule :: (thsW given ++ us)) → goOk path rule given →
      (Wat ws (k' + 1 + (thsW given).length) us → SY (rM mg r l ws) (k' + 1 + (thsW given).length) t [.r (.ref r), .d (.s kind), .d (.t (natsD path)), .d (.s rule), .d (.t (given.map thD))] P') → SY (rM mg r l ws) k' (tSeq (tAsg (tMeth (C_Reader mg) "ahead" (spY (rM mg r l ws) (.ref r) (preA ws.length) (relA ws)) [] C8.E0 (tVar 0) tNil) (gName 3)) (tSeq (tDrop (tMeth (C_Reader mg) "take" (spY (rM mg r l ws) (.ref r) (preT ws.length) (relT ws)) [] C8.E0 (tVar 0) (tCons (tOp rNotN (tCall (spR R_ko) [] C8.E0 (tCons (tVar 3) tNil)) (tC .non)) tNil))) (tSeq (tAsg (tCall (spTh K mg r l ws) [] C8.E0 (tCons (tVar 0) (tCons (tKGet2 K a_TOLD (tVar 3) (tTup tNil)) tNil))) (gName 4)) t))) [.r (.ref r), .d (.s kind), .d (.t (natsD path)), .no, .no] P' := fun {kind path rule given us k' t P'} hw ok q => by
    refine syq_setY (yd_ahead rfl hw.le) fun d j ⟨e, ej⟩ => ?_
    subst e ej
    rw [hw.gw]
    refine syq_dropY (yd_take rfl hw.lt (yds_eds (ea_cons (ed_op (ed_call (ea_cons (ed_var rfl) ea_nil) ⟨rule, ok.2.1, rfl, rfl⟩) ed_non rd_notS) ea_nil))) fun d j' ⟨_, ej⟩ => ?_
    subst ej
    refine syq_setY (yd_told rfl rfl (hT rule) ok.2.2.1 ok.2.2.2 hw.next) fun d j' ⟨e, ej⟩ => ?_
    subst e ej
    exact q hw.next.right
  cases s with
  | cl kind path n =>
    obtain ⟨hk, hp, hn⟩ := ok
    have hkb : decide (kind ∈ (["claim", "undo"] : List Str)) = true := by rcases hk with rfl | rfl <;> decide
    refine start (us := [nW n]) hw hp (by rw [hkb, Bool.or_true]) fun hw2 => ?_
    refine syq_if (b := true) (et_eq (et_test (inC kind rfl)) hkb) (fun _ => ?_) (fun h => by cases h)
    refine syq_retY (R := fun z j => z = stpD (.cl kind path n) ∧ j = k + (stpW (.cl kind path n)).length) (yd_imp (yd_tup (ys_ced (ed_var rfl) (ys_ced (ed_var rfl) (ys_one (yd_num rfl hn hw2)))) fun ds j ⟨d1, e1, d2, e2, d3, e3, _⟩ => by rw [e1, e2, e3]; exact small4 (Nat.le_of_ble_eq_true rfl)) fun z j ⟨ds, e, d1, e1, d2, e2, d3, e3, e4, ej⟩ => ⟨by rw [e, e1, e2, e3, e4]; rfl, ?_⟩) fun d j h => h
    show j = k + (kind :: (thW (.is path) ++ [nW n])).length
    rw [ej, List.length_cons, List.length_append]
    show _ = k + (_ + 1 + 1)
    omega
  | go path rule given =>
    refine start (us := rule :: thsW given) hw ok.1 (by decide) fun hw2 => ?_
    refine syq_if (b := false) (et_eq (et_test (inC "go" rfl)) (by decide)) (fun h => by cases h) (fun _ => ?_)
    refine mid (us := []) (by rw [List.append_nil]; exact hw2) ok fun _ => ?_
    refine syq_if (b := true) (et_test (ed_op (ed_var rfl) ed_str (rd_eqSb (by decide)))) (fun _ => ?_) (fun h => by cases h)
    refine syq_ret (ed_tup (ea_cons (ed_var rfl) (ea_cons (ed_var rfl) (ea_cons (ed_var rfl) (ea_cons (ed_var rfl) ea_nil)))) (small4 (Nat.le_of_ble_eq_true rfl))) ⟨rfl, ?_⟩
    show _ = k + (("go" : Str) :: (thW (.is path) ++ (rule :: thsW given))).length
    rw [List.length_cons, List.length_append, List.length_cons]
    omega
  | back path rule given t =>
    obtain ⟨ok, ht⟩ := ok
    refine start (us := rule :: (thsW given ++ wd t)) hw ok.1 (by decide) fun hw2 => ?_
    refine syq_if (b := false) (et_eq (et_test (inC "back" rfl)) (by decide)) (fun h => by cases h) (fun _ => ?_)
    refine mid (us := wd t) hw2 ok fun hw3 => ?_
    refine syq_if (b := false) (et_test (ed_op (ed_var rfl) ed_str (rd_eqSb (by decide)))) (fun h => by cases h) (fun _ => ?_)
    refine sy_retY (R := fun z j => z = stpD (.back path rule given t) ∧ j = k + (stpW (.back path rule given t)).length) (yd_imp (yd_tup (ys_ced (ed_var rfl) (ys_ced (ed_var rfl) (ys_ced (ed_var rfl) (ys_ced (ed_var rfl) (ys_one (yd_callGs (Pre := fun (x : Tm) => preWh (r, l, ws, x)) (R := fun (x : Tm) => relP x) t (fun vs H Q E h => ⟨(r, l, ws, t), h⟩) rfl (yds_eds ea_nil) fun xs j ⟨e, ej⟩ => ⟨e, ht.1, by subst ej; exact hw3⟩)))))) fun ds j ⟨d1, e1, d2, e2, d3, e3, d4, e4, d5, e5, _⟩ => by rw [e1, e2, e3, e4, e5]; exact small4 (Nat.le_of_ble_eq_true rfl)) fun z j ⟨ds, e, d1, e1, d2, e2, d3, e3, d4, e4, d5, e5, xs, j0, ⟨_, ej0⟩, e6, ej⟩ => ⟨by rw [e, e1, e2, e3, e4, e5, e6]; rfl, ?_⟩) fun d j h => h
    show j = k + (("back" : Str) :: (thW (.is path) ++ (rule :: (thsW given ++ wd t)))).length
    rw [ej, ej0, List.length_cons, List.length_append, List.length_cons, List.length_append]
    omega
def hdG : Ent → List Tg
  | .der t ss => [.th (.n ss.length)]
  | .ctx k t => [.th (.n k)]
  | .chain a b => [.th (.n a), .th (.n b)]
  | .rcn a b t ps => [.th (.n a), .th (.n b), .ps ps]
def hdK : Ent → Str
  | .der _ _ => "derived"
  | .ctx _ _ => "context"
  | .chain _ _ => "chain"
  | .rcn _ _ _ _ => "recursion"
theorem hd_w (e : Ent) : headL e = hdK e :: tgsW (hdG e) := by
  cases e with
  | der t ss => rfl
  | ctx k t => rfl
  | chain a b => rfl
  | rcn a b t ps =>
    show _ = ("recursion" : Str) :: nW a :: nW b :: ((nW ps.length :: psW ps) ++ [])
    rw [List.append_nil]
    rfl
theorem hd_ok {e : Ent} (h : entOk e) : ∀ t ∈ hdG e, tgOk t := by
  cases e with
  | der t ss => intro x m; cases List.mem_singleton.mp m; exact h.2.1
  | ctx k t => intro x m; cases List.mem_singleton.mp m; exact h.1
  | chain a b =>
    intro x m
    rcases List.mem_cons.mp m with rfl | m
    · exact h.1
    · cases List.mem_singleton.mp m
      exact h.2
  | rcn a b t ps =>
    intro x m
    rcases List.mem_cons.mp m with rfl | m
    · exact h.1
    rcases List.mem_cons.mp m with rfl | m
    · exact h.2.1
    · cases List.mem_singleton.mp m
      exact h.2.2.2
def hdD (e : Ent) : D := .t (.s (hdK e) :: (hdG e).map tgD)
def preHd (ws : List Str) (e : Ent) (k : Nat) (ds : List D) : Prop := ds = [] ∧ entOk e ∧ Wat ws k (headL e)
def relHd (e : Ent) (k : Nat) (_ : List D) (d : D) (j : Nat) : Prop := d = hdD e ∧ j = k + (headL e).length
theorem fk_read_head (F : Facts K mg w) (r l : Addr) (ws : List Str) (f : Addr) (fd : FuncData) (hf : L2.Fun K "read_head" "read_head" s_read_head f fd) : FnOk P w K mg base CX0 7 f fd ["reader"] (spG (rM mg r l ws) (.ref r) (preHd ws) relHd) := fn_ex fun e => by
  have m_Reader_ahead := k_ahead (P := P) (w := w) (base := base) F r l ws
  have m_Reader_take := k_take (P := P) (w := w) (base := base) F r l ws
  have c_read_things := k_read_things (P := P) (w := w) (base := base) F r l ws
  obtain ⟨a_HEADS, es_H, n_H, h_HEADS, D_HEADS, t0, t1, t2, t3, tm⟩ := F.g_HEADS
  have hH : ∃ a, PySem.W.nsIn K a_HEADS (hdK e) = some (some (.ref a)) ∧ KTup K a (((hdG e).map tgF).map V.str) := by
    cases e with
    | der t ss => exact t0
    | ctx k t => exact t1
    | chain a b => exact t2
    | rcn a b t ps => exact t3
  obtain ⟨a, hn, hK⟩ := hH
  have hl : (hdG e).length ≤ 3 := by
    cases e with
    | der t ss => show 1 ≤ 3; decide
    | ctx k t => show 1 ≤ 3; decide
    | chain a b => show 2 ≤ 3; decide
    | rcn a b t ps => show 3 ≤ 3; decide
  refine fn_Y hf sc_read_head (fun _ ds ⟨e, _⟩ => by subst e; rfl) (fun cdv A outer s' H E hr => ⟨_, (pss_cons (ps_set (i := 1) sc_read_head.nd rfl (Or.inl rfl) (C8.pe_mt0 m_Reader_ahead hr (by first | decide | omega) (pv 0)))
    (pss_cons (ps_expr (C8.pe_mt m_Reader_take hr (by first | decide | omega) (pv 0) (pa_cons (pe_cmpR (op_in_kd D_HEADS) (pv 1) (pe_glob (v := V.ref a_HEADS) rfl h_HEADS rfl) rfl) pa_nil)))
    (pss_one (ps_ret (pe_tup (pa_cons (pv 1) (Nz.paStar (K := K) (C8.pe_c c_read_things hr (by first | decide | omega) rfl (pa_cons (pv 0) (pa_cons (pe_ix (Nz.ix_kd D_HEADS) (pe_glob (v := V.ref a_HEADS) rfl h_HEADS rfl) (pv 1) (fun _ _ => rfl)) pa_nil))) pa_nil))))))), fun k ds hP => ?_⟩)
  obtain ⟨rfl, ok, hw⟩ := hP
  have elen : (headL e).length = 1 + (tgsW (hdG e)).length := by rw [hd_w, List.length_cons]; omega
  rw [hd_w] at hw
  refine syq_setY (yd_ahead rfl hw.le) fun d j ⟨e1, ej⟩ => ?_
  subst e1 ej
  rw [hw.gw]
  refine syq_dropY (yd_take rfl hw.lt (yds_eds (ea_cons (ed_inKD (K := K) (ed_var rfl) hn) ea_nil))) fun d j' ⟨_, ej⟩ => ?_
  subst ej
  refine sy_retY (R := fun z i => z = hdD e ∧ i = j + (headL e).length) (yd_imp (yd_tup (ys_ced (ed_var rfl) (ys_starT (R := fun xs i => xs = (hdG e).map tgD ∧ i = j + 1 + (tgsW (hdG e)).length) (fun S A B H σ E wk Q q => ?_))) fun ds i ⟨d1, e1, e2, _⟩ => by rw [e1, e2, List.length_cons, List.length_map]; exact small4 (by omega)) fun z i ⟨ds, e0, d1, e1, e2, ei⟩ => ⟨by rw [e0, e1, e2]; rfl, by rw [ei, elen]; omega⟩) fun d i h => h
  obtain ⟨v, hv, iv⟩ := E.dat 1 _ rfl
  cases iv
  refine ⟨_, E.raw 0 _ rfl, _, hv, _, .ref a, .ref a, rfl, rfl, hn, rfl, .inl ⟨a, hdG e, hK, hd_ok ok, by omega, rfl, _, [], [], j + 1, rfl, E.dmx, fun a s => .inl (wk.vol a s).1, wk.j1, (wk.at2 wk.j1).k2 E, rfl, ⟨rfl, hw.next⟩, fun d m w' H3 r3 g3 j3 k3 => ?_⟩⟩
  exact q w' H3 d m ⟨_, r3.1, rfl, r3.2⟩ g3 j3 k3
end
end Nz
namespace Nz
open PySem L2
def sf (l : Addr) (k : Nat) : List (Str × V) := [("lines", .ref l), ("at", .int (k : Int))]
theorem al : (("at" : Str) == "lines") = false := by decide +kernel
theorem sf_lines (l : Addr) (k : Nat) : (sf l k).lookup ("lines" : Str) = some (.ref l) := by
  unfold sf
  rw [List.lookup_cons, beq_self_eq_true]
theorem sf_at (l : Addr) (k : Nat) : (sf l k).lookup ("at" : Str) = some (.int (k : Int)) := by
  unfold sf
  rw [List.lookup_cons, al, List.lookup_cons, beq_self_eq_true]
theorem sf_no (l : Addr) (k : Nat) {m : Str} (h1 : (m == "lines") = false) (h2 : (m == "at") = false) : (sf l k).lookup m = none := by
  unfold sf
  rw [List.lookup_cons, h1, List.lookup_cons, h2]
  rfl
theorem la : ¬ (("lines" : Str) = "at") := by decide +kernel
theorem sf_put (l : Addr) (k j : Nat) : putF "at" (.int (j : Int)) (sf l k) = sf l j := by
  show (if ("lines" : Str) = "at" then _ else (("lines" : Str), V.ref l) :: (if ("at" : Str) = "at" then [(("at" : Str), V.int (j : Int))] else _)) = _
  rw [if_neg la, if_pos rfl]
  rfl
theorem sf_new (l : Addr) : putF "at" (.int 0) (putF "lines" (.ref l) []) = sf l 0 := by
  show (if ("lines" : Str) = "at" then _ else (("lines" : Str), V.ref l) :: [(("at" : Str), V.int 0)]) = _
  rw [if_neg la]
  rfl
def SoM (C s l : Addr) (xs : List Str) : Fam Nat where
  V := fun a => a = s
  K0 := fun B => B l = some (.lst (xs.map V.str))
  J := fun k H => ∃ dx, H s = some (.ins C dx (sf l k))
  use := fun k H a ⟨dx, h⟩ e => by
    subst e
    rw [h]
    exact fun z => nomatch z
  stay := fun k H H' ⟨dx, h⟩ g => ⟨dx, by rw [g s rfl]; exact h⟩
  up := fun B C h s => s _ _ h
section
variable {K : PySem.W.Frag} {C s l : Addr} {xs : List Str} {k n : Nat} {es : Es}
theorem xd_atS (cl : Cls K C) (na : NoAttr K C "at") (hi : es[n]? = some (.r (.ref s))) : XD ((SoM C s l xs).at k) (tFld K (tVar n) "at") es (fun z => z = .i (k : Int)) := fun S A B H σ E w Q q => by
  obtain ⟨dx, h⟩ := w.j1
  exact ⟨_, E.raw n _ hi, s, C, dx, _, _, rfl, h, cl, na, sf_at l k, q _ H _ rfl (Gr.refl _ H) ⟨dx, h⟩ rfl⟩
theorem xd_lenS (cl : Cls K C) (nw : NoAttr K C "lines") (hi : es[n]? = some (.r (.ref s))) : XD ((SoM C s l xs).at k) (tCB (rLen K) (tCons (tFld K (tVar n) "lines") tNil)) es (fun z => z = .i (xs.length : Int)) := fun S A B H σ E w Q q => by
  obtain ⟨dx, h⟩ := w.j1
  have hl := E.same _ _ w.k0
  exact ⟨_, E.raw n _ hi, s, C, dx, _, _, rfl, h, cl, nw, sf_lines l k, l, _, rfl, .inl (SqL.of hl), q _ H (.i (xs.length : Int)) rfl (Gr.refl _ H) ⟨dx, h⟩ (by show V.int _ = V.int _; rw [List.length_map])⟩
theorem sy_atIncS {u : TS} {P : Pq Nat} (cl : Cls K C) (na : NoAttr K C "at") (hi : es[n]? = some (.r (.ref s))) (q : SY (SoM C s l xs) (k + 1) u es P) : SY (SoM C s l xs) k (tSeq (sFldAug K (tVar n) (tC (.int 1)) rAdd "at") u) es P := fun S A B H σ E w F k' => by
  obtain ⟨dx, h⟩ := w.j1
  refine ⟨_, E.raw n _ hi, s, C, dx, _, _, rfl, h, cl, na, sf_at l k, (k : Int), 1, rfl, rfl, dx, _, h, (by show 2 < 1000; decide), ?_⟩
  have e : (k : Int) + 1 = ((k + 1 : Nat) : Int) := by omega
  rw [e, sf_put]
  exact q S A B _ σ (E.chg (w.vol s rfl).1 (w.vol s rfl).2) ⟨w.vol, w.k0, dx, upd_same⟩ F k'
end
/-- a line: words without blanks, no empty line and no empty word alone *)-/
structure LnOk (ws : List Str) : Prop where
  ok : ∀ u ∈ ws, okWd u
  len : ws.length ≤ 12100
  ne : ws ≠ []
  n1 : ws ≠ [("" : Str)]
theorem LnOk.ws {ws : List Str} (h : LnOk ws) : WsOk ws := ⟨fun w m => (h.ok w m).1, h.n1, Nat.le_trans h.len (by decide), by
  have := sum_10 h.ok
  have := h.len
  omega⟩
theorem spY_imp {ι : Type} {M : Fam ι} {v : V} {Pre Pre' : ι → List D → Prop} {R R' : ι → List D → D → ι → Prop} (hp : ∀ i ds, Pre i ds → Pre' i ds) (hr : ∀ i ds d j, Pre i ds → R' i ds d j → R i ds d j) : ∀ vs H Q E, spY M v Pre R vs H Q E → spY M v Pre' R' vs H Q E := fun vs H Q E ⟨S, ds, us, i, e, dm, hV, j, hK, is, p, q⟩ =>
  ⟨S, ds, us, i, e, dm, hV, j, hK, is, hp i ds p, fun d j w H' r => q d j w H' (hr i ds d j p r)⟩
theorem fn_and {P : Program} {w : World} {K : PySem.W.Frag} {mg : Str → Option Value} {base : Heap} {f : Addr} {fd : FuncData} {ps : List Str} {k : Nat} {sp : Sp} {c : Prop} (h : c → FnOk P w K mg base CX0 k f fd ps sp) : FnOk P w K mg base CX0 k f fd ps (fun vs H Q E => c ∧ sp vs H Q E) :=
  ⟨fun vs H Q E q => (h q.1).len vs H Q E q.2, fun A outer s H args us vs Q E a b c d q => (h q.1).run A outer s H args us vs Q E a b c d q.2⟩
section
variable {P : Program} {w : World} {K : PySem.W.Frag} {mg : Str → Option Value} {base : Heap}
abbrev sM (mg : Str → Option Value) (s l : Addr) (xs : List Str) : Fam Nat := SoM (C_Source mg) s l xs
/-- read(reader), at this address, reads these words as this *)-/
def RdAt (P : Program) (w : World) (K : PySem.W.Frag) (mg : Str → Option Value) (base : Heap) (f0 : Addr) (ws : List Str) (d : D) : Prop := ∃ sp0, C8.CalAt P w K mg base 189 f0 sp0 ∧ ReadsAs mg sp0 ws d
def spTk (P : Program) (w : World) (K : PySem.W.Frag) (mg : Str → Option Value) (base : Heap) (s l : Addr) (xs : List Str) : Sp := fun vs H Q E => ∃ (f0 : Addr) (ws : List Str) (d : D), (RdAt P w K mg base f0 ws d ∧ LnOk ws) ∧ (vs = [.ref s, .ref f0] ∧ spY (sM mg s l xs) (.ref s) (fun k ds => ds = [] ∧ xs[k]? = some (txt ws)) (fun k _ d' j => d' = d ∧ j = k + 1) [.ref s] H Q E)
theorem fk_takeS (F : Facts K mg w) (s l : Addr) (xs : List Str) (f : Addr) (fd : FuncData) (hf : L2.Fun K "take" "Source.take" s_Source_take f fd) : FnOk P w K mg base CX0 191 f fd ["self", "read"] (spTk P w K mg base s l xs) := by
  have c_read_all := k_read_all (P := P) (w := w) (base := base) F
  refine fn_ex fun f0 => fn_ex fun ws => fn_ex fun d0 => fn_and fun ⟨⟨sp0, cal, rd⟩, hw⟩ => fn_YR hf sc_Source_take rfl ⟨1, rfl⟩ (fun _ ds h => h.1) (fun cdv A outer s' H E hr => ⟨_, (pss_cons (ps_if (pt_cmpR op_eq (pe_fld (pv 0) rfl) (pe_callB (Nz.cLen K) rfl F.b_len Nz.boot_len (pa_cons (pe_fld (pv 0) rfl) pa_nil)) (nomark _)) (pss_one ps_dead) pss_nil)
    (pss_cons (ps_try_thru0 (pss_one (ps_set (i := 2) sc_Source_take.nd rfl (Or.inl rfl) (C8.pe_c c_read_all hr (by first | decide | omega) rfl (pa_cons (pe_ix (Nz.ixL K) (pe_fld (pv 0) rfl) (pe_fld (pv 0) rfl) (fun _ _ => rfl)) (pa_cons (pv 1) pa_nil))))))
    (pss_cons (ps_fldaug (pv 0) pe_int in_add)
    (pss_one (ps_ret (pv 2)))))), fun k hP => ?_⟩)
  have hx := hP.2
  have hk : k < xs.length := (List.getElem?_eq_some_iff.mp hx).1
  refine syq_ifY (R := fun b j => b = false ∧ j = k) (yt_xt (xt_test (xd_imp (xd_op (R3 := fun x y z => z = .b false) (xd_atS F.cl_Source F.n_Source_at rfl) (fun _ _ => xd_lenS F.cl_Source F.n_Source_lines rfl) fun x y e1 e2 => ?_) fun d ⟨_, _, _, _, e⟩ => ⟨_, e, rfl⟩))) (fun j ⟨e, _⟩ => (by cases e)) (fun j ⟨_, ej⟩ => ?_)
  · subst e1 e2
    exact ⟨_, rd_eqI, congrArg D.b (decide_eq_false (by omega))⟩
  subst ej
  refine syq_next ?_
  refine syq_setY (R := fun z j' => z = d0 ∧ j' = j) (yd_xd fun S A B H σ E w Q q => ?_) fun d j' ⟨e, ej⟩ => ?_
  · obtain ⟨dx, h⟩ := w.j1
    have hl := E.same _ _ w.k0
    refine ⟨_, E.raw 0 _ rfl, s, _, dx, _, _, rfl, h, F.cl_Source, F.n_Source_lines, sf_lines l j, _, E.raw 0 _ rfl, s, _, dx, _, _, rfl, h, F.cl_Source, F.n_Source_at, sf_at l j, l, _, (j : Int), .str (txt ws), rfl, rfl, SqL.of hl, atI_nat (by rw [List.getElem?_map, hx]; rfl), _, E.raw 1 _ rfl, ?_⟩
    refine ⟨_, ws, d0, f0, sp0, rfl, E.dmx, hw.ws, hw.ne, cal, rd, fun v H' e i => ?_⟩
    exact q v H' d0 rfl (Gr.of e) ⟨dx, e _ _ h⟩ i
  subst e ej
  exact sy_atIncS F.cl_Source F.n_Source_at rfl (sy_ret (ed_var rfl) ⟨rfl, rfl⟩)
theorem k_takeS (F : Facts K mg w) (s l : Addr) (xs : List Str) : C8.Met P w K mg base 191 (C_Source mg) "take" (spTk P w K mg base s l xs) [] := F.m_Source_take.met fun f fd hf => fk_takeS F s l xs f fd hf
theorem yd_takeS {s l f0 : Addr} {xs us : List Str} {ws : List Str} {d0 : D} {n k : Nat} {es : Es} {E0 : XK} (hi : es[n]? = some (.r (.ref s))) (rd : RdAt P w K mg base f0 ws d0) (hw : LnOk ws) (h : Wat xs k (txt ws :: us)) : YD (sM mg s l xs) k (tMeth (C_Source mg) "take" (spTk P w K mg base s l xs) [] E0 (tVar n) (tCons (tC (.ref f0)) tNil)) es (fun z j => z = d0 ∧ j = k + 1) := fun S A B H σ E wk Q q => by
  obtain ⟨dx, hs⟩ := wk.j1
  refine ⟨_, E.raw n _ hi, s, dx, _, rfl, hs, sf_no l k (by decide +kernel) (by decide +kernel), f0, ws, d0, ⟨rd, hw⟩, rfl, _, [], [], k, rfl, E.dmx, fun a z => .inl (wk.vol a z).1, wk.j1, (wk.at2 wk.j1).k2 E, rfl, ⟨rfl, ?_⟩, fun d j w' H' r g j' i => q w' H' d j r g j' i⟩
  have := gw_at h.lt
  rw [h.gw] at this
  exact this
end
end Nz
namespace Nz
open PySem L2
abbrev R3T : Type := Addr × Addr × List Str
section
variable {P : Program} {w : World} {K : PySem.W.Frag} {mg : Str → Option Value} {base : Heap}
def spStA (mg : Str → Option Value) : Sp := fun vs H Q E => ∃ x : R3T, spG (rM mg x.1 x.2.1 x.2.2) (.ref x.1) (preSt x.2.2) relSt vs H Q E
def spHdA (mg : Str → Option Value) : Sp := fun vs H Q E => ∃ x : R3T, spG (rM mg x.1 x.2.1 x.2.2) (.ref x.1) (preHd x.2.2) relHd vs H Q E
theorem CalAt_mono {k j : Nat} {f : Addr} {sp : Sp} (c : C8.CalAt P w K mg base k f sp) (h : k ≤ j) : C8.CalAt P w K mg base j f sp := by
  obtain ⟨fd, ps, F, kp, b⟩ := c.ex
  exact ⟨fd, ps, F.mono h, kp, b⟩
theorem at_step (F : Facts K mg w) : ∃ f, mg "read_whole_step" = some (.ref f) ∧ C8.CalAt P w K mg base 189 f (spStA mg) := F.read_whole_step.at fun f fd hf => fn_ex fun x => (fk_read_whole_step F x.1 x.2.1 x.2.2 f fd hf).mono (by decide)
theorem at_head (F : Facts K mg w) : ∃ f, mg "read_head" = some (.ref f) ∧ C8.CalAt P w K mg base 189 f (spHdA mg) := F.read_head.at fun f fd hf => fn_ex fun x => (fk_read_head F x.1 x.2.1 x.2.2 f fd hf).mono (by decide)
theorem at_whole (F : Facts K mg w) : ∃ f, mg "read_whole" = some (.ref f) ∧ C8.CalAt P w K mg base 189 f (spWh mg) := by
  obtain ⟨f, h1, h2⟩ := k_read_whole (P := P) (w := w) (base := base) F
  exact ⟨f, h1, CalAt_mono h2 (by decide)⟩
theorem Wat_all (ws : List Str) : Wat ws 0 ws := ⟨[], by rw [List.drop_zero, List.append_nil]⟩
theorem rd_step {f : Addr} (c : C8.CalAt P w K mg base 189 f (spStA mg)) {s : Stp} (h : stpOk s) : RdAt P w K mg base f (stpW s) (stpD s) :=
  ⟨_, c, fun r l vs H Q E q => ⟨(r, l, stpW s), s, spY_imp (fun i ds ⟨e1, e2⟩ => ⟨e1, h, by subst e2; exact Wat_all _⟩) (fun i ds d j ⟨e1, e2⟩ ⟨e3, e4⟩ => ⟨e3, by rw [e4, e2]; omega⟩) vs H Q E q⟩⟩
theorem rd_head {f : Addr} (c : C8.CalAt P w K mg base 189 f (spHdA mg)) {e : Ent} (h : entOk e) : RdAt P w K mg base f (headL e) (hdD e) :=
  ⟨_, c, fun r l vs H Q E q => ⟨(r, l, headL e), e, spY_imp (fun i ds ⟨e1, e2⟩ => ⟨e1, h, by subst e2; exact Wat_all _⟩) (fun i ds d j ⟨e1, e2⟩ ⟨e3, e4⟩ => ⟨e3, by rw [e4, e2]; omega⟩) vs H Q E q⟩⟩
theorem rd_whole {f : Addr} (c : C8.CalAt P w K mg base 189 f (spWh mg)) {t : Tm} (h : tmOk t) : RdAt P w K mg base f (wd t) (enc t) :=
  ⟨_, c, fun r l vs H Q E q => ⟨(r, l, wd t, t), spY_imp (fun i ds ⟨e1, e2⟩ => ⟨e1, h.1, by subst e2; exact Wat_all _⟩) (fun i ds d j ⟨e1, e2⟩ ⟨e3, e4⟩ => ⟨e3, by rw [e4, e2]; exact Nat.zero_add _⟩) vs H Q E q⟩⟩
theorem ln_wd {t : Tm} (h : tmOk t) : LnOk (wd t) := ⟨(tm_wd h).1, (tm_wd h).2.1, (tm_wd h).2.2, fun z => by
  have := wd_ok t h.1.1 h.1.2.1 "" (by rw [z]; simp)
  have e : ("" : Str).length = 0 := by decide +kernel
  have := this.2.1
  omega⟩
theorem ln_stp {s : Stp} (h : stpOk s) : LnOk (stpW s) := ⟨(stp_ok h).1, (stp_ok h).2.1, (stp_ok h).2.2, fun z => by
  cases s with
  | cl kind path k =>
    have : (kind :: (thW (.is path) ++ [nW k])) = [("" : Str)] := z
    have := congrArg List.length this
    rw [List.length_cons, List.length_append] at this
    simp at this
  | go path rule given =>
    have : ("go" : Str) :: (thW (.is path) ++ (rule :: thsW given)) = [("" : Str)] := z
    have := congrArg List.length this
    rw [List.length_cons, List.length_append, List.length_cons] at this
    simp at this
  | back path rule given t =>
    have : ("back" : Str) :: (thW (.is path) ++ (rule :: (thsW given ++ wd t))) = [("" : Str)] := z
    have := congrArg List.length this
    rw [List.length_cons, List.length_append, List.length_cons] at this
    simp at this⟩
theorem ln_head {e : Ent} (h : entOk e) : LnOk (headL e) := ⟨(head_ok h).1, (head_ok h).2.1, (head_ok h).2.2, fun z => by
  cases e with
  | der t ss => cases (List.cons.inj z).2
  | ctx k t => cases (List.cons.inj z).2
  | chain a b => cases (List.cons.inj z).2
  | rcn a b t ps => cases (List.cons.inj z).2⟩
def preEn (xs : List Str) (e : Ent) (k : Nat) (ds : List D) : Prop := ds = [] ∧ entOk e ∧ Wat xs k ((entL e).map txt)
def relEn (e : Ent) (k : Nat) (_ : List D) (d : D) (j : Nat) : Prop := d = entD e ∧ j = k + (entL e).length
theorem fk_read_entry (F : Facts K mg w) (s l : Addr) (xs : List Str) (f : Addr) (fd : FuncData) (hf : L2.Fun K "read_entry" "read_entry" s_read_entry f fd) : FnOk P w K mg base CX0 192 f fd ["source"] (spG (sM mg s l xs) (.ref s) (preEn xs) relEn) := by
  have m_Source_take := k_takeS (P := P) (w := w) (base := base) F s l xs
  obtain ⟨fa_read_head, hm_read_head, a1⟩ := at_head (P := P) (w := w) (base := base) F
  obtain ⟨fa_read_whole, hm_read_whole, a2⟩ := at_whole (P := P) (w := w) (base := base) F
  obtain ⟨fa_read_whole_step, hm_read_whole_step, a3⟩ := at_step (P := P) (w := w) (base := base) F
  refine fn_ex fun e => fn_Y hf sc_read_entry (fun _ ds ⟨e, _⟩ => by subst e; rfl) (fun cdv A outer s' H E hr => ⟨_, (pss_cons (ps_set (i := 1) sc_read_entry.nd rfl (Or.inl rfl) (C8.pe_mt m_Source_take hr (by first | decide | omega) (pv 0) (pa_cons (pe_glob (v := V.ref fa_read_head) rfl hm_read_head rfl) pa_nil)))
    (pss_cons (ps_if (pt_cmpR op_eq (pe_ix (Nz.ixT K) (pv 1) pe_int (fun _ _ => rfl)) pe_str (nomark _)) (pss_one (ps_ret (pv 1))) pss_nil)
    (pss_cons (ps_set (i := 2) sc_read_entry.nd rfl (Or.inl rfl) (C8.pe_mt m_Source_take hr (by first | decide | omega) (pv 0) (pa_cons (pe_glob (v := V.ref fa_read_whole) rfl hm_read_whole rfl) pa_nil)))
    (pss_cons (ps_if (pt_cmpR op_eq (pe_ix (Nz.ixT K) (pv 1) pe_int (fun _ _ => rfl)) pe_str (nomark _)) (pss_one (ps_ret (pe_tup (Nz.paStar (K := K) (pv 1) (pa_cons (pv 2) pa_nil))))) pss_nil)
    (pss_cons (ps_if (pt_cmpR op_eq (pe_ix (Nz.ixT K) (pv 1) pe_int (fun _ _ => rfl)) pe_str (nomark _)) (pss_one (ps_ret (pe_tup (Nz.paStar (K := K) (pe_slice (Nz.slA K) (pv 1) po_none (po_some pe_int)) (pa_cons (pv 2) (pa_cons (pe_ix (Nz.ixT K) (pv 1) pe_int (fun _ _ => rfl)) pa_nil)))))) pss_nil)
    (pss_cons (ps_set (i := 3) sc_read_entry.nd rfl (Or.inl rfl) (pe_lst pa_nil))
    (pss_cons (ps_for PassesOwn.never rfl (pi_range1 rfl F.b_range (pa_cons (pe_ix (Nz.ixT K) (pv 1) pe_int (fun _ _ => rfl)) pa_nil)) (pg_name (i := 4) sc_read_entry.nd rfl (Or.inl rfl)) (pss_one (ps_expr (pe_bm PySem.F.plainAttrs_list PySem.F.slot_list_append PySem.F.type_list_append mt_append (pv 3) (pa_cons (C8.pe_mt m_Source_take hr (by first | decide | omega) (pv 0) (pa_cons (pe_glob (v := V.ref fa_read_whole_step) rfl hm_read_whole_step rfl) pa_nil)) pa_nil)))))
    (pss_one (ps_ret (pe_tup (pa_cons pe_str (pa_cons (pv 2) (pa_cons (pe_callTy (Nz.cTup K) rfl F.b_tuple Nz.boot_tuple (pa_cons (pv 3) pa_nil)) pa_nil))))))))))))), fun k ds hP => ?_⟩)
  obtain ⟨rfl, ok, hw⟩ := hP
  have r1 := rd_head a1 ok
  have l1 := ln_head ok
  cases e with
  | chain a b =>
    refine syq_setY (yd_takeS rfl r1 l1 (us := []) hw) fun d j ⟨e, ej⟩ => ?_
    subst e ej
    refine syq_if (b := true) (et_test (ed_op (ed_op (ed_var rfl) ed_int rd_ixT0) ed_str (rd_eqSb (show decide (("chain" : Str) = "chain") = true by decide)))) (fun _ => ?_) (fun h => by cases h)
    exact syq_ret (ed_var rfl) ⟨rfl, rfl⟩
  | ctx n t =>
    have hw : Wat xs k (txt (headL (.ctx n t)) :: txt (wd t) :: []) := hw
    refine syq_setY (yd_takeS rfl r1 l1 hw) fun d j ⟨e, ej⟩ => ?_
    subst e ej
    refine syq_if (b := false) (et_test (ed_op (ed_op (ed_var rfl) ed_int rd_ixT0) ed_str (rd_eqSb (show decide (("context" : Str) = "chain") = false by decide)))) (fun h => by cases h) (fun _ => ?_)
    refine syq_setY (yd_takeS rfl (rd_whole a2 ok.2) (ln_wd ok.2) hw.next) fun d j ⟨e, ej⟩ => ?_
    subst e ej
    refine syq_if (b := true) (et_test (ed_op (ed_op (ed_var rfl) ed_int rd_ixT0) ed_str (rd_eqSb (show decide (("context" : Str) = "context") = true by decide)))) (fun _ => ?_) (fun h => by cases h)
    exact syq_ret (ed_tup (ea_starT (ed_var rfl) (ea_cons (ed_var rfl) ea_nil)) (short_size rfl)) ⟨rfl, rfl⟩
  | rcn a b t ps =>
    have hw : Wat xs k (txt (headL (.rcn a b t ps)) :: txt (wd t) :: []) := hw
    have ht := ok.2.2.1
    refine syq_setY (yd_takeS rfl r1 l1 hw) fun d j ⟨e, ej⟩ => ?_
    subst e ej
    refine syq_if (b := false) (et_test (ed_op (ed_op (ed_var rfl) ed_int rd_ixT0) ed_str (rd_eqSb (show decide (("recursion" : Str) = "chain") = false by decide)))) (fun h => by cases h) (fun _ => ?_)
    refine syq_setY (yd_takeS rfl (rd_whole a2 ht) (ln_wd ht) hw.next) fun d j ⟨e, ej⟩ => ?_
    subst e ej
    refine syq_if (b := false) (et_test (ed_op (ed_op (ed_var rfl) ed_int rd_ixT0) ed_str (rd_eqSb (show decide (("recursion" : Str) = "context") = false by decide)))) (fun h => by cases h) (fun _ => ?_)
    refine syq_if (b := true) (et_test (ed_op (ed_op (ed_var rfl) ed_int rd_ixT0) ed_str (rd_eqSb (show decide (("recursion" : Str) = "recursion") = true by decide)))) (fun _ => ?_) (fun h => by cases h)
    exact syq_ret (ed_tup (ea_starT (xs := [.s "recursion", .i (a : Int), .i (b : Int)]) (ed_eq (ed_slT (ed_var rfl) eo_none (eo_some ed_int)) rfl) (ea_cons (ed_var rfl) (ea_cons (ed_op (ed_var rfl) ed_int (rd_ixT (atI_nat (j := 3) rfl))) ea_nil))) (short_size rfl)) ⟨rfl, rfl⟩
  | der t ss =>
    obtain ⟨ht, hl, hs⟩ := ok
    have hw : Wat xs k (txt (headL (.der t ss)) :: txt (wd t) :: (ss.map stpW).map txt) := hw
    refine syq_setY (yd_takeS rfl r1 l1 hw) fun d j ⟨e, ej⟩ => ?_
    subst e ej
    refine syq_if (b := false) (et_test (ed_op (ed_op (ed_var rfl) ed_int rd_ixT0) ed_str (rd_eqSb (show decide (("derived" : Str) = "chain") = false by decide)))) (fun h => by cases h) (fun _ => ?_)
    refine syq_setY (yd_takeS rfl (rd_whole a2 ht) (ln_wd ht) hw.next) fun d j ⟨e, ej⟩ => ?_
    subst e ej
    refine syq_if (b := false) (et_test (ed_op (ed_op (ed_var rfl) ed_int rd_ixT0) ed_str (rd_eqSb (show decide (("derived" : Str) = "context") = false by decide)))) (fun h => by cases h) (fun _ => ?_)
    refine syq_if (b := false) (et_test (ed_op (ed_op (ed_var rfl) ed_int rd_ixT0) ed_str (rd_eqSb (show decide (("derived" : Str) = "recursion") = false by decide)))) (fun h => by cases h) (fun _ => ?_)
    refine syq_setO (el_lst ea_nil (Nat.zero_le _)) ?_
    refine sy_seq (fun e i => ∃ κ, e = [.r (.ref s), .d (hdD (.der t ss)), .d (enc t), .o (.l (ss.map stpD)), κ] ∧ i = k + (entL (.der t ss)).length) ?_ ?_
    · refine sy_forY (ysrc_xsrc (xsrc_of (src_rng (n := ss.length) (ea_cons (ed_op (ed_var rfl) ed_int rd_ixT1) ea_nil) (by omega)))) (fun ds i e i' => ds = rngD ss.length ∧ ∃ κ, e = [.r (.ref s), .d (hdD (.der t ss)), .d (enc t), .o (.l ((ss.take i).map stpD)), κ] ∧ Wat xs i' (((ss.drop i).map stpW).map txt) ∧ i' = k + 2 + i)
        (fun ds i' ⟨e, ei⟩ => ⟨e, .no, rfl, by rw [ei, List.drop_zero]; exact hw.next.next, by omega⟩) (fun ds i d e i' hd he => ?_) (fun ds e i' he => ?_)
      · obtain ⟨eds, κ, rfl, hw2, hj⟩ := he
        subst eds
        obtain ⟨hi, rfl⟩ := rng_lt hd
        rw [drop_cons hi] at hw2
        have hw2 : Wat xs i' (txt (stpW ss[i]) :: (((ss.drop (i + 1)).map stpW).map txt)) := hw2
        have so := hs _ (List.getElem_mem hi)
        refine ⟨_, gd_name, ?_⟩
        refine sy_appY rfl (yd_takeS rfl (rd_step a3 so) (ln_stp so) hw2) (by rw [List.length_map, List.length_take]; exact Nat.lt_of_le_of_lt (show _ ≤ 1000 by omega) (by decide)) fun d' i'' ⟨e, ei⟩ => ?_
        subst e ei
        refine ⟨rfl, .d (.i (i : Int)), ?_, hw2.next, by omega⟩
        rw [take_snoc hi, List.map_append]
        rfl
      · obtain ⟨eds, κ, rfl, hw2, hj⟩ := he
        subst eds
        rw [rng_len] at hj
        rw [rng_len, List.take_length]
        refine ⟨κ, rfl, ?_⟩
        show _ = k + (headL (.der t ss) :: wd t :: ss.map stpW).length
        rw [List.length_cons, List.length_cons, List.length_map]
        omega
    · rintro e i ⟨κ, rfl, ei⟩
      exact sy_ret (ed_tup (ea_cons ed_str (ea_cons (ed_var rfl) (ea_cons (ed_tupo rfl) ea_nil))) (short_size rfl)) ⟨rfl, ei⟩
end
end Nz
namespace Nz
open PySem L2
/-- Source(lines) *)-/
def spInitS (C : Addr) : Sp := fun vs H Q _ => ∃ r l dx, vs = [.ref r, .ref l] ∧ H r = some (.ins C dx []) ∧ Q .non (upd H r (.ins C dx (sf l 0)))
theorem make_startS {C : Addr} {te : TE} {es : Es} {n : Nat} {u : TS} {P : Po} {xs : List Str} {E0 : XK} (h : ED te es (.l (xs.map D.s))) (k : ∀ r l, SY (SoM C r l xs) 0 u (es.set n (.r (.ref r))) ⟨fun _ _ => False, fun d _ => P.rt d, fun d _ => P.rl d, fun _ _ => False, fun _ _ => False⟩) : SD W0 (tSeq (tAsg (tMake C (spInitS C) [] E0 (tCons te tNil)) (gName n)) u) es P := fun S A B H σ E w F q =>
  h S A B H σ E _ fun v H2 e is => by
    obtain ⟨p, vs, rfl, np, hp, is⟩ := is
    intro x dx hx hdx ne
    have nx : x ≠ dx := fun z => ne z.symm
    refine ⟨x, p, dx, rfl, upd_same, rfl, ?_⟩
    rw [upd_upd]
    have E2 := E.mono e
    obtain rfl := IsDs.strs is
    obtain ⟨C', E3, sBC, gr, _⟩ := E2.cut (fun _ => False) fun a z => z.elim
    have hC : C' p = some (.lst (xs.map V.str)) := gr p _ np hp
    have s2 : Same H2 (upd (upd H2 dx (.own x)) x (.ins C dx (sf p 0))) := fun b o z => by
      have n1 : b ≠ x := fun y => by rw [y, hx] at z; cases z
      have n2 : b ≠ dx := fun y => by rw [y, hdx] at z; cases z
      rw [upd_ne n1, upd_ne n2]
      exact z
    have E4 := E3.vol (p := x) s2 hx (by rw [upd_same]; exact fun z => nomatch z)
    have Cx : C' x = none := E3.same.free hx
    refine k x p _ A C' _ _ E4.setR ⟨fun a z => ?_, hC, dx, upd_same⟩ F ⟨fun _ _ _ _ _ z => z.elim, fun d v H' j r s _ i => ?_, fun xs p' vs' H' j r s _ m n a i => ?_, fun _ _ _ _ _ z => z.elim, fun _ _ _ _ _ z => z.elim⟩
    · cases z
      exact ⟨.inr rfl, Cx⟩
    · exact q.rt d v H' r (sBC.trans s) trivial (i.wide fun a z => .inl z)
    · exact q.rl xs p' vs' H' r (sBC.trans s) trivial (sBC.free m) (fun z => n (.inl z)) a (i.wide fun a z => by
        rcases z with z | z
        · exact .inl (.inl z)
        · exact .inr z)
section
variable {P : Program} {w : World} {K : PySem.W.Frag} {mg : Str → Option Value} {base : Heap}
theorem k_initS (F : Facts K mg w) : C8.Mak P w K mg base 1 "Source" (C_Source mg) (spInitS (C_Source mg)) [] := by
  refine F.k_Source.mak fun f fd hf => hf.ok sc_Source___init__ (fun vs H Q E h => ?_) (fun cdv A outer s H vs Q E hr h => ⟨_, (pss_cons (ps_fld (pv 0) (pv 1) rfl)
    (pss_one (ps_fld (pv 0) pe_int rfl))), ?_⟩)
  · obtain ⟨r, l, dx, rfl, _⟩ := h
    rfl
  obtain ⟨r, l, dx, rfl, h1, k⟩ := h
  refine ⟨_, rfl, _, rfl, r, _, dx, [], rfl, h1, F.cl_Source, F.n_Source_lines, (by show 0 < 1000; decide), _, rfl, r, _, dx, _, rfl, upd_same, F.cl_Source, F.n_Source_at, (by show 1 < 1000; decide), ?_⟩
  rw [upd_upd]
  have e : putF "at" (.int 0) (putF "lines" (.ref l) []) = sf l 0 := sf_new l
  show Q .non (upd H r (.ins _ dx (putF "at" (.int 0) (putF "lines" (.ref l) []))))
  rw [e]
  exact k
/-- Source(..).take(..) *)-/
theorem ed_makeTake {te : TE} {es : Es} {xs us : List Str} {ws : List Str} {d0 : D} {f0 : Addr} {E0 E1 : XK} (h : ED te es (.l (xs.map D.s))) (rd : RdAt P w K mg base f0 ws d0) (hw : LnOk ws) (hx : xs = txt ws :: us) (T : Sp) (hT : ∀ s l vs H Q E, spTk P w K mg base s l xs vs H Q E → T vs H Q E) : ED (tMeth (C_Source mg) "take" T [] E1 (tMake (C_Source mg) (spInitS (C_Source mg)) [] E0 (tCons te tNil)) (tCons (tC (.ref f0)) tNil)) es d0 := fun S A B H σ E Q q =>
  h S A B H σ E _ fun v H2 e is => by
    obtain ⟨p, vs, rfl, np, hp, is⟩ := is
    intro x dx hx' hdx ne
    have nx : x ≠ dx := fun z => ne z.symm
    refine ⟨x, p, dx, rfl, upd_same, rfl, ?_⟩
    rw [upd_upd]
    obtain rfl := IsDs.strs is
    have px : p ≠ x := fun z => by rw [z, hx'] at hp; cases hp
    have pd : p ≠ dx := fun z => by rw [z, hdx] at hp; cases hp
    have s2 : Same H2 (upd (upd H2 dx (.own x)) x (.ins (C_Source mg) dx (sf p 0))) := fun b o z => by
      have n1 : b ≠ x := fun y => by rw [y, hx'] at z; cases z
      have n2 : b ≠ dx := fun y => by rw [y, hdx] at z; cases z
      rw [upd_ne n1, upd_ne n2]
      exact z
    have E4 := (E.mono e).mono s2
    refine ⟨x, dx, _, rfl, upd_same, sf_no p 0 (by decide +kernel) (by decide +kernel), ?_⟩
    refine hT x p _ _ _ _ ⟨f0, ws, d0, ⟨rd, hw⟩, rfl, (fun a => Sx S A es a ∨ a = x), [], [], 0, rfl, ?_, fun a z => .inr z, ⟨dx, upd_same⟩, fun B' hB1 hB2 => ?_, rfl, ⟨rfl, by rw [hx]; rfl⟩, fun d j w' H' r g j' i => ?_⟩
    · intro a z
      rcases z with z | z
      · exact E4.dmx a z
      · rw [z, upd_same]
        exact fun z => nomatch z
    · exact hB2 p _ px (by rw [upd_ne px, upd_ne pd]; exact hp)
    · have sm : Same H H' := fun b o z => by
        have z2 := e b o z
        have n1 : b ≠ x := fun y => by rw [y, hx'] at z2; cases z2
        exact g b o n1 (s2 b o z2)
      have ed := r.1
      subst ed
      exact q w' H' sm (i.wide fun a z => .inl z)
def R_rs (ds : List D) (d : D) : Prop := ∃ s, stpOk s ∧ ds = [.s (txt (stpW s))] ∧ d = stpD s
/-- take, of any source *)-/
def spTkA (P : Program) (w : World) (K : PySem.W.Frag) (mg : Str → Option Value) (base : Heap) : Sp := fun vs H Q E => ∃ x : R3T, spTk P w K mg base x.1 x.2.1 x.2.2 vs H Q E
theorem k_takeA (F : Facts K mg w) : C8.Met P w K mg base 191 (C_Source mg) "take" (spTkA P w K mg base) [] := F.m_Source_take.met fun f fd hf => fn_ex fun x => fk_takeS F x.1 x.2.1 x.2.2 f fd hf
theorem k_read_step (F : Facts K mg w) : C8.Cal P w K mg base 192 "read_step" (spR R_rs) [] := by
  have k_Source := k_initS (P := P) (w := w) (base := base) F
  have m_Source_take := k_takeA (P := P) (w := w) (base := base) F
  obtain ⟨fa_read_whole_step, hm_read_whole_step, a3⟩ := at_step (P := P) (w := w) (base := base) F
  refine F.read_step.R sc_read_step (by decide) (fun ds d h => ?_) (fun f cdv A outer s H E hr => ⟨_, (pss_one (ps_ret (C8.pe_mt m_Source_take hr (by first | decide | omega) (C8.pe_mk k_Source hr (by first | decide | omega) rfl (pa_cons (pe_lst (pa_cons (pv 0) pa_nil)) pa_nil)) (pa_cons (pe_glob (v := V.ref fa_read_whole_step) rfl hm_read_whole_step rfl) pa_nil)))), fun ds d h => ?_⟩)
  · obtain ⟨s, _, rfl, _⟩ := h
    rfl
  obtain ⟨s, ok, rfl, rfl⟩ := h
  exact sd_ret (ed_makeTake (xs := [txt (stpW s)]) (EL.toD (el_lst (ea_cons (ed_var rfl) ea_nil) (short_size rfl))) (rd_step a3 ok) (ln_stp ok) rfl _ fun s' l vs H Q E h => ⟨(s', l, _), h⟩) rfl
theorem libL_take {es : List Ent} {i : Nat} (h : i < es.length) : libL (es.take (i + 1)) = libL (es.take i) ++ entL es[i] := by
  unfold libL
  rw [take_snoc h, List.map_append, List.flatten_append]
  simp
theorem entL_pos (e : Ent) : 1 ≤ (entL e).length := by
  cases e with
  | der t ss => show 1 ≤ (headL (.der t ss) :: wd t :: ss.map stpW).length; rw [List.length_cons]; omega
  | ctx k t => show 1 ≤ 2; decide
  | chain a b => show 1 ≤ 1; decide
  | rcn a b t ps => show 1 ≤ 2; decide
theorem libL_ge : ∀ es : List Ent, es.length ≤ (libL es).length
  | [] => Nat.zero_le _
  | e :: r => by
    have := libL_ge r
    have := entL_pos e
    have e1 : libL (e :: r) = entL e ++ libL r := rfl
    rw [e1, List.length_append, List.length_cons]
    omega
/-- read_entry, of any source *)-/
def spEnA (mg : Str → Option Value) : Sp := fun vs H Q E => ∃ x : R3T, spG (sM mg x.1 x.2.1 x.2.2) (.ref x.1) (preEn x.2.2) relEn vs H Q E
theorem k_read_entryA (F : Facts K mg w) : C8.Cal P w K mg base 192 "read_entry" (spEnA mg) [] := F.read_entry.cal fun f fd hf => fn_ex fun x => fk_read_entry F x.1 x.2.1 x.2.2 f fd hf
def R_rl (ds zs : List D) : Prop := ∃ es : List Ent, (∀ e ∈ es, entOk e) ∧ (libL es).length ≤ 100000 ∧ ds = [.l (linesD (libL es))] ∧ zs = es.map entD
theorem k_read_library (F : Facts K mg w) : C8.Cal P w K mg base 193 "read_library" (spL R_rl) [] := by
  have k_Source := k_initS (P := P) (w := w) (base := base) F
  have c_read_entry := k_read_entryA (P := P) (w := w) (base := base) F
  refine F.read_library.L sc_read_library (by decide) (fun ds d h => ?_) (fun f cdv A outer s H E hr => ⟨_, (pss_cons (ps_set (i := 1) sc_read_library.nd rfl (Or.inl rfl) (C8.pe_mk k_Source hr (by first | decide | omega) rfl (pa_cons (pv 0) pa_nil)))
    (pss_cons (ps_set (i := 2) sc_read_library.nd rfl (Or.inl rfl) (pe_lst pa_nil))
    (pss_cons (ps_while PassesOwn.never (pt_cmpR op_lt (pe_fld (pv 1) rfl) (pe_callB (Nz.cLen K) rfl F.b_len Nz.boot_len (pa_cons (pv 0) pa_nil)) (nomark _)) (pss_one (ps_expr (pe_bm PySem.F.plainAttrs_list PySem.F.slot_list_append PySem.F.type_list_append mt_append (pv 2) (pa_cons (C8.pe_c c_read_entry hr (by first | decide | omega) rfl (pa_cons (pv 1) pa_nil)) pa_nil)))))
    (pss_one (ps_ret (pv 2)))))), fun ds d h => ?_⟩)
  · obtain ⟨s, _, _, rfl, _⟩ := h
    rfl
  obtain ⟨es, ok, hl, rfl, rfl⟩ := h
  have e1 : linesD (libL es) = ((libL es).map txt).map D.s := by
    unfold linesD
    rw [List.map_map]
    rfl
  rw [e1]
  refine make_startS (ed_var rfl) fun r l => ?_
  have ln : ∀ i, (libL (es.take i)).length ≤ (libL es).length := fun i => by
    have : libL es = libL (es.take i) ++ libL (es.drop i) := by
      unfold libL
      rw [← List.flatten_append, ← List.map_append, List.take_append_drop]
    rw [this, List.length_append]
    omega
  have lg := libL_ge es
  refine syq_setO (el_lst ea_nil (Nat.zero_le _)) ?_
  refine sy_seq (fun e i => e = [.d (.l (((libL es).map txt).map D.s)), .r (.ref r), .o (.l (es.map entD))]) ?_ ?_
  · refine sy_whileY (fun m e k => ∃ i, i ≤ es.length ∧ m = es.length - i ∧ e = [.d (.l (((libL es).map txt).map D.s)), .r (.ref r), .o (.l ((es.take i).map entD))] ∧ k = (libL (es.take i)).length) es.length ⟨0, Nat.zero_le _, rfl, rfl, rfl⟩ (fun m e k he => ?_)
    obtain ⟨i, hi, rfl, rfl, rfl⟩ := he
    have cond : YT (SoM (C_Source mg) r l ((libL es).map txt)) (libL (es.take i)).length (tTest (tOp (rI0 fun a b => V.bl (decide (a < b))) (tFld K (tVar 1) "at") (tCB (rLen K) (tCons (tVar 0) tNil)))) [.d (.l (((libL es).map txt).map D.s)), .r (.ref r), .o (.l ((es.take i).map entD))] (fun b j => b = decide (i < es.length) ∧ j = (libL (es.take i)).length) := by
      refine yt_xt (xt_test (xd_imp (xd_opL (R3 := fun _ z => z = .b (decide (i < es.length))) (xd_atS F.cl_Source F.n_Source_at rfl) (ed_cb (ea_cons (ed_var rfl) ea_nil) rc_lenL) fun x e => ?_) fun d ⟨_, _, e⟩ => ⟨_, e, rfl⟩))
      subst e
      refine ⟨_, rd_bool rfl, congrArg D.b (decide_eq_decide.mpr ?_)⟩
      rw [List.length_map, List.length_map]
      constructor
      · intro h
        by_cases c : i < es.length
        · exact c
        · have : es.take i = es := List.take_of_length_le (by omega)
          rw [this] at h
          omega
      · intro h
        have := ln (i + 1)
        rw [libL_take h, List.length_append] at this
        have := entL_pos es[i]
        omega
    refine ⟨_, cond, fun k ⟨hb, hk⟩ => ?_, fun k ⟨hb, hk⟩ => ?_⟩
    · have hi2 := of_decide_eq_true hb.symm
      subst hk
      have wt : Wat ((libL es).map txt) (libL (es.take i)).length ((entL es[i]).map txt) := by
        refine ⟨(libL (es.drop (i + 1))).map txt, ?_⟩
        have : libL es = libL (es.take i) ++ (entL es[i] ++ libL (es.drop (i + 1))) := by
          unfold libL
          rw [← List.flatten_cons, ← List.map_cons, ← drop_cons hi2, ← List.flatten_append, ← List.map_append, List.take_append_drop]
        rw [this, List.map_append, List.map_append, List.drop_append_of_le_length (by rw [List.length_map]; exact Nat.le_refl _), List.drop_eq_nil_of_le (by rw [List.length_map]; exact Nat.le_refl _), List.nil_append]
      refine sy_appY (R := fun z j => z = entD es[i] ∧ j = (libL (es.take (i + 1))).length) rfl ?_ (by rw [List.length_map, List.length_take]; exact Nat.lt_of_le_of_lt (show _ ≤ 100000 by omega) (by decide)) fun d j ⟨e, ej⟩ => ?_
      · refine yd_imp (yd_callGs (Pre := fun (x : Ent) => preEn ((libL es).map txt) x) (R := fun (x : Ent) => relEn x) es[i] (fun vs H Q E h => ⟨(r, l, (libL es).map txt), es[i], h⟩) rfl (yds_eds ea_nil) fun xs j ⟨e, ej⟩ => ⟨e, ok _ (List.getElem_mem hi2), by subst ej; exact wt⟩) fun d j ⟨xs, j0, ⟨_, ej0⟩, e, ej⟩ => ⟨e, ?_⟩
        rw [ej, ej0, libL_take hi2, List.length_append]
      · subst e ej
        refine ⟨es.length - (i + 1), by omega, i + 1, by omega, rfl, ?_, rfl⟩
        rw [take_snoc hi2, List.map_append]
        rfl
    · have hi2 := of_decide_eq_false hb.symm
      have : es.take i = es := List.take_of_length_le (by omega)
      show _ = _
      rw [this]
  · rintro e i rfl
    exact sy_sd (sd_retO rfl rfl)
end
end Nz
namespace Nz
open PySem L2
theorem paired_nats {ds rs : List D} (h : Paired (fun _ d => ∃ k : Nat, d = .i (k : Int) ∧ k < 1000) ds rs) : ∃ ks : List Nat, rs = natsD ks ∧ ks.length = ds.length ∧ ∀ k ∈ ks, k < 1000 := by
  induction h with
  | nil => exact ⟨[], rfl, rfl, fun x m => by cases m⟩
  | cons r t ih =>
    obtain ⟨x, rfl, hx⟩ := r
    obtain ⟨xs, rfl, hl, hn⟩ := ih
    refine ⟨x :: xs, rfl, by rw [List.length_cons, List.length_cons, hl], fun y m => ?_⟩
    rcases List.mem_cons.mp m with rfl | m
    · exact hx
    · exact hn y m
theorem toldF_none {rule : Str} (c : rule ∉ (["rename", "float-let", "float-cost", "order", "copy", "unused"] : List Str)) : toldF rule = [] := by
  unfold toldF
  have : toldT.lookup rule = none := by
    rw [List.lookup_eq_none_iff]
    intro p hp
    rw [bne_iff_ne]
    intro z
    have h : ∀ p ∈ toldT, p.1 ∈ (["rename", "float-let", "float-cost", "order", "copy", "unused"] : List Str) := by decide
    exact c (by rw [z]; exact h p hp)
  rw [this]
  rfl
section
variable {P : Program} {w : World} {K : PySem.W.Frag} {mg : Str → Option Value} {base : Heap}
theorem xd_drawM {p q : Addr} {ns : List Int} {es : Es} {n : Nat} {β : Int} {E0 : XK} (hi : es[0]? = some (.r (.ref p))) (h0 : 0 < n) (h1 : n < 100000) :
    XD ((PoolM p q ns).at β) (tCall (spK (PoolM p q ns) (.ref p) preDraw relDraw) [] E0 (tCons (tVar 0) (tCons (tC (.int (n : Int))) tNil))) es (fun z => ∃ k : Nat, z = .i (k : Int) ∧ k < n) :=
  xd_imp (xd_draw hi (by omega) (by omega)) fun d ⟨k, e, k0, k1⟩ => by
    obtain ⟨m, rfl⟩ := Int.eq_ofNat_of_zero_le k0
    exact ⟨m, e, by omega⟩
/-- a draw of n is this number: a test *)-/
theorem xt_drawE {p q : Addr} {ns : List Int} {es : Es} {n : Nat} {k : Int} {β : Int} {E0 : XK} (hi : es[0]? = some (.r (.ref p))) (h0 : 0 < n) (h1 : n < 100000) :
    XT ((PoolM p q ns).at β) (tTest (tOp rEq (tCall (spK (PoolM p q ns) (.ref p) preDraw relDraw) [] E0 (tCons (tVar 0) (tCons (tC (.int (n : Int))) tNil))) (tC (.int k)))) es (fun _ => True) :=
  xt_test (xd_imp (xd_opL (xd_drawM hi h0 h1) ed_int (R3 := fun _ z => ∃ b, z = .b b) fun x ⟨k, e, _⟩ => by subst e; exact ⟨_, rd_eqI, _, rfl⟩) fun d ⟨_, _, b, e⟩ => ⟨b, e, trivial⟩)
/-- int(a draw of n is this number) *)-/
theorem xd_drawI {p q : Addr} {ns : List Int} {es : Es} {n : Nat} {k : Int} {β : Int} {E0 : XK} (hi : es[0]? = some (.r (.ref p))) (h0 : 0 < n) (h1 : n < 100000) :
    XD ((PoolM p q ns).at β) (tCB rInt (tCons (tOp rEq (tCall (spK (PoolM p q ns) (.ref p) preDraw relDraw) [] E0 (tCons (tVar 0) (tCons (tC (.int (n : Int))) tNil))) (tC (.int k))) tNil)) es (fun z => z = .i 0 ∨ z = .i 1) :=
  xd_cb (xs_one (xd_opL (xd_drawM hi h0 h1) ed_int (R3 := fun _ z => ∃ b, z = .b b) fun x ⟨k, e, _⟩ => by subst e; exact ⟨_, rd_eqI, _, rfl⟩)) fun xs ⟨d, e, _, _, b, e2⟩ => by
    subst e e2
    cases b with
    | true => exact ⟨_, rc_intB, .inr rfl⟩
    | false => exact ⟨_, rc_intB, .inl rfl⟩
/-- one of two draws *)-/
theorem xd_pick {p q : Addr} {ns : List Int} {es : Es} {n m : Nat} {β : Int} {E0 E1 : XK} {tb : TE} (hi : es[0]? = some (.r (.ref p))) (h0 : 0 < n) (h1 : n < 100000) (h2 : 0 < m) (h3 : m < 100000) (hb : XD ((PoolM p q ns).at β) tb es (fun z => z = .i 0 ∨ z = .i 1)) :
    XD ((PoolM p q ns).at β) (tOp (rIxT K) (tTup (tCons (tCall (spK (PoolM p q ns) (.ref p) preDraw relDraw) [] E0 (tCons (tVar 0) (tCons (tC (.int (n : Int))) tNil))) (tCons (tCall (spK (PoolM p q ns) (.ref p) preDraw relDraw) [] E1 (tCons (tVar 0) (tCons (tC (.int (m : Int))) tNil))) tNil))) tb) es (fun z => ∃ k : Nat, z = .i (k : Int) ∧ (k < n ∨ k < m)) :=
  xd_imp (xd_op (R := fun z => ∃ a b : Nat, z = .t [.i (a : Int), .i (b : Int)] ∧ a < n ∧ b < m) (R2 := fun _ z => z = .i 0 ∨ z = .i 1) (R3 := fun _ _ z => ∃ k : Nat, z = .i (k : Int) ∧ (k < n ∨ k < m)) (xd_imp (xd_tup (xs_cons (xd_drawM hi h0 h1) fun _ _ => xs_one (xd_drawM hi h2 h3)) fun ds r => by
      obtain ⟨_, _, rfl, _, _, rfl, _⟩ := r
      exact short_size rfl) fun d r => by
      obtain ⟨_, rfl, _, _, rfl, ⟨a, rfl, ha⟩, _, rfl, b, rfl, hb⟩ := r
      exact ⟨a, b, rfl, ha, hb⟩) (fun _ _ => hb) fun x y ⟨a, b, e, ha, hb⟩ h => by
      subst e
      rcases h with rfl | rfl
      · exact ⟨_, rd_ixT0, a, rfl, .inl ha⟩
      · exact ⟨_, rd_ixT1, b, rfl, .inr hb⟩) fun d ⟨_, _, _, _, r⟩ => r
/-- range(a draw) *)-/
theorem xsrc_drawM {p q : Addr} {ns : List Int} {es : Es} {n : Nat} {β : Int} {E0 : XK} (hi : es[0]? = some (.r (.ref p))) (h0 : 0 < n) (h1 : n < 100000) :
    XSrc ((PoolM p q ns).at β) (iRng1 (tCons (tCall (spK (PoolM p q ns) (.ref p) preDraw relDraw) [] E0 (tCons (tVar 0) (tCons (tC (.int (n : Int))) tNil))) tNil)) es (fun z => ∃ m : Nat, z = rngD m ∧ m < n) :=
  xsrc_rng (R := fun m => m < n) (xds_imp (xs_one (xd_drawM hi h0 h1)) fun ds ⟨d, e, m, e2, r⟩ => ⟨m, by rw [e, e2], r⟩) fun m r => by omega
def relPath (_ : List D) (d : D) : Prop := ∃ ks : List Nat, d = .t (natsD ks) ∧ ks.length < 25 ∧ ∀ k ∈ ks, k < 1000
theorem relPath.ok {ks : List Nat} (h : ks.length < 25) (h2 : ∀ k ∈ ks, k < 1000) : thOk (.is ks) := ⟨by omega, h2⟩
theorem tup_nats {rs : List D} {m : Nat} (hm : m < 25) (h : Paired (fun _ d => ∃ k : Nat, d = .i (k : Int) ∧ k < 1000) (rngD m) rs) : ∃ z, RC (rTup K) [.l rs] z ∧ relPath [] z := by
  obtain ⟨ks, rfl, hl, hk⟩ := paired_nats h
  rw [rng_len] at hl
  exact ⟨_, rc_tupL, ks, rfl, by omega, hk⟩
theorem k__law_path (F : Facts K mg w) (p q : Addr) (ns : List Int) : C8.Cal P w K mg base 2 "_law_path" (spK (PoolM p q ns) (.ref p) preNil relPath) [] := by
  have c__law_draw := k__law_draw (P := P) (w := w) (base := base) F p q ns
  refine F._law_path.K sc__law_path (fun ds e => by cases e; rfl) (fun f cdv A outer s H E hr => ⟨_, (pss_cons (ps_if (pt_cmpR op_eq (C8.pe_c c__law_draw hr (by first | decide | omega) rfl (pa_cons (pv 0) (pa_cons pe_int pa_nil))) pe_int (nomark _)) (pss_one (ps_ret (pe_callTy (Nz.cTup K) rfl F.b_tuple Nz.boot_tuple (pa_cons (pe_lc (own := [("k", 1)]) (g := (gName 1)) rfl sc__law_path.nd (pi_range1 rfl F.b_range (pa_cons (C8.pe_c c__law_draw hr (by first | decide | omega) rfl (pa_cons (pv 0) (pa_cons pe_int pa_nil))) pa_nil)) (blkOk_by (own := [("k", 1)]) (N := n__law_path) (sc := defScope s__law_path) (by decide +kernel)) (fun _ _ _ _ _ => (pg_name (i := 1) sc__law_path.nd rfl (Or.inl rfl))) (fun _ _ _ _ _ => pts_nil) (fun _ _ _ _ _ => (C8.pe_c c__law_draw hr (by first | decide | omega) rfl (pa_cons (pv 0) (pa_cons pe_int pa_nil))))) pa_nil)))) pss_nil)
    (pss_one (ps_ret (pe_callTy (Nz.cTup K) rfl F.b_tuple Nz.boot_tuple (pa_cons (pe_lc (own := [("k", 1)]) (g := (gName 1)) rfl sc__law_path.nd (pi_range1 rfl F.b_range (pa_cons (C8.pe_c c__law_draw hr (by first | decide | omega) rfl (pa_cons (pv 0) (pa_cons pe_int pa_nil))) pa_nil)) (blkOk_by (own := [("k", 1)]) (N := n__law_path) (sc := defScope s__law_path) (by decide +kernel)) (fun _ _ _ _ _ => (pg_name (i := 1) sc__law_path.nd rfl (Or.inl rfl))) (fun _ _ _ _ _ => pts_nil) (fun _ _ _ _ _ => (pe_ix (Nz.ixT K) (pe_tup (pa_cons (C8.pe_c c__law_draw hr (by first | decide | omega) rfl (pa_cons (pv 0) (pa_cons pe_int pa_nil))) (pa_cons (C8.pe_c c__law_draw hr (by first | decide | omega) rfl (pa_cons (pv 0) (pa_cons pe_int pa_nil))) pa_nil))) (pe_callTy Nz.c_int rfl F.b_int Nz.boot_int (pa_cons (pe_cmpR op_eq (C8.pe_c c__law_draw hr (by first | decide | omega) rfl (pa_cons (pv 0) (pa_cons pe_int pa_nil))) pe_int (nomark _)) pa_nil)) (fun _ _ => rfl)))) pa_nil))))), fun {β} ds hP => ?_⟩)
  cases hP
  refine sq_ifX (xt_drawE (n := 8) rfl (by decide) (by decide)) (fun _ => ?_) (fun _ => ?_)
  · refine sq_retXD (xd_cb (Rz := relPath []) (xs_one (xl_toD (xl_lcM (R := fun _ d => ∃ k : Nat, d = .i (k : Int) ∧ k < 1000) rfl (xsrc_drawM (n := 25) rfl (by decide) (by decide)) (fun ds ⟨m, e, r⟩ => by subst e; rw [rng_len]; exact small4 (by omega)) fun ds r z hz => ⟨_, gw_name rfl, xd_imp (xd_drawM (n := 3) rfl (by decide) (by decide)) fun d ⟨k, e, h⟩ => ⟨k, e, by omega⟩⟩))) fun xs r => ?_) fun d r => r
    obtain ⟨_, rfl, rs, rfl, ds, ⟨m, rfl, hm⟩, pr⟩ := r
    exact tup_nats hm pr
  refine sq_next ?_
  refine sd_retXD (xd_cb (Rz := relPath []) (xs_one (xl_toD (xl_lcM (R := fun _ d => ∃ k : Nat, d = .i (k : Int) ∧ k < 1000) rfl (xsrc_drawM (n := 4) rfl (by decide) (by decide)) (fun ds ⟨m, e, r⟩ => by subst e; rw [rng_len]; exact small4 (by omega)) fun ds r z hz => ⟨_, gw_name rfl, xd_imp (xd_pick (n := 4) (m := 1000) rfl (by decide) (by decide) (by decide) (by decide) (xd_drawI (n := 9) rfl (by decide) (by decide))) fun d ⟨k, e, h⟩ => ⟨k, e, by omega⟩⟩))) fun xs r => ?_) fun d r => r
  obtain ⟨_, rfl, rs, rfl, ds, ⟨m, rfl, hm⟩, pr⟩ := r
  exact tup_nats (by omega) pr
theorem xd_path {p q : Addr} {ns : List Int} {es : Es} {β : Int} {E0 : XK} (hi : es[0]? = some (.r (.ref p))) :
    XD ((PoolM p q ns).at β) (tCall (spK (PoolM p q ns) (.ref p) preNil relPath) [] E0 (tCons (tVar 0) tNil)) es (fun z => ∃ ks : List Nat, z = .t (natsD ks) ∧ thOk (.is ks)) := xd_imp (xd_callK hi (xs_eds ea_nil) fun xs e => e) fun d ⟨_, _, ks, e, h1, h2⟩ => ⟨ks, e, relPath.ok h1 h2⟩
def preTold (ds : List D) : Prop := ∃ r : Str, ds = [.s r]
def relTold (ds : List D) (d : D) : Prop := ∃ (r : Str) (g : List Th), ds = [.s r] ∧ d = .t (g.map thD) ∧ g.map thF = toldF r ∧ ∀ t ∈ g, thOk t
theorem k__law_told (F : Facts K mg w) (p q : Addr) (ns : List Int) : C8.Cal P w K mg base 3 "_law_told" (spK (PoolM p q ns) (.ref p) preTold relTold) [] := by
  have c__law_draw := k__law_draw (P := P) (w := w) (base := base) F p q ns
  have c__law_name := k__law_name (P := P) (w := w) (base := base) F p q ns
  have c__law_path := k__law_path (P := P) (w := w) (base := base) F p q ns
  refine F._law_told.K sc__law_told (fun ds ⟨r, e⟩ => by cases e; rfl) (fun f cdv A outer s H E hr => ⟨_, (pss_cons (ps_if (pt_cmpR op_eq (pv 1) pe_str (nomark _)) (pss_one (ps_ret (pe_tup (pa_cons (C8.pe_c c__law_draw hr (by first | decide | omega) rfl (pa_cons (pv 0) (pa_cons pe_int pa_nil))) (pa_cons (C8.pe_c c__law_name hr (by first | decide | omega) rfl (pa_cons (pv 0) pa_nil)) (pa_cons (C8.pe_c c__law_name hr (by first | decide | omega) rfl (pa_cons (pv 0) pa_nil)) pa_nil)))))) pss_nil)
    (pss_cons (ps_if (pt_cmpR (Nz.inQ K) (pv 1) (pe_tup (pa_cons pe_str (pa_cons pe_str pa_nil))) rfl) (pss_one (ps_ret (pe_tup (pa_cons (C8.pe_c c__law_draw hr (by first | decide | omega) rfl (pa_cons (pv 0) (pa_cons pe_int pa_nil))) pa_nil)))) pss_nil)
    (pss_cons (ps_if (pt_cmpR op_eq (pv 1) pe_str (nomark _)) (pss_one (ps_ret (pe_tup (pa_cons (C8.pe_c c__law_path hr (by first | decide | omega) rfl (pa_cons (pv 0) pa_nil)) pa_nil)))) pss_nil)
    (pss_cons (ps_if (pt_cmpR op_eq (pv 1) pe_str (nomark _)) (pss_one (ps_ret (pe_tup (pa_cons (C8.pe_c c__law_name hr (by first | decide | omega) rfl (pa_cons (pv 0) pa_nil)) (pa_cons (C8.pe_c c__law_path hr (by first | decide | omega) rfl (pa_cons (pv 0) pa_nil)) pa_nil))))) pss_nil)
    (pss_cons (ps_if (pt_cmpR op_eq (pv 1) pe_str (nomark _)) (pss_one (ps_ret (pe_tup (pa_cons (pe_callTy (Nz.cTup K) rfl F.b_tuple Nz.boot_tuple (pa_cons (pe_lc (own := [("k", 2)]) (g := (gName 2)) rfl sc__law_told.nd (pi_range1 rfl F.b_range (pa_cons (pe_op op_add pe_int (C8.pe_c c__law_draw hr (by first | decide | omega) rfl (pa_cons (pv 0) (pa_cons pe_int pa_nil)))) pa_nil)) (blkOk_by (own := [("k", 2)]) (N := n__law_told) (sc := defScope s__law_told) (by decide +kernel)) (fun _ _ _ _ _ => (pg_name (i := 2) sc__law_told.nd rfl (Or.inl rfl))) (fun _ _ _ _ _ => pts_nil) (fun _ _ _ _ _ => (C8.pe_c c__law_name hr (by first | decide | omega) rfl (pa_cons (pv 0) pa_nil)))) pa_nil)) pa_nil)))) pss_nil)
    (pss_one (ps_ret (pe_tup pa_nil)))))))), fun {β} ds hP => ?_⟩)
  obtain ⟨rule, rfl⟩ := hP
  refine sq_if (et_test (ed_op (ed_var rfl) ed_str rd_eqS)) (fun h => ?_) (fun h1 => ?_)
  · have e := of_decide_eq_true h
    refine sq_retXD (xd_tup (xs_cons (xd_drawM (n := 4) rfl (by decide) (by decide)) fun _ _ => xs_cons (xd_name rfl) fun _ _ => xs_one (xd_name rfl)) fun ds r => ?_) fun d r => ?_
    · obtain ⟨_, _, rfl, _, _, _, rfl, _, _, rfl, _⟩ := r
      exact short_size rfl
    · obtain ⟨_, rfl, _, _, rfl, ⟨k, rfl, hk⟩, _, _, rfl, ⟨x, rfl, hx⟩, _, rfl, y, rfl, hy⟩ := r
      refine ⟨rule, [.n k, .x x, .x y], rfl, rfl, by rw [e]; rfl, fun t m => ?_⟩
      rcases List.mem_cons.mp m with rfl | m
      · show k < 1000
        omega
      rcases List.mem_cons.mp m with rfl | m
      · exact hx
      · cases List.mem_singleton.mp m
        exact hy
  have n1 := of_decide_eq_false h1
  refine sq_if (b := decide (rule ∈ (["float-let", "float-cost"] : List Str))) (et_eq (et_test (ed_op (ed_var rfl) (show ED _ _ (.t [.s "float-let", .s "float-cost"]) from ed_tup (ea_cons ed_str (ea_cons ed_str ea_nil)) (short_size rfl)) (rd_inTb rfl rfl))) (inD_strs (xs := ["float-let", "float-cost"]))) (fun h => ?_) (fun h2 => ?_)
  · have e := of_decide_eq_true h
    refine sq_retXD (xd_tup (xs_one (xd_drawM (n := 5) rfl (by decide) (by decide))) fun ds r => ?_) fun d r => ?_
    · obtain ⟨_, rfl, _⟩ := r
      exact short_size rfl
    · obtain ⟨_, rfl, _, rfl, k, rfl, hk⟩ := r
      refine ⟨rule, [.n k], rfl, rfl, ?_, fun t m => ?_⟩
      · simp only [List.mem_cons, List.not_mem_nil, or_false] at e
        rcases e with rfl | rfl <;> rfl
      · cases List.mem_singleton.mp m
        show k < 1000
        omega
  have n2 := of_decide_eq_false h2
  refine sq_if (et_test (ed_op (ed_var rfl) ed_str rd_eqS)) (fun h => ?_) (fun h3 => ?_)
  · have e := of_decide_eq_true h
    refine sq_retXD (xd_tup (xs_one (xd_path rfl)) fun ds r => ?_) fun d r => ?_
    · obtain ⟨_, rfl, _⟩ := r
      exact short_size rfl
    · obtain ⟨_, rfl, _, rfl, ks, rfl, hk⟩ := r
      refine ⟨rule, [.is ks], rfl, rfl, by rw [e]; rfl, fun t m => ?_⟩
      cases List.mem_singleton.mp m
      exact hk
  have n3 := of_decide_eq_false h3
  refine sq_if (et_test (ed_op (ed_var rfl) ed_str rd_eqS)) (fun h => ?_) (fun h4 => ?_)
  · have e := of_decide_eq_true h
    refine sq_retXD (xd_tup (xs_cons (xd_name rfl) fun _ _ => xs_one (xd_path rfl)) fun ds r => ?_) fun d r => ?_
    · obtain ⟨_, _, rfl, _, _, rfl, _⟩ := r
      exact short_size rfl
    · obtain ⟨_, rfl, _, _, rfl, ⟨x, rfl, hx⟩, _, rfl, ks, rfl, hk⟩ := r
      refine ⟨rule, [.x x, .is ks], rfl, rfl, by rw [e]; rfl, fun t m => ?_⟩
      rcases List.mem_cons.mp m with rfl | m
      · exact hx
      · cases List.mem_singleton.mp m
        exact hk
  have n4 := of_decide_eq_false h4
  refine sq_if (et_test (ed_op (ed_var rfl) ed_str rd_eqS)) (fun h => ?_) (fun h5 => ?_)
  · have e := of_decide_eq_true h
    refine sq_retXD (xd_tup (xs_one (xd_cb (Rz := fun z => ∃ xs : List Str, z = tS xs ∧ 1 ≤ xs.length ∧ xs.length ≤ 3 ∧ ∀ x ∈ xs, NameOk x) (xs_one (xl_toD (xl_lcM (R := fun _ d => ∃ x, d = .s x ∧ NameOk x) rfl (xsrc_draw1 (n := 3) (xd_draw rfl (by decide) (by decide)) (by decide)) (fun ds ⟨m, e, r⟩ => by subst e; rw [rng_len]; exact small4 (by omega)) fun ds r z hz => ⟨_, gw_name rfl, xd_name rfl⟩))) fun xs r => ?_)) fun ds r => ?_) fun d r => ?_
    · obtain ⟨_, rfl, rs, rfl, ds, ⟨m, rfl, m1, m3⟩, pr⟩ := r
      obtain ⟨xs, rfl, hl, hn⟩ := paired_names pr
      rw [rng_len] at hl
      exact ⟨_, rc_tupL, xs, rfl, by omega, by omega, hn⟩
    · obtain ⟨_, rfl, _⟩ := r
      exact short_size rfl
    · obtain ⟨_, rfl, _, rfl, xs, rfl, l1, l3, hx⟩ := r
      refine ⟨rule, [.xs xs], rfl, rfl, by rw [e]; rfl, fun t m => ?_⟩
      cases List.mem_singleton.mp m
      exact ⟨l1, by omega, hx⟩
  have n5 := of_decide_eq_false h5
  refine sd_ret (ed_tup ea_nil (Nat.zero_le _)) ⟨rule, [], rfl, rfl, ?_, fun t m => by cases m⟩
  refine (toldF_none fun m => ?_).symm
  simp only [List.mem_cons, List.not_mem_nil, or_false, not_or] at m n2
  rcases m with m | m | m | m | m | m
  · exact n1 m
  · exact n2.1 m
  · exact n2.2 m
  · exact n3 m
  · exact n4 m
  · exact n5 m
end
end Nz
namespace Nz
open PySem L2
theorem tmOk_of {t : Tm} (h : Good 4 t) (hi : inn t ≤ 5) : tmOk t := by
  have h1 := sz_inn t h.1
  have h2 := wd_len t h.1
  exact ⟨⟨h.1, h.2.1, Nat.le_trans h.2.2 (by decide), Nat.le_trans h.2.2 (by decide)⟩, by omega, by omega⟩
theorem dD_nats (ks : List Nat) : dDs (natsD ks) ≤ 0 := dDs_le fun x m => by
  obtain ⟨k, _, rfl⟩ := List.mem_map.mp m
  exact Nat.le_refl _
theorem dD_strs (xs : List Str) : dDs (xs.map D.s) ≤ 0 := dDs_le fun x m => by
  obtain ⟨k, _, rfl⟩ := List.mem_map.mp m
  exact Nat.le_refl _
theorem dD_th (t : Th) : dD (thD t) ≤ 1 := by
  cases t with
  | n k => exact Nat.zero_le _
  | x s => exact Nat.zero_le _
  | is ks => exact Nat.succ_le_succ (dD_nats ks)
  | xs ns => exact Nat.succ_le_succ (dD_strs ns)
theorem dD_giv (l : List Th) : dD (.t (l.map thD)) ≤ 2 := dD_t fun x m => by
  obtain ⟨t, _, rfl⟩ := List.mem_map.mp m
  exact dD_th t
theorem smD_nats {ks : List Nat} (h : ks.length < 1000) : smD (.t (natsD ks)) := smD_t (by unfold natsD; rw [List.length_map]; omega) fun x m => by
  obtain ⟨k, _, rfl⟩ := List.mem_map.mp m
  trivial
theorem smD_strs {xs : List Str} (h : xs.length ≤ 1000000) : smD (.t (xs.map D.s)) := smD_t (by rw [List.length_map]; omega) fun x m => by
  obtain ⟨k, _, rfl⟩ := List.mem_map.mp m
  trivial
theorem smD_th {t : Th} (h : thOk t) : smD (thD t) := by
  cases t with
  | n k => trivial
  | x s => trivial
  | is ks => exact smD_nats h.1
  | xs ns => exact smD_strs (by have := h.2.1; omega)
theorem smD_giv {l : List Th} (hl : l.length ≤ 3) (h : ∀ t ∈ l, thOk t) : smD (.t (l.map thD)) := smD_t (by rw [List.length_map]; omega) fun x m => by
  obtain ⟨t, ht, rfl⟩ := List.mem_map.mp m
  exact smD_th (h t ht)
theorem mx {a b n : Nat} (h1 : a ≤ n) (h2 : b ≤ n) : max a b ≤ n := Nat.max_le.mpr ⟨h1, h2⟩
theorem dD_stp {s : Stp} {n : Nat} (h3 : 2 ≤ n) (h : ∀ path rule given t, s = .back path rule given t → dD (enc t) ≤ n) : dD (stpD s) ≤ n + 1 := by
  have p0 : ∀ path : List Nat, dD (.t (natsD path)) ≤ n := fun path => by
    have : dD (.t (natsD path)) ≤ 1 := Nat.succ_le_succ (dD_nats path)
    omega
  have g0 : ∀ g : List Th, dD (.t (g.map thD)) ≤ n := fun g => by
    have := dD_giv g
    omega
  cases s with
  | cl kind path k => exact Nat.succ_le_succ (mx (Nat.zero_le _) (mx (p0 path) (mx (Nat.zero_le _) (Nat.zero_le _))))
  | go path rule given => exact Nat.succ_le_succ (mx (Nat.zero_le _) (mx (p0 path) (mx (Nat.zero_le _) (mx (g0 given) (Nat.zero_le _)))))
  | back path rule given t => exact Nat.succ_le_succ (mx (Nat.zero_le _) (mx (p0 path) (mx (Nat.zero_le _) (mx (g0 given) (mx (h _ _ _ _ rfl) (Nat.zero_le _))))))
theorem smD_stp {s : Stp} (h : stpOk s) : smD (stpD s) := by
  cases s with
  | cl kind path k => exact ⟨by show 3 ≤ 1000000; decide, trivial, smD_nats h.2.1.1, trivial, trivial⟩
  | go path rule given => exact ⟨by show 4 ≤ 1000000; decide, trivial, smD_nats h.1.1, trivial, smD_giv (given_len h) h.2.2.2, trivial⟩
  | back path rule given t => exact ⟨by show 5 ≤ 1000000; decide, trivial, smD_nats h.1.1.1, trivial, smD_giv (given_len h.1) h.1.2.2.2, smD_enc t h.2.1.1, trivial⟩
theorem xd_ixS {W : Wd} {K : PySem.W.Frag} {es : Es} {ta tb : TE} {l : List Str} (ha : ED ta es (.t (l.map D.s))) (hb : XD W tb es (fun z => ∃ k : Nat, z = .i (k : Int) ∧ k < l.length)) : XD W (tOp (rIxT K) ta tb) es (fun z => ∃ x, x ∈ l ∧ z = .s x) :=
  xd_imp (xd_opR (R3 := fun _ z => ∃ x, x ∈ l ∧ z = .s x) ha hb fun y ⟨k, e, hk⟩ => by
    subst e
    exact ⟨_, rd_ixT (atI_nat (by rw [List.getElem?_map, List.getElem?_eq_getElem hk]; rfl)), l[k], List.getElem_mem hk, rfl⟩) fun d ⟨_, _, r⟩ => r
theorem eds_strs {es : Es} : ∀ (l : List Str), EDs (l.foldr (fun x t => tCons (tC (.str x)) t) tNil) es (l.map D.s)
  | [] => ea_nil
  | _ :: r => ea_cons ed_str (eds_strs r)
section
variable {P : Program} {w : World} {K : PySem.W.Frag} {mg : Str → Option Value} {base : Heap}
/-- pool[5] = m *)-/
theorem syq_pool5 {p q : Addr} {ns : List Int} {β m : Int} {es : Es} {u : TS} {P' : Pq Int} (h0 : es[0]? = some (.r (.ref p))) (k : SY (PoolM p q ns) m u es P') : SY (PoolM p q ns) β (tSeq (tAsg (tC (.int m)) (gSub (tVar 0) (tC (.int 5)) rSetL)) u) es P' := fun S A B H σ E w F q' => by
  obtain ⟨a, b, c, d, hp, ha, hc, hc2⟩ := w.j1
  refine rq_set (E.raw 0 _ h0) hp va_c (j := 5) rfl ?_
  exact k S A B _ σ (E.chg (w.vol p rfl).1 (w.vol p rfl).2) ⟨w.vol, w.k0, a, b, c, d, upd_same, ha, hc, hc2⟩ F q'
theorem k__law_any4 (F : Facts K mg w) (p q : Addr) (ns : List Int) : C8.Cal P w K mg base 8 "_law_any" (spY (PoolM p q ns) (.ref p) (preAny 4) relAny) [] := F._law_any.cal fun f fd hf => fk__law_any F p q ns 4 f fd hf
theorem yd_any4 {p q : Addr} {ns : List Int} {es : Es} {β : Int} {E0 : XK} (hi : es[0]? = some (.r (.ref p))) (hb : β ≤ 5) : YD (PoolM p q ns) β (tCall (spY (PoolM p q ns) (.ref p) (preAny 4) relAny) [] E0 (tCons (tVar 0) (tCons (tC (.int 4)) tNil))) es (fun z _ => ∃ t, z = enc t ∧ tmOk t ∧ dD (enc t) ≤ 16) :=
  yd_imp (yd_callY hi (yds_eds (ea_cons ed_int ea_nil)) fun xs j ⟨e, _⟩ => ⟨4, e, by decide⟩) fun d j ⟨xs, j0, ⟨e, e0⟩, k', t, e1, e2, e3, e4⟩ => by
    subst e e0
    cases e1
    have e5 : max (4 : Int).toNat 1 = 4 := by decide
    rw [e5] at e3
    refine ⟨t, e2, tmOk_of e3 (by omega), ?_⟩
    have h1 := dD_enc t
    have h2 := ew_dep t
    have h3 := e3.2.2
    omega
def okS (s : Stp) : Prop := stpOk s ∧ dD (stpD s) ≤ 17
theorem fk__law_step (F : Facts K mg w) (p q : Addr) (ns : List Int) (f : Addr) (fd : FuncData) (hf : L2.Fun K "_law_step" "_law_step" s__law_step f fd) : FnOk P w K mg base CX0 9 f fd ["pool"] (spY (PoolM p q ns) (.ref p) (fun _ => preNil) (fun _ _ d _ => ∃ s, d = stpD s ∧ okS s)) := by
  have c__law_draw := k__law_draw (P := P) (w := w) (base := base) F p q ns
  have c__law_path := k__law_path (P := P) (w := w) (base := base) F p q ns
  have c__law_told := k__law_told (P := P) (w := w) (base := base) F p q ns
  have c__law_any := k__law_any4 (P := P) (w := w) (base := base) F p q ns
  refine fn_Y hf sc__law_step (fun _ ds e => by cases e; rfl) (fun cdv A outer s H E hr => ⟨_, (pss_cons (ps_set (i := 1) sc__law_step.nd rfl (Or.inl rfl) (pe_ix (Nz.ixT K) (pe_tup (pa_cons pe_str (pa_cons pe_str (pa_cons pe_str (pa_cons pe_str (pa_cons pe_str pa_nil)))))) (C8.pe_c c__law_draw hr (by first | decide | omega) rfl (pa_cons (pv 0) (pa_cons pe_int pa_nil))) (fun _ _ => rfl)))
    (pss_cons (ps_set (i := 2) sc__law_step.nd rfl (Or.inl rfl) (C8.pe_c c__law_path hr (by first | decide | omega) rfl (pa_cons (pv 0) pa_nil)))
    (pss_cons (ps_if (pt_cmpR (Nz.inQ K) (pv 1) (pe_tup (pa_cons pe_str (pa_cons pe_str pa_nil))) rfl) (pss_one (ps_ret (pe_tup (pa_cons (pv 1) (pa_cons (pv 2) (pa_cons (pe_ix (Nz.ixT K) (pe_tup (pa_cons (C8.pe_c c__law_draw hr (by first | decide | omega) rfl (pa_cons (pv 0) (pa_cons pe_int pa_nil))) (pa_cons (C8.pe_c c__law_draw hr (by first | decide | omega) rfl (pa_cons (pv 0) (pa_cons pe_int pa_nil))) pa_nil))) (C8.pe_c c__law_draw hr (by first | decide | omega) rfl (pa_cons (pv 0) (pa_cons pe_int pa_nil))) (fun _ _ => rfl)) pa_nil)))))) pss_nil)
    (pss_cons (ps_set (i := 3) sc__law_step.nd rfl (Or.inl rfl) (pe_tup (pa_cons pe_str (pa_cons pe_str (pa_cons pe_str (pa_cons pe_str (pa_cons pe_str (pa_cons pe_str (pa_cons pe_str (pa_cons pe_str (pa_cons pe_str (pa_cons pe_str (pa_cons pe_str (pa_cons pe_str (pa_cons pe_str pa_nil)))))))))))))))
    (pss_cons (ps_set (i := 3) sc__law_step.nd rfl (Or.inl rfl) (pe_op (Nz.catA K) (pv 3) (pe_tup (pa_cons pe_str (pa_cons pe_str (pa_cons pe_str (pa_cons pe_str (pa_cons pe_str (pa_cons pe_str pa_nil)))))))))
    (pss_cons (ps_set (i := 4) sc__law_step.nd rfl (Or.inl rfl) (pe_ix (Nz.ixT K) (pv 3) (C8.pe_c c__law_draw hr (by first | decide | omega) rfl (pa_cons (pv 0) (pa_cons pe_int pa_nil))) (fun _ _ => rfl)))
    (pss_cons (ps_set (i := 5) sc__law_step.nd rfl (Or.inl rfl) (pe_tup (pa_cons (pv 1) (pa_cons (pv 2) (pa_cons (pv 4) (pa_cons (C8.pe_c c__law_told hr (by first | decide | omega) rfl (pa_cons (pv 0) (pa_cons (pv 4) pa_nil))) pa_nil))))))
    (pss_cons (ps_if (pt_cmpR op_eq (pv 1) pe_str (nomark _)) (pss_cons (ps_asg pe_int (pg_sub (pv 0) pe_int set_list (fun _ => rfl)))
    (pss_one (ps_set (i := 5) sc__law_step.nd rfl (Or.inl rfl) (pe_op (Nz.catA K) (pv 5) (pe_tup (pa_cons (C8.pe_c c__law_any hr (by first | decide | omega) rfl (pa_cons (pv 0) (pa_cons pe_int pa_nil))) pa_nil)))))) pss_nil)
    (pss_one (ps_ret (pv 5))))))))))), fun β ds hP => ?_⟩)
  cases hP
  refine syq_setY (yd_xd (xd_ixS (K := K) (l := ["go", "go", "back", "claim", "undo"]) (show ED _ _ (.t [.s "go", .s "go", .s "back", .s "claim", .s "undo"]) from ed_tup (ea_cons ed_str (ea_cons ed_str (ea_cons ed_str (ea_cons ed_str (ea_cons ed_str ea_nil))))) (short_size rfl)) (xd_drawM (n := 5) rfl (by decide) (by decide)))) fun d j ⟨⟨kind, hk, e⟩, ej⟩ => ?_
  subst e ej
  refine syq_setY (yd_xd (xd_path rfl)) fun d j' ⟨⟨path, e, hp⟩, ej⟩ => ?_
  subst e ej
  refine syq_if (b := decide (kind ∈ (["claim", "undo"] : List Str))) (et_eq (et_test (ed_op (ed_var rfl) (show ED _ _ (.t [.s "claim", .s "undo"]) from ed_tup (ea_cons ed_str (ea_cons ed_str ea_nil)) (short_size rfl)) (rd_inTb rfl rfl))) (inD_strs (xs := ["claim", "undo"]))) (fun h => ?_) (fun h => ?_)
  · have hk2 := of_decide_eq_true h
    refine syq_retY (yd_xd (xd_tup (xs_cons (xd_ed (ed_var rfl)) fun _ _ => xs_cons (xd_ed (ed_var rfl)) fun _ _ => xs_one (xd_pick (n := 5) (m := 1000) rfl (by decide) (by decide) (by decide) (by decide) (xd_imp (xd_drawM (n := 2) rfl (by decide) (by decide)) fun d ⟨k, e, h⟩ => ?_))) fun ds r => ?_)) fun d j2 r => ?_
    · subst e
      match k, h with
      | 0, _ => exact .inl rfl
      | 1, _ => exact .inr rfl
    · obtain ⟨_, _, rfl, _, _, _, rfl, _, _, rfl, _⟩ := r
      exact short_size rfl
    · obtain ⟨⟨_, rfl, _, _, rfl, rfl, _, _, rfl, rfl, _, rfl, k, rfl, hk3⟩, _⟩ := r
      refine ⟨.cl kind path k, rfl, ⟨?_, hp, by omega⟩, dD_stp (n := 16) (by decide) fun _ _ _ _ z => by cases z⟩
      simp only [List.mem_cons, List.not_mem_nil, or_false] at hk2
      exact hk2
  have hk2 := of_decide_eq_false h
  refine syq_set (d := .t (sameR.map D.s)) (ed_tup (eds_strs sameR) (short_size rfl)) ?_
  refine syq_set (d := .t ((sameR ++ betterR).map D.s)) (ed_eq (ed_op (ed_var rfl) (ed_tup (eds_strs betterR) (short_size rfl)) (rd_catT (small4 (show 13 + 6 ≤ 1000 by decide)))) (by rw [List.map_append])) ?_
  refine syq_setY (yd_xd (xd_ixS (K := K) (l := sameR ++ betterR) (ed_var rfl) (xd_drawM (n := 19) rfl (by decide) (by decide)))) fun d j2 ⟨⟨rule, hr2, e⟩, ej⟩ => ?_
  subst e ej
  refine syq_setY (R := fun z k => (∃ g, z = .t [.s kind, .t (natsD path), .s rule, .t (g.map thD)] ∧ goOk path rule g) ∧ k = j2) (yd_xd (xd_imp (xd_tup (xs_cons (xd_ed (ed_var rfl)) fun _ _ => xs_cons (xd_ed (ed_var rfl)) fun _ _ => xs_cons (xd_ed (ed_var rfl)) fun _ _ => xs_one (xd_callK rfl (xs_eds (ea_cons (ed_var rfl) ea_nil)) fun xs e => (⟨rule, e⟩ : preTold xs))) fun ds r => ?_) fun d r => ?_)) fun d j3 ⟨⟨g, e, hg⟩, _⟩ => ?_
  · obtain ⟨_, _, rfl, _, _, _, rfl, _, _, _, rfl, _, _, rfl, _⟩ := r
    exact short_size rfl
  · obtain ⟨_, rfl, _, _, rfl, rfl, _, _, rfl, rfl, _, _, rfl, rfl, _, rfl, xs, rfl, r2, g, e, e2, hf, ho⟩ := r
    cases e
    exact ⟨g, by rw [e2], hp, hr2, hf, ho⟩
  subst e
  refine sy_seq (fun e _ => ∃ s, okS s ∧ ∃ κ1 κ2 κ3 κ4, e = [.r (.ref p), κ1, κ2, κ3, κ4, .d (stpD s)]) ?_ ?_
  · refine sy_if (b := decide (kind = "back")) (et_test (ed_op (ed_var rfl) ed_str rd_eqS)) (fun h => ?_) (fun h => ?_)
    · have e := of_decide_eq_true h
      subst e
      refine syq_pool5 rfl ?_
      refine sy_setY (R := fun z _ => ∃ s, okS s ∧ z = stpD s) (yd_imp (yd_opR (R3 := fun _ z _ => ∃ s, okS s ∧ z = stpD s) (ed_var rfl) (yd_tup (ys_one (yd_any4 rfl (by decide))) fun ds j r => ?_) fun y j r => ?_) fun d j ⟨_, _, r⟩ => r) fun d j ⟨s, hs, e⟩ => ?_
      · obtain ⟨_, rfl, _⟩ := r
        exact short_size rfl
      · obtain ⟨_, rfl, _, rfl, t, rfl, ht, dt⟩ := r
        exact ⟨_, rd_catT (small4 (show 4 + 1 ≤ 1000 by decide)), .back path rule g t, ⟨⟨hg, ht⟩, dD_stp (by decide) fun _ _ _ _ z => by cases z; exact dt⟩, rfl⟩
      · subst e
        exact ⟨s, hs, _, _, _, _, rfl⟩
    · have e := of_decide_eq_false h
      have : kind = "go" := by
        simp only [List.mem_cons, List.not_mem_nil, or_false, not_or] at hk hk2
        rcases hk with z | z | z | z | z
        · exact z
        · exact z
        · exact absurd z e
        · exact absurd z hk2.1
        · exact absurd z hk2.2
      subst this
      exact sy_next ⟨.go path rule g, ⟨hg, dD_stp (n := 16) (by decide) fun _ _ _ _ z => by cases z⟩, _, _, _, _, rfl⟩
  · rintro e j ⟨s, hs, κ1, κ2, κ3, κ4, rfl⟩
    exact sy_ret (ed_var rfl) ⟨s, rfl, hs⟩
theorem k__law_step (F : Facts K mg w) (p q : Addr) (ns : List Int) : C8.Cal P w K mg base 9 "_law_step" (spY (PoolM p q ns) (.ref p) (fun _ => preNil) (fun _ _ d _ => ∃ s, d = stpD s ∧ okS s)) [] := F._law_step.cal fun f fd hf => fk__law_step F p q ns f fd hf
def R_pathw (ds zs : List D) : Prop := ∃ ks : List Nat, thOk (.is ks) ∧ ds = [.t (natsD ks)] ∧ zs = (thW (.is ks)).map D.s
theorem k__law_path_words (F : Facts K mg w) : C8.Cal P w K mg base 1 "_law_path_words" (spL R_pathw) [] := by
  refine F._law_path_words.L sc__law_path_words (by decide) (fun ds d h => ?_) (fun f cdv A outer s H E hr => ⟨_, (pss_one (ps_ret (pe_op op_cat (pe_lst (pa_cons (pe_callTy Nz.c_strA rfl F.b_str Nz.boot_str (pa_cons (pe_callB (Nz.cLen K) rfl F.b_len Nz.boot_len (pa_cons (pv 0) pa_nil)) pa_nil)) pa_nil)) (pe_lc (own := [("index", 1)]) (g := (gName 1)) rfl sc__law_path_words.nd (Nz.piT K (pv 0)) (blkOk_by (own := [("index", 1)]) (N := n__law_path_words) (sc := defScope s__law_path_words) (by decide +kernel)) (fun _ _ _ _ _ => (pg_name (i := 1) sc__law_path_words.nd rfl (Or.inl rfl))) (fun _ _ _ _ _ => pts_nil) (fun _ _ _ _ _ => (pe_callTy Nz.c_strA rfl F.b_str Nz.boot_str (pa_cons (pv 1) pa_nil))))))), fun ds d h => ?_⟩)
  · obtain ⟨t, _, rfl, _⟩ := h
    rfl
  obtain ⟨ks, ⟨h1, h2⟩, rfl, rfl⟩ := h
  have e : (thW (.is ks)).map D.s = [D.s (nW ks.length)] ++ ks.map fun k => D.s (nW k) := by
    show D.s (nW ks.length) :: (ks.map nW).map D.s = _
    rw [List.map_map]
    rfl
  refine sd_retL (ds := (thW (.is ks)).map D.s) ?_ rfl
  rw [e]
  refine el_op (EL.toD (el_lst (ea_cons (ed_strN (ed_eq (ed_cb (ea_cons (ed_var rfl) ea_nil) rc_lenT) (by unfold natsD; rw [List.length_map])) (by omega)) ea_nil) (short_size rfl))) (EL.toD (el_lcM (vs := [1]) ks (fun k => D.i ((k : Nat) : Int)) (fun k => .s (nW k)) (small4 (by omega)) rfl (src_tup (ed_var rfl)) fun k hk => ⟨_, gw_name rfl, ed_strN (ed_var rfl) (Nat.lt_of_lt_of_le (h2 k hk) (by decide))⟩)) (rl_cat ?_)
  rw [List.length_map]
  exact Nat.le_trans (show _ ≤ 1001 by show 1 + _ ≤ _; omega) (by decide)
def R_toldw (ds zs : List D) : Prop := ∃ (r : Str) (g : List Th), g.map thF = toldF r ∧ (∀ t ∈ g, thOk t) ∧ ds = [.s r, .t (g.map thD)] ∧ zs = (thsW g).map D.s
theorem th_index {t : Th} (h : thF t = ("index" : Str)) : ∃ k, t = .n k := by
  cases t with
  | n k => exact ⟨k, rfl⟩
  | x s => exact absurd h (show ¬ (("name" : Str) = "index") by decide)
  | is s => exact absurd h (show ¬ (("indexes" : Str) = "index") by decide)
  | xs s => exact absurd h (show ¬ (("names" : Str) = "index") by decide)
theorem th_name {t : Th} (h : thF t = ("name" : Str)) : ∃ k, t = .x k := by
  cases t with
  | n k => exact absurd h (show ¬ (("index" : Str) = "name") by decide)
  | x s => exact ⟨s, rfl⟩
  | is s => exact absurd h (show ¬ (("indexes" : Str) = "name") by decide)
  | xs s => exact absurd h (show ¬ (("names" : Str) = "name") by decide)
theorem th_indexes {t : Th} (h : thF t = ("indexes" : Str)) : ∃ k, t = .is k := by
  cases t with
  | n k => exact absurd h (show ¬ (("index" : Str) = "indexes") by decide)
  | x s => exact absurd h (show ¬ (("name" : Str) = "indexes") by decide)
  | is s => exact ⟨s, rfl⟩
  | xs s => exact absurd h (show ¬ (("names" : Str) = "indexes") by decide)
theorem th_names {t : Th} (h : thF t = ("names" : Str)) : ∃ k, t = .xs k := by
  cases t with
  | n k => exact absurd h (show ¬ (("index" : Str) = "names") by decide)
  | x s => exact absurd h (show ¬ (("name" : Str) = "names") by decide)
  | is s => exact absurd h (show ¬ (("indexes" : Str) = "names") by decide)
  | xs s => exact ⟨s, rfl⟩
theorem map_c {g : List Th} {a : Str} {l : List Str} (h : g.map thF = a :: l) : ∃ t r, g = t :: r ∧ thF t = a ∧ r.map thF = l := by
  cases g with
  | nil => cases h
  | cons t r => exact ⟨t, r, rfl, (List.cons.inj h).1, (List.cons.inj h).2⟩
theorem map_0 {g : List Th} (h : g.map thF = []) : g = [] := List.map_eq_nil_iff.mp h
theorem k__law_told_words (F : Facts K mg w) : C8.Cal P w K mg base 2 "_law_told_words" (spL R_toldw) [] := by
  have c__law_path_words := k__law_path_words (P := P) (w := w) (base := base) F
  refine F._law_told_words.L sc__law_told_words (by decide) (fun ds d h => ?_) (fun f cdv A outer s H E hr => ⟨_, (pss_cons (ps_if (pt_cmpR op_eq (pv 0) pe_str (nomark _)) (pss_one (ps_ret (pe_lst (pa_cons (pe_callTy Nz.c_strA rfl F.b_str Nz.boot_str (pa_cons (pe_ix (Nz.ixT K) (pv 1) pe_int (fun _ _ => rfl)) pa_nil)) (pa_cons (pe_ix (Nz.ixT K) (pv 1) pe_int (fun _ _ => rfl)) (pa_cons (pe_ix (Nz.ixT K) (pv 1) pe_int (fun _ _ => rfl)) pa_nil)))))) pss_nil)
    (pss_cons (ps_if (pt_cmpR (Nz.inQ K) (pv 0) (pe_tup (pa_cons pe_str (pa_cons pe_str pa_nil))) rfl) (pss_one (ps_ret (pe_lst (pa_cons (pe_callTy Nz.c_strA rfl F.b_str Nz.boot_str (pa_cons (pe_ix (Nz.ixT K) (pv 1) pe_int (fun _ _ => rfl)) pa_nil)) pa_nil)))) pss_nil)
    (pss_cons (ps_if (pt_cmpR op_eq (pv 0) pe_str (nomark _)) (pss_one (ps_ret (C8.pe_c c__law_path_words hr (by first | decide | omega) rfl (pa_cons (pe_ix (Nz.ixT K) (pv 1) pe_int (fun _ _ => rfl)) pa_nil)))) pss_nil)
    (pss_cons (ps_if (pt_cmpR op_eq (pv 0) pe_str (nomark _)) (pss_one (ps_ret (pe_op op_cat (pe_lst (pa_cons (pe_ix (Nz.ixT K) (pv 1) pe_int (fun _ _ => rfl)) pa_nil)) (C8.pe_c c__law_path_words hr (by first | decide | omega) rfl (pa_cons (pe_ix (Nz.ixT K) (pv 1) pe_int (fun _ _ => rfl)) pa_nil))))) pss_nil)
    (pss_cons (ps_if (pt_cmpR op_eq (pv 0) pe_str (nomark _)) (pss_one (ps_ret (pe_op op_cat (pe_lst (pa_cons (pe_callTy Nz.c_strA rfl F.b_str Nz.boot_str (pa_cons (pe_callB (Nz.cLen K) rfl F.b_len Nz.boot_len (pa_cons (pe_ix (Nz.ixT K) (pv 1) pe_int (fun _ _ => rfl)) pa_nil)) pa_nil)) pa_nil)) (pe_callTy (Nz.cLst K) rfl F.b_list Nz.boot_list (pa_cons (pe_ix (Nz.ixT K) (pv 1) pe_int (fun _ _ => rfl)) pa_nil))))) pss_nil)
    (pss_one (ps_ret (pe_lst pa_nil)))))))), fun ds d h => ?_⟩)
  · obtain ⟨t, _, _, _, rfl, _⟩ := h
    rfl
  obtain ⟨rule, g, hf, ho, rfl, rfl⟩ := h
  have B1 : ∀ {n : Nat}, n ≤ 100000 → n ≤ sizeLine := fun h => Nat.le_trans h (by decide)
  have pw : ∀ {es : Es} {te : TE} {ks : List Nat}, thOk (.is ks) → ED te es (.t (natsD ks)) → EL (tCall (spL R_pathw) [] C8.E0 (tCons te tNil)) es ((thW (.is ks)).map D.s) := fun hk h => el_call (ea_cons h ea_nil) ⟨_, hk, rfl, rfl⟩
  refine sq_if (et_test (ed_op (ed_var rfl) ed_str rd_eqS)) (fun h => ?_) (fun h1 => ?_)
  · have e := of_decide_eq_true h
    subst e
    obtain ⟨t1, r1, rfl, f1, h1⟩ := map_c (l := ["name", "name"]) hf
    obtain ⟨t2, r2, rfl, f2, h2⟩ := map_c h1
    obtain ⟨t3, r3, rfl, f3, h3⟩ := map_c h2
    obtain rfl := map_0 h3
    obtain ⟨k, rfl⟩ := th_index f1
    obtain ⟨x, rfl⟩ := th_name f2
    obtain ⟨y, rfl⟩ := th_name f3
    have hk : k < 1000 := ho (.n k) (by simp)
    exact sq_retL (el_lst (ea_cons (ed_strN (ed_op (ed_var rfl) ed_int rd_ixT0) (by omega)) (ea_cons (ed_op (ed_var rfl) ed_int rd_ixT1) (ea_cons (ed_op (ed_var rfl) ed_int rd_ixT2) ea_nil))) (short_size rfl)) rfl
  have n1 := of_decide_eq_false h1
  refine sq_if (b := decide (rule ∈ (["float-let", "float-cost"] : List Str))) (et_eq (et_test (ed_op (ed_var rfl) (show ED _ _ (.t [.s "float-let", .s "float-cost"]) from ed_tup (ea_cons ed_str (ea_cons ed_str ea_nil)) (short_size rfl)) (rd_inTb rfl rfl))) (inD_strs (xs := ["float-let", "float-cost"]))) (fun h => ?_) (fun h2 => ?_)
  · have e := of_decide_eq_true h
    have hf : g.map thF = [("index" : Str)] := by
      rw [hf]
      simp only [List.mem_cons, List.not_mem_nil, or_false] at e
      rcases e with rfl | rfl <;> rfl
    obtain ⟨t1, r1, rfl, f1, h1⟩ := map_c hf
    obtain rfl := map_0 h1
    obtain ⟨k, rfl⟩ := th_index f1
    have hk : k < 1000 := ho (.n k) (by simp)
    exact sq_retL (el_lst (ea_cons (ed_strN (ed_op (ed_var rfl) ed_int rd_ixT0) (by omega)) ea_nil) (short_size rfl)) rfl
  have n2 := of_decide_eq_false h2
  refine sq_if (et_test (ed_op (ed_var rfl) ed_str rd_eqS)) (fun h => ?_) (fun h3 => ?_)
  · have e := of_decide_eq_true h
    subst e
    obtain ⟨t1, r1, rfl, f1, h1⟩ := map_c (l := []) hf
    obtain rfl := map_0 h1
    obtain ⟨ks, rfl⟩ := th_indexes f1
    have e1 : (thsW [.is ks]).map D.s = (thW (.is ks)).map D.s := by
      show ((thW (.is ks)) ++ []).map D.s = _
      rw [List.append_nil]
    exact sq_retL (pw (ho _ (by simp)) (ed_op (ed_var rfl) ed_int rd_ixT0)) e1.symm
  have n3 := of_decide_eq_false h3
  refine sq_if (et_test (ed_op (ed_var rfl) ed_str rd_eqS)) (fun h => ?_) (fun h4 => ?_)
  · have e := of_decide_eq_true h
    subst e
    obtain ⟨t1, r1, rfl, f1, h1⟩ := map_c (l := ["indexes"]) hf
    obtain ⟨t2, r2, rfl, f2, h2⟩ := map_c h1
    obtain rfl := map_0 h2
    obtain ⟨x, rfl⟩ := th_name f1
    obtain ⟨ks, rfl⟩ := th_indexes f2
    have hk : thOk (.is ks) := ho _ (by simp)
    have e1 : (thsW [.x x, .is ks]).map D.s = [D.s x] ++ (thW (.is ks)).map D.s := by
      show ([x] ++ ((thW (.is ks)) ++ [])).map D.s = _
      rw [List.append_nil]
      rfl
    refine sq_retL (el_op (EL.toD (el_lst (ea_cons (ed_op (ed_var rfl) ed_int rd_ixT0) ea_nil) (short_size rfl))) (EL.toD (pw hk (ed_op (ed_var rfl) ed_int rd_ixT1))) (rl_cat ?_)) e1.symm
    rw [List.length_map]
    have := (th_ok hk).2
    exact B1 (show 1 + _ ≤ _ by omega)
  have n4 := of_decide_eq_false h4
  refine sq_if (et_test (ed_op (ed_var rfl) ed_str rd_eqS)) (fun h => ?_) (fun h5 => ?_)
  · have e := of_decide_eq_true h
    subst e
    obtain ⟨t1, r1, rfl, f1, h1⟩ := map_c (l := []) hf
    obtain rfl := map_0 h1
    obtain ⟨xs, rfl⟩ := th_names f1
    obtain ⟨l1, l2, _⟩ : thOk (.xs xs) := ho _ (by simp)
    have e1 : (thsW [.xs xs]).map D.s = [D.s (nW xs.length)] ++ xs.map D.s := by
      show ((nW xs.length :: xs) ++ []).map D.s = _
      rw [List.append_nil]
      rfl
    refine sq_retL (el_op (EL.toD (el_lst (ea_cons (ed_strN (ed_eq (ed_cb (ea_cons (ed_op (ed_var rfl) ed_int rd_ixT0) ea_nil) rc_lenT) (by rw [List.length_map])) (by omega)) ea_nil) (short_size rfl))) (EL.toD (el_cb (ea_cons (ed_op (ed_var rfl) ed_int rd_ixT0) ea_nil) rc_lstT)) (rl_cat ?_)) e1.symm
    rw [List.length_map]
    exact B1 (show 1 + _ ≤ _ by omega)
  have n5 := of_decide_eq_false h5
  have g0 : g = [] := by
    refine map_0 (hf.trans (toldF_none fun m => ?_))
    simp only [List.mem_cons, List.not_mem_nil, or_false, not_or] at m n2
    rcases m with m | m | m | m | m | m
    · exact n1 m
    · exact n2.1 m
    · exact n2.2 m
    · exact n3 m
    · exact n4 m
    · exact n5 m
  subst g0
  exact sd_retL (el_lst ea_nil (Nat.zero_le _)) rfl
def R_stepw (ds zs : List D) : Prop := ∃ s, stpOk s ∧ ds = [stpD s] ∧ zs = (stpW s).map D.s
theorem k__law_step_words (F : Facts K mg w) : C8.Cal P w K mg base 62 "_law_step_words" (spL R_stepw) [] := by
  have c__law_path_words := k__law_path_words (P := P) (w := w) (base := base) F
  have c__law_told_words := k__law_told_words (P := P) (w := w) (base := base) F
  have c__law_words := k__law_words (P := P) (w := w) (base := base) F 60
  refine F._law_step_words.L sc__law_step_words (by decide) (fun ds d h => ?_) (fun f cdv A outer s H E hr => ⟨_, (pss_cons (ps_set (i := 1) sc__law_step_words.nd rfl (Or.inl rfl) (pe_op op_cat (pe_lst (pa_cons (pe_ix (Nz.ixT K) (pv 0) pe_int (fun _ _ => rfl)) pa_nil)) (C8.pe_c c__law_path_words hr (by first | decide | omega) rfl (pa_cons (pe_ix (Nz.ixT K) (pv 0) pe_int (fun _ _ => rfl)) pa_nil))))
    (pss_cons (ps_if (pt_cmpR (Nz.inQ K) (pe_ix (Nz.ixT K) (pv 0) pe_int (fun _ _ => rfl)) (pe_tup (pa_cons pe_str (pa_cons pe_str pa_nil))) rfl) (pss_one (ps_ret (pe_op op_cat (pv 1) (pe_lst (pa_cons (pe_callTy Nz.c_strA rfl F.b_str Nz.boot_str (pa_cons (pe_ix (Nz.ixT K) (pv 0) pe_int (fun _ _ => rfl)) pa_nil)) pa_nil))))) pss_nil)
    (pss_cons (ps_set (i := 1) sc__law_step_words.nd rfl (Or.inl rfl) (pe_op op_cat (pe_op op_cat (pv 1) (pe_lst (pa_cons (pe_ix (Nz.ixT K) (pv 0) pe_int (fun _ _ => rfl)) pa_nil))) (C8.pe_c c__law_told_words hr (by first | decide | omega) rfl (pa_cons (pe_ix (Nz.ixT K) (pv 0) pe_int (fun _ _ => rfl)) (pa_cons (pe_ix (Nz.ixT K) (pv 0) pe_int (fun _ _ => rfl)) pa_nil)))))
    (pss_cons (ps_if (pt_cmpR op_eq (pe_ix (Nz.ixT K) (pv 0) pe_int (fun _ _ => rfl)) pe_str (nomark _)) (pss_one (ps_set (i := 1) sc__law_step_words.nd rfl (Or.inl rfl) (pe_op op_cat (pv 1) (C8.pe_c c__law_words hr (by first | decide | omega) rfl (pa_cons (pe_ix (Nz.ixT K) (pv 0) pe_int (fun _ _ => rfl)) pa_nil))))) pss_nil)
    (pss_one (ps_ret (pv 1))))))), fun ds d h => ?_⟩)
  · obtain ⟨t, _, rfl, _⟩ := h
    rfl
  obtain ⟨s, ok, rfl, rfl⟩ := h
  have so := stp_ok ok
  have B1 : ∀ {n : Nat}, n ≤ 100000 → n ≤ sizeLine := fun h => Nat.le_trans h (by decide)
  have pw : ∀ {es : Es} {te : TE} {ks : List Nat}, thOk (.is ks) → ED te es (.t (natsD ks)) → EL (tCall (spL R_pathw) [] C8.E0 (tCons te tNil)) es ((thW (.is ks)).map D.s) := fun hk h => el_call (ea_cons h ea_nil) ⟨_, hk, rfl, rfl⟩
  have head : ∀ (kind : Str) (path : List Nat) (rs : List D), thOk (.is path) → EL (tOp rCat (tLst (tCons (tOp (rIxT K) (tVar 0) (tC (.int 0))) tNil)) (tCall (spL R_pathw) [] C8.E0 (tCons (tOp (rIxT K) (tVar 0) (tC (.int 1))) tNil))) [.d (.t (.s kind :: .t (natsD path) :: rs)), .no] ((kind :: thW (.is path)).map D.s) := fun kind path rs hp => by
    refine (el_op (EL.toD (el_lst (ea_cons (ed_op (ed_var rfl) ed_int rd_ixT0) ea_nil) (short_size rfl))) (EL.toD (pw hp (ed_op (ed_var rfl) ed_int rd_ixT1))) (rl_cat ?_))
    rw [List.length_map]
    have := (th_ok hp).2
    exact B1 (show 1 + _ ≤ _ by omega)
  have inC : ∀ (kind : Str) (rs : List D) (κ1 : Sl), ET (tTest (tOp (rIn K false) (tOp (rIxT K) (tVar 0) (tC (.int 0))) (tTup (tCons (tC (.str "claim")) (tCons (tC (.str "undo")) tNil))))) [.d (.t (.s kind :: rs)), κ1] (decide (kind ∈ (["claim", "undo"] : List Str))) := fun kind rs κ1 => et_eq (et_test (ed_op (ed_op (ed_var rfl) ed_int rd_ixT0) (show ED _ _ (.t [.s "claim", .s "undo"]) from ed_tup (ea_cons ed_str (ea_cons ed_str ea_nil)) (short_size rfl)) (rd_inTb rfl rfl))) (inD_strs (xs := ["claim", "undo"]))
  cases s with
  | cl kind path k =>
    obtain ⟨hk, hp, hn⟩ := ok
    refine sq_setO (head kind path _ hp) ?_
    refine sq_if (inC kind _ _) (fun _ => ?_) (fun h => ?_)
    · refine sd_freeze (i := 1) rfl ?_
      refine sq_retL (el_eq (el_op (ed_var rfl) (EL.toD (el_lst (ds := [D.s (nW k)]) (ea_cons (ed_strN (ed_op (ed_var rfl) ed_int rd_ixT2) (by omega)) ea_nil) (short_size rfl))) (rl_cat ?_)) ?_) rfl
      · rw [List.length_map]
        have := (th_ok hp).2
        exact B1 (show _ + 1 + 1 ≤ _ by omega)
      · show _ = (kind :: (thW (.is path) ++ [nW k])).map D.s
        rw [List.map_cons, List.map_cons, List.map_append]
        rfl
    · have := of_decide_eq_false h
      rcases hk with rfl | rfl
      · exact absurd (by decide) this
      · exact absurd (by decide) this
  | go path rule given =>
    have hp := ok.1
    have p := th_ok hp
    have q := ths_ok ok.2.2.2
    have gl := given_len ok
    refine sq_setO (head "go" path _ hp) ?_
    refine sq_if (b := false) (et_eq (inC "go" _ _) (by decide)) (fun h => by cases h) (fun _ => ?_)
    refine sd_freeze (i := 1) rfl ?_
    refine sq_setO (ds := (("go" : Str) :: (thW (.is path) ++ (rule :: thsW given))).map D.s) (el_eq (el_op (EL.toD (el_op (ed_var rfl) (EL.toD (el_lst (ds := [D.s rule]) (ea_cons (ed_op (ed_var rfl) ed_int rd_ixT2) ea_nil) (short_size rfl))) (rl_cat ?_))) (EL.toD (el_call (ea_cons (ed_op (ed_var rfl) ed_int rd_ixT2) (ea_cons (ed_op (ed_var rfl) ed_int (rd_ixT (atI_nat (j := 3) rfl))) ea_nil)) ⟨rule, given, ok.2.2.1, ok.2.2.2, rfl, rfl⟩)) (rl_cat ?_)) ?_) ?_
    · rw [List.length_map]
      exact B1 (show _ + 1 + 1 ≤ _ by have := p.2; omega)
    · rw [List.length_append, List.length_map, List.length_map, List.length_cons]
      have := p.2
      have := q.2
      exact B1 (show _ + 1 + 1 + _ ≤ _ by omega)
    · simp
    refine sq_if (b := false) (et_test (ed_op (ed_op (ed_var rfl) ed_int rd_ixT0) ed_str (rd_eqSb (by decide)))) (fun h => by cases h) (fun _ => ?_)
    exact sd_retO rfl rfl
  | back path rule given t =>
    obtain ⟨ok, ht⟩ := ok
    have hp := ok.1
    have p := th_ok hp
    have q := ths_ok ok.2.2.2
    have gl := given_len ok
    have h2 := ht.2
    refine sq_setO (head "back" path _ hp) ?_
    refine sq_if (b := false) (et_eq (inC "back" _ _) (by decide)) (fun h => by cases h) (fun _ => ?_)
    refine sd_freeze (i := 1) rfl ?_
    refine sq_setO (ds := (("back" : Str) :: (thW (.is path) ++ (rule :: thsW given))).map D.s) (el_eq (el_op (EL.toD (el_op (ed_var rfl) (EL.toD (el_lst (ds := [D.s rule]) (ea_cons (ed_op (ed_var rfl) ed_int rd_ixT2) ea_nil) (short_size rfl))) (rl_cat ?_))) (EL.toD (el_call (ea_cons (ed_op (ed_var rfl) ed_int rd_ixT2) (ea_cons (ed_op (ed_var rfl) ed_int (rd_ixT (atI_nat (j := 3) rfl))) ea_nil)) ⟨rule, given, ok.2.2.1, ok.2.2.2, rfl, rfl⟩)) (rl_cat ?_)) ?_) ?_
    · rw [List.length_map]
      exact B1 (show _ + 1 + 1 ≤ _ by have := p.2; omega)
    · rw [List.length_append, List.length_map, List.length_map, List.length_cons]
      have := p.2
      have := q.2
      exact B1 (show _ + 1 + 1 + _ ≤ _ by omega)
    · simp
    refine sq_if2 (b := true) (et_test (ed_op (ed_op (ed_var rfl) ed_int rd_ixT0) ed_str (rd_eqSb (by decide)))) (fun _ => ?_) (fun h => by cases h)
    refine sd_freeze (i := 1) rfl ?_
    refine sq_setO (ds := (("back" : Str) :: (thW (.is path) ++ (rule :: (thsW given ++ wd t)))).map D.s) (el_eq (el_op (ed_var rfl) (EL.toD (el_call (ea_cons (ed_op (ed_var rfl) ed_int (rd_ixT (atI_nat (j := 4) rfl))) ea_nil) ⟨t, ht.1.1, ht.1.2.1, ht.1.2.2.1, ht.2.2, rfl, rfl⟩)) (rl_cat ?_)) ?_) ?_
    · rw [List.length_map, List.length_map, List.length_cons, List.length_append, List.length_cons]
      have := p.2
      have := q.2
      exact B1 (by omega)
    · simp
    exact sd_retO rfl rfl
end
end Nz
namespace Nz
open PySem L2
def okE (e : Ent) : Prop := entOk e ∧ dD (entD e) ≤ 61 ∧ (entL e).length ≤ 50
theorem dD_ent {e : Ent} {n : Nat} (h2 : 2 ≤ n) (h : ∀ t, (∃ ss, e = .der t ss) ∨ (∃ k, e = .ctx k t) ∨ (∃ a b ps, e = .rcn a b t ps) → dD (enc t) ≤ n) (hs : ∀ t ss, e = .der t ss → ∀ s ∈ ss, dD (stpD s) + 1 ≤ n) : dD (entD e) ≤ n + 1 := by
  cases e with
  | der t ss =>
    have : dD (.t (ss.map stpD)) ≤ n := by
      have : dDs (ss.map stpD) ≤ n - 1 := dDs_le fun x m => by
        obtain ⟨s, ms, rfl⟩ := List.mem_map.mp m
        have := hs t ss rfl s ms
        omega
      show dDs (ss.map stpD) + 1 ≤ n
      omega
    exact Nat.succ_le_succ (mx (Nat.zero_le _) (mx (h t (.inl ⟨ss, rfl⟩)) (mx this (Nat.zero_le _))))
  | ctx k t => exact Nat.succ_le_succ (mx (Nat.zero_le _) (mx (Nat.zero_le _) (mx (h t (.inr (.inl ⟨k, rfl⟩))) (Nat.zero_le _))))
  | chain a b => exact Nat.succ_le_succ (mx (Nat.zero_le _) (mx (Nat.zero_le _) (mx (Nat.zero_le _) (Nat.zero_le _))))
  | rcn a b t ps =>
    have : dD (psD ps) ≤ n := by
      have : dD (psD ps) ≤ 2 := dD_t fun x m => by
        obtain ⟨p, _, rfl⟩ := List.mem_map.mp m
        exact Nat.succ_le_succ (mx (Nat.zero_le _) (mx (Nat.zero_le _) (Nat.zero_le _)))
      omega
    exact Nat.succ_le_succ (mx (Nat.zero_le _) (mx (Nat.zero_le _) (mx (Nat.zero_le _) (mx (h t (.inr (.inr ⟨a, b, ps, rfl⟩))) (mx this (Nat.zero_le _))))))
theorem smD_ent {e : Ent} (h : entOk e) : smD (entD e) := by
  cases e with
  | der t ss =>
    refine ⟨by show 3 ≤ 1000000; decide, trivial, smD_enc t h.1.1.1, smD_t (by rw [List.length_map]; have := h.2.1; omega) fun x m => ?_, trivial⟩
    obtain ⟨s, ms, rfl⟩ := List.mem_map.mp m
    exact smD_stp (h.2.2 s ms)
  | ctx k t => exact ⟨by show 3 ≤ 1000000; decide, trivial, trivial, smD_enc t h.2.1.1, trivial⟩
  | chain a b => exact ⟨by show 3 ≤ 1000000; decide, trivial, trivial, trivial, trivial⟩
  | rcn a b t ps =>
    refine ⟨by show 5 ≤ 1000000; decide, trivial, trivial, trivial, smD_enc t h.2.2.1.1.1, smD_t (by rw [List.length_map]; have := h.2.2.2.1; omega) fun x m => ?_, trivial⟩
    obtain ⟨p, _, rfl⟩ := List.mem_map.mp m
    exact ⟨by show 2 ≤ 1000000; decide, trivial, trivial, trivial⟩
theorem paired_prs {ds rs : List D} (h : Paired (fun _ d => ∃ x y, d = .t [.s x, .s y] ∧ NameOk x ∧ NameOk y) ds rs) : ∃ ps : List (Str × Str), rs = (ps.map fun p => .t [.s p.1, .s p.2]) ∧ ps.length = ds.length ∧ ∀ p ∈ ps, NameOk p.1 ∧ NameOk p.2 := by
  induction h with
  | nil => exact ⟨[], rfl, rfl, fun x m => by cases m⟩
  | cons r t ih =>
    obtain ⟨x, y, rfl, hx⟩ := r
    obtain ⟨xs, rfl, hl, hn⟩ := ih
    refine ⟨(x, y) :: xs, rfl, by rw [List.length_cons, List.length_cons, hl], fun z m => ?_⟩
    rcases List.mem_cons.mp m with rfl | m
    · exact hx
    · exact hn z m
section
variable {P : Program} {w : World} {K : PySem.W.Frag} {mg : Str → Option Value} {base : Heap}
theorem yd_step {p q : Addr} {ns : List Int} {es : Es} {n : Nat} {β : Int} {E0 : XK} (hi : es[n]? = some (.r (.ref p))) : YD (PoolM p q ns) β (tCall (spY (PoolM p q ns) (.ref p) (fun _ => preNil) (fun _ _ d _ => ∃ s, d = stpD s ∧ okS s)) [] E0 (tCons (tVar n) tNil)) es (fun z _ => ∃ s, z = stpD s ∧ okS s) :=
  yd_imp (yd_callY hi (yds_eds ea_nil) fun xs j ⟨e, _⟩ => e) fun d j ⟨_, _, _, r⟩ => r
theorem fk__law_entry (F : Facts K mg w) (p q : Addr) (ns : List Int) (f : Addr) (fd : FuncData) (hf : L2.Fun K "_law_entry" "_law_entry" s__law_entry f fd) : FnOk P w K mg base CX0 10 f fd ["pool"] (spY (PoolM p q ns) (.ref p) (fun _ => preNil) (fun _ _ d _ => ∃ e, d = entD e ∧ okE e)) := by
  have c__law_draw := k__law_draw (P := P) (w := w) (base := base) F p q ns
  have c__law_name := k__law_name (P := P) (w := w) (base := base) F p q ns
  have c__law_step := k__law_step (P := P) (w := w) (base := base) F p q ns
  have c__law_any := k__law_any4 (P := P) (w := w) (base := base) F p q ns
  refine fn_Y hf sc__law_entry (fun _ ds e => by cases e; rfl) (fun cdv A outer s H E hr => ⟨_, (pss_cons (ps_set (i := 1) sc__law_entry.nd rfl (Or.inl rfl) (C8.pe_c c__law_draw hr (by first | decide | omega) rfl (pa_cons (pv 0) (pa_cons pe_int pa_nil))))
    (pss_cons (ps_asg pe_int (pg_sub (pv 0) pe_int set_list (fun _ => rfl)))
    (pss_cons (ps_if (pt_cmpR op_eq (pv 1) pe_int (nomark _)) (pss_one (ps_ret (pe_tup (pa_cons pe_str (pa_cons (C8.pe_c c__law_any hr (by first | decide | omega) rfl (pa_cons (pv 0) (pa_cons pe_int pa_nil))) (pa_cons (pe_callTy (Nz.cTup K) rfl F.b_tuple Nz.boot_tuple (pa_cons (pe_lc (own := [("k", 3)]) (g := (gName 3)) rfl sc__law_entry.nd (pi_range1 rfl F.b_range (pa_cons (C8.pe_c c__law_draw hr (by first | decide | omega) rfl (pa_cons (pv 0) (pa_cons pe_int pa_nil))) pa_nil)) (blkOk_by (own := [("k", 3)]) (N := n__law_entry) (sc := defScope s__law_entry) (by decide +kernel)) (fun _ _ _ _ _ => (pg_name (i := 3) sc__law_entry.nd rfl (Or.inl rfl))) (fun _ _ _ _ _ => pts_nil) (fun _ _ _ _ _ => (C8.pe_c c__law_step hr (by first | decide | omega) rfl (pa_cons (pv 0) pa_nil)))) pa_nil)) pa_nil)))))) pss_nil)
    (pss_cons (ps_if (pt_cmpR op_eq (pv 1) pe_int (nomark _)) (pss_one (ps_ret (pe_tup (pa_cons pe_str (pa_cons (C8.pe_c c__law_draw hr (by first | decide | omega) rfl (pa_cons (pv 0) (pa_cons pe_int pa_nil))) (pa_cons (C8.pe_c c__law_any hr (by first | decide | omega) rfl (pa_cons (pv 0) (pa_cons pe_int pa_nil))) pa_nil)))))) pss_nil)
    (pss_cons (ps_if (pt_cmpR op_eq (pv 1) pe_int (nomark _)) (pss_one (ps_ret (pe_tup (pa_cons pe_str (pa_cons (C8.pe_c c__law_draw hr (by first | decide | omega) rfl (pa_cons (pv 0) (pa_cons pe_int pa_nil))) (pa_cons (C8.pe_c c__law_draw hr (by first | decide | omega) rfl (pa_cons (pv 0) (pa_cons pe_int pa_nil))) pa_nil)))))) pss_nil)
    (pss_cons (ps_set (i := 2) sc__law_entry.nd rfl (Or.inl rfl) (pe_callTy (Nz.cTup K) rfl F.b_tuple Nz.boot_tuple (pa_cons (pe_lc (own := [("k", 3)]) (g := (gName 3)) rfl sc__law_entry.nd (pi_range1 rfl F.b_range (pa_cons (C8.pe_c c__law_draw hr (by first | decide | omega) rfl (pa_cons (pv 0) (pa_cons (pe_ix (Nz.ixT K) (pe_tup (pa_cons pe_int (pa_cons pe_int pa_nil))) (pe_callTy Nz.c_int rfl F.b_int Nz.boot_int (pa_cons (pe_cmpR op_eq (C8.pe_c c__law_draw hr (by first | decide | omega) rfl (pa_cons (pv 0) (pa_cons pe_int pa_nil))) pe_int (nomark _)) pa_nil)) (fun _ _ => rfl)) pa_nil))) pa_nil)) (blkOk_by (own := [("k", 3)]) (N := n__law_entry) (sc := defScope s__law_entry) (by decide +kernel)) (fun _ _ _ _ _ => (pg_name (i := 3) sc__law_entry.nd rfl (Or.inl rfl))) (fun _ _ _ _ _ => pts_nil) (fun _ _ _ _ _ => (pe_tup (pa_cons (C8.pe_c c__law_name hr (by first | decide | omega) rfl (pa_cons (pv 0) pa_nil)) (pa_cons (C8.pe_c c__law_name hr (by first | decide | omega) rfl (pa_cons (pv 0) pa_nil)) pa_nil))))) pa_nil)))
    (pss_one (ps_ret (pe_tup (pa_cons pe_str (pa_cons (C8.pe_c c__law_draw hr (by first | decide | omega) rfl (pa_cons (pv 0) (pa_cons pe_int pa_nil))) (pa_cons (C8.pe_c c__law_draw hr (by first | decide | omega) rfl (pa_cons (pv 0) (pa_cons pe_int pa_nil))) (pa_cons (C8.pe_c c__law_any hr (by first | decide | omega) rfl (pa_cons (pv 0) (pa_cons pe_int pa_nil))) (pa_cons (pv 2) pa_nil)))))))))))))), fun β ds hP => ?_⟩)
  cases hP
  refine syq_setY (yd_xd (xd_drawM (n := 4) rfl (by decide) (by decide))) fun d j ⟨⟨kind, e, hk⟩, ej⟩ => ?_
  subst e ej
  refine syq_pool5 rfl ?_
  refine syq_if (et_test (ed_op (ed_var rfl) ed_int rd_eqI)) (fun h => ?_) (fun h0 => ?_)
  · refine syq_retY (yd_tup (ys_ced ed_str (ys_cy (yd_any4 rfl (by decide)) fun j2 => ys_one (yd_cb (Rz := fun z _ => ∃ ss : List Stp, z = .t (ss.map stpD) ∧ ss.length < 4 ∧ ∀ s ∈ ss, okS s) (ys_one (yl_toD (yl_lcC (Rs := fun ds _ => ∃ m : Nat, ds = rngD m ∧ m < 4) (C := fun ds i acc _ => (∃ m : Nat, ds = rngD m ∧ m < 4) ∧ ∃ ss : List Stp, acc = ss.map stpD ∧ ss.length = i ∧ ∀ s ∈ ss, okS s) rfl (ysrc_imp (ysrc_xsrc (xsrc_drawM (n := 4) rfl (by decide) (by decide))) fun ds j h => h.1) (fun ds j ⟨m, e, hm⟩ => by subst e; rw [rng_len]; exact small4 (by omega)) (fun ds j h => ⟨h, [], rfl, rfl, fun s m => by cases m⟩)
      fun ds i z acc j hz ⟨h, ss, e, hl, hs⟩ => ⟨_, _, gw_name rfl, yd_step rfl, fun d j' ⟨s, e2, h2⟩ => ⟨h, ss ++ [s], by rw [e, e2, List.map_append]; rfl, by rw [List.length_append, hl]; rfl, fun t m => ?_⟩⟩))) fun xs j r => ?_))) fun ds j r => ?_) fun d j r => ?_
    · rcases List.mem_append.mp m with m | m
      · exact hs t m
      · cases List.mem_singleton.mp m
        exact h2
    · obtain ⟨_, rfl, _, rfl, ds, ⟨m, rfl, hm⟩, ss, rfl, hl, hs⟩ := r
      rw [rng_len] at hl
      exact ⟨_, rc_tupL, ss, rfl, by omega, hs⟩
    · obtain ⟨_, rfl, _, _, _, rfl, _, _, rfl, _⟩ := r
      exact short_size rfl
    · obtain ⟨_, rfl, _, rfl, _, _, _, rfl, ⟨t, rfl, ht, dt⟩, _, rfl, ss, rfl, hl, hs⟩ := r
      refine ⟨.der t ss, rfl, ⟨ht, by omega, fun s m => (hs s m).1⟩, dD_ent (n := 60) (by decide) (fun t' h => ?_) (fun t' ss' e s m => ?_), ?_⟩
      · rcases h with ⟨_, e⟩ | ⟨_, e⟩ | ⟨_, _, _, e⟩
        · cases e; omega
        · cases e
        · cases e
      · cases e
        have := (hs s m).2
        omega
      · show (headL (.der t ss) :: wd t :: ss.map stpW).length ≤ 50
        rw [List.length_cons, List.length_cons, List.length_map]
        omega
  refine syq_if (et_test (ed_op (ed_var rfl) ed_int rd_eqI)) (fun h => ?_) (fun h1 => ?_)
  · refine syq_retY (yd_tup (ys_ced ed_str (ys_cxd (xd_drawM (n := 9) rfl (by decide) (by decide)) (ys_one (yd_any4 rfl (by decide))))) fun ds j r => ?_) fun d j r => ?_
    · obtain ⟨_, rfl, _, _, rfl, _, _, rfl, _⟩ := r
      exact short_size rfl
    · obtain ⟨_, rfl, _, rfl, _, _, rfl, ⟨k, rfl, hk⟩, _, rfl, t, rfl, ht, dt⟩ := r
      refine ⟨.ctx k t, rfl, ⟨by omega, ht⟩, dD_ent (n := 60) (by decide) (fun t' h => ?_) (fun t' ss' e s m => by cases e), by show 2 ≤ 50; decide⟩
      rcases h with ⟨_, e⟩ | ⟨_, e⟩ | ⟨_, _, _, e⟩
      · cases e
      · cases e; omega
      · cases e
  refine syq_if (et_test (ed_op (ed_var rfl) ed_int rd_eqI)) (fun h => ?_) (fun h2 => ?_)
  · refine syq_retY (yd_xd (xd_tup (xs_cons (xd_ed ed_str) fun _ _ => xs_cons (xd_drawM (n := 9) rfl (by decide) (by decide)) fun _ _ => xs_one (xd_drawM (n := 1000) rfl (by decide) (by decide))) fun ds r => ?_)) fun d j r => ?_
    · obtain ⟨_, _, rfl, _, _, _, rfl, _, _, rfl, _⟩ := r
      exact short_size rfl
    · obtain ⟨⟨_, rfl, _, _, rfl, rfl, _, _, rfl, ⟨a, rfl, ha⟩, _, rfl, b, rfl, hb⟩, _⟩ := r
      exact ⟨.chain a b, rfl, ⟨by omega, hb⟩, dD_ent (n := 60) (by decide) (fun t' h => by rcases h with ⟨_, e⟩ | ⟨_, e⟩ | ⟨_, _, _, e⟩ <;> cases e) (fun t' ss' e s m => by cases e), by show 1 ≤ 50; decide⟩
  refine syq_setY (R := fun z j => (∃ ps, z = psD ps ∧ ps.length < 9 ∧ ∀ p ∈ ps, NameOk p.1 ∧ NameOk p.2) ∧ j = 5) (yd_xd (xd_cb (Rz := fun z => ∃ ps, z = psD ps ∧ ps.length < 9 ∧ ∀ p ∈ ps, NameOk p.1 ∧ NameOk p.2) (xs_one (xl_toD (xl_lcM (Rs := fun ds => ∃ m : Nat, ds = rngD m ∧ m < 9) (R := fun _ d => ∃ x y, d = .t [.s x, .s y] ∧ NameOk x ∧ NameOk y) rfl (fun S A B H σ E wk Q q => ?_) (fun ds ⟨m, e, hm⟩ => by subst e; rw [rng_len]; exact small4 (by omega)) fun ds r z hz => ⟨_, gw_name rfl, xd_imp (xd_tup (xs_cons (xd_name rfl) fun _ _ => xs_one (xd_name rfl)) fun ds r => ?_) fun d r => ?_⟩))) fun xs r => ?_)) fun d j ⟨⟨ps, e, hl, hp⟩, ej⟩ => ?_
  · refine (xsrc_rng (R := fun m => m < 9) (xds_imp (xs_one (xd_imp (xd_callK rfl (xs_one (xd_opR (R3 := fun _ z => z = .i 3 ∨ z = .i 9) (show ED _ _ (.t [.i 3, .i 9]) from ed_tup (ea_cons ed_int (ea_cons ed_int ea_nil)) (short_size rfl)) (xd_drawI (n := 3) rfl (by decide) (by decide)) fun y h => ?_)) fun xs r => ?_) fun d r => (?_ : ∃ m : Nat, d = .i (m : Int) ∧ m < 9))) fun z ⟨d, e, m, e2, hm⟩ => ⟨m, by rw [e, e2], hm⟩) fun m hm => by omega) S A B H σ E wk Q q
    · rcases h with rfl | rfl
      · exact ⟨_, rd_ixT0, .inl rfl⟩
      · exact ⟨_, rd_ixT1, .inr rfl⟩
    · obtain ⟨_, rfl, _, _, h⟩ := r
      rcases h with rfl | rfl
      · exact ⟨3, rfl, by decide, by decide⟩
      · exact ⟨9, rfl, by decide, by decide⟩
    · obtain ⟨_, ⟨_, rfl, _, _, h⟩, n, k, e, rfl, k0, k1⟩ := r
      obtain ⟨m, rfl⟩ := Int.eq_ofNat_of_zero_le k0
      refine ⟨m, rfl, ?_⟩
      rcases h with rfl | rfl
      · cases e; omega
      · cases e; omega
  · obtain ⟨_, _, rfl, _, _, rfl, _⟩ := r
    exact short_size rfl
  · obtain ⟨_, rfl, _, _, rfl, ⟨x, rfl, hx⟩, _, rfl, y, rfl, hy⟩ := r
    exact ⟨x, y, rfl, hx, hy⟩
  · obtain ⟨_, rfl, rs, rfl, ds, ⟨m, rfl, hm⟩, pr⟩ := r
    obtain ⟨ps, rfl, hl, hn⟩ := paired_prs pr
    rw [rng_len] at hl
    exact ⟨_, rc_tupL, ps, rfl, by omega, hn⟩
  subst e ej
  refine sy_retY (yd_tup (ys_ced ed_str (ys_cxd (xd_drawM (n := 9) rfl (by decide) (by decide)) (ys_cxd (xd_drawM (n := 9) rfl (by decide) (by decide)) (ys_cy (yd_any4 rfl (by decide)) fun j2 => ys_one (yd_ed (ed_var rfl)))))) fun ds j r => ?_) fun d j r => ?_
  · obtain ⟨_, rfl, _, _, rfl, _, _, _, rfl, _, _, _, _, rfl, _, _, rfl, _⟩ := r
    exact short_size rfl
  · obtain ⟨_, rfl, _, rfl, _, _, rfl, ⟨a, rfl, ha⟩, _, _, rfl, ⟨b, rfl, hb⟩, _, _, _, rfl, ⟨t, rfl, ht, dt⟩, _, rfl, rfl, _⟩ := r
    refine ⟨.rcn a b t ps, rfl, ⟨by omega, by omega, ht, by omega, hp⟩, dD_ent (n := 60) (by decide) (fun t' h => ?_) (fun t' ss' e s m => by cases e), by show 2 ≤ 50; decide⟩
    rcases h with ⟨_, e⟩ | ⟨_, e⟩ | ⟨_, _, _, e⟩
    · cases e
    · cases e
    · cases e; omega
end
end Nz
namespace Nz
open PySem L2
theorem pe_joinA {X : Cx} (K : PySem.W.Frag) {o e : Expr} {to te : TE} {apos pos : Pos} (ho : PE X o to) (he : PE X e te) (eK : X.K = K := by rfl) (hs : starEach [e] X.env = [(false, eval e X.env)] := by rfl) (hbase : attributeBase o "join" X.env (eval o X.env) = eval o X.env := by rfl) (hline : (apos.endLine == pos.line) = true := by rfl) : PE X (.Call (.Attribute o "join" apos) [e] [] pos) (tM1 (rJoin K) to te) := by
  subst eK
  exact pe_join ho he hs hbase hline
section
variable {P : Program} {w : World} {K : PySem.W.Frag} {mg : Str → Option Value} {base : Heap}
def R_entl (ds zs : List D) : Prop := ∃ e, entOk e ∧ ds = [entD e] ∧ zs = linesD (entL e)
theorem k__law_entry_lines (F : Facts K mg w) : C8.Cal P w K mg base 63 "_law_entry_lines" (spL R_entl) [] := by
  have c__law_words := k__law_words (P := P) (w := w) (base := base) F 60
  have c__law_step_words := k__law_step_words (P := P) (w := w) (base := base) F
  refine F._law_entry_lines.L sc__law_entry_lines (by decide) (fun ds d h => ?_) (fun f cdv A outer s H E hr => ⟨_, (pss_cons (ps_if (pt_cmpR op_eq (pe_ix (Nz.ixT K) (pv 0) pe_int (fun _ _ => rfl)) pe_str (nomark _)) (pss_cons (ps_set (i := 1) sc__law_entry_lines.nd rfl (Or.inl rfl) (pe_lst (pa_cons (pe_op Nz.op_addS pe_str (pe_callTy Nz.c_strA rfl F.b_str Nz.boot_str (pa_cons (pe_callB (Nz.cLen K) rfl F.b_len Nz.boot_len (pa_cons (pe_ix (Nz.ixT K) (pv 0) pe_int (fun _ _ => rfl)) pa_nil)) pa_nil))) (pa_cons (pe_join pe_str (C8.pe_c c__law_words hr (by first | decide | omega) rfl (pa_cons (pe_ix (Nz.ixT K) (pv 0) pe_int (fun _ _ => rfl)) pa_nil))) pa_nil))))
    (pss_one (ps_ret (pe_op op_cat (pv 1) (pe_lc (own := [("step", 5)]) (g := (gName 5)) rfl sc__law_entry_lines.nd (Nz.piT K (pe_ix (Nz.ixT K) (pv 0) pe_int (fun _ _ => rfl))) (blkOk_by (own := [("step", 5)]) (N := n__law_entry_lines) (sc := defScope s__law_entry_lines) (by decide +kernel)) (fun _ _ _ _ _ => (pg_name (i := 5) sc__law_entry_lines.nd rfl (Or.inl rfl))) (fun _ _ _ _ _ => pts_nil) (fun _ _ _ _ _ => (Nz.pe_joinA K pe_str (C8.pe_c c__law_step_words hr (by first | decide | omega) rfl (pa_cons (pv 5) pa_nil))))))))) pss_nil)
    (pss_cons (ps_if (pt_cmpR op_eq (pe_ix (Nz.ixT K) (pv 0) pe_int (fun _ _ => rfl)) pe_str (nomark _)) (pss_one (ps_ret (pe_lst (pa_cons (pe_op Nz.op_addS pe_str (pe_callTy Nz.c_strA rfl F.b_str Nz.boot_str (pa_cons (pe_ix (Nz.ixT K) (pv 0) pe_int (fun _ _ => rfl)) pa_nil))) (pa_cons (pe_join pe_str (C8.pe_c c__law_words hr (by first | decide | omega) rfl (pa_cons (pe_ix (Nz.ixT K) (pv 0) pe_int (fun _ _ => rfl)) pa_nil))) pa_nil))))) pss_nil)
    (pss_cons (ps_if (pt_cmpR op_eq (pe_ix (Nz.ixT K) (pv 0) pe_int (fun _ _ => rfl)) pe_str (nomark _)) (pss_one (ps_ret (pe_lst (pa_cons (pe_op Nz.op_addS (pe_op Nz.op_addS (pe_op Nz.op_addS pe_str (pe_callTy Nz.c_strA rfl F.b_str Nz.boot_str (pa_cons (pe_ix (Nz.ixT K) (pv 0) pe_int (fun _ _ => rfl)) pa_nil))) pe_str) (pe_callTy Nz.c_strA rfl F.b_str Nz.boot_str (pa_cons (pe_ix (Nz.ixT K) (pv 0) pe_int (fun _ _ => rfl)) pa_nil))) pa_nil)))) pss_nil)
    (pss_cons (ps_set (i := 2) sc__law_entry_lines.nd rfl (Or.inl rfl) (pe_lst (pa_cons pe_str (pa_cons (pe_callTy Nz.c_strA rfl F.b_str Nz.boot_str (pa_cons (pe_ix (Nz.ixT K) (pv 0) pe_int (fun _ _ => rfl)) pa_nil)) (pa_cons (pe_callTy Nz.c_strA rfl F.b_str Nz.boot_str (pa_cons (pe_ix (Nz.ixT K) (pv 0) pe_int (fun _ _ => rfl)) pa_nil)) (pa_cons (pe_callTy Nz.c_strA rfl F.b_str Nz.boot_str (pa_cons (pe_callB (Nz.cLen K) rfl F.b_len Nz.boot_len (pa_cons (pe_ix (Nz.ixT K) (pv 0) pe_int (fun _ _ => rfl)) pa_nil)) pa_nil)) pa_nil))))))
    (pss_cons (ps_for PassesOwn.never rfl (Nz.piT K (pe_ix (Nz.ixT K) (pv 0) pe_int (fun _ _ => rfl))) (pg_tup rfl (pgs_cons (pg_name (i := 3) sc__law_entry_lines.nd rfl (Or.inl rfl)) (pgs_cons (pg_name (i := 4) sc__law_entry_lines.nd rfl (Or.inl rfl)) pgs_nil))) (pss_one (ps_set (i := 2) sc__law_entry_lines.nd rfl (Or.inl rfl) (pe_op op_cat (pv 2) (pe_lst (pa_cons (pv 3) (pa_cons (pv 4) pa_nil)))))))
    (pss_one (ps_ret (pe_lst (pa_cons (pe_join pe_str (pv 2)) (pa_cons (pe_join pe_str (C8.pe_c c__law_words hr (by first | decide | omega) rfl (pa_cons (pe_ix (Nz.ixT K) (pv 0) pe_int (fun _ _ => rfl)) pa_nil))) pa_nil)))))))))), fun ds d h => ?_⟩)
  · obtain ⟨t, _, rfl, _⟩ := h
    rfl
  obtain ⟨e, ok, rfl, rfl⟩ := h
  have B1 : ∀ {n : Nat}, n ≤ 100000 → n ≤ sizeLine := fun h => Nat.le_trans h (by decide)
  have tw : ∀ {es : Es} {te : TE} {t : Tm}, tmOk t → ED te es (enc t) → ED (tM1 (rJoin K) (tC (.str " ")) (tCall (spL (R_wds 60)) [] C8.E0 (tCons te tNil))) es (.s (txt (wd t))) := fun {es te t} ht h => by
    have l := ln_wd ht
    exact ed_join (K := K) (ys := wd t) ed_str (ED.toX (EL.toD (el_call (ea_cons h ea_nil) ⟨t, ht.1.1, ht.1.2.1, ht.1.2.2.1, ht.2.2, rfl, rfl⟩))) (fits l.ok (Nat.le_trans l.len (by decide)))
  have sw : ∀ {es : Es} {te : TE} {s : Stp}, stpOk s → ED te es (stpD s) → ED (tM1 (rJoin K) (tC (.str " ")) (tCall (spL R_stepw) [] C8.E0 (tCons te tNil))) es (.s (txt (stpW s))) := fun {es te s} hs h => by
    have l := ln_stp hs
    exact ed_join (K := K) (ys := stpW s) ed_str (ED.toX (EL.toD (el_call (ea_cons h ea_nil) ⟨s, hs, rfl, rfl⟩))) (fits l.ok (Nat.le_trans l.len (by decide)))
  have ad : ∀ {es : Es} {te : TE} {k : Nat} {a c : Str}, c = a ++ (" " : Str) → c.length ≤ 20 → k < 1000 → ED te es (.i (k : Int)) → ED (tOp rAddS (tC (.str c)) (tCB rStrA (tCons te tNil))) es (.s (txt [a, nW k])) := fun {es te k a c} hc hl hk h => by
    refine ed_eq (ed_op ed_str (ed_strN h (by omega)) (rd_addS ?_)) (congrArg D.s (sp_a a (nW k) c hc))
    have := nW_len hk
    exact B1 (by omega)
  cases e with
  | der t ss =>
    obtain ⟨ht, hl, hs⟩ := ok
    refine sq_if2 (b := true) (et_test (ed_op (ed_op (ed_var rfl) ed_int rd_ixT0) ed_str (rd_eqSb (by decide)))) (fun _ => ?_) (fun h => by cases h)
    refine sq_assoc ?_
    refine sq_setO (el_lst (ea_cons (ad (a := "derived") (by decide +kernel) (by decide +kernel) hl (ed_eq (ed_cb (ea_cons (ed_op (ed_var rfl) ed_int rd_ixT2) ea_nil) rc_lenT) (by rw [List.length_map]))) (ea_cons (tw ht (ed_op (ed_var rfl) ed_int rd_ixT1)) ea_nil)) (short_size rfl)) ?_
    refine sd_freeze (i := 1) rfl ?_
    refine sq_retL (el_eq (el_op (ed_var rfl) (EL.toD (el_lcM (vs := [5]) ss stpD (fun s => D.s (txt (stpW s))) (small4 (by omega)) rfl (src_tup (ed_op (ed_var rfl) ed_int rd_ixT2)) fun s hm => ⟨_, gw_name rfl, sw (hs s hm) (ed_var rfl)⟩)) (rl_cat ?_)) ?_) rfl
    · rw [List.length_map]
      exact B1 (show 2 + _ ≤ _ by omega)
    · show _ = D.s _ :: D.s _ :: (ss.map stpW).map _
      rw [List.map_map]
      rfl
  | ctx k t =>
    obtain ⟨hk, ht⟩ := ok
    refine sq_if (b := false) (et_test (ed_op (ed_op (ed_var rfl) ed_int rd_ixT0) ed_str (rd_eqSb (by decide)))) (fun h => by cases h) (fun _ => ?_)
    refine sq_if (b := true) (et_test (ed_op (ed_op (ed_var rfl) ed_int rd_ixT0) ed_str (rd_eqSb (by decide)))) (fun _ => ?_) (fun h => by cases h)
    exact sq_retL (el_lst (ea_cons (ad (a := "context") (by decide +kernel) (by decide +kernel) hk (ed_op (ed_var rfl) ed_int rd_ixT1)) (ea_cons (tw ht (ed_op (ed_var rfl) ed_int rd_ixT2)) ea_nil)) (short_size rfl)) rfl
  | chain a b =>
    obtain ⟨h1, h2⟩ := ok
    refine sq_if (b := false) (et_test (ed_op (ed_op (ed_var rfl) ed_int rd_ixT0) ed_str (rd_eqSb (by decide)))) (fun h => by cases h) (fun _ => ?_)
    refine sq_if (b := false) (et_test (ed_op (ed_op (ed_var rfl) ed_int rd_ixT0) ed_str (rd_eqSb (by decide)))) (fun h => by cases h) (fun _ => ?_)
    refine sq_if (b := true) (et_test (ed_op (ed_op (ed_var rfl) ed_int rd_ixT0) ed_str (rd_eqSb (by decide)))) (fun _ => ?_) (fun h => by cases h)
    have la := nW_len h1
    have lb := nW_len h2
    have lc : (txt ["chain", nW a]).length ≤ 20 := by
      have := txt_ln ["chain", nW a]
      have e : ("chain" : Str).length = 5 := by decide +kernel
      simp only [List.map_cons, List.map_nil, List.sum_cons, List.sum_nil, List.length_cons, List.length_nil, e] at this
      omega
    have a2 : ED (tOp rAddS (tOp rAddS (tOp rAddS (tC (.str "chain ")) (tCB rStrA (tCons (tOp (rIxT K) (tVar 0) (tC (.int 1))) tNil))) (tC (.str " "))) (tCB rStrA (tCons (tOp (rIxT K) (tVar 0) (tC (.int 2))) tNil))) [.d (entD (.chain a b)), .no, .no, .no, .no, .no] (.s (txt ["chain", nW a, nW b])) := by
      refine ed_eq (ed_op (ed_op (ad (a := "chain") (by decide +kernel) (by decide +kernel) h1 (ed_op (ed_var rfl) ed_int rd_ixT1)) ed_str (rd_addS ?_)) (ed_strN (ed_op (ed_var rfl) ed_int rd_ixT2) (by omega)) (rd_addS ?_)) (congrArg D.s ?_)
      · rw [bl1]
        exact B1 (by omega)
      · rw [Str.length_append, bl1]
        exact B1 (by omega)
      · rw [txt_cons2 "chain" (by simp), txt_one, txt_cons2 "chain" (by simp), txt_cons2 (nW a) (by simp), txt_one]
        have as : ∀ x y z : Str, (x ++ y) ++ z = x ++ (y ++ z) := fun x y z => by
          rw [← SX.S_tl x, ← SX.S_tl y, ← SX.S_tl z]
          simp only [SX.S_cat, List.append_assoc]
        simp only [as]
    exact sq_retL (el_lst (ea_cons a2 ea_nil) (short_size rfl)) rfl
  | rcn a b t ps =>
    have hh := head_ok ok
    obtain ⟨h1, h2, ht, hp⟩ := ok
    have q := ps_ok hp.2
    have l1 := hp.1
    refine sq_if (b := false) (et_test (ed_op (ed_op (ed_var rfl) ed_int rd_ixT0) ed_str (rd_eqSb (by decide)))) (fun h => by cases h) (fun _ => ?_)
    refine sq_if (b := false) (et_test (ed_op (ed_op (ed_var rfl) ed_int rd_ixT0) ed_str (rd_eqSb (by decide)))) (fun h => by cases h) (fun _ => ?_)
    refine sq_if (b := false) (et_test (ed_op (ed_op (ed_var rfl) ed_int rd_ixT0) ed_str (rd_eqSb (by decide)))) (fun h => by cases h) (fun _ => ?_)
    refine sq_set (EL.toD (el_lst (ea_cons ed_str (ea_cons (ed_strN (ed_op (ed_var rfl) ed_int rd_ixT1) (by omega)) (ea_cons (ed_strN (ed_op (ed_var rfl) ed_int rd_ixT2) (by omega)) (ea_cons (ed_strN (k := ps.length) (ed_eq (ed_cb (ea_cons (ed_op (ed_var rfl) ed_int (rd_ixT (atI_nat (j := 4) rfl))) ea_nil) rc_lenT) (by rw [List.length_map])) (by omega)) ea_nil)))) (short_size rfl))) ?_
    have psl : ∀ i, (psW (ps.take i)).length ≤ 2000 := fun i => by
      rw [(ps_ok (ps := ps.take i) fun p m => hp.2 p (List.mem_of_mem_take m)).2, List.length_take]
      omega
    refine sd_seq (fun e => ∃ κ3 κ4 κ5, e = [.d (entD (.rcn a b t ps)), .no, .d (.l ((headL (.rcn a b t ps)).map D.s)), κ3, κ4, κ5]) ?_ ?_
    · refine sd_for (ds := ps.map fun p => .t [.s p.1, .s p.2]) (src_tup (ed_op (ed_var rfl) ed_int (rd_ixT (atI_nat (j := 4) rfl)))) (fun i e => ∃ κ3 κ4 κ5, e = [.d (entD (.rcn a b t ps)), .no, .d (.l ((("recursion" : Str) :: nW a :: nW b :: nW ps.length :: psW (ps.take i)).map D.s)), κ3, κ4, κ5]) ⟨_, _, _, rfl⟩ (fun i d e hdi he => ?_) (fun e he => ?_)
      · obtain ⟨κ3, κ4, κ5, rfl⟩ := he
        have hi : i < ps.length := by
          have := (List.getElem?_eq_some_iff.mp hdi).1
          simpa using this
        have ed : d = .t [.s ps[i].1, .s ps[i].2] := by
          rw [List.getElem?_map, List.getElem?_eq_getElem hi] at hdi
          exact (Option.some.inj hdi).symm
        subst ed
        refine ⟨_, gd_tup (gds_cons gd_name (gds_cons gd_name gds_nil)) rfl, ?_⟩
        refine sd_set (EL.toD (el_op (ed_var rfl) (EL.toD (el_lst (ea_cons (ed_var rfl) (ea_cons (ed_var rfl) ea_nil)) (short_size rfl))) (rl_cat ?_))) ⟨.d (.s ps[i].1), .d (.s ps[i].2), κ5, ?_⟩
        · have := psl i
          rw [List.length_map]
          simp only [List.length_cons, List.length_nil]
          exact B1 (by omega)
        · have tk : psW (ps.take (i + 1)) = psW (ps.take i) ++ [ps[i].1, ps[i].2] := by
            unfold psW
            rw [take_snoc hi, List.map_append, List.flatten_append]
            simp
          rw [tk, ← List.cons_append, ← List.cons_append, ← List.cons_append, ← List.cons_append, List.map_append]
          rfl
      · obtain ⟨κ3, κ4, κ5, rfl⟩ := he
        rw [List.length_map, List.take_length]
        exact ⟨κ3, κ4, κ5, rfl⟩
    · rintro e ⟨κ3, κ4, κ5, rfl⟩
      exact sd_retL (el_lst (ea_cons (ed_join (K := K) (ys := headL (.rcn a b t ps)) ed_str (ED.toX (ed_var rfl)) (fits hh.1 (Nat.le_trans hh.2.1 (by decide)))) (ea_cons (tw ht (ed_op (ed_var rfl) ed_int (rd_ixT (atI_nat (j := 3) rfl)))) ea_nil)) (short_size rfl)) rfl
end
end Nz
namespace Nz
open PySem L2
structure Clean (d : D) : Prop where
  no : noE d = true
  ok : (pd d).canLay0 = true
theorem strOk_of {l : List Nat} (h : ∀ c ∈ l, c < 1114112) : PyData.strOk ⟨l.toArray⟩ = true := by
  unfold PyData.strOk
  show l.toArray.all _ = true
  rw [List.all_toArray]
  exact List.all_eq_true.mpr fun c m => decide_eq_true (h c m)
theorem strOk_c {x : Str} (h : ∀ c ∈ x.cps.toList, c < 1114112) : PyData.strOk x = true := by
  rw [← SX.S_tl x]
  exact strOk_of h
theorem cl_s {x : Str} (h : PyData.strOk x = true) : Clean (.s x) := ⟨by simp only [noE], by simp only [pd, PyData.canLay0]; exact h⟩
theorem cl_i {x : Int} : Clean (.i x) := ⟨by simp only [noE], by simp only [pd, PyData.canLay0]⟩
theorem cl_n : Clean .n := ⟨by simp only [noE], by simp only [pd, PyData.canLay0]⟩
theorem cl_all : ∀ {ds : List D}, (∀ d ∈ ds, Clean d) → noEs ds = true ∧ PyData.canLayAll0 (pds ds) = true
  | [], _ => ⟨by simp only [noEs], by simp only [pds, PyData.canLayAll0]⟩
  | d :: r, h => by
    obtain ⟨h1, h2⟩ := cl_all (ds := r) fun x m => h x (List.mem_cons_of_mem _ m)
    have h0 := h d (List.mem_cons_self ..)
    exact ⟨by simp only [noEs, h0.no, h1, Bool.and_self], by simp only [pds, PyData.canLayAll0, h0.ok, h2, Bool.and_self]⟩
theorem cl_t {ds : List D} (h : ∀ d ∈ ds, Clean d) : Clean (.t ds) := by
  obtain ⟨h1, h2⟩ := cl_all h
  exact ⟨by simp only [noE, h1], by simp only [pd, PyData.canLay0, h2]⟩
theorem cl_l {ds : List D} (h : ∀ d ∈ ds, Clean d) : Clean (.l ds) := by
  obtain ⟨h1, h2⟩ := cl_all h
  exact ⟨by simp only [noE, h1], by simp only [pd, PyData.canLay0, h2]⟩
mutual
theorem depth_dD : ∀ d : D, noE d = true → (pd d).depth = dD d
  | .n, _ => by simp only [pd, PyData.depth, dD]
  | .b x, _ => by simp only [pd, PyData.depth, dD]
  | .i x, _ => by simp only [pd, PyData.depth, dD]
  | .s x, _ => by simp only [pd, PyData.depth, dD]
  | .t xs, h => by
    simp only [noE] at h
    have := depth_dDs xs h
    simp only [pd, PyData.depth, dD, this]
  | .l xs, h => by
    simp only [noE] at h
    have := depth_dDs xs h
    simp only [pd, PyData.depth, dD, this]
  | .e _, h => by simp only [noE] at h; cases h
theorem depth_dDs : ∀ ds : List D, noEs ds = true → PyData.depthAll (pds ds) = dDs ds
  | [], _ => by simp only [pds, PyData.depthAll, dDs]
  | d :: r, h => by
    simp only [noEs, Bool.and_eq_true] at h
    simp only [pds, PyData.depthAll, dDs, depth_dD d h.1, depth_dDs r h.2]
end
theorem Clean.fit {d : D} (h : Clean d) (hn : dD d ≤ 64) : Fit d := ⟨h.no, by
  unfold PySem.SeqAt.shaped
  rw [h.ok, decide_eq_true (by rw [depth_dD d h.no]; exact hn : (pd d).depth ≤ 64)]
  rfl⟩
theorem eqv_fit {d : D} (h : Fit d) : PyData.eqv (pd d) (pd d) = true := by
  have := h.sh
  unfold PySem.SeqAt.shaped at this
  rw [Bool.and_eq_true] at this
  exact PySem.SeqAt.eqv_refl _ this.1
theorem cl_w {x : Str} (h : okWd x) : Clean (.s x) := cl_s (strOk_c h.2.2)
theorem cl_ws {xs : List Str} (h : ∀ x ∈ xs, okWd x) : Clean (.t (xs.map D.s)) := cl_t fun d m => by
  obtain ⟨x, hx, rfl⟩ := List.mem_map.mp m
  exact cl_w (h x hx)
theorem cl_nm {x : Str} (h : NameOk x) : Clean (.s x) := cl_w (okWd_x h)
theorem cl_cn {x : Str} (h : ConOk x) : Clean (.s x) := cl_w (okWd_of (okW_con h))
theorem cl_key {x : Str} (h : x ∈ keyWords ++ ([("(" : Str), (")" : Str)] : List Str) ++ arities.map (·.1)) : Clean (.s x) := cl_w (okWd_of (okW_key h))
theorem cl_encH {h : Hd} {ds : List D} (ok : okH h ds.length) (hn : okN h) (hd : ∀ d ∈ ds, Clean d) : Clean (encH h ds) := by
  have g : ∀ i, Clean (ds.getD i .n) := fun i => getD_all hd cl_n
  have kw : ∀ {x : Str}, x ∈ keyWords → Clean (.s x) := fun m => cl_key (List.mem_append_left _ (List.mem_append_left _ m))
  have nm : ∀ {xs : List Str}, (∀ x ∈ xs, NameOk x) → Clean (tS xs) := fun h => cl_ws fun x m => okWd_x (h x m)
  cases h with
  | var x => exact cl_t (all2 (cl_s (by decide +kernel)) (cl_nm hn))
  | num x => exact cl_t (all2 (cl_s (by decide +kernel)) cl_i)
  | mk c xs => exact cl_t (all3 (kw (by decide)) (cl_cn hn.1) (nm hn.2))
  | hole => exact cl_t fun x m => by cases List.mem_singleton.mp m; exact kw (by decide)
  | fn x => exact cl_t (all3 (kw (by decide)) (cl_nm hn) (g 0))
  | call x => exact cl_t (all3 (kw (by decide)) (g 0) (cl_nm hn))
  | lets xs =>
    refine cl_t (all3 (kw (by decide)) (cl_t fun x m => ?_) (g _))
    obtain ⟨p, hp, rfl⟩ := List.mem_map.mp m
    have q := List.of_mem_zip (show (p.1, p.2) ∈ _ from hp)
    exact cl_t (all2 (cl_nm (hn.1 _ q.1)) (hd _ q.2))
  | case rs =>
    refine cl_t (all3 (kw (by decide)) (g 0) (cl_t fun x m => ?_))
    obtain ⟨p, hp, rfl⟩ := List.mem_map.mp m
    have q := List.of_mem_zip (show (p.1, p.2) ∈ _ from hp)
    exact cl_t (all3 (cl_cn (hn.1 _ q.1).1) (nm (hn.1 _ q.1).2.1) (hd _ (List.mem_of_mem_tail q.2)))
  | op w =>
    refine cl_t fun x m => ?_
    rcases List.mem_cons.mp m with rfl | m
    · exact cl_key (List.mem_append_right _ (List.mem_map.mpr ⟨_, ok, rfl⟩))
    · exact hd x m
mutual
theorem cl_enc : ∀ t : Tm, Wf t → Wn t → Clean (enc t)
  | .nd h ks, w, n => by
    show Clean (encH h (encs ks))
    exact cl_encH (by rw [encs_map, List.length_map]; exact w.1) n.1 (cl_encs ks w.2 n.2)
theorem cl_encs : ∀ ks : List Tm, Wfs ks → Wns ks → ∀ d ∈ encs ks, Clean d
  | k :: r, w, n, d, m => by
    rcases List.mem_cons.mp (show d ∈ enc k :: encs r from m) with e | m
    · rw [e]
      exact cl_enc k w.1 n.1
    · exact cl_encs r w.2 n.2 d m
end
theorem cl_nats (ks : List Nat) : Clean (.t (natsD ks)) := cl_t fun d m => by
  obtain ⟨k, _, rfl⟩ := List.mem_map.mp m
  exact cl_i
theorem cl_th {t : Th} (h : thOk t) : Clean (thD t) := by
  cases t with
  | n k => exact cl_i
  | x s => exact cl_nm h
  | is ks => exact cl_nats ks
  | xs ns => exact cl_ws fun x m => okWd_x (h.2.2 x m)
theorem cl_giv {l : List Th} (h : ∀ t ∈ l, thOk t) : Clean (.t (l.map thD)) := cl_t fun x m => by
  obtain ⟨t, ht, rfl⟩ := List.mem_map.mp m
  exact cl_th (h t ht)
theorem all4 {p : D → Prop} {a b c d : D} (h1 : p a) (h2 : p b) (h3 : p c) (h4 : p d) : ∀ x ∈ [a, b, c, d], p x := fun x m => by
  rcases List.mem_cons.mp m with rfl | m
  · exact h1
  · exact all3 h2 h3 h4 x m
theorem all5 {p : D → Prop} {a b c d e : D} (h1 : p a) (h2 : p b) (h3 : p c) (h4 : p d) (h5 : p e) : ∀ x ∈ [a, b, c, d, e], p x := fun x m => by
  rcases List.mem_cons.mp m with rfl | m
  · exact h1
  · exact all4 h2 h3 h4 h5 x m
theorem cl_stp {s : Stp} (h : stpOk s) : Clean (stpD s) := by
  obtain ⟨k1, k2, k3, k4, _⟩ := kind_ok
  cases s with
  | cl kind path k => exact cl_t (all3 (by rcases h.1 with rfl | rfl; exact cl_w k1; exact cl_w k2) (cl_nats path) cl_i)
  | go path rule given => exact cl_t (all4 (cl_w k3) (cl_nats path) (cl_w (rule_ok h.2.1)) (cl_giv h.2.2.2))
  | back path rule given t => exact cl_t (all5 (cl_w k4) (cl_nats path) (cl_w (rule_ok h.1.2.1)) (cl_giv h.1.2.2.2) (cl_enc t h.2.1.1 h.2.1.2.1))
theorem cl_ent {e : Ent} (h : entOk e) : Clean (entD e) := by
  obtain ⟨_, _, _, _, k5, k6, k7, k8⟩ := kind_ok
  cases e with
  | der t ss =>
    refine cl_t (all3 (cl_w k5) (cl_enc t h.1.1.1 h.1.1.2.1) (cl_t fun x m => ?_))
    obtain ⟨s, hs, rfl⟩ := List.mem_map.mp m
    exact cl_stp (h.2.2 s hs)
  | ctx k t => exact cl_t (all3 (cl_w k6) cl_i (cl_enc t h.2.1.1 h.2.1.2.1))
  | chain a b => exact cl_t (all3 (cl_w k7) cl_i cl_i)
  | rcn a b t ps =>
    refine cl_t (all5 (cl_w k8) cl_i cl_i (cl_enc t h.2.2.1.1.1 h.2.2.1.1.2.1) (cl_t fun x m => ?_))
    obtain ⟨p, hp, rfl⟩ := List.mem_map.mp m
    exact cl_t (all2 (cl_nm (h.2.2.2.2 p hp).1) (cl_nm (h.2.2.2.2 p hp).2))
theorem mem_joinL {c : Nat} : ∀ {l : List (List Nat)}, c ∈ TL.joinL [32] l → c = 32 ∨ ∃ w ∈ l, c ∈ w
  | [], h => by cases h
  | [w], h => .inr ⟨w, List.mem_cons_self .., by simpa [TL.joinL] using h⟩
  | w :: v :: r, h => by
    rw [joinL_cons (by simp)] at h
    rcases List.mem_append.mp h with h | h
    · exact .inr ⟨w, List.mem_cons_self .., h⟩
    rcases List.mem_append.mp h with h | h
    · exact .inl (List.mem_singleton.mp h)
    · rcases mem_joinL h with h | ⟨u, h1, h2⟩
      · exact .inl h
      · exact .inr ⟨u, List.mem_cons_of_mem _ h1, h2⟩
theorem cl_txt {ws : List Str} (h : ∀ u ∈ ws, okWd u) : Clean (.s (txt ws)) := cl_s (strOk_c fun c m => by
  rw [txt_S] at m
  rcases mem_joinL (show c ∈ TL.joinL [32] (ws.map fun w => w.cps.toList) from m) with rfl | ⟨l, h1, h2⟩
  · decide
  · obtain ⟨w, hw, rfl⟩ := List.mem_map.mp h1
    exact (h w hw).2.2 c h2)
end Nz
namespace Nz
open PySem L2
/-- any pool -/
abbrev PT : Type := Addr × Addr × List Int
abbrev PMx (x : PT) : Fam Int := PoolM x.1 x.2.1 x.2.2
def spP (Pre : Int → List D → Prop) (R : Int → List D → D → Int → Prop) : Sp := fun vs H Q E => ∃ x : PT, spY (PMx x) (.ref x.1) Pre R vs H Q E
theorem yd_callP {β : Int} {es : Es} {tas : TA} {n : Nat} {Pre : Int → List D → Prop} {R : Int → List D → D → Int → Prop} {Ra : List D → Int → Prop} {E0 : XK} (x : PT) (hi : es[n]? = some (.r (.ref x.1))) (h : YDs (PMx x) β tas es Ra) (hp : ∀ xs j, Ra xs j → Pre j xs) : YD (PMx x) β (tCall (spP Pre R) [] E0 (tCons (tVar n) tas)) es (fun z k => ∃ xs j, Ra xs j ∧ R j xs z k) := fun S A B H σ E w Q q =>
  ⟨_, E.raw n _ hi, h S A B H σ E w _ fun vs H2 xs j r g1 q1 k => by
    have E2 := w.en2 E g1 q1
    refine ⟨x, _, xs, vs, j, by rw [List.append_nil], E2.dmx, fun a s => .inl (w.vol a s).1, q1, (w.at2 q1).k2 E2, k, hp xs j r, fun d m w' H3 r3 g3 j3 k3 => ?_⟩
    exact q w' H3 d m ⟨xs, j, r, r3⟩ (g1.trans g3) j3 k3⟩
theorem raw_startY {M : Fam Int} {β : Int} {S : Addr → Prop} {A : Nat → Addr} {B H : Hp} {σ : St} {es : Es} {Po' : Pq Int} {F : Ends} {u : TS} {j : Nat} {v : V} (h : SY M β u es Po') (E : En S A B H (σ.set j (some v)) es) (w : WOk (M.at β) S B H) (k : Okq M S B Po' F) : gName j v σ H (u F) := h S A B H _ E w F k
theorem rd_rep {xs : List D} {k : Nat} (hl : xs.length * k ≤ 100000) (hk : k ≤ 100000) : RD rRep (.l xs) (.i (k : Int)) (.l (List.replicate k xs).flatten) := fun S H u v dm i j Q q => by
  obtain ⟨a, vs, rfl, n1, ha, is⟩ := i
  cases j
  refine ⟨a, (k : Int), vs, rfl, rfl, ha, by omega, by omega, ?_, fun p hp => ?_⟩
  · rw [is.length]
    exact Nat.le_trans (show xs.length * k ≤ _ from hl) (by decide)
  · have rp : ∀ k : Nat, IsDs S H (List.replicate k xs).flatten (List.replicate k vs).flatten := fun k => by
      induction k with
      | zero => rfl
      | succ k ih =>
        rw [List.replicate_succ, List.replicate_succ, List.flatten_cons, List.flatten_cons]
        exact is.app ih
    refine q _ _ (Same.new hp) ⟨p, _, rfl, dm.not hp, upd_same, ?_⟩
    exact (rp k).mono (Gr.of (Same.new hp))
theorem rep1 {α : Type} {a : α} : ∀ k : Nat, (List.replicate k [a]).flatten = List.replicate k a
  | 0 => rfl
  | k + 1 => by
    rw [List.replicate_succ, List.flatten_cons, rep1 k]
    rfl
/-- the ticks around a number *)-/
def tks : Nat → Tm
  | 0 => .nd (.num 1) []
  | n + 1 => .nd (.op "tick") [tks n]
theorem tks_ok : ∀ n : Nat, Wf (tks n) ∧ Wn (tks n) ∧ dep (tks n) = n + 1 ∧ sz (tks n) = n + 1 ∧ (wd (tks n)).length = n + 1 ∧ dD (enc (tks n)) = n + 1
  | 0 => ⟨⟨rfl, trivial⟩, ⟨⟨by decide, by decide⟩, trivial⟩, rfl, rfl, rfl, rfl⟩
  | n + 1 => by
    obtain ⟨h1, h2, h3, h4, h5, h6⟩ := tks_ok n
    refine ⟨⟨(by decide : (("tick" : Str), 1) ∈ arities), h1, trivial⟩, ⟨trivial, h2, trivial⟩, ?_, ?_, ?_, ?_⟩
    · show max (dep (tks n)) 0 + 1 = _
      omega
    · show sz (tks n) + 0 + 1 = _
      omega
    · show (("tick" : Str) :: (wd (tks n) ++ [])).length = _
      rw [List.append_nil, List.length_cons]
      omega
    · show max 0 (max (dD (enc (tks n))) 0) + 1 = _
      omega
theorem tks_tm {n : Nat} (h : n < 60) : tmOk (tks n) := by
  obtain ⟨h1, h2, h3, h4, h5, h6⟩ := tks_ok n
  exact ⟨⟨h1, h2, by omega, by omega⟩, by omega, by omega⟩
def beta : Stp := .go [] "beta" []
theorem beta_ok : stpOk beta := ⟨⟨by decide, fun k m => by cases m⟩, by decide, rfl, fun g m => by cases m⟩
theorem beta_d : dD (stpD beta) ≤ 3 := dD_stp (n := 2) (by decide) fun _ _ _ _ z => by cases z
def ticksE (n m : Nat) : Ent := .der (tks n) (List.replicate m beta)
theorem ticks_ok {n m : Nat} (hn : n < 60) (hm : m < 40) : okE (ticksE n m) := by
  obtain ⟨h1, h2, h3, h4, h5, h6⟩ := tks_ok n
  refine ⟨⟨tks_tm hn, by rw [List.length_replicate]; omega, fun s ms => by rw [(List.mem_replicate.mp ms).2]; exact beta_ok⟩, dD_ent (n := 60) (by decide) (fun t h => ?_) (fun t ss e s ms => ?_), ?_⟩
  · rcases h with ⟨_, e⟩ | ⟨_, e⟩ | ⟨_, _, _, e⟩
    · cases e; omega
    · cases e
    · cases e
  · cases e
    rw [(List.mem_replicate.mp ms).2]
    have := beta_d
    omega
  · show (headL (.der (tks n) (List.replicate m beta)) :: wd (tks n) :: (List.replicate m beta).map stpW).length ≤ 50
    rw [List.length_cons, List.length_cons, List.length_map, List.length_replicate]
    omega
theorem libL_snoc (es : List Ent) (e : Ent) : libL (es ++ [e]) = libL es ++ entL e := by
  unfold libL
  rw [List.map_append, List.flatten_append]
  simp
theorem libL_le {es : List Ent} (h : ∀ e ∈ es, okE e) : (libL es).length ≤ 50 * es.length := by
  induction es with
  | nil => exact Nat.le_refl _
  | cons e r ih =>
    have h1 := (h e (List.mem_cons_self ..)).2.2
    have h2 := ih fun x m => h x (List.mem_cons_of_mem _ m)
    have e1 : libL (e :: r) = entL e ++ libL r := rfl
    rw [e1, List.length_append, List.length_cons]
    omega
theorem linesD_app (a b : List (List Str)) : linesD (a ++ b) = linesD a ++ linesD b := List.map_append
theorem linesD_len (a : List (List Str)) : (linesD a).length = a.length := List.length_map ..
section
variable {P : Program} {w : World} {K : PySem.W.Frag} {mg : Str → Option Value} {base : Heap}
abbrev lawLevel : Nat := 200
def spLaw (K : PySem.W.Frag) : Sp := fun vs H Q _ => ∃ (a : Addr) (ns : List Int), vs = [.ref a] ∧ SqL K H a (ns.map V.int) ∧ ns.length ≤ 63 ∧ ∀ H', Q (.bl true) H'
theorem kk__law_draw (F : Facts K mg w) : C8.Cal P w K mg base 1 "_law_draw" (spP (fun _ => preDraw) (fun i ds d j => relDraw ds d ∧ j = i)) [] := F._law_draw.cal fun f fd hf => fn_ex fun x => fk__law_draw F x.1 x.2.1 x.2.2 f fd hf
theorem kk__law_step (F : Facts K mg w) : C8.Cal P w K mg base 9 "_law_step" (spP (fun _ => preNil) (fun _ _ d _ => ∃ s, d = stpD s ∧ okS s)) [] := F._law_step.cal fun f fd hf => fn_ex fun x => fk__law_step F x.1 x.2.1 x.2.2 f fd hf
theorem kk__law_entry (F : Facts K mg w) : C8.Cal P w K mg base 10 "_law_entry" (spP (fun _ => preNil) (fun _ _ d _ => ∃ e, d = entD e ∧ okE e)) [] := F._law_entry.cal fun f fd hf => fn_ex fun x => fk__law_entry F x.1 x.2.1 x.2.2 f fd hf
theorem ok_law (F : Facts K mg w) {f : Addr} {fd : FuncData} (hf : L2.Fun K "law" "law" s_law f fd) : FnOk P w K mg base CX0 (199 + 1) f fd ["script"] (spLaw K) := by
  have c__law_pool := k__law_pool (P := P) (w := w) (base := base) F
  have c__law_draw := kk__law_draw (P := P) (w := w) (base := base) F
  have c__law_step := kk__law_step (P := P) (w := w) (base := base) F
  have c__law_entry := kk__law_entry (P := P) (w := w) (base := base) F
  have c__law_step_words := k__law_step_words (P := P) (w := w) (base := base) F
  have c__law_entry_lines := k__law_entry_lines (P := P) (w := w) (base := base) F
  have c__law_same := k__law_same (P := P) (w := w) (base := base) F 70
  have c_step_line := k_step_line (P := P) (w := w) (base := base) F
  have c_read_step := k_read_step (P := P) (w := w) (base := base) F
  have c_library_lines := k_library_lines (P := P) (w := w) (base := base) F
  have c_read_library := k_read_library (P := P) (w := w) (base := base) F
  refine hf.ok sc_law (fun vs H Q E h => ?_) (fun cdv A outer s H vs Q E hr h => ⟨_, (pss_cons (ps_set (i := 1) sc_law.nd rfl (Or.inr rfl) (C8.pe_c c__law_pool hr (by first | decide | omega) rfl (pa_cons (pv 0) (pa_cons pe_int pa_nil))))
    (pss_cons (ps_for PassesOwn.never rfl (pi_range1 rfl F.b_range (pa_cons pe_int pa_nil)) (pg_name (i := 2) sc_law.nd rfl (Or.inl rfl)) (pss_cons (ps_set (i := 3) sc_law.nd rfl (Or.inl rfl) (C8.pe_c c__law_step hr (by first | decide | omega) rfl (pa_cons (pv 1) pa_nil)))
    (pss_cons (ps_set (i := 4) sc_law.nd rfl (Or.inl rfl) (pe_join pe_str (C8.pe_c c__law_step_words hr (by first | decide | omega) rfl (pa_cons (pv 3) pa_nil))))
    (pss_one (ps_if (PW.pt (pw_or (pt_not (pt_val (C8.pe_c c__law_same hr (by first | decide | omega) rfl (pa_cons (C8.pe_c c_step_line hr (by first | decide | omega) rfl (pa_cons (pv 3) pa_nil)) (pa_cons (pv 4) pa_nil))))) (pw_or1 (pt_not (pt_val (C8.pe_c c__law_same hr (by first | decide | omega) rfl (pa_cons (C8.pe_c c_read_step hr (by first | decide | omega) rfl (pa_cons (pv 4) pa_nil)) (pa_cons (pv 3) pa_nil)))))))) (pss_one (ps_ret pe_bl)) pss_nil)))))
    (pss_cons (ps_setLc (i := 6) (own := [("k", 5)]) (g := (gName 5)) rfl sc_law.nd rfl rfl (sw_true rfl rfl rfl (by decide +kernel)) (pi_range1 rfl F.b_range (pa_cons (C8.pe_c c__law_draw hr (by first | decide | omega) rfl (pa_cons (pv 1) (pa_cons pe_int pa_nil))) pa_nil)) (blkOk_by (own := [("k", 5)]) (N := n_law) (sc := defScope s_law) (by decide +kernel)) (fun _ _ _ _ _ => (pg_name (i := 5) sc_law.nd rfl (Or.inl rfl))) (fun _ _ _ _ _ => pts_nil) (fun _ _ _ _ _ => (C8.pe_c c__law_entry hr (by first | decide | omega) rfl (pa_cons (pv 1) pa_nil))))
    (pss_cons (ps_set (i := 7) sc_law.nd rfl (Or.inl rfl) (pe_lst pa_nil))
    (pss_cons (ps_for PassesOwn.never rfl (Nz.piL K (pv 6)) (pg_name (i := 8) sc_law.nd rfl (Or.inl rfl)) (pss_one (ps_set (i := 7) sc_law.nd rfl (Or.inl rfl) (pe_op op_cat (pv 7) (C8.pe_c c__law_entry_lines hr (by first | decide | omega) rfl (pa_cons (pv 8) pa_nil))))))
    (pss_cons (ps_if (pt_cmpR op_eq (C8.pe_c c__law_draw hr (by first | decide | omega) rfl (pa_cons (pv 1) (pa_cons pe_int pa_nil))) pe_int (nomark _)) (pss_cons (ps_set (i := 9) sc_law.nd rfl (Or.inl rfl) (pe_callTy (Nz.cTup K) rfl F.b_tuple Nz.boot_tuple (pa_cons (pe_op op_rep (pe_lst (pa_cons (pe_tup (pa_cons pe_str (pa_cons (pe_tup pa_nil) (pa_cons pe_str (pa_cons (pe_tup pa_nil) pa_nil))))) pa_nil)) (C8.pe_c c__law_draw hr (by first | decide | omega) rfl (pa_cons (pv 1) (pa_cons pe_int pa_nil)))) pa_nil)))
    (pss_cons (ps_set (i := 10) sc_law.nd rfl (Or.inl rfl) (pe_tup (pa_cons pe_str (pa_cons pe_int pa_nil))))
    (pss_cons (ps_for PassesOwn.never rfl (pi_range1 rfl F.b_range (pa_cons (C8.pe_c c__law_draw hr (by first | decide | omega) rfl (pa_cons (pv 1) (pa_cons pe_int pa_nil))) pa_nil)) (pg_name (i := 5) sc_law.nd rfl (Or.inl rfl)) (pss_one (ps_set (i := 10) sc_law.nd rfl (Or.inl rfl) (pe_tup (pa_cons pe_str (pa_cons (pv 10) pa_nil))))))
    (pss_cons (ps_expr (pe_bm PySem.F.plainAttrs_list PySem.F.slot_list_append PySem.F.type_list_append mt_append (pv 6) (pa_cons (pe_tup (pa_cons pe_str (pa_cons (pv 10) (pa_cons (pv 9) pa_nil)))) pa_nil)))
    (pss_one (ps_set (i := 7) sc_law.nd rfl (Or.inl rfl) (pe_op op_cat (pv 7) (C8.pe_c c__law_entry_lines hr (by first | decide | omega) rfl (pa_cons (pe_ix (Nz.ixL K) (pv 6) (pe_un un_neg pe_int) (fun _ _ => rfl)) pa_nil))))))))) pss_nil)
    (pss_cons (ps_set (i := 11) sc_law.nd rfl (Or.inl rfl) (pe_lst (pa_cons (pe_callTy (Nz.cLst K) rfl F.b_list Nz.boot_list (pa_cons (pv 6) pa_nil)) (pa_cons (pe_callTy (Nz.cLst K) rfl F.b_list Nz.boot_list (pa_cons (pv 7) pa_nil)) pa_nil))))
    (pss_cons (ps_if (PW.pt (pw_or (pt_not (pt_val (C8.pe_c c__law_same hr (by first | decide | omega) rfl (pa_cons (C8.pe_c c_library_lines hr (by first | decide | omega) rfl (pa_cons (pe_ix (Nz.ixL K) (pv 11) pe_int (fun _ _ => rfl)) pa_nil)) (pa_cons (pv 7) pa_nil))))) (pw_or1 (pt_not (pt_val (C8.pe_c c__law_same hr (by first | decide | omega) rfl (pa_cons (C8.pe_c c_read_library hr (by first | decide | omega) rfl (pa_cons (pe_ix (Nz.ixL K) (pv 11) pe_int (fun _ _ => rfl)) pa_nil)) (pa_cons (pv 6) pa_nil)))))))) (pss_one (ps_ret pe_bl)) pss_nil)
    (pss_one (ps_ret (pe_cmpR (Nz.eqD (K := K) hr.units) (pv 11) (pe_lst (pa_cons (pv 6) (pa_cons (pv 7) pa_nil))) (nomark _)))))))))))), ?_⟩)
  · obtain ⟨a, ns, rfl, _⟩ := h
    rfl
  obtain ⟨a, ns, rfl, hS, hl, k⟩ := h
  refine ⟨.ref a, rfl, a, ns, 5, rfl, hS, fun p q H' e np nq ne hp hq => ?_⟩
  have B0 : Same (fun b => if b = p then none else H' b) H' := fun b o z => by
    by_cases c : b = p
    · have z' : (if b = p then none else H' b) = some o := z
      rw [if_pos c] at z'
      cases z'
    · have z' : (if b = p then none else H' b) = some o := z
      rw [if_neg c] at z'
      exact z'
  dsimp only
  let x : PT := (p, q, ns)
  have B1 : ∀ {n : Nat}, n ≤ 100000 → n ≤ sizeLine := fun h => Nat.le_trans h (by decide)
  have drawX : ∀ (es : Es) (n : Nat) (β : Int), es[1]? = some (.r (.ref p)) → 0 < n → n < 1000 → XD ((PMx x).at β) (tCall (spP (fun _ => preDraw) (fun i ds d j => relDraw ds d ∧ j = i)) [] C8.E0 (tCons (tVar 1) (tCons (tC (.int (n : Int))) tNil))) es (fun z => ∃ k : Nat, z = .i (k : Int) ∧ k < n) := fun es n β h1 n0 n1 S A B H σ E w Q qq =>
    yd_callP (β := β) x h1 (yds_eds (ea_cons ed_int ea_nil)) (fun xs j ⟨e, _⟩ => ⟨(n : Int), e, by omega, by omega⟩) S A B H σ E w Q fun v H2 d j ⟨xs, j0, ⟨e1, ej⟩, ⟨m, k, e2, e3, k0, k1⟩, e4⟩ g q1 is => by
      subst e1 ej e4
      cases e2
      obtain ⟨m, rfl⟩ := Int.eq_ofNat_of_zero_le k0
      exact qq v H2 d ⟨m, e3, by omega⟩ g q1 is
  have rngX : ∀ (es : Es) (n : Nat) (β : Int), es[1]? = some (.r (.ref p)) → 0 < n → n < 1000 → XSrc ((PMx x).at β) (iRng1 (tCons (tCall (spP (fun _ => preDraw) (fun i ds d j => relDraw ds d ∧ j = i)) [] C8.E0 (tCons (tVar 1) (tCons (tC (.int (n : Int))) tNil))) tNil)) es (fun z => ∃ m : Nat, z = rngD m ∧ m < n) := fun es n β h1 n0 n1 =>
    xsrc_rng (R := fun m => m < n) (xds_imp (xs_one (drawX es n β h1 n0 n1)) fun ds ⟨d, e, m, e2, r⟩ => ⟨m, by rw [e, e2], r⟩) fun m r => by omega
  have same : ∀ {es : Es} {te tf : TE} {d : D}, dD d ≤ 70 → smD d → ED te es d → ED tf es d → ED (tCall (spR (R_same 70)) [] C8.E0 (tCons te (tCons tf tNil))) es (.b true) := fun h1 h2 h3 h4 => ed_call (ea_cons h3 (ea_cons h4 ea_nil)) ⟨_, h1, h2, rfl, rfl⟩
  refine raw_startY (M := PMx x) (β := 5) (S := fun x => x = p) (A := fun _ => 0) (B := fun b => if b = p then none else H' b) (es := [.no, .r (.ref p), .no, .no, .no, .no, .no, .no, .no, .no, .no, .no]) (Po' := ⟨fun _ _ => False, fun d _ => d = .b true, fun _ _ => False, fun _ _ => False, fun _ _ => False⟩) ?_ ⟨?_, ?_, ?_, ?_, B0, ?_, rfl⟩ ⟨?_, ?_, ?_⟩ ⟨?_, ?_, ?_, ?_, ?_⟩
  · refine sy_seq (fun e _ => ∃ κ2 κ3 κ4, e = [.no, .r (.ref p), κ2, κ3, κ4, .no, .no, .no, .no, .no, .no, .no]) ?_ ?_
    · refine sy_forY (ysrc_xsrc (xsrc_of (src_rng (n := 2) (ea_cons ed_int ea_nil) (by decide)))) (fun ds i e j => ∃ κ2 κ3 κ4, e = [.no, .r (.ref p), κ2, κ3, κ4, .no, .no, .no, .no, .no, .no, .no]) (fun ds j ⟨_, ej⟩ => ⟨_, _, _, rfl⟩) (fun ds i d e j hd he => ?_) (fun ds e j he => he)
      obtain ⟨κ2, κ3, κ4, rfl⟩ := he
      refine ⟨_, gd_name, ?_⟩
      refine syq_setY (R := fun z _ => ∃ s, z = stpD s ∧ okS s) (yd_imp (yd_callP x rfl (yds_eds ea_nil) fun xs j ⟨e, _⟩ => e) fun d j ⟨_, _, _, r⟩ => r) fun d j1 ⟨s, e, ok, ds⟩ => ?_
      subst e
      have l := ln_stp ok
      refine syq_set (ed_join (K := K) (ys := stpW s) ed_str (ED.toX (EL.toD (el_call (ea_cons (ed_var rfl) ea_nil) ⟨s, ok, rfl, rfl⟩))) (fits l.ok (Nat.le_trans l.len (by decide)))) ?_
      refine sy_if (b := false) (et_or (a := false) (b := false) (et_not (b := true) (et_B (same (d := .s (txt (stpW s))) (Nat.zero_le _) trivial (ed_call (ea_cons (ed_var rfl) ea_nil) ⟨s, ok, rfl, rfl⟩) (ed_var rfl)))) fun _ => et_not (b := true) (et_B (same (Nat.le_trans ds (by decide)) (smD_stp ok) (ed_call (ea_cons (ed_var rfl) ea_nil) ⟨s, ok, rfl, rfl⟩) (ed_var rfl)))) (fun h => by cases h) (fun _ => ?_)
      exact sy_next ⟨_, _, _, rfl⟩
    rintro e j ⟨κ2, κ3, κ4, rfl⟩
    refine syq_setYO (R := fun ds _ => ∃ es : List Ent, ds = es.map entD ∧ es.length < 4 ∧ ∀ e ∈ es, okE e) (yl_imp (yl_lcC (Rs := fun ds _ => ∃ m : Nat, ds = rngD m ∧ m < 4) (C := fun ds i acc _ => (∃ m : Nat, ds = rngD m ∧ m < 4) ∧ ∃ es : List Ent, acc = es.map entD ∧ es.length = i ∧ ∀ e ∈ es, okE e) rfl (ysrc_imp (ysrc_xsrc (rngX _ 4 j rfl (by decide) (by decide))) fun ds j h => h.1) (fun ds j ⟨m, e, hm⟩ => by subst e; rw [rng_len]; exact small4 (by omega)) (fun ds j h => ⟨h, [], rfl, rfl, fun s m => by cases m⟩)
      fun ds i z acc j hz ⟨h, es, e, hl, hs⟩ => ⟨_, _, gw_name rfl, yd_imp (yd_callP x rfl (yds_eds ea_nil) fun xs j ⟨e, _⟩ => e) fun d j ⟨_, _, _, r⟩ => r, fun d j' ⟨s, e2, h2⟩ => ⟨h, es ++ [s], by rw [e, e2, List.map_append]; rfl, by rw [List.length_append, hl]; rfl, fun t m => (List.mem_append.mp m).elim (hs t) fun m => by cases List.mem_singleton.mp m; exact h2⟩⟩) fun rs j ⟨ds, ⟨m, e, hm⟩, es, e2, hl, hs⟩ => ⟨es, e2, by rw [hl, e, rng_len]; exact hm, hs⟩) fun rs j ⟨es, e, hl, hs⟩ => ?_
    subst e
    refine syq_set (EL.toD (el_lst ea_nil (Nat.zero_le _))) ?_
    have tl : ∀ i, (libL (es.take i)).length ≤ 200 := fun i => by
      have := libL_le (es := es.take i) fun e m => hs e (List.mem_of_mem_take m)
      rw [List.length_take] at this
      omega
    refine syq_forOwn (i := 6) (ds := es.map entD) rfl (fun v i e => ∃ κ2 κ3 κ4 κ5 κ8, e = [.no, .r (.ref p), κ2, κ3, κ4, κ5, .r v, .d (.l (linesD (libL (es.take i)))), κ8, .no, .no, .no]) (fun v i e ⟨_, _, _, _, _, h⟩ => by subst h; rfl) (fun v => ⟨_, _, _, _, _, rfl⟩) (fun v i d e hd he => ?_) (fun v e he => ?_)
    · obtain ⟨κ2, κ3, κ4, κ5, κ8, rfl⟩ := he
      have hi : i < es.length := by
        have := (List.getElem?_eq_some_iff.mp hd).1
        simpa using this
      have ed : d = entD es[i] := by
        rw [List.getElem?_map, List.getElem?_eq_getElem hi] at hd
        exact (Option.some.inj hd).symm
      subst ed
      refine ⟨_, gd_name, fun W => ?_⟩
      refine sd_set (EL.toD (el_op (ed_var rfl) (EL.toD (el_call (ea_cons (ed_var rfl) ea_nil) ⟨es[i], (hs _ (List.getElem_mem hi)).1, rfl, rfl⟩)) (rl_cat ?_))) ⟨κ2, κ3, κ4, κ5, .d (entD es[i]), ?_⟩
      · rw [linesD_len, linesD_len]
        have := tl i
        have := (hs _ (List.getElem_mem hi)).2.2
        exact B1 (by omega)
      · rw [libL_take hi, linesD_app]
        rfl
    obtain ⟨κ2, κ3, κ4, κ5, κ8, rfl⟩ := he
    rw [List.length_map, List.take_length]
    refine sy_seq (fun e _ => ∃ es : List Ent, es.length ≤ 4 ∧ (∀ e ∈ es, okE e) ∧ ∃ κ2 κ3 κ4 κ5 κ8 κ9 κ10, e = [.no, .r (.ref p), κ2, κ3, κ4, κ5, .o (.l (es.map entD)), .d (.l (linesD (libL es))), κ8, κ9, κ10, .no]) ?_ ?_
    · refine sy_ifY (R := fun _ _ => True) (yt_imp (yt_xt (xt_test (R := fun _ => True) (xd_imp (xd_opL (drawX _ 4 _ rfl (by decide) (by decide)) ed_int (R3 := fun _ z => ∃ b, z = .b b) fun x ⟨k, e, _⟩ => by subst e; exact ⟨_, rd_eqI, _, rfl⟩) fun d ⟨_, _, b, e⟩ => ⟨b, e, trivial⟩))) fun _ _ _ => trivial) (fun j2 _ => ?_) (fun j2 _ => ?_)
      · refine syq_setY (R := fun z _ => ∃ m : Nat, m < 40 ∧ z = .t ((List.replicate m beta).map stpD)) (yd_imp (yd_xd (xd_cb (Rz := fun z => ∃ m : Nat, m < 40 ∧ z = .t ((List.replicate m beta).map stpD)) (xs_one (xd_opR (R3 := fun _ z => ∃ m : Nat, m < 40 ∧ z = .l ((List.replicate m beta).map stpD)) (show ED _ _ (.l [stpD beta]) from EL.toD (el_lst (ea_cons (ed_tup (ea_cons ed_str (ea_cons (ed_tup ea_nil (Nat.zero_le _)) (ea_cons ed_str (ea_cons (ed_tup ea_nil (Nat.zero_le _)) ea_nil)))) (short_size rfl)) ea_nil) (short_size rfl))) (drawX _ 40 _ rfl (by decide) (by decide)) fun y ⟨m, e, hm⟩ => ?_)) fun xs r => ?_)) fun d j r => r.1) fun d j3 ⟨m, hm, e⟩ => ?_
        · subst e
          refine ⟨_, rd_rep (by show 1 * m ≤ _; omega) (by omega), m, hm, ?_⟩
          rw [rep1, List.map_replicate]
        · obtain ⟨_, rfl, _, _, m, hm, rfl⟩ := r
          exact ⟨_, rc_tupL, m, hm, rfl⟩
        subst e
        refine syq_set (d := enc (tks 0)) (ed_tup (ea_cons ed_str (ea_cons ed_int ea_nil)) (short_size rfl)) ?_
        refine sy_seq (fun e _ => ∃ n : Nat, n < 60 ∧ ∃ κ2 κ3 κ4 κ5 κ8, e = [.no, .r (.ref p), κ2, κ3, κ4, κ5, .o (.l (es.map entD)), .d (.l (linesD (libL es))), κ8, .d (.t ((List.replicate m beta).map stpD)), .d (enc (tks n)), .no]) ?_ ?_
        · refine sy_forY (ysrc_xsrc (rngX _ 60 _ rfl (by decide) (by decide))) (fun ds i e j => (∃ m : Nat, ds = rngD m ∧ m < 60) ∧ ∃ κ2 κ3 κ4 κ5 κ8, e = [.no, .r (.ref p), κ2, κ3, κ4, κ5, .o (.l (es.map entD)), .d (.l (linesD (libL es))), κ8, .d (.t ((List.replicate m beta).map stpD)), .d (enc (tks i)), .no]) (fun ds j ⟨r, _⟩ => ⟨r, _, _, _, _, _, rfl⟩) (fun ds i d e j hd he => ?_) (fun ds e j he => ?_)
          · obtain ⟨r, κ2, κ3, κ4, κ5, κ8, rfl⟩ := he
            refine ⟨_, gd_name, ?_⟩
            refine sy_sd (sd_set (ed_tup (ea_cons ed_str (ea_cons (ed_var rfl) ea_nil)) (short_size rfl)) ⟨r, κ2, κ3, κ4, .d d, κ8, rfl⟩)
          · obtain ⟨⟨n, rfl, hn⟩, κ2, κ3, κ4, κ5, κ8, rfl⟩ := he
            rw [rng_len]
            exact ⟨n, hn, κ2, κ3, κ4, κ5, κ8, rfl⟩
        rintro e j4 ⟨n, hn, κ2, κ3, κ4, κ5, κ8, rfl⟩
        have ht := ticks_ok hn hm
        have e1 : (es ++ [ticksE n m]).map entD = es.map entD ++ [entD (ticksE n m)] := List.map_append
        refine sy_sd (sq_app rfl (d := entD (ticksE n m)) (ed_tup (ea_cons ed_str (ea_cons (ed_var rfl) (ea_cons (ed_var rfl) ea_nil))) (short_size rfl)) (by rw [List.length_map]; exact Nat.lt_of_le_of_lt (show _ ≤ 1000 by omega) (by decide)) ?_)
        refine sd_set (EL.toD (el_op (ed_var rfl) (EL.toD (el_call (ea_cons (ed_ixo (ds := es.map entD ++ [entD (ticksE n m)]) (d := entD (ticksE n m)) rfl (ed_neg ed_int) (atI_last _ _)) ea_nil) ⟨ticksE n m, ht.1, rfl, rfl⟩)) (rl_cat ?_))) ⟨es ++ [ticksE n m], ?_, fun e h => ?_, κ2, κ3, κ4, κ5, κ8, .d (.t ((List.replicate m beta).map stpD)), .d (enc (tks n)), ?_⟩
        · rw [linesD_len, linesD_len]
          have := libL_le hs
          have := ht.2.2
          exact B1 (by omega)
        · rw [List.length_append]
          show es.length + 1 ≤ 4
          omega
        · rcases List.mem_append.mp h with h | h
          · exact hs e h
          · cases List.mem_singleton.mp h
            exact ht
        · rw [e1, libL_snoc, linesD_app]
          rfl
      · exact sy_next ⟨es, by omega, hs, _, _, _, _, _, _, _, rfl⟩
    rintro e j2 ⟨es, hl, hs, κ2, κ3, κ4, κ5, κ8, κ9, κ10, rfl⟩
    have hs1 : ∀ e ∈ es, entOk e := fun e m => (hs e m).1
    have ll := libL_le hs
    have dE : dD (.l (es.map entD)) ≤ 62 := dD_l (n := 61) fun d m => by
      obtain ⟨e, he, rfl⟩ := List.mem_map.mp m
      exact (hs e he).2.1
    have sE : smD (.l (es.map entD)) := smD_l (by rw [List.length_map]; omega) fun d m => by
      obtain ⟨e, he, rfl⟩ := List.mem_map.mp m
      exact smD_ent (hs1 e he)
    have cE : Clean (.l (es.map entD)) := cl_l fun d m => by
      obtain ⟨e, he, rfl⟩ := List.mem_map.mp m
      exact cl_ent (hs1 e he)
    have dL : dD (.l (linesD (libL es))) ≤ 1 := dD_l (n := 0) fun d m => by
      obtain ⟨l, he, rfl⟩ := List.mem_map.mp m
      exact Nat.le_refl _
    have sL : smD (.l (linesD (libL es))) := smD_l (by rw [linesD_len]; omega) fun d m => by
      obtain ⟨l, he, rfl⟩ := List.mem_map.mp m
      trivial
    have cL : Clean (.l (linesD (libL es))) := cl_l fun d m => by
      obtain ⟨l, he, rfl⟩ := List.mem_map.mp m
      obtain ⟨u, h1, h2⟩ := List.mem_flatten.mp he
      obtain ⟨e, h3, rfl⟩ := List.mem_map.mp h1
      exact cl_txt (ent_ok (hs1 e h3) l h2).1
    have fP : Fit (.l [.l (es.map entD), .l (linesD (libL es))]) := (cl_l (all2 cE cL)).fit (Nat.le_trans (dD_l (n := 62) (all2 dE (Nat.le_trans dL (by decide)))) (by decide))
    refine syq_freeze (n := 6) rfl ?_
    refine sy_sd ?_
    refine sq_set (d := .l [.l (es.map entD), .l (linesD (libL es))]) (EL.toD (el_lst (ea_cons (EL.toD (el_cb (ea_cons (ed_var rfl) ea_nil) rc_lstL)) (ea_cons (EL.toD (el_cb (ea_cons (ed_var rfl) ea_nil) rc_lstL)) ea_nil)) (short_size rfl))) ?_
    refine sq_if (b := false) (et_or (a := false) (b := false) (et_not (b := true) (et_B (same (Nat.le_trans dL (by decide)) sL (EL.toD (el_call (ea_cons (ed_op (ed_var rfl) ed_int (rd_ixL (atI_nat (j := 0) rfl))) ea_nil) ⟨es, hs1, by omega, rfl, rfl⟩)) (ed_var rfl)))) fun _ => et_not (b := true) (et_B (same (Nat.le_trans dE (by decide)) sE (EL.toD (el_call (ea_cons (ed_op (ed_var rfl) ed_int (rd_ixL (atI_nat (j := 1) rfl))) ea_nil) ⟨es, hs1, by omega, rfl, rfl⟩)) (ed_var rfl)))) (fun h => by cases h) (fun _ => ?_)
    exact sd_ret (ed_op (ed_var rfl) (EL.toD (el_lst (ea_cons (ed_var rfl) (ea_cons (ed_var rfl) ea_nil)) (short_size rfl))) (rd_eqD fP fP)) (by rw [eqv_fit fP])
  · intro i x h
    match i, h with
    | 0, h | 1, h | 2, h | 3, h | 4, h | 5, h | 6, h | 7, h | 8, h | 9, h | 10, h | 11, h => cases h
    | i + 12, h => cases h
  · intro i x h
    match i, h with
    | 0, h | 1, h | 2, h | 3, h | 4, h | 5, h | 6, h | 7, h | 8, h | 9, h | 10, h | 11, h => cases h
    | i + 12, h => cases h
  · intro i _ x _ _ h
    match i, h with
    | 0, h | 1, h | 2, h | 3, h | 4, h | 5, h | 6, h | 7, h | 8, h | 9, h | 10, h | 11, h => cases h
    | i + 12, h => cases h
  · intro i x h
    match i, h with
    | 1, h => cases h; rfl
    | 0, h | 2, h | 3, h | 4, h | 5, h | 6, h | 7, h | 8, h | 9, h | 10, h | 11, h => cases h
    | i + 12, h => cases h
  · intro a z
    cases z
    rw [hp]
    exact fun z => nomatch z
  · intro a z
    cases z
    exact ⟨rfl, if_pos rfl⟩
  · show (if q = p then none else H' q) = _
    rw [if_neg (fun z => ne z.symm)]
    exact hq
  · exact ⟨_, _, _, _, hp, Int.le_refl _, by decide, by decide⟩
  · exact fun _ _ _ _ _ z => z.elim
  · intro d v H2 j z _ _ i
    cases z
    cases i
    exact k H2
  · exact fun _ _ _ _ _ z => z.elim
  · exact fun _ _ _ _ _ z => z.elim
  · exact fun _ _ _ _ _ z => z.elim
end
end Nz
namespace Nz
open PySem L2
theorem all_mk {l : PySem.W.OpenLaw} {w : World} {K : PySem.W.Frag} {h : Heap} {mg : Str → Option Value} {fa : Addr} (X : K.In h) (G : h.Ns mainGlobals mg) (hfa : mg "law" = some (.ref fa))
    {f_kind_of f_is_name f_is_constructor f_is_numeral f_is_number f_read_names f_read_make f_read_let f_read_case f_read_deep f_read_part f_read_whole f_read_all f_pieces f_term_text f_words_of f_step_line f_pairs_words f_entry_lines f_library_lines f_read_least f_read_number f_read_numbers f_read_name f_read_some_names f_read_pairs f_read_things f_read_whole_step f_read_head f_read_entry f_read_step f_read_library f__law_pool f__law_draw f__law_spend f__law_number f__law_same f__law_few f__law_name f__law_unlike f__law_made f__law_any f__law_words f__law_path f__law_told f__law_step f__law_path_words f__law_told_words f__law_step_words f__law_entry f__law_entry_lines f_law : Addr}
    {od_kind_of an_kind_of : Option Addr} {sl_kind_of : Array (Option Value)} {oc_kind_of kV_kind_of dc_kind_of pm_kind_of cd_kind_of ct_kind_of : Value}
    {od_is_name an_is_name : Option Addr} {sl_is_name : Array (Option Value)} {oc_is_name kV_is_name dc_is_name pm_is_name cd_is_name ct_is_name : Value}
    {od_is_constructor an_is_constructor : Option Addr} {sl_is_constructor : Array (Option Value)} {oc_is_constructor kV_is_constructor dc_is_constructor pm_is_constructor cd_is_constructor ct_is_constructor : Value}
    {od_is_numeral an_is_numeral : Option Addr} {sl_is_numeral : Array (Option Value)} {oc_is_numeral kV_is_numeral dc_is_numeral pm_is_numeral cd_is_numeral ct_is_numeral : Value}
    {od_is_number an_is_number : Option Addr} {sl_is_number : Array (Option Value)} {oc_is_number kV_is_number dc_is_number pm_is_number cd_is_number ct_is_number : Value}
    {od_read_names an_read_names : Option Addr} {sl_read_names : Array (Option Value)} {oc_read_names kV_read_names dc_read_names pm_read_names cd_read_names ct_read_names : Value}
    {od_read_make an_read_make : Option Addr} {sl_read_make : Array (Option Value)} {oc_read_make kV_read_make dc_read_make pm_read_make cd_read_make ct_read_make : Value}
    {od_read_let an_read_let : Option Addr} {sl_read_let : Array (Option Value)} {oc_read_let kV_read_let dc_read_let pm_read_let cd_read_let ct_read_let : Value}
    {od_read_case an_read_case : Option Addr} {sl_read_case : Array (Option Value)} {oc_read_case kV_read_case dc_read_case pm_read_case cd_read_case ct_read_case : Value}
    {od_read_deep an_read_deep : Option Addr} {sl_read_deep : Array (Option Value)} {oc_read_deep kV_read_deep dc_read_deep pm_read_deep cd_read_deep ct_read_deep : Value}
    {od_read_part an_read_part : Option Addr} {sl_read_part : Array (Option Value)} {oc_read_part kV_read_part dc_read_part pm_read_part cd_read_part ct_read_part : Value}
    {od_read_whole an_read_whole : Option Addr} {sl_read_whole : Array (Option Value)} {oc_read_whole kV_read_whole dc_read_whole pm_read_whole cd_read_whole ct_read_whole : Value}
    {od_read_all an_read_all : Option Addr} {sl_read_all : Array (Option Value)} {oc_read_all kV_read_all dc_read_all pm_read_all cd_read_all ct_read_all : Value}
    {od_pieces an_pieces : Option Addr} {sl_pieces : Array (Option Value)} {oc_pieces kV_pieces dc_pieces pm_pieces cd_pieces ct_pieces : Value}
    {od_term_text an_term_text : Option Addr} {sl_term_text : Array (Option Value)} {oc_term_text kV_term_text dc_term_text pm_term_text cd_term_text ct_term_text : Value}
    {od_words_of an_words_of : Option Addr} {sl_words_of : Array (Option Value)} {oc_words_of kV_words_of dc_words_of pm_words_of cd_words_of ct_words_of : Value}
    {od_step_line an_step_line : Option Addr} {sl_step_line : Array (Option Value)} {oc_step_line kV_step_line dc_step_line pm_step_line cd_step_line ct_step_line : Value}
    {od_pairs_words an_pairs_words : Option Addr} {sl_pairs_words : Array (Option Value)} {oc_pairs_words kV_pairs_words dc_pairs_words pm_pairs_words cd_pairs_words ct_pairs_words : Value}
    {od_entry_lines an_entry_lines : Option Addr} {sl_entry_lines : Array (Option Value)} {oc_entry_lines kV_entry_lines dc_entry_lines pm_entry_lines cd_entry_lines ct_entry_lines : Value}
    {od_library_lines an_library_lines : Option Addr} {sl_library_lines : Array (Option Value)} {oc_library_lines kV_library_lines dc_library_lines pm_library_lines cd_library_lines ct_library_lines : Value}
    {od_read_least an_read_least : Option Addr} {sl_read_least : Array (Option Value)} {oc_read_least kV_read_least dc_read_least pm_read_least cd_read_least ct_read_least : Value}
    {od_read_number an_read_number : Option Addr} {sl_read_number : Array (Option Value)} {oc_read_number kV_read_number dc_read_number pm_read_number cd_read_number ct_read_number : Value}
    {od_read_numbers an_read_numbers : Option Addr} {sl_read_numbers : Array (Option Value)} {oc_read_numbers kV_read_numbers dc_read_numbers pm_read_numbers cd_read_numbers ct_read_numbers : Value}
    {od_read_name an_read_name : Option Addr} {sl_read_name : Array (Option Value)} {oc_read_name kV_read_name dc_read_name pm_read_name cd_read_name ct_read_name : Value}
    {od_read_some_names an_read_some_names : Option Addr} {sl_read_some_names : Array (Option Value)} {oc_read_some_names kV_read_some_names dc_read_some_names pm_read_some_names cd_read_some_names ct_read_some_names : Value}
    {od_read_pairs an_read_pairs : Option Addr} {sl_read_pairs : Array (Option Value)} {oc_read_pairs kV_read_pairs dc_read_pairs pm_read_pairs cd_read_pairs ct_read_pairs : Value}
    {od_read_things an_read_things : Option Addr} {sl_read_things : Array (Option Value)} {oc_read_things kV_read_things dc_read_things pm_read_things cd_read_things ct_read_things : Value}
    {od_read_whole_step an_read_whole_step : Option Addr} {sl_read_whole_step : Array (Option Value)} {oc_read_whole_step kV_read_whole_step dc_read_whole_step pm_read_whole_step cd_read_whole_step ct_read_whole_step : Value}
    {od_read_head an_read_head : Option Addr} {sl_read_head : Array (Option Value)} {oc_read_head kV_read_head dc_read_head pm_read_head cd_read_head ct_read_head : Value}
    {od_read_entry an_read_entry : Option Addr} {sl_read_entry : Array (Option Value)} {oc_read_entry kV_read_entry dc_read_entry pm_read_entry cd_read_entry ct_read_entry : Value}
    {od_read_step an_read_step : Option Addr} {sl_read_step : Array (Option Value)} {oc_read_step kV_read_step dc_read_step pm_read_step cd_read_step ct_read_step : Value}
    {od_read_library an_read_library : Option Addr} {sl_read_library : Array (Option Value)} {oc_read_library kV_read_library dc_read_library pm_read_library cd_read_library ct_read_library : Value}
    {od__law_pool an__law_pool : Option Addr} {sl__law_pool : Array (Option Value)} {oc__law_pool kV__law_pool dc__law_pool pm__law_pool cd__law_pool ct__law_pool : Value}
    {od__law_draw an__law_draw : Option Addr} {sl__law_draw : Array (Option Value)} {oc__law_draw kV__law_draw dc__law_draw pm__law_draw cd__law_draw ct__law_draw : Value}
    {od__law_spend an__law_spend : Option Addr} {sl__law_spend : Array (Option Value)} {oc__law_spend kV__law_spend dc__law_spend pm__law_spend cd__law_spend ct__law_spend : Value}
    {od__law_number an__law_number : Option Addr} {sl__law_number : Array (Option Value)} {oc__law_number kV__law_number dc__law_number pm__law_number cd__law_number ct__law_number : Value}
    {od__law_same an__law_same : Option Addr} {sl__law_same : Array (Option Value)} {oc__law_same kV__law_same dc__law_same pm__law_same cd__law_same ct__law_same : Value}
    {od__law_few an__law_few : Option Addr} {sl__law_few : Array (Option Value)} {oc__law_few kV__law_few dc__law_few pm__law_few cd__law_few ct__law_few : Value}
    {od__law_name an__law_name : Option Addr} {sl__law_name : Array (Option Value)} {oc__law_name kV__law_name dc__law_name pm__law_name cd__law_name ct__law_name : Value}
    {od__law_unlike an__law_unlike : Option Addr} {sl__law_unlike : Array (Option Value)} {oc__law_unlike kV__law_unlike dc__law_unlike pm__law_unlike cd__law_unlike ct__law_unlike : Value}
    {od__law_made an__law_made : Option Addr} {sl__law_made : Array (Option Value)} {oc__law_made kV__law_made dc__law_made pm__law_made cd__law_made ct__law_made : Value}
    {od__law_any an__law_any : Option Addr} {sl__law_any : Array (Option Value)} {oc__law_any kV__law_any dc__law_any pm__law_any cd__law_any ct__law_any : Value}
    {od__law_words an__law_words : Option Addr} {sl__law_words : Array (Option Value)} {oc__law_words kV__law_words dc__law_words pm__law_words cd__law_words ct__law_words : Value}
    {od__law_path an__law_path : Option Addr} {sl__law_path : Array (Option Value)} {oc__law_path kV__law_path dc__law_path pm__law_path cd__law_path ct__law_path : Value}
    {od__law_told an__law_told : Option Addr} {sl__law_told : Array (Option Value)} {oc__law_told kV__law_told dc__law_told pm__law_told cd__law_told ct__law_told : Value}
    {od__law_step an__law_step : Option Addr} {sl__law_step : Array (Option Value)} {oc__law_step kV__law_step dc__law_step pm__law_step cd__law_step ct__law_step : Value}
    {od__law_path_words an__law_path_words : Option Addr} {sl__law_path_words : Array (Option Value)} {oc__law_path_words kV__law_path_words dc__law_path_words pm__law_path_words cd__law_path_words ct__law_path_words : Value}
    {od__law_told_words an__law_told_words : Option Addr} {sl__law_told_words : Array (Option Value)} {oc__law_told_words kV__law_told_words dc__law_told_words pm__law_told_words cd__law_told_words ct__law_told_words : Value}
    {od__law_step_words an__law_step_words : Option Addr} {sl__law_step_words : Array (Option Value)} {oc__law_step_words kV__law_step_words dc__law_step_words pm__law_step_words cd__law_step_words ct__law_step_words : Value}
    {od__law_entry an__law_entry : Option Addr} {sl__law_entry : Array (Option Value)} {oc__law_entry kV__law_entry dc__law_entry pm__law_entry cd__law_entry ct__law_entry : Value}
    {od__law_entry_lines an__law_entry_lines : Option Addr} {sl__law_entry_lines : Array (Option Value)} {oc__law_entry_lines kV__law_entry_lines dc__law_entry_lines pm__law_entry_lines cd__law_entry_lines ct__law_entry_lines : Value}
    {od_law an_law : Option Addr} {sl_law : Array (Option Value)} {oc_law kV_law dc_law pm_law cd_law ct_law : Value}
    (a_kind_of : PySem.W.nsIn K mainGlobals "kind_of" = some (some (.ref f_kind_of))) (l_kind_of : K.lookup f_kind_of = some ⟨oc_kind_of, od_kind_of, .func (PySem.W.fnOf "kind_of" "kind_of" (defArgs s_kind_of) (defBody s_kind_of) (defScope s_kind_of) .none kV_kind_of dc_kind_of pm_kind_of an_kind_of cd_kind_of ct_kind_of), sl_kind_of⟩) (x_kind_of : PySem.W.codeIn K cd_kind_of "kind_of" = true) (k_kind_of : PySem.W.keepIn K (.ref f_kind_of) = true)
    (a_is_name : PySem.W.nsIn K mainGlobals "is_name" = some (some (.ref f_is_name))) (l_is_name : K.lookup f_is_name = some ⟨oc_is_name, od_is_name, .func (PySem.W.fnOf "is_name" "is_name" (defArgs s_is_name) (defBody s_is_name) (defScope s_is_name) .none kV_is_name dc_is_name pm_is_name an_is_name cd_is_name ct_is_name), sl_is_name⟩) (x_is_name : PySem.W.codeIn K cd_is_name "is_name" = true) (k_is_name : PySem.W.keepIn K (.ref f_is_name) = true)
    (a_is_constructor : PySem.W.nsIn K mainGlobals "is_constructor" = some (some (.ref f_is_constructor))) (l_is_constructor : K.lookup f_is_constructor = some ⟨oc_is_constructor, od_is_constructor, .func (PySem.W.fnOf "is_constructor" "is_constructor" (defArgs s_is_constructor) (defBody s_is_constructor) (defScope s_is_constructor) .none kV_is_constructor dc_is_constructor pm_is_constructor an_is_constructor cd_is_constructor ct_is_constructor), sl_is_constructor⟩) (x_is_constructor : PySem.W.codeIn K cd_is_constructor "is_constructor" = true) (k_is_constructor : PySem.W.keepIn K (.ref f_is_constructor) = true)
    (a_is_numeral : PySem.W.nsIn K mainGlobals "is_numeral" = some (some (.ref f_is_numeral))) (l_is_numeral : K.lookup f_is_numeral = some ⟨oc_is_numeral, od_is_numeral, .func (PySem.W.fnOf "is_numeral" "is_numeral" (defArgs s_is_numeral) (defBody s_is_numeral) (defScope s_is_numeral) .none kV_is_numeral dc_is_numeral pm_is_numeral an_is_numeral cd_is_numeral ct_is_numeral), sl_is_numeral⟩) (x_is_numeral : PySem.W.codeIn K cd_is_numeral "is_numeral" = true) (k_is_numeral : PySem.W.keepIn K (.ref f_is_numeral) = true)
    (a_is_number : PySem.W.nsIn K mainGlobals "is_number" = some (some (.ref f_is_number))) (l_is_number : K.lookup f_is_number = some ⟨oc_is_number, od_is_number, .func (PySem.W.fnOf "is_number" "is_number" (defArgs s_is_number) (defBody s_is_number) (defScope s_is_number) .none kV_is_number dc_is_number pm_is_number an_is_number cd_is_number ct_is_number), sl_is_number⟩) (x_is_number : PySem.W.codeIn K cd_is_number "is_number" = true) (k_is_number : PySem.W.keepIn K (.ref f_is_number) = true)
    (a_read_names : PySem.W.nsIn K mainGlobals "read_names" = some (some (.ref f_read_names))) (l_read_names : K.lookup f_read_names = some ⟨oc_read_names, od_read_names, .func (PySem.W.fnOf "read_names" "read_names" (defArgs s_read_names) (defBody s_read_names) (defScope s_read_names) .none kV_read_names dc_read_names pm_read_names an_read_names cd_read_names ct_read_names), sl_read_names⟩) (x_read_names : PySem.W.codeIn K cd_read_names "read_names" = true) (k_read_names : PySem.W.keepIn K (.ref f_read_names) = true)
    (a_read_make : PySem.W.nsIn K mainGlobals "read_make" = some (some (.ref f_read_make))) (l_read_make : K.lookup f_read_make = some ⟨oc_read_make, od_read_make, .func (PySem.W.fnOf "read_make" "read_make" (defArgs s_read_make) (defBody s_read_make) (defScope s_read_make) .none kV_read_make dc_read_make pm_read_make an_read_make cd_read_make ct_read_make), sl_read_make⟩) (x_read_make : PySem.W.codeIn K cd_read_make "read_make" = true) (k_read_make : PySem.W.keepIn K (.ref f_read_make) = true)
    (a_read_let : PySem.W.nsIn K mainGlobals "read_let" = some (some (.ref f_read_let))) (l_read_let : K.lookup f_read_let = some ⟨oc_read_let, od_read_let, .func (PySem.W.fnOf "read_let" "read_let" (defArgs s_read_let) (defBody s_read_let) (defScope s_read_let) .none kV_read_let dc_read_let pm_read_let an_read_let cd_read_let ct_read_let), sl_read_let⟩) (x_read_let : PySem.W.codeIn K cd_read_let "read_let" = true) (k_read_let : PySem.W.keepIn K (.ref f_read_let) = true)
    (a_read_case : PySem.W.nsIn K mainGlobals "read_case" = some (some (.ref f_read_case))) (l_read_case : K.lookup f_read_case = some ⟨oc_read_case, od_read_case, .func (PySem.W.fnOf "read_case" "read_case" (defArgs s_read_case) (defBody s_read_case) (defScope s_read_case) .none kV_read_case dc_read_case pm_read_case an_read_case cd_read_case ct_read_case), sl_read_case⟩) (x_read_case : PySem.W.codeIn K cd_read_case "read_case" = true) (k_read_case : PySem.W.keepIn K (.ref f_read_case) = true)
    (a_read_deep : PySem.W.nsIn K mainGlobals "read_deep" = some (some (.ref f_read_deep))) (l_read_deep : K.lookup f_read_deep = some ⟨oc_read_deep, od_read_deep, .func (PySem.W.fnOf "read_deep" "read_deep" (defArgs s_read_deep) (defBody s_read_deep) (defScope s_read_deep) .none kV_read_deep dc_read_deep pm_read_deep an_read_deep cd_read_deep ct_read_deep), sl_read_deep⟩) (x_read_deep : PySem.W.codeIn K cd_read_deep "read_deep" = true) (k_read_deep : PySem.W.keepIn K (.ref f_read_deep) = true)
    (a_read_part : PySem.W.nsIn K mainGlobals "read_part" = some (some (.ref f_read_part))) (l_read_part : K.lookup f_read_part = some ⟨oc_read_part, od_read_part, .func (PySem.W.fnOf "read_part" "read_part" (defArgs s_read_part) (defBody s_read_part) (defScope s_read_part) .none kV_read_part dc_read_part pm_read_part an_read_part cd_read_part ct_read_part), sl_read_part⟩) (x_read_part : PySem.W.codeIn K cd_read_part "read_part" = true) (k_read_part : PySem.W.keepIn K (.ref f_read_part) = true)
    (a_read_whole : PySem.W.nsIn K mainGlobals "read_whole" = some (some (.ref f_read_whole))) (l_read_whole : K.lookup f_read_whole = some ⟨oc_read_whole, od_read_whole, .func (PySem.W.fnOf "read_whole" "read_whole" (defArgs s_read_whole) (defBody s_read_whole) (defScope s_read_whole) .none kV_read_whole dc_read_whole pm_read_whole an_read_whole cd_read_whole ct_read_whole), sl_read_whole⟩) (x_read_whole : PySem.W.codeIn K cd_read_whole "read_whole" = true) (k_read_whole : PySem.W.keepIn K (.ref f_read_whole) = true)
    (a_read_all : PySem.W.nsIn K mainGlobals "read_all" = some (some (.ref f_read_all))) (l_read_all : K.lookup f_read_all = some ⟨oc_read_all, od_read_all, .func (PySem.W.fnOf "read_all" "read_all" (defArgs s_read_all) (defBody s_read_all) (defScope s_read_all) .none kV_read_all dc_read_all pm_read_all an_read_all cd_read_all ct_read_all), sl_read_all⟩) (x_read_all : PySem.W.codeIn K cd_read_all "read_all" = true) (k_read_all : PySem.W.keepIn K (.ref f_read_all) = true)
    (a_pieces : PySem.W.nsIn K mainGlobals "pieces" = some (some (.ref f_pieces))) (l_pieces : K.lookup f_pieces = some ⟨oc_pieces, od_pieces, .func (PySem.W.fnOf "pieces" "pieces" (defArgs s_pieces) (defBody s_pieces) (defScope s_pieces) .none kV_pieces dc_pieces pm_pieces an_pieces cd_pieces ct_pieces), sl_pieces⟩) (x_pieces : PySem.W.codeIn K cd_pieces "pieces" = true) (k_pieces : PySem.W.keepIn K (.ref f_pieces) = true)
    (a_term_text : PySem.W.nsIn K mainGlobals "term_text" = some (some (.ref f_term_text))) (l_term_text : K.lookup f_term_text = some ⟨oc_term_text, od_term_text, .func (PySem.W.fnOf "term_text" "term_text" (defArgs s_term_text) (defBody s_term_text) (defScope s_term_text) .none kV_term_text dc_term_text pm_term_text an_term_text cd_term_text ct_term_text), sl_term_text⟩) (x_term_text : PySem.W.codeIn K cd_term_text "term_text" = true) (k_term_text : PySem.W.keepIn K (.ref f_term_text) = true)
    (a_words_of : PySem.W.nsIn K mainGlobals "words_of" = some (some (.ref f_words_of))) (l_words_of : K.lookup f_words_of = some ⟨oc_words_of, od_words_of, .func (PySem.W.fnOf "words_of" "words_of" (defArgs s_words_of) (defBody s_words_of) (defScope s_words_of) .none kV_words_of dc_words_of pm_words_of an_words_of cd_words_of ct_words_of), sl_words_of⟩) (x_words_of : PySem.W.codeIn K cd_words_of "words_of" = true) (k_words_of : PySem.W.keepIn K (.ref f_words_of) = true)
    (a_step_line : PySem.W.nsIn K mainGlobals "step_line" = some (some (.ref f_step_line))) (l_step_line : K.lookup f_step_line = some ⟨oc_step_line, od_step_line, .func (PySem.W.fnOf "step_line" "step_line" (defArgs s_step_line) (defBody s_step_line) (defScope s_step_line) .none kV_step_line dc_step_line pm_step_line an_step_line cd_step_line ct_step_line), sl_step_line⟩) (x_step_line : PySem.W.codeIn K cd_step_line "step_line" = true) (k_step_line : PySem.W.keepIn K (.ref f_step_line) = true)
    (a_pairs_words : PySem.W.nsIn K mainGlobals "pairs_words" = some (some (.ref f_pairs_words))) (l_pairs_words : K.lookup f_pairs_words = some ⟨oc_pairs_words, od_pairs_words, .func (PySem.W.fnOf "pairs_words" "pairs_words" (defArgs s_pairs_words) (defBody s_pairs_words) (defScope s_pairs_words) .none kV_pairs_words dc_pairs_words pm_pairs_words an_pairs_words cd_pairs_words ct_pairs_words), sl_pairs_words⟩) (x_pairs_words : PySem.W.codeIn K cd_pairs_words "pairs_words" = true) (k_pairs_words : PySem.W.keepIn K (.ref f_pairs_words) = true)
    (a_entry_lines : PySem.W.nsIn K mainGlobals "entry_lines" = some (some (.ref f_entry_lines))) (l_entry_lines : K.lookup f_entry_lines = some ⟨oc_entry_lines, od_entry_lines, .func (PySem.W.fnOf "entry_lines" "entry_lines" (defArgs s_entry_lines) (defBody s_entry_lines) (defScope s_entry_lines) .none kV_entry_lines dc_entry_lines pm_entry_lines an_entry_lines cd_entry_lines ct_entry_lines), sl_entry_lines⟩) (x_entry_lines : PySem.W.codeIn K cd_entry_lines "entry_lines" = true) (k_entry_lines : PySem.W.keepIn K (.ref f_entry_lines) = true)
    (a_library_lines : PySem.W.nsIn K mainGlobals "library_lines" = some (some (.ref f_library_lines))) (l_library_lines : K.lookup f_library_lines = some ⟨oc_library_lines, od_library_lines, .func (PySem.W.fnOf "library_lines" "library_lines" (defArgs s_library_lines) (defBody s_library_lines) (defScope s_library_lines) .none kV_library_lines dc_library_lines pm_library_lines an_library_lines cd_library_lines ct_library_lines), sl_library_lines⟩) (x_library_lines : PySem.W.codeIn K cd_library_lines "library_lines" = true) (k_library_lines : PySem.W.keepIn K (.ref f_library_lines) = true)
    (a_read_least : PySem.W.nsIn K mainGlobals "read_least" = some (some (.ref f_read_least))) (l_read_least : K.lookup f_read_least = some ⟨oc_read_least, od_read_least, .func (PySem.W.fnOf "read_least" "read_least" (defArgs s_read_least) (defBody s_read_least) (defScope s_read_least) .none kV_read_least dc_read_least pm_read_least an_read_least cd_read_least ct_read_least), sl_read_least⟩) (x_read_least : PySem.W.codeIn K cd_read_least "read_least" = true) (k_read_least : PySem.W.keepIn K (.ref f_read_least) = true)
    (a_read_number : PySem.W.nsIn K mainGlobals "read_number" = some (some (.ref f_read_number))) (l_read_number : K.lookup f_read_number = some ⟨oc_read_number, od_read_number, .func (PySem.W.fnOf "read_number" "read_number" (defArgs s_read_number) (defBody s_read_number) (defScope s_read_number) .none kV_read_number dc_read_number pm_read_number an_read_number cd_read_number ct_read_number), sl_read_number⟩) (x_read_number : PySem.W.codeIn K cd_read_number "read_number" = true) (k_read_number : PySem.W.keepIn K (.ref f_read_number) = true)
    (a_read_numbers : PySem.W.nsIn K mainGlobals "read_numbers" = some (some (.ref f_read_numbers))) (l_read_numbers : K.lookup f_read_numbers = some ⟨oc_read_numbers, od_read_numbers, .func (PySem.W.fnOf "read_numbers" "read_numbers" (defArgs s_read_numbers) (defBody s_read_numbers) (defScope s_read_numbers) .none kV_read_numbers dc_read_numbers pm_read_numbers an_read_numbers cd_read_numbers ct_read_numbers), sl_read_numbers⟩) (x_read_numbers : PySem.W.codeIn K cd_read_numbers "read_numbers" = true) (k_read_numbers : PySem.W.keepIn K (.ref f_read_numbers) = true)
    (a_read_name : PySem.W.nsIn K mainGlobals "read_name" = some (some (.ref f_read_name))) (l_read_name : K.lookup f_read_name = some ⟨oc_read_name, od_read_name, .func (PySem.W.fnOf "read_name" "read_name" (defArgs s_read_name) (defBody s_read_name) (defScope s_read_name) .none kV_read_name dc_read_name pm_read_name an_read_name cd_read_name ct_read_name), sl_read_name⟩) (x_read_name : PySem.W.codeIn K cd_read_name "read_name" = true) (k_read_name : PySem.W.keepIn K (.ref f_read_name) = true)
    (a_read_some_names : PySem.W.nsIn K mainGlobals "read_some_names" = some (some (.ref f_read_some_names))) (l_read_some_names : K.lookup f_read_some_names = some ⟨oc_read_some_names, od_read_some_names, .func (PySem.W.fnOf "read_some_names" "read_some_names" (defArgs s_read_some_names) (defBody s_read_some_names) (defScope s_read_some_names) .none kV_read_some_names dc_read_some_names pm_read_some_names an_read_some_names cd_read_some_names ct_read_some_names), sl_read_some_names⟩) (x_read_some_names : PySem.W.codeIn K cd_read_some_names "read_some_names" = true) (k_read_some_names : PySem.W.keepIn K (.ref f_read_some_names) = true)
    (a_read_pairs : PySem.W.nsIn K mainGlobals "read_pairs" = some (some (.ref f_read_pairs))) (l_read_pairs : K.lookup f_read_pairs = some ⟨oc_read_pairs, od_read_pairs, .func (PySem.W.fnOf "read_pairs" "read_pairs" (defArgs s_read_pairs) (defBody s_read_pairs) (defScope s_read_pairs) .none kV_read_pairs dc_read_pairs pm_read_pairs an_read_pairs cd_read_pairs ct_read_pairs), sl_read_pairs⟩) (x_read_pairs : PySem.W.codeIn K cd_read_pairs "read_pairs" = true) (k_read_pairs : PySem.W.keepIn K (.ref f_read_pairs) = true)
    (a_read_things : PySem.W.nsIn K mainGlobals "read_things" = some (some (.ref f_read_things))) (l_read_things : K.lookup f_read_things = some ⟨oc_read_things, od_read_things, .func (PySem.W.fnOf "read_things" "read_things" (defArgs s_read_things) (defBody s_read_things) (defScope s_read_things) .none kV_read_things dc_read_things pm_read_things an_read_things cd_read_things ct_read_things), sl_read_things⟩) (x_read_things : PySem.W.codeIn K cd_read_things "read_things" = true) (k_read_things : PySem.W.keepIn K (.ref f_read_things) = true)
    (a_read_whole_step : PySem.W.nsIn K mainGlobals "read_whole_step" = some (some (.ref f_read_whole_step))) (l_read_whole_step : K.lookup f_read_whole_step = some ⟨oc_read_whole_step, od_read_whole_step, .func (PySem.W.fnOf "read_whole_step" "read_whole_step" (defArgs s_read_whole_step) (defBody s_read_whole_step) (defScope s_read_whole_step) .none kV_read_whole_step dc_read_whole_step pm_read_whole_step an_read_whole_step cd_read_whole_step ct_read_whole_step), sl_read_whole_step⟩) (x_read_whole_step : PySem.W.codeIn K cd_read_whole_step "read_whole_step" = true) (k_read_whole_step : PySem.W.keepIn K (.ref f_read_whole_step) = true)
    (a_read_head : PySem.W.nsIn K mainGlobals "read_head" = some (some (.ref f_read_head))) (l_read_head : K.lookup f_read_head = some ⟨oc_read_head, od_read_head, .func (PySem.W.fnOf "read_head" "read_head" (defArgs s_read_head) (defBody s_read_head) (defScope s_read_head) .none kV_read_head dc_read_head pm_read_head an_read_head cd_read_head ct_read_head), sl_read_head⟩) (x_read_head : PySem.W.codeIn K cd_read_head "read_head" = true) (k_read_head : PySem.W.keepIn K (.ref f_read_head) = true)
    (a_read_entry : PySem.W.nsIn K mainGlobals "read_entry" = some (some (.ref f_read_entry))) (l_read_entry : K.lookup f_read_entry = some ⟨oc_read_entry, od_read_entry, .func (PySem.W.fnOf "read_entry" "read_entry" (defArgs s_read_entry) (defBody s_read_entry) (defScope s_read_entry) .none kV_read_entry dc_read_entry pm_read_entry an_read_entry cd_read_entry ct_read_entry), sl_read_entry⟩) (x_read_entry : PySem.W.codeIn K cd_read_entry "read_entry" = true) (k_read_entry : PySem.W.keepIn K (.ref f_read_entry) = true)
    (a_read_step : PySem.W.nsIn K mainGlobals "read_step" = some (some (.ref f_read_step))) (l_read_step : K.lookup f_read_step = some ⟨oc_read_step, od_read_step, .func (PySem.W.fnOf "read_step" "read_step" (defArgs s_read_step) (defBody s_read_step) (defScope s_read_step) .none kV_read_step dc_read_step pm_read_step an_read_step cd_read_step ct_read_step), sl_read_step⟩) (x_read_step : PySem.W.codeIn K cd_read_step "read_step" = true) (k_read_step : PySem.W.keepIn K (.ref f_read_step) = true)
    (a_read_library : PySem.W.nsIn K mainGlobals "read_library" = some (some (.ref f_read_library))) (l_read_library : K.lookup f_read_library = some ⟨oc_read_library, od_read_library, .func (PySem.W.fnOf "read_library" "read_library" (defArgs s_read_library) (defBody s_read_library) (defScope s_read_library) .none kV_read_library dc_read_library pm_read_library an_read_library cd_read_library ct_read_library), sl_read_library⟩) (x_read_library : PySem.W.codeIn K cd_read_library "read_library" = true) (k_read_library : PySem.W.keepIn K (.ref f_read_library) = true)
    (a__law_pool : PySem.W.nsIn K mainGlobals "_law_pool" = some (some (.ref f__law_pool))) (l__law_pool : K.lookup f__law_pool = some ⟨oc__law_pool, od__law_pool, .func (PySem.W.fnOf "_law_pool" "_law_pool" (defArgs s__law_pool) (defBody s__law_pool) (defScope s__law_pool) .none kV__law_pool dc__law_pool pm__law_pool an__law_pool cd__law_pool ct__law_pool), sl__law_pool⟩) (x__law_pool : PySem.W.codeIn K cd__law_pool "_law_pool" = true) (k__law_pool : PySem.W.keepIn K (.ref f__law_pool) = true)
    (a__law_draw : PySem.W.nsIn K mainGlobals "_law_draw" = some (some (.ref f__law_draw))) (l__law_draw : K.lookup f__law_draw = some ⟨oc__law_draw, od__law_draw, .func (PySem.W.fnOf "_law_draw" "_law_draw" (defArgs s__law_draw) (defBody s__law_draw) (defScope s__law_draw) .none kV__law_draw dc__law_draw pm__law_draw an__law_draw cd__law_draw ct__law_draw), sl__law_draw⟩) (x__law_draw : PySem.W.codeIn K cd__law_draw "_law_draw" = true) (k__law_draw : PySem.W.keepIn K (.ref f__law_draw) = true)
    (a__law_spend : PySem.W.nsIn K mainGlobals "_law_spend" = some (some (.ref f__law_spend))) (l__law_spend : K.lookup f__law_spend = some ⟨oc__law_spend, od__law_spend, .func (PySem.W.fnOf "_law_spend" "_law_spend" (defArgs s__law_spend) (defBody s__law_spend) (defScope s__law_spend) .none kV__law_spend dc__law_spend pm__law_spend an__law_spend cd__law_spend ct__law_spend), sl__law_spend⟩) (x__law_spend : PySem.W.codeIn K cd__law_spend "_law_spend" = true) (k__law_spend : PySem.W.keepIn K (.ref f__law_spend) = true)
    (a__law_number : PySem.W.nsIn K mainGlobals "_law_number" = some (some (.ref f__law_number))) (l__law_number : K.lookup f__law_number = some ⟨oc__law_number, od__law_number, .func (PySem.W.fnOf "_law_number" "_law_number" (defArgs s__law_number) (defBody s__law_number) (defScope s__law_number) .none kV__law_number dc__law_number pm__law_number an__law_number cd__law_number ct__law_number), sl__law_number⟩) (x__law_number : PySem.W.codeIn K cd__law_number "_law_number" = true) (k__law_number : PySem.W.keepIn K (.ref f__law_number) = true)
    (a__law_same : PySem.W.nsIn K mainGlobals "_law_same" = some (some (.ref f__law_same))) (l__law_same : K.lookup f__law_same = some ⟨oc__law_same, od__law_same, .func (PySem.W.fnOf "_law_same" "_law_same" (defArgs s__law_same) (defBody s__law_same) (defScope s__law_same) .none kV__law_same dc__law_same pm__law_same an__law_same cd__law_same ct__law_same), sl__law_same⟩) (x__law_same : PySem.W.codeIn K cd__law_same "_law_same" = true) (k__law_same : PySem.W.keepIn K (.ref f__law_same) = true)
    (a__law_few : PySem.W.nsIn K mainGlobals "_law_few" = some (some (.ref f__law_few))) (l__law_few : K.lookup f__law_few = some ⟨oc__law_few, od__law_few, .func (PySem.W.fnOf "_law_few" "_law_few" (defArgs s__law_few) (defBody s__law_few) (defScope s__law_few) .none kV__law_few dc__law_few pm__law_few an__law_few cd__law_few ct__law_few), sl__law_few⟩) (x__law_few : PySem.W.codeIn K cd__law_few "_law_few" = true) (k__law_few : PySem.W.keepIn K (.ref f__law_few) = true)
    (a__law_name : PySem.W.nsIn K mainGlobals "_law_name" = some (some (.ref f__law_name))) (l__law_name : K.lookup f__law_name = some ⟨oc__law_name, od__law_name, .func (PySem.W.fnOf "_law_name" "_law_name" (defArgs s__law_name) (defBody s__law_name) (defScope s__law_name) .none kV__law_name dc__law_name pm__law_name an__law_name cd__law_name ct__law_name), sl__law_name⟩) (x__law_name : PySem.W.codeIn K cd__law_name "_law_name" = true) (k__law_name : PySem.W.keepIn K (.ref f__law_name) = true)
    (a__law_unlike : PySem.W.nsIn K mainGlobals "_law_unlike" = some (some (.ref f__law_unlike))) (l__law_unlike : K.lookup f__law_unlike = some ⟨oc__law_unlike, od__law_unlike, .func (PySem.W.fnOf "_law_unlike" "_law_unlike" (defArgs s__law_unlike) (defBody s__law_unlike) (defScope s__law_unlike) .none kV__law_unlike dc__law_unlike pm__law_unlike an__law_unlike cd__law_unlike ct__law_unlike), sl__law_unlike⟩) (x__law_unlike : PySem.W.codeIn K cd__law_unlike "_law_unlike" = true) (k__law_unlike : PySem.W.keepIn K (.ref f__law_unlike) = true)
    (a__law_made : PySem.W.nsIn K mainGlobals "_law_made" = some (some (.ref f__law_made))) (l__law_made : K.lookup f__law_made = some ⟨oc__law_made, od__law_made, .func (PySem.W.fnOf "_law_made" "_law_made" (defArgs s__law_made) (defBody s__law_made) (defScope s__law_made) .none kV__law_made dc__law_made pm__law_made an__law_made cd__law_made ct__law_made), sl__law_made⟩) (x__law_made : PySem.W.codeIn K cd__law_made "_law_made" = true) (k__law_made : PySem.W.keepIn K (.ref f__law_made) = true)
    (a__law_any : PySem.W.nsIn K mainGlobals "_law_any" = some (some (.ref f__law_any))) (l__law_any : K.lookup f__law_any = some ⟨oc__law_any, od__law_any, .func (PySem.W.fnOf "_law_any" "_law_any" (defArgs s__law_any) (defBody s__law_any) (defScope s__law_any) .none kV__law_any dc__law_any pm__law_any an__law_any cd__law_any ct__law_any), sl__law_any⟩) (x__law_any : PySem.W.codeIn K cd__law_any "_law_any" = true) (k__law_any : PySem.W.keepIn K (.ref f__law_any) = true)
    (a__law_words : PySem.W.nsIn K mainGlobals "_law_words" = some (some (.ref f__law_words))) (l__law_words : K.lookup f__law_words = some ⟨oc__law_words, od__law_words, .func (PySem.W.fnOf "_law_words" "_law_words" (defArgs s__law_words) (defBody s__law_words) (defScope s__law_words) .none kV__law_words dc__law_words pm__law_words an__law_words cd__law_words ct__law_words), sl__law_words⟩) (x__law_words : PySem.W.codeIn K cd__law_words "_law_words" = true) (k__law_words : PySem.W.keepIn K (.ref f__law_words) = true)
    (a__law_path : PySem.W.nsIn K mainGlobals "_law_path" = some (some (.ref f__law_path))) (l__law_path : K.lookup f__law_path = some ⟨oc__law_path, od__law_path, .func (PySem.W.fnOf "_law_path" "_law_path" (defArgs s__law_path) (defBody s__law_path) (defScope s__law_path) .none kV__law_path dc__law_path pm__law_path an__law_path cd__law_path ct__law_path), sl__law_path⟩) (x__law_path : PySem.W.codeIn K cd__law_path "_law_path" = true) (k__law_path : PySem.W.keepIn K (.ref f__law_path) = true)
    (a__law_told : PySem.W.nsIn K mainGlobals "_law_told" = some (some (.ref f__law_told))) (l__law_told : K.lookup f__law_told = some ⟨oc__law_told, od__law_told, .func (PySem.W.fnOf "_law_told" "_law_told" (defArgs s__law_told) (defBody s__law_told) (defScope s__law_told) .none kV__law_told dc__law_told pm__law_told an__law_told cd__law_told ct__law_told), sl__law_told⟩) (x__law_told : PySem.W.codeIn K cd__law_told "_law_told" = true) (k__law_told : PySem.W.keepIn K (.ref f__law_told) = true)
    (a__law_step : PySem.W.nsIn K mainGlobals "_law_step" = some (some (.ref f__law_step))) (l__law_step : K.lookup f__law_step = some ⟨oc__law_step, od__law_step, .func (PySem.W.fnOf "_law_step" "_law_step" (defArgs s__law_step) (defBody s__law_step) (defScope s__law_step) .none kV__law_step dc__law_step pm__law_step an__law_step cd__law_step ct__law_step), sl__law_step⟩) (x__law_step : PySem.W.codeIn K cd__law_step "_law_step" = true) (k__law_step : PySem.W.keepIn K (.ref f__law_step) = true)
    (a__law_path_words : PySem.W.nsIn K mainGlobals "_law_path_words" = some (some (.ref f__law_path_words))) (l__law_path_words : K.lookup f__law_path_words = some ⟨oc__law_path_words, od__law_path_words, .func (PySem.W.fnOf "_law_path_words" "_law_path_words" (defArgs s__law_path_words) (defBody s__law_path_words) (defScope s__law_path_words) .none kV__law_path_words dc__law_path_words pm__law_path_words an__law_path_words cd__law_path_words ct__law_path_words), sl__law_path_words⟩) (x__law_path_words : PySem.W.codeIn K cd__law_path_words "_law_path_words" = true) (k__law_path_words : PySem.W.keepIn K (.ref f__law_path_words) = true)
    (a__law_told_words : PySem.W.nsIn K mainGlobals "_law_told_words" = some (some (.ref f__law_told_words))) (l__law_told_words : K.lookup f__law_told_words = some ⟨oc__law_told_words, od__law_told_words, .func (PySem.W.fnOf "_law_told_words" "_law_told_words" (defArgs s__law_told_words) (defBody s__law_told_words) (defScope s__law_told_words) .none kV__law_told_words dc__law_told_words pm__law_told_words an__law_told_words cd__law_told_words ct__law_told_words), sl__law_told_words⟩) (x__law_told_words : PySem.W.codeIn K cd__law_told_words "_law_told_words" = true) (k__law_told_words : PySem.W.keepIn K (.ref f__law_told_words) = true)
    (a__law_step_words : PySem.W.nsIn K mainGlobals "_law_step_words" = some (some (.ref f__law_step_words))) (l__law_step_words : K.lookup f__law_step_words = some ⟨oc__law_step_words, od__law_step_words, .func (PySem.W.fnOf "_law_step_words" "_law_step_words" (defArgs s__law_step_words) (defBody s__law_step_words) (defScope s__law_step_words) .none kV__law_step_words dc__law_step_words pm__law_step_words an__law_step_words cd__law_step_words ct__law_step_words), sl__law_step_words⟩) (x__law_step_words : PySem.W.codeIn K cd__law_step_words "_law_step_words" = true) (k__law_step_words : PySem.W.keepIn K (.ref f__law_step_words) = true)
    (a__law_entry : PySem.W.nsIn K mainGlobals "_law_entry" = some (some (.ref f__law_entry))) (l__law_entry : K.lookup f__law_entry = some ⟨oc__law_entry, od__law_entry, .func (PySem.W.fnOf "_law_entry" "_law_entry" (defArgs s__law_entry) (defBody s__law_entry) (defScope s__law_entry) .none kV__law_entry dc__law_entry pm__law_entry an__law_entry cd__law_entry ct__law_entry), sl__law_entry⟩) (x__law_entry : PySem.W.codeIn K cd__law_entry "_law_entry" = true) (k__law_entry : PySem.W.keepIn K (.ref f__law_entry) = true)
    (a__law_entry_lines : PySem.W.nsIn K mainGlobals "_law_entry_lines" = some (some (.ref f__law_entry_lines))) (l__law_entry_lines : K.lookup f__law_entry_lines = some ⟨oc__law_entry_lines, od__law_entry_lines, .func (PySem.W.fnOf "_law_entry_lines" "_law_entry_lines" (defArgs s__law_entry_lines) (defBody s__law_entry_lines) (defScope s__law_entry_lines) .none kV__law_entry_lines dc__law_entry_lines pm__law_entry_lines an__law_entry_lines cd__law_entry_lines ct__law_entry_lines), sl__law_entry_lines⟩) (x__law_entry_lines : PySem.W.codeIn K cd__law_entry_lines "_law_entry_lines" = true) (k__law_entry_lines : PySem.W.keepIn K (.ref f__law_entry_lines) = true)
    (a_law : PySem.W.nsIn K mainGlobals "law" = some (some (.ref f_law))) (l_law : K.lookup f_law = some ⟨oc_law, od_law, .func (PySem.W.fnOf "law" "law" (defArgs s_law) (defBody s_law) (defScope s_law) .none kV_law dc_law pm_law an_law cd_law ct_law), sl_law⟩) (x_law : PySem.W.codeIn K cd_law "law" = true) (k_law : PySem.W.keepIn K (.ref f_law) = true)
    {kc_VALUES : Addr} {od_VALUES : Option Addr} {its_VALUES : Array Value} {n_VALUES : _} {sl_VALUES : Array (Option Value)} (a_VALUES : PySem.W.nsIn K mainGlobals "VALUES" = some (some (.ref kc_VALUES))) (l_VALUES : K.lookup kc_VALUES = some ⟨.type "tuple", od_VALUES, .seq its_VALUES n_VALUES, sl_VALUES⟩) (v_VALUES : Vals [V.str "number", V.str "fun", V.str "make"] its_VALUES.toList) (z_VALUES : its_VALUES.size ≤ sizeLine)
    {kc_OPERATORS : Addr} {od_OPERATORS : Option Addr} {its_OPERATORS : Array Value} {n_OPERATORS : _} {sl_OPERATORS : Array (Option Value)} (a_OPERATORS : PySem.W.nsIn K mainGlobals "OPERATORS" = some (some (.ref kc_OPERATORS))) (l_OPERATORS : K.lookup kc_OPERATORS = some ⟨.type "tuple", od_OPERATORS, .seq its_OPERATORS n_OPERATORS, sl_OPERATORS⟩) (v_OPERATORS : Vals [V.str "+", V.str "-", V.str "*", V.str "/", V.str "<", V.str "="] its_OPERATORS.toList) (z_OPERATORS : its_OPERATORS.size ≤ sizeLine)
    {kc_BRANCHES : Addr} {od_BRANCHES : Option Addr} {its_BRANCHES : Array Value} {n_BRANCHES : _} {sl_BRANCHES : Array (Option Value)} (a_BRANCHES : PySem.W.nsIn K mainGlobals "BRANCHES" = some (some (.ref kc_BRANCHES))) (l_BRANCHES : K.lookup kc_BRANCHES = some ⟨.type "tuple", od_BRANCHES, .seq its_BRANCHES n_BRANCHES, sl_BRANCHES⟩) (v_BRANCHES : Vals [V.str "case", V.str "ifzero"] its_BRANCHES.toList) (z_BRANCHES : its_BRANCHES.size ≤ sizeLine)
    {kc_COSTS : Addr} {od_COSTS : Option Addr} {its_COSTS : Array Value} {n_COSTS : _} {sl_COSTS : Array (Option Value)} (a_COSTS : PySem.W.nsIn K mainGlobals "COSTS" = some (some (.ref kc_COSTS))) (l_COSTS : K.lookup kc_COSTS = some ⟨.type "tuple", od_COSTS, .seq its_COSTS n_COSTS, sl_COSTS⟩) (v_COSTS : Vals [V.str "tick", V.str "waste"] its_COSTS.toList) (z_COSTS : its_COSTS.size ≤ sizeLine)
    {kc_HOLE : Addr} {od_HOLE : Option Addr} {its_HOLE : Array Value} {n_HOLE : _} {sl_HOLE : Array (Option Value)} (a_HOLE : PySem.W.nsIn K mainGlobals "HOLE" = some (some (.ref kc_HOLE))) (l_HOLE : K.lookup kc_HOLE = some ⟨.type "tuple", od_HOLE, .seq its_HOLE n_HOLE, sl_HOLE⟩) (v_HOLE : Vals [V.str "hole"] its_HOLE.toList) (z_HOLE : its_HOLE.size ≤ sizeLine)
    {kc_KEY_WORDS : Addr} {od_KEY_WORDS : Option Addr} {its_KEY_WORDS : Array Value} {n_KEY_WORDS : _} {sl_KEY_WORDS : Array (Option Value)} (a_KEY_WORDS : PySem.W.nsIn K mainGlobals "KEY_WORDS" = some (some (.ref kc_KEY_WORDS))) (l_KEY_WORDS : K.lookup kc_KEY_WORDS = some ⟨.type "tuple", od_KEY_WORDS, .seq its_KEY_WORDS n_KEY_WORDS, sl_KEY_WORDS⟩) (v_KEY_WORDS : Vals [V.str "fun", V.str "call", V.str "let", V.str "in", V.str "make", V.str "case", V.str "of", V.str "end", V.str "ifzero", V.str "tick", V.str "waste", V.str "hole"] its_KEY_WORDS.toList) (z_KEY_WORDS : its_KEY_WORDS.size ≤ sizeLine)
    {kc_RULE_STEPS : Addr} {od_RULE_STEPS : Option Addr} {its_RULE_STEPS : Array Value} {n_RULE_STEPS : _} {sl_RULE_STEPS : Array (Option Value)} (a_RULE_STEPS : PySem.W.nsIn K mainGlobals "RULE_STEPS" = some (some (.ref kc_RULE_STEPS))) (l_RULE_STEPS : K.lookup kc_RULE_STEPS = some ⟨.type "tuple", od_RULE_STEPS, .seq its_RULE_STEPS n_RULE_STEPS, sl_RULE_STEPS⟩) (v_RULE_STEPS : Vals [V.str "go", V.str "back"] its_RULE_STEPS.toList) (z_RULE_STEPS : its_RULE_STEPS.size ≤ sizeLine)
    {kc_CLAIM_STEPS : Addr} {od_CLAIM_STEPS : Option Addr} {its_CLAIM_STEPS : Array Value} {n_CLAIM_STEPS : _} {sl_CLAIM_STEPS : Array (Option Value)} (a_CLAIM_STEPS : PySem.W.nsIn K mainGlobals "CLAIM_STEPS" = some (some (.ref kc_CLAIM_STEPS))) (l_CLAIM_STEPS : K.lookup kc_CLAIM_STEPS = some ⟨.type "tuple", od_CLAIM_STEPS, .seq its_CLAIM_STEPS n_CLAIM_STEPS, sl_CLAIM_STEPS⟩) (v_CLAIM_STEPS : Vals [V.str "claim", V.str "undo"] its_CLAIM_STEPS.toList) (z_CLAIM_STEPS : its_CLAIM_STEPS.size ≤ sizeLine)
    {kc_PLAIN_FORMS : Addr} {es_PLAIN_FORMS : Array DictEntry} {n_PLAIN_FORMS : Nat} (a_PLAIN_FORMS : PySem.W.nsIn K mainGlobals "PLAIN_FORMS" = some (some (.ref kc_PLAIN_FORMS))) (l_PLAIN_FORMS : K.lookup kc_PLAIN_FORMS = some ⟨.type "dict", none, .dict es_PLAIN_FORMS n_PLAIN_FORMS, #[]⟩) (y_PLAIN_FORMS : PySem.W.KeysLit w.params es_PLAIN_FORMS.toList) (q_PLAIN_FORMS : (kc_PLAIN_FORMS == sysModules) = false)
    {t_PLAIN_FORMS_0 : _} (e_PLAIN_FORMS_0 : PySem.W.nsIn K kc_PLAIN_FORMS "ifzero" = some (some (.int 3 t_PLAIN_FORMS_0)))
    {t_PLAIN_FORMS_1 : _} (e_PLAIN_FORMS_1 : PySem.W.nsIn K kc_PLAIN_FORMS "+" = some (some (.int 2 t_PLAIN_FORMS_1)))
    {t_PLAIN_FORMS_2 : _} (e_PLAIN_FORMS_2 : PySem.W.nsIn K kc_PLAIN_FORMS "-" = some (some (.int 2 t_PLAIN_FORMS_2)))
    {t_PLAIN_FORMS_3 : _} (e_PLAIN_FORMS_3 : PySem.W.nsIn K kc_PLAIN_FORMS "*" = some (some (.int 2 t_PLAIN_FORMS_3)))
    {t_PLAIN_FORMS_4 : _} (e_PLAIN_FORMS_4 : PySem.W.nsIn K kc_PLAIN_FORMS "/" = some (some (.int 2 t_PLAIN_FORMS_4)))
    {t_PLAIN_FORMS_5 : _} (e_PLAIN_FORMS_5 : PySem.W.nsIn K kc_PLAIN_FORMS "<" = some (some (.int 2 t_PLAIN_FORMS_5)))
    {t_PLAIN_FORMS_6 : _} (e_PLAIN_FORMS_6 : PySem.W.nsIn K kc_PLAIN_FORMS "=" = some (some (.int 2 t_PLAIN_FORMS_6)))
    {t_PLAIN_FORMS_7 : _} (e_PLAIN_FORMS_7 : PySem.W.nsIn K kc_PLAIN_FORMS "tick" = some (some (.int 1 t_PLAIN_FORMS_7)))
    {t_PLAIN_FORMS_8 : _} (e_PLAIN_FORMS_8 : PySem.W.nsIn K kc_PLAIN_FORMS "waste" = some (some (.int 1 t_PLAIN_FORMS_8)))
    {kc_SAME_RULES : Addr} {es_SAME_RULES : Array DictEntry} {n_SAME_RULES : Nat} (a_SAME_RULES : PySem.W.nsIn K mainGlobals "SAME_RULES" = some (some (.ref kc_SAME_RULES))) (l_SAME_RULES : K.lookup kc_SAME_RULES = some ⟨.type "dict", none, .dict es_SAME_RULES n_SAME_RULES, #[]⟩) (y_SAME_RULES : PySem.W.KeysLit w.params es_SAME_RULES.toList) (q_SAME_RULES : (kc_SAME_RULES == sysModules) = false)
    (r_SAME_RULES : Nz.KeysIn ["rename", "beta", "choose", "zero", "reckon", "float-let", "float-cost", "join", "branch", "sink", "order", "copy", "spoil"] es_SAME_RULES.toList)
    {t_SAME_RULES_0 : Value} (e_SAME_RULES_0 : PySem.W.nsIn K kc_SAME_RULES "rename" = some (some t_SAME_RULES_0))
    {t_SAME_RULES_1 : Value} (e_SAME_RULES_1 : PySem.W.nsIn K kc_SAME_RULES "beta" = some (some t_SAME_RULES_1))
    {t_SAME_RULES_2 : Value} (e_SAME_RULES_2 : PySem.W.nsIn K kc_SAME_RULES "choose" = some (some t_SAME_RULES_2))
    {t_SAME_RULES_3 : Value} (e_SAME_RULES_3 : PySem.W.nsIn K kc_SAME_RULES "zero" = some (some t_SAME_RULES_3))
    {t_SAME_RULES_4 : Value} (e_SAME_RULES_4 : PySem.W.nsIn K kc_SAME_RULES "reckon" = some (some t_SAME_RULES_4))
    {t_SAME_RULES_5 : Value} (e_SAME_RULES_5 : PySem.W.nsIn K kc_SAME_RULES "float-let" = some (some t_SAME_RULES_5))
    {t_SAME_RULES_6 : Value} (e_SAME_RULES_6 : PySem.W.nsIn K kc_SAME_RULES "float-cost" = some (some t_SAME_RULES_6))
    {t_SAME_RULES_7 : Value} (e_SAME_RULES_7 : PySem.W.nsIn K kc_SAME_RULES "join" = some (some t_SAME_RULES_7))
    {t_SAME_RULES_8 : Value} (e_SAME_RULES_8 : PySem.W.nsIn K kc_SAME_RULES "branch" = some (some t_SAME_RULES_8))
    {t_SAME_RULES_9 : Value} (e_SAME_RULES_9 : PySem.W.nsIn K kc_SAME_RULES "sink" = some (some t_SAME_RULES_9))
    {t_SAME_RULES_10 : Value} (e_SAME_RULES_10 : PySem.W.nsIn K kc_SAME_RULES "order" = some (some t_SAME_RULES_10))
    {t_SAME_RULES_11 : Value} (e_SAME_RULES_11 : PySem.W.nsIn K kc_SAME_RULES "copy" = some (some t_SAME_RULES_11))
    {t_SAME_RULES_12 : Value} (e_SAME_RULES_12 : PySem.W.nsIn K kc_SAME_RULES "spoil" = some (some t_SAME_RULES_12))
    {kc_BETTER_RULES : Addr} {es_BETTER_RULES : Array DictEntry} {n_BETTER_RULES : Nat} (a_BETTER_RULES : PySem.W.nsIn K mainGlobals "BETTER_RULES" = some (some (.ref kc_BETTER_RULES))) (l_BETTER_RULES : K.lookup kc_BETTER_RULES = some ⟨.type "dict", none, .dict es_BETTER_RULES n_BETTER_RULES, #[]⟩) (y_BETTER_RULES : PySem.W.KeysLit w.params es_BETTER_RULES.toList) (q_BETTER_RULES : (kc_BETTER_RULES == sysModules) = false)
    (r_BETTER_RULES : Nz.KeysIn ["unused", "once", "alias", "into", "untick", "cheaper"] es_BETTER_RULES.toList)
    {t_BETTER_RULES_0 : Value} (e_BETTER_RULES_0 : PySem.W.nsIn K kc_BETTER_RULES "unused" = some (some t_BETTER_RULES_0))
    {t_BETTER_RULES_1 : Value} (e_BETTER_RULES_1 : PySem.W.nsIn K kc_BETTER_RULES "once" = some (some t_BETTER_RULES_1))
    {t_BETTER_RULES_2 : Value} (e_BETTER_RULES_2 : PySem.W.nsIn K kc_BETTER_RULES "alias" = some (some t_BETTER_RULES_2))
    {t_BETTER_RULES_3 : Value} (e_BETTER_RULES_3 : PySem.W.nsIn K kc_BETTER_RULES "into" = some (some t_BETTER_RULES_3))
    {t_BETTER_RULES_4 : Value} (e_BETTER_RULES_4 : PySem.W.nsIn K kc_BETTER_RULES "untick" = some (some t_BETTER_RULES_4))
    {t_BETTER_RULES_5 : Value} (e_BETTER_RULES_5 : PySem.W.nsIn K kc_BETTER_RULES "cheaper" = some (some t_BETTER_RULES_5))
    {kc_TOLD : Addr} {es_TOLD : Array DictEntry} {n_TOLD : Nat} (a_TOLD : PySem.W.nsIn K mainGlobals "TOLD" = some (some (.ref kc_TOLD))) (l_TOLD : K.lookup kc_TOLD = some ⟨.type "dict", none, .dict es_TOLD n_TOLD, #[]⟩) (y_TOLD : PySem.W.KeysLit w.params es_TOLD.toList) (q_TOLD : (kc_TOLD == sysModules) = false)
    (r_TOLD : Nz.KeysIn ["rename", "float-let", "float-cost", "order", "copy", "unused"] es_TOLD.toList)
    {kc_TOLD_0 : Addr} {od_TOLD_0 : Option Addr} {its_TOLD_0 : Array Value} {n_TOLD_0 : _} {sl_TOLD_0 : Array (Option Value)} (e_TOLD_0 : PySem.W.nsIn K kc_TOLD "rename" = some (some (.ref kc_TOLD_0))) (l_TOLD_0 : K.lookup kc_TOLD_0 = some ⟨.type "tuple", od_TOLD_0, .seq its_TOLD_0 n_TOLD_0, sl_TOLD_0⟩) (v_TOLD_0 : Vals [V.str "index", V.str "name", V.str "name"] its_TOLD_0.toList) (z_TOLD_0 : its_TOLD_0.size ≤ sizeLine)
    {kc_TOLD_1 : Addr} {od_TOLD_1 : Option Addr} {its_TOLD_1 : Array Value} {n_TOLD_1 : _} {sl_TOLD_1 : Array (Option Value)} (e_TOLD_1 : PySem.W.nsIn K kc_TOLD "float-let" = some (some (.ref kc_TOLD_1))) (l_TOLD_1 : K.lookup kc_TOLD_1 = some ⟨.type "tuple", od_TOLD_1, .seq its_TOLD_1 n_TOLD_1, sl_TOLD_1⟩) (v_TOLD_1 : Vals [V.str "index"] its_TOLD_1.toList) (z_TOLD_1 : its_TOLD_1.size ≤ sizeLine)
    {kc_TOLD_2 : Addr} {od_TOLD_2 : Option Addr} {its_TOLD_2 : Array Value} {n_TOLD_2 : _} {sl_TOLD_2 : Array (Option Value)} (e_TOLD_2 : PySem.W.nsIn K kc_TOLD "float-cost" = some (some (.ref kc_TOLD_2))) (l_TOLD_2 : K.lookup kc_TOLD_2 = some ⟨.type "tuple", od_TOLD_2, .seq its_TOLD_2 n_TOLD_2, sl_TOLD_2⟩) (v_TOLD_2 : Vals [V.str "index"] its_TOLD_2.toList) (z_TOLD_2 : its_TOLD_2.size ≤ sizeLine)
    {kc_TOLD_3 : Addr} {od_TOLD_3 : Option Addr} {its_TOLD_3 : Array Value} {n_TOLD_3 : _} {sl_TOLD_3 : Array (Option Value)} (e_TOLD_3 : PySem.W.nsIn K kc_TOLD "order" = some (some (.ref kc_TOLD_3))) (l_TOLD_3 : K.lookup kc_TOLD_3 = some ⟨.type "tuple", od_TOLD_3, .seq its_TOLD_3 n_TOLD_3, sl_TOLD_3⟩) (v_TOLD_3 : Vals [V.str "indexes"] its_TOLD_3.toList) (z_TOLD_3 : its_TOLD_3.size ≤ sizeLine)
    {kc_TOLD_4 : Addr} {od_TOLD_4 : Option Addr} {its_TOLD_4 : Array Value} {n_TOLD_4 : _} {sl_TOLD_4 : Array (Option Value)} (e_TOLD_4 : PySem.W.nsIn K kc_TOLD "copy" = some (some (.ref kc_TOLD_4))) (l_TOLD_4 : K.lookup kc_TOLD_4 = some ⟨.type "tuple", od_TOLD_4, .seq its_TOLD_4 n_TOLD_4, sl_TOLD_4⟩) (v_TOLD_4 : Vals [V.str "name", V.str "indexes"] its_TOLD_4.toList) (z_TOLD_4 : its_TOLD_4.size ≤ sizeLine)
    {kc_TOLD_5 : Addr} {od_TOLD_5 : Option Addr} {its_TOLD_5 : Array Value} {n_TOLD_5 : _} {sl_TOLD_5 : Array (Option Value)} (e_TOLD_5 : PySem.W.nsIn K kc_TOLD "unused" = some (some (.ref kc_TOLD_5))) (l_TOLD_5 : K.lookup kc_TOLD_5 = some ⟨.type "tuple", od_TOLD_5, .seq its_TOLD_5 n_TOLD_5, sl_TOLD_5⟩) (v_TOLD_5 : Vals [V.str "names"] its_TOLD_5.toList) (z_TOLD_5 : its_TOLD_5.size ≤ sizeLine)
    {kc_HEADS : Addr} {es_HEADS : Array DictEntry} {n_HEADS : Nat} (a_HEADS : PySem.W.nsIn K mainGlobals "HEADS" = some (some (.ref kc_HEADS))) (l_HEADS : K.lookup kc_HEADS = some ⟨.type "dict", none, .dict es_HEADS n_HEADS, #[]⟩) (y_HEADS : PySem.W.KeysLit w.params es_HEADS.toList) (q_HEADS : (kc_HEADS == sysModules) = false)
    (r_HEADS : Nz.KeysIn ["derived", "context", "chain", "recursion"] es_HEADS.toList)
    {kc_HEADS_0 : Addr} {od_HEADS_0 : Option Addr} {its_HEADS_0 : Array Value} {n_HEADS_0 : _} {sl_HEADS_0 : Array (Option Value)} (e_HEADS_0 : PySem.W.nsIn K kc_HEADS "derived" = some (some (.ref kc_HEADS_0))) (l_HEADS_0 : K.lookup kc_HEADS_0 = some ⟨.type "tuple", od_HEADS_0, .seq its_HEADS_0 n_HEADS_0, sl_HEADS_0⟩) (v_HEADS_0 : Vals [V.str "index"] its_HEADS_0.toList) (z_HEADS_0 : its_HEADS_0.size ≤ sizeLine)
    {kc_HEADS_1 : Addr} {od_HEADS_1 : Option Addr} {its_HEADS_1 : Array Value} {n_HEADS_1 : _} {sl_HEADS_1 : Array (Option Value)} (e_HEADS_1 : PySem.W.nsIn K kc_HEADS "context" = some (some (.ref kc_HEADS_1))) (l_HEADS_1 : K.lookup kc_HEADS_1 = some ⟨.type "tuple", od_HEADS_1, .seq its_HEADS_1 n_HEADS_1, sl_HEADS_1⟩) (v_HEADS_1 : Vals [V.str "index"] its_HEADS_1.toList) (z_HEADS_1 : its_HEADS_1.size ≤ sizeLine)
    {kc_HEADS_2 : Addr} {od_HEADS_2 : Option Addr} {its_HEADS_2 : Array Value} {n_HEADS_2 : _} {sl_HEADS_2 : Array (Option Value)} (e_HEADS_2 : PySem.W.nsIn K kc_HEADS "chain" = some (some (.ref kc_HEADS_2))) (l_HEADS_2 : K.lookup kc_HEADS_2 = some ⟨.type "tuple", od_HEADS_2, .seq its_HEADS_2 n_HEADS_2, sl_HEADS_2⟩) (v_HEADS_2 : Vals [V.str "index", V.str "index"] its_HEADS_2.toList) (z_HEADS_2 : its_HEADS_2.size ≤ sizeLine)
    {kc_HEADS_3 : Addr} {od_HEADS_3 : Option Addr} {its_HEADS_3 : Array Value} {n_HEADS_3 : _} {sl_HEADS_3 : Array (Option Value)} (e_HEADS_3 : PySem.W.nsIn K kc_HEADS "recursion" = some (some (.ref kc_HEADS_3))) (l_HEADS_3 : K.lookup kc_HEADS_3 = some ⟨.type "tuple", od_HEADS_3, .seq its_HEADS_3 n_HEADS_3, sl_HEADS_3⟩) (v_HEADS_3 : Vals [V.str "index", V.str "index", V.str "pairs"] its_HEADS_3.toList) (z_HEADS_3 : its_HEADS_3.size ≤ sizeLine)
    {kc_READINGS : Addr} {es_READINGS : Array DictEntry} {n_READINGS : Nat} (a_READINGS : PySem.W.nsIn K mainGlobals "READINGS" = some (some (.ref kc_READINGS))) (l_READINGS : K.lookup kc_READINGS = some ⟨.type "dict", none, .dict es_READINGS n_READINGS, #[]⟩) (y_READINGS : PySem.W.KeysLit w.params es_READINGS.toList) (q_READINGS : (kc_READINGS == sysModules) = false)
    (r_READINGS : Nz.KeysIn ["index", "indexes", "name", "names", "pairs"] es_READINGS.toList)
    (e_READINGS_0 : PySem.W.nsIn K kc_READINGS "index" = some (some (.ref f_read_number)))
    (e_READINGS_1 : PySem.W.nsIn K kc_READINGS "indexes" = some (some (.ref f_read_numbers)))
    (e_READINGS_2 : PySem.W.nsIn K kc_READINGS "name" = some (some (.ref f_read_name)))
    (e_READINGS_3 : PySem.W.nsIn K kc_READINGS "names" = some (some (.ref f_read_some_names)))
    (e_READINGS_4 : PySem.W.nsIn K kc_READINGS "pairs" = some (some (.ref f_read_pairs)))
    {cC_Reader : Addr} (a_Reader : PySem.W.nsIn K mainGlobals "Reader" = some (some (.ref cC_Reader))) (p1_Reader : PySem.W.plainGet K cC_Reader Str.empty = true) (p2_Reader : PySem.W.hasDictIn K cC_Reader = true) (p3_Reader : PySem.W.plainOver K cC_Reader = true) (p4_Reader : PySem.W.findIn K (.ref cC_Reader) "__setattr__" = some (some (.builtin "object.__setattr__"))) (p5_Reader : PySem.W.makesIn K cC_Reader = true) (p6_Reader : PySem.W.keepIn K (.ref cC_Reader) = true)
    (nf_Reader_at : PySem.W.findIn K (.ref cC_Reader) "at" = some none)
    (nf_Reader_words : PySem.W.findIn K (.ref cC_Reader) "words" = some none)
    {f_Reader___init__ : Addr} {od_Reader___init__ an_Reader___init__ : Option Addr} {sl_Reader___init__ : Array (Option Value)} {oc_Reader___init__ kV_Reader___init__ dc_Reader___init__ pm_Reader___init__ cd_Reader___init__ ct_Reader___init__ : Value}
    (a_Reader___init__ : PySem.W.findIn K (.ref cC_Reader) "__init__" = some (some (.ref f_Reader___init__))) (i_Reader___init__ : PySem.W.isFn K (.ref f_Reader___init__) = true) (l_Reader___init__ : K.lookup f_Reader___init__ = some ⟨oc_Reader___init__, od_Reader___init__, .func (PySem.W.fnOf "__init__" "Reader.__init__" (defArgs s_Reader___init__) (defBody s_Reader___init__) (defScope s_Reader___init__) .none kV_Reader___init__ dc_Reader___init__ pm_Reader___init__ an_Reader___init__ cd_Reader___init__ ct_Reader___init__), sl_Reader___init__⟩) (x_Reader___init__ : PySem.W.codeIn K cd_Reader___init__ "Reader.__init__" = true) (k_Reader___init__ : PySem.W.keepIn K (.ref f_Reader___init__) = true)
    {f_Reader_ahead : Addr} {od_Reader_ahead an_Reader_ahead : Option Addr} {sl_Reader_ahead : Array (Option Value)} {oc_Reader_ahead kV_Reader_ahead dc_Reader_ahead pm_Reader_ahead cd_Reader_ahead ct_Reader_ahead : Value}
    (a_Reader_ahead : PySem.W.findIn K (.ref cC_Reader) "ahead" = some (some (.ref f_Reader_ahead))) (i_Reader_ahead : PySem.W.isFn K (.ref f_Reader_ahead) = true) (l_Reader_ahead : K.lookup f_Reader_ahead = some ⟨oc_Reader_ahead, od_Reader_ahead, .func (PySem.W.fnOf "ahead" "Reader.ahead" (defArgs s_Reader_ahead) (defBody s_Reader_ahead) (defScope s_Reader_ahead) .none kV_Reader_ahead dc_Reader_ahead pm_Reader_ahead an_Reader_ahead cd_Reader_ahead ct_Reader_ahead), sl_Reader_ahead⟩) (x_Reader_ahead : PySem.W.codeIn K cd_Reader_ahead "Reader.ahead" = true) (k_Reader_ahead : PySem.W.keepIn K (.ref f_Reader_ahead) = true)
    {f_Reader_take : Addr} {od_Reader_take an_Reader_take : Option Addr} {sl_Reader_take : Array (Option Value)} {oc_Reader_take kV_Reader_take dc_Reader_take pm_Reader_take cd_Reader_take ct_Reader_take : Value}
    (a_Reader_take : PySem.W.findIn K (.ref cC_Reader) "take" = some (some (.ref f_Reader_take))) (i_Reader_take : PySem.W.isFn K (.ref f_Reader_take) = true) (l_Reader_take : K.lookup f_Reader_take = some ⟨oc_Reader_take, od_Reader_take, .func (PySem.W.fnOf "take" "Reader.take" (defArgs s_Reader_take) (defBody s_Reader_take) (defScope s_Reader_take) .none kV_Reader_take dc_Reader_take pm_Reader_take an_Reader_take cd_Reader_take ct_Reader_take), sl_Reader_take⟩) (x_Reader_take : PySem.W.codeIn K cd_Reader_take "Reader.take" = true) (k_Reader_take : PySem.W.keepIn K (.ref f_Reader_take) = true)
    {f_Reader_take_word : Addr} {od_Reader_take_word an_Reader_take_word : Option Addr} {sl_Reader_take_word : Array (Option Value)} {oc_Reader_take_word kV_Reader_take_word dc_Reader_take_word pm_Reader_take_word cd_Reader_take_word ct_Reader_take_word : Value}
    (a_Reader_take_word : PySem.W.findIn K (.ref cC_Reader) "take_word" = some (some (.ref f_Reader_take_word))) (i_Reader_take_word : PySem.W.isFn K (.ref f_Reader_take_word) = true) (l_Reader_take_word : K.lookup f_Reader_take_word = some ⟨oc_Reader_take_word, od_Reader_take_word, .func (PySem.W.fnOf "take_word" "Reader.take_word" (defArgs s_Reader_take_word) (defBody s_Reader_take_word) (defScope s_Reader_take_word) .none kV_Reader_take_word dc_Reader_take_word pm_Reader_take_word an_Reader_take_word cd_Reader_take_word ct_Reader_take_word), sl_Reader_take_word⟩) (x_Reader_take_word : PySem.W.codeIn K cd_Reader_take_word "Reader.take_word" = true) (k_Reader_take_word : PySem.W.keepIn K (.ref f_Reader_take_word) = true)
    {f_Reader_take_name : Addr} {od_Reader_take_name an_Reader_take_name : Option Addr} {sl_Reader_take_name : Array (Option Value)} {oc_Reader_take_name kV_Reader_take_name dc_Reader_take_name pm_Reader_take_name cd_Reader_take_name ct_Reader_take_name : Value}
    (a_Reader_take_name : PySem.W.findIn K (.ref cC_Reader) "take_name" = some (some (.ref f_Reader_take_name))) (i_Reader_take_name : PySem.W.isFn K (.ref f_Reader_take_name) = true) (l_Reader_take_name : K.lookup f_Reader_take_name = some ⟨oc_Reader_take_name, od_Reader_take_name, .func (PySem.W.fnOf "take_name" "Reader.take_name" (defArgs s_Reader_take_name) (defBody s_Reader_take_name) (defScope s_Reader_take_name) .none kV_Reader_take_name dc_Reader_take_name pm_Reader_take_name an_Reader_take_name cd_Reader_take_name ct_Reader_take_name), sl_Reader_take_name⟩) (x_Reader_take_name : PySem.W.codeIn K cd_Reader_take_name "Reader.take_name" = true) (k_Reader_take_name : PySem.W.keepIn K (.ref f_Reader_take_name) = true)
    {f_Reader_take_constructor : Addr} {od_Reader_take_constructor an_Reader_take_constructor : Option Addr} {sl_Reader_take_constructor : Array (Option Value)} {oc_Reader_take_constructor kV_Reader_take_constructor dc_Reader_take_constructor pm_Reader_take_constructor cd_Reader_take_constructor ct_Reader_take_constructor : Value}
    (a_Reader_take_constructor : PySem.W.findIn K (.ref cC_Reader) "take_constructor" = some (some (.ref f_Reader_take_constructor))) (i_Reader_take_constructor : PySem.W.isFn K (.ref f_Reader_take_constructor) = true) (l_Reader_take_constructor : K.lookup f_Reader_take_constructor = some ⟨oc_Reader_take_constructor, od_Reader_take_constructor, .func (PySem.W.fnOf "take_constructor" "Reader.take_constructor" (defArgs s_Reader_take_constructor) (defBody s_Reader_take_constructor) (defScope s_Reader_take_constructor) .none kV_Reader_take_constructor dc_Reader_take_constructor pm_Reader_take_constructor an_Reader_take_constructor cd_Reader_take_constructor ct_Reader_take_constructor), sl_Reader_take_constructor⟩) (x_Reader_take_constructor : PySem.W.codeIn K cd_Reader_take_constructor "Reader.take_constructor" = true) (k_Reader_take_constructor : PySem.W.keepIn K (.ref f_Reader_take_constructor) = true)
    {cC_Source : Addr} (a_Source : PySem.W.nsIn K mainGlobals "Source" = some (some (.ref cC_Source))) (p1_Source : PySem.W.plainGet K cC_Source Str.empty = true) (p2_Source : PySem.W.hasDictIn K cC_Source = true) (p3_Source : PySem.W.plainOver K cC_Source = true) (p4_Source : PySem.W.findIn K (.ref cC_Source) "__setattr__" = some (some (.builtin "object.__setattr__"))) (p5_Source : PySem.W.makesIn K cC_Source = true) (p6_Source : PySem.W.keepIn K (.ref cC_Source) = true)
    (nf_Source_at : PySem.W.findIn K (.ref cC_Source) "at" = some none)
    (nf_Source_lines : PySem.W.findIn K (.ref cC_Source) "lines" = some none)
    {f_Source___init__ : Addr} {od_Source___init__ an_Source___init__ : Option Addr} {sl_Source___init__ : Array (Option Value)} {oc_Source___init__ kV_Source___init__ dc_Source___init__ pm_Source___init__ cd_Source___init__ ct_Source___init__ : Value}
    (a_Source___init__ : PySem.W.findIn K (.ref cC_Source) "__init__" = some (some (.ref f_Source___init__))) (i_Source___init__ : PySem.W.isFn K (.ref f_Source___init__) = true) (l_Source___init__ : K.lookup f_Source___init__ = some ⟨oc_Source___init__, od_Source___init__, .func (PySem.W.fnOf "__init__" "Source.__init__" (defArgs s_Source___init__) (defBody s_Source___init__) (defScope s_Source___init__) .none kV_Source___init__ dc_Source___init__ pm_Source___init__ an_Source___init__ cd_Source___init__ ct_Source___init__), sl_Source___init__⟩) (x_Source___init__ : PySem.W.codeIn K cd_Source___init__ "Source.__init__" = true) (k_Source___init__ : PySem.W.keepIn K (.ref f_Source___init__) = true)
    {f_Source_take : Addr} {od_Source_take an_Source_take : Option Addr} {sl_Source_take : Array (Option Value)} {oc_Source_take kV_Source_take dc_Source_take pm_Source_take cd_Source_take ct_Source_take : Value}
    (a_Source_take : PySem.W.findIn K (.ref cC_Source) "take" = some (some (.ref f_Source_take))) (i_Source_take : PySem.W.isFn K (.ref f_Source_take) = true) (l_Source_take : K.lookup f_Source_take = some ⟨oc_Source_take, od_Source_take, .func (PySem.W.fnOf "take" "Source.take" (defArgs s_Source_take) (defBody s_Source_take) (defScope s_Source_take) .none kV_Source_take dc_Source_take pm_Source_take an_Source_take cd_Source_take ct_Source_take), sl_Source_take⟩) (x_Source_take : PySem.W.codeIn K cd_Source_take "Source.take" = true) (k_Source_take : PySem.W.keepIn K (.ref f_Source_take) = true)
    (w_read_number_read_numbers : f_read_number ≠ f_read_numbers)
    (w_read_number_read_name : f_read_number ≠ f_read_name)
    (w_read_number_read_some_names : f_read_number ≠ f_read_some_names)
    (w_read_number_read_pairs : f_read_number ≠ f_read_pairs)
    (w_read_numbers_read_name : f_read_numbers ≠ f_read_name)
    (w_read_numbers_read_some_names : f_read_numbers ≠ f_read_some_names)
    (w_read_numbers_read_pairs : f_read_numbers ≠ f_read_pairs)
    (w_read_name_read_some_names : f_read_name ≠ f_read_some_names)
    (w_read_name_read_pairs : f_read_name ≠ f_read_pairs)
    (w_read_some_names_read_pairs : f_read_some_names ≠ f_read_pairs)
    {xn_BadText : Addr} (a_BadText : PySem.W.nsIn K mainGlobals "BadText" = some (some (.ref xn_BadText)))
    {t_NUMBERS : _} (a_NUMBERS : PySem.W.nsIn K mainGlobals "NUMBERS" = some (some (.int 65536 t_NUMBERS)))
    {t_MOST_PAIRS : _} (a_MOST_PAIRS : PySem.W.nsIn K mainGlobals "MOST_PAIRS" = some (some (.int 4 t_MOST_PAIRS)))
    {t_LONGEST_NAME : _} (a_LONGEST_NAME : PySem.W.nsIn K mainGlobals "LONGEST_NAME" = some (some (.int 6 t_LONGEST_NAME)))
    {t_LONGEST_NUMBER_text : _} (a_LONGEST_NUMBER_text : PySem.W.nsIn K mainGlobals "LONGEST_NUMBER_text" = some (some (.int 5 t_LONGEST_NUMBER_text)))
    {t_LARGEST_NUMBER : _} (a_LARGEST_NUMBER : PySem.W.nsIn K mainGlobals "LARGEST_NUMBER" = some (some (.int 65535 t_LARGEST_NUMBER)))
    {t_MOST_AT_ONCE : _} (a_MOST_AT_ONCE : PySem.W.nsIn K mainGlobals "MOST_AT_ONCE" = some (some (.int 4 t_MOST_AT_ONCE)))
    {t_DEEPEST : _} (a_DEEPEST : PySem.W.nsIn K mainGlobals "DEEPEST" = some (some (.int 60 t_DEEPEST)))
    {t_LONGEST_NUMBER_lines : _} (a_LONGEST_NUMBER_lines : PySem.W.nsIn K mainGlobals "LONGEST_NUMBER_lines" = some (some (.int 3 t_LONGEST_NUMBER_lines)))
    (z_bool : PySem.W.nsIn K mainGlobals "bool" = some none)
    (z_int : PySem.W.nsIn K mainGlobals "int" = some none)
    (z_isinstance : PySem.W.nsIn K mainGlobals "isinstance" = some none)
    (z_len : PySem.W.nsIn K mainGlobals "len" = some none)
    (z_list : PySem.W.nsIn K mainGlobals "list" = some none)
    (z_min : PySem.W.nsIn K mainGlobals "min" = some none)
    (z_range : PySem.W.nsIn K mainGlobals "range" = some none)
    (z_str : PySem.W.nsIn K mainGlobals "str" = some none)
    (z_tuple : PySem.W.nsIn K mainGlobals "tuple" = some none)
    : ∃ fd : FuncData, (∀ (s : Shared) (v : Value), BindsTo s fd ⟨[v], []⟩ [("script", v)]) ∧ ∀ base : Heap, K.In base → base.Ns mainGlobals mg → FnOk l.prog w K mg base CX0 lawLevel fa fd ["script"] (spLaw K) := by
  have e := hfa.symm.trans (PySem.W.mg_of X G a_law)
  cases e
  have F_kind_of := fun_mk (st := s_kind_of) l_kind_of x_kind_of k_kind_of
  have D_kind_of : DefF K mg "kind_of" s_kind_of ["name"] := ⟨_, _, F_kind_of, PySem.W.mg_of X G a_kind_of, F_kind_of.binds fun _ _ _ _ _ _ us hl => match us, hl with | [_], _ => rfl⟩
  have F_is_name := fun_mk (st := s_is_name) l_is_name x_is_name k_is_name
  have D_is_name : DefF K mg "is_name" s_is_name ["word"] := ⟨_, _, F_is_name, PySem.W.mg_of X G a_is_name, F_is_name.binds fun _ _ _ _ _ _ us hl => match us, hl with | [_], _ => rfl⟩
  have F_is_constructor := fun_mk (st := s_is_constructor) l_is_constructor x_is_constructor k_is_constructor
  have D_is_constructor : DefF K mg "is_constructor" s_is_constructor ["word"] := ⟨_, _, F_is_constructor, PySem.W.mg_of X G a_is_constructor, F_is_constructor.binds fun _ _ _ _ _ _ us hl => match us, hl with | [_], _ => rfl⟩
  have F_is_numeral := fun_mk (st := s_is_numeral) l_is_numeral x_is_numeral k_is_numeral
  have D_is_numeral : DefF K mg "is_numeral" s_is_numeral ["word", "longest"] := ⟨_, _, F_is_numeral, PySem.W.mg_of X G a_is_numeral, F_is_numeral.binds fun _ _ _ _ _ _ us hl => match us, hl with | [_, _], _ => rfl⟩
  have F_is_number := fun_mk (st := s_is_number) l_is_number x_is_number k_is_number
  have D_is_number : DefF K mg "is_number" s_is_number ["word"] := ⟨_, _, F_is_number, PySem.W.mg_of X G a_is_number, F_is_number.binds fun _ _ _ _ _ _ us hl => match us, hl with | [_], _ => rfl⟩
  have F_read_names := fun_mk (st := s_read_names) l_read_names x_read_names k_read_names
  have D_read_names : DefF K mg "read_names" s_read_names ["reader", "differ"] := ⟨_, _, F_read_names, PySem.W.mg_of X G a_read_names, F_read_names.binds fun _ _ _ _ _ _ us hl => match us, hl with | [_, _], _ => rfl⟩
  have F_read_make := fun_mk (st := s_read_make) l_read_make x_read_make k_read_make
  have D_read_make : DefF K mg "read_make" s_read_make ["reader"] := ⟨_, _, F_read_make, PySem.W.mg_of X G a_read_make, F_read_make.binds fun _ _ _ _ _ _ us hl => match us, hl with | [_], _ => rfl⟩
  have F_read_let := fun_mk (st := s_read_let) l_read_let x_read_let k_read_let
  have D_read_let : DefF K mg "read_let" s_read_let ["reader", "left"] := ⟨_, _, F_read_let, PySem.W.mg_of X G a_read_let, F_read_let.binds fun _ _ _ _ _ _ us hl => match us, hl with | [_, _], _ => rfl⟩
  have F_read_case := fun_mk (st := s_read_case) l_read_case x_read_case k_read_case
  have D_read_case : DefF K mg "read_case" s_read_case ["reader", "left"] := ⟨_, _, F_read_case, PySem.W.mg_of X G a_read_case, F_read_case.binds fun _ _ _ _ _ _ us hl => match us, hl with | [_, _], _ => rfl⟩
  have F_read_deep := fun_mk (st := s_read_deep) l_read_deep x_read_deep k_read_deep
  have D_read_deep : DefF K mg "read_deep" s_read_deep ["reader", "left"] := ⟨_, _, F_read_deep, PySem.W.mg_of X G a_read_deep, F_read_deep.binds fun _ _ _ _ _ _ us hl => match us, hl with | [_, _], _ => rfl⟩
  have F_read_part := fun_mk (st := s_read_part) l_read_part x_read_part k_read_part
  have D_read_part : DefF K mg "read_part" s_read_part ["reader", "left"] := ⟨_, _, F_read_part, PySem.W.mg_of X G a_read_part, F_read_part.binds fun _ _ _ _ _ _ us hl => match us, hl with | [_, _], _ => rfl⟩
  have F_read_whole := fun_mk (st := s_read_whole) l_read_whole x_read_whole k_read_whole
  have D_read_whole : DefF K mg "read_whole" s_read_whole ["reader"] := ⟨_, _, F_read_whole, PySem.W.mg_of X G a_read_whole, F_read_whole.binds fun _ _ _ _ _ _ us hl => match us, hl with | [_], _ => rfl⟩
  have F_read_all := fun_mk (st := s_read_all) l_read_all x_read_all k_read_all
  have D_read_all : DefF K mg "read_all" s_read_all ["text", "read"] := ⟨_, _, F_read_all, PySem.W.mg_of X G a_read_all, F_read_all.binds fun _ _ _ _ _ _ us hl => match us, hl with | [_, _], _ => rfl⟩
  have F_pieces := fun_mk (st := s_pieces) l_pieces x_pieces k_pieces
  have D_pieces : DefF K mg "pieces" s_pieces ["term"] := ⟨_, _, F_pieces, PySem.W.mg_of X G a_pieces, F_pieces.binds fun _ _ _ _ _ _ us hl => match us, hl with | [_], _ => rfl⟩
  have F_term_text := fun_mk (st := s_term_text) l_term_text x_term_text k_term_text
  have D_term_text : DefF K mg "term_text" s_term_text ["term"] := ⟨_, _, F_term_text, PySem.W.mg_of X G a_term_text, F_term_text.binds fun _ _ _ _ _ _ us hl => match us, hl with | [_], _ => rfl⟩
  have F_words_of := fun_mk (st := s_words_of) l_words_of x_words_of k_words_of
  have D_words_of : DefF K mg "words_of" s_words_of ["thing"] := ⟨_, _, F_words_of, PySem.W.mg_of X G a_words_of, F_words_of.binds fun _ _ _ _ _ _ us hl => match us, hl with | [_], _ => rfl⟩
  have F_step_line := fun_mk (st := s_step_line) l_step_line x_step_line k_step_line
  have D_step_line : DefF K mg "step_line" s_step_line ["step"] := ⟨_, _, F_step_line, PySem.W.mg_of X G a_step_line, F_step_line.binds fun _ _ _ _ _ _ us hl => match us, hl with | [_], _ => rfl⟩
  have F_pairs_words := fun_mk (st := s_pairs_words) l_pairs_words x_pairs_words k_pairs_words
  have D_pairs_words : DefF K mg "pairs_words" s_pairs_words ["pairs"] := ⟨_, _, F_pairs_words, PySem.W.mg_of X G a_pairs_words, F_pairs_words.binds fun _ _ _ _ _ _ us hl => match us, hl with | [_], _ => rfl⟩
  have F_entry_lines := fun_mk (st := s_entry_lines) l_entry_lines x_entry_lines k_entry_lines
  have D_entry_lines : DefF K mg "entry_lines" s_entry_lines ["entry"] := ⟨_, _, F_entry_lines, PySem.W.mg_of X G a_entry_lines, F_entry_lines.binds fun _ _ _ _ _ _ us hl => match us, hl with | [_], _ => rfl⟩
  have F_library_lines := fun_mk (st := s_library_lines) l_library_lines x_library_lines k_library_lines
  have D_library_lines : DefF K mg "library_lines" s_library_lines ["entries"] := ⟨_, _, F_library_lines, PySem.W.mg_of X G a_library_lines, F_library_lines.binds fun _ _ _ _ _ _ us hl => match us, hl with | [_], _ => rfl⟩
  have F_read_least := fun_mk (st := s_read_least) l_read_least x_read_least k_read_least
  have D_read_least : DefF K mg "read_least" s_read_least ["reader", "least"] := ⟨_, _, F_read_least, PySem.W.mg_of X G a_read_least, F_read_least.binds fun _ _ _ _ _ _ us hl => match us, hl with | [_, _], _ => rfl⟩
  have F_read_number := fun_mk (st := s_read_number) l_read_number x_read_number k_read_number
  have D_read_number : DefF K mg "read_number" s_read_number ["reader"] := ⟨_, _, F_read_number, PySem.W.mg_of X G a_read_number, F_read_number.binds fun _ _ _ _ _ _ us hl => match us, hl with | [_], _ => rfl⟩
  have F_read_numbers := fun_mk (st := s_read_numbers) l_read_numbers x_read_numbers k_read_numbers
  have D_read_numbers : DefF K mg "read_numbers" s_read_numbers ["reader"] := ⟨_, _, F_read_numbers, PySem.W.mg_of X G a_read_numbers, F_read_numbers.binds fun _ _ _ _ _ _ us hl => match us, hl with | [_], _ => rfl⟩
  have F_read_name := fun_mk (st := s_read_name) l_read_name x_read_name k_read_name
  have D_read_name : DefF K mg "read_name" s_read_name ["reader"] := ⟨_, _, F_read_name, PySem.W.mg_of X G a_read_name, F_read_name.binds fun _ _ _ _ _ _ us hl => match us, hl with | [_], _ => rfl⟩
  have F_read_some_names := fun_mk (st := s_read_some_names) l_read_some_names x_read_some_names k_read_some_names
  have D_read_some_names : DefF K mg "read_some_names" s_read_some_names ["reader"] := ⟨_, _, F_read_some_names, PySem.W.mg_of X G a_read_some_names, F_read_some_names.binds fun _ _ _ _ _ _ us hl => match us, hl with | [_], _ => rfl⟩
  have F_read_pairs := fun_mk (st := s_read_pairs) l_read_pairs x_read_pairs k_read_pairs
  have D_read_pairs : DefF K mg "read_pairs" s_read_pairs ["reader"] := ⟨_, _, F_read_pairs, PySem.W.mg_of X G a_read_pairs, F_read_pairs.binds fun _ _ _ _ _ _ us hl => match us, hl with | [_], _ => rfl⟩
  have F_read_things := fun_mk (st := s_read_things) l_read_things x_read_things k_read_things
  have D_read_things : DefF K mg "read_things" s_read_things ["reader", "forms"] := ⟨_, _, F_read_things, PySem.W.mg_of X G a_read_things, F_read_things.binds fun _ _ _ _ _ _ us hl => match us, hl with | [_, _], _ => rfl⟩
  have F_read_whole_step := fun_mk (st := s_read_whole_step) l_read_whole_step x_read_whole_step k_read_whole_step
  have D_read_whole_step : DefF K mg "read_whole_step" s_read_whole_step ["reader"] := ⟨_, _, F_read_whole_step, PySem.W.mg_of X G a_read_whole_step, F_read_whole_step.binds fun _ _ _ _ _ _ us hl => match us, hl with | [_], _ => rfl⟩
  have F_read_head := fun_mk (st := s_read_head) l_read_head x_read_head k_read_head
  have D_read_head : DefF K mg "read_head" s_read_head ["reader"] := ⟨_, _, F_read_head, PySem.W.mg_of X G a_read_head, F_read_head.binds fun _ _ _ _ _ _ us hl => match us, hl with | [_], _ => rfl⟩
  have F_read_entry := fun_mk (st := s_read_entry) l_read_entry x_read_entry k_read_entry
  have D_read_entry : DefF K mg "read_entry" s_read_entry ["source"] := ⟨_, _, F_read_entry, PySem.W.mg_of X G a_read_entry, F_read_entry.binds fun _ _ _ _ _ _ us hl => match us, hl with | [_], _ => rfl⟩
  have F_read_step := fun_mk (st := s_read_step) l_read_step x_read_step k_read_step
  have D_read_step : DefF K mg "read_step" s_read_step ["line"] := ⟨_, _, F_read_step, PySem.W.mg_of X G a_read_step, F_read_step.binds fun _ _ _ _ _ _ us hl => match us, hl with | [_], _ => rfl⟩
  have F_read_library := fun_mk (st := s_read_library) l_read_library x_read_library k_read_library
  have D_read_library : DefF K mg "read_library" s_read_library ["lines"] := ⟨_, _, F_read_library, PySem.W.mg_of X G a_read_library, F_read_library.binds fun _ _ _ _ _ _ us hl => match us, hl with | [_], _ => rfl⟩
  have F__law_pool := fun_mk (st := s__law_pool) l__law_pool x__law_pool k__law_pool
  have D__law_pool : DefF K mg "_law_pool" s__law_pool ["script", "budget"] := ⟨_, _, F__law_pool, PySem.W.mg_of X G a__law_pool, F__law_pool.binds fun _ _ _ _ _ _ us hl => match us, hl with | [_, _], _ => rfl⟩
  have F__law_draw := fun_mk (st := s__law_draw) l__law_draw x__law_draw k__law_draw
  have D__law_draw : DefF K mg "_law_draw" s__law_draw ["pool", "size"] := ⟨_, _, F__law_draw, PySem.W.mg_of X G a__law_draw, F__law_draw.binds fun _ _ _ _ _ _ us hl => match us, hl with | [_, _], _ => rfl⟩
  have F__law_spend := fun_mk (st := s__law_spend) l__law_spend x__law_spend k__law_spend
  have D__law_spend : DefF K mg "_law_spend" s__law_spend ["pool"] := ⟨_, _, F__law_spend, PySem.W.mg_of X G a__law_spend, F__law_spend.binds fun _ _ _ _ _ _ us hl => match us, hl with | [_], _ => rfl⟩
  have F__law_number := fun_mk (st := s__law_number) l__law_number x__law_number k__law_number
  have D__law_number : DefF K mg "_law_number" s__law_number ["pool"] := ⟨_, _, F__law_number, PySem.W.mg_of X G a__law_number, F__law_number.binds fun _ _ _ _ _ _ us hl => match us, hl with | [_], _ => rfl⟩
  have F__law_same := fun_mk (st := s__law_same) l__law_same x__law_same k__law_same
  have D__law_same : DefF K mg "_law_same" s__law_same ["actual", "due"] := ⟨_, _, F__law_same, PySem.W.mg_of X G a__law_same, F__law_same.binds fun _ _ _ _ _ _ us hl => match us, hl with | [_, _], _ => rfl⟩
  have F__law_few := fun_mk (st := s__law_few) l__law_few x__law_few k__law_few
  have D__law_few : DefF K mg "_law_few" s__law_few ["pool", "most"] := ⟨_, _, F__law_few, PySem.W.mg_of X G a__law_few, F__law_few.binds fun _ _ _ _ _ _ us hl => match us, hl with | [_, _], _ => rfl⟩
  have F__law_name := fun_mk (st := s__law_name) l__law_name x__law_name k__law_name
  have D__law_name : DefF K mg "_law_name" s__law_name ["pool"] := ⟨_, _, F__law_name, PySem.W.mg_of X G a__law_name, F__law_name.binds fun _ _ _ _ _ _ us hl => match us, hl with | [_], _ => rfl⟩
  have F__law_unlike := fun_mk (st := s__law_unlike) l__law_unlike x__law_unlike k__law_unlike
  have D__law_unlike : DefF K mg "_law_unlike" s__law_unlike ["pool", "count"] := ⟨_, _, F__law_unlike, PySem.W.mg_of X G a__law_unlike, F__law_unlike.binds fun _ _ _ _ _ _ us hl => match us, hl with | [_, _], _ => rfl⟩
  have F__law_made := fun_mk (st := s__law_made) l__law_made x__law_made k__law_made
  have D__law_made : DefF K mg "_law_made" s__law_made ["pool"] := ⟨_, _, F__law_made, PySem.W.mg_of X G a__law_made, F__law_made.binds fun _ _ _ _ _ _ us hl => match us, hl with | [_], _ => rfl⟩
  have F__law_any := fun_mk (st := s__law_any) l__law_any x__law_any k__law_any
  have D__law_any : DefF K mg "_law_any" s__law_any ["pool", "deep"] := ⟨_, _, F__law_any, PySem.W.mg_of X G a__law_any, F__law_any.binds fun _ _ _ _ _ _ us hl => match us, hl with | [_, _], _ => rfl⟩
  have F__law_words := fun_mk (st := s__law_words) l__law_words x__law_words k__law_words
  have D__law_words : DefF K mg "_law_words" s__law_words ["term"] := ⟨_, _, F__law_words, PySem.W.mg_of X G a__law_words, F__law_words.binds fun _ _ _ _ _ _ us hl => match us, hl with | [_], _ => rfl⟩
  have F__law_path := fun_mk (st := s__law_path) l__law_path x__law_path k__law_path
  have D__law_path : DefF K mg "_law_path" s__law_path ["pool"] := ⟨_, _, F__law_path, PySem.W.mg_of X G a__law_path, F__law_path.binds fun _ _ _ _ _ _ us hl => match us, hl with | [_], _ => rfl⟩
  have F__law_told := fun_mk (st := s__law_told) l__law_told x__law_told k__law_told
  have D__law_told : DefF K mg "_law_told" s__law_told ["pool", "rule"] := ⟨_, _, F__law_told, PySem.W.mg_of X G a__law_told, F__law_told.binds fun _ _ _ _ _ _ us hl => match us, hl with | [_, _], _ => rfl⟩
  have F__law_step := fun_mk (st := s__law_step) l__law_step x__law_step k__law_step
  have D__law_step : DefF K mg "_law_step" s__law_step ["pool"] := ⟨_, _, F__law_step, PySem.W.mg_of X G a__law_step, F__law_step.binds fun _ _ _ _ _ _ us hl => match us, hl with | [_], _ => rfl⟩
  have F__law_path_words := fun_mk (st := s__law_path_words) l__law_path_words x__law_path_words k__law_path_words
  have D__law_path_words : DefF K mg "_law_path_words" s__law_path_words ["path"] := ⟨_, _, F__law_path_words, PySem.W.mg_of X G a__law_path_words, F__law_path_words.binds fun _ _ _ _ _ _ us hl => match us, hl with | [_], _ => rfl⟩
  have F__law_told_words := fun_mk (st := s__law_told_words) l__law_told_words x__law_told_words k__law_told_words
  have D__law_told_words : DefF K mg "_law_told_words" s__law_told_words ["rule", "given"] := ⟨_, _, F__law_told_words, PySem.W.mg_of X G a__law_told_words, F__law_told_words.binds fun _ _ _ _ _ _ us hl => match us, hl with | [_, _], _ => rfl⟩
  have F__law_step_words := fun_mk (st := s__law_step_words) l__law_step_words x__law_step_words k__law_step_words
  have D__law_step_words : DefF K mg "_law_step_words" s__law_step_words ["step"] := ⟨_, _, F__law_step_words, PySem.W.mg_of X G a__law_step_words, F__law_step_words.binds fun _ _ _ _ _ _ us hl => match us, hl with | [_], _ => rfl⟩
  have F__law_entry := fun_mk (st := s__law_entry) l__law_entry x__law_entry k__law_entry
  have D__law_entry : DefF K mg "_law_entry" s__law_entry ["pool"] := ⟨_, _, F__law_entry, PySem.W.mg_of X G a__law_entry, F__law_entry.binds fun _ _ _ _ _ _ us hl => match us, hl with | [_], _ => rfl⟩
  have F__law_entry_lines := fun_mk (st := s__law_entry_lines) l__law_entry_lines x__law_entry_lines k__law_entry_lines
  have D__law_entry_lines : DefF K mg "_law_entry_lines" s__law_entry_lines ["entry"] := ⟨_, _, F__law_entry_lines, PySem.W.mg_of X G a__law_entry_lines, F__law_entry_lines.binds fun _ _ _ _ _ _ us hl => match us, hl with | [_], _ => rfl⟩
  have F_law := fun_mk (st := s_law) l_law x_law k_law
  have D_law : DefF K mg "law" s_law ["script"] := ⟨_, _, F_law, PySem.W.mg_of X G a_law, F_law.binds fun _ _ _ _ _ _ us hl => match us, hl with | [_], _ => rfl⟩
  have E_Reader : C_Reader mg = cC_Reader := by
    unfold C_Reader
    rw [PySem.W.mg_of X G a_Reader]
  have F_Reader___init__ := fun_mk (st := s_Reader___init__) l_Reader___init__ x_Reader___init__ k_Reader___init__
  have b_Reader___init__ := F_Reader___init__.binds (ps := ["self", "words"]) fun _ _ _ _ _ _ us hl => match us, hl with | [_, _], _ => rfl
  have F_Reader_ahead := fun_mk (st := s_Reader_ahead) l_Reader_ahead x_Reader_ahead k_Reader_ahead
  have b_Reader_ahead := F_Reader_ahead.binds (ps := ["self"]) fun _ _ _ _ _ _ us hl => match us, hl with | [_], _ => rfl
  have F_Reader_take := fun_mk (st := s_Reader_take) l_Reader_take x_Reader_take k_Reader_take
  have b_Reader_take := F_Reader_take.binds (ps := ["self", "fits"]) fun _ _ _ _ _ _ us hl => match us, hl with | [_, _], _ => rfl
  have F_Reader_take_word := fun_mk (st := s_Reader_take_word) l_Reader_take_word x_Reader_take_word k_Reader_take_word
  have b_Reader_take_word := F_Reader_take_word.binds (ps := ["self", "wanted"]) fun _ _ _ _ _ _ us hl => match us, hl with | [_, _], _ => rfl
  have F_Reader_take_name := fun_mk (st := s_Reader_take_name) l_Reader_take_name x_Reader_take_name k_Reader_take_name
  have b_Reader_take_name := F_Reader_take_name.binds (ps := ["self", "others"]) fun _ _ _ _ _ _ us hl => match us, hl with | [_, _], _ => rfl
  have F_Reader_take_constructor := fun_mk (st := s_Reader_take_constructor) l_Reader_take_constructor x_Reader_take_constructor k_Reader_take_constructor
  have b_Reader_take_constructor := F_Reader_take_constructor.binds (ps := ["self", "others"]) fun _ _ _ _ _ _ us hl => match us, hl with | [_, _], _ => rfl
  have E_Source : C_Source mg = cC_Source := by
    unfold C_Source
    rw [PySem.W.mg_of X G a_Source]
  have F_Source___init__ := fun_mk (st := s_Source___init__) l_Source___init__ x_Source___init__ k_Source___init__
  have b_Source___init__ := F_Source___init__.binds (ps := ["self", "lines"]) fun _ _ _ _ _ _ us hl => match us, hl with | [_, _], _ => rfl
  have F_Source_take := fun_mk (st := s_Source_take) l_Source_take x_Source_take k_Source_take
  have b_Source_take := F_Source_take.binds (ps := ["self", "read"]) fun _ _ _ _ _ _ us hl => match us, hl with | [_, _], _ => rfl
  have F : Facts K mg w := ⟨D_kind_of, D_is_name, D_is_constructor, D_is_numeral, D_is_number, D_read_names, D_read_make, D_read_let, D_read_case, D_read_deep, D_read_part, D_read_whole, D_read_all, D_pieces, D_term_text, D_words_of, D_step_line, D_pairs_words, D_entry_lines, D_library_lines, D_read_least, D_read_number, D_read_numbers, D_read_name, D_read_some_names, D_read_pairs, D_read_things, D_read_whole_step, D_read_head, D_read_entry, D_read_step, D_read_library, D__law_pool, D__law_draw, D__law_spend, D__law_number, D__law_same, D__law_few, D__law_name, D__law_unlike, D__law_made, D__law_any, D__law_words, D__law_path, D__law_told, D__law_step, D__law_path_words, D__law_told_words, D__law_step_words, D__law_entry, D__law_entry_lines, D_law, by rw [E_Reader]; exact PySem.W.mg_of X G a_Reader, by rw [E_Reader]; exact ⟨p1_Reader, p2_Reader, p3_Reader, p4_Reader⟩, by rw [E_Reader]; exact ⟨_, _, ⟨p5_Reader, a_Reader___init__, i_Reader___init__, p6_Reader⟩, F_Reader___init__, PySem.W.mg_of X G a_Reader, b_Reader___init__⟩, by rw [E_Reader]; exact nf_Reader_at, by rw [E_Reader]; exact nf_Reader_words, by rw [E_Reader]; exact ⟨_, _, ⟨p1_Reader, p2_Reader, p3_Reader, p4_Reader⟩, ⟨a_Reader_ahead, i_Reader_ahead, k_Reader_ahead⟩, F_Reader_ahead, b_Reader_ahead⟩, by rw [E_Reader]; exact ⟨_, _, ⟨p1_Reader, p2_Reader, p3_Reader, p4_Reader⟩, ⟨a_Reader_take, i_Reader_take, k_Reader_take⟩, F_Reader_take, b_Reader_take⟩, by rw [E_Reader]; exact ⟨_, _, ⟨p1_Reader, p2_Reader, p3_Reader, p4_Reader⟩, ⟨a_Reader_take_word, i_Reader_take_word, k_Reader_take_word⟩, F_Reader_take_word, b_Reader_take_word⟩, by rw [E_Reader]; exact ⟨_, _, ⟨p1_Reader, p2_Reader, p3_Reader, p4_Reader⟩, ⟨a_Reader_take_name, i_Reader_take_name, k_Reader_take_name⟩, F_Reader_take_name, b_Reader_take_name⟩, by rw [E_Reader]; exact ⟨_, _, ⟨p1_Reader, p2_Reader, p3_Reader, p4_Reader⟩, ⟨a_Reader_take_constructor, i_Reader_take_constructor, k_Reader_take_constructor⟩, F_Reader_take_constructor, b_Reader_take_constructor⟩, by rw [E_Source]; exact PySem.W.mg_of X G a_Source, by rw [E_Source]; exact ⟨p1_Source, p2_Source, p3_Source, p4_Source⟩, by rw [E_Source]; exact ⟨_, _, ⟨p5_Source, a_Source___init__, i_Source___init__, p6_Source⟩, F_Source___init__, PySem.W.mg_of X G a_Source, b_Source___init__⟩, by rw [E_Source]; exact nf_Source_at, by rw [E_Source]; exact nf_Source_lines, by rw [E_Source]; exact ⟨_, _, ⟨p1_Source, p2_Source, p3_Source, p4_Source⟩, ⟨a_Source_take, i_Source_take, k_Source_take⟩, F_Source_take, b_Source_take⟩, PySem.W.mg_none_of X G z_bool, PySem.W.mg_none_of X G z_int, PySem.W.mg_none_of X G z_isinstance, PySem.W.mg_none_of X G z_len, PySem.W.mg_none_of X G z_list, PySem.W.mg_none_of X G z_min, PySem.W.mg_none_of X G z_range, PySem.W.mg_none_of X G z_str, PySem.W.mg_none_of X G z_tuple, ⟨_, PySem.W.mg_of X G a_NUMBERS, ⟨_, rfl⟩⟩, ⟨_, PySem.W.mg_of X G a_MOST_PAIRS, ⟨_, rfl⟩⟩, ⟨_, PySem.W.mg_of X G a_LONGEST_NAME, ⟨_, rfl⟩⟩, ⟨_, PySem.W.mg_of X G a_LONGEST_NUMBER_text, ⟨_, rfl⟩⟩, ⟨_, PySem.W.mg_of X G a_LARGEST_NUMBER, ⟨_, rfl⟩⟩, ⟨_, PySem.W.mg_of X G a_MOST_AT_ONCE, ⟨_, rfl⟩⟩, ⟨_, PySem.W.mg_of X G a_DEEPEST, ⟨_, rfl⟩⟩, ⟨_, PySem.W.mg_of X G a_LONGEST_NUMBER_lines, ⟨_, rfl⟩⟩, ⟨kc_VALUES, PySem.W.mg_of X G a_VALUES, _, _, _, l_VALUES, rfl, rfl, z_VALUES, v_VALUES⟩, ⟨kc_OPERATORS, PySem.W.mg_of X G a_OPERATORS, _, _, _, l_OPERATORS, rfl, rfl, z_OPERATORS, v_OPERATORS⟩, ⟨kc_BRANCHES, PySem.W.mg_of X G a_BRANCHES, _, _, _, l_BRANCHES, rfl, rfl, z_BRANCHES, v_BRANCHES⟩, ⟨kc_COSTS, PySem.W.mg_of X G a_COSTS, _, _, _, l_COSTS, rfl, rfl, z_COSTS, v_COSTS⟩, ⟨kc_HOLE, PySem.W.mg_of X G a_HOLE, _, _, _, l_HOLE, rfl, rfl, z_HOLE, v_HOLE⟩, ⟨kc_KEY_WORDS, PySem.W.mg_of X G a_KEY_WORDS, _, _, _, l_KEY_WORDS, rfl, rfl, z_KEY_WORDS, v_KEY_WORDS⟩, ⟨kc_RULE_STEPS, PySem.W.mg_of X G a_RULE_STEPS, _, _, _, l_RULE_STEPS, rfl, rfl, z_RULE_STEPS, v_RULE_STEPS⟩, ⟨kc_CLAIM_STEPS, PySem.W.mg_of X G a_CLAIM_STEPS, _, _, _, l_CLAIM_STEPS, rfl, rfl, z_CLAIM_STEPS, v_CLAIM_STEPS⟩, ⟨kc_PLAIN_FORMS, es_PLAIN_FORMS, n_PLAIN_FORMS, PySem.W.mg_of X G a_PLAIN_FORMS, ⟨l_PLAIN_FORMS, y_PLAIN_FORMS, q_PLAIN_FORMS⟩, ⟨_, e_PLAIN_FORMS_0, ⟨_, rfl⟩⟩, ⟨_, e_PLAIN_FORMS_1, ⟨_, rfl⟩⟩, ⟨_, e_PLAIN_FORMS_2, ⟨_, rfl⟩⟩, ⟨_, e_PLAIN_FORMS_3, ⟨_, rfl⟩⟩, ⟨_, e_PLAIN_FORMS_4, ⟨_, rfl⟩⟩, ⟨_, e_PLAIN_FORMS_5, ⟨_, rfl⟩⟩, ⟨_, e_PLAIN_FORMS_6, ⟨_, rfl⟩⟩, ⟨_, e_PLAIN_FORMS_7, ⟨_, rfl⟩⟩, ⟨_, e_PLAIN_FORMS_8, ⟨_, rfl⟩⟩⟩, ⟨kc_SAME_RULES, es_SAME_RULES, n_SAME_RULES, PySem.W.mg_of X G a_SAME_RULES, ⟨l_SAME_RULES, y_SAME_RULES, q_SAME_RULES⟩, ⟨_, e_SAME_RULES_0⟩, ⟨_, e_SAME_RULES_1⟩, ⟨_, e_SAME_RULES_2⟩, ⟨_, e_SAME_RULES_3⟩, ⟨_, e_SAME_RULES_4⟩, ⟨_, e_SAME_RULES_5⟩, ⟨_, e_SAME_RULES_6⟩, ⟨_, e_SAME_RULES_7⟩, ⟨_, e_SAME_RULES_8⟩, ⟨_, e_SAME_RULES_9⟩, ⟨_, e_SAME_RULES_10⟩, ⟨_, e_SAME_RULES_11⟩, ⟨_, e_SAME_RULES_12⟩, Nz.ns_miss l_SAME_RULES r_SAME_RULES⟩, ⟨kc_BETTER_RULES, es_BETTER_RULES, n_BETTER_RULES, PySem.W.mg_of X G a_BETTER_RULES, ⟨l_BETTER_RULES, y_BETTER_RULES, q_BETTER_RULES⟩, ⟨_, e_BETTER_RULES_0⟩, ⟨_, e_BETTER_RULES_1⟩, ⟨_, e_BETTER_RULES_2⟩, ⟨_, e_BETTER_RULES_3⟩, ⟨_, e_BETTER_RULES_4⟩, ⟨_, e_BETTER_RULES_5⟩, Nz.ns_miss l_BETTER_RULES r_BETTER_RULES⟩, ⟨kc_TOLD, es_TOLD, n_TOLD, PySem.W.mg_of X G a_TOLD, ⟨l_TOLD, y_TOLD, q_TOLD⟩, ⟨_, e_TOLD_0, _, _, _, l_TOLD_0, rfl, rfl, z_TOLD_0, v_TOLD_0⟩, ⟨_, e_TOLD_1, _, _, _, l_TOLD_1, rfl, rfl, z_TOLD_1, v_TOLD_1⟩, ⟨_, e_TOLD_2, _, _, _, l_TOLD_2, rfl, rfl, z_TOLD_2, v_TOLD_2⟩, ⟨_, e_TOLD_3, _, _, _, l_TOLD_3, rfl, rfl, z_TOLD_3, v_TOLD_3⟩, ⟨_, e_TOLD_4, _, _, _, l_TOLD_4, rfl, rfl, z_TOLD_4, v_TOLD_4⟩, ⟨_, e_TOLD_5, _, _, _, l_TOLD_5, rfl, rfl, z_TOLD_5, v_TOLD_5⟩, Nz.ns_miss l_TOLD r_TOLD⟩, ⟨kc_HEADS, es_HEADS, n_HEADS, PySem.W.mg_of X G a_HEADS, ⟨l_HEADS, y_HEADS, q_HEADS⟩, ⟨_, e_HEADS_0, _, _, _, l_HEADS_0, rfl, rfl, z_HEADS_0, v_HEADS_0⟩, ⟨_, e_HEADS_1, _, _, _, l_HEADS_1, rfl, rfl, z_HEADS_1, v_HEADS_1⟩, ⟨_, e_HEADS_2, _, _, _, l_HEADS_2, rfl, rfl, z_HEADS_2, v_HEADS_2⟩, ⟨_, e_HEADS_3, _, _, _, l_HEADS_3, rfl, rfl, z_HEADS_3, v_HEADS_3⟩, Nz.ns_miss l_HEADS r_HEADS⟩, ⟨kc_READINGS, es_READINGS, n_READINGS, PySem.W.mg_of X G a_READINGS, ⟨l_READINGS, y_READINGS, q_READINGS⟩, ⟨_, e_READINGS_0, PySem.W.mg_of X G a_read_number⟩, ⟨_, e_READINGS_1, PySem.W.mg_of X G a_read_numbers⟩, ⟨_, e_READINGS_2, PySem.W.mg_of X G a_read_name⟩, ⟨_, e_READINGS_3, PySem.W.mg_of X G a_read_some_names⟩, ⟨_, e_READINGS_4, PySem.W.mg_of X G a_read_pairs⟩, Nz.ns_miss l_READINGS r_READINGS⟩, fun f h1 h2 => w_read_number_read_numbers (Value.ref.inj (Option.some.inj ((PySem.W.mg_of X G a_read_number).symm.trans (h1.trans (h2.symm.trans (PySem.W.mg_of X G a_read_numbers)))))), fun f h1 h2 => w_read_number_read_name (Value.ref.inj (Option.some.inj ((PySem.W.mg_of X G a_read_number).symm.trans (h1.trans (h2.symm.trans (PySem.W.mg_of X G a_read_name)))))), fun f h1 h2 => w_read_number_read_some_names (Value.ref.inj (Option.some.inj ((PySem.W.mg_of X G a_read_number).symm.trans (h1.trans (h2.symm.trans (PySem.W.mg_of X G a_read_some_names)))))), fun f h1 h2 => w_read_number_read_pairs (Value.ref.inj (Option.some.inj ((PySem.W.mg_of X G a_read_number).symm.trans (h1.trans (h2.symm.trans (PySem.W.mg_of X G a_read_pairs)))))), fun f h1 h2 => w_read_numbers_read_name (Value.ref.inj (Option.some.inj ((PySem.W.mg_of X G a_read_numbers).symm.trans (h1.trans (h2.symm.trans (PySem.W.mg_of X G a_read_name)))))), fun f h1 h2 => w_read_numbers_read_some_names (Value.ref.inj (Option.some.inj ((PySem.W.mg_of X G a_read_numbers).symm.trans (h1.trans (h2.symm.trans (PySem.W.mg_of X G a_read_some_names)))))), fun f h1 h2 => w_read_numbers_read_pairs (Value.ref.inj (Option.some.inj ((PySem.W.mg_of X G a_read_numbers).symm.trans (h1.trans (h2.symm.trans (PySem.W.mg_of X G a_read_pairs)))))), fun f h1 h2 => w_read_name_read_some_names (Value.ref.inj (Option.some.inj ((PySem.W.mg_of X G a_read_name).symm.trans (h1.trans (h2.symm.trans (PySem.W.mg_of X G a_read_some_names)))))), fun f h1 h2 => w_read_name_read_pairs (Value.ref.inj (Option.some.inj ((PySem.W.mg_of X G a_read_name).symm.trans (h1.trans (h2.symm.trans (PySem.W.mg_of X G a_read_pairs)))))), fun f h1 h2 => w_read_some_names_read_pairs (Value.ref.inj (Option.some.inj ((PySem.W.mg_of X G a_read_some_names).symm.trans (h1.trans (h2.symm.trans (PySem.W.mg_of X G a_read_pairs)))))), ⟨_, PySem.W.mg_of X G a_BadText⟩⟩
  exact ⟨_, fun s v => .of_eq rfl, fun base _ _ => ok_law F F_law⟩
theorem walk {l : PySem.W.OpenLaw} {q : Program} {loose : List Str} {XP : (Str → Option Value) → Heap → Prop} {YP : World → Heap → Prop} {d : DefRec} {K : Params → PySem.W.Frag} (hn : l.most = some 63) (hdf : d.params.defaults = [])
    (hY : ∀ (w : World) (h : Heap), YP w h → (K w.params).In h)
    (F : ∀ (w : World) (mg : Str → Option Value) (fa : Addr) (h : Heap), (K w.params).In h → h.Ns mainGlobals mg → mg d.name = some (.ref fa) →
      ∃ fd : FuncData, (∀ (s : Shared) (u : Value), BindsTo s fd ⟨[u], []⟩ [("script", u)]) ∧ ∀ base : Heap, (K w.params).In base → base.Ns mainGlobals mg → FnOk l.prog w (K w.params) mg base CX0 lawLevel fa fd ["script"] (spLaw (K w.params))) :
    PySem.W.WalkO q loose XP YP l.row.toRowW d [] (fun f vs => PySem.call f vs) :=
  L2.walk_of (n := 63) (k := lawLevel) (x := "script") (CX := fun _ => CX0) (sp := fun w => spLaw (K w.params)) hn (by decide) hdf ⟨rfl, by decide, by decide⟩ hY F (fun _ _ a ns hl _ hS => ⟨a, ns, rfl, hS, hl, fun _ => rfl⟩) fun _ _ _ _ _ z => z
end Nz
open PySem PySem.W PyProof.Rows
set_option maxRecDepth 100000 in
set_option maxHeartbeats 0 in
theorem PySem.Challenge.cw_notslower_k70_lines_of_steps_and_librari_holds : PySem.Challenge.rw_notslower_k70_lines_of_steps_and_librari.Holds := by
  w_on; o_law; k_head; (case hw => w_witness2)
  k_fill
  refine Nz.walk (l := PySem.Challenge.rw_notslower_k70_lines_of_steps_and_librari) rfl rfl (fun w h Y => PySem.W.kIn_of Y) ?F
  case F =>
    intro w mg fa h KX G hmg
    refine' Nz.all_mk KX G hmg ?a_kind_of ?l_kind_of ?x_kind_of ?k_kind_of ?a_is_name ?l_is_name ?x_is_name ?k_is_name ?a_is_constructor ?l_is_constructor ?x_is_constructor ?k_is_constructor ?a_is_numeral ?l_is_numeral ?x_is_numeral ?k_is_numeral ?a_is_number ?l_is_number ?x_is_number ?k_is_number ?a_read_names ?l_read_names ?x_read_names ?k_read_names ?a_read_make ?l_read_make ?x_read_make ?k_read_make ?a_read_let ?l_read_let ?x_read_let ?k_read_let ?a_read_case ?l_read_case ?x_read_case ?k_read_case ?a_read_deep ?l_read_deep ?x_read_deep ?k_read_deep ?a_read_part ?l_read_part ?x_read_part ?k_read_part ?a_read_whole ?l_read_whole ?x_read_whole ?k_read_whole ?a_read_all ?l_read_all ?x_read_all ?k_read_all ?a_pieces ?l_pieces ?x_pieces ?k_pieces ?a_term_text ?l_term_text ?x_term_text ?k_term_text ?a_words_of ?l_words_of ?x_words_of ?k_words_of ?a_step_line ?l_step_line ?x_step_line ?k_step_line ?a_pairs_words ?l_pairs_words ?x_pairs_words ?k_pairs_words ?a_entry_lines ?l_entry_lines ?x_entry_lines ?k_entry_lines ?a_library_lines ?l_library_lines ?x_library_lines ?k_library_lines ?a_read_least ?l_read_least ?x_read_least ?k_read_least ?a_read_number ?l_read_number ?x_read_number ?k_read_number ?a_read_numbers ?l_read_numbers ?x_read_numbers ?k_read_numbers ?a_read_name ?l_read_name ?x_read_name ?k_read_name ?a_read_some_names ?l_read_some_names ?x_read_some_names ?k_read_some_names ?a_read_pairs ?l_read_pairs ?x_read_pairs ?k_read_pairs ?a_read_things ?l_read_things ?x_read_things ?k_read_things ?a_read_whole_step ?l_read_whole_step ?x_read_whole_step ?k_read_whole_step ?a_read_head ?l_read_head ?x_read_head ?k_read_head ?a_read_entry ?l_read_entry ?x_read_entry ?k_read_entry ?a_read_step ?l_read_step ?x_read_step ?k_read_step ?a_read_library ?l_read_library ?x_read_library ?k_read_library ?a__law_pool ?l__law_pool ?x__law_pool ?k__law_pool ?a__law_draw ?l__law_draw ?x__law_draw ?k__law_draw ?a__law_spend ?l__law_spend ?x__law_spend ?k__law_spend ?a__law_number ?l__law_number ?x__law_number ?k__law_number ?a__law_same ?l__law_same ?x__law_same ?k__law_same ?a__law_few ?l__law_few ?x__law_few ?k__law_few ?a__law_name ?l__law_name ?x__law_name ?k__law_name ?a__law_unlike ?l__law_unlike ?x__law_unlike ?k__law_unlike ?a__law_made ?l__law_made ?x__law_made ?k__law_made ?a__law_any ?l__law_any ?x__law_any ?k__law_any ?a__law_words ?l__law_words ?x__law_words ?k__law_words ?a__law_path ?l__law_path ?x__law_path ?k__law_path ?a__law_told ?l__law_told ?x__law_told ?k__law_told ?a__law_step ?l__law_step ?x__law_step ?k__law_step ?a__law_path_words ?l__law_path_words ?x__law_path_words ?k__law_path_words ?a__law_told_words ?l__law_told_words ?x__law_told_words ?k__law_told_words ?a__law_step_words ?l__law_step_words ?x__law_step_words ?k__law_step_words ?a__law_entry ?l__law_entry ?x__law_entry ?k__law_entry ?a__law_entry_lines ?l__law_entry_lines ?x__law_entry_lines ?k__law_entry_lines ?a_law ?l_law ?x_law ?k_law ?a_VALUES ?l_VALUES ?v_VALUES ?z_VALUES ?a_OPERATORS ?l_OPERATORS ?v_OPERATORS ?z_OPERATORS ?a_BRANCHES ?l_BRANCHES ?v_BRANCHES ?z_BRANCHES ?a_COSTS ?l_COSTS ?v_COSTS ?z_COSTS ?a_HOLE ?l_HOLE ?v_HOLE ?z_HOLE ?a_KEY_WORDS ?l_KEY_WORDS ?v_KEY_WORDS ?z_KEY_WORDS ?a_RULE_STEPS ?l_RULE_STEPS ?v_RULE_STEPS ?z_RULE_STEPS ?a_CLAIM_STEPS ?l_CLAIM_STEPS ?v_CLAIM_STEPS ?z_CLAIM_STEPS ?a_PLAIN_FORMS ?l_PLAIN_FORMS ?y_PLAIN_FORMS ?q_PLAIN_FORMS ?e_PLAIN_FORMS_0 ?e_PLAIN_FORMS_1 ?e_PLAIN_FORMS_2 ?e_PLAIN_FORMS_3 ?e_PLAIN_FORMS_4 ?e_PLAIN_FORMS_5 ?e_PLAIN_FORMS_6 ?e_PLAIN_FORMS_7 ?e_PLAIN_FORMS_8 ?a_SAME_RULES ?l_SAME_RULES ?y_SAME_RULES ?q_SAME_RULES ?r_SAME_RULES ?e_SAME_RULES_0 ?e_SAME_RULES_1 ?e_SAME_RULES_2 ?e_SAME_RULES_3 ?e_SAME_RULES_4 ?e_SAME_RULES_5 ?e_SAME_RULES_6 ?e_SAME_RULES_7 ?e_SAME_RULES_8 ?e_SAME_RULES_9 ?e_SAME_RULES_10 ?e_SAME_RULES_11 ?e_SAME_RULES_12 ?a_BETTER_RULES ?l_BETTER_RULES ?y_BETTER_RULES ?q_BETTER_RULES ?r_BETTER_RULES ?e_BETTER_RULES_0 ?e_BETTER_RULES_1 ?e_BETTER_RULES_2 ?e_BETTER_RULES_3 ?e_BETTER_RULES_4 ?e_BETTER_RULES_5 ?a_TOLD ?l_TOLD ?y_TOLD ?q_TOLD ?r_TOLD ?e_TOLD_0 ?l_TOLD_0 ?v_TOLD_0 ?z_TOLD_0 ?e_TOLD_1 ?l_TOLD_1 ?v_TOLD_1 ?z_TOLD_1 ?e_TOLD_2 ?l_TOLD_2 ?v_TOLD_2 ?z_TOLD_2 ?e_TOLD_3 ?l_TOLD_3 ?v_TOLD_3 ?z_TOLD_3 ?e_TOLD_4 ?l_TOLD_4 ?v_TOLD_4 ?z_TOLD_4 ?e_TOLD_5 ?l_TOLD_5 ?v_TOLD_5 ?z_TOLD_5 ?a_HEADS ?l_HEADS ?y_HEADS ?q_HEADS ?r_HEADS ?e_HEADS_0 ?l_HEADS_0 ?v_HEADS_0 ?z_HEADS_0 ?e_HEADS_1 ?l_HEADS_1 ?v_HEADS_1 ?z_HEADS_1 ?e_HEADS_2 ?l_HEADS_2 ?v_HEADS_2 ?z_HEADS_2 ?e_HEADS_3 ?l_HEADS_3 ?v_HEADS_3 ?z_HEADS_3 ?a_READINGS ?l_READINGS ?y_READINGS ?q_READINGS ?r_READINGS ?e_READINGS_0 ?e_READINGS_1 ?e_READINGS_2 ?e_READINGS_3 ?e_READINGS_4 ?a_Reader ?p1_Reader ?p2_Reader ?p3_Reader ?p4_Reader ?p5_Reader ?p6_Reader ?nf_Reader_at ?nf_Reader_words ?a_Reader___init__ ?i_Reader___init__ ?l_Reader___init__ ?x_Reader___init__ ?k_Reader___init__ ?a_Reader_ahead ?i_Reader_ahead ?l_Reader_ahead ?x_Reader_ahead ?k_Reader_ahead ?a_Reader_take ?i_Reader_take ?l_Reader_take ?x_Reader_take ?k_Reader_take ?a_Reader_take_word ?i_Reader_take_word ?l_Reader_take_word ?x_Reader_take_word ?k_Reader_take_word ?a_Reader_take_name ?i_Reader_take_name ?l_Reader_take_name ?x_Reader_take_name ?k_Reader_take_name ?a_Reader_take_constructor ?i_Reader_take_constructor ?l_Reader_take_constructor ?x_Reader_take_constructor ?k_Reader_take_constructor ?a_Source ?p1_Source ?p2_Source ?p3_Source ?p4_Source ?p5_Source ?p6_Source ?nf_Source_at ?nf_Source_lines ?a_Source___init__ ?i_Source___init__ ?l_Source___init__ ?x_Source___init__ ?k_Source___init__ ?a_Source_take ?i_Source_take ?l_Source_take ?x_Source_take ?k_Source_take ?w_read_number_read_numbers ?w_read_number_read_name ?w_read_number_read_some_names ?w_read_number_read_pairs ?w_read_numbers_read_name ?w_read_numbers_read_some_names ?w_read_numbers_read_pairs ?w_read_name_read_some_names ?w_read_name_read_pairs ?w_read_some_names_read_pairs ?a_BadText ?a_NUMBERS ?a_MOST_PAIRS ?a_LONGEST_NAME ?a_LONGEST_NUMBER_text ?a_LARGEST_NUMBER ?a_MOST_AT_ONCE ?a_DEEPEST ?a_LONGEST_NUMBER_lines ?z_bool ?z_int ?z_isinstance ?z_len ?z_list ?z_min ?z_range ?z_str ?z_tuple
    (case a_kind_of => k_is); (case l_kind_of => k_is); (case x_kind_of => k_is); (case k_kind_of => k_is)
    (case a_is_name => k_is); (case l_is_name => k_is); (case x_is_name => k_is); (case k_is_name => k_is)
    (case a_is_constructor => k_is); (case l_is_constructor => k_is); (case x_is_constructor => k_is); (case k_is_constructor => k_is)
    (case a_is_numeral => k_is); (case l_is_numeral => k_is); (case x_is_numeral => k_is); (case k_is_numeral => k_is)
    (case a_is_number => k_is); (case l_is_number => k_is); (case x_is_number => k_is); (case k_is_number => k_is)
    (case a_read_names => k_is); (case l_read_names => k_is); (case x_read_names => k_is); (case k_read_names => k_is)
    (case a_read_make => k_is); (case l_read_make => k_is); (case x_read_make => k_is); (case k_read_make => k_is)
    (case a_read_let => k_is); (case l_read_let => k_is); (case x_read_let => k_is); (case k_read_let => k_is)
    (case a_read_case => k_is); (case l_read_case => k_is); (case x_read_case => k_is); (case k_read_case => k_is)
    (case a_read_deep => k_is); (case l_read_deep => k_is); (case x_read_deep => k_is); (case k_read_deep => k_is)
    (case a_read_part => k_is); (case l_read_part => k_is); (case x_read_part => k_is); (case k_read_part => k_is)
    (case a_read_whole => k_is); (case l_read_whole => k_is); (case x_read_whole => k_is); (case k_read_whole => k_is)
    (case a_read_all => k_is); (case l_read_all => k_is); (case x_read_all => k_is); (case k_read_all => k_is)
    (case a_pieces => k_is); (case l_pieces => k_is); (case x_pieces => k_is); (case k_pieces => k_is)
    (case a_term_text => k_is); (case l_term_text => k_is); (case x_term_text => k_is); (case k_term_text => k_is)
    (case a_words_of => k_is); (case l_words_of => k_is); (case x_words_of => k_is); (case k_words_of => k_is)
    (case a_step_line => k_is); (case l_step_line => k_is); (case x_step_line => k_is); (case k_step_line => k_is)
    (case a_pairs_words => k_is); (case l_pairs_words => k_is); (case x_pairs_words => k_is); (case k_pairs_words => k_is)
    (case a_entry_lines => k_is); (case l_entry_lines => k_is); (case x_entry_lines => k_is); (case k_entry_lines => k_is)
    (case a_library_lines => k_is); (case l_library_lines => k_is); (case x_library_lines => k_is); (case k_library_lines => k_is)
    (case a_read_least => k_is); (case l_read_least => k_is); (case x_read_least => k_is); (case k_read_least => k_is)
    (case a_read_number => k_is); (case l_read_number => k_is); (case x_read_number => k_is); (case k_read_number => k_is)
    (case a_read_numbers => k_is); (case l_read_numbers => k_is); (case x_read_numbers => k_is); (case k_read_numbers => k_is)
    (case a_read_name => k_is); (case l_read_name => k_is); (case x_read_name => k_is); (case k_read_name => k_is)
    (case a_read_some_names => k_is); (case l_read_some_names => k_is); (case x_read_some_names => k_is); (case k_read_some_names => k_is)
    (case a_read_pairs => k_is); (case l_read_pairs => k_is); (case x_read_pairs => k_is); (case k_read_pairs => k_is)
    (case a_read_things => k_is); (case l_read_things => k_is); (case x_read_things => k_is); (case k_read_things => k_is)
    (case a_read_whole_step => k_is); (case l_read_whole_step => k_is); (case x_read_whole_step => k_is); (case k_read_whole_step => k_is)
    (case a_read_head => k_is); (case l_read_head => k_is); (case x_read_head => k_is); (case k_read_head => k_is)
    (case a_read_entry => k_is); (case l_read_entry => k_is); (case x_read_entry => k_is); (case k_read_entry => k_is)
    (case a_read_step => k_is); (case l_read_step => k_is); (case x_read_step => k_is); (case k_read_step => k_is)
    (case a_read_library => k_is); (case l_read_library => k_is); (case x_read_library => k_is); (case k_read_library => k_is)
    (case a__law_pool => k_is); (case l__law_pool => k_is); (case x__law_pool => k_is); (case k__law_pool => k_is)
    (case a__law_draw => k_is); (case l__law_draw => k_is); (case x__law_draw => k_is); (case k__law_draw => k_is)
    (case a__law_spend => k_is); (case l__law_spend => k_is); (case x__law_spend => k_is); (case k__law_spend => k_is)
    (case a__law_number => k_is); (case l__law_number => k_is); (case x__law_number => k_is); (case k__law_number => k_is)
    (case a__law_same => k_is); (case l__law_same => k_is); (case x__law_same => k_is); (case k__law_same => k_is)
    (case a__law_few => k_is); (case l__law_few => k_is); (case x__law_few => k_is); (case k__law_few => k_is)
    (case a__law_name => k_is); (case l__law_name => k_is); (case x__law_name => k_is); (case k__law_name => k_is)
    (case a__law_unlike => k_is); (case l__law_unlike => k_is); (case x__law_unlike => k_is); (case k__law_unlike => k_is)
    (case a__law_made => k_is); (case l__law_made => k_is); (case x__law_made => k_is); (case k__law_made => k_is)
    (case a__law_any => k_is); (case l__law_any => k_is); (case x__law_any => k_is); (case k__law_any => k_is)
    (case a__law_words => k_is); (case l__law_words => k_is); (case x__law_words => k_is); (case k__law_words => k_is)
    (case a__law_path => k_is); (case l__law_path => k_is); (case x__law_path => k_is); (case k__law_path => k_is)
    (case a__law_told => k_is); (case l__law_told => k_is); (case x__law_told => k_is); (case k__law_told => k_is)
    (case a__law_step => k_is); (case l__law_step => k_is); (case x__law_step => k_is); (case k__law_step => k_is)
    (case a__law_path_words => k_is); (case l__law_path_words => k_is); (case x__law_path_words => k_is); (case k__law_path_words => k_is)
    (case a__law_told_words => k_is); (case l__law_told_words => k_is); (case x__law_told_words => k_is); (case k__law_told_words => k_is)
    (case a__law_step_words => k_is); (case l__law_step_words => k_is); (case x__law_step_words => k_is); (case k__law_step_words => k_is)
    (case a__law_entry => k_is); (case l__law_entry => k_is); (case x__law_entry => k_is); (case k__law_entry => k_is)
    (case a__law_entry_lines => k_is); (case l__law_entry_lines => k_is); (case x__law_entry_lines => k_is); (case k__law_entry_lines => k_is)
    (case a_law => k_is); (case l_law => k_is); (case x_law => k_is); (case k_law => k_is)
    (case a_VALUES => k_is); (case l_VALUES => k_is); (case v_VALUES => repeat (first | exact .nil | refine .cons ⟨_, rfl⟩ ?_)); (case z_VALUES => decide)
    (case a_OPERATORS => k_is); (case l_OPERATORS => k_is); (case v_OPERATORS => repeat (first | exact .nil | refine .cons ⟨_, rfl⟩ ?_)); (case z_OPERATORS => decide)
    (case a_BRANCHES => k_is); (case l_BRANCHES => k_is); (case v_BRANCHES => repeat (first | exact .nil | refine .cons ⟨_, rfl⟩ ?_)); (case z_BRANCHES => decide)
    (case a_COSTS => k_is); (case l_COSTS => k_is); (case v_COSTS => repeat (first | exact .nil | refine .cons ⟨_, rfl⟩ ?_)); (case z_COSTS => decide)
    (case a_HOLE => k_is); (case l_HOLE => k_is); (case v_HOLE => repeat (first | exact .nil | refine .cons ⟨_, rfl⟩ ?_)); (case z_HOLE => decide)
    (case a_KEY_WORDS => k_is); (case l_KEY_WORDS => k_is); (case v_KEY_WORDS => repeat (first | exact .nil | refine .cons ⟨_, rfl⟩ ?_)); (case z_KEY_WORDS => decide)
    (case a_RULE_STEPS => k_is); (case l_RULE_STEPS => k_is); (case v_RULE_STEPS => repeat (first | exact .nil | refine .cons ⟨_, rfl⟩ ?_)); (case z_RULE_STEPS => decide)
    (case a_CLAIM_STEPS => k_is); (case l_CLAIM_STEPS => k_is); (case v_CLAIM_STEPS => repeat (first | exact .nil | refine .cons ⟨_, rfl⟩ ?_)); (case z_CLAIM_STEPS => decide)
    (case a_PLAIN_FORMS => k_is); (case l_PLAIN_FORMS => k_is); (case y_PLAIN_FORMS => repeat (first | exact trivial | refine ⟨⟨_, _, rfl, rfl⟩, ?_⟩)); (case q_PLAIN_FORMS => decide)
    (case e_PLAIN_FORMS_0 => k_is)
    (case e_PLAIN_FORMS_1 => k_is)
    (case e_PLAIN_FORMS_2 => k_is)
    (case e_PLAIN_FORMS_3 => k_is)
    (case e_PLAIN_FORMS_4 => k_is)
    (case e_PLAIN_FORMS_5 => k_is)
    (case e_PLAIN_FORMS_6 => k_is)
    (case e_PLAIN_FORMS_7 => k_is)
    (case e_PLAIN_FORMS_8 => k_is)
    (case a_SAME_RULES => k_is); (case l_SAME_RULES => k_is); (case y_SAME_RULES => repeat (first | exact trivial | refine ⟨⟨_, _, rfl, rfl⟩, ?_⟩)); (case q_SAME_RULES => decide)
    (case r_SAME_RULES => repeat (first | exact trivial | refine ⟨⟨rfl, _, _, rfl, by decide⟩, ?_⟩))
    (case e_SAME_RULES_0 => k_is)
    (case e_SAME_RULES_1 => k_is)
    (case e_SAME_RULES_2 => k_is)
    (case e_SAME_RULES_3 => k_is)
    (case e_SAME_RULES_4 => k_is)
    (case e_SAME_RULES_5 => k_is)
    (case e_SAME_RULES_6 => k_is)
    (case e_SAME_RULES_7 => k_is)
    (case e_SAME_RULES_8 => k_is)
    (case e_SAME_RULES_9 => k_is)
    (case e_SAME_RULES_10 => k_is)
    (case e_SAME_RULES_11 => k_is)
    (case e_SAME_RULES_12 => k_is)
    (case a_BETTER_RULES => k_is); (case l_BETTER_RULES => k_is); (case y_BETTER_RULES => repeat (first | exact trivial | refine ⟨⟨_, _, rfl, rfl⟩, ?_⟩)); (case q_BETTER_RULES => decide)
    (case r_BETTER_RULES => repeat (first | exact trivial | refine ⟨⟨rfl, _, _, rfl, by decide⟩, ?_⟩))
    (case e_BETTER_RULES_0 => k_is)
    (case e_BETTER_RULES_1 => k_is)
    (case e_BETTER_RULES_2 => k_is)
    (case e_BETTER_RULES_3 => k_is)
    (case e_BETTER_RULES_4 => k_is)
    (case e_BETTER_RULES_5 => k_is)
    (case a_TOLD => k_is); (case l_TOLD => k_is); (case y_TOLD => repeat (first | exact trivial | refine ⟨⟨_, _, rfl, rfl⟩, ?_⟩)); (case q_TOLD => decide)
    (case r_TOLD => repeat (first | exact trivial | refine ⟨⟨rfl, _, _, rfl, by decide⟩, ?_⟩))
    (case e_TOLD_0 => k_is)
    (case l_TOLD_0 => k_is); (case v_TOLD_0 => repeat (first | exact .nil | refine .cons ⟨_, rfl⟩ ?_)); (case z_TOLD_0 => decide)
    (case e_TOLD_1 => k_is)
    (case l_TOLD_1 => k_is); (case v_TOLD_1 => repeat (first | exact .nil | refine .cons ⟨_, rfl⟩ ?_)); (case z_TOLD_1 => decide)
    (case e_TOLD_2 => k_is)
    (case l_TOLD_2 => k_is); (case v_TOLD_2 => repeat (first | exact .nil | refine .cons ⟨_, rfl⟩ ?_)); (case z_TOLD_2 => decide)
    (case e_TOLD_3 => k_is)
    (case l_TOLD_3 => k_is); (case v_TOLD_3 => repeat (first | exact .nil | refine .cons ⟨_, rfl⟩ ?_)); (case z_TOLD_3 => decide)
    (case e_TOLD_4 => k_is)
    (case l_TOLD_4 => k_is); (case v_TOLD_4 => repeat (first | exact .nil | refine .cons ⟨_, rfl⟩ ?_)); (case z_TOLD_4 => decide)
    (case e_TOLD_5 => k_is)
    (case l_TOLD_5 => k_is); (case v_TOLD_5 => repeat (first | exact .nil | refine .cons ⟨_, rfl⟩ ?_)); (case z_TOLD_5 => decide)
    (case a_HEADS => k_is); (case l_HEADS => k_is); (case y_HEADS => repeat (first | exact trivial | refine ⟨⟨_, _, rfl, rfl⟩, ?_⟩)); (case q_HEADS => decide)
    (case r_HEADS => repeat (first | exact trivial | refine ⟨⟨rfl, _, _, rfl, by decide⟩, ?_⟩))
    (case e_HEADS_0 => k_is)
    (case l_HEADS_0 => k_is); (case v_HEADS_0 => repeat (first | exact .nil | refine .cons ⟨_, rfl⟩ ?_)); (case z_HEADS_0 => decide)
    (case e_HEADS_1 => k_is)
    (case l_HEADS_1 => k_is); (case v_HEADS_1 => repeat (first | exact .nil | refine .cons ⟨_, rfl⟩ ?_)); (case z_HEADS_1 => decide)
    (case e_HEADS_2 => k_is)
    (case l_HEADS_2 => k_is); (case v_HEADS_2 => repeat (first | exact .nil | refine .cons ⟨_, rfl⟩ ?_)); (case z_HEADS_2 => decide)
    (case e_HEADS_3 => k_is)
    (case l_HEADS_3 => k_is); (case v_HEADS_3 => repeat (first | exact .nil | refine .cons ⟨_, rfl⟩ ?_)); (case z_HEADS_3 => decide)
    (case a_READINGS => k_is); (case l_READINGS => k_is); (case y_READINGS => repeat (first | exact trivial | refine ⟨⟨_, _, rfl, rfl⟩, ?_⟩)); (case q_READINGS => decide)
    (case r_READINGS => repeat (first | exact trivial | refine ⟨⟨rfl, _, _, rfl, by decide⟩, ?_⟩))
    (case e_READINGS_0 => k_is)
    (case e_READINGS_1 => k_is)
    (case e_READINGS_2 => k_is)
    (case e_READINGS_3 => k_is)
    (case e_READINGS_4 => k_is)
    (case a_Reader => k_is)
    (case p1_Reader => k_is)
    (case p2_Reader => k_is)
    (case p3_Reader => k_is)
    (case p4_Reader => k_is)
    (case p5_Reader => k_is)
    (case p6_Reader => k_is)
    (case nf_Reader_at => k_is)
    (case nf_Reader_words => k_is)
    (case a_Reader___init__ => k_is)
    (case i_Reader___init__ => k_is)
    (case l_Reader___init__ => k_is)
    (case x_Reader___init__ => k_is)
    (case k_Reader___init__ => k_is)
    (case a_Reader_ahead => k_is)
    (case i_Reader_ahead => k_is)
    (case l_Reader_ahead => k_is)
    (case x_Reader_ahead => k_is)
    (case k_Reader_ahead => k_is)
    (case a_Reader_take => k_is)
    (case i_Reader_take => k_is)
    (case l_Reader_take => k_is)
    (case x_Reader_take => k_is)
    (case k_Reader_take => k_is)
    (case a_Reader_take_word => k_is)
    (case i_Reader_take_word => k_is)
    (case l_Reader_take_word => k_is)
    (case x_Reader_take_word => k_is)
    (case k_Reader_take_word => k_is)
    (case a_Reader_take_name => k_is)
    (case i_Reader_take_name => k_is)
    (case l_Reader_take_name => k_is)
    (case x_Reader_take_name => k_is)
    (case k_Reader_take_name => k_is)
    (case a_Reader_take_constructor => k_is)
    (case i_Reader_take_constructor => k_is)
    (case l_Reader_take_constructor => k_is)
    (case x_Reader_take_constructor => k_is)
    (case k_Reader_take_constructor => k_is)
    (case a_Source => k_is)
    (case p1_Source => k_is)
    (case p2_Source => k_is)
    (case p3_Source => k_is)
    (case p4_Source => k_is)
    (case p5_Source => k_is)
    (case p6_Source => k_is)
    (case nf_Source_at => k_is)
    (case nf_Source_lines => k_is)
    (case a_Source___init__ => k_is)
    (case i_Source___init__ => k_is)
    (case l_Source___init__ => k_is)
    (case x_Source___init__ => k_is)
    (case k_Source___init__ => k_is)
    (case a_Source_take => k_is)
    (case i_Source_take => k_is)
    (case l_Source_take => k_is)
    (case x_Source_take => k_is)
    (case k_Source_take => k_is)
    (case w_read_number_read_numbers => decide)
    (case w_read_number_read_name => decide)
    (case w_read_number_read_some_names => decide)
    (case w_read_number_read_pairs => decide)
    (case w_read_numbers_read_name => decide)
    (case w_read_numbers_read_some_names => decide)
    (case w_read_numbers_read_pairs => decide)
    (case w_read_name_read_some_names => decide)
    (case w_read_name_read_pairs => decide)
    (case w_read_some_names_read_pairs => decide)
    (case a_BadText => k_is)
    (case a_NUMBERS => k_is)
    (case a_MOST_PAIRS => k_is)
    (case a_LONGEST_NAME => k_is)
    (case a_LONGEST_NUMBER_text => k_is)
    (case a_LARGEST_NUMBER => k_is)
    (case a_MOST_AT_ONCE => k_is)
    (case a_DEEPEST => k_is)
    (case a_LONGEST_NUMBER_lines => k_is)
    (case z_bool => k_is)
    (case z_int => k_is)
    (case z_isinstance => k_is)
    (case z_len => k_is)
    (case z_list => k_is)
    (case z_min => k_is)
    (case z_range => k_is)
    (case z_str => k_is)
    (case z_tuple => k_is)
