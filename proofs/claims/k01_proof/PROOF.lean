import PyProof.Rows.All
import Wide.All
import OpenK.AllK
import Wide.FinOn
import HandS.ForMost
import HandS.ForExc
import HandS.Evl
import HandS.TupAny
import HandS.TupMul
import HandS.IsInst
import HandS.Wide
import HandS.Property
import HandS.MakeKwOnly
import HandS.Conv
import HandS.Codes
import KE.GoesMore
import KE.GoesEnum
import HandS.More
import HandS.WordsDict
import KE.KExcSuper
import KE.KExcInit
import HandS.ExcInit
import HandS.ExcSuper
import HandS.FStr
import HandS.ExcOwn
import HandS.WordsExc
import HandS.ExcIs
import KE.KExcIs
import HandS.Defaults
import HandS.Iter
import KE.GoesNew
import HandS.DictComp
import PyProof.EnumMake
import HandS.SortInts
import HandS.Deep
import KE.KSortedM
import PyProof.InstNe
import HandS.Lambda
import HandS.EndTab
import HandS.Style
import PySem.Challenge.RW_registerrooms_k01_whole_programs
set_option Elab.async false
set_option linter.all false
set_option maxRecDepth 100000
set_option maxHeartbeats 4000000
namespace VL
open PySem PySem.Spec
open PyProof.Rows L2
open Evl (Ex sz_of)

/-- data -/
inductive D where
  | non | bl (b : Bool) | int (i : Int) | str (x : Str)
  | tup (xs : List D) | lst (xs : List D)
  | dic (kvs : List (Key × D))
  | ins (c : Nat) (fs : List (Str × D))
  | scr (ns : List Int)
  deriving Inhabited

/-! ### heaps grow: the library's Evl.Ex -/
theorem _root_.Evl.Ex.rd {H H' : Hp} {a : Addr} {u : HO} (e : Ex H H') (h : Rd H a u) : Rd H' a u := by
  rcases h with h | ⟨o, h⟩
  · exact Or.inl (e a _ h)
  · exact Or.inr ⟨o, e a _ h⟩
theorem _root_.Evl.Ex.l {K : PySem.W.Frag} {H H' : Hp} {a : Addr} {xs : List V} (e : Ex H H') (h : SqL K H a xs) : SqL K H' a xs := by
  rcases h with h | h
  · exact Or.inl (e.rd h)
  · exact Or.inr h
theorem _root_.Evl.Ex.t {K : PySem.W.Frag} {H H' : Hp} {a : Addr} {xs : List V} (e : Ex H H') (h : SqT K H a xs) : SqT K H' a xs := by
  rcases h with h | h
  · exact Or.inl (e.rd h)
  · exact Or.inr h
theorem _root_.Evl.Ex.back {H H' : Hp} {p : Addr} (e : Ex H H') (h : H' p = none) : H p = none := by
  cases h1 : H p with
  | none => rfl
  | some o =>
    rw [e p o h1] at h
    cases h

/-- the written part, the classes by number -/
structure Cn where
  K : PySem.W.Frag
  cls : Nat → Addr

/-! ### what a value stands for -/
mutual
def Rep (G : Cn) (H : Hp) : V → D → Prop
  | v, .non => v = .non
  | v, .bl b => v = .bl b
  | v, .int i => v = .int i
  | v, .str x => v = .str x
  | v, .tup ds => ∃ a vs, v = .ref a ∧ H a = some (.tup vs) ∧ Reps G H vs ds
  | v, .lst ds => ∃ a vs, v = .ref a ∧ H a = some (.lst vs) ∧ Reps G H vs ds
  | v, .dic kds => ∃ a kvs, v = .ref a ∧ H a = some (.dK kvs) ∧ RepsK G H kvs kds
  | v, .ins c fds => ∃ a dx fvs, v = .ref a ∧ H a = some (.ins (G.cls c) dx fvs) ∧ RepsF G H fvs fds
  | v, .scr ns => ∃ a, v = .ref a ∧ SqL G.K H a (ns.map V.int)
def Reps (G : Cn) (H : Hp) : List V → List D → Prop
  | vs, [] => vs = []
  | vs, d :: ds => ∃ v r, vs = v :: r ∧ Rep G H v d ∧ Reps G H r ds
def RepsK (G : Cn) (H : Hp) : List (Key × V) → List (Key × D) → Prop
  | kvs, [] => kvs = []
  | kvs, (k, d) :: ds => ∃ v r, kvs = (k, v) :: r ∧ Rep G H v d ∧ RepsK G H r ds
def RepsF (G : Cn) (H : Hp) : List (Str × V) → List (Str × D) → Prop
  | kvs, [] => kvs = []
  | kvs, (k, d) :: ds => ∃ v r, kvs = (k, v) :: r ∧ Rep G H v d ∧ RepsF G H r ds
end
section
variable {G : Cn} {H H' : Hp}
mutual
theorem Rep.mono (e : Ex H H') : ∀ {v : V} (d : D), Rep G H v d → Rep G H' v d
  | _, .non, h => h
  | _, .bl _, h => h
  | _, .int _, h => h
  | _, .str _, h => h
  | _, .scr _, h => by
    unfold Rep at h ⊢
    obtain ⟨a, e1, e2⟩ := h
    exact ⟨a, e1, e.l e2⟩
  | _, .tup ds, h => by
    unfold Rep at h ⊢
    obtain ⟨a, vs, e1, e2, e3⟩ := h
    exact ⟨a, vs, e1, e _ _ e2, Reps.mono e ds e3⟩
  | _, .lst ds, h => by
    unfold Rep at h ⊢
    obtain ⟨a, vs, e1, e2, e3⟩ := h
    exact ⟨a, vs, e1, e _ _ e2, Reps.mono e ds e3⟩
  | _, .dic ds, h => by
    unfold Rep at h ⊢
    obtain ⟨a, vs, e1, e2, e3⟩ := h
    exact ⟨a, vs, e1, e _ _ e2, RepsK.mono e ds e3⟩
  | _, .ins c ds, h => by
    unfold Rep at h ⊢
    obtain ⟨a, dx, vs, e1, e2, e3⟩ := h
    exact ⟨a, dx, vs, e1, e _ _ e2, RepsF.mono e ds e3⟩
theorem Reps.mono (e : Ex H H') : ∀ {vs : List V} (ds : List D), Reps G H vs ds → Reps G H' vs ds
  | _, [], h => h
  | _, d :: ds, h => by
    unfold Reps at h ⊢
    obtain ⟨v, r, e1, e2, e3⟩ := h
    exact ⟨v, r, e1, Rep.mono e d e2, Reps.mono e ds e3⟩
theorem RepsK.mono (e : Ex H H') : ∀ {vs : List (Key × V)} (ds : List (Key × D)), RepsK G H vs ds → RepsK G H' vs ds
  | _, [], h => h
  | _, (k, d) :: ds, h => by
    unfold RepsK at h ⊢
    obtain ⟨v, r, e1, e2, e3⟩ := h
    exact ⟨v, r, e1, Rep.mono e d e2, RepsK.mono e ds e3⟩
theorem RepsF.mono (e : Ex H H') : ∀ {vs : List (Str × V)} (ds : List (Str × D)), RepsF G H vs ds → RepsF G H' vs ds
  | _, [], h => h
  | _, (k, d) :: ds, h => by
    unfold RepsF at h ⊢
    obtain ⟨v, r, e1, e2, e3⟩ := h
    exact ⟨v, r, e1, Rep.mono e d e2, RepsF.mono e ds e3⟩
end
theorem Reps.cons {v : V} {vs : List V} {d : D} {ds : List D} (h : Rep G H v d) (t : Reps G H vs ds) : Reps G H (v :: vs) (d :: ds) := by
  unfold Reps
  exact ⟨v, vs, rfl, h, t⟩
theorem Reps.nil : Reps G H [] [] := by
  unfold Reps
  rfl
theorem Reps.of_nil {vs : List V} (h : Reps G H vs []) : vs = [] := by
  unfold Reps at h
  exact h
theorem Reps.of_cons {vs : List V} {d : D} {ds : List D} (h : Reps G H vs (d :: ds)) : ∃ v r, vs = v :: r ∧ Rep G H v d ∧ Reps G H r ds := by
  unfold Reps at h
  exact h
theorem Reps.length : ∀ {vs : List V} {ds : List D}, Reps G H vs ds → vs.length = ds.length
  | _, [], h => by
    rw [h.of_nil]
    rfl
  | _, d :: ds, h => by
    obtain ⟨v, r, rfl, _, t⟩ := h.of_cons
    rw [List.length_cons, List.length_cons, Reps.length t]
theorem Reps.get : ∀ {vs : List V} {ds : List D} {i : Nat} {d : D}, Reps G H vs ds → ds[i]? = some d → ∃ v, vs[i]? = some v ∧ Rep G H v d
  | _, [], i, d, h, e => by simp at e
  | _, d' :: ds, 0, d, h, e => by
    obtain ⟨v, r, rfl, q, t⟩ := h.of_cons
    have e' : d' = d := by simpa using e
    subst e'
    exact ⟨v, rfl, q⟩
  | _, d' :: ds, i + 1, d, h, e => by
    obtain ⟨v, r, rfl, q, t⟩ := h.of_cons
    obtain ⟨u, h1, h2⟩ := Reps.get (i := i) (d := d) t (by simpa using e)
    refine ⟨u, ?_, h2⟩
    simpa using h1
theorem Reps.get' : ∀ {vs : List V} {ds : List D} {i : Nat} {v : V}, Reps G H vs ds → vs[i]? = some v → ∃ d, ds[i]? = some d ∧ Rep G H v d := fun {vs ds i v} h e => by
  have l := h.length
  have hi := (List.getElem?_eq_some_iff.mp e).1
  obtain ⟨d, hd⟩ : ∃ d, ds[i]? = some d := ⟨ds[i]'(by omega), List.getElem?_eq_getElem (by omega)⟩
  obtain ⟨u, h1, h2⟩ := h.get hd
  rw [e] at h1
  cases h1
  exact ⟨d, hd, h2⟩
theorem Reps.append : ∀ {vs ws : List V} {ds es : List D}, Reps G H vs ds → Reps G H ws es → Reps G H (vs ++ ws) (ds ++ es)
  | _, _, [], _, h, t => by
    rw [h.of_nil]
    exact t
  | _, _, d :: ds, _, h, t => by
    obtain ⟨v, r, rfl, q, u⟩ := h.of_cons
    exact Reps.cons q (Reps.append u t)
theorem Reps.take : ∀ {vs : List V} {ds : List D} (n : Nat), Reps G H vs ds → Reps G H (vs.take n) (ds.take n)
  | _, _, 0, _ => by simpa using Reps.nil
  | _, [], n + 1, h => by
    rw [h.of_nil]
    simpa using Reps.nil
  | _, d :: ds, n + 1, h => by
    obtain ⟨v, r, rfl, q, u⟩ := h.of_cons
    simpa using Reps.cons q (Reps.take n u)
theorem Reps.drop : ∀ {vs : List V} {ds : List D} (n : Nat), Reps G H vs ds → Reps G H (vs.drop n) (ds.drop n)
  | _, _, 0, h => by simpa using h
  | _, [], n + 1, h => by
    rw [h.of_nil]
    simpa using Reps.nil
  | _, d :: ds, n + 1, h => by
    obtain ⟨v, r, rfl, q, u⟩ := h.of_cons
    simpa using Reps.drop n u
theorem Reps.reverse : ∀ {vs : List V} {ds : List D}, Reps G H vs ds → Reps G H vs.reverse ds.reverse
  | _, [], h => by
    rw [h.of_nil]
    exact Reps.nil
  | _, d :: ds, h => by
    obtain ⟨v, r, rfl, q, u⟩ := h.of_cons
    simp only [List.reverse_cons]
    exact (Reps.reverse u).append (Reps.cons q Reps.nil)
theorem Reps.erase : ∀ {vs : List V} {ds : List D} (n : Nat), Reps G H vs ds → Reps G H (vs.eraseIdx n) (ds.eraseIdx n)
  | _, [], n, h => by
    rw [h.of_nil]
    simpa using Reps.nil
  | _, d :: ds, 0, h => by
    obtain ⟨v, r, rfl, q, u⟩ := h.of_cons
    simpa using u
  | _, d :: ds, n + 1, h => by
    obtain ⟨v, r, rfl, q, u⟩ := h.of_cons
    simpa using Reps.cons q (Reps.erase n u)
theorem Reps.set {v : V} {d : D} (q : Rep G H v d) : ∀ {vs : List V} {ds : List D} (n : Nat), Reps G H vs ds → Reps G H (vs.set n v) (ds.set n d)
  | _, [], n, h => by
    rw [h.of_nil]
    simpa using Reps.nil
  | _, d' :: ds, 0, h => by
    obtain ⟨v, r, rfl, _, u⟩ := h.of_cons
    simpa using Reps.cons q u
  | _, d' :: ds, n + 1, h => by
    obtain ⟨v, r, rfl, q', u⟩ := h.of_cons
    simpa using Reps.cons q' (Reps.set q n u)
theorem Reps.one {v : V} {d : D} (q : Rep G H v d) : Reps G H [v] [d] := Reps.cons q Reps.nil
end
end VL

namespace VL
open PySem PySem.Spec
open PyProof.Rows L2
open Evl (Ex sz_of)

/-- what a slot holds, what an expression gives: data, or an object that nobody else knows -/
inductive O where
  | val (d : D) | lst (ds : List D) | dic (kds : List (Key × D)) | ins (c : Nat) (fs : List (Str × D)) | ll (dss : List (List D))
  deriving Inhabited
def O.frz : O → D
  | .val d => d
  | .lst ds => .lst ds
  | .dic k => .dic k
  | .ins c f => .ins c f
  | .ll dss => .lst (dss.map .lst)
def O.isOwn : O → Bool
  | .val _ => false
  | _ => true
abbrev Rho := List (Option O)
inductive Rs (A : Type) where
  | ok (o : A) | ex (c : Nat) (fs : Option (List (Str × D)))
abbrev Res := Rs O
abbrev M := Rho → Option (Res × Rho)

def RepLL (G : Cn) (F H : Hp) : List Addr → List (List D) → Prop
  | bs, [] => bs = []
  | bs, ds :: dss => ∃ b r vs, bs = b :: r ∧ F b = none ∧ H b = some (.lst vs) ∧ Reps G F vs ds ∧ RepLL G F H r dss
def RepO (G : Cn) (F H : Hp) (β : List Addr) (v : V) : O → Prop
  | .val d => β = [] ∧ Rep G F v d
  | .lst ds => ∃ a vs, v = .ref a ∧ β = [a] ∧ F a = none ∧ H a = some (.lst vs) ∧ Reps G F vs ds
  | .dic kds => ∃ a kvs, v = .ref a ∧ β = [a] ∧ F a = none ∧ H a = some (.dK kvs) ∧ RepsK G F kvs kds
  | .ins c fds => ∃ a dx fvs, v = .ref a ∧ β = [a, dx] ∧ dx ≠ a ∧ F a = none ∧ F dx = none ∧ H a = some (.ins (G.cls c) dx fvs) ∧ H dx = some (.own a) ∧ RepsF G F fvs fds
  | .ll dss => ∃ a bs, v = .ref a ∧ β = a :: bs ∧ (a :: bs).Nodup ∧ F a = none ∧ H a = some (.lst (bs.map V.ref)) ∧ RepLL G F H bs dss

abbrev Al := Nat → List Addr
def Own (α : Al) (a : Addr) : Prop := ∃ i, a ∈ α i

section
variable {G : Cn} {F F' H H' : Hp}
theorem RepLL.mem : ∀ {bs : List Addr} {dss : List (List D)}, RepLL G F H bs dss → ∀ b ∈ bs, F b = none ∧ ∃ o, H b = some o
  | _, [], h, b, hb => by
    unfold RepLL at h
    subst h
    cases hb
  | _, ds :: dss, h, b, hb => by
    unfold RepLL at h
    obtain ⟨c, r, vs, rfl, e1, e2, _, t⟩ := h
    rcases List.mem_cons.mp hb with rfl | hb
    · exact ⟨e1, _, e2⟩
    · exact RepLL.mem t b hb
theorem RepLL.move (e : Ex F F') : ∀ {bs : List Addr} {dss : List (List D)}, RepLL G F H bs dss → (∀ b ∈ bs, F' b = none) → (∀ b ∈ bs, ∀ o, H b = some o → H' b = some o) → RepLL G F' H' bs dss
  | _, [], h, _, _ => h
  | _, ds :: dss, h, h1, h2 => by
    unfold RepLL at h ⊢
    obtain ⟨c, r, vs, rfl, e1, e2, e3, t⟩ := h
    exact ⟨c, r, vs, rfl, h1 c List.mem_cons_self, h2 c List.mem_cons_self _ e2, e3.mono e, RepLL.move e t (fun b hb => h1 b (List.mem_cons_of_mem _ hb)) fun b hb => h2 b (List.mem_cons_of_mem _ hb)⟩
theorem RepLL.reps (e : Ex F F') : ∀ {bs : List Addr} {dss : List (List D)}, RepLL G F H bs dss → (∀ b ∈ bs, ∀ o, H b = some o → F' b = some o) → Reps G F' (bs.map V.ref) (dss.map D.lst)
  | _, [], h, _ => by
    unfold RepLL at h
    subst h
    exact Reps.nil
  | _, ds :: dss, h, h2 => by
    unfold RepLL at h
    obtain ⟨c, r, vs, rfl, e1, e2, e3, t⟩ := h
    refine Reps.cons ?_ (RepLL.reps e t fun b hb => h2 b (List.mem_cons_of_mem _ hb))
    unfold Rep
    exact ⟨c, vs, rfl, h2 c List.mem_cons_self _ e2, e3.mono e⟩
theorem RepO.mem {β : List Addr} {v : V} {o : O} (h : RepO G F H β v o) : ∀ b ∈ β, F b = none ∧ ∃ u, H b = some u := by
  intro b hb
  cases o with
  | val d =>
    obtain ⟨rfl, _⟩ := h
    cases hb
  | lst ds =>
    obtain ⟨a, vs, rfl, rfl, e1, e2, _⟩ := h
    have : b = a := by simpa using hb
    subst this
    exact ⟨e1, _, e2⟩
  | dic ds =>
    obtain ⟨a, vs, rfl, rfl, e1, e2, _⟩ := h
    have : b = a := by simpa using hb
    subst this
    exact ⟨e1, _, e2⟩
  | ins c fs =>
    obtain ⟨a, dx, vs, rfl, rfl, _, e1, e2, e3, e4, _⟩ := h
    have : b = a ∨ b = dx := by simpa using hb
    rcases this with rfl | rfl
    · exact ⟨e1, _, e3⟩
    · exact ⟨e2, _, e4⟩
  | ll dss =>
    obtain ⟨a, bs, rfl, rfl, _, e1, e2, t⟩ := h
    rcases List.mem_cons.mp hb with rfl | hb
    · exact ⟨e1, _, e2⟩
    · exact t.mem b hb
theorem RepO.move {β : List Addr} {v : V} {o : O} (e : Ex F F') (h : RepO G F H β v o) (h1 : ∀ b ∈ β, F' b = none) (h2 : ∀ b ∈ β, ∀ u, H b = some u → H' b = some u) : RepO G F' H' β v o := by
  cases o with
  | val d => exact ⟨h.1, h.2.mono e⟩
  | lst ds =>
    obtain ⟨a, vs, rfl, rfl, e1, e2, e3⟩ := h
    exact ⟨a, vs, rfl, rfl, h1 a (by simp), h2 a (by simp) _ e2, e3.mono e⟩
  | dic ds =>
    obtain ⟨a, vs, rfl, rfl, e1, e2, e3⟩ := h
    exact ⟨a, vs, rfl, rfl, h1 a (by simp), h2 a (by simp) _ e2, e3.mono e⟩
  | ins c fs =>
    obtain ⟨a, dx, vs, rfl, rfl, ne, e1, e2, e3, e4, e5⟩ := h
    exact ⟨a, dx, vs, rfl, rfl, ne, h1 a (by simp), h1 dx (by simp), h2 a (by simp) _ e3, h2 dx (by simp) _ e4, e5.mono e⟩
  | ll dss =>
    obtain ⟨a, bs, rfl, rfl, nd, e1, e2, t⟩ := h
    exact ⟨a, bs, rfl, rfl, nd, h1 a (by simp), h2 a (by simp) _ e2, t.move e (fun b hb => h1 b (List.mem_cons_of_mem _ hb)) fun b hb => h2 b (List.mem_cons_of_mem _ hb)⟩
/-- frozen -/
theorem RepO.frz {β : List Addr} {v : V} {o : O} (e : Ex F F') (h : RepO G F H β v o) (h2 : ∀ b ∈ β, ∀ u, H b = some u → F' b = some u) : Rep G F' v o.frz := by
  cases o with
  | val d => exact h.2.mono e
  | lst ds =>
    obtain ⟨a, vs, rfl, rfl, e1, e2, e3⟩ := h
    unfold O.frz Rep
    exact ⟨a, vs, rfl, h2 a (by simp) _ e2, e3.mono e⟩
  | dic ds =>
    obtain ⟨a, vs, rfl, rfl, e1, e2, e3⟩ := h
    unfold O.frz Rep
    exact ⟨a, vs, rfl, h2 a (by simp) _ e2, e3.mono e⟩
  | ins c fs =>
    obtain ⟨a, dx, vs, rfl, rfl, ne, e1, e2, e3, e4, e5⟩ := h
    unfold O.frz Rep
    exact ⟨a, dx, vs, rfl, h2 a (by simp) _ e3, e5.mono e⟩
  | ll dss =>
    obtain ⟨a, bs, rfl, rfl, nd, e1, e2, t⟩ := h
    unfold O.frz Rep
    exact ⟨a, _, rfl, h2 a (by simp) _ e2, t.reps e fun b hb => h2 b (List.mem_cons_of_mem _ hb)⟩
end

/-! ### states -/
structure Ste (G : Cn) (F H : Hp) (σ : L2.St) (ρ : Rho) (α : Al) : Prop where
  ex : Ex F H
  len : σ.length = ρ.length
  slot : ∀ (i : Nat) o, ρ[i]? = some (some o) → ∃ v, σ[i]? = some (some v) ∧ RepO G F H (α i) v o
  off : ∀ (i : Nat), (∀ o, ρ[i]? ≠ some (some o)) → α i = []
  dis : ∀ i j a, i ≠ j → a ∈ α i → a ∉ α j
/-- a step: what is frozen grows, what is neither frozen nor owned stays -/
structure Stp (A : Addr → Prop) (F H F' H' : Hp) : Prop where
  exF : Ex F F'
  keep : ∀ b o, H b = some o → ¬ A b → H' b = some o
  newF : ∀ b o, F' b = some o → F b = some o ∨ H b = none ∨ A b
def New (A : Addr → Prop) (H : Hp) (A' : Addr → Prop) : Prop := ∀ a, A' a → A a ∨ H a = none

section
variable {G : Cn} {F F1 F2 H H1 H2 : Hp} {A A1 A2 : Addr → Prop} {σ : L2.St} {ρ : Rho} {α : Al}
theorem Stp.refl : Stp A F H F H := ⟨Ex.refl F, fun _ _ h _ => h, fun _ _ h => .inl h⟩
theorem New.refl : New A H A := fun _ h => .inl h
theorem Stp.trans (a : Stp A F H F1 H1) (b : Stp A1 F1 H1 F2 H2) (n : New A H A1) : Stp A F H F2 H2 where
  exF := a.exF.trans b.exF
  keep := fun c o h nA => b.keep c o (a.keep c o h nA) fun z => by
    rcases n c z with z | z
    · exact nA z
    · rw [h] at z; cases z
  newF := fun c o h => by
    by_cases hA : A c
    · exact .inr (.inr hA)
    · cases e : H c with
      | none => exact .inr (.inl rfl)
      | some u =>
        have k := a.keep c u e hA
        rcases b.newF c o h with z | z | z
        · rcases a.newF c o z with y | y | y
          · exact .inl y
          · rw [e] at y; cases y
          · exact absurd y hA
        · rw [k] at z; cases z
        · rcases n c z with y | y
          · exact absurd y hA
          · rw [e] at y; cases y
theorem New.trans (a : Stp A F H F1 H1) (n : New A H A1) (m : New A1 H1 A2) : New A H A2 := fun c h => by
  rcases m c h with z | z
  · exact n c z
  · by_cases hA : A c
    · exact .inl hA
    · cases e : H c with
      | none => exact .inr rfl
      | some u =>
        rw [a.keep c u e hA] at z
        cases z
theorem Ste.own (S : Ste G F H σ ρ α) {a : Addr} (h : Own α a) : F a = none ∧ ∃ o, H a = some o := by
  obtain ⟨i, hi⟩ := h
  by_cases q : ∃ o, ρ[i]? = some (some o)
  · obtain ⟨o, ho⟩ := q
    obtain ⟨v, _, r⟩ := S.slot i o ho
    exact r.mem a hi
  · rw [S.off i fun o e => q ⟨o, e⟩] at hi
    cases hi
theorem Ste.fresh (S : Ste G F H σ ρ α) {p : Addr} (h : H p = none) : F p = none := S.ex.back h
theorem Ste.notown (S : Ste G F H σ ρ α) {p : Addr} (h : H p = none) : ¬ Own α p := fun z => by
  obtain ⟨_, o, e⟩ := S.own z
  rw [h] at e
  cases e
/-- a new frozen object -/
theorem Ste.laid (S : Ste G F H σ ρ α) {p : Addr} {o : HO} (h : H p = none) : Ste G (upd F p o) (upd H p o) σ ρ α where
  ex := fun a u e => by
    by_cases q : a = p
    · subst q
      rw [upd_same] at e ⊢
      exact e
    · rw [upd_ne q] at e ⊢
      exact S.ex a u e
  len := S.len
  slot := fun i x e => by
    obtain ⟨v, h1, r⟩ := S.slot i x e
    refine ⟨v, h1, r.move (Ex.new (S.fresh h)) (fun b hb => ?_) fun b hb u e => ?_⟩
    · rw [upd_ne fun z => S.notown h ⟨i, by rw [← z]; exact hb⟩]
      exact (r.mem b hb).1
    · rw [upd_ne fun z => S.notown h ⟨i, by rw [← z]; exact hb⟩]
      exact e
  off := S.off
  dis := S.dis
theorem Ste.laidStp (S : Ste G F H σ ρ α) {p : Addr} {o : HO} (h : H p = none) : Stp A F H (upd F p o) (upd H p o) where
  exF := Ex.new (S.fresh h)
  keep := fun b u e _ => by
    rw [upd_ne (ne_of_none e h)]
    exact e
  newF := fun b u e => by
    by_cases q : b = p
    · subst q
      exact .inr (.inl h)
    · rw [upd_ne q] at e
      exact .inl e
/-- a new object that is not frozen -/
theorem Ste.put (S : Ste G F H σ ρ α) {p : Addr} {o : HO} (h : H p = none) : Ste G F (upd H p o) σ ρ α where
  ex := S.ex.trans (Ex.new h)
  len := S.len
  slot := fun i x e => by
    obtain ⟨v, h1, r⟩ := S.slot i x e
    refine ⟨v, h1, r.move (Ex.refl F) (fun b hb => (r.mem b hb).1) fun b hb u e => ?_⟩
    rw [upd_ne fun z => S.notown h ⟨i, by rw [← z]; exact hb⟩]
    exact e
  off := S.off
  dis := S.dis
theorem Ste.putStp {p : Addr} {o : HO} (h : H p = none) : Stp A F H F (upd H p o) where
  exF := Ex.refl F
  keep := fun b u e _ => by
    rw [upd_ne (ne_of_none e h)]
    exact e
  newF := fun b u e => .inl e
/-- what stands at β is frozen -/
def frzH (F H : Hp) (β : List Addr) : Hp := fun a => if a ∈ β then H a else F a
theorem frz_in {β : List Addr} {a : Addr} (h : a ∈ β) : frzH F H β a = H a := if_pos h
theorem frz_out {β : List Addr} {a : Addr} (h : a ∉ β) : frzH F H β a = F a := if_neg h
theorem Ste.frz (S : Ste G F H σ ρ α) {β : List Addr} (hb : ∀ a ∈ β, ¬ Own α a) (hf : ∀ a ∈ β, F a = none) : Ste G (frzH F H β) H σ ρ α where
  ex := fun a o e => by
    by_cases q : a ∈ β
    · rw [frz_in q] at e
      exact e
    · rw [frz_out q] at e
      exact S.ex a o e
  len := S.len
  slot := fun i x e => by
    obtain ⟨v, h1, r⟩ := S.slot i x e
    refine ⟨v, h1, r.move (fun a o e => ?_) (fun b hb' => ?_) fun b hb' u e => e⟩
    · rw [frz_out fun z => by rw [hf a z] at e; cases e]
      exact e
    · rw [frz_out fun z => hb b z ⟨i, hb'⟩]
      exact (r.mem b hb').1
  off := S.off
  dis := S.dis
theorem frz_ex {β : List Addr} (hf : ∀ a ∈ β, F a = none) : Ex F (frzH F H β) := fun a o e => by
  rw [frz_out fun z => by rw [hf a z] at e; cases e]
  exact e
end

/-! ### what is wanted behind an expression -/
def PostG (G : Cn) (E : XK) (F H : Hp) (α : Al) {A : Type} (okP : A → Rho → Prop) : Option (Rs A × Rho) → Prop
  | none => False
  | some (.ok o, ρ') => okP o ρ'
  | some (.ex c none, _) => ∀ F' H', Stp (Own α) F H F' H' → E (.ref (G.cls c)) none H'
  | some (.ex c (some fs), _) => ∀ F' H' dd fvs, Stp (Own α) F H F' H' → H' dd = some (.xd fvs) → RepsF G F' fvs fs → E (.ref (G.cls c)) (some dd) H'
/-- an expression's value -/
def okV (G : Cn) (F H : Hp) (σ : L2.St) (α : Al) (Q : VK) (o : O) (ρ' : Rho) : Prop :=
  ∀ v F' H' α' β, Ste G F' H' σ ρ' α' → RepO G F' H' β v o → Stp (Own α) F H F' H' → (∀ a ∈ β, ¬ Own α' a) → New (Own α) H (fun a => Own α' a ∨ a ∈ β) → Q v H'
abbrev Post (G : Cn) (E : XK) (F H : Hp) (σ : L2.St) (α : Al) (r : Option (Res × Rho)) (Q : VK) : Prop := PostG G E F H α (okV G F H σ α Q) r
/-- an argument: data, or the object in a slot -/
inductive AI where
  | d (x : D) | io (i : Nat)
def RepA (G : Cn) (F : Hp) (σ : L2.St) : List V → List AI → Prop
  | vs, [] => vs = []
  | vs, .d x :: r => ∃ v ws, vs = v :: ws ∧ Rep G F v x ∧ RepA G F σ ws r
  | vs, .io i :: r => ∃ v ws, vs = v :: ws ∧ σ[i]? = some (some v) ∧ RepA G F σ ws r
def okA (G : Cn) (F H : Hp) (σ : L2.St) (α : Al) (Q : List V → Hp → Prop) (xs : List AI) (ρ' : Rho) : Prop :=
  ∀ vs F' H' α', Ste G F' H' σ ρ' α' → RepA G F' σ vs xs → Stp (Own α) F H F' H' → New (Own α) H (Own α') → Q vs H'
abbrev MA := Rho → Option (Rs (List AI) × Rho)
abbrev PostA (G : Cn) (E : XK) (F H : Hp) (σ : L2.St) (α : Al) (r : Option (Rs (List AI) × Rho)) (Q : List V → Hp → Prop) : Prop := PostG G E F H α (okA G F H σ α Q) r
def bnd {A B : Type} (r : Option (Rs A × Rho)) (k : A → Rho → Option (Rs B × Rho)) : Option (Rs B × Rho) :=
  match r with
  | none => none
  | some (.ok o, ρ) => k o ρ
  | some (.ex c f, ρ) => some (.ex c f, ρ)
section
variable {G : Cn} {E : XK} {F F1 F2 H H1 H2 : Hp} {σ : L2.St} {ρ ρ1 : Rho} {α α1 : Al} {Q R : VK} {A B : Type} {r : Option (Rs A × Rho)} {k : A → Rho → Option (Rs B × Rho)} {okP okP' : A → Rho → Prop} {okQ : B → Rho → Prop}
theorem PostG.bind (h : PostG G E F H α okQ (bnd r k)) (hk : ∀ o ρ1, PostG G E F H α okQ (k o ρ1) → okP o ρ1) : PostG G E F H α okP r := by
  match r, h with
  | none, h => exact h
  | some (.ok o, ρ'), h => exact hk o ρ' h
  | some (.ex c none, _), h => exact h
  | some (.ex c (some fs), _), h => exact h
theorem PostG.shift (s : Stp (Own α) F H F1 H1) (n : New (Own α) H (Own α1)) (h : PostG G E F H α okP r) (hk : ∀ o ρ1, okP o ρ1 → okP' o ρ1) : PostG G E F1 H1 α1 okP' r := by
  match r, h with
  | none, h => exact h
  | some (.ok o, ρ'), h => exact hk o ρ' h
  | some (.ex c none, _), h => exact fun F' H' T => h F' H' (s.trans T n)
  | some (.ex c (some fs), _), h => exact fun F' H' dd fvs T d3 d4 => h F' H' dd fvs (s.trans T n) d3 d4
theorem Post.shift {r : Option (Res × Rho)} (s : Stp (Own α) F H F1 H1) (n : New (Own α) H (Own α1)) (h : Post G E F H σ α r Q) : Post G E F1 H1 σ α1 r Q :=
  PostG.shift s n h fun o ρ1 hq v F' H' α' β S R T N1 N2 => hq v F' H' α' β S R (s.trans T n) N1 (New.trans s n N2)
theorem PostA.shift {r : Option (Rs (List AI) × Rho)} {Q : List V → Hp → Prop} (s : Stp (Own α) F H F1 H1) (n : New (Own α) H (Own α1)) (h : PostA G E F H σ α r Q) : PostA G E F1 H1 σ α1 r Q :=
  PostG.shift s n h fun o ρ1 hq v F' H' α' S R T N2 => hq v F' H' α' S R (s.trans T n) (New.trans s n N2)
theorem Ste.freeze {o : O} {v : V} {β : List Addr} {ρ1 : Rho} (S : Ste G F1 H1 σ ρ1 α1) (r : RepO G F1 H1 β v o) (T : Stp (Own α) F H F1 H1) (N1 : ∀ a ∈ β, ¬ Own α1 a) (N2 : New (Own α) H (fun a => Own α1 a ∨ a ∈ β)) :
    ∃ F2, Ste G F2 H1 σ ρ1 α1 ∧ Rep G F2 v o.frz ∧ Stp (Own α) F H F2 H1 ∧ New (Own α) H (Own α1) := by
  have hf : ∀ a ∈ β, F1 a = none := fun a ha => (r.mem a ha).1
  have T2 : Stp (fun a => Own α1 a ∨ a ∈ β) F1 H1 (frzH F1 H1 β) H1 := ⟨frz_ex hf, fun _ _ e _ => e, fun b o e => by
    by_cases q : b ∈ β
    · exact .inr (.inr (.inr q))
    · rw [frz_out q] at e
      exact .inl e⟩
  exact ⟨frzH F1 H1 β, S.frz N1 hf, r.frz (frz_ex hf) (fun b hb u e => by rw [frz_in hb]; exact e), T.trans T2 N2, fun a z => N2 a (.inl z)⟩
/-- from an expression on, the value frozen; w: how what is wanted moves to the new state -/
theorem Post.to {r : Option (Res × Rho)} {k : O → Rho → Option (Rs B × Rho)} (h : PostG G E F H α okQ (bnd r k))
    (hk : ∀ o ρ1 v F1 H1 α1, Ste G F1 H1 σ ρ1 α1 → Rep G F1 v o.frz → Stp (Own α) F H F1 H1 → New (Own α) H (Own α1) → PostG G E F H α okQ (k o ρ1) → R v H1) : Post G E F H σ α r R :=
  PostG.bind h fun o ρ1 hp v F1 H1 α1 β S r T N1 N2 => by
    obtain ⟨F2, S2, r2, T2, N3⟩ := S.freeze r T N1 N2
    exact hk o ρ1 v F2 H1 α1 S2 r2 T2 N3 hp
/-- the end: data, nothing changed -/
theorem Post.val {d : D} {v : V} (h : Post G E F H σ α (some (.ok (.val d), ρ)) Q) (S : Ste G F H σ ρ α) (r : Rep G F v d) : Q v H :=
  h v F H α [] S ⟨rfl, r⟩ .refl (fun _ z => nomatch z) fun a z => by
    rcases z with z | z
    · exact .inl z
    · cases z
/-- the end: a new frozen object -/
theorem Post.newV {d : D} {p : Addr} {o : HO} (h : Post G E F H σ α (some (.ok (.val d), ρ)) Q) (S : Ste G F H σ ρ α) (hp : H p = none) (r : Rep G (upd F p o) (.ref p) d) : Q (.ref p) (upd H p o) :=
  h (.ref p) (upd F p o) (upd H p o) α [] (S.laid hp) ⟨rfl, r⟩ (S.laidStp hp) (fun _ z => nomatch z) fun a z => by
    rcases z with z | z
    · exact .inl z
    · cases z
/-- a new list of one's own -/
theorem Post.newL {ds : List D} {vs : List V} {p : Addr} (h : Post G E F H σ α (some (.ok (.lst ds), ρ)) Q) (S : Ste G F H σ ρ α) (hp : H p = none) (r : Reps G F vs ds) : Q (.ref p) (upd H p (.lst vs)) :=
  h (.ref p) F (upd H p (.lst vs)) α [p] (S.put hp) ⟨p, vs, rfl, rfl, S.fresh hp, upd_same, r⟩ (Ste.putStp hp) (fun a z => by
    have : a = p := by simpa using z
    subst this
    exact S.notown hp) fun a z => by
    rcases z with z | z
    · exact .inl z
    · have : a = p := by simpa using z
      subst this
      exact .inr hp
theorem Post.newD {ds : List (Key × D)} {vs : List (Key × V)} {p : Addr} (h : Post G E F H σ α (some (.ok (.dic ds), ρ)) Q) (S : Ste G F H σ ρ α) (hp : H p = none) (r : RepsK G F vs ds) : Q (.ref p) (upd H p (.dK vs)) :=
  h (.ref p) F (upd H p (.dK vs)) α [p] (S.put hp) ⟨p, vs, rfl, rfl, S.fresh hp, upd_same, r⟩ (Ste.putStp hp) (fun a z => by
    have : a = p := by simpa using z
    subst this
    exact S.notown hp) fun a z => by
    rcases z with z | z
    · exact .inl z
    · have : a = p := by simpa using z
      subst this
      exact .inr hp
theorem RepA.mono (e : Ex F F1) : ∀ {vs : List V} {xs : List AI}, RepA G F σ vs xs → RepA G F1 σ vs xs
  | _, [], h => h
  | _, .d x :: r, h => by
    obtain ⟨v, ws, e1, e2, e3⟩ := h
    exact ⟨v, ws, e1, e2.mono e, RepA.mono e e3⟩
  | _, .io i :: r, h => by
    obtain ⟨v, ws, e1, e2, e3⟩ := h
    exact ⟨v, ws, e1, e2, RepA.mono e e3⟩
end
end VL

namespace VL
open PySem PySem.Spec
open PyProof.Rows L2
open Evl (Ex sz_of)

/-! ### operands: data, or what a slot holds -/
def RepX (G : Cn) (F H : Hp) (v : V) (d : D) : Prop :=
  Rep G F v d ∨ (∃ ds a vs, d = .lst ds ∧ v = .ref a ∧ H a = some (.lst vs) ∧ Reps G F vs ds) ∨ (∃ ds a vs, d = .dic ds ∧ v = .ref a ∧ H a = some (.dK vs) ∧ RepsK G F vs ds) ∨
    ∃ c fs a dx fvs, d = .ins c fs ∧ v = .ref a ∧ H a = some (.ins (G.cls c) dx fvs) ∧ RepsF G F fvs fs
def RepXs (G : Cn) (F H : Hp) : List V → List D → Prop
  | vs, [] => vs = []
  | vs, d :: ds => ∃ v r, vs = v :: r ∧ RepX G F H v d ∧ RepXs G F H r ds
/-- what may be looked at as it stands -/
def O.pk : O → Option D
  | .ll _ => none
  | o => some o.frz
section
variable {G : Cn} {F H : Hp} {v : V}
theorem RepO.x {β : List Addr} {o : O} {d : D} (h : RepO G F H β v o) (e : o.pk = some d) : RepX G F H v d := by
  cases o with
  | val d' =>
    cases e
    exact .inl h.2
  | lst ds =>
    cases e
    obtain ⟨a, vs, rfl, _, _, e2, e3⟩ := h
    exact .inr (.inl ⟨ds, a, vs, rfl, rfl, e2, e3⟩)
  | dic ds =>
    cases e
    obtain ⟨a, vs, rfl, _, _, e2, e3⟩ := h
    exact .inr (.inr (.inl ⟨ds, a, vs, rfl, rfl, e2, e3⟩))
  | ins c fs =>
    cases e
    obtain ⟨a, dx, vs, rfl, _, _, _, _, e3, _, e5⟩ := h
    exact .inr (.inr (.inr ⟨c, fs, a, dx, vs, rfl, rfl, e3, e5⟩))
  | ll dss => cases e
theorem RepX.l {ds : List D} (h : RepX G F H v (.lst ds)) (e : Ex F H) : ∃ a vs, v = .ref a ∧ H a = some (.lst vs) ∧ Reps G F vs ds := by
  rcases h with h | ⟨ds', a, vs, q, e1, e2, e3⟩ | ⟨ds', a, vs, q, _⟩ | ⟨c, fs, a, dx, fvs, q, _⟩
  · unfold Rep at h
    obtain ⟨a, vs, e1, e2, e3⟩ := h
    exact ⟨a, vs, e1, e _ _ e2, e3⟩
  · cases q
    exact ⟨a, vs, e1, e2, e3⟩
  · cases q
  · cases q
theorem RepX.t {ds : List D} (h : RepX G F H v (.tup ds)) (e : Ex F H) : ∃ a vs, v = .ref a ∧ F a = some (.tup vs) ∧ H a = some (.tup vs) ∧ Reps G F vs ds := by
  rcases h with h | ⟨ds', a, vs, q, e1, e2, e3⟩ | ⟨ds', a, vs, q, _⟩ | ⟨c, fs, a, dx, fvs, q, _⟩
  · unfold Rep at h
    obtain ⟨a, vs, e1, e2, e3⟩ := h
    exact ⟨a, vs, e1, e2, e _ _ e2, e3⟩
  · cases q
  · cases q
  · cases q
theorem RepX.k {ds : List (Key × D)} (h : RepX G F H v (.dic ds)) (e : Ex F H) : ∃ a vs, v = .ref a ∧ H a = some (.dK vs) ∧ RepsK G F vs ds := by
  rcases h with h | ⟨ds', a, vs, q, e1, e2, e3⟩ | ⟨ds', a, vs, q, e1, e2, e3⟩ | ⟨c, fs, a, dx, fvs, q, _⟩
  · unfold Rep at h
    obtain ⟨a, vs, e1, e2, e3⟩ := h
    exact ⟨a, vs, e1, e _ _ e2, e3⟩
  · cases q
  · cases q
    exact ⟨a, vs, e1, e2, e3⟩
  · cases q
theorem RepX.i {c : Nat} {fs : List (Str × D)} (h : RepX G F H v (.ins c fs)) (e : Ex F H) : ∃ a dx fvs, v = .ref a ∧ H a = some (.ins (G.cls c) dx fvs) ∧ RepsF G F fvs fs := by
  rcases h with h | ⟨ds', a, vs, q, e1, e2, e3⟩ | ⟨ds', a, vs, q, e1, e2, e3⟩ | ⟨c', fs', a, dx, fvs, q, e1, e2, e3⟩
  · unfold Rep at h
    obtain ⟨a, dx, vs, e1, e2, e3⟩ := h
    exact ⟨a, dx, vs, e1, e _ _ e2, e3⟩
  · cases q
  · cases q
  · cases q
    exact ⟨a, dx, fvs, e1, e2, e3⟩
theorem RepX.non (h : RepX G F H v .non) : v = .non := by
  rcases h with h | ⟨_, _, _, q, _⟩ | ⟨_, _, _, q, _⟩ | ⟨_, _, _, _, _, q, _⟩
  · unfold Rep at h; exact h
  all_goals cases q
theorem RepX.bl {b : Bool} (h : RepX G F H v (.bl b)) : v = .bl b := by
  rcases h with h | ⟨_, _, _, q, _⟩ | ⟨_, _, _, q, _⟩ | ⟨_, _, _, _, _, q, _⟩
  · unfold Rep at h; exact h
  all_goals cases q
theorem RepX.int {i : Int} (h : RepX G F H v (.int i)) : v = .int i := by
  rcases h with h | ⟨_, _, _, q, _⟩ | ⟨_, _, _, q, _⟩ | ⟨_, _, _, _, _, q, _⟩
  · unfold Rep at h; exact h
  all_goals cases q
theorem RepX.str {x : Str} (h : RepX G F H v (.str x)) : v = .str x := by
  rcases h with h | ⟨_, _, _, q, _⟩ | ⟨_, _, _, q, _⟩ | ⟨_, _, _, _, _, q, _⟩
  · unfold Rep at h; exact h
  all_goals cases q
theorem Rep.ofBl {b : Bool} : Rep G F (.bl b) (.bl b) := by unfold Rep; rfl
theorem Rep.ofInt {b : Int} : Rep G F (.int b) (.int b) := by unfold Rep; rfl
theorem Rep.ofStr {b : Str} : Rep G F (.str b) (.str b) := by unfold Rep; rfl
theorem Rep.ofNon : Rep G F .non .non := by unfold Rep; rfl
theorem Rep.ofTup {a : Addr} {vs : List V} {ds : List D} (h : F a = some (.tup vs)) (r : Reps G F vs ds) : Rep G F (.ref a) (.tup ds) := by unfold Rep; exact ⟨a, vs, rfl, h, r⟩
theorem Rep.ofLst {a : Addr} {vs : List V} {ds : List D} (h : F a = some (.lst vs)) (r : Reps G F vs ds) : Rep G F (.ref a) (.lst ds) := by unfold Rep; exact ⟨a, vs, rfl, h, r⟩
theorem Reps.x {vs : List V} : ∀ {vs : List V} {ds : List D}, Reps G F vs ds → RepXs G F H vs ds
  | _, [], h => h.of_nil
  | _, d :: ds, h => by
    obtain ⟨v, r, e1, e2, e3⟩ := h.of_cons
    exact ⟨v, r, e1, .inl e2, Reps.x (vs := r) e3⟩
end

/-! ### the semantics of readings -/
structure Sem (G : Cn) (E : XK) (t : TE) (m : M) : Prop where
  run : ∀ {F H σ ρ α Q}, Ste G F H σ ρ α → Post G E F H σ α (m ρ) Q → t σ H Q
structure SemT (G : Cn) (E : XK) (t : TT) (m : M) : Prop where
  run : ∀ {F H σ ρ α} {Q : Bool → Hp → Prop}, Ste G F H σ ρ α → Post G E F H σ α (m ρ) (fun v H' => ∃ b, v = .bl b ∧ Q b H') → t σ H Q
structure SemA (G : Cn) (E : XK) (t : TA) (m : MA) : Prop where
  run : ∀ {F H σ ρ α Q}, Ste G F H σ ρ α → PostA G E F H σ α (m ρ) Q → t σ H Q
/-- an operator, a call, by values -/
def OSem (G : Cn) (r : R2) (f : D → D → Option O) : Prop :=
  ∀ {E : XK} {F H σ ρ α Q x y dx dy}, Ste G F H σ ρ α → RepX G F H x dx → RepX G F H y dy → Post G E F H σ α ((f dx dy).map fun o => (.ok o, ρ)) Q → r x y H Q
def CSem (G : Cn) (r : List V → Hp → VK → Prop) (f : List D → Option O) : Prop :=
  ∀ {E : XK} {F H σ ρ α Q vs ds}, Ste G F H σ ρ α → RepXs G F H vs ds → Post G E F H σ α ((f ds).map fun o => (.ok o, ρ)) Q → r vs H Q

def mVar (i : Nat) : M := fun ρ => match ρ[i]? with
  | some (some (.val d)) => some (.ok (.val d), ρ)
  | _ => none
def mC (d : D) : M := fun ρ => some (.ok (.val d), ρ)
def mOp2 (f : D → D → Option O) (a b : M) : M := fun ρ => bnd (a ρ) fun x ρ1 => bnd (b ρ1) fun y ρ2 => (f x.frz y.frz).map fun o => (.ok o, ρ2)
def look (ρ : Rho) (i : Nat) : Option D := match ρ[i]? with
  | some (some o) => o.pk
  | _ => none
/-- the left operand stands in a slot: it is looked at as it stands -/
def mOpL (f : D → D → Option O) (i : Nat) (b : M) : M := fun ρ => (look ρ i).bind fun _ => bnd (b ρ) fun y ρ1 => (look ρ1 i).bind fun x => (f x y.frz).map fun o => (.ok o, ρ1)
def mOpR (f : D → D → Option O) (a : M) (i : Nat) : M := fun ρ => bnd (a ρ) fun x ρ1 => (look ρ1 i).bind fun y => (f x.frz y).map fun o => (.ok o, ρ1)
/-- and, or, not, if -/
def mAnd (a b : M) : M := fun ρ => bnd (a ρ) fun x ρ1 => match x.frz with
  | .bl true => b ρ1
  | .bl false => some (.ok (.val (.bl false)), ρ1)
  | _ => none
def mOr (a b : M) : M := fun ρ => bnd (a ρ) fun x ρ1 => match x.frz with
  | .bl false => b ρ1
  | .bl true => some (.ok (.val (.bl true)), ρ1)
  | _ => none
def mNot (a : M) : M := fun ρ => bnd (a ρ) fun x ρ1 => match x.frz with
  | .bl b => some (.ok (.val (.bl (!b))), ρ1)
  | _ => none
def mIf (c a b : M) : M := fun ρ => bnd (c ρ) fun x ρ1 => match x.frz with
  | .bl true => a ρ1
  | .bl false => b ρ1
  | _ => none
def aNil : MA := fun ρ => some (.ok [], ρ)
def aCons (a : M) (r : MA) : MA := fun ρ => bnd (a ρ) fun x ρ1 => bnd (r ρ1) fun xs ρ2 => some (.ok (.d x.frz :: xs), ρ2)
def aIo (i : Nat) (r : MA) : MA := fun ρ => bnd (r ρ) fun xs ρ2 => some (.ok (.io i :: xs), ρ2)
/-- arguments, all of them data, or slots that are looked at -/
def dsOf (ρ : Rho) : List AI → Option (List D)
  | [] => some []
  | .d x :: r => (dsOf ρ r).map (x :: ·)
  | .io i :: r => (look ρ i).bind fun x => (dsOf ρ r).map (x :: ·)
def mCB (f : List D → Option O) (ms : MA) : M := fun ρ => bnd (ms ρ) fun xs ρ1 => (dsOf ρ1 xs).bind fun ds => (f ds).map fun o => (.ok o, ρ1)
def mTup (ms : MA) : M := fun ρ => bnd (ms ρ) fun xs ρ1 => (dsOf [] xs).bind fun ds => if ds.length ≤ 100000 then some (.ok (.val (.tup ds)), ρ1) else none
def mLst (ms : MA) : M := fun ρ => bnd (ms ρ) fun xs ρ1 => (dsOf [] xs).bind fun ds => if ds.length ≤ 100000 then some (.ok (.lst ds), ρ1) else none

section
variable {G : Cn} {E : XK} {ta tb tc : TE} {t u : TT} {ma mb mc : M} {r : R2} {f : D → D → Option O} {i : Nat}
theorem sem_var : Sem G E (tVar i) (mVar i) := ⟨fun {F H σ ρ α Q} S h => by
  unfold mVar at h
  split at h
  · rename_i d e
    obtain ⟨v, h1, r⟩ := S.slot i _ e
    exact ⟨v, h1, Post.val h S r.2⟩
  · exact h.elim⟩
theorem sem_c {v : V} {d : D} (hr : ∀ F, Rep G F v d) : Sem G E (tC v) (mC d) := ⟨fun {F H σ ρ α Q} S h => Post.val h S (hr F)⟩
theorem sem_int {n : Int} : Sem G E (tC (.int n)) (mC (.int n)) := sem_c fun _ => Rep.ofInt
theorem sem_bl {n : Bool} : Sem G E (tC (.bl n)) (mC (.bl n)) := sem_c fun _ => Rep.ofBl
theorem sem_str {n : Str} : Sem G E (tC (.str n)) (mC (.str n)) := sem_c fun _ => Rep.ofStr
theorem sem_non : Sem G E (tC .non) (mC .non) := sem_c fun _ => Rep.ofNon
theorem sem_op (hr : OSem G r f) (ha : Sem G E ta ma) (hb : Sem G E tb mb) : Sem G E (tOp r ta tb) (mOp2 f ma mb) := ⟨fun S h =>
  ha.run S (Post.to h fun o ρ1 v F1 H1 α1 S1 r1 T1 N1 h1 => hb.run S1 (Post.to (Post.shift T1 N1 h1) fun o2 ρ2 v2 F2 H2 α2 S2 r2 T2 N2 h2 =>
    hr S2 (.inl (r1.mono T2.exF)) (.inl r2) (Post.shift T2 N2 h2)))⟩
theorem look_x {F H : Hp} {σ : L2.St} {ρ : Rho} {α : Al} {d : D} (S : Ste G F H σ ρ α) (e : look ρ i = some d) : ∃ v, σ[i]? = some (some v) ∧ RepX G F H v d := by
  unfold look at e
  split at e
  · rename_i o e1
    obtain ⟨v, h1, r⟩ := S.slot i o e1
    exact ⟨v, h1, r.x e⟩
  · cases e
theorem sem_opL (hr : OSem G r f) (hb : Sem G E tb mb) : Sem G E (tOp r (tVar i) tb) (mOpL f i mb) := ⟨fun {F H σ ρ α Q} S h => by
  unfold mOpL at h
  cases e : look ρ i with
  | none => rw [e] at h; exact h.elim
  | some d0 =>
    rw [e] at h
    obtain ⟨v, hv, _⟩ := look_x S e
    refine ⟨v, hv, hb.run S (Post.to h fun o ρ1 v2 F1 H1 α1 S1 r1 T1 N1 h1 => ?_)⟩
    cases e1 : look ρ1 i with
    | none => rw [e1] at h1; exact h1.elim
    | some d1 =>
      rw [e1] at h1
      obtain ⟨v', hv', rx⟩ := look_x S1 e1
      rw [hv] at hv'
      cases hv'
      exact hr S1 rx (.inl r1) (Post.shift T1 N1 h1)⟩
theorem sem_opR (hr : OSem G r f) (ha : Sem G E ta ma) : Sem G E (tOp r ta (tVar i)) (mOpR f ma i) := ⟨fun {F H σ ρ α Q} S h => by
  refine ha.run S (Post.to h fun o ρ1 v2 F1 H1 α1 S1 r1 T1 N1 h1 => ?_)
  cases e1 : look ρ1 i with
  | none => rw [e1] at h1; exact h1.elim
  | some d1 =>
    rw [e1] at h1
    obtain ⟨v', hv', rx⟩ := look_x S1 e1
    exact ⟨v', hv', hr S1 (.inl r1) rx (Post.shift T1 N1 h1)⟩⟩
theorem frz_bl {F H : Hp} {v : V} {o : O} {b : Bool} (r : Rep G F v o.frz) (e : o.frz = .bl b) : v = .bl b := by
  rw [e] at r
  unfold Rep at r
  exact r
theorem sem_andV (ha : Sem G E ta ma) (hb : Sem G E tb mb) : Sem G E (tAndV ta tb) (mAnd ma mb) := ⟨fun {F H σ ρ α Q} S h => by
  refine ha.run S (Post.to h fun o ρ1 v F1 H1 α1 S1 r1 T1 N1 h1 => ?_)
  try dsimp only at h1
  split at h1
  · rename_i e
    refine ⟨true, frz_bl (H := H) r1 e, ?_⟩
    rw [if_pos rfl]
    exact hb.run S1 (Post.shift T1 N1 h1)
  · rename_i e
    refine ⟨false, frz_bl (H := H) r1 e, ?_⟩
    rw [if_neg Bool.false_ne_true]
    exact Post.val (Post.shift T1 N1 h1) S1 Rep.ofBl
  · exact h1.elim⟩
theorem sem_orV (ha : Sem G E ta ma) (hb : Sem G E tb mb) : Sem G E (tOrV ta tb) (mOr ma mb) := ⟨fun {F H σ ρ α Q} S h => by
  refine ha.run S (Post.to h fun o ρ1 v F1 H1 α1 S1 r1 T1 N1 h1 => ?_)
  try dsimp only at h1
  split at h1
  · rename_i e
    refine ⟨false, frz_bl (H := H) r1 e, ?_⟩
    rw [if_neg Bool.false_ne_true]
    exact hb.run S1 (Post.shift T1 N1 h1)
  · rename_i e
    refine ⟨true, frz_bl (H := H) r1 e, ?_⟩
    rw [if_pos rfl]
    exact Post.val (Post.shift T1 N1 h1) S1 Rep.ofBl
  · exact h1.elim⟩
theorem sem_notV (ha : Sem G E ta ma) : Sem G E (tNotV ta) (mNot ma) := ⟨fun {F H σ ρ α Q} S h => by
  refine ha.run S (Post.to h fun o ρ1 v F1 H1 α1 S1 r1 T1 N1 h1 => ?_)
  try dsimp only at h1
  split at h1
  · rename_i b e
    exact ⟨b, frz_bl (H := H) r1 e, Post.val (Post.shift T1 N1 h1) S1 Rep.ofBl⟩
  · exact h1.elim⟩
/-- tests -/
theorem semT_val (ha : Sem G E ta ma) : SemT G E (tB ta) ma := ⟨fun S h => ha.run S h⟩
theorem semT_test (ha : Sem G E ta ma) : SemT G E (tTest ta) ma := ⟨fun S h => ha.run S h⟩
theorem okV_bl {F H : Hp} {σ : L2.St} {ρ : Rho} {α : Al} {Q : Bool → Hp → Prop} {b : Bool} (S : Ste G F H σ ρ α) (h : Post G E F H σ α (some (.ok (.val (.bl b)), ρ)) fun v H' => ∃ b, v = .bl b ∧ Q b H') : Q b H := by
  obtain ⟨b', e, q⟩ := Post.val h S Rep.ofBl
  cases e
  exact q
theorem SemT.to {F H : Hp} {σ : L2.St} {ρ : Rho} {α : Al} {B : Type} {k : O → Rho → Option (Rs B × Rho)} {okQ : B → Rho → Prop} {R : Bool → Hp → Prop} (ht : SemT G E t ma) (S : Ste G F H σ ρ α) (h : PostG G E F H α okQ (bnd (ma ρ) k))
    (hk : ∀ o ρ1 b F1 H1 α1, Ste G F1 H1 σ ρ1 α1 → (∀ c, o.frz = .bl c → b = c) → Stp (Own α) F H F1 H1 → New (Own α) H (Own α1) → (∃ c, o.frz = .bl c) → PostG G E F H α okQ (k o ρ1) → R b H1)
    (hk0 : ∀ o ρ1, (∀ c, o.frz ≠ .bl c) → PostG G E F H α okQ (k o ρ1) → False) : t σ H R :=
  ht.run S (Post.to h fun o ρ1 v F1 H1 α1 S1 r1 T1 N1 h1 => by
    by_cases q : ∃ c, o.frz = .bl c
    · obtain ⟨c, e⟩ := q
      exact ⟨c, frz_bl (H := H) r1 e, hk o ρ1 c F1 H1 α1 S1 (fun c' e' => by rw [e] at e'; cases e'; rfl) T1 N1 ⟨c, e⟩ h1⟩
    · exact (hk0 o ρ1 (fun c e => q ⟨c, e⟩) h1).elim)
theorem bl_or {B : Type} {A : Type} (o : O) {x y z : A} : (∃ c, o.frz = .bl c) ∨ (∀ c, o.frz ≠ .bl c) := by
  by_cases q : ∃ c, o.frz = .bl c
  · exact .inl q
  · exact .inr fun c e => q ⟨c, e⟩
theorem semT_and (ha : SemT G E t ma) (hb : SemT G E u mb) : SemT G E (tAnd t u) (mAnd ma mb) := ⟨fun {F H σ ρ α Q} S h => by
  refine ha.to S h (fun o ρ1 b F1 H1 α1 S1 hb1 T1 N1 hc h1 => ?_) fun o ρ1 hn h1 => ?_
  · obtain ⟨c, e⟩ := hc
    obtain rfl := hb1 c e
    try dsimp only at h1
    rw [e] at h1
    cases b with
    | true => exact hb.run S1 (Post.shift T1 N1 h1)
    | false => exact okV_bl S1 (Post.shift T1 N1 h1)
  · try dsimp only at h1
    split at h1
    · rename_i e
      exact hn _ e
    · rename_i e
      exact hn _ e
    · exact h1⟩
theorem semT_or (ha : SemT G E t ma) (hb : SemT G E u mb) : SemT G E (tOr t u) (mOr ma mb) := ⟨fun {F H σ ρ α Q} S h => by
  refine ha.to S h (fun o ρ1 b F1 H1 α1 S1 hb1 T1 N1 hc h1 => ?_) fun o ρ1 hn h1 => ?_
  · obtain ⟨c, e⟩ := hc
    obtain rfl := hb1 c e
    try dsimp only at h1
    rw [e] at h1
    cases b with
    | false => exact hb.run S1 (Post.shift T1 N1 h1)
    | true => exact okV_bl S1 (Post.shift T1 N1 h1)
  · try dsimp only at h1
    split at h1
    · rename_i e
      exact hn _ e
    · rename_i e
      exact hn _ e
    · exact h1⟩
theorem semT_not (ha : SemT G E t ma) : SemT G E (tNot t) (mNot ma) := ⟨fun {F H σ ρ α Q} S h => by
  refine ha.to S h (fun o ρ1 b F1 H1 α1 S1 hb1 T1 N1 hc h1 => ?_) fun o ρ1 hn h1 => ?_
  · obtain ⟨c, e⟩ := hc
    obtain rfl := hb1 c e
    try dsimp only at h1
    rw [e] at h1
    exact okV_bl S1 (Post.shift T1 N1 h1)
  · try dsimp only at h1
    split at h1
    · rename_i e
      exact hn _ e
    · exact h1⟩
theorem sem_if (hc : SemT G E t mc) (ha : Sem G E ta ma) (hb : Sem G E tb mb) : Sem G E (tIf t ta tb) (mIf mc ma mb) := ⟨fun {F H σ ρ α Q} S h => by
  refine hc.to S h (fun o ρ1 b F1 H1 α1 S1 hb1 T1 N1 hc h1 => ?_) fun o ρ1 hn h1 => ?_
  · obtain ⟨c, e⟩ := hc
    obtain rfl := hb1 c e
    try dsimp only at h1
    rw [e] at h1
    cases b with
    | true => exact ha.run S1 (Post.shift T1 N1 h1)
    | false => exact hb.run S1 (Post.shift T1 N1 h1)
  · try dsimp only at h1
    split at h1
    · rename_i e
      exact hn _ e
    · rename_i e
      exact hn _ e
    · exact h1⟩
/-! ### argument lists -/
variable {tr : TA} {mr : MA}
theorem PostA.done {F H : Hp} {σ : L2.St} {ρ : Rho} {α : Al} {Q : List V → Hp → Prop} {xs : List AI} {vs : List V} (h : PostA G E F H σ α (some (.ok xs, ρ)) Q) (S : Ste G F H σ ρ α) (r : RepA G F σ vs xs) : Q vs H :=
  h vs F H α S r .refl .refl
theorem semA_nil : SemA G E tNil aNil := ⟨fun S h => PostA.done h S rfl⟩
theorem PostA.to {F H : Hp} {σ : L2.St} {α : Al} {B : Type} {k : List AI → Rho → Option (Rs B × Rho)} {okQ : B → Rho → Prop} {R : List V → Hp → Prop} {r : Option (Rs (List AI) × Rho)} (h : PostG G E F H α okQ (bnd r k))
    (hk : ∀ xs ρ1 vs F1 H1 α1, Ste G F1 H1 σ ρ1 α1 → RepA G F1 σ vs xs → Stp (Own α) F H F1 H1 → New (Own α) H (Own α1) → PostG G E F H α okQ (k xs ρ1) → R vs H1) : PostA G E F H σ α r R :=
  PostG.bind h fun xs ρ1 hp vs F1 H1 α1 S r T N => hk xs ρ1 vs F1 H1 α1 S r T N hp
theorem semA_cons (ha : Sem G E ta ma) (hr : SemA G E tr mr) : SemA G E (tCons ta tr) (aCons ma mr) := ⟨fun {F H σ ρ α Q} S h =>
  ha.run S (Post.to h fun o ρ1 v F1 H1 α1 S1 r1 T1 N1 h1 => hr.run S1 (PostA.to (PostA.shift T1 N1 h1) fun xs ρ2 vs F2 H2 α2 S2 r2 T2 N2 h2 =>
    PostA.done (PostA.shift T2 N2 h2) S2 ⟨v, vs, rfl, r1.mono T2.exF, r2⟩))⟩
theorem semA_io (hr : SemA G E tr mr) : SemA G E (tCons (tVar i) tr) (fun ρ => (look ρ i).bind fun _ => aIo i mr ρ) := ⟨fun {F H σ ρ α Q} S h => by
  cases e : look ρ i with
  | none => rw [e] at h; exact h.elim
  | some d =>
    skip
    rw [e] at h
    obtain ⟨v, hv, _⟩ := look_x S e
    exact ⟨v, hv, hr.run S (PostA.to h fun xs ρ2 vs F2 H2 α2 S2 r2 T2 N2 h2 => PostA.done (PostA.shift T2 N2 h2) S2 ⟨v, vs, rfl, hv, r2⟩)⟩⟩
theorem dsOf_x {F H : Hp} {σ : L2.St} {ρ : Rho} {α : Al} (S : Ste G F H σ ρ α) : ∀ {vs : List V} {xs : List AI} {ds : List D}, RepA G F σ vs xs → dsOf ρ xs = some ds → RepXs G F H vs ds
  | _, [], ds, h, e => by
    cases e
    exact h
  | _, .d x :: r, ds, h, e => by
    obtain ⟨v, ws, rfl, e2, e3⟩ := h
    unfold dsOf at e
    cases q : dsOf ρ r with
    | none => rw [q] at e; cases e
    | some es =>
      rw [q] at e
      cases e
      exact ⟨v, ws, rfl, .inl e2, dsOf_x S e3 q⟩
  | _, .io i :: r, ds, h, e => by
    obtain ⟨v, ws, rfl, e2, e3⟩ := h
    unfold dsOf at e
    cases q0 : look ρ i with
    | none => rw [q0] at e; cases e
    | some d0 =>
      rw [q0] at e
      cases q : dsOf ρ r with
      | none => rw [q] at e; cases e
      | some es =>
        rw [q] at e
        cases e
        obtain ⟨v', hv', rx⟩ := look_x S q0
        rw [e2] at hv'
        cases hv'
        exact ⟨v, ws, rfl, rx, dsOf_x S e3 q⟩
theorem dsOf_r {F : Hp} {σ : L2.St} : ∀ {vs : List V} {xs : List AI} {ds : List D}, RepA G F σ vs xs → dsOf [] xs = some ds → Reps G F vs ds
  | _, [], ds, h, e => by
    cases e
    rw [show _ = [] from h]
    exact Reps.nil
  | _, .d x :: r, ds, h, e => by
    obtain ⟨v, ws, rfl, e2, e3⟩ := h
    unfold dsOf at e
    cases q : dsOf [] r with
    | none => rw [q] at e; cases e
    | some es =>
      rw [q] at e
      cases e
      exact Reps.cons e2 (dsOf_r e3 q)
  | _, .io i :: r, ds, h, e => by
    unfold dsOf look at e
    simp at e
theorem sem_cb {r : List V → Hp → VK → Prop} {f : List D → Option O} (hc : CSem G r f) (hr : SemA G E tr mr) : Sem G E (tCB r tr) (mCB f mr) := ⟨fun {F H σ ρ α Q} S h =>
  hr.run S (PostA.to h fun xs ρ1 vs F1 H1 α1 S1 r1 T1 N1 h1 => by
    cases e : dsOf ρ1 xs with
    | none => rw [e] at h1; exact h1.elim
    | some ds =>
      rw [e] at h1
      exact hc S1 (dsOf_x S1 r1 e) (Post.shift T1 N1 h1))⟩
theorem sem_tup (hr : SemA G E tr mr) : Sem G E (tTup tr) (mTup mr) := ⟨fun {F H σ ρ α Q} S h =>
  hr.run S (PostA.to h fun xs ρ1 vs F1 H1 α1 S1 r1 T1 N1 h1 => by
    cases e : dsOf [] xs with
    | none => rw [e] at h1; exact h1.elim
    | some ds =>
      rw [e] at h1
      have rr := dsOf_r r1 e
      dsimp only [Option.bind] at h1
      split at h1
      · rename_i hl
        refine ⟨sz_of (by rw [rr.length]; exact hl), fun p hp => Post.newV (Post.shift T1 N1 h1) S1 hp (Rep.ofTup upd_same (rr.mono (Ex.new (S1.fresh hp))))⟩
      · exact h1.elim)⟩
theorem sem_lst (hr : SemA G E tr mr) : Sem G E (tLst tr) (mLst mr) := ⟨fun {F H σ ρ α Q} S h =>
  hr.run S (PostA.to h fun xs ρ1 vs F1 H1 α1 S1 r1 T1 N1 h1 => by
    cases e : dsOf [] xs with
    | none => rw [e] at h1; exact h1.elim
    | some ds =>
      rw [e] at h1
      have rr := dsOf_r r1 e
      dsimp only [Option.bind] at h1
      split at h1
      · rename_i hl
        refine ⟨sz_of (by rw [rr.length]; exact hl), fun p hp => Post.newL (Post.shift T1 N1 h1) S1 hp rr⟩
      · exact h1.elim)⟩
end
end VL

namespace VL
open PySem PySem.Spec
open PyProof.Rows L2
open Evl (Ex sz_of)

/-! ### statements -/
inductive Fl where
  | nx | ret (o : O) | bk | ct
abbrev MS := List Nat → Rho → Option (Rs Fl × Rho)
def Pin (pins : List Nat) (σ σ' : L2.St) : Prop := ∀ i ∈ pins, σ'[i]? = σ[i]?
theorem Pin.refl {pins : List Nat} {σ : L2.St} : Pin pins σ σ := fun _ _ => rfl
theorem Pin.trans {pins : List Nat} {σ σ1 σ2 : L2.St} (a : Pin pins σ σ1) (b : Pin pins σ1 σ2) : Pin pins σ σ2 := fun i h => (b i h).trans (a i h)
def okS (G : Cn) (F H : Hp) (σ : L2.St) (α : Al) (pins : List Nat) (D : Ends) : Fl → Rho → Prop
  | .nx, ρ' => ∀ σ' F' H' α', Ste G F' H' σ' ρ' α' → Stp (Own α) F H F' H' → New (Own α) H (Own α') → Pin pins σ σ' → D.nx σ' H'
  | .bk, ρ' => ∀ σ' F' H' α', Ste G F' H' σ' ρ' α' → Stp (Own α) F H F' H' → New (Own α) H (Own α') → Pin pins σ σ' → D.bk σ' H'
  | .ct, ρ' => ∀ σ' F' H' α', Ste G F' H' σ' ρ' α' → Stp (Own α) F H F' H' → New (Own α) H (Own α') → Pin pins σ σ' → D.ct σ' H'
  | .ret o, ρ' => ∀ v σ' F' H' α' β, Ste G F' H' σ' ρ' α' → RepO G F' H' β v o → Stp (Own α) F H F' H' → (∀ a ∈ β, ¬ Own α' a) → New (Own α) H (fun a => Own α' a ∨ a ∈ β) → Pin pins σ σ' → D.rt v H'
abbrev PostS (G : Cn) (E : XK) (F H : Hp) (σ : L2.St) (α : Al) (pins : List Nat) (r : Option (Rs Fl × Rho)) (D : Ends) : Prop := PostG G E F H α (okS G F H σ α pins D) r
structure SemS (G : Cn) (E : XK) (t : TS) (m : MS) : Prop where
  run : ∀ {F H σ ρ α D} {pins : List Nat}, Ste G F H σ ρ α → PostS G E F H σ α pins (m pins ρ) D → t D σ H

/-- one after the other -/
def sThen (r : Option (Rs Fl × Rho)) (k : Rho → Option (Rs Fl × Rho)) : Option (Rs Fl × Rho) :=
  match r with
  | some (.ok .nx, ρ) => k ρ
  | x => x
def sSeq (a b : MS) : MS := fun p ρ => sThen (a p ρ) (b p)
def sNx : MS := fun _ ρ => some (.ok .nx, ρ)
def sBk : MS := fun _ ρ => some (.ok .bk, ρ)
def sCt : MS := fun _ ρ => some (.ok .ct, ρ)
def sIf (c : M) (a b : MS) : MS := fun p ρ => bnd (c ρ) fun x ρ1 => match x.frz with
  | .bl true => a p ρ1
  | .bl false => b p ρ1
  | _ => none
def sRet (a : M) : MS := fun _ ρ => bnd (a ρ) fun o ρ1 => some (.ok (.ret o), ρ1)
def sRetN : MS := fun _ ρ => some (.ok (.ret (.val .non)), ρ)
def sDrop (a : M) : MS := fun _ ρ => bnd (a ρ) fun o ρ1 => some (.ok .nx, ρ1)
/-- a slot gets data, or an object of one's own -/
def setV (pins : List Nat) (i : Nat) (o : O) (ρ : Rho) : Option Rho := if i ∈ pins then none else if i < ρ.length then some (ρ.set i (some o)) else none
def sAsgV (i : Nat) (a : M) : MS := fun p ρ => bnd (a ρ) fun o ρ1 => (setV p i (.val o.frz) ρ1).map fun ρ2 => (.ok .nx, ρ2)
def sAsgO (i : Nat) (a : M) : MS := fun p ρ => bnd (a ρ) fun o ρ1 => (setV p i o ρ1).map fun ρ2 => (.ok .nx, ρ2)

/-! ### targets: names, tuples of names -/
inductive Pat where
  | nm (i : Nat) | tu (ps : List Pat)
mutual
def bindP : List Nat → Pat → D → Rho → Option Rho
  | pins, .nm i, d, ρ => setV pins i (.val d) ρ
  | pins, .tu ps, .tup ds, ρ => if ds.length = ps.length then bindPs pins ps ds ρ else none
  | _, .tu _, _, _ => none
def bindPs : List Nat → List Pat → List D → Rho → Option Rho
  | _, [], [], ρ => some ρ
  | pins, p :: ps, d :: ds, ρ => (bindP pins p d ρ).bind (bindPs pins ps ds)
  | _, _, _, _ => none
end
mutual
def Pat.slots : Pat → List Nat
  | .nm i => [i]
  | .tu ps => slotsL ps
def slotsL : List Pat → List Nat
  | [] => []
  | p :: ps => p.slots ++ slotsL ps
end
/-- the target stores: the own objects stay but those of overwritten slots -/
def GSem (G : Cn) (g : TG) (p : Pat) : Prop := ∀ {F H σ ρ α x d ρ'} {pins : List Nat} {Q : L2.St → Hp → Prop}, Ste G F H σ ρ α → Rep G F x d → bindP pins p d ρ = some ρ' →
  (∀ σ' α', Ste G F H σ' ρ' α' → (∀ a, Own α' a → Own α a) → Pin pins σ σ' → (∀ j, j ∉ p.slots → σ'[j]? = σ[j]?) ∧ σ'.length = σ.length → Q σ' H) → g x σ H Q
def GsSem (G : Cn) (g : TGs) (ps : List Pat) : Prop := ∀ {F H σ ρ α xs ds ρ'} {pins : List Nat} {Q : L2.St → Hp → Prop}, Ste G F H σ ρ α → Reps G F xs ds → bindPs pins ps ds ρ = some ρ' →
  (∀ σ' α', Ste G F H σ' ρ' α' → (∀ a, Own α' a → Own α a) → Pin pins σ σ' → (∀ j, j ∉ slotsL ps → σ'[j]? = σ[j]?) ∧ σ'.length = σ.length → Q σ' H) → g xs σ H Q
section
variable {G : Cn} {E : XK} {F F1 H H1 : Hp} {σ σ1 : L2.St} {ρ ρ1 : Rho} {α α1 : Al} {pins : List Nat} {D : Ends}
theorem okS.shift (s : Stp (Own α) F H F1 H1) (n : New (Own α) H (Own α1)) (p : Pin pins σ σ1) : ∀ (f : Fl) (ρ' : Rho), okS G F H σ α pins D f ρ' → okS G F1 H1 σ1 α1 pins D f ρ'
  | .nx, _, h => fun σ' F' H' α' S T N P => h σ' F' H' α' S (s.trans T n) (New.trans s n N) (p.trans P)
  | .bk, _, h => fun σ' F' H' α' S T N P => h σ' F' H' α' S (s.trans T n) (New.trans s n N) (p.trans P)
  | .ct, _, h => fun σ' F' H' α' S T N P => h σ' F' H' α' S (s.trans T n) (New.trans s n N) (p.trans P)
  | .ret o, _, h => fun v σ' F' H' α' β S R T N1 N2 P => h v σ' F' H' α' β S R (s.trans T n) N1 (New.trans s n N2) (p.trans P)
theorem PostS.shift {r : Option (Rs Fl × Rho)} (s : Stp (Own α) F H F1 H1) (n : New (Own α) H (Own α1)) (p : Pin pins σ σ1) (h : PostS G E F H σ α pins r D) : PostS G E F1 H1 σ1 α1 pins r D :=
  PostG.shift s n h fun f ρ' => okS.shift s n p f ρ'
theorem PostS.nx (h : PostS G E F H σ α pins (some (.ok .nx, ρ)) D) (S : Ste G F H σ ρ α) : D.nx σ H := h σ F H α S .refl .refl .refl
theorem PostS.then {r : Option (Rs Fl × Rho)} {k : Rho → Option (Rs Fl × Rho)} {N : L2.St → Hp → Prop} (h : PostS G E F H σ α pins (sThen r k) D)
    (hk : ∀ ρ1 σ1 F1 H1 α1, Ste G F1 H1 σ1 ρ1 α1 → Stp (Own α) F H F1 H1 → New (Own α) H (Own α1) → Pin pins σ σ1 → PostS G E F H σ α pins (k ρ1) D → N σ1 H1) : PostS G E F H σ α pins r { D with nx := N } := by
  match r, h with
  | none, h => exact h
  | some (.ok .nx, ρ'), h => exact fun σ' F' H' α' S T N P => hk ρ' σ' F' H' α' S T N P h
  | some (.ok .bk, ρ'), h => exact h
  | some (.ok .ct, ρ'), h => exact h
  | some (.ok (.ret o), ρ'), h => exact h
  | some (.ex c none, _), h => exact h
  | some (.ex c (some fs), _), h => exact h
variable {t u : TS} {m n : MS} {te : TE} {ma : M} {tc : TT} {mc : M} {i : Nat}
theorem semS_seq (ht : SemS G E t m) (hu : SemS G E u n) : SemS G E (tSeq t u) (sSeq m n) := ⟨fun S h =>
  ht.run S (PostS.then h fun ρ1 σ1 F1 H1 α1 S1 T1 N1 P1 h1 => hu.run S1 (PostS.shift T1 N1 P1 h1))⟩
theorem semS_nx : SemS G E tNext sNx := ⟨fun S h => PostS.nx h S⟩
theorem semS_bk : SemS G E tBreak sBk := ⟨fun {F H σ ρ α D pins} S h => h σ F H α S .refl .refl .refl⟩
theorem semS_ct : SemS G E tCont sCt := ⟨fun {F H σ ρ α D pins} S h => h σ F H α S .refl .refl .refl⟩
theorem semS_if (hc : SemT G E tc mc) (ha : SemS G E t m) (hb : SemS G E u n) : SemS G E (tIfS tc t u) (sIf mc m n) := ⟨fun {F H σ ρ α D pins} S h => by
  refine hc.to S h (fun o ρ1 b F1 H1 α1 S1 hb1 T1 N1 hc h1 => ?_) fun o ρ1 hn h1 => ?_
  · obtain ⟨c, e⟩ := hc
    obtain rfl := hb1 c e
    try dsimp only at h1
    rw [e] at h1
    cases b with
    | true => exact ha.run S1 (PostS.shift T1 N1 .refl h1)
    | false => exact hb.run S1 (PostS.shift T1 N1 .refl h1)
  · try dsimp only at h1
    split at h1
    · rename_i e
      exact hn _ e
    · rename_i e
      exact hn _ e
    · exact h1⟩
theorem semS_ret (ha : Sem G E te ma) : SemS G E (tRet te) (sRet ma) := ⟨fun {F H σ ρ α D pins} S h =>
  ha.run S (PostG.bind h fun o ρ1 hp v F1 H1 α1 β S1 r1 T1 N1 N2 => hp v σ F1 H1 α1 β S1 r1 T1 N1 N2 .refl)⟩
theorem semS_retN : SemS G E tRetN sRetN := ⟨fun {F H σ ρ α D pins} S h => h .non σ F H α [] S ⟨rfl, Rep.ofNon⟩ .refl (fun _ z => nomatch z) (fun a z => by
    rcases z with z | z
    · exact .inl z
    · cases z) .refl⟩
theorem semS_drop (ha : Sem G E te ma) : SemS G E (tDrop te) (sDrop ma) := ⟨fun {F H σ ρ α D pins} S h =>
  ha.run S (Post.to h fun o ρ1 v F1 H1 α1 S1 r1 T1 N1 h1 => PostS.nx (PostS.shift T1 N1 .refl h1) S1)⟩

/-! ### a slot is stored -/
def Al.set (α : Al) (i : Nat) (β : List Addr) : Al := fun j => if j = i then β else α j
theorem Al.set_eq {α : Al} {i : Nat} {β : List Addr} : Al.set α i β i = β := if_pos rfl
theorem Al.set_ne {α : Al} {i j : Nat} {β : List Addr} (h : j ≠ i) : Al.set α i β j = α j := if_neg h
theorem Al.own_set {α : Al} {i : Nat} {β : List Addr} {a : Addr} (h : Own (Al.set α i β) a) : Own α a ∨ a ∈ β := by
  obtain ⟨j, hj⟩ := h
  by_cases e : j = i
  · subst e
    rw [Al.set_eq] at hj
    exact .inr hj
  · rw [Al.set_ne e] at hj
    exact .inl ⟨j, hj⟩
theorem Ste.store {o : O} {v : V} {β : List Addr} (S : Ste G F H σ ρ α) (r : RepO G F H β v o) (hβ : ∀ j, j ≠ i → ∀ a ∈ β, a ∉ α j) (hi : i < ρ.length) : Ste G F H (σ.set i (some v)) (ρ.set i (some o)) (Al.set α i β) where
  ex := S.ex
  len := by rw [List.length_set, List.length_set]; exact S.len
  slot := fun j x e => by
    by_cases q : j = i
    · subst q
      rw [List.getElem?_set_self hi] at e
      cases e
      exact ⟨v, List.getElem?_set_self (by rw [S.len]; exact hi), by rw [Al.set_eq]; exact r⟩
    · rw [List.getElem?_set_ne (Ne.symm q)] at e
      obtain ⟨w, h1, r1⟩ := S.slot j x e
      exact ⟨w, by rw [List.getElem?_set_ne (Ne.symm q)]; exact h1, by rw [Al.set_ne q]; exact r1⟩
  off := fun j h => by
    by_cases q : j = i
    · subst q
      exact absurd (List.getElem?_set_self hi) (h o)
    · rw [Al.set_ne q]
      exact S.off j fun x e => h x (by rw [List.getElem?_set_ne (Ne.symm q)]; exact e)
  dis := fun j k a ne hj hk => by
    by_cases q : j = i
    · subst q
      rw [Al.set_eq] at hj
      rw [Al.set_ne (Ne.symm ne)] at hk
      exact hβ k (Ne.symm ne) a hj hk
    · rw [Al.set_ne q] at hj
      by_cases q2 : k = i
      · subst q2
        rw [Al.set_eq] at hk
        exact hβ j q a hk hj
      · rw [Al.set_ne q2] at hk
        exact S.dis j k a ne hj hk
theorem setV_some {ρ' : Rho} {o : O} (h : setV pins i o ρ = some ρ') : i ∉ pins ∧ i < ρ.length ∧ ρ' = ρ.set i (some o) := by
  unfold setV at h
  split at h
  · cases h
  · split at h
    · cases h
      exact ⟨by assumption, by assumption, rfl⟩
    · cases h
theorem Pin.set {v : Option V} (h : i ∉ pins) : Pin pins σ (σ.set i v) := fun j hj => by
  rw [List.getElem?_set_ne]
  rintro rfl
  exact h hj
theorem semS_asgV (ha : Sem G E te ma) : SemS G E (tAsg te (gName i)) (sAsgV i ma) := ⟨fun {F H σ ρ α D pins} S h =>
  ha.run S (Post.to h fun o ρ1 v F1 H1 α1 S1 r1 T1 N1 h1 => by
    cases e : setV pins i (.val o.frz) ρ1 with
    | none => rw [e] at h1; exact h1.elim
    | some ρ2 =>
      rw [e] at h1
      obtain ⟨np, hi, rfl⟩ := setV_some e
      exact h1 _ F1 H1 _ (S1.store (β := []) ⟨rfl, r1⟩ (fun _ _ _ z => nomatch z) hi) T1 (fun a z => by
        rcases Al.own_set z with z | z
        · exact N1 a z
        · cases z) (Pin.set np))⟩
theorem semS_asgO (ha : Sem G E te ma) : SemS G E (tAsg te (gName i)) (sAsgO i ma) := ⟨fun {F H σ ρ α D pins} S h =>
  ha.run S (PostG.bind h fun o ρ1 h1 v F1 H1 α1 β S1 r1 T1 M1 N1 => by
    cases e : setV pins i o ρ1 with
    | none => rw [e] at h1; exact h1.elim
    | some ρ2 =>
      rw [e] at h1
      obtain ⟨np, hi, rfl⟩ := setV_some e
      exact h1 _ F1 H1 _ (S1.store r1 (fun j _ a ha hj => M1 a ha ⟨j, hj⟩) hi) T1 (fun a z => by
        rcases Al.own_set z with z | z
        · exact N1 a (.inl z)
        · exact N1 a (.inr z)) (Pin.set np))⟩

theorem g_name : GSem G (gName i) (.nm i) := fun {F H σ ρ α x d ρ' pins Q} S r e k => by
  unfold bindP at e
  obtain ⟨np, hi, rfl⟩ := setV_some e
  exact k _ _ (S.store (β := []) ⟨rfl, r⟩ (fun _ _ _ z => nomatch z) hi) (fun a z => by
    rcases Al.own_set z with z | z
    · exact z
    · cases z) (Pin.set np) ⟨fun j hj => by
    rw [List.getElem?_set_ne]
    rintro rfl
    exact hj (by simp [Pat.slots]), List.length_set ..⟩
theorem gs_nil : GsSem G gNil [] := fun {F H σ ρ α xs ds ρ' pins Q} S r e k => by
  cases ds with
  | nil =>
    unfold bindPs at e
    cases e
    exact ⟨r.of_nil, k σ α S (fun _ z => z) .refl ⟨fun _ _ => rfl, rfl⟩⟩
  | cons d ds =>
    unfold bindPs at e
    cases e
theorem gs_cons {g : TG} {gs : TGs} {p : Pat} {ps : List Pat} (h1 : GSem G g p) (h2 : GsSem G gs ps) : GsSem G (gCons g gs) (p :: ps) := fun {F H σ ρ α xs ds ρ' pins Q} S r e k => by
  cases ds with
  | nil =>
    unfold bindPs at e
    cases e
  | cons d ds =>
    unfold bindPs at e
    cases e1 : bindP pins p d ρ with
    | none => rw [e1] at e; cases e
    | some ρ1 =>
      rw [e1] at e
      obtain ⟨v, r', rfl, q, t⟩ := r.of_cons
      exact ⟨v, r', rfl, h1 S q e1 fun σ1 α1 S1 o1 P1 J1 => h2 S1 t e fun σ2 α2 S2 o2 P2 J2 => k σ2 α2 S2 (fun a z => o1 a (o2 a z)) (P1.trans P2) ⟨fun j hj => by
        unfold slotsL at hj
        rw [List.mem_append, not_or] at hj
        exact (J2.1 j hj.2).trans (J1.1 j hj.1), J2.2.trans J1.2⟩⟩
theorem g_tup {gs : TGs} {ps : List Pat} {n : Nat} (h : GsSem G gs ps) (hn : ps.length = n := by rfl) : GSem G (gTup G.K n gs) (.tu ps) := fun {F H σ ρ α x d ρ' pins Q} S r e k => by
  cases d with
  | tup ds =>
    unfold bindP at e
    split at e
    · rename_i hl
      unfold Rep at r
      obtain ⟨a, vs, rfl, h1, h2⟩ := r
      exact ⟨a, vs, rfl, SqT.of (S.ex _ _ h1), by rw [h2.length, hl, hn], h S h2 e fun σ' α' S' o' P' J' => k σ' α' S' o' P' ⟨fun j hj => J'.1 j (by unfold Pat.slots at hj; exact hj), J'.2⟩⟩
    · cases e
  | _ => unfold bindP at e; cases e
def sAsgP (p : Pat) (a : M) : MS := fun pins ρ => bnd (a ρ) fun o ρ1 => (bindP pins p o.frz ρ1).map fun ρ2 => (.ok .nx, ρ2)
theorem semS_asgP {g : TG} {p : Pat} (hg : GSem G g p) (ha : Sem G E te ma) : SemS G E (tAsg te g) (sAsgP p ma) := ⟨fun {F H σ ρ α D pins} S h =>
  ha.run S (Post.to h fun o ρ1 v F1 H1 α1 S1 r1 T1 N1 h1 => by
    cases e : bindP pins p o.frz ρ1 with
    | none => rw [e] at h1; exact h1.elim
    | some ρ2 =>
      rw [e] at h1
      exact hg S1 r1 e fun σ' α' S' o' P' _ => h1 σ' F1 H1 α' S' T1 (fun a z => N1 a (o' a z)) P')⟩
end
end VL

namespace VL
open PySem PySem.Spec
open PyProof.Rows L2
open Evl (Ex sz_of)

/-! ### what is walked -/
def ItSem (G : Cn) (F1 : Hp) (J : It) (ds : List D) : Prop := ∀ {F' H' : Hp} (i : Nat), Ex F1 F' → Ex F' H' →
  (i < ds.length → J.go i H') ∧ (ds.length ≤ i → J.stop i H') ∧ ∀ x H'' d, ds[i]? = some d → J.yld i H' x H'' →
    ∃ F'', Ex F' F'' ∧ Ex H' H'' ∧ (∀ b o, F'' b = some o → F' b = some o ∨ H' b = none) ∧ Ex F'' H'' ∧ Rep G F'' x d
abbrev MI := Rho → Option (List D × Rho)
structure SemI (G : Cn) (w : TI) (m : MI) : Prop where
  run : ∀ {F H σ ρ α ds ρ1} {R : It → Hp → Prop}, Ste G F H σ ρ α → m ρ = some (ds, ρ1) →
    (∀ J F1 H1 α1, Ste G F1 H1 σ ρ1 α1 → Stp (Own α) F H F1 H1 → New (Own α) H (Own α1) → ItSem G F1 J ds → R J H1) → w σ H R
/-- a list, a tuple that an expression gives -/
def iSeq (a : M) : MI := fun ρ => match a ρ with
  | some (.ok o, ρ1) => match o.frz with
    | .lst ds => some (ds, ρ1)
    | _ => none
  | _ => none
def iTupl (a : M) : MI := fun ρ => match a ρ with
  | some (.ok o, ρ1) => match o.frz with
    | .tup ds => some (ds, ρ1)
    | _ => none
  | _ => none
def range (lo : Int) (n : Nat) : List D := (List.range n).map fun (i : Nat) => D.int (lo + (i : Int))
def iRange1 (a : MA) : MI := fun ρ => match a ρ with
  | some (.ok [.d (.int j)], ρ1) => if -1000000 ≤ j ∧ j ≤ 1000000 then some (range 0 j.toNat, ρ1) else none
  | _ => none
def iRange2 (a : MA) : MI := fun ρ => match a ρ with
  | some (.ok [.d (.int i), .d (.int j)], ρ1) => if -1000000 ≤ i ∧ i ≤ 1000000 ∧ -1000000 ≤ j ∧ j ≤ 1000000 then some (range i (j - i).toNat, ρ1) else none
  | _ => none
section
variable {G : Cn} {E : XK} {F F1 F2 H H1 H2 : Hp} {σ σ1 : L2.St} {ρ ρ1 : Rho} {α α1 : Al}
theorem Ste.grow (S : Ste G F H σ ρ α) (eF : Ex F F1) (eH : Ex H H1) (nf : ∀ b o, F1 b = some o → F b = some o ∨ H b = none) (eX : Ex F1 H1) : Ste G F1 H1 σ ρ α where
  ex := eX
  len := S.len
  slot := fun i o e => by
    obtain ⟨v, h1, r⟩ := S.slot i o e
    refine ⟨v, h1, r.move eF (fun b hb => ?_) fun b hb u q => eH b u q⟩
    obtain ⟨f0, u, hu⟩ := r.mem b hb
    cases q : F1 b with
    | none => rfl
    | some u' =>
      rcases nf b u' q with z | z
      · rw [f0] at z; cases z
      · rw [hu] at z; cases z
  off := S.off
  dis := S.dis
theorem Stp.grow {A : Addr → Prop} (eF : Ex F F1) (eH : Ex H H1) (nf : ∀ b o, F1 b = some o → F b = some o ∨ H b = none) : Stp A F H F1 H1 :=
  ⟨eF, fun b o h _ => eH b o h, fun b o h => (nf b o h).elim .inl fun z => .inr (.inl z)⟩
theorem Post.okEnd {a : M} {o : O} {R : VK} (e : a ρ = some (.ok o, ρ1))
    (hk : ∀ v F1 H1 α1, Ste G F1 H1 σ ρ1 α1 → Rep G F1 v o.frz → Stp (Own α) F H F1 H1 → New (Own α) H (Own α1) → R v H1) : Post G E F H σ α (a ρ) R := by
  rw [e]
  exact fun v F1 H1 α1 β S r T N1 N2 => by
    obtain ⟨F2, S2, r2, T2, N3⟩ := S.freeze r T N1 N2
    exact hk v F2 H1 α1 S2 r2 T2 N3
theorem it_list {a : Addr} {vs : List V} {ds : List D} (h : F1 a = some (.lst vs)) (r : Reps G F1 vs ds) : ItSem G F1 (Itl G.K a) ds := fun {F' H'} i e1 e2 => by
  have hs : SqL G.K H' a vs := SqL.of ((e1.trans e2) _ _ h)
  refine ⟨fun hi => ?_, fun hi => ?_, fun x H'' d hd y => ?_⟩
  · have hi' : i < vs.length := by rw [r.length]; exact hi
    exact ⟨vs, vs[i], hs, by simp [hi']⟩
  · exact ⟨vs, hs, by rw [r.length]; exact hi⟩
  · obtain ⟨rfl, y⟩ := y
    obtain ⟨v, h1, h2⟩ := r.get hd
    have := y vs hs
    rw [h1] at this
    cases this
    exact ⟨F', Ex.refl F', Ex.refl _, fun _ _ z => .inl z, e2, h2.mono e1⟩
theorem it_tup {a : Addr} {vs : List V} {ds : List D} (h : F1 a = some (.tup vs)) (r : Reps G F1 vs ds) : ItSem G F1 (Itt G.K a) ds := fun {F' H'} i e1 e2 => by
  have hs : SqT G.K H' a vs := SqT.of ((e1.trans e2) _ _ h)
  refine ⟨fun hi => ?_, fun hi => ?_, fun x H'' d hd y => ?_⟩
  · have hi' : i < vs.length := by rw [r.length]; exact hi
    exact ⟨vs, vs[i], hs, by simp [hi']⟩
  · exact ⟨vs, hs, by rw [r.length]; exact hi⟩
  · obtain ⟨rfl, y⟩ := y
    obtain ⟨v, h1, h2⟩ := r.get hd
    have := y vs hs
    rw [h1] at this
    cases this
    exact ⟨F', Ex.refl F', Ex.refl _, fun _ _ z => .inl z, e2, h2.mono e1⟩
theorem range_get {lo : Int} {n i : Nat} {d : D} (h : (range lo n)[i]? = some d) : i < n ∧ d = .int (lo + i) := by
  unfold range at h
  rw [List.getElem?_map] at h
  cases e : (List.range n)[i]? with
  | none => rw [e] at h; cases h
  | some j =>
    rw [e] at h
    cases h
    obtain ⟨h1, h2⟩ := List.getElem?_eq_some_iff.mp e
    rw [List.length_range] at h1
    rw [List.getElem_range] at h2
    subst h2
    exact ⟨h1, rfl⟩
theorem range_len {lo : Int} {n : Nat} : (range lo n).length = n := by
  unfold range
  rw [List.length_map, List.length_range]
theorem it_range {lo : Int} {n : Nat} : ItSem G F1 (Itr lo n) (range lo n) := fun {F' H'} i e1 e2 => by
  refine ⟨fun hi => ?_, fun hi => ?_, fun x H'' d hd y => ?_⟩
  · rw [range_len] at hi; exact hi
  · rw [range_len] at hi; exact hi
  · obtain ⟨rfl, rfl⟩ := y
    obtain ⟨_, rfl⟩ := range_get hd
    exact ⟨F', Ex.refl F', Ex.refl _, fun _ _ z => .inl z, e2, Rep.ofInt⟩
theorem semI_list {tl : TE} {a : M} (ha : Sem G E tl a) : SemI G (iList G.K tl) (iSeq a) := ⟨fun {F H σ ρ α ds ρ1 R} S e k => by
  unfold iSeq at e
  split at e
  · rename_i o ρ' e1
    split at e
    · rename_i ds' e2
      cases e
      refine ha.run S (Post.okEnd e1 fun v F1 H1 α1 S1 r1 T1 N1 => ?_)
      rw [e2] at r1
      unfold Rep at r1
      obtain ⟨p, vs, rfl, h1, h2⟩ := r1
      exact ⟨p, rfl, ⟨vs, SqL.of (S1.ex _ _ h1)⟩, k _ F1 H1 α1 S1 T1 N1 (it_list h1 h2)⟩
    · cases e
  · cases e⟩
theorem semI_tup {tl : TE} {a : M} (ha : Sem G E tl a) : SemI G (iTup G.K tl) (iTupl a) := ⟨fun {F H σ ρ α ds ρ1 R} S e k => by
  unfold iTupl at e
  split at e
  · rename_i o ρ' e1
    split at e
    · rename_i ds' e2
      cases e
      refine ha.run S (Post.okEnd e1 fun v F1 H1 α1 S1 r1 T1 N1 => ?_)
      rw [e2] at r1
      unfold Rep at r1
      obtain ⟨p, vs, rfl, h1, h2⟩ := r1
      exact ⟨p, rfl, ⟨vs, SqT.of (S1.ex _ _ h1)⟩, k _ F1 H1 α1 S1 T1 N1 (it_tup h1 h2)⟩
    · cases e
  · cases e⟩
theorem PostA.okEnd {a : MA} {xs : List AI} {R : List V → Hp → Prop} (e : a ρ = some (.ok xs, ρ1))
    (hk : ∀ vs F1 H1 α1, Ste G F1 H1 σ ρ1 α1 → RepA G F1 σ vs xs → Stp (Own α) F H F1 H1 → New (Own α) H (Own α1) → R vs H1) : PostA G E F H σ α (a ρ) R := by
  rw [e]
  exact fun vs F1 H1 α1 S r T N => hk vs F1 H1 α1 S r T N
theorem RepA.one {vs : List V} {d : D} (h : RepA G F σ vs [.d d]) : ∃ v, vs = [v] ∧ Rep G F v d := by
  obtain ⟨v, ws, rfl, e2, e3⟩ := h
  obtain rfl : ws = [] := e3
  exact ⟨v, rfl, e2⟩
theorem RepA.two {vs : List V} {d e : D} (h : RepA G F σ vs [.d d, .d e]) : ∃ v w, vs = [v, w] ∧ Rep G F v d ∧ Rep G F w e := by
  obtain ⟨v, ws, rfl, e2, e3⟩ := h
  obtain ⟨w, rfl, q⟩ := RepA.one e3
  exact ⟨v, w, rfl, e2, q⟩
theorem Rep.toInt {v : V} {i : Int} (h : Rep G F v (.int i)) : v = .int i := by unfold Rep at h; exact h
theorem semI_range1 {ta : TA} {a : MA} (ha : SemA G E ta a) : SemI G (iRng1 ta) (iRange1 a) := ⟨fun {F H σ ρ α ds ρ1 R} S e k => by
  unfold iRange1 at e
  split at e
  · rename_i j ρ' e1
    split at e
    · rename_i hj
      cases e
      refine ha.run S (PostA.okEnd e1 fun vs F1 H1 α1 S1 r1 T1 N1 => ?_)
      obtain ⟨v, rfl, q⟩ := r1.one
      obtain rfl := q.toInt
      exact ⟨j, rfl, by omega, by omega, k _ F1 H1 α1 S1 T1 N1 it_range⟩
    · cases e
  · cases e⟩
theorem semI_range2 {ta : TA} {a : MA} (ha : SemA G E ta a) : SemI G (iRng2 ta) (iRange2 a) := ⟨fun {F H σ ρ α ds ρ1 R} S e k => by
  unfold iRange2 at e
  split at e
  · rename_i i j ρ' e1
    split at e
    · rename_i hj
      cases e
      refine ha.run S (PostA.okEnd e1 fun vs F1 H1 α1 S1 r1 T1 N1 => ?_)
      obtain ⟨v, w, rfl, q, q'⟩ := r1.two
      obtain rfl := q.toInt
      obtain rfl := q'.toInt
      exact ⟨i, j, rfl, ⟨by omega, by omega, by omega, by omega⟩, k _ F1 H1 α1 S1 T1 N1 it_range⟩
    · cases e
  · cases e⟩
end

/-! ### for, while -/
def forLoop (p : Pat) (b : List Nat → Rho → Option (Rs Fl × Rho)) (pins : List Nat) : List D → Rho → Option (Rs Fl × Rho)
  | [], ρ => some (.ok .nx, ρ)
  | d :: ds, ρ => (bindP pins p d ρ).bind fun ρ1 => match b pins ρ1 with
    | some (.ok .nx, ρ2) => forLoop p b pins ds ρ2
    | some (.ok .ct, ρ2) => forLoop p b pins ds ρ2
    | some (.ok .bk, ρ2) => some (.ok .nx, ρ2)
    | x => x
def sFor (mi : MI) (p : Pat) (b : MS) : MS := fun pins ρ => (mi ρ).bind fun x => forLoop p b pins x.1 x.2
def whileLoop (c : M) (b : MS) (pins : List Nat) : Nat → Rho → Option (Rs Fl × Rho)
  | 0, _ => none
  | n + 1, ρ => bnd (c ρ) fun x ρ1 => match x.frz with
    | .bl true => (match b pins ρ1 with
      | some (.ok .nx, ρ2) => whileLoop c b pins n ρ2
      | some (.ok .ct, ρ2) => whileLoop c b pins n ρ2
      | some (.ok .bk, ρ2) => some (.ok .nx, ρ2)
      | x => x)
    | .bl false => some (.ok .nx, ρ1)
    | _ => none
def sWhile (n : Nat) (c : M) (b : MS) : MS := fun pins ρ => whileLoop c b pins n ρ
section
variable {G : Cn} {E : XK} {t : TS} {b : MS} {g : TG} {p : Pat} {wi : TI} {mi : MI} {tc : TT} {mc : M}
/-- the turn's end: go on with k, or leave -/
theorem PostS.turn {F0 H0 F H : Hp} {σ0 σ : L2.St} {α0 α : Al} {pins : List Nat} {D : Ends} {N : L2.St → Hp → Prop} {r : Option (Rs Fl × Rho)} {k : Rho → Option (Rs Fl × Rho)}
    (T : Stp (Own α0) F0 H0 F H) (M : New (Own α0) H0 (Own α)) (Q : Pin pins σ0 σ)
    (h : PostS G E F0 H0 σ0 α0 pins (match r with
      | some (.ok .nx, ρ2) => k ρ2
      | some (.ok .ct, ρ2) => k ρ2
      | some (.ok .bk, ρ2) => some (.ok .nx, ρ2)
      | x => x) D)
    (hk : ∀ ρ1 σ1 F1 H1 α1, Ste G F1 H1 σ1 ρ1 α1 → Stp (Own α) F H F1 H1 → New (Own α) H (Own α1) → Pin pins σ σ1 → PostS G E F0 H0 σ0 α0 pins (k ρ1) D → N σ1 H1) : PostS G E F H σ α pins r { D with nx := N, ct := N, bk := D.nx } := by
  match r, h with
  | none, h => exact h
  | some (.ok .nx, ρ'), h => exact fun σ' F' H' α' S T N P => hk ρ' σ' F' H' α' S T N P h
  | some (.ok .bk, ρ'), h => exact okS.shift T M Q .nx ρ' h
  | some (.ok .ct, ρ'), h => exact fun σ' F' H' α' S T N P => hk ρ' σ' F' H' α' S T N P h
  | some (.ok (.ret o), ρ'), h => exact okS.shift T M Q (.ret o) ρ' h
  | some (.ex c none, _), h => exact fun F' H' T' => h F' H' (T.trans T' M)
  | some (.ex c (some fs), _), h => exact fun F' H' dd fvs T' d3 d4 => h F' H' dd fvs (T.trans T' M) d3 d4
theorem SemT.toB {F0 H0 F H : Hp} {α0 : Al} {σ : L2.St} {ρ : Rho} {α : Al} {B : Type} {k : O → Rho → Option (Rs B × Rho)} {okQ : B → Rho → Prop} {R : Bool → Hp → Prop} (ht : SemT G E tc mc) (S : Ste G F H σ ρ α)
    (T0 : Stp (Own α0) F0 H0 F H) (N0 : New (Own α0) H0 (Own α)) (h : PostG G E F0 H0 α0 okQ (bnd (mc ρ) k))
    (hk : ∀ o ρ1 b F1 H1 α1, Ste G F1 H1 σ ρ1 α1 → o.frz = .bl b → Stp (Own α) F H F1 H1 → New (Own α) H (Own α1) → PostG G E F0 H0 α0 okQ (k o ρ1) → R b H1)
    (hk0 : ∀ o ρ1, (∀ c, o.frz ≠ .bl c) → PostG G E F0 H0 α0 okQ (k o ρ1) → False) : tc σ H R := by
  refine ht.run S ?_
  match hm : mc ρ, h with
  | none, h => exact h
  | some (.ok o, ρ1), h =>
    exact fun v F1 H1 α1 β S1 r1 T1 M1 N1 => by
      obtain ⟨F2, S2, r2, T2, N3⟩ := S1.freeze r1 T1 M1 N1
      by_cases q : ∃ c, o.frz = .bl c
      · obtain ⟨c, e⟩ := q
        exact ⟨c, frz_bl (H := H) r2 e, hk o ρ1 c F2 H1 α1 S2 e T2 N3 h⟩
      · exact (hk0 o ρ1 (fun c e => q ⟨c, e⟩) h).elim
  | some (.ex c none, _), h => exact fun F' H' T' => h F' H' (T0.trans T' N0)
  | some (.ex c (some fs), _), h => exact fun F' H' dd fvs T' d3 d4 => h F' H' dd fvs (T0.trans T' N0) d3 d4
theorem drop_get {A : Type} {l : List A} {i : Nat} {d : A} (h : l[i]? = some d) : l.drop i = d :: l.drop (i + 1) := by
  obtain ⟨h1, h2⟩ := List.getElem?_eq_some_iff.mp h
  rw [← h2]
  exact List.drop_eq_getElem_cons h1
theorem semS_for (hi : SemI G wi mi) (hg : GSem G g p) (hb : SemS G E t b) : SemS G E (tFor wi g t) (sFor mi p b) := ⟨fun {F H σ ρ α D pins} S h => by
  unfold sFor at h
  cases e : mi ρ with
  | none => rw [e] at h; exact h.elim
  | some x =>
    obtain ⟨ds, ρ1⟩ := x
    rw [e] at h
    refine hi.run S e fun J F1 H1 α1 S1 T1 N1 it => ?_
    refine ⟨fun i m σ' H' => m = ds.length - i ∧ i ≤ ds.length ∧ ∃ F' ρ' α', Ste G F' H' σ' ρ' α' ∧ Ex F1 F' ∧ Stp (Own α) F H F' H' ∧ New (Own α) H (Own α') ∧ Pin pins σ σ' ∧ PostS G E F H σ α pins (forLoop p b pins (ds.drop i) ρ') D,
      ⟨ds.length, by simp, Nat.zero_le _, F1, ρ1, α1, S1, Ex.refl F1, T1, N1, .refl, h⟩, ?_⟩
    rintro i m σ' H' ⟨rfl, hi, F', ρ', α', S', e1, T', N', P', h'⟩
    obtain ⟨i1, i2, i3⟩ := it i e1 S'.ex
    by_cases hlt : i < ds.length
    · refine .inr ⟨i1 hlt, _, fun σ2 H2 n2 => ⟨ds.length - (i + 1), by omega, n2⟩, fun x H'' y => ?_⟩
      obtain ⟨d, hd⟩ : ∃ d, ds[i]? = some d := ⟨ds[i], by simp [hlt]⟩
      obtain ⟨F'', f1, f2, f3, f4, rx⟩ := i3 x H'' d hd y
      have S2 := S'.grow f1 f2 f3 f4
      have T2 : Stp (Own α) F H F'' H'' := T'.trans (Stp.grow (A := Own α') f1 f2 f3) N'
      rw [drop_get hd] at h'
      unfold forLoop at h'
      cases e2 : bindP pins p d ρ' with
      | none => rw [e2] at h'; exact h'.elim
      | some ρ2 =>
        rw [e2] at h'
        refine hg S2 rx e2 fun σ2 α2 S3 o3 P3 _ => ?_
        have N3 : New (Own α) H (Own α2) := fun a z => N' a (o3 a z)
        refine hb.run S3 (PostS.turn T2 N3 (P'.trans P3) h' fun ρ3 σ3 F3 H3 α3 S4 T4 N4 P4 h4 => ?_)
        refine ⟨rfl, hlt, F3, ρ3, α3, S4, (e1.trans f1).trans T4.exF, T2.trans T4 N3, New.trans T2 N3 N4, (P'.trans P3).trans P4, h4⟩
    · refine .inl ⟨i2 (by omega), ?_⟩
      rw [List.drop_of_length_le (by omega)] at h'
      exact h' σ' F' H' α' S' T' N' P'⟩
theorem semS_while {n : Nat} (hc : SemT G E tc mc) (hb : SemS G E t b) : SemS G E (tWhile tc t) (sWhile n mc b) := ⟨fun {F H σ ρ α D pins} S h => by
  refine ⟨fun m σ' H' => ∃ F' ρ' α', Ste G F' H' σ' ρ' α' ∧ Stp (Own α) F H F' H' ∧ New (Own α) H (Own α') ∧ Pin pins σ σ' ∧ PostS G E F H σ α pins (whileLoop mc b pins m ρ') D,
    ⟨n, F, ρ, α, S, .refl, .refl, .refl, h⟩, ?_⟩
  rintro m σ' H' ⟨F', ρ', α', S', T', N', P', h'⟩
  cases m with
  | zero => exact h'.elim
  | succ m =>
    unfold whileLoop at h'
    refine hc.toB S' T' N' h' (fun o ρ1 c F1 H1 α1 S1 hb1 T1 N1 h1 => ?_) fun o ρ1 hn h1 => ?_
    · try dsimp only at h1
      rw [hb1] at h1
      have T2 := T'.trans T1 N'
      have N2 := New.trans T' N' N1
      cases c with
      | false => exact h1 σ' F1 H1 α1 S1 T2 N2 P'
      | true =>
        refine ⟨_, fun σ2 H2 n2 => ⟨m, Nat.lt_succ_self m, n2⟩, hb.run S1 (PostS.turn T2 N2 P' h1 fun ρ3 σ3 F3 H3 α3 S4 T4 N4 P4 h4 => ?_)⟩
        exact ⟨F3, ρ3, α3, S4, T2.trans T4 N2, New.trans T2 N2 N4, P'.trans P4, h4⟩
    · try dsimp only at h1
      split at h1
      · rename_i e
        exact hn _ e
      · rename_i e
        exact hn _ e
      · exact h1⟩
end
end VL

namespace VL
open PySem PySem.Spec
open PyProof.Rows L2
open Evl (Ex sz_of)

/-! ### defs -/
abbrev Fn := List O → Option (Res × List O)
def retR (r : Option (Res × List O)) : Option (Res × Rho) := r.map fun x => (x.1, x.2.map some)
/-- a def's promise: from arguments as they are to what fn says -/
def spF (G : Cn) (fn : Fn) (n : Nat) : Sp := fun vs H Q E => vs.length = n ∧ ∃ F os α, Ste G F H (vs.map some) (os.map some) α ∧ Post G E F H (vs.map some) α (retR (fn os)) Q
def fin : List O → Rho → Option (List O)
  | [], _ => some []
  | o :: os, ρ => match o.isOwn, ρ with
    | false, _ :: r => (fin os r).map (o :: ·)
    | true, some o' :: r => (fin os r).map (o' :: ·)
    | _, _ => none
def pinsAux : Nat → List O → List Nat
  | _, [] => []
  | i, o :: os => if o.isOwn then i :: pinsAux (i + 1) os else pinsAux (i + 1) os
def mFn (np N : Nat) (body : MS) : Fn := fun os => if os.length = np ∧ np ≤ N then (match body (pinsAux 0 os) (os.map some ++ List.replicate (N - np) none) with
  | some (.ok .nx, ρ') => (fin os ρ').map fun os' => (.ok (.val .non), os')
  | some (.ok (.ret o), ρ') => (fin os ρ').map fun os' => (.ok o, os')
  | some (.ex c fs, _) => some (.ex c fs, os)
  | _ => none) else none
/-- a def that raises nothing -/
def mFn0 (np N : Nat) (body : MS) : Fn := fun os => match mFn np N body os with
  | some (.ok o, os') => some (.ok o, os')
  | _ => none
theorem pinsAux_mem : ∀ {os : List O} {k j : Nat} {o : O}, os[j]? = some o → o.isOwn = true → k + j ∈ pinsAux k os
  | [], k, j, o, h, _ => by simp at h
  | o' :: os, k, 0, o, h, e => by
    have : o' = o := by simpa using h
    subst this
    unfold pinsAux
    rw [if_pos e]
    exact List.mem_cons_self
  | o' :: os, k, j + 1, o, h, e => by
    have q := pinsAux_mem (k := k + 1) (j := j) (by simpa using h) e
    have e1 : k + (j + 1) = k + 1 + j := by omega
    rw [e1]
    unfold pinsAux
    split
    · exact List.mem_cons_of_mem _ q
    · exact q
theorem fin_get : ∀ {os os' : List O} {ρ : Rho}, fin os ρ = some os' → os'.length = os.length ∧ ∀ (i : Nat) o', os'[i]? = some o' → ∃ o, os[i]? = some o ∧ ((o.isOwn = false ∧ o' = o) ∨ (o.isOwn = true ∧ ρ[i]? = some (some o')))
  | [], os', ρ, h => by
    cases h
    exact ⟨rfl, fun i o' e => by simp at e⟩
  | o :: os, os', ρ, h => by
    unfold fin at h
    split at h
    · rename_i e0
      cases q : fin os _ with
      | none => rw [q] at h; cases h
      | some r =>
        rw [q] at h
        cases h
        obtain ⟨l, g⟩ := fin_get q
        refine ⟨by simp [l], fun i o' e => ?_⟩
        cases i with
        | zero => exact ⟨o, rfl, .inl ⟨e0, by simpa using e.symm⟩⟩
        | succ i =>
          obtain ⟨u, h1, h2⟩ := g i o' (by simpa using e)
          exact ⟨u, by simpa using h1, by simpa using h2⟩
    · rename_i o1 r1 e0
      cases q : fin os _ with
      | none => rw [q] at h; cases h
      | some r =>
        rw [q] at h
        cases h
        obtain ⟨l, g⟩ := fin_get q
        refine ⟨by simp [l], fun i o' e => ?_⟩
        cases i with
        | zero =>
          refine ⟨o, rfl, .inr ⟨e0, ?_⟩⟩
          have : o1 = o' := by simpa using e
          subst this
          rfl
        | succ i =>
          obtain ⟨u, h1, h2⟩ := g i o' (by simpa using e)
          exact ⟨u, by simpa using h1, by simpa using h2⟩
    · cases h
section
variable {G : Cn} {E : XK} {F F1 H H1 : Hp} {σ : L2.St} {ρ : Rho} {α α1 : Al}
theorem map_get {A B : Type} {f : A → B} {l : List A} {i : Nat} {x : B} (h : (l.map f)[i]? = some x) : ∃ y, l[i]? = some y ∧ f y = x := by
  rw [List.getElem?_map] at h
  cases e : l[i]? with
  | none => rw [e] at h; cases h
  | some y =>
    rw [e] at h
    exact ⟨y, rfl, Option.some.inj h⟩
def selA (os : List O) (α : Al) (i : Nat) : List Addr := match os[i]? with
  | some o => (match o.isOwn with | true => α i | false => [])
  | none => []
theorem selA_own {os : List O} {o : O} {i : Nat} (h : os[i]? = some o) (h2 : o.isOwn = true) : selA os α i = α i := by
  unfold selA
  rw [h]
  dsimp only
  rw [h2]
theorem selA_val {os : List O} {o : O} {i : Nat} (h : os[i]? = some o) (h2 : o.isOwn = false) : selA os α i = [] := by
  unfold selA
  rw [h]
  dsimp only
  rw [h2]
theorem selA_none {os : List O} {i : Nat} (h : os[i]? = none) : selA os α i = [] := by
  unfold selA
  rw [h]
theorem selA_mem {os : List O} {a : Addr} {i : Nat} (h : a ∈ selA os α i) : a ∈ α i := by
  unfold selA at h
  split at h
  · split at h
    · exact h
    · cases h
  · cases h
/-- the arguments behind the body -/
theorem Ste.fin {vs : List V} {os os' : List O} {N : Nat} {σ' : L2.St} {ρ' : Rho} {α' : Al} (S0 : Ste G F H (vs.map some) (os.map some) α) (S : Ste G F1 H1 σ' ρ' α') (T : Stp (Own α) F H F1 H1)
    (P : Pin (pinsAux 0 os) (vs.map some ++ List.replicate N none) σ') (h : fin os ρ' = some os') : ∃ α2, Ste G F1 H1 (vs.map some) (os'.map some) α2 ∧ ∀ a, Own α2 a → Own α' a := by
  obtain ⟨l, g⟩ := fin_get h
  have lv : vs.length = os.length := by
    have := S0.len
    simpa using this
  refine ⟨selA os α', ⟨S.ex, by simp [l, lv], fun i o' e => ?_, fun i hi => ?_, fun i j a ne hi hj => S.dis i j a ne (selA_mem hi) (selA_mem hj)⟩, fun a ⟨i, hi⟩ => ⟨i, selA_mem hi⟩⟩
  · obtain ⟨o1, e1, e2⟩ := map_get e
    cases e2
    obtain ⟨o, h1, h2⟩ := g i o' e1
    obtain ⟨v, hv, r⟩ := S0.slot i o (by rw [List.getElem?_map, h1]; rfl)
    obtain ⟨v', hv', q⟩ := map_get hv
    cases q
    refine ⟨v, hv, ?_⟩
    rcases h2 with ⟨h2, rfl⟩ | ⟨h2, h3⟩
    · rw [selA_val h1 h2]
      cases o' with
      | val d => exact ⟨rfl, r.2.mono T.exF⟩
      | _ => cases h2
    · rw [selA_own h1 h2]
      obtain ⟨w, hw, rw'⟩ := S.slot i o' h3
      have hp := P i (by have := pinsAux_mem (k := 0) h1 h2; rwa [Nat.zero_add] at this)
      have hil : i < vs.length := (List.getElem?_eq_some_iff.mp hv').1
      rw [hw, List.getElem?_append_left (by rw [List.length_map]; exact hil), hv] at hp
      cases hp
      exact rw'
  · cases e : os[i]? with
    | none => exact selA_none e
    | some o =>
      have hil : i < os'.length := by rw [l]; exact (List.getElem?_eq_some_iff.mp e).1
      exact absurd (by rw [List.getElem?_map, List.getElem?_eq_getElem hil]; rfl) (hi os'[i])
theorem Ste.start {vs : List V} {os : List O} {N : Nat} (S : Ste G F H (vs.map some) (os.map some) α) : Ste G F H (vs.map some ++ List.replicate N none) (os.map some ++ List.replicate N none) α where
  ex := S.ex
  len := by
    have := S.len
    simp at this ⊢
    exact this
  slot := fun i o e => by
    have hl : i < (os.map some).length := by
      refine Nat.lt_of_not_le fun hle => ?_
      rw [List.getElem?_append_right hle, List.getElem?_replicate] at e
      split at e
      · cases e
      · cases e
    rw [List.getElem?_append_left hl] at e
    obtain ⟨v, h1, r⟩ := S.slot i o e
    exact ⟨v, by rw [List.getElem?_append_left (by rw [S.len]; exact hl)]; exact h1, r⟩
  off := fun i h => S.off i fun o e => h o (by rw [List.getElem?_append_left (List.getElem?_eq_some_iff.mp e).1]; exact e)
  dis := S.dis
variable {P : Program} {w : World} {K : PySem.W.Frag} {mg : Str → Option Value} {base : Heap} {cl : Nat → Addr}
theorem body_run {t : TS} {m : MS} {vs : List V} {os : List O} {np N : Nat} {Q : VK} (hm : SemS G E t m) (S : Ste G F H (vs.map some) (os.map some) α) (hv : vs.length = np) (h : Post G E F H (vs.map some) α (retR (mFn np N m os)) Q) :
    t { nx := fun _ H' => Q .non H', rt := Q } (vs.map some ++ List.replicate (N - np) none) H := by
  unfold mFn at h
  split at h
  · rename_i hl
    refine hm.run (pins := pinsAux 0 os) S.start ?_
    match e : m (pinsAux 0 os) (os.map some ++ List.replicate (N - np) none), h with
    | none, h => exact h
    | some (.ok .nx, ρ'), h =>
      intro σ' F' H' α' S' T' N' P'
      try dsimp only at h
      cases q : fin os ρ' with
      | none => rw [q] at h; exact h.elim
      | some os' =>
        rw [q] at h
        obtain ⟨α2, S2, o2⟩ := Ste.fin S S' T' P' q
        exact h .non F' H' α2 [] S2 ⟨rfl, Rep.ofNon⟩ T' (fun _ z => nomatch z) fun a z => by
          rcases z with z | z
          · exact N' a (o2 a z)
          · cases z
    | some (.ok (.ret o), ρ'), h =>
      intro v σ' F' H' α' β S' R' T' M' N' P'
      try dsimp only at h
      cases q : fin os ρ' with
      | none => rw [q] at h; exact h.elim
      | some os' =>
        rw [q] at h
        obtain ⟨α2, S2, o2⟩ := Ste.fin S S' T' P' q
        exact h v F' H' α2 β S2 R' T' (fun a z z2 => M' a z (o2 a z2)) fun a z => by
          rcases z with z | z
          · exact N' a (.inl (o2 a z))
          · exact N' a (.inr z)
    | some (.ok .bk, ρ'), h => exact h.elim
    | some (.ok .ct, ρ'), h => exact h.elim
    | some (.ex c none, ρ'), h => exact h
    | some (.ex c (some fs), ρ'), h => exact h
  · exact h.elim
/-- THE RULE for a def that raises nothing -/
theorem fn_ok0 {x qual : Str} {st : Stmt} {f : Addr} {fd : FuncData} {Ns ps : List Str} {k np : Nat} {m : MS} (Fu : L2.Fun K x qual st f fd) (S : FnScope Ns ps (defScope st)) (hp : ps.length = np) (hN : np ≤ Ns.length)
    (hbody : ∀ (cdv : Value) (A : Around) (outer : List Env) (s : Shared) (H : Hp) (E : XK), Room k (A.deeper (envOfC qual (defScope st) s.heap.objs.size f cdv)) →
      ∃ t, PSs (cxOf CX0 P w K mg base Ns qual (defScope st) f cdv A outer s H E).nox (defBody st) t ∧ SemS ⟨K, cl⟩ E0 t m) : FnOk P w K mg base CX0 (k + 1) f fd ps (spF ⟨K, cl⟩ (mFn0 np Ns.length m) np) := by
  refine Fu.ok S (fun vs H Q E h => ?_) (fun cdv A outer s H vs Q E hr h => ?_)
  · exact h.1.trans hp.symm
  · obtain ⟨hv, F, os, α, S0, h⟩ := h
    obtain ⟨t, ht, hm⟩ := hbody cdv A outer s H E hr
    refine ⟨t, ht, ?_⟩
    have e : L2.start Ns vs = vs.map some ++ List.replicate (Ns.length - np) none := by
      unfold L2.start
      rw [hv]
    rw [e]
    refine body_run (Q := Q) hm S0 hv (np := np) (N := Ns.length) ?_
    unfold mFn0 at h
    match q : mFn np Ns.length m os, h with
    | none, h => exact h
    | some (.ok o, os'), h => exact h
    | some (.ex c f, os'), h => exact h.elim
end
end VL

namespace VL
open PySem PySem.Spec
open PyProof.Rows L2
open Evl (Ex sz_of)

/-! ### calls -/
def dsOnly : List AI → Option (List D)
  | [] => some []
  | .d x :: r => (dsOnly r).map (x :: ·)
  | .io _ :: _ => none
def splitIo : List AI → Option (List D × Option (Nat × List D))
  | [] => some ([], none)
  | .d x :: r => (splitIo r).map fun p => (x :: p.1, p.2)
  | .io i :: r => (dsOnly r).map fun post => ([], some (i, post))
def mCall (fn : Fn) (ms : MA) : M := fun ρ => bnd (ms ρ) fun ais ρ1 => match splitIo ais with
  | none => none
  | some (ds, none) => (match fn (ds.map .val) with
    | some (r, _) => some (r, ρ1)
    | none => none)
  | some (pre, some (i, post)) => (match ρ1[i]? with
    | some (some o) => (match fn (pre.map .val ++ o :: post.map .val) with
      | none => none
      | some (.ok r, os') => (match os'[pre.length]? with
        | some o' => some (.ok r, ρ1.set i (some o'))
        | none => none)
      | some (.ex c fs, _) => some (.ex c fs, ρ1))
    | _ => none)
section
variable {G : Cn} {E : XK} {F F1 H H1 : Hp} {σ : L2.St} {ρ ρ1 : Rho} {α α1 : Al}
theorem dsOnly_r : ∀ {vs : List V} {xs : List AI} {ds : List D}, RepA G F σ vs xs → dsOnly xs = some ds → Reps G F vs ds
  | _, [], ds, h, e => by
    cases e
    rw [show _ = [] from h]
    exact Reps.nil
  | _, .d x :: r, ds, h, e => by
    obtain ⟨v, ws, rfl, e2, e3⟩ := h
    unfold dsOnly at e
    cases q : dsOnly r with
    | none => rw [q] at e; cases e
    | some es =>
      rw [q] at e
      cases e
      exact Reps.cons e2 (dsOnly_r e3 q)
  | _, .io i :: r, ds, h, e => by cases e
theorem split_r : ∀ {vs : List V} {xs : List AI} {pre : List D} {t : Option (Nat × List D)}, RepA G F σ vs xs → splitIo xs = some (pre, t) →
    match t with
    | none => Reps G F vs pre
    | some (i, post) => ∃ ws v us, vs = ws ++ v :: us ∧ Reps G F ws pre ∧ σ[i]? = some (some v) ∧ Reps G F us post
  | _, [], pre, t, h, e => by
    cases e
    rw [show _ = [] from h]
    exact Reps.nil
  | _, .d x :: r, pre, t, h, e => by
    obtain ⟨v, ws, rfl, e2, e3⟩ := h
    unfold splitIo at e
    cases q : splitIo r with
    | none => rw [q] at e; cases e
    | some p =>
      obtain ⟨p1, p2⟩ := p
      rw [q] at e
      cases e
      have ih := split_r e3 q
      match p2, ih with
      | none, ih => exact Reps.cons e2 ih
      | some (i, post), ih =>
        obtain ⟨ws', v', us, rfl, h1, h2, h3⟩ := ih
        exact ⟨v :: ws', v', us, rfl, Reps.cons e2 h1, h2, h3⟩
  | _, .io i :: r, pre, t, h, e => by
    obtain ⟨v, ws, rfl, e2, e3⟩ := h
    unfold splitIo at e
    cases q : dsOnly r with
    | none => rw [q] at e; cases e
    | some post =>
      rw [q] at e
      cases e
      exact ⟨[], v, ws, rfl, Reps.nil, e2, dsOnly_r e3 q⟩
/-- arguments that are data -/
theorem Ste.args {vs : List V} {ds : List D} (ex : Ex F H) (h : Reps G F vs ds) : Ste G F H (vs.map some) ((ds.map O.val).map some) (fun _ => []) where
  ex := ex
  len := by simp [h.length]
  slot := fun i o e => by
    obtain ⟨o1, e1, e2⟩ := map_get e
    cases e2
    obtain ⟨d, h1, h2⟩ := map_get e1
    subst h2
    obtain ⟨v, hv, r⟩ := h.get h1
    exact ⟨v, by rw [List.getElem?_map, hv]; rfl, rfl, r⟩
  off := fun _ _ => rfl
  dis := fun _ _ _ _ h => nomatch h
/-- .. one of them stands in a slot -/
theorem Ste.args1 {ws us : List V} {v : V} {pre post : List D} {i : Nat} {o : O} (S : Ste G F H σ ρ α) (h1 : Reps G F ws pre) (hv : σ[i]? = some (some v)) (ho : ρ[i]? = some (some o)) (h2 : Reps G F us post) :
    Ste G F H ((ws ++ v :: us).map some) ((pre.map O.val ++ o :: post.map O.val).map some) (fun j => if j = pre.length then α i else []) where
  ex := S.ex
  len := by simp [h1.length, h2.length]
  slot := fun j x e => by
    obtain ⟨o1, e1, e2⟩ := map_get e
    cases e2
    have lw := h1.length
    rcases Nat.lt_trichotomy j pre.length with hj | hj | hj
    · rw [List.getElem?_append_left (by simpa using hj)] at e1
      obtain ⟨d, q1, q2⟩ := map_get e1
      subst q2
      obtain ⟨w, hw, r⟩ := h1.get q1
      refine ⟨w, by rw [List.getElem?_map, List.getElem?_append_left (by omega), hw]; rfl, ?_⟩
      rw [if_neg (by omega)]
      exact ⟨rfl, r⟩
    · subst hj
      rw [List.getElem?_append_right (by simp)] at e1
      have e1' : o = x := by simpa using e1
      subst e1'
      obtain ⟨w, hw, r⟩ := S.slot i o ho
      rw [hv] at hw
      cases hw
      refine ⟨v, by rw [List.getElem?_map, List.getElem?_append_right (by omega), lw]; simp, ?_⟩
      rw [if_pos rfl]
      exact r
    · rw [List.getElem?_append_right (by simp; omega)] at e1
      have e3 : j - (pre.map O.val).length = (j - pre.length - 1) + 1 := by simp; omega
      rw [e3] at e1
      have e1' : (post.map O.val)[j - pre.length - 1]? = some x := by simpa using e1
      obtain ⟨d, q1, q2⟩ := map_get e1'
      subst q2
      obtain ⟨w, hw, r⟩ := h2.get q1
      have e4 : j - ws.length = (j - pre.length - 1) + 1 := by omega
      refine ⟨w, by rw [List.getElem?_map, List.getElem?_append_right (by omega), e4]; simp [hw], ?_⟩
      rw [if_neg (by omega)]
      exact ⟨rfl, r⟩
  off := fun j h => by
    by_cases hj : j = pre.length
    · subst hj
      exact absurd (by simp) (h o)
    · rw [if_neg hj]
  dis := fun j k a ne hj hk => by
    split at hj
    · split at hk
      · omega
      · cases hk
    · cases hj
theorem Stp.weak {A B : Addr → Prop} (s : Stp A F H F1 H1) (h : ∀ a, A a → B a) : Stp B F H F1 H1 :=
  ⟨s.exF, fun b o e n => s.keep b o e fun z => n (h b z), fun b o e => (s.newF b o e).elim .inl fun z => z.elim (fun y => .inr (.inl y)) fun y => .inr (.inr (h b y))⟩
variable {fn : Fn} {n : Nat} {t : TA} {ms : MA}
theorem sem_callE {E1 : XK} (hE : E1 = E ∨ ∀ os c f os', fn os ≠ some (.ex c f, os')) (hl : ∀ os r, fn os = some r → os.length = n) (ha : SemA G E t ms) : Sem G E (tCall (spF G fn n) [] E1 t) (mCall fn ms) := ⟨fun {F H σ ρ α Q} S h =>
  ha.run S (PostA.to h fun xs ρ1 vs F1 H1 α1 S1 r1 T1 N1 h1 => by
    rw [List.append_nil]
    have h2 := Post.shift T1 N1 h1
    cases e : splitIo xs with
    | none => rw [e] at h2; exact h2.elim
    | some p =>
      obtain ⟨pre, tl⟩ := p
      rw [e] at h2
      have sr := split_r r1 e
      match tl, sr, h2 with
      | none, sr, h2 =>
        try dsimp only at h2
        match q : fn (pre.map O.val), h2 with
        | none, h2 => exact h2.elim
        | some (r, os'), h2 =>
          refine ⟨by rw [sr.length, ← hl _ _ q, List.length_map], F1, pre.map O.val, fun _ => [], Ste.args S1.ex sr, ?_⟩
          rw [q]
          have ow : ∀ a, ¬ Own (fun _ => ([] : List Addr)) a := fun a ⟨_, z⟩ => nomatch z
          match r, h2 with
          | .ok o, h2 =>
            exact fun v F' H' α' β S' R' T' M' N' => by
              have kp : Ex H1 H' := fun b u hb => T'.keep b u hb (ow b)
              have nf : ∀ b u, F' b = some u → F1 b = some u ∨ H1 b = none := fun b u hb => (T'.newF b u hb).elim .inl fun z => z.elim .inr fun y => (ow b y).elim
              exact h2 v F' H' α1 β (S1.grow T'.exF kp nf S'.ex) R' (T'.weak fun a z => (ow a z).elim) (fun a ha z => by
                rcases N' a (.inr ha) with y | y
                · exact ow a y
                · exact S1.notown y z) fun a z => by
                rcases z with z | z
                · exact .inl z
                · rcases N' a (.inr z) with y | y
                  · exact (ow a y).elim
                  · exact .inr y
          | .ex c none, h2 =>
            rcases hE with rfl | hE
            · exact fun F' H' T' => h2 F' H' (T'.weak fun a z => (ow a z).elim)
            · exact (hE _ _ _ _ q).elim
          | .ex c (some fs), h2 =>
            rcases hE with rfl | hE
            · exact fun F' H' dd fvs T' => h2 F' H' dd fvs (T'.weak fun a z => (ow a z).elim)
            · exact (hE _ _ _ _ q).elim
      | some (i, post), sr, h2 =>
        try dsimp only at h2 sr
        obtain ⟨ws, v, us, rfl, s1, s2, s3⟩ := sr
        match q0 : ρ1[i]?, h2 with
        | none, h2 => exact h2.elim
        | some none, h2 => exact h2.elim
        | some (some o), h2 =>
          try dsimp only at h2
          match q : fn (pre.map O.val ++ o :: post.map O.val), h2 with
          | none, h2 => exact h2.elim
          | some (r, os'), h2 =>
            have S2 := Ste.args1 S1 s1 s2 q0 s3
            refine ⟨by have := hl _ _ q; rw [← this]; simp [s1.length, s3.length], F1, pre.map O.val ++ o :: post.map O.val, _, S2, ?_⟩
            rw [q]
            have ow : ∀ a, Own (fun j => if j = pre.length then α1 i else []) a → a ∈ α1 i := fun a ⟨j, z⟩ => by
              have z' : a ∈ (if j = pre.length then α1 i else []) := z
              split at z'
              · exact z'
              · cases z'
            have ow1 : ∀ a, Own (fun j => if j = pre.length then α1 i else []) a → Own α1 a := fun a z => ⟨i, ow a z⟩
            match r, h2 with
            | .ex c none, h2 =>
              rcases hE with rfl | hE
              · exact fun F' H' T' => h2 F' H' (T'.weak ow1)
              · exact (hE _ _ _ _ q).elim
            | .ex c (some fs), h2 =>
              rcases hE with rfl | hE
              · exact fun F' H' dd fvs T' => h2 F' H' dd fvs (T'.weak ow1)
              · exact (hE _ _ _ _ q).elim
            | .ok ro, h2 =>
              try dsimp only at h2
              match q1 : os'[pre.length]?, h2 with
              | none, h2 => exact h2.elim
              | some o', h2 =>
                exact fun v' F' H' α' β S' R' T' M' N' => by
                  have hsl : (os'.map some)[pre.length]? = some (some o') := by rw [List.getElem?_map, q1]; rfl
                  obtain ⟨w, hw, rw'⟩ := S'.slot pre.length o' hsl
                  have hw' : ((ws ++ v :: us).map some)[pre.length]? = some (some v) := by
                    rw [List.getElem?_map, List.getElem?_append_right (by rw [s1.length]; exact Nat.le_refl _), s1.length]
                    simp
                  rw [hw'] at hw
                  cases hw
                  have hi : i < ρ1.length := (List.getElem?_eq_some_iff.mp q0).1
                  -- what is not the argument's own stays
                  have kp : ∀ b u, H1 b = some u → b ∉ α1 i → H' b = some u := fun b u hb nb => T'.keep b u hb fun z => nb (ow b z)
                  have nf : ∀ b u, F' b = some u → F1 b = some u ∨ H1 b = none ∨ b ∈ α1 i := fun b u hb => (T'.newF b u hb).elim .inl fun z => z.elim (fun y => .inr (.inl y)) fun y => .inr (.inr (ow b y))
                  have newA : ∀ a, a ∈ α' pre.length → a ∈ α1 i ∨ H1 a = none := fun a ha => (N' a (.inl ⟨_, ha⟩)).elim (fun z => .inl (ow a z)) .inr
                  have Sc : Ste G F' H' σ (ρ1.set i (some o')) (Al.set α1 i (α' pre.length)) := ⟨S'.ex, by rw [List.length_set]; exact S1.len, fun j x e => by
                      by_cases hj : j = i
                      · subst hj
                        rw [List.getElem?_set_self hi] at e
                        cases e
                        exact ⟨v, s2, by rw [Al.set_eq]; exact rw'⟩
                      · rw [List.getElem?_set_ne (Ne.symm hj)] at e
                        obtain ⟨u, hu, ru⟩ := S1.slot j x e
                        refine ⟨u, hu, ?_⟩
                        rw [Al.set_ne hj]
                        refine ru.move T'.exF (fun b hb => ?_) fun b hb y hy => kp b y hy fun z => S1.dis j i b hj hb z
                        obtain ⟨f0, y, hy⟩ := ru.mem b hb
                        cases q5 : F' b with
                        | none => rfl
                        | some y' =>
                          rcases nf b y' q5 with z | z | z
                          · rw [f0] at z; cases z
                          · rw [hy] at z; cases z
                          · exact absurd z (S1.dis j i b hj hb), fun j hj => by
                      by_cases q6 : j = i
                      · subst q6
                        exact absurd (List.getElem?_set_self hi) (hj o')
                      · rw [Al.set_ne q6]
                        exact S1.off j fun x e => hj x (by rw [List.getElem?_set_ne (Ne.symm q6)]; exact e), fun j k a ne hj hk => by
                      have nx : ∀ m, m ≠ i → a ∈ α1 m → a ∉ α' pre.length := fun m hm ham hap => by
                        rcases newA a hap with z | z
                        · exact S1.dis m i a hm ham z
                        · exact S1.notown z ⟨m, ham⟩
                      by_cases q6 : j = i
                      · subst q6
                        rw [Al.set_eq] at hj
                        rw [Al.set_ne (Ne.symm ne)] at hk
                        exact nx k (Ne.symm ne) hk hj
                      · rw [Al.set_ne q6] at hj
                        by_cases q7 : k = i
                        · subst q7
                          rw [Al.set_eq] at hk
                          exact nx j q6 hj hk
                        · rw [Al.set_ne q7] at hk
                          exact S1.dis j k a ne hj hk⟩
                  refine h2 v' F' H' _ β Sc R' (T'.weak ow1) (fun a ha z => ?_) fun a z => ?_
                  · rcases N' a (.inr ha) with y | y
                    · obtain ⟨k, hk⟩ := z
                      by_cases q7 : k = i
                      · subst q7
                        rw [Al.set_eq] at hk
                        exact M' a ha ⟨_, hk⟩
                      · rw [Al.set_ne q7] at hk
                        exact S1.dis k i a q7 hk (ow a y)
                    · obtain ⟨k, hk⟩ := z
                      by_cases q7 : k = i
                      · subst q7
                        rw [Al.set_eq] at hk
                        exact M' a ha ⟨_, hk⟩
                      · rw [Al.set_ne q7] at hk
                        exact S1.notown y ⟨k, hk⟩
                  · rcases z with z | z
                    · rcases Al.own_set z with y | y
                      · exact .inl y
                      · exact (newA a y).elim (fun y => .inl ⟨i, y⟩) .inr
                    · exact (N' a (.inr z)).elim (fun y => .inl (ow1 a y)) .inr)⟩
theorem sem_call (hl : ∀ os r, fn os = some r → os.length = n) (ha : SemA G E t ms) : Sem G E (tCall (spF G fn n) [] E t) (mCall fn ms) := sem_callE (.inl rfl) hl ha
theorem mFn_len {np N : Nat} {body : MS} : ∀ os r, mFn np N body os = some r → os.length = np := fun os r h => by
  unfold mFn at h
  split at h
  · rename_i hl
    exact hl.1
  · cases h
theorem mFn0_len {np N : Nat} {body : MS} : ∀ os r, mFn0 np N body os = some r → os.length = np := fun os r h => by
  unfold mFn0 at h
  cases e : mFn np N body os with
  | none => rw [e] at h; cases h
  | some q => exact mFn_len os q e
end
end VL

namespace VL
open PySem PySem.Spec
open PyProof.Rows L2
open Evl (Ex sz_of)

/-! ### comprehensions -/
def wipeR (ρ : Rho) : List Nat → Rho
  | [] => ρ
  | v :: vs => (wipeR ρ vs).set v none
def clean (vs : List Nat) (ρ : Rho) : Bool := vs.all fun j => match ρ[j]? with
  | some none => true
  | _ => false
def lcLoop (vs : List Nat) (p : Pat) (mt me : M) : List D → Rho → List D → Option (Res × Rho)
  | [], ρ, acc => some (.ok (.lst acc), ρ)
  | d :: ds, ρ, acc => match bindP [] p d ρ with
    | none => none
    | some ρ1 => (match mt ρ1 with
      | some (.ok b, ρ2) => (match b.frz with
        | .bl true => (match me ρ2 with
          | some (.ok o, ρ3) => lcLoop vs p mt me ds (wipeR ρ3 vs) (acc ++ [o.frz])
          | _ => none)
        | .bl false => lcLoop vs p mt me ds (wipeR ρ2 vs) acc
        | _ => none)
      | _ => none)
def mLc (mi : MI) (vs : List Nat) (p : Pat) (mt me : M) : M := fun ρ => match mi ρ with
  | some (ds, ρ1) => if clean vs ρ1 = true ∧ ds.length ≤ 100000 then lcLoop vs p mt me ds ρ1 [] else none
  | none => none
def mYes : M := mC (.bl true)
section
variable {G : Cn} {E E1 E2 : XK} {F F1 F2 H H1 H2 : Hp} {σ σ1 : L2.St} {ρ ρ1 : Rho} {α α1 : Al}
theorem semT_yes : SemT G E tYes mYes := ⟨fun S h => okV_bl S h⟩
theorem wipeR_len : ∀ vs : List Nat, (wipeR ρ vs).length = ρ.length
  | [] => rfl
  | v :: vs => by
    unfold wipeR
    rw [List.length_set, wipeR_len vs]
theorem wipe_out {i : Nat} : ∀ {vs : List Nat}, i ∉ vs → (wipe σ vs)[i]? = σ[i]?
  | [], _ => rfl
  | v :: vs, h => by
    rw [List.mem_cons, not_or] at h
    unfold wipe
    rw [List.getElem?_set_ne (Ne.symm h.1)]
    exact wipe_out h.2
theorem wipeR_out {i : Nat} : ∀ {vs : List Nat}, i ∉ vs → (wipeR ρ vs)[i]? = ρ[i]?
  | [], _ => rfl
  | v :: vs, h => by
    rw [List.mem_cons, not_or] at h
    unfold wipeR
    rw [List.getElem?_set_ne (Ne.symm h.1)]
    exact wipeR_out h.2
theorem wipe_in {i : Nat} : ∀ {vs : List Nat}, i ∈ vs → i < σ.length → (wipe σ vs)[i]? = some none
  | [], h, _ => nomatch h
  | v :: vs, h, hl => by
    unfold wipe
    by_cases e : v = i
    · subst e
      rw [List.getElem?_set_self (by rw [wipe_length]; exact hl)]
    · rw [List.getElem?_set_ne e]
      exact wipe_in ((List.mem_cons.mp h).resolve_left (Ne.symm e)) hl
theorem wipeR_in {i : Nat} : ∀ {vs : List Nat}, i ∈ vs → ∀ o, (wipeR ρ vs)[i]? ≠ some (some o)
  | [], h, _ => nomatch h
  | v :: vs, h, o => by
    unfold wipeR
    by_cases e : v = i
    · subst e
      intro q
      by_cases hl : v < (wipeR ρ vs).length
      · rw [List.getElem?_set_self hl] at q; cases q
      · rw [List.getElem?_eq_none_iff.mpr (by rw [List.length_set]; omega)] at q; cases q
    · rw [List.getElem?_set_ne e]
      exact wipeR_in ((List.mem_cons.mp h).resolve_left (Ne.symm e)) o
theorem wipe_same {vs : List Nat} (hl : σ1.length = σ.length) (h : ∀ j, j ∉ vs → σ1[j]? = σ[j]?) : wipe σ1 vs = wipe σ vs := by
  apply List.ext_getElem?
  intro i
  by_cases hi : i ∈ vs
  · by_cases h1 : i < σ.length
    · rw [wipe_in hi h1, wipe_in hi (by omega)]
    · rw [List.getElem?_eq_none_iff.mpr (by rw [wipe_length]; omega), List.getElem?_eq_none_iff.mpr (by rw [wipe_length]; omega)]
  · rw [wipe_out hi, wipe_out hi]
    exact h i hi
/-- slots forgotten -/
theorem Ste.wipe (S : Ste G F H σ ρ α) (vs : List Nat) : ∃ α2, Ste G F H (L2.wipe σ vs) (wipeR ρ vs) α2 ∧ ∀ a, Own α2 a → Own α a := by
  refine ⟨fun i => if i ∈ vs then [] else α i, ⟨S.ex, by rw [wipe_length, wipeR_len]; exact S.len, fun i o e => ?_, fun i h => ?_, fun i j a ne hi hj => ?_⟩, fun a ⟨i, hi⟩ => ?_⟩
  · by_cases hi : i ∈ vs
    · exact absurd e (wipeR_in hi o)
    · rw [wipeR_out hi] at e
      obtain ⟨v, h1, r⟩ := S.slot i o e
      exact ⟨v, by rw [wipe_out hi]; exact h1, by rw [if_neg hi]; exact r⟩
  · by_cases hi : i ∈ vs
    · exact if_pos hi
    · show (if i ∈ vs then [] else α i) = []
      rw [if_neg hi]
      exact S.off i fun o e => h o (by rw [wipeR_out hi]; exact e)
  · have hi' : a ∈ (if i ∈ vs then [] else α i) := hi
    have hj' : a ∈ (if j ∈ vs then [] else α j) := hj
    split at hi'
    · cases hi'
    · split at hj'
      · cases hj'
      · exact S.dis i j a ne hi' hj'
  · have hi' : a ∈ (if i ∈ vs then [] else α i) := hi
    split at hi'
    · cases hi'
    · exact ⟨i, hi'⟩
theorem clean_mem {vs : List Nat} (h : clean vs ρ = true) {j : Nat} (hj : j ∈ vs) : ρ[j]? = some none := by
  unfold clean at h
  have q := List.all_eq_true.mp h j hj
  split at q
  · assumption
  · cases q
/-- where the slots hold nothing, forgetting them is nothing -/
theorem Ste.wiped (S : Ste G F H σ ρ α) {vs : List Nat} (h : ∀ j ∈ vs, ∀ o, ρ[j]? ≠ some (some o)) : Ste G F H (L2.wipe σ vs) ρ α := ⟨S.ex, by rw [wipe_length]; exact S.len, fun i o e => by
    obtain ⟨v, h1, r⟩ := S.slot i o e
    exact ⟨v, by rw [wipe_out fun hi => h i hi o e]; exact h1, r⟩, S.off, S.dis⟩
theorem Ste.unwiped {vs : List Nat} (S : Ste G F H (L2.wipe σ vs) ρ α) : Ste G F H σ ρ α := ⟨S.ex, by have := S.len; rwa [wipe_length] at this, fun i o e => by
    obtain ⟨v, h1, r⟩ := S.slot i o e
    exact ⟨v, (wipe_some h1).1, r⟩, S.off, S.dis⟩
theorem Ste.resig {σ' : L2.St} (S : Ste G F H σ ρ α) (e : σ = σ') : Ste G F H σ' ρ α := e ▸ S
variable {wi : TI} {mi : MI} {g : TG} {p : Pat} {tt : TT} {mt me : M} {te : TE}
/-- the list that is made, beside the state -/
structure Pend (G : Cn) (F H : Hp) (α : Al) (Dl : Addr) (ds : List D) : Prop where
  fF : F Dl = none
  no : ¬ Own α Dl
  at' : ∃ vs, H Dl = some (.lst vs) ∧ Reps G F vs ds
theorem Pend.step {Dl : Addr} {ds : List D} (q : Pend G F H α Dl ds) (T : Stp (Own α) F H F1 H1) (N : New (Own α) H (Own α1)) : Pend G F1 H1 α1 Dl ds := by
  obtain ⟨vs, h1, h2⟩ := q.at'
  refine ⟨?_, fun z => ?_, vs, T.keep _ _ h1 q.no, h2.mono T.exF⟩
  · cases e : F1 Dl with
    | none => rfl
    | some u =>
      rcases T.newF Dl u e with z | z | z
      · rw [q.fF] at z; cases z
      · rw [h1] at z; cases z
      · exact absurd z q.no
  · rcases N Dl z with y | y
    · exact q.no y
    · rw [h1] at y; cases y
/-- the list gets one more item -/
theorem Ste.grown {Dl : Addr} {ds : List D} {d : D} {v : V} (S : Ste G F H σ ρ α) (q : Pend G F H α Dl ds) (r : Rep G F v d) :
    ∃ vs, H Dl = some (.lst vs) ∧ vs.length = ds.length ∧ Ste G F (upd H Dl (.lst (vs ++ [v]))) σ ρ α ∧ Pend G F (upd H Dl (.lst (vs ++ [v]))) α Dl (ds ++ [d]) := by
  obtain ⟨vs, h1, h2⟩ := q.at'
  refine ⟨vs, h1, h2.length, ⟨S.ex.mut q.fF, S.len, fun i o e => ?_, S.off, S.dis⟩, q.fF, q.no, _, upd_same, h2.append (Reps.one r)⟩
  obtain ⟨u, h3, r3⟩ := S.slot i o e
  refine ⟨u, h3, r3.move (Ex.refl F) (fun b hb => (r3.mem b hb).1) fun b hb y hy => ?_⟩
  rw [upd_ne (fun z => q.no ⟨i, by rw [← z]; exact hb⟩)]
  exact hy
theorem sem_lc {vs : List Nat} (hi : SemI G wi mi) (hg : GSem G g p) (ht : SemT G E1 tt mt) (he : Sem G E2 te me) (hp : ∀ j ∈ p.slots, j ∈ vs) : Sem G E (tLc wi g tt te vs) (mLc mi vs p mt me) := ⟨fun {F H σ ρ α Q} S h => by
  unfold mLc at h
  cases e : mi ρ with
  | none => rw [e] at h; exact h.elim
  | some x =>
    obtain ⟨ds, ρ1⟩ := x
    rw [e] at h
    try dsimp only at h
    split at h
    · rename_i hc
      obtain ⟨hcl, hlen⟩ := hc
      refine hi.run S e fun J F1 H1 α1 S1 T1 N1 it => ?_
      intro Dl hD
      have S1' : Ste G F1 (upd H1 Dl (.lst [])) (L2.wipe σ vs) ρ1 α1 := (S1.put hD).wiped fun j hj o q => by
        rw [clean_mem hcl hj] at q
        cases q
      have T1' : Stp (Own α) F H F1 (upd H1 Dl (.lst [])) := T1.trans (Ste.putStp hD (A := Own α1)) N1
      let A : Al → Addr → Prop := fun β a => Own β a ∨ a = Dl
      have wk : ∀ {β : Al} {Fa Ha Fb Hb : Hp}, Stp (Own β) Fa Ha Fb Hb → Stp (A β) Fa Ha Fb Hb := fun s => s.weak fun a z => .inl z
      have nw : ∀ {β γ : Al} {Ha : Hp}, New (Own β) Ha (Own γ) → New (A β) Ha (A γ) := fun n a z => z.elim (fun y => (n a y).elim (fun x => .inl (.inl x)) .inr) fun y => .inl (.inr y)
      refine ⟨fun i m H' => m = ds.length - i ∧ i ≤ ds.length ∧ ∃ F' ρ' α' acc, Ste G F' H' (L2.wipe σ vs) ρ' α' ∧ Pend G F' H' α' Dl acc ∧ acc.length ≤ i ∧ Ex F1 F' ∧ Stp (A α1) F1 (upd H1 Dl (.lst [])) F' H' ∧ New (A α1) (upd H1 Dl (.lst [])) (A α') ∧
          PostG G E F H α (okV G F H σ α Q) (lcLoop vs p mt me (ds.drop i) ρ' acc),
        ⟨ds.length, by simp, Nat.zero_le _, F1, ρ1, α1, [], S1', ⟨S1.fresh hD, S1.notown hD, [], upd_same, Reps.nil⟩, Nat.le_refl _, Ex.refl F1, .refl, .refl, h⟩, ?_⟩
      rintro i m H' ⟨rfl, hi', F', ρ', α', acc, S', q', la, e1, T', N', h'⟩
      obtain ⟨i1, i2, i3⟩ := it i e1 S'.ex
      by_cases hlt : i < ds.length
      · refine .inr ⟨i1 hlt, _, fun H2 n2 => ⟨ds.length - (i + 1), by omega, n2⟩, fun x H'' y => ?_⟩
        obtain ⟨d, hd⟩ : ∃ d, ds[i]? = some d := ⟨ds[i], by simp [hlt]⟩
        obtain ⟨F'', f1, f2, f3, f4, rx⟩ := i3 x H'' d hd y
        have S2 := S'.grow f1 f2 f3 f4
        have G2 : Stp (Own α') F' H' F'' H'' := Stp.grow f1 f2 f3
        have q2 := q'.step G2 (α1 := α') .refl
        rw [drop_get hd] at h'
        unfold lcLoop at h'
        cases e2 : bindP [] p d ρ' with
        | none => rw [e2] at h'; exact h'.elim
        | some ρ2 =>
          rw [e2] at h'
          try dsimp only at h'
          refine hg (pins := []) S2 rx e2 fun σ2 α2 S3 o3 _ J3 => ?_
          have q3 : Pend G F'' H'' α2 Dl acc := ⟨q2.fF, fun z => q2.no (o3 _ z), q2.at'⟩
          have hw : L2.wipe σ2 vs = L2.wipe σ vs := (wipe_same J3.2 fun j hj => J3.1 j fun z => hj (hp j z)).trans (wipe_same (wipe_length σ vs) fun j hj => wipe_out hj)
          have T3 : Stp (A α1) F1 (upd H1 Dl (.lst [])) F'' H'' := T'.trans (wk G2) N'
          have N3 : New (A α1) (upd H1 Dl (.lst [])) (A α2) := fun a z => N' a (z.elim (fun y => .inl (o3 a y)) .inr)
          have e3 : Ex F1 F'' := e1.trans f1
          refine ⟨hw, ht.run S3 ?_⟩
          match q5 : mt ρ2, h' with
          | none, h' => exact h'.elim
          | some (.ex c f, _), h' => exact h'.elim
          | some (.ok b, ρ3), h' =>
            intro v F3 H3 α3 β S4 r4 T4 M4 N4
            obtain ⟨F4, S5, r5, T5, N5⟩ := S4.freeze r4 T4 M4 N4
            have q6 := q3.step T5 N5
            have T6 := T3.trans (wk T5) N3
            have N6 := New.trans T3 N3 (nw N5)
            try dsimp only at h'
            split at h'
            · rename_i eb
              refine ⟨true, frz_bl (H := H) r5 eb, ?_⟩
              rw [if_pos rfl]
              refine he.run S5 ?_
              match q7 : me ρ3, h' with
              | none, h' => exact h'.elim
              | some (.ex c f, _), h' => exact h'.elim
              | some (.ok o, ρ4), h' =>
                intro v2 F5 H5 α5 β2 S6 r6 T7 M7 N7
                obtain ⟨F6, S7, r7, T8, N8⟩ := S6.freeze r6 T7 M7 N7
                have q8 := q6.step T8 N8
                have T9 := T6.trans (wk T8) N6
                have N9 := New.trans T6 N6 (nw N8)
                obtain ⟨ws, hws, lws, S8, q9⟩ := S7.grown q8 r7
                obtain ⟨α9, S9, o9⟩ := S8.wipe vs
                refine ⟨ws, hws, by rw [lws]; exact Nat.lt_of_le_of_lt (Nat.le_trans la (Nat.le_of_lt (Nat.lt_of_lt_of_le hlt hlen))) (by decide), ?_⟩
                have T10 : Stp (A α5) F6 H5 F6 (upd H5 Dl (.lst (ws ++ [v2]))) := ⟨Ex.refl F6, fun b u hb n => by
                    rw [upd_ne fun z => n (.inr z)]
                    exact hb, fun b u hb => .inl hb⟩
                refine ⟨rfl, hlt, F6, wipeR ρ4 vs, α9, acc ++ [o.frz], S9.resig hw, ⟨q9.fF, fun z => q9.no (o9 _ z), q9.at'⟩, by rw [List.length_append]; simpa using la, e3.trans (T5.exF.trans T8.exF), T9.trans T10 N9, fun a z => ?_, h'⟩
                have N11 := New.trans T9 N9 (.refl (A := A α5) (H := H5))
                exact N11 a (z.elim (fun y => .inl (o9 a y)) .inr)
            · rename_i eb
              refine ⟨false, frz_bl (H := H) r5 eb, ?_⟩
              rw [if_neg Bool.false_ne_true]
              obtain ⟨α9, S9, o9⟩ := S5.wipe vs
              exact ⟨rfl, hlt, F4, wipeR ρ3 vs, α9, acc, S9.resig hw, ⟨q6.fF, fun z => q6.no (o9 _ z), q6.at'⟩, Nat.le_succ_of_le la, e3.trans T5.exF, T6, fun a z => N6 a (z.elim (fun y => .inl (o9 a y)) .inr), h'⟩
            · exact h'.elim
      · refine .inl ⟨i2 (by omega), ?_⟩
        rw [List.drop_of_length_le (by omega)] at h'
        obtain ⟨ws, hws, rws⟩ := q'.at'
        have nD : Own α Dl ∨ H Dl = none := by
          by_cases z : Own α Dl
          · exact .inl z
          · cases e5 : H Dl with
            | none => exact .inr rfl
            | some u =>
              rw [T1.keep Dl u e5 z] at hD
              cases hD
        have nA : New (Own α) H (A α1) := fun a z => z.elim (fun y => N1 a y) fun y => by
          subst y
          exact nD
        refine h' (.ref Dl) F' H' α' [Dl] S'.unwiped ⟨Dl, ws, rfl, rfl, q'.fF, hws, rws⟩ (T1'.trans T' nA) (fun a ha => by
          have : a = Dl := by simpa using ha
          subst this
          exact q'.no) fun a z => ?_
        have z' : A α' a := z.elim .inl fun y => .inr (by simpa using y)
        exact New.trans T1' nA N' a z'
    · exact h.elim⟩
end
end VL

namespace VL
open PySem PySem.Spec
open PyProof.Rows L2
open Evl (Ex sz_of)

/-! ### operators on ints -/
def fInt (g : Int → Int → Int) : D → D → Option O
  | .int i, .int j => some (.val (.int (g i j)))
  | _, _ => none
def fIntC (C : Int → Int → Bool) (g : Int → Int → Int) : D → D → Option O
  | .int i, .int j => if C i j = true then some (.val (.int (g i j))) else none
  | _, _ => none
def fCmp (g : Int → Int → Bool) : D → D → Option O
  | .int i, .int j => some (.val (.bl (g i j)))
  | _, _ => none
section
variable {G : Cn} {F H : Hp} {σ : L2.St} {ρ : Rho} {α : Al}
theorem os_int {g : Int → Int → Int} : OSem G (rI0 fun i j => .int (g i j)) (fInt g) := fun {E F H σ ρ α Q x y dx dy} S hx hy h => by
  unfold fInt at h
  split at h
  · obtain rfl := hx.int
    obtain rfl := hy.int
    exact ⟨_, _, rfl, rfl, Post.val h S Rep.ofInt⟩
  · exact h.elim
theorem os_intC {C : Int → Int → Prop} {Cb : Int → Int → Bool} {g : Int → Int → Int} (hC : ∀ i j, Cb i j = true → C i j) : OSem G (rI C fun i j => .int (g i j)) (fIntC Cb g) := fun {E F H σ ρ α Q x y dx dy} S hx hy h => by
  unfold fIntC at h
  split at h
  · obtain rfl := hx.int
    obtain rfl := hy.int
    split at h
    · rename_i hc
      exact ⟨_, _, rfl, rfl, hC _ _ hc, Post.val h S Rep.ofInt⟩
    · exact h.elim
  · exact h.elim
theorem os_cmp {g : Int → Int → Bool} : OSem G (rI0 fun i j => .bl (g i j)) (fCmp g) := fun {E F H σ ρ α Q x y dx dy} S hx hy h => by
  unfold fCmp at h
  split at h
  · obtain rfl := hx.int
    obtain rfl := hy.int
    exact ⟨_, _, rfl, rfl, Post.val h S Rep.ofBl⟩
  · exact h.elim
def bMul (i j : Int) : Bool := (decide (-(2 ^ 64) < i) && decide (i < 2 ^ 64)) || (decide (-(2 ^ 64) < j) && decide (j < 2 ^ 64))
theorem os_mul : OSem G (rI CMul fun i j => .int (i * j)) (fIntC bMul fun i j => i * j) := os_intC fun i j h => by
  unfold bMul at h
  unfold CMul
  simp only [Bool.or_eq_true, Bool.and_eq_true, decide_eq_true_eq] at h
  exact h
def bMod (i j : Int) : Bool := decide (0 < j)
theorem os_mod : OSem G (rI (fun _ j => 0 < j) fun i j => .int (i % j)) (fIntC bMod fun i j => i % j) := os_intC fun i j h => by
  unfold bMod at h
  simpa using h
def bDiv (i j : Int) : Bool := decide (0 < j) && decide (j < 1073741824)
theorem os_div : OSem G (rI CDiv fun i j => .int (i / j)) (fIntC bDiv fun i j => i / j) := os_intC fun i j h => by
  unfold bDiv at h
  unfold CDiv
  simp only [Bool.and_eq_true, decide_eq_true_eq] at h
  exact h
def bPow (i j : Int) : Bool := decide (0 ≤ j) && decide (j ≤ 1000000) && decide (i.natAbs < 2 ^ 64)
theorem os_pow : OSem G (rI CPow fun i j => .int (i ^ j.toNat)) (fIntC bPow fun i j => i ^ j.toNat) := os_intC fun i j h => by
  unfold bPow at h
  unfold CPow
  simp only [Bool.and_eq_true, decide_eq_true_eq] at h
  exact ⟨h.1.1, h.1.2, h.2⟩
end

/-! ### equality of data -/
mutual
def toPy : D → Option PyData
  | .non => some .none
  | .bl b => some (.bool b)
  | .int i => some (.int i)
  | .str x => some (.str x)
  | .tup ds => (toPys ds).map .tuple
  | .lst ds => (toPys ds).map .list
  | _ => none
def toPys : List D → Option (List PyData)
  | [] => some []
  | d :: ds => (toPy d).bind fun p => (toPys ds).map (p :: ·)
end
section
variable {G : Cn} {F H : Hp} {σ : L2.St} {ρ : Rho} {α : Al}
mutual
theorem toPy_dp (e : Ex F H) : ∀ {v : V} (d : D) {p : PyData}, Rep G F v d → toPy d = some p → Dp G.K H v p
  | v, .non, p, h, q => by
    cases q
    unfold Rep at h
    subst h
    exact .non
  | v, .bl b, p, h, q => by
    cases q
    unfold Rep at h
    subst h
    exact .bl b
  | v, .int b, p, h, q => by
    cases q
    unfold Rep at h
    subst h
    exact .int b
  | v, .str b, p, h, q => by
    cases q
    unfold Rep at h
    subst h
    exact .str b
  | v, .tup ds, p, h, q => by
    unfold Rep at h
    obtain ⟨a, vs, rfl, h1, h2⟩ := h
    unfold toPy at q
    cases q1 : toPys ds with
    | none => rw [q1] at q; cases q
    | some ps =>
      rw [q1] at q
      cases q
      exact .tup (SqT.of (e _ _ h1)) (toPys_dp e ds h2 q1)
  | v, .lst ds, p, h, q => by
    unfold Rep at h
    obtain ⟨a, vs, rfl, h1, h2⟩ := h
    unfold toPy at q
    cases q1 : toPys ds with
    | none => rw [q1] at q; cases q
    | some ps =>
      rw [q1] at q
      cases q
      exact .lst (SqL.of (e _ _ h1)) (toPys_dp e ds h2 q1)
  | v, .dic ds, p, h, q => by cases q
  | v, .ins c ds, p, h, q => by cases q
  | v, .scr ds, p, h, q => by cases q
theorem toPys_dp (e : Ex F H) : ∀ {vs : List V} (ds : List D) {ps : List PyData}, Reps G F vs ds → toPys ds = some ps → DpAll G.K H vs ps
  | vs, [], ps, h, q => by
    cases q
    rw [h.of_nil]
    exact .nil
  | vs, d :: ds, ps, h, q => by
    obtain ⟨v, r, rfl, h1, h2⟩ := h.of_cons
    unfold toPys at q
    cases q1 : toPy d with
    | none => rw [q1] at q; cases q
    | some p =>
      rw [q1] at q
      cases q2 : toPys ds with
      | none => rw [q2] at q; cases q
      | some ps' =>
        rw [q2] at q
        cases q
        exact .cons (toPy_dp e d h1 q1) (toPys_dp e ds h2 q2)
end
theorem RepX.dp {v : V} {d : D} {p : PyData} (h : RepX G F H v d) (e : Ex F H) (q : toPy d = some p) : Dp G.K H v p := by
  rcases h with h | ⟨ds, a, vs, rfl, rfl, e2, e3⟩ | ⟨ds, a, vs, rfl, _⟩ | ⟨c, fs, a, dx, fvs, rfl, _⟩
  · exact toPy_dp e d h q
  · unfold toPy at q
    cases q1 : toPys ds with
    | none => rw [q1] at q; cases q
    | some ps =>
      rw [q1] at q
      cases q
      exact .lst (SqL.of e2) (toPys_dp e ds e3 q1)
  · cases q
  · cases q
def fEq (x y : D) : Option O := (toPy x).bind fun p => (toPy y).bind fun q => if SeqAt.shaped p && SeqAt.shaped q then some (.val (.bl (PyData.eqv p q))) else none
def fNe (x y : D) : Option O := (toPy x).bind fun p => (toPy y).bind fun q => if SeqAt.shaped p && SeqAt.shaped q then some (.val (.bl (!PyData.eqv p q))) else none
theorem os_eq : OSem G (rEqD G.K) fEq := fun {E F H σ ρ α Q x y dx dy} S hx hy h => by
  unfold fEq at h
  cases q1 : toPy dx with
  | none => rw [q1] at h; exact h.elim
  | some p =>
    rw [q1] at h
    cases q2 : toPy dy with
    | none => rw [q2] at h; exact h.elim
    | some q =>
      rw [q2] at h
      dsimp only [Option.bind] at h
      split at h
      · rename_i hs
        rw [Bool.and_eq_true] at hs
        exact ⟨p, q, hx.dp S.ex q1, hy.dp S.ex q2, hs.1, hs.2, Post.val h S Rep.ofBl⟩
      · exact h.elim
theorem os_ne : OSem G (fun x y H Q => ∃ d e, Dp G.K H x d ∧ Dp G.K H y e ∧ SeqAt.shaped d = true ∧ SeqAt.shaped e = true ∧ Q (.bl (!PyData.eqv d e)) H) fNe := fun {E F H σ ρ α Q x y dx dy} S hx hy h => by
  unfold fNe at h
  cases q1 : toPy dx with
  | none => rw [q1] at h; exact h.elim
  | some p =>
    rw [q1] at h
    cases q2 : toPy dy with
    | none => rw [q2] at h; exact h.elim
    | some q =>
      rw [q2] at h
      dsimp only [Option.bind] at h
      split at h
      · rename_i hs
        rw [Bool.and_eq_true] at hs
        exact ⟨p, q, hx.dp S.ex q1, hy.dp S.ex q2, hs.1, hs.2, Post.val h S Rep.ofBl⟩
      · exact h.elim
end

/-! ### in a list, in a tuple -/
def flatD : D → Bool
  | .non | .bl _ | .int _ | .str _ => true
  | _ => false
def toV : D → V
  | .non => .non
  | .bl b => .bl b
  | .int i => .int i
  | .str x => .str x
  | _ => .non
def fIn (neg : Bool) (x y : D) : Option O := match y with
  | .lst ds => if flatD x && ds.all flatD then some (.val (.bl (if neg = true then !inV (toV x) (ds.map toV) else inV (toV x) (ds.map toV)))) else none
  | .tup ds => if flatD x && ds.all flatD then some (.val (.bl (if neg = true then !inV (toV x) (ds.map toV) else inV (toV x) (ds.map toV)))) else none
  | _ => none
section
variable {G : Cn} {F H : Hp} {σ : L2.St} {ρ : Rho} {α : Al}
theorem flat_rep {v : V} {d : D} (h : Rep G F v d) (f : flatD d = true) : v = toV d ∧ flatV v = true := by
  cases d with
  | non => unfold Rep at h; subst h; exact ⟨rfl, rfl⟩
  | bl b => unfold Rep at h; subst h; exact ⟨rfl, rfl⟩
  | int b => unfold Rep at h; subst h; exact ⟨rfl, rfl⟩
  | str b => unfold Rep at h; subst h; exact ⟨rfl, rfl⟩
  | _ => cases f
theorem flat_reps : ∀ {vs : List V} {ds : List D}, Reps G F vs ds → ds.all flatD = true → vs = ds.map toV ∧ vs.all flatV = true
  | _, [], h, _ => by
    rw [h.of_nil]
    exact ⟨rfl, rfl⟩
  | _, d :: ds, h, f => by
    obtain ⟨v, r, rfl, h1, h2⟩ := h.of_cons
    rw [List.all_cons, Bool.and_eq_true] at f
    obtain ⟨e1, e2⟩ := flat_rep h1 f.1
    obtain ⟨e3, e4⟩ := flat_reps h2 f.2
    subst e1 e3
    exact ⟨rfl, by rw [List.all_cons, e2, e4]; rfl⟩
theorem flat_x {v : V} {d : D} (h : RepX G F H v d) (f : flatD d = true) : v = toV d ∧ flatV v = true := by
  rcases h with h | ⟨ds, a, vs, rfl, rfl, e2, e3⟩ | ⟨ds, a, vs, rfl, _⟩ | ⟨c, fs, a, dx, fvs, rfl, _⟩
  · exact flat_rep h f
  all_goals cases f
theorem os_in {neg : Bool} : OSem G (rIn G.K neg) (fIn neg) := fun {E F H σ ρ α Q x y dx dy} S hx hy h => by
  unfold fIn at h
  split at h
  · rename_i ds
    obtain ⟨a, vs, rfl, h1, h2⟩ := hy.l S.ex
    split at h
    · rename_i hc
      rw [Bool.and_eq_true] at hc
      obtain ⟨rfl, fx⟩ := flat_x hx hc.1
      obtain ⟨rfl, fs⟩ := flat_reps h2 hc.2
      exact ⟨a, _, rfl, .inl (SqL.of h1), fx, fs, Post.val h S Rep.ofBl⟩
    · exact h.elim
  · rename_i ds
    obtain ⟨a, vs, rfl, h0, h1, h2⟩ := hy.t S.ex
    split at h
    · rename_i hc
      rw [Bool.and_eq_true] at hc
      obtain ⟨rfl, fx⟩ := flat_x hx hc.1
      obtain ⟨rfl, fs⟩ := flat_reps h2 hc.2
      exact ⟨a, _, rfl, .inr (SqT.of h1), fx, fs, Post.val h S Rep.ofBl⟩
    · exact h.elim
  · exact h.elim
end

/-! ### an item -/
def fIx (x y : D) : Option O := match x, y with
  | .lst ds, .int i => (atI ds i).map .val
  | .tup ds, .int i => (atI ds i).map .val
  | .scr ns, .int i => (atI ns i).map fun n => .val (.int n)
  | _, _ => none
section
variable {G : Cn} {F H : Hp} {σ : L2.St} {ρ : Rho} {α : Al}
theorem at_reps {vs : List V} {ds : List D} {i : Int} {d : D} (h : Reps G F vs ds) (e : atI ds i = some d) : ∃ v, atI vs i = some v ∧ Rep G F v d := by
  unfold atI at e ⊢
  rw [h.length]
  cases q : ixN ds.length i with
  | none => rw [q] at e; cases e
  | some j =>
    rw [q] at e
    exact h.get e
theorem at_map {A B : Type} {f : A → B} {l : List A} {i : Int} {x : A} (e : atI l i = some x) : atI (l.map f) i = some (f x) := by
  unfold atI at e ⊢
  rw [List.length_map]
  cases q : ixN l.length i with
  | none => rw [q] at e; cases e
  | some j =>
    rw [q] at e
    show (l.map f)[j]? = _
    rw [List.getElem?_map, show l[j]? = some x from e]
    rfl
theorem os_ix : OSem G (rIx G.K) fIx := fun {E F H σ ρ α Q x y dx dy} S hx hy h => by
  unfold fIx at h
  split at h
  · obtain rfl := hy.int
    obtain ⟨a, vs, rfl, h1, h2⟩ := hx.l S.ex
    rename_i ds i
    cases q : atI ds i with
    | none => rw [q] at h; exact h.elim
    | some d =>
      rw [q] at h
      obtain ⟨v, e1, r⟩ := at_reps h2 q
      exact .inl ⟨a, vs, i, v, rfl, rfl, SqL.of h1, e1, Post.val h S r⟩
  · obtain rfl := hy.int
    obtain ⟨a, vs, rfl, h0, h1, h2⟩ := hx.t S.ex
    rename_i ds i
    cases q : atI ds i with
    | none => rw [q] at h; exact h.elim
    | some d =>
      rw [q] at h
      obtain ⟨v, e1, r⟩ := at_reps h2 q
      exact .inr (.inl ⟨a, vs, i, v, rfl, rfl, SqT.of h1, e1, Post.val h S r⟩)
  · obtain rfl := hy.int
    rename_i ns i
    rcases hx with hx | ⟨ds, a, vs, q, _⟩ | ⟨ds, a, vs, q, _⟩ | ⟨c, fs, a, dx, fvs, q, _⟩
    · unfold Rep at hx
      obtain ⟨a, rfl, h1⟩ := hx
      cases q : atI ns i with
      | none => rw [q] at h; exact h.elim
      | some n =>
        rw [q] at h
        exact .inl ⟨a, _, i, _, rfl, rfl, S.ex.l h1, at_map q, Post.val h S Rep.ofInt⟩
    all_goals cases q
  · exact h.elim
end

/-! ### built-ins -/
def fLen : List D → Option O
  | [.lst ds] => some (.val (.int ds.length))
  | [.tup ds] => some (.val (.int ds.length))
  | [.scr ds] => some (.val (.int ds.length))
  | [.str x] => if x.length ≤ 100000 then some (.val (.int x.length)) else none
  | _ => none
def bools : List D → Option (List Bool)
  | [] => some []
  | .bl b :: r => (bools r).map (b :: ·)
  | _ => none
def fAll : List D → Option O
  | [.lst ds] => (bools ds).map fun bs => .val (.bl (bs.all id))
  | _ => none
def fAny : List D → Option O
  | [.lst ds] => (bools ds).map fun bs => .val (.bl (bs.any id))
  | _ => none
def fList : List D → Option O
  | [.lst ds] => some (.lst ds)
  | [.tup ds] => some (.lst ds)
  | _ => none
def fTuple : List D → Option O
  | [.lst ds] => some (.val (.tup ds))
  | [.tup ds] => some (.val (.tup ds))
  | _ => none
def fMin2 : List D → Option O
  | [.int i, .int j] => some (.val (.int (if j < i then j else i)))
  | _ => none
def fMax2 : List D → Option O
  | [.int i, .int j] => some (.val (.int (if j > i then j else i)))
  | _ => none
def fIntOf : List D → Option O
  | [.int i] => some (.val (.int i))
  | [.bl k] => some (.val (.int (if k then 1 else 0)))
  | _ => none
section
variable {G : Cn} {F H : Hp} {σ : L2.St} {ρ : Rho} {α : Al}
theorem RepXs.one {vs : List V} {d : D} (h : RepXs G F H vs [d]) : ∃ v, vs = [v] ∧ RepX G F H v d := by
  obtain ⟨v, r, rfl, h1, h2⟩ := h
  obtain rfl : r = [] := h2
  exact ⟨v, rfl, h1⟩
theorem RepXs.two {vs : List V} {d e : D} (h : RepXs G F H vs [d, e]) : ∃ v w, vs = [v, w] ∧ RepX G F H v d ∧ RepX G F H w e := by
  obtain ⟨v, r, rfl, h1, h2⟩ := h
  obtain ⟨w, rfl, h3⟩ := RepXs.one h2
  exact ⟨v, w, rfl, h1, h3⟩
theorem RepX.scr {v : V} {ns : List Int} (h : RepX G F H v (.scr ns)) (e : Ex F H) : ∃ a, v = .ref a ∧ SqL G.K H a (ns.map V.int) := by
  rcases h with h | ⟨ds, a, vs, q, _⟩ | ⟨ds, a, vs, q, _⟩ | ⟨c, fs, a, dx, fvs, q, _⟩
  · unfold Rep at h
    obtain ⟨a, rfl, h1⟩ := h
    exact ⟨a, rfl, e.l h1⟩
  all_goals cases q
theorem cs_len : CSem G (fun xs H Q => ∃ x n, xs = [x] ∧ LenV G.K x H n ∧ Q (.int n) H) fLen := fun {E F H σ ρ α Q vs ds} S hv h => by
  unfold fLen at h
  split at h
  · obtain ⟨v, rfl, hx⟩ := hv.one
    obtain ⟨a, ws, rfl, h1, h2⟩ := hx.l S.ex
    exact ⟨.ref a, _, rfl, .inl ⟨ws, SqL.of h1, h2.length.symm⟩, Post.val h S Rep.ofInt⟩
  · obtain ⟨v, rfl, hx⟩ := hv.one
    obtain ⟨a, ws, rfl, h0, h1, h2⟩ := hx.t S.ex
    exact ⟨.ref a, _, rfl, .inr ⟨ws, SqT.of h1, h2.length.symm⟩, Post.val h S Rep.ofInt⟩
  · obtain ⟨v, rfl, hx⟩ := hv.one
    obtain ⟨a, rfl, h1⟩ := hx.scr S.ex
    exact ⟨.ref a, _, rfl, .inl ⟨_, h1, (List.length_map ..).symm⟩, Post.val h S Rep.ofInt⟩
  · obtain ⟨v, rfl, hx⟩ := hv.one
    obtain rfl := hx.str
    split at h
    · rename_i hl
      exact ⟨_, _, rfl, ⟨sz_of hl, rfl⟩, Post.val h S Rep.ofInt⟩
    · exact h.elim
  · exact h.elim
theorem bools_reps : ∀ {vs : List V} {ds : List D} {bs : List Bool}, Reps G F vs ds → bools ds = some bs → vs = bs.map V.bl
  | _, [], bs, h, e => by
    cases e
    rw [h.of_nil]
    rfl
  | _, d :: ds, bs, h, e => by
    obtain ⟨v, r, rfl, h1, h2⟩ := h.of_cons
    cases d with
    | bl b =>
      unfold bools at e
      cases q : bools ds with
      | none => rw [q] at e; cases e
      | some bs' =>
        rw [q] at e
        cases e
        unfold Rep at h1
        rw [h1, bools_reps h2 q]
        rfl
    | _ => cases e
theorem cs_all : CSem G (rAll G.K) fAll := fun {E F H σ ρ α Q vs ds} S hv h => by
  unfold fAll at h
  split at h
  · obtain ⟨v, rfl, hx⟩ := hv.one
    obtain ⟨a, ws, rfl, h1, h2⟩ := hx.l S.ex
    rename_i ds
    cases q : bools ds with
    | none => rw [q] at h; exact h.elim
    | some bs =>
      rw [q] at h
      obtain rfl := bools_reps h2 q
      exact ⟨a, bs, rfl, SqL.of h1, Post.val h S Rep.ofBl⟩
  · exact h.elim
theorem cs_any : CSem G (rAny G.K) fAny := fun {E F H σ ρ α Q vs ds} S hv h => by
  unfold fAny at h
  split at h
  · obtain ⟨v, rfl, hx⟩ := hv.one
    obtain ⟨a, ws, rfl, h1, h2⟩ := hx.l S.ex
    rename_i ds
    cases q : bools ds with
    | none => rw [q] at h; exact h.elim
    | some bs =>
      rw [q] at h
      obtain rfl := bools_reps h2 q
      exact ⟨a, bs, rfl, SqL.of h1, Post.val h S Rep.ofBl⟩
  · exact h.elim
theorem cs_list : CSem G (fun xs H Q => ∃ p ys, xs = [.ref p] ∧ (SqL G.K H p ys ∨ SqT G.K H p ys) ∧ ∀ l, H l = none → Q (.ref l) (upd H l (.lst ys))) fList := fun {E F H σ ρ α Q vs ds} S hv h => by
  unfold fList at h
  split at h
  · obtain ⟨v, rfl, hx⟩ := hv.one
    obtain ⟨a, ws, rfl, h1, h2⟩ := hx.l S.ex
    exact ⟨a, ws, rfl, .inl (SqL.of h1), fun l hl => Post.newL h S hl h2⟩
  · obtain ⟨v, rfl, hx⟩ := hv.one
    obtain ⟨a, ws, rfl, h0, h1, h2⟩ := hx.t S.ex
    exact ⟨a, ws, rfl, .inr (SqT.of h1), fun l hl => Post.newL h S hl h2⟩
  · exact h.elim
theorem cs_tuple : CSem G (fun xs H Q => ∃ p ys, xs = [.ref p] ∧ ((SqL G.K H p ys ∧ ∀ l, H l = none → Q (.ref l) (upd H l (.tup ys))) ∨ (SqT G.K H p ys ∧ Q (.ref p) H))) fTuple := fun {E F H σ ρ α Q vs ds} S hv h => by
  unfold fTuple at h
  split at h
  · obtain ⟨v, rfl, hx⟩ := hv.one
    obtain ⟨a, ws, rfl, h1, h2⟩ := hx.l S.ex
    exact ⟨a, ws, rfl, .inl ⟨SqL.of h1, fun l hl => Post.newV h S hl (Rep.ofTup upd_same (h2.mono (Ex.new (S.fresh hl))))⟩⟩
  · obtain ⟨v, rfl, hx⟩ := hv.one
    obtain ⟨a, ws, rfl, h0, h1, h2⟩ := hx.t S.ex
    exact ⟨a, ws, rfl, .inr ⟨SqT.of h1, Post.val h S (Rep.ofTup h0 h2)⟩⟩
  · exact h.elim
theorem cs_min2 : CSem G (fun xs H Q => ∃ i j, xs = [.int i, .int j] ∧ Q (.int (if j < i then j else i)) H) fMin2 := fun {E F H σ ρ α Q vs ds} S hv h => by
  unfold fMin2 at h
  split at h
  · obtain ⟨v, w, rfl, hx, hy⟩ := hv.two
    obtain rfl := hx.int
    obtain rfl := hy.int
    exact ⟨_, _, rfl, Post.val h S Rep.ofInt⟩
  · exact h.elim
theorem cs_max2 : CSem G (fun xs H Q => ∃ i j, xs = [.int i, .int j] ∧ Q (.int (if j > i then j else i)) H) fMax2 := fun {E F H σ ρ α Q vs ds} S hv h => by
  unfold fMax2 at h
  split at h
  · obtain ⟨v, w, rfl, hx, hy⟩ := hv.two
    obtain rfl := hx.int
    obtain rfl := hy.int
    exact ⟨_, _, rfl, Post.val h S Rep.ofInt⟩
  · exact h.elim
theorem cs_intOf : CSem G (fun xs H Q => (∃ i, xs = [.int i] ∧ Q (.int i) H) ∨ ∃ k, xs = [.bl k] ∧ Q (.int (if k then 1 else 0)) H) fIntOf := fun {E F H σ ρ α Q vs ds} S hv h => by
  unfold fIntOf at h
  split at h
  · obtain ⟨v, rfl, hx⟩ := hv.one
    obtain rfl := hx.int
    exact .inl ⟨_, rfl, Post.val h S Rep.ofInt⟩
  · obtain ⟨v, rfl, hx⟩ := hv.one
    obtain rfl := hx.bl
    exact .inr ⟨_, rfl, Post.val h S Rep.ofInt⟩
  · exact h.elim
/-- isinstance of what is no instance, a built-in class -/
def tyOf : D → Option String
  | .non => some "NoneType"
  | .bl _ => some "bool"
  | .int _ => some "int"
  | .str _ => some "str"
  | .tup _ => some "tuple"
  | .lst _ => some "list"
  | .scr _ => some "list"
  | .dic _ => some "dict"
  | .ins _ _ => none
def kitT (t : String) : List (String × Bool) := match t with
  | "int" => [("NoneType", false), ("bool", true), ("int", true), ("str", false), ("tuple", false), ("list", false), ("dict", false)]
  | "bool" => [("NoneType", false), ("bool", true), ("int", false), ("str", false), ("tuple", false), ("list", false), ("dict", false)]
  | "str" => [("NoneType", false), ("bool", false), ("int", false), ("str", true), ("tuple", false), ("list", false), ("dict", false)]
  | "tuple" => [("NoneType", false), ("bool", false), ("int", false), ("str", false), ("tuple", true), ("list", false), ("dict", false)]
  | "list" => [("NoneType", false), ("bool", false), ("int", false), ("str", false), ("tuple", false), ("list", true), ("dict", false)]
  | "dict" => [("NoneType", false), ("bool", false), ("int", false), ("str", false), ("tuple", false), ("list", false), ("dict", true)]
  | _ => []
def fIsTy (t : String) : List D → Option O
  | [x] => (tyOf x).bind fun a => ((kitT t).lookup a).map fun b => .val (.bl b)
  | _ => none
theorem kit_all : ∀ t ∈ ["int", "bool", "str", "tuple", "list", "dict"], ∀ p ∈ kitT t, kitB p.1 t = some p.2 := by decide +kernel
end
end VL

namespace VL
open PySem PySem.Spec
open PyProof.Rows L2
open Evl (Ex sz_of)

section
variable {G : Cn} {E : XK} {ta tb tc : TE} {ma mb mc : M} {i : Nat}

/-! ### isinstance -/
/-- what kind of thing each value is: ans says the answer for it -/
def IsOk (G : Cn) (u : Value) (ans : D → Option Bool) : Prop := ∀ {F H : Hp} {v : V} {d : D} {b : Bool}, Ex F H → RepX G F H v d → ans d = some b → ∃ t, TyX G.K H v t ∧ PySem.W.kitOne G.K t u = some b
def mIs (ans : D → Option Bool) (a : M) : M := fun ρ => bnd (a ρ) fun o ρ1 => (ans o.frz).map fun b => (.ok (.val (.bl b)), ρ1)
theorem sem_is {cv : V} {u : Value} {ans : D → Option Bool} (hk : IsOk G u ans) (hc : ClsV cv u) (ha : Sem G E ta ma) : Sem G E (tCB (rIsi G.K) (tCons ta (tCons (tC cv) tNil))) (mIs ans ma) := ⟨fun {F H σ ρ α Q} S h =>
  ha.run S (Post.to h fun o ρ1 v F1 H1 α1 S1 r1 T1 N1 h1 => by
    cases e : ans o.frz with
    | none => rw [e] at h1; exact h1.elim
    | some b =>
      rw [e] at h1
      obtain ⟨t, ht, hq⟩ := hk S1.ex (.inl r1) e
      exact ⟨v, cv, t, u, b, rfl, hc, ht, hq, Post.val (Post.shift T1 N1 h1) S1 Rep.ofBl⟩)⟩
theorem RepX.ty {F H : Hp} {v : V} {d : D} {n : String} (e : Ex F H) (h : RepX G F H v d) (q : tyOf d = some n) : TyX G.K H v (.type n) := by
  cases d with
  | non => cases q; rw [h.non]; exact .base .non
  | bl b => cases q; rw [h.bl]; exact .base (.bl b)
  | int b => cases q; rw [h.int]; exact .base (.int b)
  | str b => cases q; rw [h.str]; exact .base (.str b)
  | tup ds =>
    cases q
    obtain ⟨a, vs, rfl, h0, h1, h2⟩ := h.t e
    exact .base (.tup h1)
  | lst ds =>
    cases q
    obtain ⟨a, vs, rfl, h1, h2⟩ := h.l e
    exact .base (.lst h1)
  | dic ds =>
    cases q
    obtain ⟨a, vs, rfl, h1, h2⟩ := h.k e
    exact .base (.dK h1)
  | ins c fs => cases q
  | scr ns =>
    cases q
    obtain ⟨a, rfl, h1⟩ := h.scr e
    rcases h1 with (h1 | ⟨o, h1⟩) | ⟨o, its, n, hk, hc, _⟩
    · exact .base (.lst h1)
    · exact .base (.frz h1)
    · exact .kList hk hc
/-- a built-in class, of what is no instance -/
def ansT (t : String) (d : D) : Option Bool := (tyOf d).bind fun a => (kitT t).lookup a
theorem mem_lookup {l : List (String × Bool)} {a : String} {b : Bool} (h : l.lookup a = some b) : (a, b) ∈ l := by
  induction l with
  | nil => cases h
  | cons p r ih =>
    obtain ⟨x, y⟩ := p
    unfold List.lookup at h
    split at h
    · rename_i e
      cases h
      have : a = x := by simpa using e
      subst this
      exact List.mem_cons_self
    · exact List.mem_cons_of_mem _ (ih h)
theorem is_ty {t : String} (ht : t ∈ ["int", "bool", "str", "tuple", "list", "dict"]) : IsOk G (.type t) (ansT t) := fun {F H v d b} e r q => by
  unfold ansT at q
  cases q1 : tyOf d with
  | none => rw [q1] at q; cases q
  | some a =>
    rw [q1] at q
    exact ⟨.type a, r.ty e q1, kit_ty (kit_all t ht (a, b) (mem_lookup q))⟩
/-- the library's word for what isinstance asks of an own class -/
abbrev InsOk := @C8.InsC
/-- any class u: the built-in kinds' answers kt, the own classes' answers cs -/
def ansC (kt : List (String × Bool)) (cs : List (Nat × Bool)) (d : D) : Option Bool := match d with
  | .ins c _ => cs.lookup c
  | d => (tyOf d).bind fun a => kt.lookup a
theorem mem_lookupN {l : List (Nat × Bool)} {a : Nat} {b : Bool} (h : l.lookup a = some b) : (a, b) ∈ l := by
  induction l with
  | nil => cases h
  | cons p r ih =>
    obtain ⟨x, y⟩ := p
    unfold List.lookup at h
    split at h
    · rename_i e
      cases h
      have : a = x := by simpa using e
      subst this
      exact List.mem_cons_self
    · exact List.mem_cons_of_mem _ (ih h)
theorem is_cls {u : Value} {kt : List (String × Bool)} {cs : List (Nat × Bool)} (h1 : ∀ p ∈ kt, PySem.W.kitOne G.K (.type p.1) u = some p.2) (h2 : ∀ p ∈ cs, InsOk G.K (G.cls p.1) ∧ PySem.W.kitOne G.K (.ref (G.cls p.1)) u = some p.2) : IsOk G u (ansC kt cs) := fun {F H v d b} e r q => by
  unfold ansC at q
  split at q
  · rename_i c fs
    obtain ⟨a, dx, fvs, rfl, hx, _⟩ := r.i e
    obtain ⟨k, kb⟩ := h2 (c, b) (mem_lookupN q)
    exact ⟨.ref (G.cls c), .base (.ins hx k.cl k.ha k.hn k.htk k.hm), kb⟩
  · cases q1 : tyOf d with
    | none => rw [q1] at q; cases q
    | some a =>
      rw [q1] at q
      exact ⟨.type a, r.ty e q1, h1 (a, b) (mem_lookup q)⟩

/-! ### slices -/
def cutD (ds : List D) (lo hi : Option Int) : List D := (ds.drop (HT.sIx ds.length 0 lo)).take (HT.sIx ds.length ds.length hi - HT.sIx ds.length 0 lo)
structure SemO (G : Cn) (E : XK) (t : TO) (m : Rho → Option (Rs (Option Int) × Rho)) : Prop where
  run : ∀ {F H σ ρ α} {Q : Option Int → Hp → Prop}, Ste G F H σ ρ α → PostG G E F H α (fun x ρ1 => ∀ F1 H1 α1, Ste G F1 H1 σ ρ1 α1 → Stp (Own α) F H F1 H1 → New (Own α) H (Own α1) → Q x H1) (m ρ) → t σ H Q
def oNone : Rho → Option (Rs (Option Int) × Rho) := fun ρ => some (.ok none, ρ)
def oPart (a : M) : Rho → Option (Rs (Option Int) × Rho) := fun ρ => bnd (a ρ) fun o ρ1 => match o.frz with
  | .int i => some (.ok (some i), ρ1)
  | _ => none
theorem semO_none : SemO G E tNoPart oNone := ⟨fun {F H σ ρ α Q} S h => h F H α S .refl .refl⟩
theorem semO_part (ha : Sem G E ta ma) : SemO G E (tPart ta) (oPart ma) := ⟨fun {F H σ ρ α Q} S h =>
  ha.run S (Post.to h fun o ρ1 v F1 H1 α1 S1 r1 T1 N1 h1 => by
    split at h1
    · rename_i i e
      rw [e] at r1
      exact ⟨i, r1.toInt, h1 F1 H1 α1 S1 T1 N1⟩
    · exact h1.elim)⟩
def fSl (x : D) (lo hi : Option Int) : Option O := match x with
  | .lst ds => some (.lst (cutD ds lo hi))
  | .tup ds => some (.val (.tup (cutD ds lo hi)))
  | .scr ns => some (.lst (cutD (ns.map .int) lo hi))
  | _ => none
def rSlice (K : PySem.W.Frag) : V → Option Int → Option Int → Hp → VK → Prop := fun x lo hi H Q => rSlL K x lo hi H Q ∨ rSlA K x lo hi H Q
theorem sl_any {X : Cx} : SlR X (rSlice X.K) := sl_list.or sl_tupA
theorem cut_reps {F : Hp} {vs : List V} {ds : List D} {lo hi : Option Int} (h : Reps G F vs ds) : Reps G F (cutV vs lo hi) (cutD ds lo hi) := by
  unfold cutV cutD
  rw [h.length]
  exact (h.drop _).take _
theorem reps_ints {F : Hp} : ∀ ns : List Int, Reps G F (ns.map V.int) (ns.map D.int)
  | [] => Reps.nil
  | n :: r => Reps.cons Rep.ofInt (reps_ints r)
def mSl (a : M) (lo hi : Rho → Option (Rs (Option Int) × Rho)) : M := fun ρ => bnd (a ρ) fun x ρ1 => bnd (lo ρ1) fun l ρ2 => bnd (hi ρ2) fun u ρ3 => (fSl x.frz l u).map fun o => (.ok o, ρ3)
theorem PostG.toO {F H : Hp} {σ : L2.St} {α : Al} {B : Type} {r : Option (Rs (Option Int) × Rho)} {k : Option Int → Rho → Option (Rs B × Rho)} {okQ : B → Rho → Prop} {R : Option Int → Hp → Prop} (h : PostG G E F H α okQ (bnd r k))
    (hk : ∀ x ρ1 F1 H1 α1, Ste G F1 H1 σ ρ1 α1 → Stp (Own α) F H F1 H1 → New (Own α) H (Own α1) → PostG G E F H α okQ (k x ρ1) → R x H1) :
    PostG G E F H α (fun x ρ1 => ∀ F1 H1 α1, Ste G F1 H1 σ ρ1 α1 → Stp (Own α) F H F1 H1 → New (Own α) H (Own α1) → R x H1) r :=
  PostG.bind h fun x ρ1 hp F1 H1 α1 S T N => hk x ρ1 F1 H1 α1 S T N hp
theorem slice_end {F H : Hp} {σ : L2.St} {ρ : Rho} {α : Al} {Q : VK} {v : V} {d : D} {l u : Option Int} (S : Ste G F H σ ρ α) (r : RepX G F H v d) (h : Post G E F H σ α ((fSl d l u).map fun o => (.ok o, ρ)) Q) : rSlice G.K v l u H Q := by
  unfold fSl at h
  split at h
  · obtain ⟨a, vs, rfl, h1, h2⟩ := r.l S.ex
    exact .inl ⟨a, vs, rfl, SqL.of h1, fun p hp => Post.newL h S hp (cut_reps h2)⟩
  · rename_i ds
    obtain ⟨a, vs, rfl, h0, h1, h2⟩ := r.t S.ex
    refine .inr ⟨a, vs, rfl, SqT.of h1, fun hw => ?_, fun _ p hp => Post.newV h S hp (Rep.ofTup upd_same ((cut_reps h2).mono (Ex.new (S.fresh hp))))⟩
    have e : cutD ds l u = ds := by
      unfold cutD
      rw [← h2.length, hw.1, hw.2, List.drop_zero, Nat.sub_zero, h2.length, List.take_length]
    rw [e] at h
    exact Post.val h S (Rep.ofTup h0 h2)
  · obtain ⟨a, rfl, h1⟩ := r.scr S.ex
    exact .inl ⟨a, _, rfl, h1, fun p hp => Post.newL h S hp (cut_reps (reps_ints _))⟩
  · exact h.elim
theorem sem_sl {tl th : TO} {ml mh : Rho → Option (Rs (Option Int) × Rho)} (ha : Sem G E ta ma) (hl : SemO G E tl ml) (hh : SemO G E th mh) : Sem G E (tSl (rSlice G.K) ta tl th) (mSl ma ml mh) := ⟨fun {F H σ ρ α Q} S h =>
  ha.run S (Post.to h fun o ρ1 v F1 H1 α1 S1 r1 T1 N1 h1 => hl.run S1 (PostG.toO (Post.shift T1 N1 h1) fun x ρ2 F2 H2 α2 S2 T2 N2 h2 => hh.run S2 (PostG.toO (Post.shift T2 N2 h2) fun y ρ3 F3 H3 α3 S3 T3 N3 h3 =>
    slice_end S3 (.inl ((r1.mono T2.exF).mono T3.exF)) (Post.shift T3 N3 h3))))⟩
/-- .. of what stands in a slot -/
def mSlS (i : Nat) (lo hi : Rho → Option (Rs (Option Int) × Rho)) : M := fun ρ => (look ρ i).bind fun _ => bnd (lo ρ) fun l ρ2 => bnd (hi ρ2) fun u ρ3 => (look ρ3 i).bind fun x => (fSl x l u).map fun o => (.ok o, ρ3)
theorem sem_slS {tl th : TO} {ml mh : Rho → Option (Rs (Option Int) × Rho)} (hl : SemO G E tl ml) (hh : SemO G E th mh) : Sem G E (tSl (rSlice G.K) (tVar i) tl th) (mSlS i ml mh) := ⟨fun {F H σ ρ α Q} S h => by
  unfold mSlS at h
  cases e : look ρ i with
  | none => rw [e] at h; exact h.elim
  | some d0 =>
    rw [e] at h
    obtain ⟨v, hv, _⟩ := look_x S e
    refine ⟨v, hv, hl.run S (PostG.toO h fun x ρ2 F2 H2 α2 S2 T2 N2 h2 => hh.run S2 (PostG.toO (Post.shift T2 N2 h2) fun y ρ3 F3 H3 α3 S3 T3 N3 h3 => ?_))⟩
    cases e1 : look ρ3 i with
    | none => rw [e1] at h3; exact h3.elim
    | some d1 =>
      rw [e1] at h3
      obtain ⟨v', hv', rx⟩ := look_x S3 e1
      rw [hv] at hv'
      cases hv'
      exact slice_end S3 rx (Post.shift T3 N3 h3)⟩

/-! ### fields -/
def mFld (cs : List Nat) (f : Str) (a : M) : M := fun ρ => bnd (a ρ) fun o ρ1 => match o.frz with
  | .ins c fs => if c ∈ cs then (fs.lookup f).map fun d => (.ok (.val d), ρ1) else none
  | _ => none
theorem repsF_look {F : Hp} {f : Str} : ∀ {fvs : List (Str × V)} {fds : List (Str × D)} {d : D}, RepsF G F fvs fds → fds.lookup f = some d → ∃ v, fvs.lookup f = some v ∧ Rep G F v d
  | _, [], d, h, e => by cases e
  | _, (k, d') :: r, d, h, e => by
    unfold RepsF at h
    obtain ⟨v, vs, rfl, h1, h2⟩ := h
    unfold List.lookup at e ⊢
    split at e
    · rename_i q
      cases e
      exact ⟨v, rfl, h1⟩
    · exact repsF_look h2 e
theorem repsF_none {F : Hp} {f : Str} : ∀ {fvs : List (Str × V)} {fds : List (Str × D)}, RepsF G F fvs fds → fds.lookup f = none → fvs.lookup f = none
  | _, [], h, e => by
    unfold RepsF at h
    subst h
    rfl
  | _, (k, d') :: r, h, e => by
    unfold RepsF at h
    obtain ⟨v, vs, rfl, h1, h2⟩ := h
    unfold List.lookup at e ⊢
    split at e
    · cases e
    · exact repsF_none h2 e
theorem sem_fld {cs : List Nat} {f : Str} (hc : ∀ c ∈ cs, Cls G.K (G.cls c) ∧ NoAttr G.K (G.cls c) f) (ha : Sem G E ta ma) : Sem G E (tFld G.K ta f) (mFld cs f ma) := ⟨fun {F H σ ρ α Q} S h =>
  ha.run S (Post.to h fun o ρ1 v F1 H1 α1 S1 r1 T1 N1 h1 => by
    split at h1
    · rename_i c fs e
      rw [e] at r1
      split at h1
      · rename_i hm
        unfold Rep at r1
        obtain ⟨a, dx, fvs, rfl, e1, e2⟩ := r1
        cases q : fs.lookup f with
        | none => rw [q] at h1; exact h1.elim
        | some d =>
          rw [q] at h1
          obtain ⟨w, hw, rw'⟩ := repsF_look e2 q
          exact ⟨a, _, dx, fvs, w, rfl, S1.ex _ _ e1, (hc c hm).1, (hc c hm).2, hw, Post.val (Post.shift T1 N1 h1) S1 rw'⟩
      · exact h1.elim
    · exact h1.elim)⟩
/-- .. of what stands in a slot (self, while it is made) -/
def mFldS (cs : List Nat) (f : Str) (i : Nat) : M := fun ρ => (look ρ i).bind fun x => match x with
  | .ins c fs => if c ∈ cs then (fs.lookup f).map fun d => (.ok (.val d), ρ) else none
  | _ => none
theorem sem_fldS {cs : List Nat} {f : Str} (hc : ∀ c ∈ cs, Cls G.K (G.cls c) ∧ NoAttr G.K (G.cls c) f) : Sem G E (tFld G.K (tVar i) f) (mFldS cs f i) := ⟨fun {F H σ ρ α Q} S h => by
  unfold mFldS at h
  cases e : look ρ i with
  | none => rw [e] at h; exact h.elim
  | some d0 =>
    rw [e] at h
    obtain ⟨v, hv, rx⟩ := look_x S e
    dsimp only [Option.bind] at h
    split at h
    · rename_i c fs
      split at h
      · rename_i hm
        obtain ⟨a, dx, fvs, rfl, e1, e2⟩ := rx.i S.ex
        cases q : fs.lookup f with
        | none => rw [q] at h; exact h.elim
        | some d =>
          rw [q] at h
          obtain ⟨w, hw, rw'⟩ := repsF_look e2 q
          exact ⟨_, hv, a, _, dx, fvs, w, rfl, e1, (hc c hm).1, (hc c hm).2, hw, Post.val h S rw'⟩
      · exact h.elim
    · exact h.elim⟩
end
end VL

namespace VL
open PySem PySem.Spec
open PyProof.Rows L2
open Evl (Ex sz_of)

/-! ### an object of one's own is changed -/
section
variable {G : Cn} {E : XK} {F F1 H H1 : Hp} {σ : L2.St} {ρ ρ1 : Rho} {α α1 : Al} {i : Nat}
/-- the slot's object is written at its own address; all else stays -/
theorem Ste.write {o o' : O} {a : Addr} {u : HO} (S : Ste G F H σ ρ α) (ho : ρ[i]? = some (some o)) (ha : a ∈ α i) (hv : ∀ v, σ[i]? = some (some v) → RepO G F H (α i) v o → RepO G F (upd H a u) (α i) v o') : Ste G F (upd H a u) σ (ρ.set i (some o')) α where
  ex := S.ex.mut (S.own ⟨i, ha⟩).1
  len := by rw [List.length_set]; exact S.len
  slot := fun j x e => by
    have hi : i < ρ.length := (List.getElem?_eq_some_iff.mp ho).1
    by_cases hj : j = i
    · subst hj
      rw [List.getElem?_set_self hi] at e
      cases e
      obtain ⟨v, h1, r⟩ := S.slot j o ho
      exact ⟨v, h1, hv v h1 r⟩
    · rw [List.getElem?_set_ne (Ne.symm hj)] at e
      obtain ⟨v, h1, r⟩ := S.slot j x e
      refine ⟨v, h1, r.move (Ex.refl F) (fun b hb => (r.mem b hb).1) fun b hb y hy => ?_⟩
      rw [upd_ne fun z => S.dis j i a hj (by rw [← z]; exact hb) ha]
      exact hy
  off := fun j h => by
    by_cases hj : j = i
    · subst hj
      exact absurd (List.getElem?_set_self (List.getElem?_eq_some_iff.mp ho).1) (h o')
    · exact S.off j fun x e => h x (by rw [List.getElem?_set_ne (Ne.symm hj)]; exact e)
  dis := S.dis
theorem Stp.write {a : Addr} {u : HO} (h : Own α a) : Stp (Own α) F H F (upd H a u) where
  exF := Ex.refl F
  keep := fun b o e n => by
    rw [upd_ne fun z => n (by rw [z]; exact h)]
    exact e
  newF := fun b o e => .inl e
/-- what stands in a slot, a list of one's own -/
theorem Ste.slotL {ds : List D} (S : Ste G F H σ ρ α) (h : ρ[i]? = some (some (.lst ds))) : ∃ a vs, σ[i]? = some (some (.ref a)) ∧ α i = [a] ∧ H a = some (.lst vs) ∧ Reps G F vs ds := by
  obtain ⟨v, h1, r⟩ := S.slot i _ h
  obtain ⟨a, vs, rfl, e1, e2, e3, e4⟩ := r
  exact ⟨a, vs, h1, e1, e3, e4⟩
theorem Ste.slotD {ds : List (Key × D)} (S : Ste G F H σ ρ α) (h : ρ[i]? = some (some (.dic ds))) : ∃ a vs, σ[i]? = some (some (.ref a)) ∧ α i = [a] ∧ H a = some (.dK vs) ∧ RepsK G F vs ds := by
  obtain ⟨v, h1, r⟩ := S.slot i _ h
  obtain ⟨a, vs, rfl, e1, e2, e3, e4⟩ := r
  exact ⟨a, vs, h1, e1, e3, e4⟩
theorem Ste.slotI {c : Nat} {fs : List (Str × D)} (S : Ste G F H σ ρ α) (h : ρ[i]? = some (some (.ins c fs))) : ∃ a dx vs, σ[i]? = some (some (.ref a)) ∧ α i = [a, dx] ∧ dx ≠ a ∧ H a = some (.ins (G.cls c) dx vs) ∧ H dx = some (.own a) ∧ RepsF G F vs fs := by
  obtain ⟨v, h1, r⟩ := S.slot i _ h
  obtain ⟨a, dx, vs, rfl, e1, ne, e2, e3, e4, e5, e6⟩ := r
  exact ⟨a, dx, vs, h1, e1, ne, e4, e5, e6⟩
theorem Ste.writeL {ds ds' : List D} {a : Addr} {vs' : List V} (S : Ste G F H σ ρ α) (h : ρ[i]? = some (some (.lst ds))) (ha : α i = [a]) (r : Reps G F vs' ds') : Ste G F (upd H a (.lst vs')) σ (ρ.set i (some (.lst ds'))) α :=
  S.write h (by rw [ha]; simp) fun v hv q => by
    obtain ⟨a', vs, rfl, e1, e2, e3, e4⟩ := q
    rw [ha] at e1
    cases e1
    exact ⟨a, vs', rfl, ha, e2, upd_same, r⟩
theorem Ste.writeD {ds ds' : List (Key × D)} {a : Addr} {vs' : List (Key × V)} (S : Ste G F H σ ρ α) (h : ρ[i]? = some (some (.dic ds))) (ha : α i = [a]) (r : RepsK G F vs' ds') : Ste G F (upd H a (.dK vs')) σ (ρ.set i (some (.dic ds'))) α :=
  S.write h (by rw [ha]; simp) fun v hv q => by
    obtain ⟨a', vs, rfl, e1, e2, e3, e4⟩ := q
    rw [ha] at e1
    cases e1
    exact ⟨a, vs', rfl, ha, e2, upd_same, r⟩
theorem Ste.writeI {c : Nat} {fs fs' : List (Str × D)} {a dx : Addr} {vs' : List (Str × V)} (S : Ste G F H σ ρ α) (h : ρ[i]? = some (some (.ins c fs))) (ha : α i = [a, dx]) (r : RepsF G F vs' fs') : Ste G F (upd H a (.ins (G.cls c) dx vs')) σ (ρ.set i (some (.ins c fs'))) α :=
  S.write h (by rw [ha]; simp) fun v hv q => by
    obtain ⟨a', dx', vs, rfl, e1, ne, e2, e3, e4, e5, e6⟩ := q
    rw [ha] at e1
    cases e1
    exact ⟨a, dx, vs', rfl, ha, ne, e2, e3, upd_same, by rw [upd_ne ne]; exact e5, r⟩
theorem own_of {a : Addr} {l : List Addr} (h : α i = l) (ha : a ∈ l) : Own α a := ⟨i, by rw [h]; exact ha⟩
variable {ta tb : TE} {ma mb : M}
/-- xs.append(e) -/
def mApp (i : Nat) (a : M) : M := fun ρ => match ρ[i]? with
  | some (some (.lst _)) => bnd (a ρ) fun o ρ1 => (match ρ1[i]? with
    | some (some (.lst ds)) => if ds.length < 100000 then some (.ok (.val .non), ρ1.set i (some (.lst (ds ++ [o.frz])))) else none
    | _ => none)
  | _ => none
theorem sem_app (ha : Sem G E ta ma) : Sem G E (tBM G.K "list" rAppend (tVar i) (tCons ta tNil)) (mApp i ma) := ⟨fun {F H σ ρ α Q} S h => by
  unfold mApp at h
  split at h
  · rename_i ds0 e0
    obtain ⟨p, vs0, hv, hp, hh, hr⟩ := S.slotL e0
    refine ⟨.ref p, hv, .inl ⟨rfl, vs0, SqL.of hh⟩, ha.run S (Post.to h fun o ρ1 v F1 H1 α1 S1 r1 T1 N1 h1 => ?_)⟩
    split at h1
    · rename_i ds e1
      split at h1
      · rename_i hl
        obtain ⟨p', vs, hv', hp', hh', hr'⟩ := S1.slotL e1
        rw [hv] at hv'
        cases hv'
        refine ⟨p, vs, v, rfl, rfl, hh', Nat.lt_of_lt_of_le (by rw [hr'.length]; exact hl) (by decide), ?_⟩
        have ow : Own α1 p := own_of hp' (by simp)
        exact Post.shift T1 N1 h1 .non F1 _ α1 [] (S1.writeL e1 hp' (hr'.append (Reps.one r1))) ⟨rfl, Rep.ofNon⟩ (Stp.write ow) (fun _ z => nomatch z) fun a z => by
          rcases z with z | z
          · exact .inl z
          · cases z
      · exact h1.elim
    · exact h1.elim
  · exact h.elim⟩
/-- xs.pop(i) -/
def mPopAt (i : Nat) (a : M) : M := fun ρ => match ρ[i]? with
  | some (some (.lst _)) => bnd (a ρ) fun o ρ1 => (match ρ1[i]?, o.frz with
    | some (some (.lst ds)), .int k => if 0 ≤ k ∧ k < 1000000 then (match ds[k.toNat]? with
      | some d => some (.ok (.val d), ρ1.set i (some (.lst (ds.eraseIdx k.toNat))))
      | none => none) else none
    | _, _ => none)
  | _ => none
theorem sem_popAt (ha : Sem G E ta ma) : Sem G E (tBM G.K "list" rPopAt (tVar i) (tCons ta tNil)) (mPopAt i ma) := ⟨fun {F H σ ρ α Q} S h => by
  unfold mPopAt at h
  split at h
  · rename_i ds0 e0
    obtain ⟨p, vs0, hv, hp, hh, hr⟩ := S.slotL e0
    refine ⟨.ref p, hv, .inl ⟨rfl, vs0, SqL.of hh⟩, ha.run S (Post.to h fun o ρ1 v F1 H1 α1 S1 r1 T1 N1 h1 => ?_)⟩
    split at h1
    · rename_i ds k e1 e2
      rw [e2] at r1
      obtain rfl := r1.toInt
      split at h1
      · rename_i hk
        split at h1
        · rename_i d hd
          obtain ⟨p', vs, hv', hp', hh', hr'⟩ := S1.slotL e1
          rw [hv] at hv'
          cases hv'
          obtain ⟨w, hw, rw'⟩ := hr'.get hd
          have hlt : k.toNat < vs.length := (List.getElem?_eq_some_iff.mp hw).1
          refine ⟨p, vs, k, k.toNat, w, rfl, rfl, hh', by omega, by omega, seqIndex_of hk.1 (by omega), hw, ?_⟩
          have ow : Own α1 p := own_of hp' (by simp)
          exact Post.shift T1 N1 h1 w F1 _ α1 [] (S1.writeL e1 hp' (hr'.erase _)) ⟨rfl, rw'⟩ (Stp.write ow) (fun _ z => nomatch z) fun a z => by
            rcases z with z | z
            · exact .inl z
            · cases z
        · exact h1.elim
      · exact h1.elim
    · exact h1.elim
  · exact h.elim⟩
/-- xs.pop() -/
def mPop (i : Nat) : M := fun ρ => match ρ[i]? with
  | some (some (.lst ds)) => (match ds[ds.length - 1]? with
    | some d => some (.ok (.val d), ρ.set i (some (.lst ds.dropLast)))
    | none => none)
  | _ => none
theorem reps_dropLast {vs : List V} {ds : List D} (h : Reps G F vs ds) : Reps G F vs.dropLast ds.dropLast := by
  rw [List.dropLast_eq_take, List.dropLast_eq_take, h.length]
  exact h.take _
theorem sem_pop : Sem G E (tBM0 G.K "list" rPop (tVar i)) (mPop i) := ⟨fun {F H σ ρ α Q} S h => by
  unfold mPop at h
  split at h
  · rename_i ds e0
    split at h
    · rename_i d hd
      obtain ⟨p, vs, hv, hp, hh, hr⟩ := S.slotL e0
      obtain ⟨w, hw, rw'⟩ := hr.get hd
      refine ⟨.ref p, hv, .inl ⟨rfl, vs, SqL.of hh⟩, p, vs, w, rfl, rfl, hh, by rw [hr.length]; exact hw, ?_⟩
      have ow : Own α p := own_of hp (by simp)
      exact h w F _ α [] (S.writeL e0 hp (reps_dropLast hr)) ⟨rfl, rw'⟩ (Stp.write ow) (fun _ z => nomatch z) fun a z => by
        rcases z with z | z
        · exact .inl z
        · cases z
    · exact h.elim
  · exact h.elim⟩
/-- xs.extend(ys) -/
def mExt (i : Nat) (a : M) : M := fun ρ => match ρ[i]? with
  | some (some (.lst _)) => bnd (a ρ) fun o ρ1 => (match ρ1[i]?, o.frz with
    | some (some (.lst ds)), .lst es => if ds.length + es.length ≤ 100000 then some (.ok (.val .non), ρ1.set i (some (.lst (ds ++ es)))) else none
    | _, _ => none)
  | _ => none
theorem sem_ext (ha : Sem G E ta ma) : Sem G E (tBM G.K "list" rExtend (tVar i) (tCons ta tNil)) (mExt i ma) := ⟨fun {F H σ ρ α Q} S h => by
  unfold mExt at h
  split at h
  · rename_i ds0 e0
    obtain ⟨p, vs0, hv, hp, hh, hr⟩ := S.slotL e0
    refine ⟨.ref p, hv, .inl ⟨rfl, vs0, SqL.of hh⟩, ha.run S (Post.to h fun o ρ1 v F1 H1 α1 S1 r1 T1 N1 h1 => ?_)⟩
    split at h1
    · rename_i ds es e1 e2
      rw [e2] at r1
      unfold Rep at r1
      obtain ⟨b, ws, rfl, hb, hrw⟩ := r1
      split at h1
      · rename_i hl
        obtain ⟨p', vs, hv', hp', hh', hr'⟩ := S1.slotL e1
        rw [hv] at hv'
        cases hv'
        refine ⟨p, b, vs, ws, rfl, rfl, hh', S1.ex _ _ hb, sz_of (by rw [hr'.length, hrw.length]; exact hl), ?_⟩
        have ow : Own α1 p := own_of hp' (by simp)
        exact Post.shift T1 N1 h1 .non F1 _ α1 [] (S1.writeL e1 hp' (hr'.append hrw)) ⟨rfl, Rep.ofNon⟩ (Stp.write ow) (fun _ z => nomatch z) fun a z => by
          rcases z with z | z
          · exact .inl z
          · cases z
      · exact h1.elim
    · exact h1.elim
  · exact h.elim⟩
/-- xs[i] = e, d[k] = e -/
def keyD : D → Option Key
  | .int i => some (.inl i)
  | .str x => some (.inr x)
  | _ => none
def getK (kds : List (Key × D)) (k : Key) : Option D := (kds.find? fun kv => decide (kv.1 = k)).map (·.2)
def putD (kds : List (Key × D)) (k : Key) (d : D) : List (Key × D) := if (kds.any fun kv => decide (kv.1 = k)) = true then kds.map fun kv => if kv.1 = k then (kv.1, d) else kv else kds ++ [(k, d)]
end
end VL

namespace VL
open PySem PySem.Spec
open PyProof.Rows L2
open Evl (Ex sz_of)

section
variable {G : Cn} {E : XK} {F F1 H H1 : Hp} {σ : L2.St} {ρ ρ1 : Rho} {α α1 : Al} {i : Nat} {ta tb : TE} {ma mb : M}
/-! ### dicts with int and text keys -/
theorem RepsK.nil : RepsK G F [] [] := by unfold RepsK; rfl
theorem RepsK.cons {k : Key} {v : V} {d : D} {vs : List (Key × V)} {ds : List (Key × D)} (h : Rep G F v d) (t : RepsK G F vs ds) : RepsK G F ((k, v) :: vs) ((k, d) :: ds) := by
  unfold RepsK
  exact ⟨v, vs, rfl, h, t⟩
theorem RepsK.of_nil {vs : List (Key × V)} (h : RepsK G F vs []) : vs = [] := by
  unfold RepsK at h
  exact h
theorem RepsK.of_cons {vs : List (Key × V)} {k : Key} {d : D} {ds : List (Key × D)} (h : RepsK G F vs ((k, d) :: ds)) : ∃ v r, vs = (k, v) :: r ∧ Rep G F v d ∧ RepsK G F r ds := by
  unfold RepsK at h
  exact h
theorem RepsK.length : ∀ {vs : List (Key × V)} {ds : List (Key × D)}, RepsK G F vs ds → vs.length = ds.length
  | _, [], h => by
    rw [h.of_nil]
    rfl
  | _, (k, d) :: ds, h => by
    obtain ⟨v, r, rfl, _, t⟩ := h.of_cons
    rw [List.length_cons, List.length_cons, RepsK.length t]
theorem RepsK.get (k : Key) : ∀ {vs : List (Key × V)} {ds : List (Key × D)}, RepsK G F vs ds → (∀ d, getK ds k = some d → ∃ v, valV vs k = some v ∧ Rep G F v d) ∧ (getK ds k = none → valV vs k = none)
  | _, [], h => by
    rw [h.of_nil]
    exact ⟨fun d e => (by cases e), fun _ => rfl⟩
  | _, (j, d0) :: ds, h => by
    obtain ⟨v, r, rfl, h1, t⟩ := h.of_cons
    have ih := RepsK.get k t
    by_cases e : j = k
    · have e1 : getK ((j, d0) :: ds) k = some d0 := by simp [getK, List.find?_cons, e]
      have e2 : valV ((j, v) :: r) k = some v := by simp [valV, List.find?_cons, e]
      rw [e1, e2]
      exact ⟨fun d q => ⟨v, rfl, by cases q; exact h1⟩, fun q => by cases q⟩
    · have e1 : getK ((j, d0) :: ds) k = getK ds k := by simp [getK, List.find?_cons, e]
      have e2 : valV ((j, v) :: r) k = valV r k := by simp [valV, List.find?_cons, e]
      rw [e1, e2]
      exact ih
theorem RepsK.any (p : Key → Bool) : ∀ {vs : List (Key × V)} {ds : List (Key × D)}, RepsK G F vs ds → (vs.any fun kv => p kv.1) = ds.any fun kv => p kv.1
  | _, [], h => by
    rw [h.of_nil]
    rfl
  | _, (j, d0) :: ds, h => by
    obtain ⟨v, r, rfl, h1, t⟩ := h.of_cons
    rw [List.any_cons, List.any_cons, RepsK.any p t]
theorem RepsK.map {k : Key} {v : V} {d : D} (q : Rep G F v d) : ∀ {vs : List (Key × V)} {ds : List (Key × D)}, RepsK G F vs ds → RepsK G F (vs.map fun kv => if kv.1 = k then (kv.1, v) else kv) (ds.map fun kv => if kv.1 = k then (kv.1, d) else kv)
  | _, [], h => by
    rw [h.of_nil]
    exact RepsK.nil
  | _, (j, d0) :: ds, h => by
    obtain ⟨w, r, rfl, h1, t⟩ := h.of_cons
    rw [List.map_cons, List.map_cons]
    by_cases e : j = k
    · rw [if_pos e, if_pos e]
      exact RepsK.cons q (RepsK.map q t)
    · rw [if_neg e, if_neg e]
      exact RepsK.cons h1 (RepsK.map q t)
theorem RepsK.snoc {k : Key} {v : V} {d : D} (q : Rep G F v d) : ∀ {vs : List (Key × V)} {ds : List (Key × D)}, RepsK G F vs ds → RepsK G F (vs ++ [(k, v)]) (ds ++ [(k, d)])
  | _, [], h => by
    rw [h.of_nil]
    exact RepsK.cons q RepsK.nil
  | _, (j, d0) :: ds, h => by
    obtain ⟨w, r, rfl, h1, t⟩ := h.of_cons
    exact RepsK.cons h1 (RepsK.snoc q t)
theorem RepsK.put {k : Key} {v : V} {d : D} {vs : List (Key × V)} {ds : List (Key × D)} (h : RepsK G F vs ds) (q : Rep G F v d) : RepsK G F (putK vs k v) (putD ds k d) := by
  unfold putK putD
  rw [h.any fun j => decide (j = k)]
  split
  · exact h.map q
  · exact h.snoc q
theorem key_x {v : V} {d : D} {k : Key} (h : RepX G F H v d) (e : keyD d = some k) : v = kV k := by
  unfold keyD at e
  split at e
  · cases e
    rw [h.int]
    rfl
  · cases e
    rw [h.str]
    rfl
  · cases e
/-- d[k], k in d, k not in d as operators by values -/
def rDGet : R2 := fun x y H Q => ∃ a v, x = .ref a ∧ DGet H a y (some v) ∧ Q v H
def rDIn (neg : Bool) : R2 := fun y x H Q => ∃ a o, x = .ref a ∧ DGet H a y o ∧ Q (.bl (if neg = true then !o.isSome else o.isSome)) H
def fDGet (x y : D) : Option O := match x, keyD y with
  | .dic kds, some k => (getK kds k).map .val
  | _, _ => none
def fDIn (neg : Bool) (y x : D) : Option O := match x, keyD y with
  | .dic kds, some k => some (.val (.bl (if neg = true then !(getK kds k).isSome else (getK kds k).isSome)))
  | _, _ => none
theorem os_dget : OSem G rDGet fDGet := fun {E F H σ ρ α Q x y dx dy} S hx hy h => by
  unfold fDGet at h
  split at h
  · rename_i kds k e
    obtain ⟨a, vs, rfl, h1, h2⟩ := hx.k S.ex
    obtain rfl := key_x hy e
    cases q : getK kds k with
    | none => rw [q] at h; exact h.elim
    | some d =>
      rw [q] at h
      obtain ⟨v, e1, r⟩ := (h2.get k).1 d q
      refine ⟨a, v, rfl, ?_, Post.val h S r⟩
      rw [← e1]
      exact DGet.k h1
  · exact h.elim
theorem os_din {neg : Bool} : OSem G (rDIn neg) (fDIn neg) := fun {E F H σ ρ α Q x y dx dy} S hx hy h => by
  unfold fDIn at h
  split at h
  · rename_i kds k e
    obtain ⟨a, vs, rfl, h1, h2⟩ := hy.k S.ex
    obtain rfl := key_x hx e
    refine ⟨a, valV vs k, rfl, DGet.k h1, ?_⟩
    have e1 : (valV vs k).isSome = (getK kds k).isSome := by
      cases q : getK kds k with
      | none => rw [(h2.get k).2 q]; rfl
      | some d =>
        obtain ⟨v, e1, _⟩ := (h2.get k).1 d q
        rw [e1]
        rfl
    rw [e1]
    exact Post.val h S Rep.ofBl
  · exact h.elim
/-- two rules for one operator -/
def fOr (f g : D → D → Option O) (x y : D) : Option O := match f x y with
  | some o => some o
  | none => g x y
theorem os_or {r r' : R2} {f g : D → D → Option O} (h1 : OSem G r f) (h2 : OSem G r' g) : OSem G (fun x y H Q => r x y H Q ∨ r' x y H Q) (fOr f g) := fun {E F H σ ρ α Q x y dx dy} S hx hy h => by
  unfold fOr at h
  split at h
  · rename_i o e
    exact .inl (h1 S hx hy (by rw [e]; exact h))
  · exact .inr (h2 S hx hy h)
def fOr1 (f g : List D → Option O) (ds : List D) : Option O := match f ds with
  | some o => some o
  | none => g ds
theorem cs_or {r r' : List V → Hp → VK → Prop} {f g : List D → Option O} (h1 : CSem G r f) (h2 : CSem G r' g) : CSem G (fun xs H Q => r xs H Q ∨ r' xs H Q) (fOr1 f g) := fun {E F H σ ρ α Q vs ds} S hv h => by
  unfold fOr1 at h
  split at h
  · rename_i o e
    exact .inl (h1 S hv (by rw [e]; exact h))
  · exact .inr (h2 S hv h)
/-- {} -/
def mDNew : M := fun ρ => some (.ok (.dic []), ρ)
theorem sem_dnew : Sem G E tDNewK mDNew := ⟨fun {F H σ ρ α Q} S h p hp => Post.newD h S hp RepsK.nil⟩
/-- d[k] = e, d in a slot -/
def sDPutM (i : Nat) (k v : M) : MS := fun _ ρ => bnd (v ρ) fun o ρ1 => (look ρ1 i).bind fun _ => bnd (k ρ1) fun x ρ2 => match ρ2[i]?, keyD x.frz with
  | some (some (.dic kds)), some key => if kds.length < 100000 then some (.ok .nx, ρ2.set i (some (.dic (putD kds key o.frz)))) else none
  | _, _ => none
theorem semS_dput {tk tv : TE} {mk mv : M} (hk : Sem G E tk mk) (hv : Sem G E tv mv) : SemS G E (sDPut (tVar i) tk tv) (sDPutM i mk mv) := ⟨fun {F H σ ρ α D pins} S h =>
  hv.run S (Post.to h fun o ρ1 v F1 H1 α1 S1 r1 T1 N1 h1 => by
    cases e : look ρ1 i with
    | none => rw [e] at h1; exact h1.elim
    | some d0 =>
      rw [e] at h1
      obtain ⟨u, hu, _⟩ := look_x S1 e
      refine ⟨u, hu, hk.run S1 (Post.to (PostS.shift T1 N1 .refl h1) fun x ρ2 w F2 H2 α2 S2 r2 T2 N2 h2 => ?_)⟩
      split at h2
      · rename_i kds key e1 e2
        split at h2
        · rename_i hl
          obtain ⟨p, vs, hv', hp, hh, hr⟩ := S2.slotD e1
          rw [hu] at hv'
          cases hv'
          obtain rfl := key_x (H := H2) (.inl r2) e2
          have ow : Own α2 p := own_of hp (by simp)
          refine ⟨p, _, rfl, DPut.k hh (Nat.lt_of_lt_of_le (by rw [hr.length]; exact hl) (by decide)), ?_⟩
          exact PostS.shift T2 N2 .refl h2 σ F2 _ α2 (S2.writeD e1 hp (hr.put (r1.mono T2.exF))) (Stp.write ow) .refl .refl
        · exact h2.elim
      · exact h2.elim)⟩
/-- xs[j] = e, xs in a slot -/
def sSetM (i : Nat) (k v : M) : MS := fun _ ρ => bnd (v ρ) fun o ρ1 => (look ρ1 i).bind fun _ => bnd (k ρ1) fun x ρ2 => match ρ2[i]?, x.frz with
  | some (some (.lst ds)), .int j => (match ixN ds.length j with
    | some n => some (.ok .nx, ρ2.set i (some (.lst (ds.set n o.frz))))
    | none => none)
  | _, _ => none
theorem semS_set {tk tv : TE} {mk mv : M} (hk : Sem G E tk mk) (hv : Sem G E tv mv) : SemS G E (tAsg tv (gSub (tVar i) tk rSetL)) (sSetM i mk mv) := ⟨fun {F H σ ρ α D pins} S h =>
  hv.run S (Post.to h fun o ρ1 v F1 H1 α1 S1 r1 T1 N1 h1 => by
    cases e : look ρ1 i with
    | none => rw [e] at h1; exact h1.elim
    | some d0 =>
      rw [e] at h1
      obtain ⟨u, hu, _⟩ := look_x S1 e
      refine ⟨u, hu, hk.run S1 (Post.to (PostS.shift T1 N1 .refl h1) fun x ρ2 w F2 H2 α2 S2 r2 T2 N2 h2 => ?_)⟩
      split at h2
      · rename_i ds j e1 e2
        rw [e2] at r2
        obtain rfl := r2.toInt
        split at h2
        · rename_i n hn
          obtain ⟨p, vs, hv', hp, hh, hr⟩ := S2.slotL e1
          rw [hu] at hv'
          cases hv'
          have ow : Own α2 p := own_of hp (by simp)
          refine ⟨p, vs, j, n, rfl, rfl, hh, by rw [hr.length]; exact hn, ?_⟩
          exact PostS.shift T2 N2 .refl h2 σ F2 _ α2 (S2.writeL e1 hp (hr.set (r1.mono T2.exF) n)) (Stp.write ow) .refl .refl
        · exact h2.elim
      · exact h2.elim)⟩
/-- self.f = e, self in a slot, of the class c -/
def putFD (f : Str) (d : D) : List (Str × D) → List (Str × D)
  | [] => [(f, d)]
  | (g, x) :: r => if g = f then (g, d) :: r else (g, x) :: putFD f d r
theorem RepsF.nil : RepsF G F [] [] := by unfold RepsF; rfl
theorem RepsF.length : ∀ {vs : List (Str × V)} {ds : List (Str × D)}, RepsF G F vs ds → vs.length = ds.length
  | _, [], h => by
    unfold RepsF at h
    subst h
    rfl
  | _, (k, d) :: ds, h => by
    unfold RepsF at h
    obtain ⟨v, r, rfl, _, t⟩ := h
    rw [List.length_cons, List.length_cons, RepsF.length t]
theorem RepsF.put {f : Str} {v : V} {d : D} (q : Rep G F v d) : ∀ {vs : List (Str × V)} {ds : List (Str × D)}, RepsF G F vs ds → RepsF G F (putF f v vs) (putFD f d ds)
  | _, [], h => by
    unfold RepsF at h
    subst h
    unfold putF putFD RepsF
    exact ⟨v, [], rfl, q, RepsF.nil⟩
  | _, (k, d0) :: ds, h => by
    unfold RepsF at h
    obtain ⟨w, r, rfl, h1, t⟩ := h
    unfold putF putFD
    by_cases e : k = f
    · rw [if_pos e, if_pos e]
      unfold RepsF
      exact ⟨v, r, rfl, q, t⟩
    · rw [if_neg e, if_neg e]
      unfold RepsF
      exact ⟨w, _, rfl, h1, RepsF.put q t⟩
def sFldM (cs : List Nat) (f : Str) (i : Nat) (a : M) : MS := fun _ ρ => bnd (a ρ) fun o ρ1 => match ρ1[i]? with
  | some (some (.ins c fs)) => if c ∈ cs ∧ fs.length < 900 then some (.ok .nx, ρ1.set i (some (.ins c (putFD f o.frz fs)))) else none
  | _ => none
theorem semS_fld {cs : List Nat} {f : Str} (hc : ∀ c ∈ cs, Cls G.K (G.cls c) ∧ NoAttr G.K (G.cls c) f) (ha : Sem G E ta ma) : SemS G E (sFld G.K (tVar i) ta f) (sFldM cs f i ma) := ⟨fun {F H σ ρ α D pins} S h =>
  ha.run S (Post.to h fun o ρ1 v F1 H1 α1 S1 r1 T1 N1 h1 => by
    split at h1
    · rename_i c fs e
      split at h1
      · rename_i hm
        obtain ⟨a, dx, vs, hv, hp, ne, hh, hd, hr⟩ := S1.slotI e
        have ow : Own α1 a := own_of hp (by simp)
        refine ⟨.ref a, hv, a, G.cls c, dx, vs, rfl, hh, (hc c hm.1).1, (hc c hm.1).2, by rw [hr.length]; omega, ?_⟩
        exact PostS.shift T1 N1 .refl h1 σ F1 _ α1 (S1.writeI e hp (hr.put r1)) (Stp.write ow) .refl .refl
      · exact h1.elim
    · exact h1.elim)⟩

/-! ### a new instance -/
def mMake (c : Nat) (fn : Fn) (ms ks : MA) (arr : List D → List D → List D) (n m : Nat) : M := fun ρ => bnd (ms ρ) fun ais ρ1 => bnd (ks ρ1) fun kws ρ2 => match dsOnly ais, dsOnly kws with
  | some ds, some zs => if ds.length = n ∧ zs.length = m then (match fn (.ins c [] :: (arr ds zs).map .val) with
    | some (.ok (.val .non), o :: _) => some (.ok o, ρ2)
    | some (.ex c fs, _) => some (.ex c fs, ρ2)
    | _ => none) else none
  | _, _ => none
theorem make_end {c : Nat} {fn : Fn} {np : Nat} {Q : VK} {ws : List V} {es : List D} (hl : ∀ os r, fn os = some r → os.length = np) (S : Ste G F H σ ρ α) (r : Reps G F ws es)
    (h : Post G E F H σ α (match fn (.ins c [] :: es.map .val) with
      | some (.ok (.val .non), o :: _) => some (.ok o, ρ)
      | some (.ex c fs, _) => some (.ex c fs, ρ)
      | _ => none) Q) : ∀ x dx, H x = none → H dx = none → dx ≠ x → spF G fn np (.ref x :: ws) (upd (upd H dx (.own x)) x (.ins (G.cls c) dx [])) (fun v H3 => v = .non ∧ Q (.ref x) H3) E := fun x dx hx hdx ne => by
  have exH : Ex H (upd (upd H dx (.own x)) x (.ins (G.cls c) dx [])) := fun b o e => by
    rw [upd_ne (ne_of_none e hx), upd_ne (ne_of_none e hdx)]
    exact e
  have fx := S.fresh hx
  have fdx := S.fresh hdx
  have S0 : Ste G F (upd (upd H dx (.own x)) x (.ins (G.cls c) dx [])) [some (.ref x)] [some (O.ins c [])] (fun j => if j = 0 then [x, dx] else []) := ⟨S.ex.trans exH, rfl, fun i o e => by
      cases i with
      | zero =>
        have : O.ins c [] = o := by simpa using e
        subst this
        refine ⟨.ref x, rfl, x, dx, [], rfl, if_pos rfl, ne, fx, fdx, upd_same, ?_, RepsF.nil⟩
        rw [upd_ne ne]
        exact upd_same
      | succ i => simp at e, fun i h => by
      cases i with
      | zero => exact absurd rfl (h (O.ins c []))
      | succ i => exact if_neg (by omega), fun i j a nij hi hj => by
      have hi' : a ∈ (if i = 0 then [x, dx] else []) := hi
      have hj' : a ∈ (if j = 0 then [x, dx] else []) := hj
      split at hi'
      · split at hj'
        · omega
        · cases hj'
      · cases hi'⟩
  have SA := Ste.args1 (i := 0) (ws := []) (pre := []) S0 Reps.nil rfl rfl r
  match q : fn (.ins c [] :: es.map .val), h with
  | none, h => exact h.elim
  | some (rr, os'), h =>
    refine ⟨by rw [← hl _ _ q]; simp [r.length], F, .ins c [] :: es.map .val, _, SA, ?_⟩
    rw [q]
    have ow : ∀ a, Own (fun j => if j = ([] : List D).length then (fun j => if j = 0 then [x, dx] else []) 0 else []) a → a = x ∨ a = dx := fun a ⟨j, z⟩ => by
      have z' : a ∈ (if j = 0 then [x, dx] else ([] : List Addr)) := z
      split at z'
      · simpa using z'
      · cases z'
    have hnone : ∀ a, a = x ∨ a = dx → H a = none := fun a z => by
      rcases z with rfl | rfl
      · exact hx
      · exact hdx
    have tr : ∀ {F' H' : Hp}, Stp (Own (fun j => if j = ([] : List D).length then (fun j => if j = 0 then [x, dx] else []) 0 else [])) F (upd (upd H dx (.own x)) x (.ins (G.cls c) dx [])) F' H' → Ex H H' ∧ (∀ b u, F' b = some u → F b = some u ∨ H b = none) := fun {F' H'} T => by
      refine ⟨fun b u e => T.keep b u (exH b u e) fun z => ?_, fun b u e => ?_⟩
      · rw [hnone b (ow b z)] at e
        cases e
      · rcases T.newF b u e with z | z | z
        · exact .inl z
        · exact .inr (exH.back z)
        · exact .inr (hnone b (ow b z))
    have stp : ∀ {F' H' : Hp}, Stp (Own (fun j => if j = ([] : List D).length then (fun j => if j = 0 then [x, dx] else []) 0 else [])) F (upd (upd H dx (.own x)) x (.ins (G.cls c) dx [])) F' H' → Stp (Own α) F H F' H' := fun {F' H'} T =>
      ⟨T.exF, fun b u e _ => (tr T).1 b u e, fun b u e => ((tr T).2 b u e).elim .inl fun z => .inr (.inl z)⟩
    match rr, os', h with
    | .ex c2 none, _, h => exact fun F' H' T' => h F' H' (stp T')
    | .ex c2 (some fs), _, h => exact fun F' H' dd fvs T' => h F' H' dd fvs (stp T')
    | .ok (.val .non), o :: rest, h =>
      exact fun v' F' H' α' β S' R' T' M' N' => by
        refine ⟨by obtain ⟨_, r0⟩ := R'; unfold Rep at r0; exact r0, ?_⟩
        obtain ⟨w, hw, rw'⟩ := S'.slot 0 o rfl
        have hw' : w = .ref x := by
          have : (some (some (V.ref x))) = some (some w) := hw
          cases this
          rfl
        subst hw'
        obtain ⟨t1, t2⟩ := tr T'
        refine h (.ref x) F' H' α (α' 0) (S.grow T'.exF t1 t2 S'.ex) rw' (stp T') (fun a ha z => ?_) fun a z => ?_
        · obtain ⟨f0, _⟩ := rw'.mem a ha
          rcases N' a (.inl ⟨0, ha⟩) with y | y
          · exact S.notown (hnone a (ow a y)) z
          · exact S.notown (exH.back y) z
        · rcases z with z | z
          · exact .inl z
          · rcases N' a (.inl ⟨0, z⟩) with y | y
            · exact .inr (hnone a (ow a y))
            · exact .inr (exH.back y)
theorem sem_makeK {c : Nat} {fn : Fn} {np n m : Nat} {t tk : TA} {ms ks : MA} {gV : List V → List V → List V} {arrV : List V → List V → List V} {arr : List D → List D → List D} (hl : ∀ os r, fn os = some r → os.length = np)
    (hg : ∀ x vs zs, vs.length = n → zs.length = m → gV (.ref x :: vs) zs = .ref x :: arrV vs zs) (hr : ∀ {F : Hp} {vs zs : List V} {ds es : List D}, vs.length = n → zs.length = m → Reps G F vs ds → Reps G F zs es → Reps G F (arrV vs zs) (arr ds es)) (ha : SemA G E t ms) (hk : SemA G E tk ks) :
    Sem G E (tMakeK (G.cls c) n m (spF G fn np) gV E t tk) (mMake c fn ms ks arr n m) := ⟨fun {F H σ ρ α Q} S h =>
  ha.run S (PostA.to h fun xs ρ1 vs F1 H1 α1 S1 r1 T1 N1 h1 => hk.run S1 (PostA.to (Post.shift T1 N1 h1) fun ys ρ2 zs F2 H2 α2 S2 r2 T2 N2 h2 => by
    split at h2
    · rename_i ds es e1 e2
      split at h2
      · rename_i hn
        have q1 := dsOnly_r (r1.mono T2.exF) e1
        have q2 := dsOnly_r r2 e2
        have l1 : vs.length = n := q1.length.trans hn.1
        have l2 : zs.length = m := q2.length.trans hn.2
        refine ⟨l1, l2, fun x dx hx hdx ne => ?_⟩
        rw [hg x vs zs l1 l2]
        exact make_end hl S2 (hr l1 l2 q1 q2) (Post.shift T2 N2 h2) x dx hx hdx ne
      · exact h2.elim
    · exact h2.elim))⟩
theorem sem_make {c : Nat} {fn : Fn} {np n : Nat} {t : TA} {ms : MA} {dvs : List V} {dds : List D} (hl : ∀ os r, fn os = some r → os.length = np) (hd : ∀ F, Reps G F dvs dds) (ha : SemA G E t ms) :
    Sem G E (tMake (G.cls c) (spF G fn np) dvs E t) (mMake c fn ms aNil (fun ds _ => ds ++ dds) n 0) := ⟨fun {F H σ ρ α Q} S h =>
  ha.run S (PostA.to h fun xs ρ1 vs F1 H1 α1 S1 r1 T1 N1 h1 => by
    have h2 : Post G E F H σ α (match dsOnly xs, (some [] : Option (List D)) with
      | some ds, some zs => if ds.length = n ∧ zs.length = 0 then (match fn (.ins c [] :: (ds ++ dds).map .val) with
        | some (.ok (.val .non), o :: _) => some (.ok o, ρ1)
        | some (.ex c fs, _) => some (.ex c fs, ρ1)
        | _ => none) else none
      | _, _ => none) Q := h1
    split at h2
    · rename_i ds es e1 e2
      split at h2
      · exact make_end hl S1 ((dsOnly_r r1 e1).append (hd _)) (Post.shift T1 N1 h2)
      · exact h2.elim
    · exact h2.elim)⟩
end
end VL

namespace VL
open PySem PySem.Spec
open PyProof.Rows L2
open Evl (Ex sz_of)

/-! ### what an iterator may be over: a tuple, a list, a text -/
structure Src where
  o : Obj
  ex : List Addr
  ci : Addr → Nat → Heap → Prop
  ini : ∀ h it, h.get? it = some o → ci it 0 h
  mov : ∀ h h' it i, ci it i h → (∀ o, h.get? it = some o → h'.get? it = some o) → ci it i h'
  liv : ∀ h it i, ci it i h → ∃ o, h.get? it = some o ∧ ∀ v, o.data ≠ .cell v
/-- the source stands in this heap, with these items -/
def SrcH (P : Program) (w : World) (S : Src) (v : Value) (xs : List V) (h : Heap) : Prop :=
  ∃ hc : Heap → Prop, hc h ∧ Begins v S.o hc ∧ (∀ b ∈ S.ex, b < h.objs.size) ∧ ∀ (A : Around) (it : Addr), A.handled = none → it ∉ S.ex → Draws P w A it (it :: S.ex) xs.length (fun i u => ∃ x, xs[i]? = some x ∧ RelV x u) (fun i h => S.ci it i h ∧ hc h)
theorem Vals.get1 : ∀ {xs : List V} {us : List Value} {i : Nat} {u : Value}, Vals xs us → us[i]? = some u → ∃ x, xs[i]? = some x ∧ RelV x u := fun {xs us i u} r e => by
  have l := r.length
  have hi := (List.getElem?_eq_some_iff.mp e).1
  obtain ⟨x, hx⟩ : ∃ x, xs[i]? = some x := ⟨xs[i]'(by omega), List.getElem?_eq_getElem (by omega)⟩
  obtain ⟨u', h1, h2⟩ := r.get hx
  rw [e] at h1
  cases h1
  exact ⟨x, hx, h2⟩
theorem drWeak {prog : Program} {w : World} {A : Around} {it : Addr} {fp : List Addr} {n m : Nat} {P P' : Nat → Value → Prop} {St : Nat → Heap → Prop} (D : Draws prog w A it fp n P St) (hn : n = m) (h : ∀ i x, i < n → P i x → P' i x) : Draws prog w A it fp m P' St := by
  subst hn
  exact ⟨D.live, D.frame, fun i s Q E hi st hQ => D.item i s Q E hi st fun x h' tk hP st' sb => hQ x h' tk (h i x hi hP) st' sb, D.done⟩
def srcTup (a : Addr) : Src where
  o := { cls := .type "tuple_iterator", data := .fields #[.ref a, .int 0 0] }
  ex := [a]
  ci := fun it i h => h.IsTupleIter it a i
  ini := fun h it e => ⟨_, e, rfl, rfl⟩
  mov := fun h h' it i x k => x.at fun o e => k o e
  liv := fun h it i ⟨o, e, _, d⟩ => ⟨o, e, fun v q => by rw [d] at q; cases q⟩
def srcLst (a : Addr) : Src where
  o := { cls := .type "list_iterator", data := .fields #[.ref a, .int 0 0] }
  ex := [a]
  ci := fun it i h => h.IsListIter it a i
  ini := fun h it e => ⟨_, e, rfl, rfl⟩
  mov := fun h h' it i x k => x.at fun o e => k o e
  liv := fun h it i ⟨o, e, _, d⟩ => ⟨o, e, fun v q => by rw [d] at q; cases q⟩
def srcStr (x : Str) (t : Tok) : Src where
  o := { cls := .type (strIterType x), data := .fields #[.str x t, .int 0 0] }
  ex := []
  ci := fun it i h => h.IsStrIter it (strIterType x) x t i
  ini := fun h it e => ⟨_, e, rfl, rfl⟩
  mov := fun h h' it i ⟨o, e, r⟩ k => ⟨o, k o e, r⟩
  liv := fun h it i ⟨o, e, _, d⟩ => ⟨o, e, fun v q => by rw [d] at q; cases q⟩
def signs (x : Str) : List V := x.cps.toList.map fun c => V.str ⟨#[c]⟩
theorem srcH_tup {P : Program} {w : World} {a : Addr} {xs : List V} {its : List Value} {h : Heap} (r : Vals xs its) (e : h.IsTuple a its.toArray) : SrcH P w (srcTup a) (.ref a) xs h :=
  ⟨fun h => h.IsTuple a its.toArray, e, begins_tuple a its.toArray, fun b hb => by
    obtain rfl : b = a := by simpa [srcTup] using hb
    obtain ⟨o, e, _⟩ := e
    exact Heap.lt_size e, fun A it hh ne => drWeak (Draws.tuple hh it a (fun e => ne (by simp [srcTup, e])) its.toArray) (by simp [r.length]) fun i u _ e => Vals.get1 r (by simpa using e)⟩
theorem srcH_lst {P : Program} {w : World} {a : Addr} {xs : List V} {its : List Value} {h : Heap} (r : Vals xs its) (e : h.IsList a its.toArray) : SrcH P w (srcLst a) (.ref a) xs h :=
  ⟨fun h => h.IsList a its.toArray, e, begins_list a its.toArray, fun b hb => by
    obtain rfl : b = a := by simpa [srcLst] using hb
    obtain ⟨o, e, _⟩ := e
    exact Heap.lt_size e, fun A it hh ne => drWeak (Draws.list hh it a (fun e => ne (by simp [srcLst, e])) its.toArray) (by simp [r.length]) fun i u _ e => Vals.get1 r (by simpa using e)⟩
theorem srcH_str {P : Program} {w : World} {x : Str} {t : Tok} {h : Heap} : SrcH P w (srcStr x t) (.str x t) (signs x) h :=
  ⟨fun _ => True, trivial, begins_text x t, (fun b hb => nomatch hb), fun A it hh ne => by
    have D := drWeak (Draws.text (prog := P) (w := w) hh it x t) (m := (signs x).length) (P' := fun i u => ∃ y, (signs x)[i]? = some y ∧ RelV y u) (by simp [signs]) fun i u _ ⟨c, t', e, eu⟩ => ⟨.str ⟨#[c]⟩, by
      unfold signs
      rw [List.getElem?_map, show x.cps.toList[i]? = some c by simpa using e]
      rfl, by rw [eu]; exact ⟨t', rfl⟩⟩
    exact ⟨fun i h st => D.live i h st.1, fun i h h' st k => ⟨D.frame i h h' st.1 fun b hb => k b hb, trivial⟩, fun i s Q E hi st hQ => D.item i s Q E hi st.1 fun y h' tk hP st' sb => hQ y h' tk hP ⟨st', trivial⟩ sb, fun s Q E st => D.done s Q E st.1⟩⟩

/-- items in new pairs, from two sources that stand while G stands -/
def ItP (xs ys : List V) (Gd : Hp → Prop) : It :=
  ⟨fun i H => Gd H ∧ i < xs.length ∧ i < ys.length, fun i H v H' => ∃ T x y, v = .ref T ∧ H T = none ∧ H' = upd H T (.tup [x, y]) ∧ xs[i]? = some x ∧ ys[i]? = some y,
    fun i H => Gd H ∧ (xs.length ≤ i ∨ ys.length ≤ i)⟩
/-- Gd says that the source stands -/
def SrcIn (X : Cx) (S : Src) (v : Value) (xs : List V) (Gd : Hp → Prop) : Prop :=
  ∀ (pins : List (Addr × Obj)) (σ : L2.St) (H : Hp) (s : Shared), Inv X pins σ H s → Gd H → SrcH X.prog X.w S v xs s.heap
end VL

namespace VL
open PySem PySem.Spec
open PyProof.Rows L2
open Evl (Ex sz_of)

/-! ### zip and enumerate over any two sources -/
def SrcV (K : PySem.W.Frag) (v : V) (xs : List V) (Gd : Hp → Prop) : Prop :=
  (∃ a, v = .ref a ∧ ∀ H, Gd H → SqT K H a xs) ∨ (∃ a, v = .ref a ∧ ∀ H, Gd H → SqL K H a xs) ∨ (∃ s, v = .str s ∧ xs = signs s)
theorem SrcV.src {K : PySem.W.Frag} {v : V} {xs : List V} {Gd : Hp → Prop} {u : Value} (h : SrcV K v xs Gd) (r : RelV v u) : ∃ S : Src, ∀ X : Cx, X.K = K → SrcIn X S u xs Gd := by
  rcases h with ⟨a, rfl, h⟩ | ⟨a, rfl, h⟩ | ⟨x, rfl, rfl⟩
  · cases r
    refine ⟨srcTup a, fun X hK pins σ H s I g => ?_⟩
    subst hK
    obtain ⟨its, rv, p, _⟩ := I.tuple (h H g)
    exact srcH_tup rv p
  · cases r
    refine ⟨srcLst a, fun X hK pins σ H s I g => ?_⟩
    subst hK
    obtain ⟨its, rv, p, _⟩ := I.list (h H g)
    exact srcH_lst rv p.isList
  · obtain ⟨t, rfl⟩ := r
    exact ⟨srcStr x t, fun X hK pins σ H s I g => srcH_str⟩
def iZipV (K : PySem.W.Frag) (ta : TA) : TI := fun σ H R => ta σ H fun vs H1 => ∃ v1 v2 xs ys Gd, vs = [v1, v2] ∧ SrcV K v1 xs Gd ∧ SrcV K v2 ys Gd ∧ Gd H1 ∧ R (ItP xs ys Gd) H1
/-- items in new pairs with their places -/
def ItE (xs : List V) (Gd : Hp → Prop) : It :=
  ⟨fun i H => Gd H ∧ i < xs.length, fun i H v H' => ∃ T x, v = .ref T ∧ H T = none ∧ H' = upd H T (.tup [.int (i : Nat), x]) ∧ xs[i]? = some x, fun i H => Gd H ∧ xs.length ≤ i⟩
def iEnumV (K : PySem.W.Frag) (ta : TA) : TI := fun σ H R => ta σ H fun vs H1 => ∃ v1 xs Gd, vs = [v1] ∧ SrcV K v1 xs Gd ∧ Gd H1 ∧ R (ItE xs Gd) H1
/-! ### as things of the value layer -/
def dsigns (x : Str) : List D := x.cps.toList.map fun c => D.str ⟨#[c]⟩
def seqD : D → Option (List D)
  | .tup ds => some ds
  | .lst ds => some ds
  | .str x => some (dsigns x)
  | _ => none
def zipD : List D → List D → List D
  | x :: xs, y :: ys => .tup [x, y] :: zipD xs ys
  | _, _ => []
def enumD : Nat → List D → List D
  | _, [] => []
  | i, x :: xs => .tup [.int i, x] :: enumD (i + 1) xs
def iZip (a : MA) : MI := fun ρ => match a ρ with
  | some (.ok [.d x, .d y], ρ1) => match seqD x, seqD y with
    | some xs, some ys => some (zipD xs ys, ρ1)
    | _, _ => none
  | _ => none
def iEnu (a : MA) : MI := fun ρ => match a ρ with
  | some (.ok [.d x], ρ1) => match seqD x with
    | some xs => some (enumD 0 xs, ρ1)
    | _ => none
  | _ => none
theorem zipD_len : ∀ xs ys : List D, (zipD xs ys).length = min xs.length ys.length
  | [], ys => by simp [zipD]
  | x :: xs, [] => by simp [zipD]
  | x :: xs, y :: ys => by
    show (zipD xs ys).length + 1 = _
    rw [zipD_len xs ys]
    simp only [List.length_cons]
    omega
theorem zipD_get : ∀ (xs ys : List D) (i : Nat) (d : D), (zipD xs ys)[i]? = some d → ∃ x y, xs[i]? = some x ∧ ys[i]? = some y ∧ d = .tup [x, y]
  | [], ys, i, d, h => by simp [zipD] at h
  | x :: xs, [], i, d, h => by simp [zipD] at h
  | x :: xs, y :: ys, 0, d, h => ⟨x, y, rfl, rfl, by
    have h' : D.tup [x, y] = d := by simpa [zipD] using h
    exact h'.symm⟩
  | x :: xs, y :: ys, i + 1, d, h => zipD_get xs ys i d (by simpa [zipD] using h)
theorem enumD_len : ∀ (n : Nat) (xs : List D), (enumD n xs).length = xs.length
  | _, [] => rfl
  | n, x :: xs => congrArg (· + 1) (enumD_len (n + 1) xs)
theorem enumD_get : ∀ (n : Nat) (xs : List D) (i : Nat) (d : D), (enumD n xs)[i]? = some d → ∃ x, xs[i]? = some x ∧ d = .tup [.int (n + i : Nat), x]
  | _, [], i, d, h => by simp [enumD] at h
  | n, x :: xs, 0, d, h => ⟨x, rfl, by
    have h' : D.tup [.int n, x] = d := by simpa [enumD] using h
    exact h'.symm⟩
  | n, x :: xs, i + 1, d, h => by
    obtain ⟨y, h1, h2⟩ := enumD_get (n + 1) xs i d (by simpa [enumD] using h)
    refine ⟨y, h1, ?_⟩
    rw [h2, show n + 1 + i = n + (i + 1) by omega]
section
variable {G : Cn} {E : XK} {F F1 F2 H H1 H2 : Hp} {σ : L2.St} {ρ ρ1 : Rho} {α α1 : Al}
theorem Rep.src {v : V} {d : D} {ds : List D} (h : Rep G F1 v d) (e : seqD d = some ds) : ∃ xs, SrcV G.K v xs (Ex F1) ∧ Reps G F1 xs ds := by
  cases d <;> cases e
  · rename_i x
    unfold Rep at h
    subst h
    refine ⟨signs x, .inr (.inr ⟨x, rfl, rfl⟩), ?_⟩
    unfold signs dsigns
    generalize x.cps.toList = l
    induction l with
    | nil => exact Reps.nil
    | cons c l ih => exact Reps.cons (by unfold Rep; rfl) ih
  · unfold Rep at h
    obtain ⟨p, vs, rfl, h1, h2⟩ := h
    exact ⟨vs, .inl ⟨p, rfl, fun H e => SqT.of (e _ _ h1)⟩, h2⟩
  · unfold Rep at h
    obtain ⟨p, vs, rfl, h1, h2⟩ := h
    exact ⟨vs, .inr (.inl ⟨p, rfl, fun H e => SqL.of (e _ _ h1)⟩), h2⟩
theorem it_pair {F' H' : Hp} {T : Addr} {x y : V} {d e : D} (e2 : Ex F' H') (hT : H' T = none) (rx : Rep G F' x d) (ry : Rep G F' y e) :
    ∃ F'', Ex F' F'' ∧ Ex H' (upd H' T (.tup [x, y])) ∧ (∀ b o, F'' b = some o → F' b = some o ∨ H' b = none) ∧ Ex F'' (upd H' T (.tup [x, y])) ∧ Rep G F'' (.ref T) (.tup [d, e]) := by
  have eF : Ex F' (upd F' T (.tup [x, y])) := fun b o h => by
    by_cases q : b = T
    · subst q
      rw [e2 _ _ h] at hT
      cases hT
    · rw [upd_ne q]; exact h
  have eH : Ex H' (upd H' T (.tup [x, y])) := fun b o h => by
    by_cases q : b = T
    · subst q
      rw [h] at hT
      cases hT
    · rw [upd_ne q]; exact h
  refine ⟨upd F' T (.tup [x, y]), eF, eH, fun b o h => ?_, fun b o h => ?_, ?_⟩
  · by_cases q : b = T
    · subst q; exact .inr hT
    · rw [upd_ne q] at h; exact .inl h
  · by_cases q : b = T
    · subst q; rw [upd_same] at h ⊢; exact h
    · rw [upd_ne q] at h ⊢; exact e2 _ _ h
  · unfold Rep
    exact ⟨T, [x, y], rfl, upd_same, Reps.cons (rx.mono eF) (Reps.one (ry.mono eF))⟩
theorem it_zip {vs ws : List V} {xs ys : List D} (rx : Reps G F1 vs xs) (ry : Reps G F1 ws ys) : ItSem G F1 (ItP vs ws (Ex F1)) (zipD xs ys) := fun {F' H'} i e1 e2 => by
  have l1 := rx.length
  have l2 := ry.length
  have l3 := zipD_len xs ys
  refine ⟨fun hi => ⟨e1.trans e2, by omega, by omega⟩, fun hi => ⟨e1.trans e2, by omega⟩, fun x H'' d hd y => ?_⟩
  obtain ⟨T, x', y', rfl, hT, rfl, g1, g2⟩ := y
  obtain ⟨dx, dy, h1, h2, rfl⟩ := zipD_get _ _ _ _ hd
  obtain ⟨v, q1, q2⟩ := rx.get h1
  obtain ⟨w, q3, q4⟩ := ry.get h2
  rw [g1] at q1
  cases q1
  rw [g2] at q3
  cases q3
  exact it_pair e2 hT (q2.mono e1) (q4.mono e1)
theorem it_enum {vs : List V} {xs : List D} (rx : Reps G F1 vs xs) : ItSem G F1 (ItE vs (Ex F1)) (enumD 0 xs) := fun {F' H'} i e1 e2 => by
  have l1 := rx.length
  have l3 := enumD_len 0 xs
  refine ⟨fun hi => ⟨e1.trans e2, by omega⟩, fun hi => ⟨e1.trans e2, by omega⟩, fun x H'' d hd y => ?_⟩
  obtain ⟨T, x', rfl, hT, rfl, g1⟩ := y
  obtain ⟨dx, h1, rfl⟩ := enumD_get _ _ _ _ hd
  obtain ⟨v, q1, q2⟩ := rx.get h1
  rw [g1] at q1
  cases q1
  exact it_pair e2 hT (by rw [Nat.zero_add]; unfold Rep; rfl) (q2.mono e1)
theorem semI_zip {ta : TA} {a : MA} (ha : SemA G E ta a) : SemI G (iZipV G.K ta) (iZip a) := ⟨fun {F H σ ρ α ds ρ1 R} S e k => by
  unfold iZip at e
  split at e
  · rename_i x y ρ' e1
    split at e
    · rename_i xs ys q1 q2
      cases e
      refine ha.run S (PostA.okEnd e1 fun vs F1 H1 α1 S1 r1 T1 N1 => ?_)
      obtain ⟨v, w, rfl, r, r'⟩ := r1.two
      obtain ⟨us, k1, p1⟩ := r.src q1
      obtain ⟨ws, k2, p2⟩ := r'.src q2
      exact ⟨v, w, us, ws, _, rfl, k1, k2, S1.ex, k _ F1 H1 α1 S1 T1 N1 (it_zip p1 p2)⟩
    · cases e
  · cases e⟩
theorem semI_enum {ta : TA} {a : MA} (ha : SemA G E ta a) : SemI G (iEnumV G.K ta) (iEnu a) := ⟨fun {F H σ ρ α ds ρ1 R} S e k => by
  unfold iEnu at e
  split at e
  · rename_i x ρ' e1
    split at e
    · rename_i xs q1
      cases e
      refine ha.run S (PostA.okEnd e1 fun vs F1 H1 α1 S1 r1 T1 N1 => ?_)
      obtain ⟨v, rfl, r⟩ := r1.one
      obtain ⟨us, k1, p1⟩ := r.src q1
      exact ⟨v, us, _, rfl, k1, S1.ex, k _ F1 H1 α1 S1 T1 N1 (it_enum p1)⟩
    · cases e
  · cases e⟩
end
end VL

namespace VL
open PySem PySem.Spec
open PyProof.Rows L2
open Evl (Ex sz_of)

/-! ### a slot's object moved out, or frozen where it stands -/
def mMv (i : Nat) : M := fun ρ => match ρ[i]? with
  | some (some (.val d)) => some (.ok (.val d), ρ)
  | some (some o) => some (.ok o, ρ.set i none)
  | _ => none
def mFz (i : Nat) : M := fun ρ => match ρ[i]? with
  | some (some (.val d)) => some (.ok (.val d), ρ)
  | some (some o) => some (.ok (.val o.frz), ρ.set i (some (.val o.frz)))
  | _ => none
section
variable {G : Cn} {E : XK} {F F1 F2 H H1 H2 : Hp} {σ : L2.St} {ρ ρ1 : Rho} {α α1 : Al} {i : Nat} {ta tb tc : TE} {ma mb mc : M}
theorem Ste.take {o : O} (S : Ste G F H σ ρ α) (h : ρ[i]? = some (some o)) : Ste G F H σ (ρ.set i none) (Al.set α i []) where
  ex := S.ex
  len := by rw [List.length_set]; exact S.len
  slot := fun j x e => by
    have hi : i < ρ.length := (List.getElem?_eq_some_iff.mp h).1
    by_cases q : j = i
    · subst q
      rw [List.getElem?_set_self hi] at e
      cases e
    · rw [List.getElem?_set_ne (Ne.symm q)] at e
      rw [Al.set_ne q]
      exact S.slot j x e
  off := fun j hj => by
    by_cases q : j = i
    · subst q; exact Al.set_eq
    · rw [Al.set_ne q]
      exact S.off j fun x e => hj x (by rw [List.getElem?_set_ne (Ne.symm q)]; exact e)
  dis := fun j k a ne hj hk => by
    have f : ∀ m, a ∈ Al.set α i [] m → a ∈ α m := fun m hm => by
      by_cases q : m = i
      · subst q; rw [Al.set_eq] at hm; cases hm
      · rwa [Al.set_ne q] at hm
    exact S.dis j k a ne (f j hj) (f k hk)
theorem own_take {a : Addr} (h : Own (Al.set α i []) a) : Own α a := (Al.own_set h).elim id fun z => nomatch z
theorem sem_mv : Sem G E (tVar i) (mMv i) := ⟨fun {F H σ ρ α Q} S h => by
  unfold mMv at h
  split at h
  · rename_i d e
    obtain ⟨v, h1, r⟩ := S.slot i _ e
    exact ⟨v, h1, Post.val h S r.2⟩
  · rename_i o _ e
    obtain ⟨v, h1, r⟩ := S.slot i _ e
    refine ⟨v, h1, h v F H _ (α i) (S.take e) r .refl (fun a ha z => ?_) fun a z => ?_⟩
    · obtain ⟨j, hj⟩ := z
      by_cases q : j = i
      · subst q; rw [Al.set_eq] at hj; cases hj
      · rw [Al.set_ne q] at hj
        exact S.dis j i a q hj ha
    · rcases z with z | z
      · exact .inl (own_take z)
      · exact .inl ⟨i, z⟩
  · exact h.elim⟩
theorem sem_fz : Sem G E (tVar i) (mFz i) := ⟨fun {F H σ ρ α Q} S h => by
  unfold mFz at h
  split at h
  · rename_i d e
    obtain ⟨v, h1, r⟩ := S.slot i _ e
    exact ⟨v, h1, Post.val h S r.2⟩
  · rename_i o _ e
    obtain ⟨v, h1, r⟩ := S.slot i _ e
    have hi : i < ρ.length := (List.getElem?_eq_some_iff.mp e).1
    have N1 : ∀ a ∈ α i, ¬ Own (Al.set α i []) a := fun a ha z => by
      obtain ⟨j, hj⟩ := z
      by_cases q : j = i
      · subst q; rw [Al.set_eq] at hj; cases hj
      · rw [Al.set_ne q] at hj
        exact S.dis j i a q hj ha
    obtain ⟨F2, S2, r2, T2, N3⟩ := Ste.freeze (F := F) (H := H) (α := α) (S.take e) r .refl N1 fun a z => z.elim (fun z => .inl (own_take z)) fun z => .inl ⟨i, z⟩
    have S3 : Ste G F2 H σ (ρ.set i (some (.val o.frz))) (Al.set α i []) := ⟨S2.ex, by rw [List.length_set]; exact S.len, fun j x ej => by
        by_cases q : j = i
        · subst q
          rw [List.getElem?_set_self hi] at ej
          cases ej
          exact ⟨v, h1, by rw [Al.set_eq]; exact ⟨rfl, r2⟩⟩
        · rw [List.getElem?_set_ne (Ne.symm q)] at ej
          exact S2.slot j x (by rw [List.getElem?_set_ne (Ne.symm q)]; exact ej), fun j hj => by
        by_cases q : j = i
        · subst q; exact Al.set_eq
        · exact S2.off j fun x ej => hj x (by rw [List.getElem?_set_ne (Ne.symm q)] at ej ⊢; exact ej), S2.dis⟩
    exact ⟨v, h1, h v F2 H _ [] S3 ⟨rfl, r2⟩ T2 (fun a ha => nomatch ha) fun a z => z.elim (fun z => N3 a z) fun z => nomatch z⟩
  · exact h.elim⟩

/-! ### a op b op' c -/
def mChain (f g : D → D → Option O) (a b c : M) : M := fun ρ => bnd (a ρ) fun x ρ1 => bnd (b ρ1) fun y ρ2 => match f x.frz y.frz with
  | some (.val (.bl true)) => bnd (c ρ2) fun z ρ3 => (g y.frz z.frz).map fun o => (.ok o, ρ3)
  | some (.val (.bl false)) => some (.ok (.val (.bl false)), ρ2)
  | _ => none
theorem sem_chain {r r' : R2} {f g : D → D → Option O} (h1 : OSem G r f) (h2 : OSem G r' g) (ha : Sem G E ta ma) (hb : Sem G E tb mb) (hc : Sem G E tc mc) : Sem G E (tChain r r' ta tb tc) (mChain f g ma mb mc) := ⟨fun {F H σ ρ α Q} S h =>
  ha.run S (Post.to h fun o ρ1 v F1 H1 α1 S1 r1 T1 N1 k1 => hb.run S1 (Post.to (Post.shift T1 N1 k1) fun o2 ρ2 v2 F2 H2 α2 S2 r2 T2 N2 k2 => by
    have k3 := Post.shift T2 N2 k2
    split at k3
    · rename_i e
      refine h1 (E := E) S2 (.inl (r1.mono T2.exF)) (.inl r2) ?_
      rw [e]
      intro v3 F3 H3 α3 β S3 R3 T3 M3 N3
      obtain ⟨rfl, R3⟩ := R3
      obtain rfl : v3 = .bl true := by unfold Rep at R3; exact R3
      refine ⟨true, rfl, ?_⟩
      rw [if_pos rfl]
      have N3' : New (Own α2) H2 (Own α3) := fun a z => N3 a (.inl z)
      exact hc.run S3 (Post.to (Post.shift T3 N3' k3) fun o4 ρ4 v4 F4 H4 α4 S4 r4 T4 N4 k4 => h2 S4 (.inl ((r2.mono T3.exF).mono T4.exF)) (.inl r4) (Post.shift T4 N4 k4))
    · rename_i e
      refine h1 (E := E) S2 (.inl (r1.mono T2.exF)) (.inl r2) ?_
      rw [e]
      intro v3 F3 H3 α3 β S3 R3 T3 M3 N3
      obtain ⟨rfl, R3⟩ := R3
      obtain rfl : v3 = .bl false := by unfold Rep at R3; exact R3
      refine ⟨false, rfl, ?_⟩
      rw [if_neg (by decide)]
      have N3' : New (Own α2) H2 (Own α3) := fun a z => N3 a (.inl z)
      exact Post.val (Post.shift T3 N3' k3) S3 Rep.ofBl
    · exact k3.elim))⟩

/-! ### one operand -/
def mUn (f : D → Option O) (a : M) : M := fun ρ => bnd (a ρ) fun x ρ1 => (f x.frz).map fun o => (.ok o, ρ1)
def fNeg : D → Option O
  | .int i => some (.val (.int (-i)))
  | _ => none
theorem sem_neg (ha : Sem G E ta ma) : Sem G E (tUn (rU fun i => .int (-i)) ta) (mUn fNeg ma) := ⟨fun {F H σ ρ α Q} S h =>
  ha.run S (Post.to h fun o ρ1 v F1 H1 α1 S1 r1 T1 N1 h1 => by
    have h2 := Post.shift T1 N1 h1
    unfold fNeg at h2
    split at h2
    · rename_i i e
      rw [e] at r1
      exact ⟨i, r1.toInt, Post.val h2 S1 Rep.ofInt⟩
    · exact h2.elim)⟩
/-- is None -/
def isNon : D → Bool
  | .non => true
  | _ => false
def fIsN (neg : Bool) (x y : D) : Option O := match y with
  | .non => some (.val (.bl (if neg then !isNon x else isNon x)))
  | _ => none
theorem rep_non {v : V} {d : D} (h : RepX G F H v d) (e : Ex F H) : isNon d = decide (v = .non) := by
  cases d with
  | non => rw [h.non]; rfl
  | bl b => rw [h.bl]; rfl
  | int b => rw [h.int]; rfl
  | str b => rw [h.str]; rfl
  | tup ds => obtain ⟨a, vs, rfl, _⟩ := h.t e; rfl
  | lst ds => obtain ⟨a, vs, rfl, _⟩ := h.l e; rfl
  | dic ds => obtain ⟨a, vs, rfl, _⟩ := h.k e; rfl
  | ins c fs => obtain ⟨a, dx, vs, rfl, _⟩ := h.i e; rfl
  | scr ns => obtain ⟨a, rfl, _⟩ := h.scr e; rfl
theorem os_isN : OSem G (fun x y H Q => y = .non ∧ Q (.bl (decide (x = .non))) H) (fIsN false) := fun {E F H σ ρ α Q x y dx dy} S hx hy h => by
  unfold fIsN at h
  split at h
  · refine ⟨hy.non, ?_⟩
    rw [← rep_non hx S.ex]
    exact Post.val h S Rep.ofBl
  · exact h.elim
theorem os_notN : OSem G (fun x y H Q => y = .non ∧ Q (.bl (!decide (x = .non))) H) (fIsN true) := fun {E F H σ ρ α Q x y dx dy} S hx hy h => by
  unfold fIsN at h
  split at h
  · refine ⟨hy.non, ?_⟩
    rw [← rep_non hx S.ex]
    exact Post.val h S Rep.ofBl
  · exact h.elim

/-! ### + and * of lists, tuples, texts -/
def fCatL (x y : D) : Option O := match x, y with
  | .lst xs, .lst ys => if xs.length + ys.length ≤ 100000 then some (.lst (xs ++ ys)) else none
  | _, _ => none
theorem os_cat : OSem G rCat fCatL := fun {E F H σ ρ α Q x y dx dy} S hx hy h => by
  unfold fCatL at h
  split at h
  · rename_i xs ys
    split at h
    · rename_i hn
      obtain ⟨a, vs, rfl, h1, r1⟩ := hx.l S.ex
      obtain ⟨b, ws, rfl, h2, r2⟩ := hy.l S.ex
      exact ⟨a, b, vs, ws, rfl, rfl, h1, h2, sz_of (by rw [r1.length, r2.length]; exact hn), fun p hp => Post.newL h S hp (r1.append r2)⟩
    · exact h.elim
  · exact h.elim
def fCatT (x y : D) : Option O := match x, y with
  | .tup xs, .tup ys => if xs.length + ys.length ≤ 100000 then some (.val (.tup (xs ++ ys))) else none
  | _, _ => none
theorem rep_tup0 {v : V} (h : RepX G F H v (.tup [])) (e : Ex F H) : ∃ a, v = .ref a ∧ F a = some (.tup []) := by
  obtain ⟨a, vs, rfl, h1, h2, r⟩ := h.t e
  obtain rfl := r.of_nil
  exact ⟨a, rfl, h1⟩
theorem os_catA : OSem G (rCatA G.K) fCatT := fun {E F H σ ρ α Q x y dx dy} S hx hy h => by
  unfold fCatT at h
  split at h
  · rename_i xs ys
    split at h
    · rename_i hn
      obtain ⟨a, vs, rfl, h0, h1, r1⟩ := hx.t S.ex
      obtain ⟨b, ws, rfl, h0', h2, r2⟩ := hy.t S.ex
      refine ⟨a, b, vs, ws, rfl, rfl, SqT.of h1, SqT.of h2, sz_of (by rw [r1.length, r2.length]; exact hn), fun e => ?_, fun e e2 => ?_, fun _ _ p hp => Post.newV h S hp (Rep.ofTup upd_same ((r1.append r2).mono (Ex.new (S.fresh hp))))⟩
      · subst e
        have : xs = [] := List.eq_nil_of_length_eq_zero (by have := r1.length; simpa using this.symm)
        subst this
        exact Post.val h S (Rep.ofTup h0' r2)
      · subst e2
        have : ys = [] := List.eq_nil_of_length_eq_zero (by have := r2.length; simpa using this.symm)
        subst this
        rw [List.append_nil] at h
        exact Post.val h S (Rep.ofTup h0 r1)
    · exact h.elim
  · exact h.elim
theorem reps_flat {vs : List V} {ds : List D} (h : Reps G F vs ds) : ∀ n : Nat, Reps G F (List.replicate n vs).flatten (List.replicate n ds).flatten
  | 0 => Reps.nil
  | n + 1 => by
    rw [List.replicate_succ, List.replicate_succ, List.flatten_cons, List.flatten_cons]
    exact h.append (reps_flat h n)
def fRepT (x y : D) : Option O := match x, y with
  | .tup xs, .int k => if xs.length ≠ 0 ∧ 2 ≤ k ∧ k ≤ 1000 ∧ xs.length ≤ 1000 then some (.val (.tup (List.replicate k.toNat xs).flatten)) else none
  | _, _ => none
theorem os_repT : OSem G (rRepT G.K) fRepT := fun {E F H σ ρ α Q x y dx dy} S hx hy h => by
  unfold fRepT at h
  split at h
  · rename_i xs k
    split at h
    · rename_i hn
      obtain ⟨a, vs, rfl, h0, h1, r1⟩ := hx.t S.ex
      obtain rfl := hy.int
      refine ⟨a, k, vs, rfl, rfl, SqT.of h1, fun e => ?_, hn.2.1, hn.2.2.1, by rw [r1.length]; exact hn.2.2.2, fun p hp => Post.newV h S hp (Rep.ofTup upd_same ((reps_flat r1 _).mono (Ex.new (S.fresh hp))))⟩
      subst e
      exact hn.1 r1.length.symm
    · exact h.elim
  · exact h.elim
def fRepL (x y : D) : Option O := match x, y with
  | .lst xs, .int k => if -1000000 ≤ k ∧ k ≤ 1000000 ∧ xs.length * k.toNat ≤ 100000 then some (.lst (List.replicate k.toNat xs).flatten) else none
  | _, _ => none
theorem os_rep : OSem G rRep fRepL := fun {E F H σ ρ α Q x y dx dy} S hx hy h => by
  unfold fRepL at h
  split at h
  · rename_i xs k
    split at h
    · rename_i hn
      obtain ⟨a, vs, rfl, h1, r1⟩ := hx.l S.ex
      obtain rfl := hy.int
      exact ⟨a, k, vs, rfl, rfl, h1, by omega, by omega, sz_of (by rw [r1.length]; exact hn.2.2), fun p hp => Post.newL h S hp (reps_flat r1 _)⟩
    · exact h.elim
  · exact h.elim
def fCatS (x y : D) : Option O := match x, y with
  | .str i, .str j => if i.length + j.length ≤ 100000 then some (.val (.str (i ++ j))) else none
  | _, _ => none
theorem os_catS : OSem G (fun x y H Q => ∃ i j, x = .str i ∧ y = .str j ∧ i.length + j.length ≤ sizeLine ∧ Q (.str (i ++ j)) H) fCatS := fun {E F H σ ρ α Q x y dx dy} S hx hy h => by
  unfold fCatS at h
  split at h
  · rename_i i j
    split at h
    · rename_i hn
      exact ⟨i, j, hx.str, hy.str, sz_of hn, Post.val h S Rep.ofStr⟩
    · exact h.elim
  · exact h.elim

/-! ### list(d), a dict's operators -/
def kD : Key → D
  | .inl i => .int i
  | .inr x => .str x
def fListD : List D → Option O
  | [.dic kds] => some (.lst (kds.map fun kd => kD kd.1))
  | _ => none
theorem kD_rep {k : Key} : Rep G F (kV k) (kD k) := by
  cases k with
  | inl i => exact Rep.ofInt
  | inr x => exact Rep.ofStr
theorem cs_listD : CSem G (fun xs H Q => ∃ (a : Addr) (kvs : List (Key × V)), xs = [.ref a] ∧ Rd H a (.dK kvs) ∧ ∀ p, H p = none → Q (.ref p) (upd H p (.lst (kvs.map fun kv => kV kv.1)))) fListD := fun {E F H σ ρ α Q vs ds} S hv h => by
  unfold fListD at h
  split at h
  · rename_i kds
    obtain ⟨v, rfl, hx⟩ := hv.one
    obtain ⟨a, kvs, rfl, h1, r⟩ := hx.k S.ex
    refine ⟨a, kvs, rfl, .inl h1, fun p hp => Post.newL h S hp ?_⟩
    clear h h1 hx hv
    induction kds generalizing kvs with
    | nil => rw [r.of_nil]; exact Reps.nil
    | cons kd kds ih =>
      obtain ⟨k, d⟩ := kd
      obtain ⟨v, w, rfl, h2, h3⟩ := r.of_cons
      exact Reps.cons kD_rep (ih w h3)
  · exact h.elim
theorem or_dget {X : Cx} (hu : X.A.units + 1 < cLine) : OpR X getItem rDGet := by
  intro pns s σ H x y v u Q inv rx ry got
  obtain ⟨a, z, rfl, g, q⟩ := got
  cases rx
  exact d_getItem hu inv g ry fun w' s' J r => ⟨z, H, J, r, q⟩
theorem or_din {X : Cx} (hu : X.A.units + 1 < cLine) : OpR X (compareOp .In) (rDIn false) := by
  intro pns s σ H x y v u Q inv rx ry got
  obtain ⟨a, o, rfl, g, q⟩ := got
  cases ry
  exact d_in hu inv g rx fun s' I' => ⟨.bl o.isSome, H, I', rfl, q⟩
theorem or_dnin {X : Cx} (hu : X.A.units + 1 < cLine) : OpR X (compareOp .NotIn) (rDIn true) := by
  intro pns s σ H x y v u Q inv rx ry got
  obtain ⟨a, o, rfl, g, q⟩ := got
  cases ry
  exact d_notIn hu inv g rx fun s' I' => ⟨.bl (!o.isSome), H, I', rfl, q⟩
end
end VL

namespace VL
open PySem PySem.Spec
open PyProof.Rows L2
open Evl (Ex sz_of)

section
variable {G : Cn} {E : XK} {F F1 F2 H H1 H2 : Hp} {σ : L2.St} {ρ ρ1 : Rho} {α α1 : Al} {i : Nat} {ta tb tc : TE} {ma mb mc : M}
/-! ### truth of values -/
def truD : D → Option Bool
  | .non => some false
  | .bl b => some b
  | .int i => some (i != 0)
  | .str y => if y.length ≤ 100000 then some ((y.length : Int) != 0) else none
  | .tup ds => some (!ds.isEmpty)
  | .lst ds => some (!ds.isEmpty)
  | .dic ds => some (!ds.isEmpty)
  | .scr ds => some (!ds.isEmpty)
  | _ => none
theorem Reps.emp {vs : List V} {ds : List D} (h : Reps G F vs ds) : vs.isEmpty = ds.isEmpty := by
  have := h.length
  cases vs <;> cases ds <;> first | rfl | cases this
theorem RepsK.emp {vs : List (Key × V)} {ds : List (Key × D)} (h : RepsK G F vs ds) : vs.isEmpty = ds.isEmpty := by
  have := h.length
  cases vs <;> cases ds <;> first | rfl | cases this
theorem tru_x {v : V} {d : D} {k : Bool} (h : RepX G F H v d) (e : Ex F H) (q : truD d = some k) : TruV G.K v H k := by
  cases d with
  | non => rw [h.non]; cases q; rfl
  | bl b => rw [h.bl]; cases q; rfl
  | int b => rw [h.int]; cases q; rfl
  | str b =>
    rw [h.str]
    replace q : (if b.length ≤ 100000 then some ((b.length : Int) != 0) else none) = some k := q
    split at q
    · rename_i hn
      cases q
      exact ⟨sz_of hn, rfl⟩
    · cases q
  | tup ds => obtain ⟨a, vs, rfl, _, h1, r⟩ := h.t e; cases q; exact .inr (.inl ⟨vs, SqT.of h1, by rw [r.emp]⟩)
  | lst ds => obtain ⟨a, vs, rfl, h1, r⟩ := h.l e; cases q; exact .inl ⟨vs, SqL.of h1, by rw [r.emp]⟩
  | dic ds => obtain ⟨a, vs, rfl, h1, r⟩ := h.k e; cases q; exact .inr (.inr ⟨vs, h1, by rw [r.emp]⟩)
  | ins c fs => cases q
  | scr ns => obtain ⟨a, rfl, h1⟩ := h.scr e; cases q; exact .inl ⟨_, h1, by cases ns <;> rfl⟩
abbrev tTru (K : PySem.W.Frag) (ta : TE) : TT := fun σ H Q => ta σ H fun x H' => ∃ k, TruV K x H' k ∧ Q k H'
def mTru (a : M) : M := fun ρ => bnd (a ρ) fun x ρ1 => (truD x.frz).map fun b => (.ok (.val (.bl b)), ρ1)
def mTruS (i : Nat) : M := fun ρ => (look ρ i).bind fun x => (truD x).map fun b => (.ok (.val (.bl b)), ρ)
theorem semT_tru (ha : Sem G E ta ma) : SemT G E (tTru G.K ta) (mTru ma) := ⟨fun {F H σ ρ α Q} S h =>
  ha.run S (Post.to h fun o ρ1 v F1 H1 α1 S1 r1 T1 N1 h1 => by
    have h2 := Post.shift T1 N1 h1
    cases e : truD o.frz with
    | none => rw [e] at h2; exact h2.elim
    | some b =>
      rw [e] at h2
      exact ⟨b, tru_x (.inl r1) S1.ex e, okV_bl S1 h2⟩)⟩
theorem semT_truS : SemT G E (tTru G.K (tVar i)) (mTruS i) := ⟨fun {F H σ ρ α Q} S h => by
  unfold mTruS at h
  cases e : look ρ i with
  | none => rw [e] at h; exact h.elim
  | some d =>
    rw [e] at h
    obtain ⟨v, hv, rx⟩ := look_x S e
    try dsimp only [Option.bind] at h
    cases e2 : truD d with
    | none => rw [e2] at h; exact h.elim
    | some b =>
      rw [e2] at h
      exact ⟨v, hv, b, tru_x rx S.ex e2, okV_bl S h⟩⟩

/-! ### a module's table with text keys -/
def valOk : Value → D → Bool
  | .str x _, .str y => x == y
  | .int x _, .int y => x == y
  | .bool x, .bl y => x == y
  | .none, .non => true
  | _, _ => false
def tabOk : List DictEntry → List (Str × D) → Bool
  | [], [] => true
  | e :: es, (s, d) :: tab => (match e.key with | .str z _ => z == s | _ => false) && valOk e.val d && tabOk es tab
  | _, _ => false
def tabV : D → V
  | .str x => .str x
  | .int x => .int x
  | .bl x => .bl x
  | _ => .non
theorem valOk_rel {u : Value} {d : D} (h : valOk u d = true) : RelV (tabV d) u ∧ ∀ F, Rep G F (tabV d) d := by
  unfold valOk at h
  split at h
  · obtain rfl := beq_iff_eq.mp h; exact ⟨⟨_, rfl⟩, fun F => Rep.ofStr⟩
  · obtain rfl := beq_iff_eq.mp h; exact ⟨⟨_, rfl⟩, fun F => Rep.ofInt⟩
  · obtain rfl := beq_iff_eq.mp h; exact ⟨rfl, fun F => Rep.ofBl⟩
  · exact ⟨rfl, fun F => Rep.ofNon⟩
  · cases h
theorem tab_find (z : Str) : ∀ {es : List DictEntry} {tab : List (Str × D)}, tabOk es tab = true →
    es.any (·.refKey) = false ∧ (match tab.lookup z with
      | some d => ∃ e, es.find? (·.key.isStr z) = some e ∧ valOk e.val d = true
      | none => es.find? (·.key.isStr z) = none)
  | [], [], _ => ⟨rfl, rfl⟩
  | [], _ :: _, h => by cases h
  | _ :: _, [], h => by cases h
  | e :: es, (s, d) :: tab, h => by
    unfold tabOk at h
    rw [Bool.and_eq_true, Bool.and_eq_true] at h
    obtain ⟨⟨h1, h2⟩, h3⟩ := h
    obtain ⟨i1, i2⟩ := tab_find z h3
    obtain ⟨hh, k, v⟩ := e
    dsimp only at h1 h2
    split at h1
    · rename_i x t
      obtain rfl := beq_iff_eq.mp h1
      refine ⟨by rw [List.any_cons, i1]; rfl, ?_⟩
      rw [List.lookup_cons]
      by_cases q : z = x
      · subst q
        rw [beq_self_eq_true]
        refine ⟨_, by rw [List.find?_cons, show (Value.str z t).isStr z = true from beq_self_eq_true z], h2⟩
      · rw [show (z == x) = false from beq_eq_false_iff_ne.mpr q]
        have q2 : (Value.str x t).isStr z = false := by
          show (x == z) = false
          exact beq_eq_false_iff_ne.mpr fun w => q w.symm
        rw [List.find?_cons]
        dsimp only
        rw [q2]
        exact i2
    · cases h1
structure Tab (K : PySem.W.Frag) (d : Addr) (es : Array DictEntry) (n : Nat) (tab : List (Str × D)) : Prop where
  look : K.lookup d = some ⟨.type "dict", none, .dict es n, #[]⟩
  ok : tabOk es.toList tab = true
theorem Tab.ns {K : PySem.W.Frag} {d : Addr} {es : Array DictEntry} {n : Nat} {tab : List (Str × D)} (T : Tab K d es n tab) (z : Str) :
    match tab.lookup z with
      | some d' => ∃ u, PySem.W.nsIn K d z = some (some u) ∧ valOk u d' = true
      | none => PySem.W.nsIn K d z = some none := by
  obtain ⟨h1, h2⟩ := tab_find z T.ok
  unfold PySem.W.nsIn
  rw [T.look]
  dsimp only
  split
  · rename_i d' e
    rw [e] at h2
    obtain ⟨e', q1, q2⟩ := h2
    rw [q1]
    exact ⟨_, rfl, q2⟩
  · rename_i e
    rw [e] at h2
    rw [h2]
    dsimp only
    rw [h1]
    rfl
abbrev rTabIn (K : PySem.W.Frag) (d : Addr) : R2 := fun x y H Q => ∃ (z : Str) (r : Option Value), x = .str z ∧ y = .ref d ∧ PySem.W.nsIn K d z = some r ∧ Q (.bl r.isSome) H
abbrev rTabGet (K : PySem.W.Frag) (d : Addr) : R2 := fun x y H Q => ∃ (z : Str) (u0 : Value) (v0 : V), x = .ref d ∧ y = .str z ∧ PySem.W.nsIn K d z = some (some u0) ∧ RelV v0 u0 ∧ Q v0 H
def fTabIn (tab : List (Str × D)) : D → Option O
  | .str z => some (.val (.bl (tab.lookup z).isSome))
  | _ => none
def fTabGet (tab : List (Str × D)) : D → Option O
  | .str z => (tab.lookup z).map .val
  | _ => none
theorem sem_tabIn {d : Addr} {es : Array DictEntry} {n : Nat} {tab : List (Str × D)} (T : Tab G.K d es n tab) (ha : Sem G E ta ma) : Sem G E (tOp (rTabIn G.K d) ta (tC (.ref d))) (mUn (fTabIn tab) ma) := ⟨fun {F H σ ρ α Q} S h =>
  ha.run S (Post.to h fun o ρ1 v F1 H1 α1 S1 r1 T1 N1 h1 => by
    have h2 := Post.shift T1 N1 h1
    unfold fTabIn at h2
    split at h2
    · rename_i z e
      rw [e] at r1
      have t := T.ns z
      have rv : v = .str z := by unfold Rep at r1; exact r1
      cases q : tab.lookup z with
      | none =>
        rw [q] at t h2
        exact ⟨z, none, rv, rfl, t, Post.val h2 S1 Rep.ofBl⟩
      | some d' =>
        rw [q] at t h2
        obtain ⟨u, t, _⟩ := t
        exact ⟨z, some u, rv, rfl, t, Post.val h2 S1 Rep.ofBl⟩
    · exact h2.elim)⟩
theorem sem_tabGet {d : Addr} {es : Array DictEntry} {n : Nat} {tab : List (Str × D)} (T : Tab G.K d es n tab) (ha : Sem G E ta ma) : Sem G E (tOp (rTabGet G.K d) (tC (.ref d)) ta) (mUn (fTabGet tab) ma) := ⟨fun {F H σ ρ α Q} S h =>
  ha.run S (Post.to h fun o ρ1 v F1 H1 α1 S1 r1 T1 N1 h1 => by
    have h2 := Post.shift T1 N1 h1
    unfold fTabGet at h2
    split at h2
    · rename_i z e
      rw [e] at r1
      have t := T.ns z
      have rv : v = .str z := by unfold Rep at r1; exact r1
      cases q : tab.lookup z with
      | none =>
        rw [q] at h2
        exact h2.elim
      | some d' =>
        rw [q] at t h2
        obtain ⟨u, t, w⟩ := t
        obtain ⟨w1, w2⟩ := valOk_rel (G := G) w
        exact ⟨z, u, tabV d', rfl, rv, t, w1, Post.val h2 S1 (w2 _)⟩
    · exact h2.elim)⟩
end
end VL

namespace VL
open PySem PySem.Spec
open PyProof.Rows L2
open Evl (Ex sz_of)

/-! ### rules that leave open what a value is -/
def iAny (a : M) : MI := fun ρ => match a ρ with
  | some (.ok o, ρ1) => match o.frz with
    | .tup ds => some (ds, ρ1)
    | .lst ds => some (ds, ρ1)
    | .scr ns => some (ns.map .int, ρ1)
    | _ => none
  | _ => none
section
variable {G : Cn} {E : XK} {F F1 F2 H H1 H2 : Hp} {σ : L2.St} {ρ ρ1 : Rho} {α α1 : Al} {i : Nat} {ta tb tc : TE} {ma mb mc : M}
theorem it_sq {a : Addr} {vs : List V} {ds : List D} (h : ∀ H, Ex F1 H → SqL G.K H a vs) (r : Reps G F1 vs ds) : ItSem G F1 (Itl G.K a) ds := fun {F' H'} i e1 e2 => by
  have hs : SqL G.K H' a vs := h _ (e1.trans e2)
  refine ⟨fun hi => ?_, fun hi => ?_, fun x H'' d hd y => ?_⟩
  · have hi' : i < vs.length := by rw [r.length]; exact hi
    exact ⟨vs, vs[i], hs, by simp [hi']⟩
  · exact ⟨vs, hs, by rw [r.length]; exact hi⟩
  · obtain ⟨rfl, y⟩ := y
    obtain ⟨v, h1, h2⟩ := r.get hd
    have := y vs hs
    rw [h1] at this
    cases this
    exact ⟨F', Ex.refl F', Ex.refl _, fun _ _ z => .inl z, e2, h2.mono e1⟩
theorem rep_scr {v : V} {ns : List Int} (h : Rep G F v (.scr ns)) : ∃ a, v = .ref a ∧ ∀ H, Ex F H → SqL G.K H a (ns.map V.int) := by
  have e : ∀ H, Ex F H → ∃ a, v = .ref a ∧ SqL G.K H a (ns.map V.int) := fun H e => RepX.scr (.inl h) e
  obtain ⟨a, rfl, _⟩ := e F (Ex.refl F)
  refine ⟨a, rfl, fun H x => ?_⟩
  obtain ⟨b, q, hb⟩ := e H x
  cases q
  exact hb
end

/-! x[i] of lists, tuples, texts, dicts -/
theorem ix_dget {X : Cx} (hu : X.A.units + 1 < cLine) : IxR X rDGet := by
  intro val ix pns s σ H x y v u Q inv rx ry got plain
  obtain ⟨a, z, ex, g, q⟩ := got
  subst ex
  cases rx
  have isD : s.TypeIs (.ref a) "dict" := by
    rcases g with g | g
    · obtain ⟨kvs, k, e, _⟩ := g
      obtain ⟨_, _, _, _, m⟩ := dk_rd inv.hok e
      exact m.mapOf.typeIs
    · obtain ⟨kvs, k, b, e, _⟩ := g
      obtain ⟨_, _, _, _, m⟩ := dt_rd inv.hok e
      obtain ⟨o, _, _, ho, hx, _⟩ := m
      exact ⟨o, ho, hx.1⟩
  refine tail_any isD slot_dict_getitem.lookup ?_ plain
  exact d_getItem hu inv g ry fun w' s' J r => ⟨z, H, J, r, q⟩
abbrev rIxA (K : PySem.W.Frag) : R2 := fun x y H Q => rIx K x y H Q ∨ rDGet x y H Q
theorem ix_all {X : Cx} (hu : X.A.units + 1 < cLine) : IxR X (rIxA X.K) := ix_seq.or (ix_dget hu)
def fIxA : D → D → Option O := fOr fIx fDGet
theorem os_ixA {G : Cn} : OSem G (rIxA G.K) fIxA := os_or os_ix os_dget
/-! a + b, a * b -/
abbrev rAddA (K : PySem.W.Frag) : R2 := fun x y H Q => rI0 (fun i j => .int (i + j)) x y H Q ∨ (rCat x y H Q ∨ (rCatA K x y H Q ∨ ∃ i j, x = .str i ∧ y = .str j ∧ i.length + j.length ≤ sizeLine ∧ Q (.str (i ++ j)) H))
theorem op_addA {X : Cx} : OpR X (binaryOp .Add) (rAddA X.K) := op_add.or (op_cat.or (op_catA.or op_add_str))
def fAddA : D → D → Option O := fOr (fInt fun i j => i + j) (fOr fCatL (fOr fCatT fCatS))
theorem os_addA {G : Cn} : OSem G (rAddA G.K) fAddA := os_or os_int (os_or os_cat (os_or os_catA os_catS))
abbrev rMulA (K : PySem.W.Frag) : R2 := fun x y H Q => rI CMul (fun i j => .int (i * j)) x y H Q ∨ (rRepT K x y H Q ∨ rRep x y H Q)
theorem op_mulA {X : Cx} : OpR X (binaryOp .Mult) (rMulA X.K) := op_mul.or (op_repT.or op_rep)
def fMulA : D → D → Option O := fOr (fIntC bMul fun i j => i * j) (fOr fRepT fRepL)
theorem os_mulA {G : Cn} : OSem G (rMulA G.K) fMulA := os_or os_mul (os_or os_repT os_rep)
/-! a in b -/
abbrev rInA (K : PySem.W.Frag) (neg : Bool) : R2 := fun x y H Q => rDIn neg x y H Q ∨ rIn K neg x y H Q
def fInA (neg : Bool) : D → D → Option O := fOr (fDIn neg) (fIn neg)
theorem os_inA {G : Cn} {neg : Bool} : OSem G (rInA G.K neg) (fInA neg) := os_or os_din os_in

/-! ### calls of defs that never raise -/
section
variable {G : Cn} {E : XK}
theorem PostG.noex {F H : Hp} {α : Al} {A : Type} {okP : A → Rho → Prop} {r : Option (Rs A × Rho)} {E1 : XK} (h : PostG G E F H α okP r) (n : ∀ c f ρ', r ≠ some (.ex c f, ρ')) : PostG G E1 F H α okP r := by
  match r, h with
  | none, h => exact h
  | some (.ok o, ρ'), h => exact h
  | some (.ex c f, ρ'), h => exact (n c f ρ' rfl).elim
theorem mFn0_noex {np N : Nat} {body : MS} : ∀ os c f os', mFn0 np N body os ≠ some (.ex c f, os') := fun os c f os' h => by
  unfold mFn0 at h
  split at h
  · cases h
  · cases h
theorem tCall0 {fn : Fn} {n : Nat} {t : TA} (hn : ∀ os c f os', fn os ≠ some (.ex c f, os')) {σ : L2.St} {H : Hp} {Q : VK} (h : tCall (spF G fn n) [] E t σ H Q) (hm : ∀ {σ : L2.St} {H : Hp} {R R' : List V → Hp → Prop}, (∀ vs H', R vs H' → R' vs H') → t σ H R → t σ H R') : tCall (spF G fn n) [] E0 t σ H Q :=
  hm (fun vs H' ⟨l, F, os, α, S, p⟩ => ⟨l, F, os, α, S, p.noex fun c f ρ' e => by
    unfold retR at e
    cases q : fn os with
    | none => rw [q] at e; cases e
    | some x =>
      rw [q] at e
      obtain ⟨r, os'⟩ := x
      cases e
      exact hn _ _ _ _ q⟩) h
end
end VL

namespace VL
open PySem PySem.Spec
open PyProof.Rows L2
open Evl (Ex sz_of)

/-! ### a def of the text by name; its promise -/
structure DefAt (K : PySem.W.Frag) (x qual : Str) (st : Stmt) (f : Addr) (ps : List Str) : Prop where
  fu : ∃ fd, Fun K x qual st f fd ∧ Binds K fd ps []
structure OkAt (P : Program) (w : World) (K : PySem.W.Frag) (mg : Str → Option Value) (base : Heap) (CX : CXT) (k : Nat) (f : Addr) (ps : List Str) (sp : Sp) : Prop where
  ok : ∃ fd, FnOk P w K mg base CX k f fd ps sp ∧ Binds K fd ps [] ∧ PySem.W.keepIn K (.ref f) = true
section
variable {P : Program} {w : World} {K : PySem.W.Frag} {mg : Str → Option Value} {base : Heap} {cl : Nat → Addr}
theorem okat0 {x qual : Str} {st : Stmt} {f : Addr} {Ns ps : List Str} {k np : Nat} {m : MS} (D : DefAt K x qual st f ps) (S : FnScope Ns ps (defScope st)) (hp : ps.length = np) (hN : np ≤ Ns.length)
    (hbody : ∀ (cdv : Value) (A : Around) (outer : List Env) (s : Shared) (H : Hp) (E : XK), Room k (A.deeper (envOfC qual (defScope st) s.heap.objs.size f cdv)) →
      ∃ t, PSs (cxOf CX0 P w K mg base Ns qual (defScope st) f cdv A outer s H E).nox (defBody st) t ∧ SemS ⟨K, cl⟩ E0 t m) : OkAt P w K mg base CX0 (k + 1) f ps (spF ⟨K, cl⟩ (mFn0 np Ns.length m) np) := by
  obtain ⟨fd, F, B⟩ := D.fu
  exact ⟨fd, fn_ok0 F S hp hN hbody, B, F.kp⟩
end
section
variable {X : Cx} {x : Str} {p pos : Pos} {e : Expr} {es : List Expr} {t : TA} {f : Addr} {k : Nat} {ps : List Str} {sp : Sp}
theorem pe_callO (O : OkAt X.prog X.w X.K X.mg X.base CX0 k f ps sp) (hr : Room k X.A) (hm : X.mg x = some (.ref f)) (ha : PA X (e :: es) t) (hg : Gl X x := by rfl)
    (he : starEach (e :: es) X.env = (false, eval e X.env) :: starEach es X.env := by rfl) (hpl : (backTo pos (starEach es X.env)).any (·.1) = false := by rfl) (hdb : (x == ("__debug__" : Str)) = false := by decide) :
    PE X (.Call (.Name x p) (e :: es) [] pos) (tCall sp [] E0 t) := by
  obtain ⟨fd, F, B, kp⟩ := O.ok
  exact pe_call F hr hg hm kp B .nil pass0 ha hdb he hpl
theorem pe_callO0 (O : OkAt X.prog X.w X.K X.mg X.base CX0 k f ps sp) (hr : Room k X.A) (hm : X.mg x = some (.ref f)) (hg : Gl X x := by rfl)
    (hdb : (x == ("__debug__" : Str)) = false := by decide) : PE X (.Call (.Name x p) [] [] pos) (tCall sp [] E0 tNil) := by
  obtain ⟨fd, F, B, kp⟩ := O.ok
  exact pe_call0 F hr hg hm kp B .nil pass0 hdb
end
theorem pe_k {X : Cx} {x : Str} {v : V} {pos : Pos} (hk : ∃ u, X.mg x = some u ∧ RelV v u) (hg : Gl X x := by rfl) (hd : (x == ("__debug__" : Str)) = false := by decide) : PE X (.Name x pos) (tC v) := by
  obtain ⟨u, hm, r⟩ := hk
  exact pe_glob hg hm r hd
/-! an argument that is looked at where it stands -/
def aSl (i : Nat) (mr : MA) : MA := fun ρ => (look ρ i).bind fun _ => aIo i mr ρ
theorem semA_sl {G : Cn} {E : XK} {i : Nat} {tr : TA} {mr : MA} (hr : SemA G E tr mr) : SemA G E (tCons (tVar i) tr) (aSl i mr) := semA_io hr

theorem CallR.orC {X : Cx} {f : Value} {r r' : List V → Hp → VK → Prop} (h : CallR X f r) (h' : CallR X f r') : CallR X f (fun xs H Q => r xs H Q ∨ r' xs H Q) := by
  intro pins s σ H xs us Q I rx q
  rcases q with q | q
  · exact h pins s σ H xs us Q I rx q
  · exact h' pins s σ H xs us Q I rx q
theorem call_lists {X : Cx} (hc : X.calm = true) : CallR X (.type "list") (fun xs H Q => (∃ p ys, xs = [.ref p] ∧ (SqL X.K H p ys ∨ SqT X.K H p ys) ∧ ∀ l, H l = none → Q (.ref l) (upd H l (.lst ys))) ∨
    ∃ (a : Addr) (kvs : List (Key × V)), xs = [.ref a] ∧ Rd H a (.dK kvs) ∧ ∀ p, H p = none → Q (.ref p) (upd H p (.lst (kvs.map fun kv => kV kv.1)))) := CallR.orC call_list_of (call_listD hc)
/-- len of lists, tuples, texts, dicts -/
theorem call_lens {X : Cx} : CallR X (.builtin "len") (fun xs H Q => (∃ x n, xs = [x] ∧ LenV X.K x H n ∧ Q (.int n) H) ∨ ∃ a kvs, xs = [V.ref a] ∧ H a = some (.dK kvs) ∧ Q (.int kvs.length) H) := CallR.orC call_len call_lenD
def fLenD : List D → Option O
  | [.dic ds] => some (.val (.int ds.length))
  | _ => none
theorem cs_lenD {G : Cn} : CSem G (fun xs H Q => ∃ a kvs, xs = [V.ref a] ∧ H a = some (.dK kvs) ∧ Q (.int kvs.length) H) fLenD := fun {E F H σ ρ α Q vs ds} S hv h => by
  unfold fLenD at h
  split at h
  · obtain ⟨v, rfl, hx⟩ := hv.one
    obtain ⟨a, ws, rfl, h1, h2⟩ := hx.k S.ex
    exact ⟨a, ws, rfl, h1, by rw [h2.length]; exact Post.val h S Rep.ofInt⟩
  · exact h.elim
theorem ix_of_kd {X : Cx} {d : Addr} {es : Array DictEntry} {n : Nat} (D : KDict X.K X.w d es n) : IxR X (rTabGet X.K d) := by
  intro val ix pns s σ H x y v u Q inv rx ry got plain
  have g := op_item_kd D pns s σ H _ _ v u Q inv rx ry got
  obtain ⟨_, _, _, ex, _⟩ := got
  subst ex
  cases rx
  exact tail_any (kd_type D inv) slot_dict_getitem.lookup g plain
def sNever : MS := fun _ _ => none
theorem semS_never {G : Cn} {E : XK} : SemS G E tNever sNever := ⟨fun S h => h.elim⟩
section
variable {G : Cn} {E : XK} {F F1 F2 H H1 H2 : Hp} {σ : L2.St} {ρ ρ1 : Rho} {α α1 : Al} {i : Nat} {ta tb tc : TE} {ma mb mc : M}
theorem Ste.poke {p : Addr} {o : HO} (S : Ste G F H σ ρ α) (hF : F p = none) (hO : ¬ Own α p) : Ste G F (upd H p o) σ ρ α where
  ex := fun a u e => by
    have : a ≠ p := fun q => by
      rw [q, hF] at e
      cases e
    rw [upd_ne this]
    exact S.ex a u e
  len := S.len
  slot := fun j x e => by
    obtain ⟨v, h1, r⟩ := S.slot j x e
    refine ⟨v, h1, r.move (Ex.refl F) (fun b hb => (r.mem b hb).1) fun b hb u y => ?_⟩
    have : b ≠ p := fun q => hO (q ▸ ⟨j, hb⟩)
    rw [upd_ne this]
    exact y
  off := S.off
  dis := S.dis
def mD1 (k v : M) : M := fun ρ => bnd (k ρ) fun x ρ1 => bnd (v ρ1) fun y ρ2 => (keyD x.frz).map fun kk => (.ok (.dic [(kk, y.frz)]), ρ2)
theorem sem_d1 (ha : Sem G E ta ma) (hb : Sem G E tb mb) : Sem G E (tDisp [(ta, tb)]) (mD1 ma mb) := ⟨fun {F H σ ρ α Q} S h p hp => by
  have fp := S.fresh hp
  have np := S.notown hp
  have h0 : PostG G E F (upd H p (.dK [])) α (okV G F H σ α Q) (mD1 ma mb ρ) := PostG.shift (Ste.putStp hp) .refl h fun _ _ x => x
  refine ha.run (S.put hp) (Post.to h0 fun x ρ1 v F1 H1 α1 S1 r1 T1 N1 h1 => ?_)
  have h1' : PostG G E F1 H1 α1 (okV G F H σ α Q) _ := PostG.shift T1 N1 h1 fun _ _ x => x
  refine hb.run S1 (Post.to h1' fun y ρ2 u F2 H2 α2 S2 r2 T2 N2 h2 => ?_)
  have p1 : H1 p = some (.dK []) := T1.keep p _ upd_same np
  have o1 : ¬ Own α1 p := fun z => (N1 p z).elim np fun z => by rw [upd_same] at z; cases z
  have p2 : H2 p = some (.dK []) := T2.keep p _ p1 o1
  have o2 : ¬ Own α2 p := fun z => (N2 p z).elim o1 fun z => by rw [p1] at z; cases z
  have f1 : F1 p = none := by
    cases e : F1 p with
    | none => rfl
    | some u =>
      rcases T1.newF p u e with z | z | z
      · rw [fp] at z; cases z
      · rw [upd_same] at z; cases z
      · exact (np z).elim
  have f2 : F2 p = none := by
    cases e : F2 p with
    | none => rfl
    | some u =>
      rcases T2.newF p u e with z | z | z
      · rw [f1] at z; cases z
      · rw [p1] at z; cases z
      · exact (o1 z).elim
  refine ⟨p2, ?_⟩
  cases e : keyD x.frz with
  | none => rw [e] at h2; exact h2.elim
  | some kk =>
    rw [e] at h2
    have kv : v = kV kk := key_x (.inl (r1.mono T2.exF) : RepX G F2 H2 v x.frz) e
    subst kv
    refine ⟨[(kk, u)], rfl, (by show 1 ≤ 15; decide), ?_⟩
    have T : Stp (Own α) F (upd H p (.dK [])) F2 H2 := T1.trans T2 N1
    refine h2 (.ref p) F2 _ α2 [p] (S2.poke f2 o2) ⟨p, [(kk, u)], rfl, rfl, f2, upd_same, RepsK.cons r2 RepsK.nil⟩ ⟨T.exF, fun b o hb nb => ?_, fun b o hb => ?_⟩ (fun a ha z => ?_) fun a z => ?_
    · have hbp : b ≠ p := ne_of_none hb hp
      rw [upd_ne hbp]
      exact T.keep b o (by rw [upd_ne hbp]; exact hb) nb
    · rcases T.newF b o hb with z | z | z
      · exact .inl z
      · refine .inr (.inl ?_)
        by_cases q : b = p
        · rw [q]; exact hp
        · rwa [upd_ne q] at z
      · exact .inr (.inr z)
    · have : a = p := by simpa using ha
      subst this
      exact o2 z
    · rcases z with z | z
      · have N : New (Own α) (upd H p (.dK [])) (Own α2) := New.trans T1 N1 N2
        rcases N a z with y | y
        · exact .inl y
        · refine .inr ?_
          by_cases q : a = p
          · rw [q]; exact hp
          · rwa [upd_ne q] at y
      · have : a = p := by simpa using z
        subst this
        exact .inr hp⟩
end
theorem pe_d1 {X : Cx} {k v : Expr} {pos : Pos} {tk tv : TE} (hk : PE X k tk) (hv : PE X v tv) : PE X (.Dict [some k] [v] pos) (tDisp [(tk, tv)]) :=
  pe_disp (pps_cons hk hv pps_nil) rfl rfl (by intro h; cases h) (by show 1 ≤ 15; decide)
end VL

/-! An error class whose __init__ says super().__init__(f'..{part}') and keeps part. -/
namespace VX
open PySem PySem.W PySem.Calls PyProof.Rows PySem.HandSPX
/-- the two readings of a list of own classes ahead of ValueError's say the same -/
theorem tail_same (l : List Value) : refsVE l = true → excTail veTail l = true := by
  induction l with
  | nil => exact fun e => e
  | cons a r ih => cases a <;> first | exact fun e => ih e | exact fun e => e
theorem made_in {K : Frag} {C N : Addr} {nm q : Str} {bs bm sub : List Value} {sn : List Str} {ab : Bool} {col : Option Bool} {dd : Option Addr} {k0 k1 k2 k3 k5 : Option Value}
    (h : K.lookup C = some (excClassObj nm q C N bs bm true sn sub ab col dd k0 k1 k2 k3 k5 "ValueError.__new__")) (hb : refsVE bm = true) : excInitIn K C veTail "ValueError.__new__" = true := by
  unfold excInitIn
  rw [h]
  simp [tail_same _ hb]
/-- the bound __init__ of ValueError, called: over what stood ahead of the error -/
theorem super_called {P : Program} {w : World} {K : Frag} {A : Around} {E : Value → Shared → Prop} {s : Shared} {base : Heap} {L C u e t0 : Addr} {m : Str → Option Value} {rest : List Value} {Q : Value → Shared → Prop}
    (X0 : K.In base) (hk : ∀ b o, base.get? b = some o → s.heap.get? b = some o) (hL : base.objs.size ≤ L) (hns : s.heap.Ns L m) (he : s.heap.get? e = some (excO C t0)) (hu : s.heap.get? u = some (kxs_mw "ValueError.__init__" e))
    (eb : base.get? e = none) (ub : base.get? u = none) (eL : e ≠ L) (uL : u ≠ L) (ue : u ≠ e) (q : excInitIn K C veTail "ValueError.__new__" = true) (hr : rest.length ≤ sizeLine)
    (k : ∀ h' t1, h'.Ns L m → (∀ b o, base.get? b = some o → h'.get? b = some o) → h'.get? e = some (excO C t1) → Q .none { s with heap := h' }) : wpAny (model P w) A (call (.ref u) rest) Q E s := by
  have fr : Fr base L s.heap m := ⟨hns, hk, hL⟩
  have nw : News base L s.heap [(u, kxs_mw "ValueError.__init__" e), (e, excObj C t0 none .none)] := by
    intro p hp
    simp only [List.mem_cons, List.not_mem_nil, or_false] at hp
    rcases hp with z | z
    · subst z
      exact ⟨hu, uL, ub⟩
    · subst z
      exact ⟨he, eL, eb⟩
  refine kxs_call (nw := fun o => [(u, kxs_mw "ValueError.__init__" e), (e, o)]) fr X0 nw F.excBase_ValueError q List.mem_cons_self (.tail ue (.head fun p hp => nomatch hp)) hr ?_
  intro t' h' fr' nw' _
  exact k h' t' fr'.ns fr'.keep (nw' (e, excObj C t' none .none) (by simp)).1
/-! ### the text -/
structure Ps where
  a1 : Pos
  a2 : Pos
  a3 : Pos
  p0 : Pos
  p1 : Pos
  p2 : Pos
  p3 : Pos
  p4 : Pos
  p5 : Pos
  p6 : Pos
  p7 : Pos
  p8 : Pos
  q1 : Pos
  q2 : Pos
  q3 : Pos
  q4 : Pos
def iA (p : Ps) : Arguments := { posonlyargs := [], args := [{ arg := "self", annotation := none, pos := p.a1 }, { arg := "part", annotation := none, pos := p.a2 }], vararg := none, kwonlyargs := [], kw_defaults := [], kwarg := none, defaults := [.Constant .none 0 p.a3] }
def iB (msg : Str) (p : Ps) : List Stmt := [.Expr (.Call (.Attribute (.Call (.Name "super" p.p0) [] [] p.p1) "__init__" p.p2) [.JoinedStr [.Constant (.str msg) 0 p.p3, .FormattedValue (.Name "part" p.p4) (-1) none p.p5] p.p6] [] p.p7) p.p8,
  .Assign [.Attribute (.Name "self" p.q1) "part" p.q2] (.Name "part" p.q3) p.q4]
def iS : Scope := { kind := .function, names := [("self", .local), ("part", .local), ("__class__", .free), ("super", .globalImplicit)], isGenerator := false, isCoroutine := false, more := [] }
def iJ (msg : Str) (p : Ps) : Expr := .JoinedStr [.Constant (.str msg) 0 p.p3, .FormattedValue (.Name "part" p.p4) (-1) none p.p5] p.p6
def MCall (msg : Str) (p : Ps) (pl : Sem Bool) : Prop := ∀ env : Env, eval (.Call (.Attribute (.Call (.Name "super" p.p0) [] [] p.p1) "__init__" p.p2) [iJ msg p] [] p.p7) env = (do
  let ov ← attributeBase (.Call (.Name "super" p.p0) [] [] p.p1) "__init__" env (eval (.Call (.Name "super" p.p0) [] [] p.p1) env)
  standAt p.p2.atName
  let (g, fst) ← holding [ov] (getMethod ov "__init__" pl)
  callWith p.p7 g fst (backTo p.p7 (starEach [iJ msg p] env)) [])
/-- what the written part says of the class at C, of its __init__ at fI -/
structure BadTxt (P : Program) (K : Frag) (mg : Str → Option Value) (C fI : Addr) (fd : FuncData) : Prop where
  cls : ∃ nm q N bs bm sn sub ab col dd k0 k1 k2 k3 k5, K.lookup C = some (excClassObj nm q C N bs bm true sn sub ab col dd k0 k1 k2 k3 k5 "ValueError.__new__") ∧ refsVE bm = true
  sa : findIn K (.ref C) "__setattr__" = some (some (.builtin "object.__setattr__"))
  noP : findIn K (.ref C) "part" = some none
  iC : findIn K (.ref C) "__init__" = some (some (.ref fI))
  tI : typeIn K (.ref fI) = some (.type "function")
  kC : keepIn K (.ref C) = true
  exC : subIn K (.ref C) (.type "BaseException") = some true
  tyC : typeIn K (.ref C) = some (.type "type")
  subV : subIn K (.ref C) (.type "ValueError") = some true
  sup : ks_superIn K C C "__init__" = some (some (.builtin "ValueError.__init__"))
  mroC : mroIn K C (.ref C) = some true
  opq : nsIn K cStatics "thirdparty.any" = some none
  gS : mg "super" = none
  htop : (P.main.scope.names.lookup ("super" : Str)).isSome = false
  fn : ∃ (msg qual : Str) (p : Ps) (oc dV kV doc pm ct ccl cl : Value) (od an cdd cld : Option Addr) (osl ccs csl : Array (Option Value)) (cc cda : Addr) (vs : Array Value) (file : Str) (tf : Tok) (pl : Sem Bool), MCall msg p pl ∧
    fd = ksFn "__init__" qual (iA p) (iB msg p) iS dV kV doc pm an (.ref cda) ct cc ∧ K.lookup fI = some ⟨oc, od, .func fd, osl⟩ ∧ codeIn K (.ref cda) qual = true ∧
    K.lookup cda = some ⟨ccl, cdd, .fields vs, ccs⟩ ∧ vs[2]? = some (.str file tf) ∧ ((P.main.file : Str) == file) = true ∧ K.lookup cc = some ⟨cl, cld, .cell (some (.ref C)), csl⟩ ∧ msg.length ≤ 1000
theorem nmS : iS.names.lookup ("super" : Str) = some .globalImplicit := by decide +kernel
theorem nmC : iS.names.lookup ("__class__" : Str) = some .free := by decide +kernel
theorem nmSelf : iS.names.lookup ("self" : Str) = some .local := by decide +kernel
theorem nmPart : iS.names.lookup ("part" : Str) = some .local := by decide +kernel
theorem lkSelf {a b : Value} : List.lookup ("self" : Str) [(("self" : Str), a), ("part", b)].reverse = some a := by
  show List.lookup ("self" : Str) [(("part" : Str), b), ("self", a)] = some a
  rw [List.lookup_cons, show (("self" : Str) == "part") = false by decide +kernel]
  dsimp only
  rw [List.lookup_cons, show (("self" : Str) == "self") = true by decide +kernel]
theorem lkPart {a b : Value} : List.lookup ("part" : Str) [(("self" : Str), a), ("part", b)].reverse = some b := by
  show List.lookup ("part" : Str) [(("part" : Str), b), ("self", a)] = some b
  rw [List.lookup_cons, show (("part" : Str) == "part") = true by decide +kernel]
section
variable {P : Program} {w : World} {A : Around} {E : Value → Shared → Prop} {R : Result → Shared → Prop} {s : Shared} {K : Frag} {mg : Str → Option Value} {C fI : Addr} {fd : FuncData}
theorem bad_init (T : BadTxt P K mg C fI fd) {base : Heap} {x t0 : Addr} {v : Str} {tv : Tok} {mb : Str → Option Value} {args : Args} (X0 : K.In base) (kb : ∀ b o, base.get? b = some o → s.heap.get? b = some o) (xb : base.get? x = none) (zb : base.objs.size ≤ s.heap.objs.size) (hlim : s.heap.NoLimit) (hG : s.heap.Ns mainGlobals mg) (hB : s.heap.Ns builtinsNs mb) (hmb : mb "super" = bootBuiltins "super")
    (hx : s.heap.get? x = some (excO C t0)) (hv : v.length ≤ 1000) (hroom : A.depth < recursionLimit) (hbind : BindsTo s fd args [("self", .ref x), ("part", .str v tv)])
    (hq : ∀ h' tk dx t1, (∀ b o, base.get? b = some o → h'.get? b = some o) → s.heap.objs.size ≤ dx → dx ≠ x → h'.get? x = some { cls := .ref C, dict := some dx, data := .fields #[.ref t1, .none, .none, .none, .bool false, .none] } →
      h'.Ns1 dx (fun y => if y = "part" then some (.str v tv) else none) → R (.ok (.ret .none)) { s with heap := h', toks := tk }) :
    codeAny (model P w) A (.call (.ref fI) args) R s := by
  have X : K.In s.heap := X0.keeps kb
  obtain ⟨msg, qual, p, oc, dV, kV, doc, pm, ct, ccl, cl, od, an, cdd, cld, osl, ccs, csl, cc, cda, vs, file, tf, pl, hpl, rfl, ho, hcd, hcda, hvs, hfile, hcell, hmsg⟩ := T.fn
  obtain ⟨nm, q, N, bs, bm, sn, sub, ab, col, dd, k0, k1, k2, k3, k5, hC, hbm⟩ := T.cls
  have hcl : clsIn K C = some { name := nm, bases := bs, mro := .ref C :: bm, ns := N, qualname := q, hasDict := true, slotNames := sn, subclasses := sub, abstract := ab, collection := col, hasDel := false } := by unfold clsIn; rw [hC] <;> rfl
  have hxC : x ≠ C := fun z => by
    have e := X _ _ hC
    rw [← z, hx] at e
    cases e
  refine ks_codeAny_call_defAt (body := iB msg p) (binds := [("self", .ref x), ("part", .str v tv)]) hroom (X _ _ ho) rfl hlim (codeRec_of X hcd) rfl hbind (show ∀ y ∈ iS.names, y.2 ≠ .cell by decide +kernel) (fun y hy => ?_) (fun h₁ hns k₁ => ?_)
  · rcases List.mem_cons.mp hy with rfl | hy
    · show iS.names.lookup ("self" : Str) = some .local
      decide +kernel
    · rcases List.mem_cons.mp hy with rfl | hy
      · show iS.names.lookup ("part" : Str) = some .local
        decide +kernel
      · cases hy
  have X₁ : K.In h₁ := X.keeps k₁
  have hD1 := X₁ _ _ hC
  have hx₁ := k₁ _ _ hx
  have hLx : s.heap.objs.size ≠ x := Nat.ne_of_gt (Heap.lt_size hx)
  refine ks_wpAt_execs_cons (ks_wpAt_Expr_any (ks_wpAt_MethodCall ?_ (hpl _)))
  refine ks_wpAt_super_base nmS nmC (by decide +kernel) rfl (X₁ _ _ ho) rfl (ar := { arg := "self", annotation := none, pos := p.a1 }) rfl rfl (X₁ _ _ hcda) rfl hvs hfile T.htop ?_
  refine ks_loadName_global rfl nmS (loadGlobal_builtin (hG.keeps k₁) T.gS (hB.keeps k₁) (hmb.trans (by decide +kernel)) ⟨rfl, ?_⟩)
  refine wpAny_loadName_free rfl nmC rfl ⟨_, X₁ _ _ hcell, rfl⟩ ?_
  refine wpAny_loadName_local rfl nmSelf hns (v := .ref x) lkSelf ?_
  refine ks_wpAny_isType_cls hD1 rfl ⟨rfl, ?_⟩
  refine ks_wpAny_call_super hD1 rfl hx₁ rfl (fun c e => nomatch e) (looks_mroIn X₁ T.mroC) (fun h₂ e₂ k₂ => ?_)
  have X₂ : K.In h₂ := X₁.keeps k₂
  have hx₂ := k₂ _ _ hx₁
  have I₂ : InstAt h₂ x (excO C t0) C none := ⟨hx₂, rfl, rfl, trivial⟩
  refine kxs_getMethod kxs_ValueError e₂ (looks_opaque X₂ T.opq) (l₀ := .ref C :: bm) ?mro rfl X₂ (by have := T.sup; unfold ks_superIn at this; rw [hcl] at this; exact this) (I₂.type.andThen (looks_subIn X₂ T.subV)) hxC (by decide +kernel) ?_
  case mro => exact fun A Q E s k q => wpAny_bind ((looks_clsIn X₂ hcl) A _ E s k (wpAny_pure q))
  have k₃ : ∀ b o, h₂.get? b = some o → (h₂.push (kxs_mw "ValueError.__init__" x)).get? b = some o := fun b o e => Heap.get?_push_of_some _ e
  have hu : (h₂.push (kxs_mw "ValueError.__init__" x)).get? h₂.objs.size = some (kxs_mw "ValueError.__init__" x) := Heap.get?_push_size _ rfl
  generalize hh₃ : h₂.push (kxs_mw "ValueError.__init__" x) = h₃ at k₃ hu
  have hns₃ := (hns.keeps k₂).keeps k₃
  have X₃ : K.In h₃ := X₂.keeps k₃
  have hx₃ := k₃ _ _ hx₂
  have e0 : (Str.empty ++ msg).length = msg.length := by rw [Str.length_append]; show 0 + _ = _; omega
  have l1 : (Str.empty ++ msg).length ≤ sizeLine := by rw [e0, sizeLine_eq]; omega
  have l2 : (Str.empty ++ msg ++ v).length ≤ sizeLine := by rw [Str.length_append, e0, sizeLine_eq]; omega
  have hvz : v.length ≤ sizeLine := by rw [sizeLine_eq]; omega
  refine kxs_callWith (i := "ValueError.__init__") (x := x) rfl (evalArgs_plain ?_)
  refine Calls.spliced_cons (wpAny_JoinedStr (pos := p.p6) ?_)
  refine Calls.Constant_str ⟨msg, _, rfl, l1, ?_⟩
  refine wpAny_FormattedValue_plain (wpAny_Name (wpAny_loadName_local rfl nmPart hns₃ lkPart ?_) (by decide))
  refine wpAny_formatField_str (x := v) ?_ ?_ hvz
  all_goals
    refine ⟨v, _, rfl, l2, l2, ?_⟩
    refine Calls.spliced_nil ⟨hu, ?_⟩
    have hL₃ : ∀ b o, base.get? b = some o → h₃.get? b = some o := fun b o e => k₃ b o (k₂ b o (k₁ b o (kb b o e)))
    have lt₁ : s.heap.objs.size < h₂.objs.size := by
      obtain ⟨oL, _, _, eL, _⟩ := hns.keeps k₂
      exact Heap.lt_size eL
    have uL : h₂.objs.size ≠ s.heap.objs.size := Nat.ne_of_gt lt₁
    have ux : h₂.objs.size ≠ x := Nat.ne_of_gt (Heap.lt_size hx₂)
    have ub : base.get? h₂.objs.size = none := by
      cases e : base.get? h₂.objs.size with
      | none => rfl
      | some o => exact absurd (Nat.lt_of_lt_of_le (Heap.lt_size e) zb) (Nat.not_lt.mpr (Nat.le_of_lt lt₁))
    refine super_called (t0 := t0) X0 hL₃ zb hns₃ hx₃ hu xb ub (Ne.symm hLx) uL ux (made_in hC hbm) (by rw [sizeLine_eq]; show 1 ≤ 16777216; decide) fun h₄ t1 hns₄ k₄ hx₄ => ?_
    have X₄ : K.In h₄ := X0.keeps k₄
    show PySem.wpAt _ _ _ (execs _ _) _ _ _
    refine ks_wpAt_execs_cons (ks_wpAt_Assign_Attr (wpAt_of_wpAny (wpAny_Name (wpAny_loadName_local rfl nmPart hns₄ lkPart ?_) (by decide))))
    refine wpAny_Name (wpAny_loadName_local rfl nmSelf hns₄ lkSelf ?_) (by decide)
    refine set_plain X₄ (ox := excO C t1) (od := none) ⟨hx₄, rfl, rfl, trivial⟩ T.sa ?_
    refine exc_osa X₄ hx₄ hcl (show refsVE (.ref C :: bm) = true from hbm) rfl T.noP (fun h₅ tk₅ dx k₅ dn dne hx₅ hn₅ => ?_)
    show PySem.wpAt _ _ _ (execs _ _) _ _ _
    refine wpAt_of_wpAny (wpAny_execs_nil ?_)
    have z1 : s.heap.objs.size ≤ h₄.objs.size := by
      obtain ⟨o, es, ep, e, _⟩ := hns₄
      exact Nat.le_of_lt (Heap.lt_size e)
    exact hq h₅ _ dx t1 (fun b o e => k₅ b o (fun z => by rw [z, xb] at e; cases e) (k₄ b o e)) (Nat.le_trans z1 dn) dne hx₅ hn₅
end
end VX

namespace VX
open PySem PySem.W PySem.Calls PyProof.Rows PySem.HandSPX
/-- Bad(part), made -/
theorem bad_made {P : Program} {w : World} {A : Around} {R : Result → Shared → Prop} {s : Shared} {K : Frag} {mg : Str → Option Value} {C fI : Addr} {fd : FuncData} (T : BadTxt P K mg C fI fd)
    {v : Str} {tv : Tok} {mb : Str → Option Value} (X : K.In s.heap) (hlim : s.heap.NoLimit) (hG : s.heap.Ns mainGlobals mg) (hB : s.heap.Ns builtinsNs mb) (hmb : mb "super" = bootBuiltins "super")
    (hv : v.length ≤ 1000) (hroom : A.depth + 1 < recursionLimit) (hbind : ∀ (s : Shared) (a : Addr), K.In s.heap → BindsTo s fd ⟨[.ref a, .str v tv], []⟩ [("self", .ref a), ("part", .str v tv)])
    (hq : ∀ h' tk e dx fv, (∀ b o, s.heap.get? b = some o → h'.get? b = some o) → s.heap.objs.size ≤ e → s.heap.objs.size ≤ dx → dx ≠ e → h'.get? e = some { cls := .ref C, dict := some dx, data := .fields fv } → fv[1]? = some .none →
      h'.Ns1 dx (fun y => if y = "part" then some (.str v tv) else none) → R (.ok (.ret (.ref e))) { s with heap := h', toks := tk }) :
    codeAny (model P w) A (.call (.ref C) ⟨[.str v tv], []⟩) R s := by
  obtain ⟨nm, q, N, bs, bm, sn, sub, ab, col, dd, k0, k1, k2, k3, k5, hC, hbm⟩ := T.cls
  obtain ⟨hp, g, dr, tk, os⟩ := s
  have k : ∀ b o, hp.get? b = some o → ((hp.push (kdv_tup [.str v tv])).push (excO C hp.objs.size)).get? b = some o := fun b o e => Heap.get?_push_of_some _ (Heap.get?_push_of_some _ e)
  have hget : ((hp.push (kdv_tup [.str v tv])).push (excO C hp.objs.size)).get? (hp.objs.size + 1) = some (excO C hp.objs.size) := by heap_get
  have xb : hp.get? (hp.objs.size + 1) = none := by
    cases e : hp.get? (hp.objs.size + 1) with
    | none => rfl
    | some o => exact absurd (Nat.lt_trans (Nat.lt_succ_self _) (Heap.lt_size e)) (Nat.lt_irrefl _)
  refine call_own F.excBase_ValueError (fun X => refsVE_contains X bm hbm) (X _ _ hC) (looks_findIn X T.iC) (fun self => bind_fn X self T.tI) (by rw [sizeLine_eq]; show 1 ≤ 16777216; decide) ?_
  refine bad_init (s := ⟨(hp.push (kdv_tup [.str v tv])).push (excO C hp.objs.size), g, dr, tk, os⟩) T X k xb ?_ (hlim.keeps k) (hG.keeps k) (hB.keeps k) hmb hget hv ?_ (hbind _ _ (X.keeps k)) fun h' tk' dx t1 k' dn dne hx hns => ?_
  · show hp.objs.size ≤ ((hp.push _).push _).objs.size
    rw [Heap.size_push, Heap.size_push]
    omega
  · exact hroom
  · have dn' : hp.objs.size ≤ dx := by
      refine Nat.le_trans ?_ dn
      show hp.objs.size ≤ ((hp.push _).push _).objs.size
      rw [Heap.size_push, Heap.size_push]
      omega
    exact ⟨rfl, hq h' tk' (hp.objs.size + 1) dx _ k' (Nat.le_succ _) dn' dne hx rfl hns⟩
end VX
namespace VL
open PySem PySem.Spec
open PyProof.Rows L2
open Evl (Ex sz_of)
theorem lkp {v : V} : List.lookup ("part" : Str) [(("part" : Str), v)] = some v := by
  rw [List.lookup_cons, show (("part" : Str) == "part") = true by decide +kernel]
theorem relO_part {v : V} {u : Value} (r : RelV v u) (f : Str) : RelO (List.lookup f [(("part" : Str), v)]) (if f = "part" then some u else none) := by
  by_cases e : f = "part"
  · subst e
    rw [if_pos rfl, lkp]
    exact r
  · rw [if_neg e, List.lookup_cons, show (f == ("part" : Str)) = false from beq_eq_false_iff_ne.mpr e]
    trivial
section
variable {X : Cx} {C fI : Addr} {fd : FuncData}
/-- Bad(e): a new dict d holds the part -/
def tMkBad (C : Addr) (ta : TA) : L2.St → Hp → XK → Prop := fun σ H Q => ta σ H fun vs H1 => ∃ v : Str, vs = [.str v] ∧ v.length ≤ 1000 ∧ ∀ d, H1 d = none → Q (.ref C) (some d) (upd H1 d (.xd [(("part" : Str), .str v)]))
theorem pmk_bad {a : Expr} {ta : TA} {x : Str} {p pos : Pos} {k : Nat} (T : VX.BadTxt X.prog X.K X.mg C fI fd) (hbind : ∀ (s : Shared) (a : Addr) (u : Value), X.K.In s.heap → BindsTo s fd ⟨[.ref a, u], []⟩ [("self", .ref a), ("part", u)])
    (hr : Room k X.A) (hm : X.mg x = some (.ref C)) (ha : PA X [a] ta) (hg : Gl X x := by rfl) (hdb : (x == ("__debug__" : Str)) = false := by decide)
    (he : starEach (a :: []) X.env = (false, eval a X.env) :: starEach [] X.env := by rfl) (hpl : (backTo pos (starEach [] X.env)).any (·.1) = false := by rfl) :
    PMk X (.Call (.Name x p) [a] [] pos) (tMkBad C ta) := by
  intro pins s σ H Q I h
  refine wpAny_Call_Name_kw (ld_glob I hg hm ?_ hdb)
  refine PySem.W.callWith_K (h₀ := X.base) I.ok.mod.kin T.kC (thn (ha.run pos pins s σ H _ I h) fun us s1 hh => ?_) he hpl
  obtain ⟨vs, H1, I1, r1, v, ev, hv, q1⟩ := hh
  subst ev
  refine ⟨I1.kIn, ?_⟩
  obtain ⟨u, rfl, tv, rfl⟩ := vals1 r1
  show wpAny _ _ (call (.ref C) [.str v tv]) _ _ _
  have hlim := I1.nolimit
  have hG := I1.mod.glob.keeps I1.bk
  obtain ⟨mb, h1, h2⟩ := I1.mod.blt
  have hB := h1.keeps I1.bk
  obtain ⟨hp, g, dr, tk, os⟩ := s1
  refine wpAny_call (VX.bad_made T I1.kIn hlim hG hB (h2 _ (by decide)) hv (by have := hr.dp; omega) (fun s a hk => hbind s a _ hk) fun h' tk' e d fv keep ebig dbig dne hoe h1 hns => ?_)
  show MkP X pins σ Q (.ref e) ⟨h', g, dr, tk', os⟩
  obtain ⟨G', g1, g2⟩ := restrict h' fun b => decide (b ≠ e)
  have gk : ∀ b, b ≠ e → G'.get? b = h'.get? b := fun b hb => g1 b (decide_eq_true hb)
  have ge : G'.get? e = none := g2 e (by simp)
  have old : ∀ b o, hp.get? b = some o → G'.get? b = some o := fun b o q => (gk b (Nat.ne_of_lt (Nat.lt_of_lt_of_le (Heap.lt_size q) ebig))).trans (keep b o q)
  have ob : ObjOk X.prog X.w (upd H1 d (.xd [(("part" : Str), .str v)])) G' d (.xd [(("part" : Str), .str v)]) :=
    ⟨_, hns.at (fun o q => (gk d dne).trans q), fun f => relO_part (v := .str v) (u := .str v tv) ⟨tv, rfl⟩ f⟩
  have J : Inv X pins σ (upd H1 d (.xd [(("part" : Str), .str v)])) ⟨G', g, dr, tk', os⟩ := I1.laid (t' := tk') old dbig ob
  refine ⟨e, _, fv, ⟨G', g, dr, tk', os⟩, _, .ref C, some d, rfl, J, fun b o q => ?_, ge, hoe, ⟨rfl, rfl⟩, rfl, h1, ?_, rfl, I1.bare, raises_own T.exC T.tyC, q1 d (I1.hok.fresh dbig)⟩
  · by_cases hb : b = e
    · have q' : G'.get? b = some o := q
      rw [hb, ge] at q'
      cases q'
    · exact (gk b hb).symm.trans q
  · rw [upd_ne (Ne.symm dne)]
    exact I1.hok.fresh ebig
end
end VL

namespace VL
open PySem PySem.Spec
open PyProof.Rows L2
open Evl (Ex sz_of)
/-! ### defs that raise -/
section
variable {P : Program} {w : World} {K : PySem.W.Frag} {mg : Str → Option Value} {base : Heap} {cl : Nat → Addr}
/-- the promise of a def that may raise; how its arguments bind is told apart -/
structure OkX (P : Program) (w : World) (K : PySem.W.Frag) (mg : Str → Option Value) (base : Heap) (k : Nat) (f : Addr) (fd : FuncData) (ps : List Str) (sp : Sp) : Prop where
  ok : FnOk P w K mg base (L2.CX P w) k f fd ps sp
theorem okx {x qual : Str} {st : Stmt} {f : Addr} {fd : FuncData} {Ns ps : List Str} {k np : Nat} {m : MS} (Fu : Fun K x qual st f fd) (S : FnScope Ns ps (defScope st)) (hp : ps.length = np) (hN : np ≤ Ns.length)
    (hbody : ∀ (cdv : Value) (A : Around) (outer : List Env) (s : Shared) (H : Hp) (E : XK), Room k (A.deeper (envOfC qual (defScope st) s.heap.objs.size f cdv)) →
      ∃ t, PSs (cxOf (L2.CX P w) P w K mg base Ns qual (defScope st) f cdv A outer s H E) (defBody st) t ∧ SemS ⟨K, cl⟩ E t m) : FnOk P w K mg base (L2.CX P w) (k + 1) f fd ps (spF ⟨K, cl⟩ (mFn np Ns.length m) np) := by
  refine Fu.okX S (fun vs H Q E h => ?_) (fun cdv A outer s H vs Q E hr h => ?_)
  · exact h.1.trans hp.symm
  · obtain ⟨hv, F, os, α, S0, h⟩ := h
    obtain ⟨t, ht, hm⟩ := hbody cdv A outer s H E hr
    refine ⟨t, ht, ?_⟩
    have e : L2.start Ns vs = vs.map some ++ List.replicate (Ns.length - np) none := by
      unfold L2.start
      rw [hv]
    rw [e]
    exact body_run (Q := Q) hm S0 hv (np := np) (N := Ns.length) h
end
section
variable {G : Cn} {E : XK} {F F1 H H1 : Hp} {σ : L2.St} {ρ ρ1 : Rho} {α α1 : Al} {ta : TA} {ma : MA}
def sRaise (c : Nat) (ms : MA) : MS := fun _ ρ => bnd (ms ρ) fun ais ρ1 => match dsOnly ais with
  | some [.str v] => if v.length ≤ 1000 then some (.ex c (some [("part", .str v)]), ρ1) else none
  | _ => none
theorem semS_raise {c : Nat} (ha : SemA G E ta ma) : SemS G E (fun _ σ H => tMkBad (G.cls c) ta σ H fun cls d H' => E cls d H') (sRaise c ma) := ⟨fun {F H σ ρ α D pins} S h =>
  ha.run S (PostA.to h fun xs ρ1 vs F1 H1 α1 S1 r1 T1 N1 h1 => by
    split at h1
    · rename_i v e
      split at h1
      · rename_i hv
        have q := dsOnly_r r1 e
        obtain ⟨u, w, rfl, ru, rw'⟩ := q.of_cons
        obtain rfl := rw'.of_nil
        have eu : u = .str v := by unfold Rep at ru; exact ru
        subst eu
        refine ⟨v, rfl, hv, fun d hd => ?_⟩
        have T : Stp (Own α) F H F1 (upd H1 d (.xd [(("part" : Str), .str v)])) := T1.trans (Ste.putStp hd) N1
        refine h1 F1 _ d _ T upd_same ?_
        unfold RepsF
        exact ⟨.str v, [], rfl, Rep.ofStr, RepsF.nil⟩
      · exact h1.elim
    · exact h1.elim)⟩
end
theorem ps_raiseBad {X : Cx} {C fI : Addr} {fd : FuncData} {a : Expr} {ta : TA} {x : Str} {p pos pos2 : Pos} {k : Nat} {W : WX} (hc : X.calm = true) (tk : Takes X W) (T : VX.BadTxt X.prog X.K X.mg C fI fd)
    (hbind : ∀ (s : Shared) (a : Addr) (u : Value), X.K.In s.heap → BindsTo s fd ⟨[.ref a, u], []⟩ [("self", .ref a), ("part", u)]) (hr : Room k X.A) (hm : X.mg x = some (.ref C)) (ha : PA X [a] ta) (hg : Gl X x := by rfl) (hdb : (x == ("__debug__" : Str)) = false := by decide)
    (he : starEach (a :: []) X.env = (false, eval a X.env) :: starEach [] X.env := by rfl) (hpl : (backTo pos (starEach [] X.env)).any (·.1) = false := by rfl) :
    PS X (.Raise (some (.Call (.Name x p) [a] [] pos)) none pos2) (fun _ σ H => tMkBad C ta σ H fun cls d H' => W cls d σ H') := ps_raise hc tk (pmk_bad T hbind hr hm ha hg hdb he hpl)
end VL
namespace VL
/-- the built-in kinds: none is of an own class -/
def kitO : List (String × Bool) := [("NoneType", false), ("bool", false), ("int", false), ("str", false), ("tuple", false), ("list", false), ("dict", false)]
end VL

namespace VL
open PySem PySem.Spec
open PyProof.Rows L2
open Evl (Ex sz_of)
/-! ### a try whose clause tells the part -/
structure ExcK (K : PySem.W.Frag) (D : Addr) : Prop where
  cl : (PySem.W.clsIn K D).isSome = true
  ga : PySem.W.findIn K (.ref D) "__getattribute__" = some (some (.builtin "BaseException.__getattribute__"))
  gt : PySem.W.findIn K (.ref D) "__getattr__" = some none
  sb : PySem.W.subIn K (.ref D) (.type "BaseException") = some true
  ca : PySem.W.findIn K (.ref D) "__class__" = some (some (.builtin "object.__class__"))
  sp : PySem.W.specialIn K (.builtin "object.__class__") "__get__" = some (some (.builtin "getset_descriptor.__get__"))
  tk : PySem.W.takesIn K (.builtin "object.__class__") = some true
  mo : PySem.W.mroIn K D (.type "object") = some true
  hdct : PySem.W.hasDictIn K D = true
  np : PySem.W.findIn K (.ref D) "part" = some none
section
variable {X : Cx} {a D : Addr} {oe : Obj} {cls : Value} {d : Option Addr} {pn : List (Addr × Obj)}
theorem inst_at {pins : List (Addr × Obj)} {σ : L2.St} {H : Hp} {s : Shared} {dd : Addr} {fs : List (Str × V)} (I : Inv (X.suite a ((a, oe) :: pn)) pins σ H s) (hz : Zc (.ref D) (some dd) oe) (hf : ∃ vs, oe.data = .fields vs) (hx : H dd = some (.xd fs)) :
    ∃ mA od, s.heap.Ns1 dd mA ∧ (∀ f, RelO (fs.lookup f) (mA f)) ∧ (∀ name, PySem.W.lookIn name od = some (mA name)) ∧ PySem.W.InstAt s.heap a oe D (some od) := by
  obtain ⟨ha, _⟩ := I.pin (a, oe) (List.mem_append_left _ List.mem_cons_self)
  obtain ⟨vs, hd⟩ := hf
  have hx' : ObjOk X.prog X.w H s.heap dd (.xd fs) := I.hok dd _ hx
  obtain ⟨mA, hns, hr⟩ := hx'
  obtain ⟨od, at0, lk⟩ := lookIn_ns hns
  exact ⟨mA, od, hns, hr, lk, ha, hz.1, by unfold PySem.W.notCls; rw [hd] <;> rfl, by rw [hz.2]; exact at0⟩
def rIsX (K : PySem.W.Frag) (D a : Addr) (cls : Value) (d : Option Addr) : List V → Hp → VK → Prop := fun xs H Q => ∃ (c : V) (cv : Value) (b : Bool) (dd : Addr) (fs : List (Str × V)),
  xs = [.ref a, c] ∧ cls = .ref D ∧ d = some dd ∧ H dd = some (.xd fs) ∧ (∀ u, RelV c u → u = cv) ∧ PySem.W.kitOne K (.ref D) cv = some b ∧ Q (.bl b) H
theorem call_isX (C : ExcK X.K D) (hz : Zc cls d oe) (hf : ∃ vs, oe.data = .fields vs) : CallR (X.suite a ((a, oe) :: pn)) (.builtin "isinstance") (rIsX X.K D a cls d) := by
  intro pns s σ H xs us Q inv r got
  obtain ⟨c, cv, b, dd, fs, rfl, rfl, rfl, hx, hcv, e, q⟩ := got
  obtain ⟨u, u', rfl, ru, ru'⟩ := vals2 r
  cases ru
  have ec := hcv _ ru'
  subst ec
  obtain ⟨mA, od, hns, hr, hl, J⟩ := inst_at inv hz hf hx
  exact PySem.W.kia_one (PySem.W.kitx_exc C.cl C.ga C.gt C.sb C.ca C.sp C.tk C.mo) inv.kIn J e (fun z => nomatch z) fun tk => ⟨.bl b, H, inv.kept (t' := tk) fun _ _ z => z, rfl, q⟩
def tPartX (D a : Addr) (cls : Value) (d : Option Addr) (te : TE) : TE := fun σ H Q => te σ H fun x H1 => x = .ref a ∧ cls = .ref D ∧ ∃ (dd : Addr) (v : V), d = some dd ∧ H1 dd = some (.xd [(("part" : Str), v)]) ∧ Q v H1
theorem pe_partX {e : Expr} {te : TE} {pos : Pos} (C : ExcK X.K D) (hz : Zc cls d oe) (hf : ∃ vs, oe.data = .fields vs) (he : PE (X.suite a ((a, oe) :: pn)) e te) (hb : attributeBase e "part" X.env (eval e X.env) = eval e X.env := by rfl) :
    PE (X.suite a ((a, oe) :: pn)) (.Attribute e "part" pos) (tPartX D a cls d te) := by
  constructor
  intro pns s σ H Q inv got
  have ev := he.run pns s σ H _ inv got
  refine attr_of hb (thn ev fun u s1 hh => ?_)
  obtain ⟨x, H1, I1, rx, ex, ec, dd, v, ed, ea, q⟩ := hh
  subst ex ec ed
  have eu : u = Value.ref a := rx
  subst eu
  obtain ⟨mA, od, hns, hr, hl, J⟩ := inst_at I1 hz hf ea
  obtain ⟨u, hu, ru⟩ := RelO.some_of (v := v) (o := mA "part") (by rw [← lkp (v := v)]; exact hr "part")
  exact HandSPX.exc_get I1.kIn J C.ga C.gt C.sb (PySem.W.findObj_own C.hdct C.np rfl (by rw [hl, hu])) (handed_of ru) ⟨v, H1, I1.tok _, ru, q⟩
end
/-- return error.part if isinstance(error, ..) and isinstance(error, ..) else s -/
def tSuite (K : PySem.W.Frag) (D : Addr) (i : Nat) (c1 c2 : V) (z : Str) (a : Addr) (cls : Value) (d : Option Addr) : TS :=
  tRet (tIf (tAnd (tB (tCB (rIsX K D a cls d) (tCons (tVar i) (tCons (tC c1) tNil)))) (tB (tCB (rIsX K D a cls d) (tCons (tVar i) (tCons (tC c2) tNil))))) (tPartX D a cls d (tVar i)) (tC (.str z)))
def tTry (K : PySem.W.Frag) (D : Addr) (i n : Nat) (c1 c2 : V) (z : Str) (mk : XK → TE) : TS := fun Dn σ H =>
  tDrop (mk fun cls d H' => ∀ σ' : L2.St, σ'.length = n → wAs K (.ref D) i (tSuite K D i c1 c2 z) (fun _ _ _ _ => False) Dn cls d σ' H') Dn σ H
def allVal (ρ : Rho) : Bool := ρ.all fun o => match o with | none => true | some (.val _) => true | _ => false
def sTry (c : Nat) (mk : M) : MS := fun _ ρ => match mk ρ with
  | some (.ok _, ρ1) => some (.ok .nx, ρ1)
  | some (.ex c' (some [(f, .str v)]), _) => if c' = c ∧ f = "part" ∧ allVal ρ = true then some (.ok (.ret (.val (.str v))), ρ) else none
  | _ => none
section
variable {G : Cn} {E : XK} {F F1 H H1 : Hp} {σ : L2.St} {ρ ρ1 : Rho} {α α1 : Al}
theorem allVal_own (h : allVal ρ = true) (S : Ste G F H σ ρ α) : ∀ a, ¬ Own α a := fun a ⟨i, ha⟩ => by
  cases e : ρ[i]? with
  | none => rw [S.off i fun o z => by rw [e] at z; cases z] at ha; cases ha
  | some x =>
    cases x with
    | none => rw [S.off i fun o z => by rw [e] at z; cases z] at ha; cases ha
    | some o =>
      obtain ⟨v, _, r⟩ := S.slot i o e
      have hm := List.all_eq_true.mp h _ (List.mem_of_getElem? e)
      cases o with
      | val d => rw [r.1] at ha; cases ha
      | _ => cases hm
theorem semS_try {c i n : Nat} {c1 c2 : V} {u1 u2 : Value} {z : Str} {mk : M} {tmk : XK → TE} (hi : i < n) (hm : ∀ E, Sem G E (tmk E) mk) (hx : PySem.W.exmOne G.K (.ref (G.cls c)) (.ref (G.cls c)) = some true)
    (h1 : ∀ u, RelV c1 u → u = u1) (h2 : ∀ u, RelV c2 u → u = u2) (k1 : PySem.W.kitOne G.K (.ref (G.cls c)) u1 = some true) (k2 : PySem.W.kitOne G.K (.ref (G.cls c)) u2 = some true) :
    SemS G E (tTry G.K (G.cls c) i n c1 c2 z tmk) (sTry c mk) := ⟨fun {F H σ ρ α D pins} S h => by
  refine (hm _).run S ?_
  unfold sTry at h
  split at h
  · rename_i o ρ1 e
    rw [e]
    exact fun v F' H' α' β S' R' T' M' N' => h σ F' H' α' S' T' (fun a z => N' a (.inl z)) .refl
  · rename_i c' f v ρ1 e
    rw [e]
    split at h
    · rename_i hc
      obtain ⟨rfl, rfl, hv⟩ := hc
      have no := allVal_own hv S
      intro F' H' dd fvs T' hd hr σ' hl
      have hr' : ∃ (w : V) (r : List (Str × V)), fvs = (("part" : Str), w) :: r ∧ Rep G F' w (.str v) ∧ RepsF G F' r [] := by unfold RepsF at hr; exact hr
      obtain ⟨w, r, rfl, rw', rr⟩ := hr'
      have er : r = [] := by unfold RepsF at rr; exact rr
      have ew : w = .str v := by unfold Rep at rw'; exact rw'
      subst er ew
      refine ⟨true, hx, fun _ a0 ha0 => ?_, fun q => nomatch q⟩
      have hs : (σ'.set i (some (V.ref a0)))[i]? = some (some (V.ref a0)) := List.getElem?_set_self (by omega)
      refine ⟨_, hs, c1, u1, true, dd, _, rfl, rfl, rfl, hd, h1, k1, true, rfl, iteT ⟨_, hs, c2, u2, true, dd, _, rfl, rfl, rfl, hd, h2, k2, true, rfl, iteT ⟨_, hs, rfl, rfl, dd, _, rfl, hd, ?_⟩⟩⟩
      have eH : Ex H H' := fun b o e => T'.keep b o e (no b)
      exact h (.str v) σ F H' α [] (S.grow (Ex.refl F) eH (fun _ _ z => .inl z) (S.ex.trans eH)) ⟨rfl, Rep.ofStr⟩ ⟨Ex.refl F, fun b o e _ => eH b o e, fun b o e => .inl e⟩ (fun _ z => nomatch z) (fun a z => z.elim .inl fun z => nomatch z) .refl
    · exact h.elim
  · exact h.elim⟩
end
end VL
namespace VL
open PySem PySem.Spec
open PyProof.Rows L2
open Evl (Ex sz_of)
theorem passLen {X : Cx} {W : WX} (tk : Takes X W) : Passes (L2.CX X.prog X.w) X (fun cls d H' => ∀ σ' : L2.St, σ'.length = X.N.length → W cls d σ' H') :=
  fun pins σ H s e s' I c => tk e s' (XE.of_call I (fun cls d H' h => h σ I.len) c)
end VL

namespace VL
open PySem PySem.Spec
open PyProof.Rows L2
open Evl (Ex sz_of)
/-! ### a, b = x, y -/
def sPar (i j : Nat) (a : MA) : MS := fun pins ρ => bnd (a ρ) fun ais ρ1 => match dsOnly ais with
  | some [x, y] => (setV pins i (.val x) ρ1).bind fun ρ2 => (setV pins j (.val y) ρ2).map fun ρ3 => (.ok .nx, ρ3)
  | _ => none
section
variable {G : Cn} {E : XK} {F F1 H H1 : Hp} {σ : L2.St} {ρ ρ1 : Rho} {α α1 : Al}
theorem Ste.setD {i : Nat} {d : D} {v : V} (S : Ste G F H σ ρ α) (r : Rep G F v d) (hi : i < ρ.length) : Ste G F H (σ.set i (some v)) (ρ.set i (some (.val d))) (Al.set α i []) :=
  S.store (o := .val d) (β := []) ⟨rfl, r⟩ (fun _ _ a ha => nomatch ha) hi
theorem semS_par {i j : Nat} {ta : TA} {ma : MA} (ha : SemA G E ta ma) : SemS G E (tPar i j ta) (sPar i j ma) := ⟨fun {F H σ ρ α D pins} S h =>
  ha.run S (PostA.to h fun xs ρ1 vs F1 H1 α1 S1 r1 T1 N1 h1 => by
    split at h1
    · rename_i x y e
      have q := dsOnly_r r1 e
      obtain ⟨v, r, rfl, rx, q⟩ := q.of_cons
      obtain ⟨u, r, rfl, ry, q⟩ := q.of_cons
      obtain rfl := q.of_nil
      cases e1 : setV pins i (.val x) ρ1 with
      | none => rw [e1] at h1; exact h1.elim
      | some ρ2 =>
        rw [e1] at h1
        try dsimp only [Option.bind] at h1
        cases e2 : setV pins j (.val y) ρ2 with
        | none => rw [e2] at h1; exact h1.elim
        | some ρ3 =>
          rw [e2] at h1
          obtain ⟨n1, l1, rfl⟩ := setV_some e1
          obtain ⟨n2, l2, rfl⟩ := setV_some e2
          refine ⟨v, u, rfl, ?_⟩
          refine h1 _ F1 H1 _ ((S1.setD rx l1).setD ry l2) T1 (fun a z => ?_) ((Pin.set n1).trans (Pin.set n2))
          rcases Al.own_set z with z | z
          · rcases Al.own_set z with z | z
            · exact N1 a z
            · cases z
          · cases z
    · exact h1.elim)⟩
end
end VL
namespace VL
open PySem PySem.Spec
open PyProof.Rows L2
open Evl (Ex sz_of)
/-- the law's def asked with the script -/
theorem script_in {K : PySem.W.Frag} {cl : Nat → Addr} {H : Hp} {Q : VK} {E : XK} {fn : Fn} {a : Addr} {ns : List Int} (e : fn [.val (.scr ns)] = some (.ok (.val (.bl true)), [.val (.scr ns)])) (hS : SqL K H a (ns.map V.int)) (kQ : ∀ H', Q (.bl true) H') :
    spF ⟨K, cl⟩ fn 1 [.ref a] H Q E := by
  refine ⟨rfl, fun b => if b = a then H b else none, [.val (.scr ns)], fun _ => [], ⟨fun b o h => ?_, rfl, fun i o h => ?_, fun _ _ => rfl, fun _ _ _ _ h => nomatch h⟩, ?_⟩
  · have h' : (if b = a then H b else none) = some o := h
    split at h'
    · exact h'
    · cases h'
  · cases i with
    | zero =>
      have : O.val (.scr ns) = o := by simpa using h
      subst this
      refine ⟨.ref a, rfl, rfl, ?_⟩
      unfold Rep
      refine ⟨a, rfl, ?_⟩
      rcases hS with h1 | h1
      · rcases h1 with h1 | h1
        · exact .inl (.inl (by show (if a = a then H a else none) = _; rw [if_pos rfl]; exact h1))
        · obtain ⟨o, h1⟩ := h1
          exact .inl (.inr ⟨o, by show (if a = a then H a else none) = _; rw [if_pos rfl]; exact h1⟩)
      · exact .inr h1
    | succ i => simp at h
  · rw [e]
    exact fun v F' H' α' β S r T M N => by
      obtain ⟨_, r⟩ := r
      have : v = .bl true := by unfold Rep at r; exact r
      subst this
      exact kQ H'
end VL

namespace VL
open PySem PySem.Spec
open PyProof.Rows L2
open Evl (Ex sz_of)

/-! ### zip of two sources, walked: by the library's GoesN.zip2 -/
/-- the zip's own cells, from N on -/
def zCells (N : Addr) : List Addr := [N + 4, N + 2, N + 3, N, N + 1]
def zAt (S S' : Src) (n : Nat) (N : Addr) (i : Nat) (h : Heap) : Prop :=
  (IsZip h (N + 4) (N + 2) (N + 3) .none ∧ IsTupOf2 h (N + 2) (.ref N) (.ref (N + 1)) ∧ ∃ a b, IsTupOf2 h (N + 3) a b) ∧ (S.ci N i h ∧ S'.ci (N + 1) i h) ∧ i ≤ n
theorem zAt.move {S S' : Src} {n i : Nat} {N : Addr} {h h' : Heap} (z : zAt S S' n N i h) (k : ∀ b ∈ zCells N, ∀ o, h.get? b = some o → h'.get? b = some o) : zAt S S' n N i h' := by
  obtain ⟨⟨z1, z2, a, b, z3⟩, ⟨z4, z5⟩, z6⟩ := z
  have m : ∀ c, c ∈ zCells N → ∀ o, h.get? c = some o → h'.get? c = some o := k
  exact ⟨⟨m _ (by simp [zCells]) _ z1, m _ (by simp [zCells]) _ z2, a, b, m _ (by simp [zCells]) _ z3⟩, ⟨S.mov h h' _ i z4 (m _ (by simp [zCells])), S'.mov h h' _ i z5 (m _ (by simp [zCells]))⟩, z6⟩
theorem zAt.lives {S S' : Src} {n i : Nat} {N : Addr} {h : Heap} (z : zAt S S' n N i h) : ∀ b ∈ zCells N, ∃ o, h.get? b = some o ∧ ∀ v, o.data ≠ .cell v := by
  obtain ⟨⟨z1, z2, a, b, z3⟩, ⟨z4, z5⟩, _⟩ := z
  intro c hc
  simp only [zCells, List.mem_cons, List.not_mem_nil, or_false] at hc
  rcases hc with q | q | q | q | q <;> subst q
  · exact ⟨_, z1, fun _ x => nomatch x⟩
  · exact ⟨_, z2, fun _ x => nomatch x⟩
  · exact ⟨_, z3, fun _ x => nomatch x⟩
  · exact S.liv _ _ _ z4
  · exact S'.liv _ _ _ z5
section
variable {X : Cx} {elts : List Expr} {kk : Nat} {tpos : Pos} {S S' : Src} {u u' : Value} {xs ys : List V} {Gd : Hp → Prop} {N : Addr}
/-- what the library tells of such a walk, in this heap -/
theorem zWalk {pins : List (Addr × Obj)} {σ : L2.St} {H : Hp} {s : Shared} (f : SrcIn X S u xs Gd) (f' : SrcIn X S' u' ys Gd) (lt : ∀ b ∈ S.ex, b < N) (lt' : ∀ b ∈ S'.ex, b < N) (hc : X.calm = true) (I : Inv X pins σ H s) (g : Gd H) :
    ∃ c c' : Heap → Prop, c s.heap ∧ c' s.heap ∧ GoesN X.prog X.w X.A (.Tuple elts kk tpos) (N + 4) ((N + 4) :: (N + 2) :: (N + 3) :: ((N :: S.ex) ++ ((N + 1) :: S'.ex))) [N + 4, N + 3, N, N + 1] (min xs.length ys.length)
      (fun i h₀ v h => ∃ T x y, v = .ref T ∧ h₀.objs.size ≤ T ∧ (∃ d, xs[i]? = some d ∧ RelV d x) ∧ (∃ d, ys[i]? = some d ∧ RelV d y) ∧ h.IsTuple T #[x, y])
      (fun i h => IsZip h (N + 4) (N + 2) (N + 3) .none ∧ IsTupOf2 h (N + 2) (.ref N) (.ref (N + 1)) ∧ (∃ a b, IsTupOf2 h (N + 3) a b) ∧ (S.ci N i h ∧ c h) ∧ (S'.ci (N + 1) i h ∧ c' h)) := by
  obtain ⟨c, hp, _, _, dr⟩ := f pins σ H s I g
  obtain ⟨c', hp', _, _, dr'⟩ := f' pins σ H s I g
  have hd : X.A.in1.handled = none := I.ok.hd hc
  have n1 : N ∉ S.ex := fun z => absurd (lt N z) (Nat.lt_irrefl _)
  have n2 : N + 1 ∉ S'.ex := fun z => absurd (lt' _ z) (Nat.not_lt.mpr (Nat.le_succ N))
  exact ⟨c, c', hp, hp', GoesN.zip2 (zip_sep2 lt lt') (dr X.A.in1 N hd n1) (dr' X.A.in1 (N + 1) hd n2)⟩
end
theorem turn_zipV {P : Program} {w : World} {K : PySem.W.Frag} {elts : List Expr} {kk : Nat} {tpos : Pos} {S S' : Src} {u u' : Value} {xs ys : List V} {Gd : Hp → Prop} {N : Addr}
    (f : ∀ X : Cx, X.K = K → SrcIn X S u xs Gd) (f' : ∀ X : Cx, X.K = K → SrcIn X S' u' ys Gd) (lt : ∀ b ∈ S.ex, b < N) (lt' : ∀ b ∈ S'.ex, b < N) :
    Turn P w K (.Tuple elts kk tpos) (ItP xs ys Gd) (zCells N) (N + 4) (zAt S S' (min xs.length ys.length) N) where
  mem := by simp [zCells]
  obj := fun i h t => t.lives
  keep := fun i h h' t k => t.move k
  self := fun A i s Q E t q => wpAny_pyIter_zip t.1.1 q
  item := by
    intro X e1 e2 e3 hc i pins s σ H E I ok t go
    subst e1 e2 e3
    obtain ⟨c, c', hp, hp', W⟩ := zWalk (elts := elts) (kk := kk) (tpos := tpos) (f X rfl) (f' X rfl) lt lt' hc I go.1
    have lv := t.lives
    obtain ⟨⟨z1, z2, z3⟩, ⟨z4, z5⟩, z6⟩ := t
    have hi : i < min xs.length ys.length := by have := go.2; omega
    refine W.goes i s _ E hi ⟨z1, z2, z3, ⟨z4, hp⟩, z5, hp'⟩ fun v h' tk y st kp _ => ?_
    obtain ⟨T, a, b, ev, hT, ⟨x, hx, rx⟩, ⟨y, hy, ry⟩, tp⟩ := y
    subst ev
    obtain ⟨y1, y2, y3, ⟨y4, _⟩, y5, _⟩ := st
    have ob : ObjOk X.prog X.w (upd H T (.tup [x, y])) h' T (.tup [x, y]) := ⟨by rw [sizeLine_eq]; show 2 ≤ 16777216; decide, [a, b], .cons rx (.cons ry .nil), tp⟩
    refine ⟨.ref T, _, I.turnedNew (t' := tk) (ch := zCells N) (fun b o nb e => kp b o (fun z => nb ?_) e) ok hT ob, rfl, ⟨T, x, y, rfl, I.hok.fresh hT, rfl, hx, hy⟩, ⟨⟨y1, y2, y3⟩, ⟨y4, y5⟩, hi⟩, fun b hb => ?_⟩
    · simp only [zCells, List.mem_cons, List.not_mem_nil, or_false] at z ⊢
      rcases z with z | z | z | z <;> simp [z]
    · obtain ⟨o, ho, _⟩ := lv b hb
      have ne : b ≠ T := Nat.ne_of_lt (Nat.lt_of_lt_of_le (Heap.lt_size ho) hT)
      rw [upd_ne ne]
      exact (ok b hb).1
  done := by
    intro X e1 e2 e3 hc i pins s σ H E I ok t stp
    subst e1 e2 e3
    obtain ⟨c, c', hp, hp', W⟩ := zWalk (elts := elts) (kk := kk) (tpos := tpos) (f X rfl) (f' X rfl) lt lt' hc I stp.1
    obtain ⟨⟨z1, z2, z3⟩, ⟨z4, z5⟩, z6⟩ := t
    have hi : i = min xs.length ys.length := by have := stp.2; omega
    rw [hi] at z4 z5
    refine W.stops s _ E ⟨z1, z2, z3, ⟨z4, hp⟩, z5, hp'⟩ fun h' tk kp _ => ?_
    refine I.turnedL (t' := tk) (ch := zCells N) (fun b o nb e => kp b o (fun z => nb ?_) e) ok
    simp only [zCells, List.mem_cons, List.not_mem_nil, or_false] at z ⊢
    rcases z with z | z | z | z <;> simp [z]
theorem pi_zipV {X : Cx} {a b : Expr} {ta : TA} {p pos tpos : Pos} {elts : List Expr} {kk : Nat} (hg : Gl X "zip") (hm : X.mg "zip" = none) (ha : PA X [a, b] ta)
    (h1 : starEach [a, b] X.env = (false, eval a X.env) :: starEach [b] X.env := by rfl) (h2 : (backTo pos (starEach [b] X.env)).any (·.1) = false := by rfl) :
    PI X (.Tuple elts kk tpos) (.Call (.Name "zip" p) [a, b] [] pos) (iZipV X.K ta) where
  run := fun pins s σ H R I h => by
    have args := ha.run pos pins s σ H _ I h
    refine Call_ (ld_blt I hg hm boot_zip ?_)
    refine callWith_type1 (thn args fun us s1 got => ?_) h1 h2
    obtain ⟨vs, H1, I1, rel, v, v', xs, ys, Gd, ev, k1, k2, g, q⟩ := got
    subst ev
    obtain ⟨c, d, eu, rc, rd⟩ := vals2 rel
    subst eu
    obtain ⟨S, f⟩ := k1.src rc
    obtain ⟨S', f'⟩ := k2.src rd
    obtain ⟨hc, p1, B, lt, _⟩ := f X rfl pins σ H1 s1 I1 g
    obtain ⟨hc', p2, B', lt', _⟩ := f' X rfl pins σ H1 s1 I1 g
    refine zip_begins2 B B' p1 p2 fun h' z1 z2 z3 i1 i2 sz kp => wpAny_pyIter_zip z1 ?_
    refine ⟨_, zCells s1.heap.objs.size, zAt S S' (min xs.length ys.length) s1.heap.objs.size, _, H1, rfl, I1.kept (t' := s1.toks) kp, turn_zipV f f' lt lt', ⟨⟨z1, z2, _, _, z3⟩, ⟨S.ini _ _ i1, S'.ini _ _ i2⟩, Nat.zero_le _⟩, fun b hb => ?_, q⟩
    have hb' : s1.heap.objs.size ≤ b := by
      simp only [zCells, List.mem_cons, List.not_mem_nil, or_false] at hb
      rcases hb with z | z | z | z | z <;> rw [z]
      · exact Nat.le_add_right _ 4
      · exact Nat.le_add_right _ 2
      · exact Nat.le_add_right _ 3
      · exact Nat.le_refl _
      · exact Nat.le_add_right _ 1
    exact (I1.fpOk hb' (I1.hok.fresh hb'))
end VL

namespace VL
open PySem PySem.Spec
open PyProof.Rows L2
open Evl (Ex sz_of)

/-! ### one source, walked by itself: by the library's Goes -/
/-- items of a source that stands while Gd holds -/
def ItS (xs : List V) (Gd : Hp → Prop) : It := ⟨fun i H => Gd H ∧ i < xs.length, fun i H v H' => H' = H ∧ xs[i]? = some v, fun i H => Gd H ∧ xs.length ≤ i⟩
/-- what a for over the source does in this heap -/
def WalkH (P : Program) (w : World) (S : Src) (v : Value) (xs : List V) (h : Heap) : Prop :=
  ∃ c : Heap → Prop, c h ∧ Begins v S.o c ∧ (∀ b ∈ S.ex, b < h.objs.size) ∧ ∀ (A : Around) (tg : Expr) (it : Addr), A.handled = none → it ∉ S.ex →
    Goes P w A tg it (it :: S.ex) [it] xs.length (fun i u _ => ∃ x, xs[i]? = some x ∧ RelV x u) (fun i h => S.ci it i h ∧ c h)
theorem Goes.len {P : Program} {w : World} {A : Around} {tg : Expr} {it : Addr} {fp wr : List Addr} {n m : Nat} {Y : Nat → Value → Heap → Prop} {St : Nat → Heap → Prop} (W : Goes P w A tg it fp wr n Y St) (e : n = m) : Goes P w A tg it fp wr m Y St := e ▸ W
theorem walkH_tup {P : Program} {w : World} {a : Addr} {xs : List V} {its : List Value} {h : Heap} (r : Vals xs its) (e : h.IsTuple a its.toArray) : WalkH P w (srcTup a) (.ref a) xs h := by
  refine ⟨fun h => h.IsTuple a its.toArray, e, begins_tuple a _, fun b hb => ?_, fun A tg it hh ne => ?_⟩
  · obtain ⟨o, ho, _⟩ := e
    rw [List.mem_singleton.mp hb]
    exact Heap.lt_size ho
  · have ai : a ≠ it := fun z => ne (z ▸ List.mem_singleton.mpr rfl)
    refine VL.Goes.len (PySem.Goes.mono (PySem.Goes.tuple hh it a ai its.toArray) fun i u _ _ q => ?_) (by rw [r.length]; rfl)
    exact Vals.get1 r (by rw [← q]; exact (List.getElem?_toArray ..).symm)
theorem walkH_lst {P : Program} {w : World} {a : Addr} {xs : List V} {its : List Value} {h : Heap} (r : Vals xs its) (e : h.IsList a its.toArray) : WalkH P w (srcLst a) (.ref a) xs h := by
  refine ⟨fun h => h.IsList a its.toArray, e, begins_list a _, fun b hb => ?_, fun A tg it hh ne => ?_⟩
  · obtain ⟨o, ho, _⟩ := e
    rw [List.mem_singleton.mp hb]
    exact Heap.lt_size ho
  · have ai : a ≠ it := fun z => ne (z ▸ List.mem_singleton.mpr rfl)
    refine VL.Goes.len (PySem.Goes.mono (PySem.Goes.list hh it a ai its.toArray) fun i u _ _ q => ?_) (by rw [r.length]; rfl)
    exact Vals.get1 r (by rw [← q]; exact (List.getElem?_toArray ..).symm)
theorem walkH_str {P : Program} {w : World} {x : Str} {t : Tok} {h : Heap} : WalkH P w (srcStr x t) (.str x t) (signs x) h := by
  refine ⟨fun _ => True, trivial, begins_text x t, (fun b hb => nomatch hb), fun A tg it hh ne => ?_⟩
  have W := PySem.Goes.mono (Y' := fun i u _ => ∃ y, (signs x)[i]? = some y ∧ RelV y u) (PySem.Goes.text (prog := P) (w := w) (target := tg) hh it x t) fun i u _ _ ⟨c, t', e, eu⟩ => ⟨.str ⟨#[c]⟩, by
    unfold signs
    rw [List.getElem?_map, show x.cps.toList[i]? = some c by simpa using e]
    rfl, by rw [eu]; exact ⟨t', rfl⟩⟩
  have W' := VL.Goes.len W (m := (signs x).length) (by simp [signs])
  exact ⟨W'.sub, fun i h h' st k => ⟨W'.frame i h h' st.1 k, trivial⟩, fun i s Q E hi st k => W'.goes i s Q E hi st.1 fun v h' tk y st' => k v h' tk y ⟨st', trivial⟩, fun s Q E st k => W'.stops s Q E st.1 k, fun i s Q E st q => W'.self i s Q E st.1 q⟩
theorem SrcV.walk {K : PySem.W.Frag} {v : V} {xs : List V} {Gd : Hp → Prop} {u : Value} (h : SrcV K v xs Gd) (r : RelV v u) :
    ∃ S : Src, (∀ (P : Program) (w : World) (A : Around) (it : Addr) (i : Nat) (s : Shared) (Q : Value → Shared → Prop) (E : Value → Shared → Prop), S.ci it i s.heap → Q (.ref it) s → wpAny (model P w) A (pyIter (.ref it)) Q E s) ∧
      ∀ X : Cx, X.K = K → ∀ (pins : List (Addr × Obj)) (σ : L2.St) (H : Hp) (s : Shared), Inv X pins σ H s → Gd H → WalkH X.prog X.w S u xs s.heap := by
  rcases h with ⟨a, rfl, h⟩ | ⟨a, rfl, h⟩ | ⟨x, rfl, rfl⟩
  · cases r
    refine ⟨srcTup a, fun P w A it i s Q E c q => wpAny_pyIter_tupleiter c q, fun X hK pins σ H s I g => ?_⟩
    subst hK
    obtain ⟨its, rv, p, _⟩ := I.tuple (h H g)
    exact walkH_tup rv p
  · cases r
    refine ⟨srcLst a, fun P w A it i s Q E c q => wpAny_pyIter_listiter c q, fun X hK pins σ H s I g => ?_⟩
    subst hK
    obtain ⟨its, rv, p, _⟩ := I.list (h H g)
    exact walkH_lst rv p.isList
  · obtain ⟨t, rfl⟩ := r
    refine ⟨srcStr x t, fun P w A it i s Q E c q => ?_, fun X hK pins σ H s I g => walkH_str⟩
    have c' : s.heap.IsStrIter it (strIterType x) x t i := c
    unfold strIterType at c'
    split at c'
    · exact wpAny_pyIter_striter_ascii c' q
    · exact wpAny_pyIter_striter_wide c' q
theorem turn_srcV {P : Program} {w : World} {K : PySem.W.Frag} {tg : Expr} {S : Src} {u : Value} {xs : List V} {Gd : Hp → Prop} {N : Addr}
    (sf : ∀ (P : Program) (w : World) (A : Around) (it : Addr) (i : Nat) (s : Shared) (Q : Value → Shared → Prop) (E : Value → Shared → Prop), S.ci it i s.heap → Q (.ref it) s → wpAny (model P w) A (pyIter (.ref it)) Q E s)
    (f : ∀ X : Cx, X.K = K → ∀ (pins : List (Addr × Obj)) (σ : L2.St) (H : Hp) (s : Shared), Inv X pins σ H s → Gd H → WalkH X.prog X.w S u xs s.heap) (lt : N ∉ S.ex) :
    Turn P w K tg (ItS xs Gd) [N] N (fun i h => S.ci N i h ∧ i ≤ xs.length) where
  mem := List.mem_singleton.mpr rfl
  obj := fun i h t b hb => by
    rw [List.mem_singleton.mp hb]
    exact S.liv h N i t.1
  keep := fun i h h' t k => ⟨S.mov h h' N i t.1 (k N (List.mem_singleton.mpr rfl)), t.2⟩
  self := fun A i s Q E t q => sf P w A N i s Q E t.1 q
  item := by
    intro X e1 e2 e3 hc i pins s σ H E I ok t go
    subst e1 e2 e3
    obtain ⟨c, hp, _, _, W⟩ := f X rfl pins σ H s I go.1
    refine (W X.A tg N (I.ok.hd hc) lt).goes i s _ E go.2 ⟨t.1, hp⟩ fun v h' tk y st kp _ => ?_
    obtain ⟨x, hx, rx⟩ := y
    exact ⟨x, H, I.turnedL (t' := tk) (ch := [N]) kp ok, rx, ⟨rfl, hx⟩, ⟨st.1, go.2⟩, fun b hb => (ok b hb).1⟩
  done := by
    intro X e1 e2 e3 hc i pins s σ H E I ok t stp
    subst e1 e2 e3
    obtain ⟨c, hp, _, _, W⟩ := f X rfl pins σ H s I stp.1
    have hi : i = xs.length := Nat.le_antisymm t.2 stp.2
    refine (W X.A tg N (I.ok.hd hc) lt).stops s _ E ⟨hi ▸ t.1, hp⟩ fun h' tk kp _ => I.turnedL (t' := tk) (ch := [N]) kp ok
def iSeqV (K : PySem.W.Frag) (te : TE) : TI := fun σ H R => te σ H fun v H1 => ∃ xs Gd, SrcV K v xs Gd ∧ Gd H1 ∧ R (ItS xs Gd) H1
theorem pi_seqV {X : Cx} {tg e : Expr} {te : TE} (he : PE X e te) : PI X tg e (iSeqV X.K te) where
  run := fun pins s σ H R I h => by
    refine thn (he.run pins s σ H _ I h) fun u s1 got => ?_
    obtain ⟨v, H1, I1, rv, xs, Gd, k, g, q⟩ := got
    obtain ⟨S, sf, f⟩ := k.walk rv
    obtain ⟨c, hp, B, lt, _⟩ := f X rfl pins σ H1 s1 I1 g
    have nx : s1.heap.objs.size ∉ S.ex := fun z => absurd (lt _ z) (Nat.lt_irrefl _)
    refine B.iter _ _ _ _ _ _ hp ?_
    have kp : ∀ b o, s1.heap.get? b = some o → (s1.heap.push S.o).get? b = some o := fun b o e => Heap.get?_push_of_some _ e
    refine ⟨_, [s1.heap.objs.size], _, _, H1, rfl, I1.kept (t' := s1.toks) kp, turn_srcV sf f nx, ⟨S.ini _ _ (Heap.get?_push_size _ B.free), Nat.zero_le _⟩, fun b hb => ?_, q⟩
    rw [List.mem_singleton.mp hb]
    exact I1.fpOk (Nat.le_refl _) (I1.hok.fresh (Nat.le_refl _))
section
variable {G : Cn} {E : XK} {F F1 H H1 : Hp} {σ : L2.St} {ρ ρ1 : Rho} {α α1 : Al}
theorem it_src {vs : List V} {ds : List D} (r : Reps G F1 vs ds) : ItSem G F1 (ItS vs (Ex F1)) ds := fun {F' H'} i e1 e2 => by
  have l := r.length
  refine ⟨fun hi => ⟨e1.trans e2, by omega⟩, fun hi => ⟨e1.trans e2, by omega⟩, fun x H'' d hd y => ?_⟩
  obtain ⟨e, hx⟩ := y
  subst e
  obtain ⟨v, q1, q2⟩ := r.get hd
  rw [hx] at q1
  cases q1
  exact ⟨F', Ex.refl F', Ex.refl _, fun _ _ z => .inl z, e2, q2.mono e1⟩
/-- what may be walked: lists, tuples, texts, the script -/
def walkD : D → Option (List D)
  | .scr ns => some (ns.map .int)
  | d => seqD d
def iWalk (a : M) : MI := fun ρ => match a ρ with
  | some (.ok o, ρ1) => (walkD o.frz).map fun ds => (ds, ρ1)
  | _ => none
theorem Rep.walk {v : V} {d : D} {ds : List D} (h : Rep G F1 v d) (e : walkD d = some ds) : ∃ xs, SrcV G.K v xs (Ex F1) ∧ Reps G F1 xs ds := by
  cases d with
  | scr ns =>
    cases e
    obtain ⟨a, rfl, k⟩ := rep_scr h
    exact ⟨_, .inr (.inl ⟨a, rfl, k⟩), reps_ints ns⟩
  | _ => exact h.src e
theorem semI_walk {tl : TE} {a : M} (ha : Sem G E tl a) : SemI G (iSeqV G.K tl) (iWalk a) := ⟨fun {F H σ ρ α ds ρ1 R} S e k => by
  unfold iWalk at e
  split at e
  · rename_i o ρ' e1
    cases e2 : walkD o.frz with
    | none => rw [e2] at e; cases e
    | some ds' =>
      rw [e2] at e
      cases e
      refine ha.run S (Post.okEnd e1 fun v F1 H1 α1 S1 r1 T1 N1 => ?_)
      obtain ⟨xs, k1, p1⟩ := r1.walk e2
      exact ⟨xs, _, k1, S1.ex, k _ F1 H1 α1 S1 T1 N1 (it_src p1)⟩
  · cases e⟩
end
end VL

namespace VL
open PySem PySem.Spec
open PyProof.Rows L2
open Evl (Ex sz_of)

/-! ### comprehensions of two clauses -/
def lcIn (vs : List Nat) (p : Pat) (mt me : M) : List D → Rho → List D → Option (List D × Rho)
  | [], ρ, acc => some (acc, ρ)
  | d :: ds, ρ, acc => match bindP [] p d ρ with
    | none => none
    | some ρ1 => (match mt ρ1 with
      | some (.ok b, ρ2) => (match b.frz with
        | .bl true => (match me ρ2 with
          | some (.ok o, ρ3) => if acc.length < 100000 then lcIn vs p mt me ds (wipeR ρ3 vs) (acc ++ [o.frz]) else none
          | _ => none)
        | .bl false => lcIn vs p mt me ds (wipeR ρ2 vs) acc
        | _ => none)
      | _ => none)
def lcOut (vs : List Nat) (p : Pat) (mi : MI) (vs1 : List Nat) (p1 : Pat) (mt me : M) : List D → Rho → List D → Option (List D × Rho)
  | [], ρ, acc => some (acc, ρ)
  | d :: ds, ρ, acc => match bindP [] p d ρ with
    | none => none
    | some ρ1 => (match mi ρ1 with
      | none => none
      | some (es, ρ2) => if clean vs1 ρ2 = true then (match lcIn vs1 p1 mt me es ρ2 acc with
        | none => none
        | some (acc1, ρ3) => lcOut vs p mi vs1 p1 mt me ds (wipeR ρ3 vs) acc1) else none)
def mLc2 (mi : MI) (vs : List Nat) (p : Pat) (mi1 : MI) (vs1 : List Nat) (p1 : Pat) (mt me : M) : M := fun ρ => match mi ρ with
  | some (ds, ρ1) => if clean vs ρ1 = true then (lcOut vs p mi1 vs1 p1 mt me ds ρ1 []).map fun x => (.ok (.lst x.1), x.2) else none
  | none => none
section
variable {G : Cn} {E E1 E2 : XK} {F F1 F2 H H1 H2 : Hp} {σ σ1 : L2.St} {ρ ρ1 : Rho} {α α1 : Al}
/-- what is made stands beside: all that belongs to somebody, and it -/
def Besd (Dl : Addr) (β : Al) : Addr → Prop := fun a => Own β a ∨ a = Dl
theorem Stp.besd {Dl : Addr} {Fa Ha Fb Hb : Hp} (s : Stp (Own α) Fa Ha Fb Hb) : Stp (Besd Dl α) Fa Ha Fb Hb := s.weak fun _ z => .inl z
theorem New.besd {Dl : Addr} {Ha : Hp} (n : New (Own α) Ha (Own α1)) : New (Besd Dl α) Ha (Besd Dl α1) := fun a z => by
  rcases z with z | z
  · exact (n a z).elim (fun y => .inl (.inl y)) .inr
  · exact .inl (.inr z)
theorem New.less {Dl : Addr} {A : Addr → Prop} {Ha : Hp} (n : New A Ha (Besd Dl α)) (o : ∀ a, Own α1 a → Own α a) : New A Ha (Besd Dl α1) := fun a z => by
  rcases z with z | z
  · exact n a (.inl (o a z))
  · exact n a (.inr z)
theorem Pend.less {Dl : Addr} {ds : List D} (q : Pend G F H α Dl ds) (o : ∀ a, Own α1 a → Own α a) : Pend G F H α1 Dl ds := ⟨q.fF, fun z => q.no (o _ z), q.at'⟩
/-- the state, what is made, how far all has gone since F0, H0 -/
structure Mk (G : Cn) (F0 H0 : Hp) (α0 : Al) (Dl : Addr) (acc : List D) (F H : Hp) (σ : L2.St) (ρ : Rho) (α : Al) : Prop where
  ste : Ste G F H σ ρ α
  pend : Pend G F H α Dl acc
  stp : Stp (Besd Dl α0) F0 H0 F H
  new : New (Besd Dl α0) H0 (Besd Dl α)
section
variable {F0 H0 : Hp} {α0 : Al} {Dl : Addr} {acc : List D}
theorem Mk.go (m : Mk G F0 H0 α0 Dl acc F H σ ρ α) (S : Ste G F1 H1 σ1 ρ1 α1) (T : Stp (Own α) F H F1 H1) (N : New (Own α) H (Own α1)) : Mk G F0 H0 α0 Dl acc F1 H1 σ1 ρ1 α1 :=
  ⟨S, m.pend.step T N, m.stp.trans T.besd m.new, New.trans m.stp m.new N.besd⟩
theorem Mk.of (m : Mk G F0 H0 α0 Dl acc F H σ ρ α) (S : Ste G F H σ1 ρ1 α1) (o : ∀ a, Own α1 a → Own α a) : Mk G F0 H0 α0 Dl acc F H σ1 ρ1 α1 :=
  ⟨S, m.pend.less o, m.stp, m.new.less o⟩
theorem Mk.grow (m : Mk G F0 H0 α0 Dl acc F H σ ρ α) (eF : Ex F F1) (eH : Ex H H1) (nf : ∀ b o, F1 b = some o → F b = some o ∨ H b = none) (eX : Ex F1 H1) : Mk G F0 H0 α0 Dl acc F1 H1 σ ρ α :=
  m.go (m.ste.grow eF eH nf eX) (Stp.grow eF eH nf) .refl
theorem Mk.wiped (m : Mk G F0 H0 α0 Dl acc F H σ ρ α) (vs : List Nat) : ∃ α2, Mk G F0 H0 α0 Dl acc F H (L2.wipe σ vs) (wipeR ρ vs) α2 := by
  obtain ⟨α2, S, o⟩ := m.ste.wipe vs
  exact ⟨α2, m.of S o⟩
theorem Mk.add {d : D} {v : V} (m : Mk G F0 H0 α0 Dl acc F H σ ρ α) (r : Rep G F v d) : ∃ ws, H Dl = some (.lst ws) ∧ ws.length = acc.length ∧ Mk G F0 H0 α0 Dl (acc ++ [d]) F (upd H Dl (.lst (ws ++ [v]))) σ ρ α := by
  obtain ⟨ws, h1, h2, S, q⟩ := m.ste.grown m.pend r
  refine ⟨ws, h1, h2, S, q, m.stp.trans (A1 := Besd Dl α) ⟨Ex.refl F, fun b u e n => ?_, fun b u e => .inl e⟩ m.new, fun a z => ?_⟩
  · rw [upd_ne fun y => n (.inr y)]
    exact e
  · exact m.new a z
end
variable {wi wi1 : TI} {mi mi1 : MI} {g g1 : TG} {p p1 : Pat} {tt : TT} {mt me : M} {te : TE}
theorem wipe_twice {vs vs1 : List Nat} {σ2 : L2.St} (hv : ∀ j ∈ vs1, j ∈ vs) : L2.wipe (L2.wipe σ2 vs1) vs = L2.wipe σ2 vs :=
  wipe_same (wipe_length σ2 vs1) fun j hj => wipe_out fun z => hj (hv j z)
theorem sem_lc2 {vs vs1 : List Nat} (hi : SemI G wi mi) (hg : GSem G g p) (hi1 : SemI G wi1 mi1) (hg1 : GSem G g1 p1) (ht : SemT G E1 tt mt) (he : Sem G E2 te me) (hp : ∀ j ∈ p.slots, j ∈ vs) (hp1 : ∀ j ∈ p1.slots, j ∈ vs1) (hv : ∀ j ∈ vs1, j ∈ vs) :
    Sem G E (tLc2 wi g tYes wi1 g1 tt te vs vs1) (mLc2 mi vs p mi1 vs1 p1 mt me) := ⟨fun {F H σ ρ α Q} S h => by
  unfold mLc2 at h
  cases e : mi ρ with
  | none => rw [e] at h; exact h.elim
  | some x =>
    obtain ⟨ds, ρ1⟩ := x
    rw [e] at h
    try dsimp only at h
    split at h
    case isFalse => exact h.elim
    case isTrue hcl =>
    cases eL : lcOut vs p mi1 vs1 p1 mt me ds ρ1 [] with
    | none => rw [eL] at h; exact h.elim
    | some y =>
    obtain ⟨accF, ρF⟩ := y
    rw [eL] at h
    refine hi.run S e fun J F1 H1 α1 S1 T1 N1 it => ?_
    intro Dl hD
    have Sw : Ste G F1 (upd H1 Dl (.lst [])) (L2.wipe σ vs) ρ1 α1 := (S1.put hD).wiped fun j hj o q => by
      rw [clean_mem hcl hj] at q
      cases q
    have m0 : Mk G F1 (upd H1 Dl (.lst [])) α1 Dl [] F1 (upd H1 Dl (.lst [])) (L2.wipe σ vs) ρ1 α1 := ⟨Sw, ⟨S1.fresh hD, S1.notown hD, [], upd_same, Reps.nil⟩, .refl, .refl⟩
    have T1' : Stp (Own α) F H F1 (upd H1 Dl (.lst [])) := T1.trans (Ste.putStp hD (A := Own α1)) N1
    refine ⟨fun i m H' => m = ds.length - i ∧ i ≤ ds.length ∧ ∃ F' ρ' α' acc, Mk G F1 (upd H1 Dl (.lst [])) α1 Dl acc F' H' (L2.wipe σ vs) ρ' α' ∧ lcOut vs p mi1 vs1 p1 mt me (ds.drop i) ρ' acc = some (accF, ρF), ⟨ds.length, by simp, Nat.zero_le _, F1, ρ1, α1, [], m0, eL⟩, ?_⟩
    rintro i m H' ⟨rfl, hi', F', ρ', α', acc, mk, eq⟩
    obtain ⟨i1, i2, i3⟩ := it i mk.stp.exF mk.ste.ex
    by_cases hlt : i < ds.length
    case neg =>
      refine .inl ⟨i2 (by omega), ?_⟩
      rw [List.drop_of_length_le (by omega)] at eq
      cases eq
      obtain ⟨ws, hws, rws⟩ := mk.pend.at'
      have nA : New (Own α) H (Besd Dl α1) := fun a z => z.elim (fun y => N1 a y) fun y => by
        subst y
        by_cases z : Own α a
        · exact .inl z
        · cases e5 : H a with
          | none => exact .inr rfl
          | some u =>
            rw [T1.keep a u e5 z] at hD
            cases hD
      refine h (.ref Dl) F' H' α' [Dl] mk.ste.unwiped ⟨Dl, ws, rfl, rfl, mk.pend.fF, hws, rws⟩ (T1'.trans mk.stp nA) (fun a ha => by
        rw [List.mem_singleton.mp ha]
        exact mk.pend.no) fun a z => ?_
      exact New.trans T1' nA mk.new a (z.elim .inl fun y => .inr (List.mem_singleton.mp y))
    case pos =>
    refine .inr ⟨i1 hlt, fun H2 => ∃ F' ρ' α' acc, Mk G F1 (upd H1 Dl (.lst [])) α1 Dl acc F' H2 (L2.wipe σ vs) ρ' α' ∧ lcOut vs p mi1 vs1 p1 mt me (ds.drop (i + 1)) ρ' acc = some (accF, ρF), fun H2 n2 => ⟨ds.length - (i + 1), by omega, rfl, hlt, n2⟩, fun x H'' y => ?_⟩
    obtain ⟨d, hd⟩ : ∃ d, ds[i]? = some d := ⟨ds[i], by simp [hlt]⟩
    obtain ⟨F'', f1, f2, f3, f4, rx⟩ := i3 x H'' d hd y
    have mk2 := mk.grow f1 f2 f3 f4
    rw [drop_get hd] at eq
    unfold lcOut at eq
    cases e2 : bindP [] p d ρ' with
    | none => rw [e2] at eq; cases eq
    | some ρ2 =>
    rw [e2] at eq
    try dsimp only at eq
    cases e3 : mi1 ρ2 with
    | none => rw [e3] at eq; cases eq
    | some z =>
    obtain ⟨es, ρ3⟩ := z
    rw [e3] at eq
    try dsimp only at eq
    split at eq
    case isFalse => cases eq
    case isTrue hcl1 =>
    cases e4 : lcIn vs1 p1 mt me es ρ3 acc with
    | none => rw [e4] at eq; cases eq
    | some z =>
    obtain ⟨acc1, ρ4⟩ := z
    rw [e4] at eq
    try dsimp only at eq
    refine hg (pins := []) mk2.ste rx e2 fun σ2 α2 S3 o3 _ J3 => ?_
    have hw : L2.wipe σ2 vs = L2.wipe σ vs := (wipe_same J3.2 fun j hj => J3.1 j fun z => hj (hp j z)).trans (wipe_same (wipe_length σ vs) fun j hj => wipe_out hj)
    have mk3 := mk2.of S3 o3
    refine ⟨hw, ?_⟩
    unfold tYes
    dsimp only
    rw [if_pos rfl]
    refine hi1.run S3 e3 fun J1 F3 H3 α3 S4 T4 N4 it1 => ?_
    have mk4 := (mk3.go S4 T4 N4).of (S4.wiped fun j hj o q => by
      rw [clean_mem hcl1 hj] at q
      cases q) fun _ z => z
    refine ⟨fun j k H5 => k = es.length - j ∧ j ≤ es.length ∧ ∃ F5 ρ5 α5 acc5, Ex F3 F5 ∧ Mk G F1 (upd H1 Dl (.lst [])) α1 Dl acc5 F5 H5 (L2.wipe σ2 vs1) ρ5 α5 ∧ lcIn vs1 p1 mt me (es.drop j) ρ5 acc5 = some (acc1, ρ4), ⟨es.length, by simp, Nat.zero_le _, F3, ρ3, α3, acc, Ex.refl F3, mk4, e4⟩, ?_⟩
    rintro j k H5 ⟨rfl, hj', F5, ρ5, α5, acc5, ex5, mk5, eq5⟩
    obtain ⟨j1, j2, j3⟩ := it1 j ex5 mk5.ste.ex
    by_cases hl1 : j < es.length
    case neg =>
      refine .inl ⟨j2 (by omega), ?_⟩
      rw [List.drop_of_length_le (by omega)] at eq5
      cases eq5
      obtain ⟨α6, mk6⟩ := mk5.wiped vs
      rw [wipe_twice hv, hw] at mk6
      exact ⟨F5, _, α6, _, mk6, eq⟩
    case pos =>
    refine .inr ⟨j1 hl1, fun H6 => ∃ F5 ρ5 α5 acc5, Ex F3 F5 ∧ Mk G F1 (upd H1 Dl (.lst [])) α1 Dl acc5 F5 H6 (L2.wipe σ2 vs1) ρ5 α5 ∧ lcIn vs1 p1 mt me (es.drop (j + 1)) ρ5 acc5 = some (acc1, ρ4), fun H6 n6 => ⟨es.length - (j + 1), by omega, rfl, hl1, n6⟩, fun x1 H6 y1 => ?_⟩
    obtain ⟨d1, hd1⟩ : ∃ d, es[j]? = some d := ⟨es[j], by simp [hl1]⟩
    obtain ⟨F6, q1, q2, q3, q4, rx1⟩ := j3 x1 H6 d1 hd1 y1
    have mk6 := mk5.grow q1 q2 q3 q4
    have ex6 := ex5.trans q1
    rw [drop_get hd1] at eq5
    unfold lcIn at eq5
    cases e6 : bindP [] p1 d1 ρ5 with
    | none => rw [e6] at eq5; cases eq5
    | some ρ6 =>
    rw [e6] at eq5
    try dsimp only at eq5
    refine hg1 (pins := []) mk6.ste rx1 e6 fun σ3 α6 S6 o6 _ J6 => ?_
    have hw1 : L2.wipe σ3 vs1 = L2.wipe σ2 vs1 := (wipe_same J6.2 fun j hj => J6.1 j fun z => hj (hp1 j z)).trans (wipe_same (wipe_length σ2 vs1) fun j hj => wipe_out hj)
    have mk7 := mk6.of S6 o6
    refine ⟨hw1, ht.run S6 ?_⟩
    match q5 : mt ρ6, eq5 with
    | none, eq5 => cases eq5
    | some (.ex c f, _), eq5 => cases eq5
    | some (.ok b, ρ7), eq5 =>
      intro v F7 H7 α7 β S7 r7 T7 M7 N7
      obtain ⟨F8, S8, r8, T8, N8⟩ := S7.freeze r7 T7 M7 N7
      have mk8 := mk7.go S8 T8 N8
      try dsimp only at eq5
      split at eq5
      · rename_i eb
        refine ⟨true, frz_bl (H := H) r8 eb, ?_⟩
        rw [if_pos rfl]
        refine he.run S8 ?_
        match q7 : me ρ7, eq5 with
        | none, eq5 => cases eq5
        | some (.ex c f, _), eq5 => cases eq5
        | some (.ok o, ρ8), eq5 =>
          try dsimp only at eq5
          split at eq5
          case isFalse => cases eq5
          case isTrue hz =>
          intro v2 F9 H9 α9 β2 S9 r9 T9 M9 N9
          obtain ⟨FA, SA, rA, TA, NA⟩ := S9.freeze r9 T9 M9 N9
          have mkA := mk8.go SA TA NA
          obtain ⟨ws, hws, lws, mkB⟩ := mkA.add rA
          obtain ⟨αC, mkC⟩ := mkB.wiped vs1
          rw [hw1] at mkC
          exact ⟨ws, hws, by rw [lws]; exact Nat.lt_trans hz (by decide), FA, _, αC, _, (ex6.trans T8.exF).trans TA.exF, mkC, eq5⟩
      · rename_i eb
        refine ⟨false, frz_bl (H := H) r8 eb, ?_⟩
        rw [if_neg Bool.false_ne_true]
        obtain ⟨αC, mkC⟩ := mk8.wiped vs1
        rw [hw1] at mkC
        exact ⟨F8, _, αC, _, ex6.trans T8.exF, mkC, eq5⟩
      · cases eq5⟩
end
end VL

namespace VL
open PySem PySem.Spec
open PyProof.Rows L2
open Evl (Ex sz_of)

/-! ### dict comprehensions -/
def dcLoop (vs : List Nat) (p : Pat) (mt mk mv : M) : List D → Rho → List (Key × D) → Option (List (Key × D) × Rho)
  | [], ρ, acc => some (acc, ρ)
  | d :: ds, ρ, acc => match bindP [] p d ρ with
    | none => none
    | some ρ1 => (match mt ρ1 with
      | some (.ok b, ρ2) => (match b.frz with
        | .bl true => (match mk ρ2 with
          | some (.ok o, ρ3) => (match mv ρ3 with
            | some (.ok o', ρ4) => (match keyD o.frz with
              | some k => if acc.length < 100000 then dcLoop vs p mt mk mv ds (wipeR ρ4 vs) (putD acc k o'.frz) else none
              | none => none)
            | _ => none)
          | _ => none)
        | .bl false => dcLoop vs p mt mk mv ds (wipeR ρ2 vs) acc
        | _ => none)
      | _ => none)
def mDc (mi : MI) (vs : List Nat) (p : Pat) (mt mk mv : M) : M := fun ρ => match mi ρ with
  | some (ds, ρ1) => if clean vs ρ1 = true then (dcLoop vs p mt mk mv ds ρ1 []).map fun x => (.ok (.dic x.1), x.2) else none
  | none => none
section
variable {G : Cn} {E E1 E2 E3 : XK} {F F1 F2 H H1 H2 : Hp} {σ σ1 : L2.St} {ρ ρ1 : Rho} {α α1 : Al}
structure PenD (G : Cn) (F H : Hp) (α : Al) (Dl : Addr) (ds : List (Key × D)) : Prop where
  fF : F Dl = none
  no : ¬ Own α Dl
  at' : ∃ vs, H Dl = some (.dK vs) ∧ RepsK G F vs ds
/-- the state, the dict that is made, how far all has gone -/
structure MkD (G : Cn) (F0 H0 : Hp) (α0 : Al) (Dl : Addr) (acc : List (Key × D)) (F H : Hp) (σ : L2.St) (ρ : Rho) (α : Al) : Prop where
  ste : Ste G F H σ ρ α
  pend : PenD G F H α Dl acc
  stp : Stp (Besd Dl α0) F0 H0 F H
  new : New (Besd Dl α0) H0 (Besd Dl α)
section
variable {F0 H0 : Hp} {α0 : Al} {Dl : Addr} {acc : List (Key × D)}
theorem MkD.go (m : MkD G F0 H0 α0 Dl acc F H σ ρ α) (S : Ste G F1 H1 σ1 ρ1 α1) (T : Stp (Own α) F H F1 H1) (N : New (Own α) H (Own α1)) : MkD G F0 H0 α0 Dl acc F1 H1 σ1 ρ1 α1 := by
  obtain ⟨kvs, h1, h2⟩ := m.pend.at'
  have nF : F1 Dl = none := by
    cases e : F1 Dl with
    | none => rfl
    | some u =>
      rcases T.newF Dl u e with z | z | z
      · rw [m.pend.fF] at z; cases z
      · rw [h1] at z; cases z
      · exact absurd z m.pend.no
  have nO : ¬ Own α1 Dl := fun z => by
    rcases N Dl z with y | y
    · exact m.pend.no y
    · rw [h1] at y; cases y
  exact ⟨S, ⟨nF, nO, kvs, T.keep _ _ h1 m.pend.no, h2.mono T.exF⟩, m.stp.trans T.besd m.new, New.trans m.stp m.new N.besd⟩
theorem MkD.of (m : MkD G F0 H0 α0 Dl acc F H σ ρ α) (S : Ste G F H σ1 ρ1 α1) (o : ∀ a, Own α1 a → Own α a) : MkD G F0 H0 α0 Dl acc F H σ1 ρ1 α1 :=
  ⟨S, ⟨m.pend.fF, fun z => m.pend.no (o _ z), m.pend.at'⟩, m.stp, m.new.less o⟩
theorem MkD.wiped (m : MkD G F0 H0 α0 Dl acc F H σ ρ α) (vs : List Nat) : ∃ α2, MkD G F0 H0 α0 Dl acc F H (L2.wipe σ vs) (wipeR ρ vs) α2 := by
  obtain ⟨α2, S, o⟩ := m.ste.wipe vs
  exact ⟨α2, m.of S o⟩
theorem MkD.add {k : Key} {d : D} {v : V} (m : MkD G F0 H0 α0 Dl acc F H σ ρ α) (r : Rep G F v d) : ∃ kvs, H Dl = some (.dK kvs) ∧ kvs.length = acc.length ∧ MkD G F0 H0 α0 Dl (putD acc k d) F (upd H Dl (.dK (putK kvs k v))) σ ρ α := by
  obtain ⟨kvs, h1, h2⟩ := m.pend.at'
  have S := m.ste
  have S' : Ste G F (upd H Dl (.dK (putK kvs k v))) σ ρ α := by
    refine ⟨S.ex.mut m.pend.fF, S.len, fun i o e => ?_, S.off, S.dis⟩
    obtain ⟨u, h3, r3⟩ := S.slot i o e
    refine ⟨u, h3, r3.move (Ex.refl F) (fun b hb => (r3.mem b hb).1) fun b hb y hy => ?_⟩
    have ne : b ≠ Dl := fun z => m.pend.no (z ▸ ⟨i, hb⟩)
    rw [upd_ne ne]
    exact hy
  refine ⟨kvs, h1, h2.length, S', ⟨m.pend.fF, m.pend.no, _, upd_same, h2.put r⟩, m.stp.trans (A1 := Besd Dl α) ⟨Ex.refl F, fun b u e n => ?_, fun b u e => .inl e⟩ m.new, fun a z => m.new a z⟩
  rw [upd_ne fun y => n (.inr y)]
  exact e
end
variable {wi : TI} {mi : MI} {g : TG} {p : Pat} {tt : TT} {mt mk mv : M} {tk tv : TE}
theorem sem_dc {vs : List Nat} (hi : SemI G wi mi) (hg : GSem G g p) (ht : SemT G E1 tt mt) (hk : Sem G E2 tk mk) (hv : Sem G E3 tv mv) (hp : ∀ j ∈ p.slots, j ∈ vs) :
    Sem G E (tDc wi g tt tk tv vs) (mDc mi vs p mt mk mv) := ⟨fun {F H σ ρ α Q} S h => by
  unfold mDc at h
  cases e : mi ρ with
  | none => rw [e] at h; exact h.elim
  | some x =>
    obtain ⟨ds, ρ1⟩ := x
    rw [e] at h
    try dsimp only at h
    split at h
    case isFalse => exact h.elim
    case isTrue hcl =>
    cases eL : dcLoop vs p mt mk mv ds ρ1 [] with
    | none => rw [eL] at h; exact h.elim
    | some y =>
    obtain ⟨accF, ρF⟩ := y
    rw [eL] at h
    refine hi.run S e fun J F1 H1 α1 S1 T1 N1 it => ?_
    intro Dl hD
    have Sw : Ste G F1 (upd H1 Dl (.dK [])) (L2.wipe σ vs) ρ1 α1 := (S1.put hD).wiped fun j hj o q => by
      rw [clean_mem hcl hj] at q
      cases q
    have m0 : MkD G F1 (upd H1 Dl (.dK [])) α1 Dl [] F1 (upd H1 Dl (.dK [])) (L2.wipe σ vs) ρ1 α1 := ⟨Sw, ⟨S1.fresh hD, S1.notown hD, [], upd_same, RepsK.nil⟩, .refl, .refl⟩
    have T1' : Stp (Own α) F H F1 (upd H1 Dl (.dK [])) := T1.trans (Ste.putStp hD (A := Own α1)) N1
    refine ⟨fun i m H' => m = ds.length - i ∧ i ≤ ds.length ∧ ∃ F' ρ' α' acc, MkD G F1 (upd H1 Dl (.dK [])) α1 Dl acc F' H' (L2.wipe σ vs) ρ' α' ∧ dcLoop vs p mt mk mv (ds.drop i) ρ' acc = some (accF, ρF), ⟨ds.length, by simp, Nat.zero_le _, F1, ρ1, α1, [], m0, eL⟩, ?_⟩
    rintro i m H' ⟨rfl, hi', F', ρ', α', acc, mm, eq⟩
    obtain ⟨i1, i2, i3⟩ := it i mm.stp.exF mm.ste.ex
    by_cases hlt : i < ds.length
    case neg =>
      refine .inl ⟨i2 (by omega), ?_⟩
      rw [List.drop_of_length_le (by omega)] at eq
      cases eq
      obtain ⟨ws, hws, rws⟩ := mm.pend.at'
      have nA : New (Own α) H (Besd Dl α1) := fun a z => z.elim (fun y => N1 a y) fun y => by
        subst y
        by_cases z : Own α a
        · exact .inl z
        · cases e5 : H a with
          | none => exact .inr rfl
          | some u =>
            rw [T1.keep a u e5 z] at hD
            cases hD
      refine h (.ref Dl) F' H' α' [Dl] mm.ste.unwiped ⟨Dl, ws, rfl, rfl, mm.pend.fF, hws, rws⟩ (T1'.trans mm.stp nA) (fun a ha => by
        rw [List.mem_singleton.mp ha]
        exact mm.pend.no) fun a z => ?_
      exact New.trans T1' nA mm.new a (z.elim .inl fun y => .inr (List.mem_singleton.mp y))
    case pos =>
    refine .inr ⟨i1 hlt, fun H2 => ∃ F' ρ' α' acc, MkD G F1 (upd H1 Dl (.dK [])) α1 Dl acc F' H2 (L2.wipe σ vs) ρ' α' ∧ dcLoop vs p mt mk mv (ds.drop (i + 1)) ρ' acc = some (accF, ρF), fun H2 n2 => ⟨ds.length - (i + 1), by omega, rfl, hlt, n2⟩, fun x H'' y => ?_⟩
    obtain ⟨d, hd⟩ : ∃ d, ds[i]? = some d := ⟨ds[i], by simp [hlt]⟩
    obtain ⟨F'', f1, f2, f3, f4, rx⟩ := i3 x H'' d hd y
    have mm2 := mm.go (mm.ste.grow f1 f2 f3 f4) (Stp.grow f1 f2 f3) .refl
    rw [drop_get hd] at eq
    unfold dcLoop at eq
    cases e2 : bindP [] p d ρ' with
    | none => rw [e2] at eq; cases eq
    | some ρ2 =>
    rw [e2] at eq
    try dsimp only at eq
    refine hg (pins := []) mm2.ste rx e2 fun σ2 α2 S3 o3 _ J3 => ?_
    have hw : L2.wipe σ2 vs = L2.wipe σ vs := (wipe_same J3.2 fun j hj => J3.1 j fun z => hj (hp j z)).trans (wipe_same (wipe_length σ vs) fun j hj => wipe_out hj)
    have mm3 := mm2.of S3 o3
    refine ⟨hw, ht.run S3 ?_⟩
    match q5 : mt ρ2, eq with
    | none, eq => cases eq
    | some (.ex c f, _), eq => cases eq
    | some (.ok b, ρ3), eq =>
      intro v F4 H4 α4 β S4 r4 T4 M4 N4
      obtain ⟨F5, S5, r5, T5, N5⟩ := S4.freeze r4 T4 M4 N4
      have mm5 := mm3.go S5 T5 N5
      try dsimp only at eq
      split at eq
      · rename_i eb
        refine ⟨true, frz_bl (H := H) r5 eb, ?_⟩
        rw [if_pos rfl]
        refine hk.run S5 ?_
        match q6 : mk ρ3, eq with
        | none, eq => cases eq
        | some (.ex c f, _), eq => cases eq
        | some (.ok o, ρ4), eq =>
          intro v2 F6 H6 α6 β2 S6 r6 T6 M6 N6
          obtain ⟨F7, S7, r7, T7, N7⟩ := S6.freeze r6 T6 M6 N6
          have mm7 := mm5.go S7 T7 N7
          try dsimp only at eq
          refine hv.run S7 ?_
          match q7 : mv ρ4, eq with
          | none, eq => cases eq
          | some (.ex c f, _), eq => cases eq
          | some (.ok o', ρ5), eq =>
            intro v3 F8 H8 α8 β3 S8 r8 T8 M8 N8
            obtain ⟨F9, S9, r9, T9, N9⟩ := S8.freeze r8 T8 M8 N8
            have mm9 := mm7.go S9 T9 N9
            try dsimp only at eq
            cases ek : keyD o.frz with
            | none => rw [ek] at eq; cases eq
            | some k =>
            rw [ek] at eq
            try dsimp only at eq
            split at eq
            case isFalse => cases eq
            case isTrue hz =>
            obtain ⟨kvs, hkv, lkv, mmA⟩ := mm9.add (k := k) r9
            obtain ⟨αC, mmC⟩ := mmA.wiped vs
            rw [hw] at mmC
            exact ⟨kvs, k, key_x (F := F7) (H := H6) (.inl r7) ek, hkv, by rw [lkv]; exact Nat.lt_trans hz (by decide), F9, _, αC, _, mmC, eq⟩
      · rename_i eb
        refine ⟨false, frz_bl (H := H) r5 eb, ?_⟩
        rw [if_neg Bool.false_ne_true]
        obtain ⟨αC, mmC⟩ := mm5.wiped vs
        rw [hw] at mmC
        exact ⟨F5, _, αC, _, mmC, eq⟩
      · cases eq⟩
end
end VL

namespace PySem
open Sem (wp)
/-- the two objects that enumerate(v) makes -/
abbrev enObj (it : Addr) : Obj := { cls := .type "enumerate", data := .fields #[.none, .bool false, .ref it, rawInt 0, .none, .none] }
theorem vl_enum_new {v : Value} {o : Obj} {c : Heap → Prop} (B : Begins v o c) :
    Meets (Builtin.«enumerate.__new__» ⟨[.type "enumerate", v], []⟩) (fun _ R s => c s.heap ∧ R (.ok (.ret (.ref (s.heap.push o).objs.size))) { s with heap := (s.heap.push o).push (enObj s.heap.objs.size) }) := by
  refine .of_wp fun prog w A R s got => ?_
  obtain ⟨hp, gens, dr, tk, os⟩ := s
  obtain ⟨c0, fin⟩ := got
  have known := sub_enumerate
  have first : ∀ {B' : Around} {E : Value → Shared → Prop} {Q : Value → Shared → Prop}, Q (.ref hp.objs.size) ⟨hp.push o, gens, dr, tk, os⟩ → wpAny (model prog w) B' (pyIter v) Q E ⟨hp, gens, dr, tk, os⟩ := fun q => B.iter prog w _ _ ⟨hp, gens, dr, tk, os⟩ _ c0 q
  wp_walk using first
  refine wpAny_stack_any fun frames => wpAny_pure ?_
  split
  · rename_i kind _ _ _ _ _
    cases (kind == Value.type "enumerate") <;> (wp_walk using first; exact ⟨_, rfl, fin⟩)
  · wp_walk using first
    exact ⟨_, rfl, fin⟩
theorem vl_call_enum {prog : Program} {w : World} {A : Around} {E : Value → Shared → Prop} {s : Shared} {v : Value} {o : Obj} {c : Heap → Prop} {Q : Value → Shared → Prop} (B : Begins v o c) (h1 : c s.heap)
    (k : ∀ h', IsEnum h' (s.heap.objs.size + 1) s.heap.objs.size 0 .none → h'.get? s.heap.objs.size = some o → (∀ b o, s.heap.get? b = some o → h'.get? b = some o) → Q (.ref (s.heap.objs.size + 1)) { s with heap := h' }) :
    wpAny (model prog w) A (call (.type "enumerate") [v]) Q E s := by
  have sz : (s.heap.push o).objs.size = s.heap.objs.size + 1 := Heap.size_push ..
  have at1 : ((s.heap.push o).push (enObj s.heap.objs.size)).get? (s.heap.objs.size + 1) = some (enObj s.heap.objs.size) := by
    rw [← sz]
    exact Heap.get?_push_size _ rfl
  have at0 : ((s.heap.push o).push (enObj s.heap.objs.size)).get? s.heap.objs.size = some o := Heap.get?_push_of_some _ (Heap.get?_push_size _ B.free)
  have fin := k _ at1 at0 fun b u e => Heap.get?_push_of_some _ (Heap.get?_push_of_some _ e)
  refine callType_new F.called_enumerate (by decide) (F.typeCall_enumerate_1 _) (F.newCall_enumerate_1 _) (fun obj => F.args_object_init_2 obj _) F.entry_enumerate_new (vl_enum_new B) ⟨h1, ?_⟩
  rw [sz]
  exact ⟨⟨_, at1, rfl⟩, fin⟩
end PySem
namespace VL
open PySem PySem.Spec
open PyProof.Rows L2
open Evl (Ex sz_of)
/-! ### enumerate of one source, walked: by the library's GoesN.enumFrom -/
def eAt (S : Src) (n : Nat) (N : Addr) (i : Nat) (h : Heap) : Prop := (∃ old, IsEnum h (N + 1) N (0 + (i : Int)) old) ∧ S.ci N i h ∧ i ≤ n
theorem eWalk {X : Cx} {elts : List Expr} {kk : Nat} {tpos : Pos} {S : Src} {u : Value} {xs : List V} {Gd : Hp → Prop} {N : Addr} {pins : List (Addr × Obj)} {σ : L2.St} {H : Hp} {s : Shared} (f : SrcIn X S u xs Gd) (lt : ∀ b ∈ S.ex, b < N) (hc : X.calm = true) (I : Inv X pins σ H s) (g : Gd H) :
    ∃ c : Heap → Prop, c s.heap ∧ GoesN X.prog X.w X.A (.Tuple elts kk tpos) (N + 1) ((N + 1) :: N :: S.ex) [N + 1, N] xs.length
      (fun i h₀ v h => ∃ T t x, v = .ref T ∧ h₀.objs.size ≤ T ∧ (∃ d, xs[i]? = some d ∧ RelV d x) ∧ h.IsTuple T #[.int (0 + (i : Int)) t, x]) (fun i h => (∃ old, IsEnum h (N + 1) N (0 + (i : Int)) old) ∧ S.ci N i h ∧ c h) := by
  obtain ⟨c, hp, _, _, dr⟩ := f pins σ H s I g
  have hd : X.A.in1.handled = none := I.ok.hd hc
  have n1 : N ∉ S.ex := fun z => absurd (lt N z) (Nat.lt_irrefl _)
  have n2 : N + 1 ∉ N :: S.ex := fun z => by
    rcases List.mem_cons.mp z with z | z
    · exact absurd z (Nat.succ_ne_self N)
    · exact absurd (lt _ z) (Nat.not_lt.mpr (Nat.le_succ N))
  exact ⟨c, hp, GoesN.enumFrom 0 (dr X.A.in1 N hd n1) (N + 1) (Nat.succ_ne_self N) n2 List.mem_cons_self⟩
theorem turn_enumV {P : Program} {w : World} {K : PySem.W.Frag} {elts : List Expr} {kk : Nat} {tpos : Pos} {S : Src} {u : Value} {xs : List V} {Gd : Hp → Prop} {N : Addr} (f : ∀ X : Cx, X.K = K → SrcIn X S u xs Gd) (lt : ∀ b ∈ S.ex, b < N) :
    Turn P w K (.Tuple elts kk tpos) (ItE xs Gd) [N + 1, N] (N + 1) (eAt S xs.length N) where
  mem := List.mem_cons_self
  obj := fun i h t b hb => by
    obtain ⟨⟨old, z⟩, z2, _⟩ := t
    simp only [List.mem_cons, List.not_mem_nil, or_false] at hb
    rcases hb with q | q <;> subst q
    · exact ⟨_, z, fun _ x => nomatch x⟩
    · exact S.liv _ _ _ z2
  keep := fun i h h' t k => by
    obtain ⟨⟨old, z⟩, z2, z3⟩ := t
    exact ⟨⟨old, k _ (by simp) _ z⟩, S.mov h h' N i z2 (k N (by simp)), z3⟩
  self := fun A i s Q E t q => by
    obtain ⟨⟨old, z⟩, _⟩ := t
    exact wpAny_pyIter_enum z q
  item := by
    intro X e1 e2 e3 hc i pins s σ H E I ok t go
    subst e1 e2 e3
    obtain ⟨c, hp, W⟩ := eWalk (elts := elts) (kk := kk) (tpos := tpos) (f X rfl) lt hc I go.1
    obtain ⟨⟨old, z1⟩, z2, z3⟩ := t
    obtain ⟨oN, hN, _⟩ := S.liv _ _ _ z2
    refine W.goes i s _ E go.2 ⟨⟨old, z1⟩, z2, hp⟩ fun v h' tk y st kp _ => ?_
    obtain ⟨T, tt, a, ev, hT, ⟨x, hx, rx⟩, tp⟩ := y
    subst ev
    obtain ⟨y1, y2, _⟩ := st
    have e0 : (0 : Int) + (i : Int) = (i : Nat) := by omega
    rw [e0] at tp
    have ob : ObjOk X.prog X.w (upd H T (.tup [.int (i : Nat), x])) h' T (.tup [.int (i : Nat), x]) := ⟨by rw [sizeLine_eq]; show 2 ≤ 16777216; decide, [.int (i : Nat) tt, a], .cons ⟨tt, rfl⟩ (.cons rx .nil), tp⟩
    refine ⟨.ref T, _, I.turnedNew (t' := tk) (ch := [N + 1, N]) kp ok hT ob, rfl, ⟨T, x, rfl, I.hok.fresh hT, rfl, hx⟩, ⟨y1, y2, go.2⟩, fun b hb => ?_⟩
    have hb' : b < s.heap.objs.size := by
      simp only [List.mem_cons, List.not_mem_nil, or_false] at hb
      rcases hb with q | q <;> subst q
      · exact Heap.lt_size z1
      · exact Heap.lt_size hN
    have ne : b ≠ T := Nat.ne_of_lt (Nat.lt_of_lt_of_le hb' hT)
    rw [upd_ne ne]
    exact (ok b hb).1
  done := by
    intro X e1 e2 e3 hc i pins s σ H E I ok t stp
    subst e1 e2 e3
    obtain ⟨c, hp, W⟩ := eWalk (elts := elts) (kk := kk) (tpos := tpos) (f X rfl) lt hc I stp.1
    obtain ⟨z1, z2, z3⟩ := t
    have hi : i = xs.length := Nat.le_antisymm z3 stp.2
    rw [hi] at z1 z2
    exact W.stops s _ E ⟨z1, z2, hp⟩ fun h' tk kp _ => I.turnedL (t' := tk) (ch := [N + 1, N]) kp ok
theorem pi_enumV {X : Cx} {a : Expr} {ta : TA} {p pos tpos : Pos} {elts : List Expr} {kk : Nat} (hg : Gl X "enumerate") (hm : X.mg "enumerate" = none) (ha : PA X [a] ta) (h1 : starEach [a] X.env = (false, eval a X.env) :: starEach [] X.env := by rfl) (h2 : (backTo pos (starEach [] X.env)).any (·.1) = false := by rfl) :
    PI X (.Tuple elts kk tpos) (.Call (.Name "enumerate" p) [a] [] pos) (iEnumV X.K ta) where
  run := fun pins s σ H R I h => by
    have args := ha.run pos pins s σ H _ I h
    refine Call_ (ld_blt I hg hm boot_enumerate ?_)
    refine callWith_type1 (thn args fun us s1 got => ?_) h1 h2
    obtain ⟨vs, H1, I1, rel, v, xs, Gd, ev, k1, g, q⟩ := got
    subst ev
    obtain ⟨c, eu, rc⟩ := vals1 rel
    subst eu
    obtain ⟨S, f⟩ := k1.src rc
    obtain ⟨hc, p1, B, lt, _⟩ := f X rfl pins σ H1 s1 I1 g
    refine vl_call_enum B p1 fun h' z1 i1 kp => wpAny_pyIter_enum z1 ?_
    refine ⟨_, [s1.heap.objs.size + 1, s1.heap.objs.size], eAt S xs.length s1.heap.objs.size, _, H1, rfl, I1.kept (t' := s1.toks) kp, turn_enumV f lt, ⟨⟨_, z1⟩, S.ini _ _ i1, Nat.zero_le _⟩, fun b hb => ?_, q⟩
    have hb' : s1.heap.objs.size ≤ b := by
      simp only [List.mem_cons, List.not_mem_nil, or_false] at hb
      rcases hb with z | z <;> rw [z]
      · exact Nat.le_succ _
      · exact Nat.le_refl _
    exact I1.fpOk hb' (I1.hok.fresh hb')
end VL

namespace VL
open PySem PySem.Spec
open PyProof.Rows L2
open Evl (Ex sz_of)

/-! ### sorted, of ints -/
def setIn (x : Int) : List Int → List Int
  | [] => [x]
  | y :: r => if x ≤ y then x :: y :: r else y :: setIn x r
def isort : List Int → List Int
  | [] => []
  | x :: r => setIn x (isort r)
theorem setIn_perm (x : Int) : ∀ l, (setIn x l).Perm (x :: l)
  | [] => .refl _
  | y :: r => by
    unfold setIn
    split
    · exact .refl _
    · exact ((setIn_perm x r).cons y).trans (.swap x y r)
theorem isort_perm : ∀ l, (isort l).Perm l
  | [] => .refl _
  | x :: r => (setIn_perm x _).trans ((isort_perm r).cons x)
theorem setIn_up (x : Int) : ∀ l : List Int, l.Pairwise (· ≤ ·) → (setIn x l).Pairwise (· ≤ ·)
  | [], _ => by simp [setIn]
  | y :: r, h => by
    have h' := List.pairwise_cons.mp h
    unfold setIn
    split
    · rename_i le
      refine List.pairwise_cons.mpr ⟨fun z hz => ?_, h⟩
      rcases List.mem_cons.mp hz with q | q
      · rw [q]; exact le
      · exact Int.le_trans le (h'.1 z q)
    · rename_i gt
      refine List.pairwise_cons.mpr ⟨fun z hz => ?_, setIn_up x r h'.2⟩
      rcases List.mem_cons.mp ((setIn_perm x r).mem_iff.mp hz) with q | q
      · rw [q]; omega
      · exact h'.1 z q
theorem isort_up : ∀ l, (isort l).Pairwise (· ≤ ·)
  | [] => .nil
  | x :: r => setIn_up x _ (isort_up r)
theorem hu65_of {A : Around} {k : Nat} (r : L2.Room k A) : A.units + 65 < cLine := by have := r.un; omega
theorem isort_only {a l : List Int} (p : a.Perm l) (u : a.Pairwise (· ≤ ·)) : a = isort l := PySem.W.ksm_same (p.trans (isort_perm l).symm) u (isort_up l)
def intsD : List D → Option (List Int)
  | [] => some []
  | .int i :: r => (intsD r).map (i :: ·)
  | _ => none
def fSortI : List D → Option O
  | [.lst ds] => (intsD ds).map fun ns => .lst ((isort ns).map .int)
  | [.tup ds] => none
  | _ => none
section
variable {G : Cn} {F H : Hp} {σ : L2.St} {ρ : Rho} {α : Al}
theorem intsD_reps : ∀ {vs : List V} {ds : List D} {ns : List Int}, Reps G F vs ds → intsD ds = some ns → vs = ns.map V.int
  | _, [], ns, h, e => by
    cases e
    rw [h.of_nil]
    rfl
  | _, d :: ds, ns, h, e => by
    obtain ⟨v, r, rfl, h1, h2⟩ := h.of_cons
    cases d <;> try cases e
    rename_i i
    unfold intsD at e
    cases q : intsD ds with
    | none => rw [q] at e; cases e
    | some ms =>
      rw [q] at e
      cases e
      rw [intsD_reps h2 q, h1.toInt]
      rfl
theorem cs_sortI : CSem G (rSortedI G.K) fSortI := fun {E F H σ ρ α Q vs ds} S hv h => by
  unfold fSortI at h
  split at h
  · rename_i ds0
    obtain ⟨v, rfl, hx⟩ := hv.one
    obtain ⟨a, ws, rfl, h1, h2⟩ := hx.l S.ex
    cases q : intsD ds0 with
    | none => rw [q] at h; exact h.elim
    | some ns =>
      rw [q] at h
      refine ⟨a, ns, rfl, by rw [← intsD_reps h2 q]; exact SqL.of h1, fun ns' p pm up hp => ?_⟩
      rw [isort_only pm up]
      exact Post.newL h S hp (reps_ints (isort ns))
  · exact h.elim
  · exact h.elim
end
/-! ### the place of an item -/
def idxOf : List PyData → PyData → Option Nat
  | [], _ => none
  | z :: r, p => if PyData.eqv z p = true then some 0 else (idxOf r p).map (· + 1)
theorem idxOf_some : ∀ {l : List PyData} {p : PyData} {j : Nat}, idxOf l p = some j → (∃ z, l[j]? = some z ∧ PyData.eqv z p = true) ∧ ∀ (m : Nat) (z' : PyData), m < j → l[m]? = some z' → PyData.eqv z' p = false
  | [], _, _, h => by cases h
  | z :: r, p, j, h => by
    unfold idxOf at h
    split at h
    · rename_i e
      cases h
      exact ⟨⟨z, rfl, e⟩, fun m z' hm => absurd hm (Nat.not_lt_zero m)⟩
    · rename_i e
      cases q : idxOf r p with
      | none => rw [q] at h; cases h
      | some i =>
        rw [q] at h
        cases h
        obtain ⟨⟨y, hy, ey⟩, no⟩ := idxOf_some q
        refine ⟨⟨y, by simpa using hy, ey⟩, fun m z' hm hz => ?_⟩
        cases m with
        | zero =>
          have : z = z' := by simpa using hz
          rw [← this]
          simpa using e
        | succ m =>
          have hm' : m + 1 < i + 1 := hm
          exact no m z' (by omega) (by simpa using hz)
def idxD (x y : D) : Option O := match toPy x, toPy y with
  | some (.list ps), some p => if (SeqAt.shaped (.list ps) && SeqAt.shaped p) = true then (idxOf ps p).map fun j => .val (.int (j : Nat)) else none
  | _, _ => none
def mIdx (a b : M) : M := fun ρ => bnd (a ρ) fun o ρ1 => match o.frz with
  | .lst _ => bnd (b ρ1) fun o' ρ2 => (idxD o.frz o'.frz).map fun x => (.ok x, ρ2)
  | _ => none
section
variable {G : Cn} {E : XK} {ta tb : TE} {ma mb : M}
theorem sem_idx (ha : Sem G E ta ma) (hb : Sem G E tb mb) : Sem G E (tBM G.K "list" (rIndexD G.K) ta (tCons tb tNil)) (mIdx ma mb) := ⟨fun {F H σ ρ α Q} S h => by
  unfold mIdx at h
  refine ha.run S (Post.to h fun o ρ1 v F1 H1 α1 S1 r1 T1 N1 h1 => ?_)
  split at h1
  · rename_i ds0 e0
    have r1' := r1
    rw [e0] at r1'
    unfold Rep at r1'
    obtain ⟨a, vs, ev, h2, h3⟩ := r1'
    subst ev
    refine ⟨.inl ⟨rfl, vs, SqL.of (S1.ex _ _ h2)⟩, hb.run S1 (Post.to (Post.shift T1 N1 h1) fun o2 ρ2 v2 F2 H2 α2 S2 r2 T2 N2 h4 => ?_)⟩
    unfold idxD at h4
    split at h4
    · rename_i ps p e1 e2
      split at h4
      · rename_i sh
        rw [Bool.and_eq_true] at sh
        cases ej : idxOf ps p with
        | none => rw [ej] at h4; exact h4.elim
        | some j =>
          rw [ej] at h4
          obtain ⟨⟨z, hz, ez⟩, no⟩ := idxOf_some ej
          exact ⟨a, v2, p, ps, j, z, rfl, rfl, toPy_dp S2.ex _ (r1.mono T2.exF) e1, toPy_dp S2.ex _ r2 e2, sh.1, sh.2, hz, ez, no, Post.val (Post.shift T2 N2 h4) S2 Rep.ofInt⟩
      · exact h4.elim
    · exact h4.elim
  · exact h1.elim⟩
end
end VL

namespace VL
open PySem PySem.Spec
open PyProof.Rows L2
open Evl (Ex sz_of)

/-! ### list(range(n)) -/
def mLR1 (a : M) : M := fun ρ => bnd (a ρ) fun o ρ1 => match o.frz with
  | .int n => if -1000000 ≤ n ∧ n ≤ 100000 then some (.ok (.lst (range 0 n.toNat)), ρ1) else none
  | _ => none
section
variable {G : Cn} {E : XK} {F H : Hp} {σ : L2.St} {ρ : Rho} {α : Al} {ta : TE} {ma : M}
theorem reps_rg (n : Int) : Reps G F (rgV 0 n) (range 0 n.toNat) := by
  have e : rgV 0 n = (List.range n.toNat).map fun (i : Nat) => V.int (0 + (i : Int)) := by
    unfold rgV
    rw [Int.sub_zero]
  rw [e]
  unfold range
  generalize List.range n.toNat = l
  induction l with
  | nil => exact Reps.nil
  | cons i l ih => exact Reps.cons Rep.ofInt ih
theorem sem_lr1 (ha : Sem G E ta ma) : Sem G E (tLstRg (tRg1 ta)) (mLR1 ma) := ⟨fun {F H σ ρ α Q} S h =>
  ha.run S (Post.to h fun o ρ1 v F1 H1 α1 S1 r1 T1 N1 h1 => by
    split at h1
    · rename_i n e
      rw [e] at r1
      split at h1
      · rename_i hn
        have ok : RgOk 0 n := ⟨by decide, by decide, by omega, by omega, by omega⟩
        exact ⟨n, r1.toInt, ok, fun q hq => Post.newL (Post.shift T1 N1 h1) S1 hq (reps_rg n)⟩
      · exact h1.elim
    · exact h1.elim)⟩
end
/-! ### a def's promise at arguments that are data -/
section
variable {G : Cn} {E : XK} {F1 H1 : Hp} {σ : L2.St} {ρ1 : Rho} {α1 : Al} {fn : Fn} {n : Nat}
def onData (fn : Fn) (ds : List D) (ρ : Rho) : Option (Res × Rho) := match fn (ds.map .val) with
  | some (r, _) => some (r, ρ)
  | none => none
theorem spF_data {E1 : XK} {vs : List V} {ds : List D} {Q : VK} (hE : E1 = E ∨ ∀ os c f os', fn os ≠ some (.ex c f, os')) (hl : ∀ os r, fn os = some r → os.length = n) (S1 : Ste G F1 H1 σ ρ1 α1) (sr : Reps G F1 vs ds)
    (h2 : Post G E F1 H1 σ α1 (onData fn ds ρ1) Q) : spF G fn n vs H1 Q E1 := by
  unfold onData at h2
  match q : fn (ds.map O.val), h2 with
  | none, h2 => exact h2.elim
  | some (r, os'), h2 =>
    refine ⟨by rw [sr.length, ← hl _ _ q, List.length_map], F1, ds.map O.val, fun _ => [], Ste.args S1.ex sr, ?_⟩
    rw [q]
    have ow : ∀ a, ¬ Own (fun _ => ([] : List Addr)) a := fun a ⟨_, z⟩ => nomatch z
    match r, h2 with
    | .ok o, h2 =>
      exact fun v F' H' α' β S' R' T' M' N' => by
        have kp : Ex H1 H' := fun b u hb => T'.keep b u hb (ow b)
        have nf : ∀ b u, F' b = some u → F1 b = some u ∨ H1 b = none := fun b u hb => (T'.newF b u hb).elim .inl fun z => z.elim .inr fun y => (ow b y).elim
        refine h2 v F' H' α1 β (S1.grow T'.exF kp nf S'.ex) R' (T'.weak fun a z => (ow a z).elim) (fun a ha z => ?_) fun a z => ?_
        · rcases N' a (.inr ha) with y | y
          · exact ow a y
          · exact S1.notown y z
        · rcases z with z | z
          · exact .inl z
          · rcases N' a (.inr z) with y | y
            · exact (ow a y).elim
            · exact .inr y
    | .ex c none, h2 =>
      rcases hE with rfl | hE
      · exact fun F' H' T' => h2 F' H' (T'.weak fun a z => (ow a z).elim)
      · exact (hE _ _ _ _ q).elim
    | .ex c (some fs), h2 =>
      rcases hE with rfl | hE
      · exact fun F' H' dd fvs T' => h2 F' H' dd fvs (T'.weak fun a z => (ow a z).elim)
      · exact (hE _ _ _ _ q).elim
end
/-! ### o.m(..), o.p of own classes -/
def mMeth (c : Nat) (m : Str) (fn : Fn) (a : M) (ms : MA) : M := fun ρ => bnd (a ρ) fun o ρ1 => match o.frz with
  | .ins c' fs => if c' = c ∧ fs.lookup m = none then bnd (ms ρ1) fun ais ρ2 => (match dsOnly ais with
    | some ds => onData fn (.ins c' fs :: ds) ρ2
    | none => none) else none
  | _ => none
def mProp (c : Nat) (fn : Fn) (a : M) : M := fun ρ => bnd (a ρ) fun o ρ1 => match o.frz with
  | .ins c' fs => if c' = c then onData fn [.ins c' fs] ρ1 else none
  | _ => none
section
variable {G : Cn} {E E1 : XK} {ta : TE} {ma : M} {t : TA} {ms : MA} {fn : Fn} {n c : Nat} {m : Str}
theorem sem_meth (hE : E1 = E ∨ ∀ os c f os', fn os ≠ some (.ex c f, os')) (hl : ∀ os r, fn os = some r → os.length = n) (ha : Sem G E ta ma) (ht : SemA G E t ms) : Sem G E (tMeth (G.cls c) m (spF G fn n) [] E1 ta t) (mMeth c m fn ma ms) := ⟨fun {F H σ ρ α Q} S h =>
  ha.run S (Post.to h fun o ρ1 v F1 H1 α1 S1 r1 T1 N1 h1 => by
    split at h1
    · rename_i c' fs e
      rw [e] at r1
      split at h1
      · rename_i hc
        obtain ⟨rfl, hm⟩ := hc
        have r1' := r1
        unfold Rep at r1
        obtain ⟨a, dx, fvs, ev, e1, e2⟩ := r1
        refine ⟨a, dx, fvs, ev, S1.ex _ _ e1, repsF_none e2 hm, ht.run S1 (PostA.to (Post.shift T1 N1 h1) fun xs ρ2 vs F2 H2 α2 S2 r2 T2 N2 h2 => ?_)⟩
        rw [List.append_nil]
        split at h2
        · rename_i ds ed
          exact spF_data hE hl S2 (Reps.cons (r1'.mono T2.exF) (dsOnly_r r2 ed)) (Post.shift T2 N2 h2)
        · exact h2.elim
      · exact h1.elim
    · exact h1.elim)⟩
theorem sem_prop (hE : E1 = E ∨ ∀ os c f os', fn os ≠ some (.ex c f, os')) (hl : ∀ os r, fn os = some r → os.length = n) (ha : Sem G E ta ma) : Sem G E (tProp (G.cls c) (spF G fn n) [] E1 ta) (mProp c fn ma) := ⟨fun {F H σ ρ α Q} S h =>
  ha.run S (Post.to h fun o ρ1 v F1 H1 α1 S1 r1 T1 N1 h1 => by
    split at h1
    · rename_i c' fs e
      rw [e] at r1
      split at h1
      · rename_i hc
        subst hc
        have r1' := r1
        unfold Rep at r1
        obtain ⟨a, dx, fvs, ev, e1, e2⟩ := r1
        refine ⟨a, dx, fvs, ev, S1.ex _ _ e1, ?_⟩
        rw [← ev]
        exact spF_data hE hl S1 (Reps.one r1') (Post.shift T1 N1 h1)
      · exact h1.elim
    · exact h1.elim)⟩
end
end VL

namespace VL
open PySem PySem.Spec
open PyProof.Rows L2
open Evl (Ex sz_of)

/-! ### errors of the program's own that are made with a text, and defs that raise, called -/
def sRaise0 (c : Nat) : MS := fun _ ρ => some (.ex c none, ρ)
section
variable {G : Cn} {E : XK}
theorem semS_raise0 {c : Nat} : SemS G E (fun _ σ H => E (.ref (G.cls c)) none H) (sRaise0 c) := ⟨fun {F H σ ρ α D pins} S h => h F H .refl⟩
end
/-- what the written part says of such a class -/
structure OwnErr (K : PySem.W.Frag) (C : Addr) : Prop where
  made : PySem.W.excIn K C PySem.HandSPX.veTail "ValueError.__new__" = true
  keep : PySem.W.keepIn K (.ref C) = true
  base : PySem.W.subIn K (.ref C) (.type "BaseException") = some true
  isC : PySem.W.typeIn K (.ref C) = some (.type "type")
theorem ps_raise0 {X : Cx} {C : Addr} {x m : Str} {j : Nat} {p p2 pos pos2 : Pos} {W : WX} (hc : X.calm = true) (tk : Takes X W) (T : OwnErr X.K C) (hm : X.mg x = some (.ref C)) (hg : Gl X x := by rfl) (hdb : (x == ("__debug__" : Str)) = false := by decide) :
    PS X (.Raise (some (.Call (.Name x p) [.Constant (.str m) j p2] [] pos)) none pos2) (fun _ σ H => W (.ref C) none σ H) :=
  L2.ps_raise hc tk (pmk_own PySem.F.excBase_ValueError T.made hm T.keep (raises_own T.base T.isC) hg hdb)
section
variable {X : Cx} {x : Str} {p pos : Pos} {e : Expr} {es : List Expr} {t : TA} {f : Addr} {k : Nat} {ps : List Str} {sp : Sp} {CX : CXT} {E : XK}
theorem pe_callX (O : OkAt X.prog X.w X.K X.mg X.base CX k f ps sp) (hx : Passes CX X E) (hr : Room k X.A) (hm : X.mg x = some (.ref f)) (ha : PA X (e :: es) t) (hg : Gl X x := by rfl)
    (he : starEach (e :: es) X.env = (false, eval e X.env) :: starEach es X.env := by rfl) (hpl : (backTo pos (starEach es X.env)).any (·.1) = false := by rfl) (hdb : (x == ("__debug__" : Str)) = false := by decide) :
    PE X (.Call (.Name x p) (e :: es) [] pos) (tCall sp [] E t) := by
  obtain ⟨fd, F, B, kp⟩ := O.ok
  exact pe_call F hr hg hm kp B .nil hx ha hdb he hpl
theorem pe_methX {C : Addr} {m : Str} {o : Expr} {ta : TE} {apos : Pos} {pl : PySem.Sem Bool} (O : OkAt X.prog X.w X.K X.mg X.base CX k f ps sp) (c : Cls X.K C) (hm : Meth X.K C m f) (hx : Passes CX X E) (hr : Room k X.A) (he : PE X o ta) (ha : PA X (e :: es) t)
    (hst : starEach (e :: es) X.env = (false, eval e X.env) :: starEach es X.env := by rfl) (hpl : (backTo pos (starEach es X.env)).any (·.1) = false := by rfl)
    (ht : eval (.Call (.Attribute o m apos) (e :: es) [] pos) X.env = (do
      let ov ← eval o X.env
      standAt apos.atName
      let (g, fst) ← holding [ov] (getMethod ov m pl)
      callWith pos g fst (backTo pos (starEach (e :: es) X.env)) (backToKw pos (keywordEach [] X.env))) := by rfl) : PE X (.Call (.Attribute o m apos) (e :: es) [] pos) (tMeth C m sp [] E ta t) := by
  obtain ⟨fd, F, B, kp⟩ := O.ok
  exact pe_meth he c hm F hr B .nil hx ha hst hpl ht
theorem pe_propX {C : Addr} {m : Str} {o : Expr} {ta : TE} (O : OkAt X.prog X.w X.K X.mg X.base CX k f ps sp) (c : Cls X.K C) (hp : ∃ p, PropOf X.K C m p f) (hx : Passes CX X.nox E) (hr : Room (k + 1) X.A) (he : PE X o ta)
    (hab : attributeBase o m X.env (eval o X.env) = eval o X.env) : PE X (.Attribute o m pos) (tProp C sp [] E ta) := by
  obtain ⟨fd, F, B, kp⟩ := O.ok
  obtain ⟨p, hp⟩ := hp
  exact pe_prop he c hp F hr B .nil hx hab
theorem passX {X : Cx} {E : XK} (tk : Takes X (fun cls d _ H => E cls d H)) : Passes (L2.CX X.prog X.w) X E := L2.passes_call tk fun _ _ _ _ h => h
end
end VL

namespace VL
open PySem PySem.Spec
open PyProof.Rows L2
open Evl (Ex sz_of)

/-! ### a def called in the frames as they are, a little deeper -/
section
variable {X : Cx} {CX : CXT} {k : Nat} {f C : Addr} {fd : FuncData} {ps : List Str} {sp : Sp} {E : XK}
theorem run_own {A : Around} {pins : List (Addr × Obj)} {σ : L2.St} {H : Hp} {s : Shared} {Q : VK} {us : List Value} {vs : List V} (fr : A.frames = some X.stack) (F : FnOk X.prog X.w X.K X.mg X.base CX k f fd ps sp) (hr : Room k A) (hb : Binds X.K fd ps []) (hx : Passes CX X E) (I : Inv X pins σ H s) (rel : Vals vs us) (h : sp vs H Q E) :
    wpAny (model X.prog X.w) A (call (.ref f) us) (EP X pins σ Q) X.xe s := by
  have e := I.env0
  have env : Env0 X.prog X.w X.K X.mg X.base A X.stack s H := ⟨fr, e.mod, e.bs, e.bsz, e.funs, e.frf, e.hok, e.bare⟩
  have len : us.length = ps.length := rel.length.symm.trans (F.len _ _ _ _ h)
  have bind : BindsTo s fd ⟨us, []⟩ (ps.zip us) := by
    have := hb s us I.kIn (by simpa using len)
    simpa using this
  have go := F.run A X.stack s H ⟨us, []⟩ us vs Q E hr env bind rel h
  refine wpAny_call (codeAny_mono go fun r s' out => ?_)
  match r, out with
  | .error u, out => exact hx pins σ H s u s' I out
  | .ok (.ret u), out => exact I.after out
  | .ok .next, out => exact out.elim
  | .ok .brk, out => exact out.elim
  | .ok .cont, out => exact out.elim
end
/-! ### == of own classes, with their own __eq__, and != by it -/
/-- both are instances of the class at C; what its __eq__ says, a truth value -/
def rOwn (C : Addr) (sp : Sp) (neg : Bool) : R2 := fun x y H Q => ∃ a b dx dy fs gs, x = .ref a ∧ y = .ref b ∧ H a = some (.ins C dx fs) ∧ H b = some (.ins C dy gs) ∧ sp [x, y] H (fun v H' => ∃ t, v = .bl t ∧ Q (.bl (if neg = true then !t else t)) H') E0
structure OwnCmp (K : PySem.W.Frag) (C f : Addr) : Prop where
  eq : PySem.W.findIn K (.ref C) "__eq__" = some (some (.ref f))
  fnOk : PySem.W.isFn K (.ref f) = true
  ne : PySem.W.findIn K (.ref C) "__ne__" = some (some (.builtin "object.__ne__"))
  ob : PySem.W.mroIn K C (.type "object") = some true
section
variable {X : Cx} {k : Nat} {f C : Addr} {ps : List Str} {sp : Sp}
theorem op_own (O : OkAt X.prog X.w X.K X.mg X.base CX0 k f ps sp) (c : OwnCmp X.K C f) (hr : Room k X.A) : OpR X (compareOp .Eq) (rOwn C sp false) := by
  obtain ⟨fd, F, B, _⟩ := O.ok
  intro pns s σ H x y v u Q inv rx ry got
  obtain ⟨a, b, dx, dy, fs, gs, ex, ey, ha, hb, h⟩ := got
  subst ex ey
  cases rx
  cases ry
  obtain ⟨mA, JA, _⟩ := ins_get inv.hok ha
  obtain ⟨mB, JB, _⟩ := ins_get inv.hok hb
  obtain ⟨oa, IA, _⟩ := JA.look
  obtain ⟨ob, IB, _⟩ := JB.look
  obtain ⟨m, fr⟩ := inv.fr
  have un : X.A.units < cLine := by have := hr.un; omega
  refine PySem.W.cmp_ofEq ?_
  refine PySem.W.cmp_K (op := .Eq) (tb := .ref C) un fr inv.ok.mod.kin IA IB.type (by simp [PySem.W.notFirst]) c.eq c.fnOk ?_
  have rel : Vals [V.ref a, V.ref b] [Value.ref a, Value.ref b] := .cons (show RelV (V.ref a) (Value.ref a) from rfl) (.cons (show RelV (V.ref b) (Value.ref b) from rfl) .nil)
  refine thn (run_own inv.env0.frames F hr B pass0 inv rel h) fun w s' out => ?_
  obtain ⟨z, H', I', rz, t, ez, q⟩ := out
  subst ez
  cases rz
  exact ⟨.bl t, H', I', rfl, by simpa using q⟩
/-- the special method that the class has from object, asked for -/
theorem ifBound_obj {M : Model} {A : Around} {E : Value → Shared → Prop} {s : Shared} {K : PySem.W.Frag} {x C : Addr} {ox : Obj} {od : Option Obj} {name : Str} {args : List Value} {id : String} {Q : Option Value → Shared → Prop} (inK : K.In s.heap) (I : PySem.W.InstAt s.heap x ox C od)
    (fnd : PySem.W.findIn K (.ref C) name = some (some (.builtin id))) (bnd : ∀ self, bindSpecial (.builtin id) self = pure (.builtin id, [self])) (go : wpAny M A (call (.builtin id) (.ref x :: args)) (fun v => Q (some v)) E s) : wpAny M A (callSpecialIfBound? (.ref x) name args) Q E s := by
  have spec : PySem.W.Looks M s.heap (specialOf (.ref x) name) (some (.builtin id)) := I.type.andThen (PySem.W.looks_findIn inK fnd)
  have last : wpAny M A (call (.builtin id) ([.ref x] ++ args) >>= fun v => pure (some v)) Q E s := wpAny_bind (thn go fun v s' q => wpAny_pure q)
  unfold callSpecialIfBound? bindSpecialIfBound?
  simp only [bnd]
  refine wpAny_holding (wpAny_bind (wpAny_bind (spec.here ?_)))
  refine wpAny_bind (wpAny_askSetting ?_)
  refine wpAny_ite ?_
  split
  · exact wpAny_bind (wpAny_of_eq (bnd _) (wpAny_pure last))
  · exact wpAny_tryCatch (wpAny_bind (wpAny_of_eq (bnd _) (wpAny_pure last)))
/-- object.__ne__ asks __eq__ -/
theorem obj_ne {prog : Program} {w : World} {A : Around} {E : Value → Shared → Prop} {s : Shared} {K : PySem.W.Frag} {x C f : Addr} {y : Value} {ox : Obj} {od : Option Obj} {Q : Fin → Shared → Prop} (inK : K.In s.heap) (I : PySem.W.InstAt s.heap x ox C od)
    (fnd : PySem.W.findIn K (.ref C) "__eq__" = some (some (.ref f))) (isf : PySem.W.isFn K (.ref f) = true) (un : A.units < cLine)
    (go : wpAny (model prog w) A (call (.ref f) [.ref x, y]) (fun v s' => ∃ t, v = .bool t ∧ Q (.done (.ret (.bool (!t)))) s') E s) : wpAny (model prog w) A (Builtin.«object.__ne__» ⟨[.ref x, y], []⟩) Q E s := by
  have ask : wpAny (model prog w) A (callSpecialIfBound? (.ref x) "__eq__" [y]) (fun r s' => ∃ t, r = some (.bool t) ∧ Q (.done (.ret (.bool (!t)))) s') E s :=
    PySem.W.ifBound_K inK I fnd isf (thn go fun v s' q => by
      obtain ⟨t, e, q⟩ := q
      exact ⟨t, by rw [e], q⟩)
  obtain ⟨h, g, d, t, os⟩ := s
  unfold Builtin.«object.__ne__»
  repeat (first
    | with_reducible refine wpAny_cRoomFor un ?_
    | (refine wpAny_bind (m := callSpecialIfBound? (.ref x) (Str.ofString "__eq__") [y]) (thn ask fun r s' q => ?_))
    | wp_step)
  obtain ⟨b, e, q⟩ := q
  subst e
  repeat (first | exact q | exact wpAny_pure q | exact wpAny_truthy_bool q | (refine wpAny_bind (m := truthy (.bool _)) (wpAny_truthy_bool ?_)) | wp_step)
theorem op_ownNe (O : OkAt X.prog X.w X.K X.mg X.base CX0 k f ps sp) (c : OwnCmp X.K C f) (hr : Room (k + 2) X.A) : OpR X (compareOp .NotEq) (rOwn C sp true) := by
  obtain ⟨fd, F, B, _⟩ := O.ok
  intro pns s σ H x y v u Q inv rx ry got
  obtain ⟨a, b, dx, dy, fs, gs, ex, ey, ha, hb, h⟩ := got
  subst ex ey
  cases rx
  cases ry
  obtain ⟨mA, JA, _⟩ := ins_get inv.hok ha
  obtain ⟨mB, JB, _⟩ := ins_get inv.hok hb
  obtain ⟨oa, IA, _⟩ := JA.look
  obtain ⟨ob, IB, _⟩ := JB.look
  have un : X.A.units + 1 < cLine := by have := hr.un; omega
  have un0 : X.A.units < cLine := Nat.lt_of_succ_lt un
  have rel : Vals [V.ref a, V.ref b] [Value.ref a, Value.ref b] := .cons (show RelV (V.ref a) (Value.ref a) from rfl) (.cons (show RelV (V.ref b) (Value.ref b) from rfl) .nil)
  have hr1 : Room k X.A.in1 := ((hr.mono (Nat.le_succ _)).in1)
  have go : wpAny (model X.prog X.w) X.A.in1 (call (.ref f) [.ref a, .ref b]) (fun v s' => ∃ t, v = .bool t ∧ ∃ t', Value.bool (!t) = .bool t' ∧ EP X pns σ Q (.bool (!t)) s') X.xe s :=
    thn (run_own inv.env0.frames F hr1 B pass0 inv rel h) fun w s' out => by
      obtain ⟨z, H', I', rz, t, ez, q⟩ := out
      subst ez
      have ew : w = .bool t := rz
      exact ⟨t, ew, !t, rfl, .bl (!t), H', I', rfl, by simpa using q⟩
  have isO : PySem.W.Looks (model X.prog X.w) s.heap (isInstance (.ref a) (.type "object")) true := IA.type.andThen (PySem.W.looks_mroIn inv.kIn c.ob)
  have slot : wpAny (model X.prog X.w) X.A (call (.builtin "object.__ne__") [.ref a, .ref b]) (fun v s' => ∃ t, v = .bool t ∧ EP X pns σ Q v s') X.xe s := by
    refine wpAny_call (codeAny_call_builtin PySem.F.slot_object_ne.plain PySem.F.cmpEntry_ne (PySem.W.check_slot PySem.F.cmpKind_ne PySem.F.cmpSplit_ne isO (PySem.F.cmpArgs_ne _ _) ?_))
    exact obj_ne inv.kIn IA c.eq c.fnOk un go
  have try1 : wpAny (model X.prog X.w) X.A (tryCompare (.ref a) "__ne__" (.ref b)) (fun r s' => ∃ v, r = some v ∧ EP X pns σ Q v s') X.xe s := by
    unfold tryCompare
    refine wpAny_bind (ifBound_obj inv.kIn IA c.ne (fun self => PySem.F.slot_object_ne.bind self) (thn slot fun v s' q => ?_))
    obtain ⟨t, e, q⟩ := q
    subst e
    exact wpAny_pure ⟨_, rfl, q⟩
  refine PySem.W.cmp_ofNotEq ?_
  unfold richCompare
  simp only [oneThing_ref]
  refine wpAny_holding (wpAny_bind (wpAny_cRoomFor un0 ?_))
  refine wpAny_bind (IA.type.here (wpAny_bind (IB.type.here ?_)))
  rw [show (Value.ref C != Value.ref C) = false by simp]
  simp only [Bool.false_eq_true, if_false]
  refine wpAny_bind (wpAny_pure ?_)
  simp only [Bool.false_eq_true, if_false]
  refine wpAny_bind (thn try1 fun r s' q => ?_)
  obtain ⟨v, e, q⟩ := q
  subst e
  exact wpAny_pure q
/-! ### len by an own __len__ -/
def rLenO (C : Addr) (sp : Sp) : List V → Hp → VK → Prop := fun xs H Q => ∃ a dx fs, xs = [.ref a] ∧ H a = some (.ins C dx fs) ∧ sp [.ref a] H (fun v H' => ∃ n : Int, v = .int n ∧ (0 ≤ n ∧ n < 2 ^ 63) ∧ Q (.int n) H') E0
theorem call_lenO (O : OkAt X.prog X.w X.K X.mg X.base CX0 k f ps sp) (c1 : PySem.W.findIn X.K (.ref C) "__len__" = some (some (.ref f))) (c2 : PySem.W.isFn X.K (.ref f) = true) (hr : Room (k + 1) X.A) : CallR X (.builtin "len") (rLenO C sp) := by
  obtain ⟨fd, F, B, _⟩ := O.ok
  intro pns s σ H vs us Q inv rel got
  obtain ⟨a, dx, fs, ex, ha, h⟩ := got
  subst ex
  obtain ⟨u, eu, ru⟩ := vals1 rel
  subst eu
  cases ru
  obtain ⟨mA, JA, _⟩ := ins_get inv.hok ha
  obtain ⟨oa, IA, _⟩ := JA.look
  obtain ⟨m, fr⟩ := inv.fr
  have rel : Vals [V.ref a] [Value.ref a] := .cons (show RelV (V.ref a) (Value.ref a) from rfl) .nil
  refine PySem.W.len_K fr inv.ok.mod.kin IA c1 c2 (thn (run_own inv.env0.frames F hr.in1 B pass0 inv rel h) fun w s' out => ?_)
  obtain ⟨z, H', I', rz, n, ez, hn, q⟩ := out
  subst ez
  obtain ⟨t, rz⟩ := rz
  subst rz
  exact ⟨hn, .int n, H', I'.tok _, ⟨_, rfl⟩, q⟩
end
section
variable {G : Cn} {E : XK} {ta tb : TE} {ma mb : M} {fn : Fn} {n c : Nat}
/-- what the callee hands back is seen, something else is wished for -/
theorem Post.seen {F H : Hp} {σ : L2.St} {ρ : Rho} {α : Al} {Q : VK} {d d' : D} (fl' : flatD d' = true) (fl : flatD d = true) (h : Post G E F H σ α (some (.ok (.val d'), ρ)) Q) :
    Post G E0 F H σ α (some (.ok (.val d), ρ)) (fun v H' => v = toV d ∧ Q (toV d') H') := fun v F' H' α' β S R T M N => by
  obtain ⟨e, r⟩ := R
  refine ⟨(flat_rep r fl).1, h (toV d') F' H' α' β S ⟨e, ?_⟩ T M N⟩
  cases d' <;> first | exact Rep.ofNon | exact Rep.ofBl | exact Rep.ofInt | exact Rep.ofStr | cases fl'
def mOwn (c : Nat) (fn : Fn) (neg : Bool) (a b : M) : M := fun ρ => bnd (a ρ) fun o ρ1 => bnd (b ρ1) fun o' ρ2 => match o.frz, o'.frz with
  | .ins c1 fs, .ins c2 gs => if c1 = c ∧ c2 = c then (match fn [.val (.ins c1 fs), .val (.ins c2 gs)] with
    | some (.ok (.val (.bl t)), _) => some (.ok (.val (.bl (if neg = true then !t else t))), ρ2)
    | _ => none) else none
  | _, _ => none
theorem sem_own {neg : Bool} (hl : ∀ os r, fn os = some r → os.length = n) (ha : Sem G E ta ma) (hb : Sem G E tb mb) : Sem G E (tOp (rOwn (G.cls c) (spF G fn n) neg) ta tb) (mOwn c fn neg ma mb) := ⟨fun {F H σ ρ α Q} S h =>
  ha.run S (Post.to h fun o ρ1 v F1 H1 α1 S1 r1 T1 N1 h1 => hb.run S1 (Post.to (Post.shift T1 N1 h1) fun o2 ρ2 v2 F2 H2 α2 S2 r2 T2 N2 h2 => by
    split at h2
    · rename_i c1 fs c2 gs e1 e2
      split at h2
      · rename_i hc
        obtain ⟨hc1, hc2⟩ := hc
        rw [hc1] at e1
        rw [hc2] at e2
        rw [hc1, hc2] at h2
        rw [e1] at r1
        rw [e2] at r2
        have q1 := r1.mono T2.exF
        have q2 := r2
        unfold Rep at q1 q2
        obtain ⟨a, dx, fvs, ev, x1, x2⟩ := q1
        obtain ⟨b, dy, gvs, ew, y1, y2⟩ := q2
        refine ⟨a, b, dx, dy, fvs, gvs, ev, ew, S2.ex _ _ x1, S2.ex _ _ y1, ?_⟩
        split at h2
        · rename_i t os' ef
          refine spF_data (ρ1 := ρ2) (.inl rfl) hl S2 (Reps.cons (r1.mono T2.exF) (Reps.one r2)) ?_
          unfold onData
          rw [show ([D.ins c fs, D.ins c gs].map O.val) = [.val (.ins c fs), .val (.ins c gs)] from rfl, ef]
          refine PostG.shift .refl .refl (Post.seen (d := .bl t) rfl rfl (Post.shift T2 N2 h2)) fun o ρ' z => ?_
          intro v F' H' α' β S' R T M N
          obtain ⟨e, q⟩ := z v F' H' α' β S' R T M N
          exact ⟨t, e, q⟩
        · exact h2.elim
      · exact h2.elim
    · exact h2.elim))⟩
def mLenO (c : Nat) (fn : Fn) (a : M) : M := fun ρ => bnd (a ρ) fun o ρ1 => match o.frz with
  | .ins c1 fs => if c1 = c then (match fn [.val (.ins c1 fs)] with
    | some (.ok (.val (.int n)), _) => if 0 ≤ n ∧ n < 2 ^ 63 then some (.ok (.val (.int n)), ρ1) else none
    | _ => none) else none
  | _ => none
theorem sem_lenO (hl : ∀ os r, fn os = some r → os.length = n) (ha : Sem G E ta ma) : Sem G E (tCB (rLenO (G.cls c) (spF G fn n)) (tCons ta tNil)) (mLenO c fn ma) := ⟨fun {F H σ ρ α Q} S h =>
  ha.run S (Post.to h fun o ρ1 v F1 H1 α1 S1 r1 T1 N1 h1 => by
    split at h1
    · rename_i c1 fs e1
      split at h1
      · rename_i hc
        rw [hc] at e1 h1
        rw [e1] at r1
        have q1 := r1
        unfold Rep at q1
        obtain ⟨a, dx, fvs, ev, x1, x2⟩ := q1
        subst ev
        refine ⟨a, dx, fvs, rfl, S1.ex _ _ x1, ?_⟩
        split at h1
        · rename_i k os' ef
          split at h1
          · rename_i hn
            refine spF_data (ρ1 := ρ1) (.inl rfl) hl S1 (Reps.one r1) ?_
            unfold onData
            rw [show ([D.ins c fs].map O.val) = [.val (.ins c fs)] from rfl, ef]
            refine PostG.shift .refl .refl (Post.seen (d := .int k) rfl rfl (Post.shift T1 N1 h1)) fun o ρ' z => ?_
            intro v F' H' α' β S' R T M N
            obtain ⟨e, q⟩ := z v F' H' α' β S' R T M N
            exact ⟨k, e, hn, q⟩
          · exact h1.elim
        · exact h1.elim
      · exact h1.elim
    · exact h1.elim)⟩
end
end VL

namespace VL
open PySem PySem.Spec
open PyProof.Rows L2
open Evl (Ex sz_of)
open LamX (ExtN Tabs TabS CodeO)

/-! ### data where tables of code objects may grow -/
section
variable {G : Cn} {H H' : Hp}
theorem sqlN {K : PySem.W.Frag} {a : Addr} {xs : List V} (e : ExtN H H') (h : SqL K H a xs) : SqL K H' a xs := by
  rcases h with h | h
  · rcases h with h | ⟨o, h⟩
    · exact .inl (.inl (e _ _ h nofun))
    · exact .inl (.inr ⟨o, e _ _ h nofun⟩)
  · exact .inr h
mutual
theorem Rep.grows (e : ExtN H H') : ∀ {v : V} (d : D), Rep G H v d → Rep G H' v d
  | _, .non, h => h
  | _, .bl _, h => h
  | _, .int _, h => h
  | _, .str _, h => h
  | _, .scr _, h => by
    unfold Rep at h ⊢
    obtain ⟨a, e1, e2⟩ := h
    exact ⟨a, e1, sqlN e e2⟩
  | _, .tup ds, h => by
    unfold Rep at h ⊢
    obtain ⟨a, vs, e1, e2, e3⟩ := h
    exact ⟨a, vs, e1, e _ _ e2 nofun, Reps.grows e ds e3⟩
  | _, .lst ds, h => by
    unfold Rep at h ⊢
    obtain ⟨a, vs, e1, e2, e3⟩ := h
    exact ⟨a, vs, e1, e _ _ e2 nofun, Reps.grows e ds e3⟩
  | _, .dic ds, h => by
    unfold Rep at h ⊢
    obtain ⟨a, vs, e1, e2, e3⟩ := h
    exact ⟨a, vs, e1, e _ _ e2 nofun, RepsK.grows e ds e3⟩
  | _, .ins c ds, h => by
    unfold Rep at h ⊢
    obtain ⟨a, dx, vs, e1, e2, e3⟩ := h
    exact ⟨a, dx, vs, e1, e _ _ e2 nofun, RepsF.grows e ds e3⟩
theorem Reps.grows (e : ExtN H H') : ∀ {vs : List V} (ds : List D), Reps G H vs ds → Reps G H' vs ds
  | _, [], h => h
  | _, d :: ds, h => by
    unfold Reps at h ⊢
    obtain ⟨v, r, e1, e2, e3⟩ := h
    exact ⟨v, r, e1, Rep.grows e d e2, Reps.grows e ds e3⟩
theorem RepsK.grows (e : ExtN H H') : ∀ {vs : List (Key × V)} (ds : List (Key × D)), RepsK G H vs ds → RepsK G H' vs ds
  | _, [], h => h
  | _, (k, d) :: ds, h => by
    unfold RepsK at h ⊢
    obtain ⟨v, r, e1, e2, e3⟩ := h
    exact ⟨v, r, e1, Rep.grows e d e2, RepsK.grows e ds e3⟩
theorem RepsF.grows (e : ExtN H H') : ∀ {vs : List (Str × V)} (ds : List (Str × D)), RepsF G H vs ds → RepsF G H' vs ds
  | _, [], h => h
  | _, (k, d) :: ds, h => by
    unfold RepsF at h ⊢
    obtain ⟨v, r, e1, e2, e3⟩ := h
    exact ⟨v, r, e1, Rep.grows e d e2, RepsF.grows e ds e3⟩
end
end
/-! ### states all of whose slots hold data -/
abbrev emp : Al := fun _ => []
structure StL (G : Cn) (T : List (Addr × Str)) (H : Hp) (σ : L2.St) (ρ : Rho) : Prop where
  len : σ.length = ρ.length
  slot : ∀ (i : Nat) o, ρ[i]? = some (some o) → ∃ v d, o = .val d ∧ σ[i]? = some (some v) ∧ Rep G H v d
  tabs : Tabs T H
section
variable {G : Cn} {T : List (Addr × Str)} {H H' F : Hp} {σ : L2.St} {ρ ρ1 : Rho} {α : Al}
theorem StL.ste (S : StL G T H σ ρ) : Ste G H H σ ρ emp where
  ex := Ex.refl H
  len := S.len
  slot := fun i o e => by
    obtain ⟨v, d, eo, hv, r⟩ := S.slot i o e
    subst eo
    exact ⟨v, hv, rfl, r⟩
  off := fun _ _ => rfl
  dis := fun _ _ _ _ h => nomatch h
theorem allVal_get (h : allVal ρ = true) {i : Nat} {o : O} (e : ρ[i]? = some (some o)) : ∃ d, o = .val d := by
  unfold allVal at h
  have q := List.all_eq_true.mp h (some o) (List.mem_of_getElem? e)
  cases o <;> first | exact ⟨_, rfl⟩ | cases q
theorem StL.of (S : Ste G F H σ ρ α) (h : allVal ρ = true) (t : Tabs T H) : StL G T H σ ρ where
  len := S.len
  slot := fun i o e => by
    obtain ⟨d, eo⟩ := allVal_get h e
    subst eo
    obtain ⟨v, hv, r⟩ := S.slot i _ e
    exact ⟨v, d, rfl, hv, r.2.mono S.ex⟩
  tabs := t
theorem StL.grows (S : StL G T H σ ρ) (e : ExtN H H') (t : Tabs T H') : StL G T H' σ ρ where
  len := S.len
  slot := fun i o q => by
    obtain ⟨v, d, eo, hv, r⟩ := S.slot i o q
    exact ⟨v, d, eo, hv, r.grows e⟩
  tabs := t
theorem noOwn {a : Addr} : ¬ Own emp a := fun ⟨_, z⟩ => nomatch z
theorem Stp.allEx {F' : Hp} (s : Stp (Own emp) F H F' H') : Ex H H' := fun b o e => s.keep b o e noOwn
/-! ### statements over such states -/
abbrev ML := Rho → Option (Rs Fl × Rho)
def PostL (G : Cn) (T : List (Addr × Str)) (H : Hp) (D : Ends) : Option (Rs Fl × Rho) → Prop
  | some (.ok .nx, ρ') => ∀ σ' H', StL G T H' σ' ρ' → ExtN H H' → D.nx σ' H'
  | some (.ok (.ret o), _) => ∀ v H', Rep G H' v o.frz → D.rt v H'
  | _ => False
structure SemL (G : Cn) (T : List (Addr × Str)) (t : TS) (m : ML) : Prop where
  run : ∀ {H σ ρ D}, StL G T H σ ρ → PostL G T H D (m ρ) → t D σ H
def lS (m : MS) : ML := fun ρ => match m [] ρ with
  | some (.ok .nx, ρ') => if allVal ρ' = true then some (.ok .nx, ρ') else none
  | some (.ok (.ret o), ρ') => some (.ok (.ret o), ρ')
  | _ => none
def lSeq (a b : ML) : ML := fun ρ => match a ρ with
  | some (.ok .nx, ρ1) => b ρ1
  | x => x
variable {t u : TS} {m : MS} {a b : ML} {E : XK}
theorem semL_S (h : SemS G E t m) : SemL G T t (lS m) := ⟨fun {H σ ρ D} S p => by
  refine h.run (pins := []) S.ste ?_
  unfold lS at p
  match q : m [] ρ, p with
  | none, p => exact p.elim
  | some (.ok .nx, ρ'), p =>
    intro σ' F' H' α' S' T' N' P'
    try dsimp only at p
    split at p
    · rename_i hv
      exact p σ' H' (.of S' hv (S.tabs.ext T'.allEx)) (ExtN.of T'.allEx)
    · exact p.elim
  | some (.ok (.ret o), ρ'), p =>
    intro v σ' F' H' α' β S' R T' M N P'
    exact p v H' (R.frz S'.ex fun b hb u e => e)
  | some (.ok .bk, ρ'), p => exact p.elim
  | some (.ok .ct, ρ'), p => exact p.elim
  | some (.ex c f, ρ'), p => exact p.elim⟩
theorem PostL.shift {D : Ends} {r : Option (Rs Fl × Rho)} (e : ExtN H H') (p : PostL G T H D r) : PostL G T H' D r := by
  match r, p with
  | some (.ok .nx, ρ1), p => exact fun σ2 H2 S2 e2 => p σ2 H2 S2 (e.trans e2)
  | some (.ok (.ret o), ρ1), p => exact p
  | none, p => exact p
  | some (.ok .bk, ρ'), p => exact p
  | some (.ok .ct, ρ'), p => exact p
  | some (.ex c f, ρ'), p => exact p
theorem semL_seq (ha : SemL G T t a) (hb : SemL G T u b) : SemL G T (tSeq t u) (lSeq a b) := ⟨fun {H σ ρ D} S p => by
  refine ha.run S ?_
  unfold lSeq at p
  match q : a ρ, p with
  | some (.ok .nx, ρ1), p =>
    intro σ' H' S' e
    have p' : PostL G T H D (b ρ1) := p
    exact hb.run S' (p'.shift e)
  | some (.ok (.ret o), ρ1), p => exact p
  | none, p => exact p.elim
  | some (.ok .bk, ρ'), p => exact p.elim
  | some (.ok .ct, ρ'), p => exact p.elim
  | some (.ex c f, ρ'), p => exact p.elim⟩
theorem StL.allVal (S : StL G T H σ ρ) : VL.allVal ρ = true := by
  unfold VL.allVal
  refine List.all_eq_true.mpr fun o ho => ?_
  obtain ⟨i, hi⟩ := List.getElem?_of_mem ho
  cases o with
  | none => rfl
  | some o =>
    obtain ⟨v, d, eo, _⟩ := S.slot i o hi
    rw [eo]
/-! ### a for over a tuple -/
def lLoop (p : Pat) (b : ML) : List D → ML
  | [], ρ => some (.ok .nx, ρ)
  | d :: ds, ρ => (bindP [] p d ρ).bind fun ρ1 => match b ρ1 with
    | some (.ok .nx, ρ2) => lLoop p b ds ρ2
    | x => x
def lFor (a : M) (p : Pat) (b : ML) : ML := fun ρ => match a ρ with
  | some (.ok (.val (.tup ds)), ρ1) => if allVal ρ1 = true then lLoop p b ds ρ1 else none
  | _ => none
theorem semL_for {te : TE} {ma : M} {g : TG} {p : Pat} (ha : Sem G E0 te ma) (hg : GSem G g p) (hb : SemL G T t b) (hp : ∀ (ρ ρ1 : Rho) d, allVal ρ = true → bindP [] p d ρ = some ρ1 → allVal ρ1 = true) : SemL G T (tFor (iSeqV G.K te) g t) (lFor ma p b) := ⟨fun {H σ ρ D} S pq => by
  unfold lFor at pq
  split at pq
  · rename_i ds ρ1 ea
    split at pq
    · rename_i hv1
      refine ha.run S.ste ?_
      rw [ea]
      intro v F1 H1 α1 β S1 R T1 M1 N1
      obtain ⟨_, r1⟩ := R
      have r1' := r1.mono S1.ex
      unfold Rep at r1'
      obtain ⟨at_, vs, ev, h1, h2⟩ := r1'
      subst ev
      have S1' : StL G T H1 σ ρ1 := .of S1 hv1 (S.tabs.ext T1.allEx)
      refine ⟨vs, fun H' => H' at_ = some (.tup vs), .inl ⟨at_, rfl, fun H' e => SqT.of e⟩, h1, ?_⟩
      refine ⟨fun i k σ' H' => k = ds.length - i ∧ i ≤ ds.length ∧ H' at_ = some (.tup vs) ∧ Reps G H' vs ds ∧ ExtN H H' ∧ ∃ ρ', StL G T H' σ' ρ' ∧ PostL G T H D (lLoop p b (ds.drop i) ρ') ∧ allVal ρ' = true, ⟨ds.length, by simp, Nat.zero_le _, h1, h2, ExtN.of T1.allEx, ρ1, S1', pq, hv1⟩, ?_⟩
      rintro i k σ' H' ⟨rfl, hi, hat, hrs, hex, ρ', S', p', hv'⟩
      have lv := hrs.length
      by_cases hlt : i < ds.length
      · refine .inr ⟨⟨hat, by omega⟩, fun σ2 H2 => H2 at_ = some (.tup vs) ∧ Reps G H2 vs ds ∧ ExtN H H2 ∧ ∃ ρ', StL G T H2 σ2 ρ' ∧ PostL G T H D (lLoop p b (ds.drop (i + 1)) ρ') ∧ allVal ρ' = true, fun σ2 H2 n2 => ⟨ds.length - (i + 1), by omega, rfl, hlt, n2⟩, fun x H2 y => ?_⟩
        obtain ⟨eH, hx⟩ := y
        subst eH
        obtain ⟨d, hd⟩ : ∃ d, ds[i]? = some d := ⟨ds[i], by simp [hlt]⟩
        obtain ⟨w, hw, rw'⟩ := hrs.get hd
        rw [hx] at hw
        cases hw
        rw [drop_get hd] at p'
        unfold lLoop at p'
        cases e2 : bindP [] p d ρ' with
        | none => rw [e2] at p'; exact p'.elim
        | some ρ2 =>
          rw [e2] at p'
          refine hg (pins := []) S'.ste rw' e2 fun σ2 α2 S2 o2 _ _ => ?_
          have hv2 := hp _ _ _ hv' e2
          have S2' : StL G T H2 σ2 ρ2 := .of S2 hv2 S'.tabs
          refine hb.run S2' ?_
          dsimp only [Option.bind] at p'
          match q3 : b ρ2, p' with
          | some (.ok .nx, ρ3), p' =>
            intro σ3 H3 S3 e3
            exact ⟨e3 _ _ hat nofun, hrs.grows e3, hex.trans e3, ρ3, S3, p', S3.allVal⟩
          | some (.ok (.ret o), ρ3), p' => exact p'
          | none, p' => exact p'.elim
          | some (.ok .bk, ρ3), p' => exact p'.elim
          | some (.ok .ct, ρ3), p' => exact p'.elim
          | some (.ex c f, ρ3), p' => exact p'.elim
      · refine .inl ⟨⟨hat, by omega⟩, ?_⟩
        rw [List.drop_of_length_le (by omega)] at p'
        exact p' σ' H' S' hex
    · exact pq.elim
  · exact pq.elim⟩
end
end VL

namespace VL
open PySem PySem.Spec
open PyProof.Rows L2
open Evl (Ex sz_of)
open LamX (ExtN Tabs TabS CodeO tLam)

/-! ### a def that calls the closure that it gets, and tells the class of the error by a word -/
def TWord (G : Cn) (ans : List (Nat × Str)) : (XK → Hp → VK → Prop) → Hp → VK → Prop := fun tl H Q =>
  tl (fun cls d H' => d = none ∧ ∃ c z, cls = .ref (G.cls c) ∧ ans.lookup c = some z ∧ ∀ H'', Ex H' H'' → Q (.str z) H'') H (fun _ H' => Q (.str "fine") H')
section
variable {G : Cn} {T : List (Addr × Str)} {H : Hp} {σ : L2.St} {ρ ρ' : Rho} {ans : List (Nat × Str)} {t : XK → TE} {mb : M} {c : Nat} {z z0 : Str} {Q : VK}
theorem lam_word (hb : ∀ E, Sem G E (t E) mb) (S : StL G T H σ ρ) (hm : mb ρ = some (.ex c none, ρ')) (hz : ans.lookup c = some z) (k : ∀ H', StL G T H' σ ρ → ExtN H H' → Q (.str z) H') : tLam T (TWord G ans) t σ H Q := by
  refine ⟨S.tabs, fun H1 e t1 => (hb _).run (S.grows e t1).ste ?_⟩
  rw [hm]
  intro F' H' T'
  refine ⟨rfl, c, z, rfl, hz, fun H'' e2 => ?_⟩
  have e3 : Ex H1 H'' := T'.allEx.trans e2
  exact k H'' ((S.grows e t1).grows (ExtN.of e3) (t1.ext e3)) (e.trans (ExtN.of e3))
def lIfW (ans : List (Nat × Str)) (mb : M) (z0 : Str) (a b : ML) : ML := fun ρ => match mb ρ with
  | some (.ex c none, _) => (match ans.lookup c with
    | some z => (match fNe (.str z) (.str z0) with
      | some (.val (.bl true)) => a ρ
      | some (.val (.bl false)) => b ρ
      | _ => none)
    | none => none)
  | _ => none
theorem semL_ifW {r : R2} {u1 u2 : TS} {a b : ML} (hr : OSem G r fNe) (hb : ∀ E, Sem G E (t E) mb) (h1 : SemL G T u1 a) (h2 : SemL G T u2 b) : SemL G T (tIfS (tTest (tOp r (tLam T (TWord G ans) t) (tC (.str z0)))) u1 u2) (lIfW ans mb z0 a b) := ⟨fun {H σ ρ D} S p => by
  unfold lIfW at p
  split at p
  · rename_i c _ hm
    split at p
    · rename_i z hz
      refine lam_word hb S hm hz fun H' S' e => ?_
      show r _ _ H' _
      split at p
      · rename_i ef
        refine hr (E := E0) S'.ste (.inl Rep.ofStr) (.inl Rep.ofStr) ?_
        rw [ef]
        intro v F2 H2 α2 β S2 R2 T2 M2 N2
        have ev : v = .bl true := by
          have q := R2.2
          unfold Rep at q
          exact q
        refine ⟨true, ev, ?_⟩
        dsimp only
        rw [if_pos rfl]
        have S3 : StL G T H2 σ ρ := S'.grows (ExtN.of T2.allEx) (S'.tabs.ext T2.allEx)
        exact h1.run S3 (p.shift (e.trans (ExtN.of T2.allEx)))
      · rename_i ef
        refine hr (E := E0) S'.ste (.inl Rep.ofStr) (.inl Rep.ofStr) ?_
        rw [ef]
        intro v F2 H2 α2 β S2 R2 T2 M2 N2
        have ev : v = .bl false := by
          have q := R2.2
          unfold Rep at q
          exact q
        refine ⟨false, ev, ?_⟩
        dsimp only
        rw [if_neg (show ¬ (false = true) from nofun)]
        have S3 : StL G T H2 σ ρ := S'.grows (ExtN.of T2.allEx) (S'.tabs.ext T2.allEx)
        exact h2.run S3 (p.shift (e.trans (ExtN.of T2.allEx)))
      · exact p.elim
    · exact p.elim
  · exact p.elim⟩
end
/-! ### isinstance of the error that a suite holds, whichever it is -/
theorem call_isY {X : Cx} {a : Addr} {cls : Value} {d : Option Addr} {oe : Obj} {pn : List (Addr × Obj)} (hz : Zc cls d oe) (hf : ∃ vs, oe.data = .fields vs) :
    CallR (X.suite a ((a, oe) :: pn)) (.builtin "isinstance") (fun xs H Q => ∃ D, cls = .ref D ∧ d = none ∧ ExcC X.K D ∧ rIsE X.K D a xs H Q) := by
  intro pns s σ H xs us Q inv rel got
  obtain ⟨D, e1, e2, C, h⟩ := got
  subst e1 e2
  exact call_isE C hz hf pns s σ H xs us Q inv rel h
theorem takesLen {X : Cx} {W : WX} (tk : Takes X W) : Takes X (fun cls d σ H => σ.length = X.N.length → W cls d σ H) := fun u s' x => by
  obtain ⟨a, B, sI, pins, σ, H, cls, d, e, I, nb, up, sky, na, os, ag, w⟩ := x
  exact tk u s' ⟨a, B, sI, pins, σ, H, cls, d, e, I, nb, up, sky, na, os, ag, w I.len⟩
end VL

namespace VL
open PySem PySem.Spec
open PyProof.Rows L2
open Evl (Ex sz_of)
open LamX (ExtN Tabs TabS CodeO tLam)
theorem bind_nm (i : Nat) : ∀ (ρ ρ1 : Rho) (d : D), allVal ρ = true → bindP [] (.nm i) d ρ = some ρ1 → allVal ρ1 = true := fun ρ ρ1 d h e => by
  unfold bindP at e
  obtain ⟨_, _, rfl⟩ := setV_some e
  unfold allVal at h ⊢
  refine List.all_eq_true.mpr fun o ho => ?_
  rcases List.mem_or_eq_of_mem_set ho with z | z
  · exact List.all_eq_true.mp h o z
  · rw [z]
theorem reps_bl {G : Cn} {F : Hp} : ∀ bs : List Bool, Reps G F (bs.map V.bl) (bs.map D.bl)
  | [] => Reps.nil
  | b :: bs => Reps.cons Rep.ofBl (reps_bl bs)
/-- the suite's end: the list is there, the word is told -/
theorem end_word {G : Cn} {H' : Hp} {p : Addr} {σ : L2.St} {t : TE} {m : M} {bs : List Bool} {z : Str} {Q : VK} {E : XK} (hs : Sem G E t m) (hl : σ.length = 3) (hp : H' p = none) (r : σ.length = σ.length) (hm : (match m [none, none, some (.val (.lst (bs.map .bl)))] with | some (.ok (.val (.str y)), _) => decide (y = z) | _ => false) = true) (k : ∀ H'', Ex H' H'' → Q (.str z) H'') :
    t (σ.set 2 (some (.ref p))) (upd H' p (.lst (bs.map V.bl))) Q := by
  have S : Ste G (upd (fun _ => none) p (.lst (bs.map V.bl))) (upd H' p (.lst (bs.map V.bl))) (σ.set 2 (some (.ref p))) [none, none, some (.val (.lst (bs.map .bl)))] emp := by
    refine ⟨fun b o e => ?_, by rw [List.length_set, hl]; rfl, fun i o e => ?_, fun _ _ => rfl, fun _ _ _ _ h => nomatch h⟩
    · by_cases q : b = p
      · subst q
        rw [upd_same] at e ⊢
        exact e
      · rw [upd_ne q] at e
        cases e
    · match i, e with
      | 0, e => cases e
      | 1, e => cases e
      | 2, e =>
        cases e
        refine ⟨.ref p, List.getElem?_set_self (by omega), rfl, ?_⟩
        unfold Rep
        refine ⟨p, _, rfl, upd_same, ?_⟩
        exact reps_bl bs
      | i + 3, e => simp at e
  refine hs.run S ?_
  match q : m [none, none, some (.val (.lst (bs.map .bl)))], hm with
  | some (.ok (.val (.str y)), ρ'), hm =>
    have ey : y = z := of_decide_eq_true hm
    subst ey
    intro v F2 H2 α2 β S2 R2 T2 M2 N2
    have ev : v = .str y := by
      have w := R2.2
      unfold Rep at w
      exact w
    subst ev
    exact k H2 ((Ex.new hp).trans T2.allEx)
theorem law_end {G : Cn} {t : TS} {m : ML} {a Pt : Addr} {q : Str} {ns : List Int} {H : Hp} {N : List Str} {Q : VK} {j : Nat} (hs : SemL G [(Pt, q)] t m) (h : SqL G.K H a (ns.map V.int)) (hT : H Pt = some (.tbl #[])) {ρ0 : Rho} (hm : (match m ρ0 with | some (.ok (.ret (.val (.bl true))), _) => true | _ => false) = true)
    (k : ∀ H', Q (.bl true) H') (e : ρ0 = some (.val (.scr ns)) :: List.replicate j none := by rfl) (hN : N.length = j + 1 := by rfl) : t { nx := fun _ H' => Q .non H', rt := Q } (L2.start N [.ref a]) H := by
  have el : L2.start N [V.ref a] = some (.ref a) :: List.replicate j none := by
    unfold L2.start
    rw [hN]
    rfl
  rw [el]
  have S : StL G [(Pt, q)] H (some (.ref a) :: List.replicate j none) ρ0 := by
    subst e
    refine ⟨by simp, fun i o e => ?_, fun p hp => ?_⟩
    · match i, e with
      | 0, e =>
        cases e
        refine ⟨.ref a, _, rfl, rfl, ?_⟩
        unfold Rep
        exact ⟨a, rfl, h⟩
      | i + 1, e =>
        have e' : (List.replicate j (none : Option O))[i]? = some (some o) := by simpa using e
        rw [List.getElem?_replicate] at e'
        split at e' <;> cases e'
    · rw [List.mem_singleton.mp hp]
      exact TabS.nil hT
  refine hs.run S ?_
  match q : m ρ0, hm with
  | some (.ok (.ret (.val (.bl true))), ρ'), hm =>
    intro v H' r
    have ev : v = .bl true := by
      have w : Rep G H' v (.bl true) := r
      unfold Rep at w
      exact w
    rw [ev]
    exact k H'
end VL

namespace VL
open PySem PySem.Spec
open PyProof.Rows L2
open Evl (Ex sz_of)

/-! ### // by a great divisor -/
def bDivW (i j : Int) : Bool := decide (0 < j) && decide (j.natAbs.log2 < 9000)
theorem os_divW {G : Cn} : OSem G (rI CDivW fun i j => .int (i / j)) (fIntC bDivW fun i j => i / j) := os_intC fun i j h => by
  unfold bDivW at h
  rw [Bool.and_eq_true, decide_eq_true_eq, decide_eq_true_eq] at h
  exact h

/-! ### a, b, c = x, y, z -/
def sPar3 (i j l : Nat) (a : MA) : MS := fun pins ρ => bnd (a ρ) fun ais ρ1 => match dsOnly ais with
  | some [x, y, z] => (setV pins i (.val x) ρ1).bind fun ρ2 => (setV pins j (.val y) ρ2).bind fun ρ3 => (setV pins l (.val z) ρ3).map fun ρ4 => (.ok .nx, ρ4)
  | _ => none
section
variable {G : Cn} {E : XK} {F F1 H H1 : Hp} {σ : L2.St} {ρ ρ1 : Rho} {α α1 : Al}
theorem semS_par3 {i j l : Nat} {ta : TA} {ma : MA} (ha : SemA G E ta ma) : SemS G E (tPar3 i j l ta) (sPar3 i j l ma) := ⟨fun {F H σ ρ α D pins} S h =>
  ha.run S (PostA.to h fun xs ρ1 vs F1 H1 α1 S1 r1 T1 N1 h1 => by
    split at h1
    · rename_i x y z e
      have q := dsOnly_r r1 e
      obtain ⟨v, r, rfl, rx, q⟩ := q.of_cons
      obtain ⟨u, r, rfl, ry, q⟩ := q.of_cons
      obtain ⟨w, r, rfl, rz, q⟩ := q.of_cons
      obtain rfl := q.of_nil
      cases e1 : setV pins i (.val x) ρ1 with
      | none => rw [e1] at h1; exact h1.elim
      | some ρ2 =>
        rw [e1] at h1
        try dsimp only [Option.bind] at h1
        cases e2 : setV pins j (.val y) ρ2 with
        | none => rw [e2] at h1; exact h1.elim
        | some ρ3 =>
          rw [e2] at h1
          try dsimp only [Option.bind] at h1
          cases e3 : setV pins l (.val z) ρ3 with
          | none => rw [e3] at h1; exact h1.elim
          | some ρ4 =>
            rw [e3] at h1
            obtain ⟨n1, l1, rfl⟩ := setV_some e1
            obtain ⟨n2, l2, rfl⟩ := setV_some e2
            obtain ⟨n3, l3, rfl⟩ := setV_some e3
            refine ⟨v, u, w, rfl, ?_⟩
            refine h1 _ F1 H1 _ (((S1.setD rx l1).setD ry l2).setD rz l3) T1 (fun a q => ?_) (((Pin.set n1).trans (Pin.set n2)).trans (Pin.set n3))
            rcases Al.own_set q with q | q
            · rcases Al.own_set q with q | q
              · rcases Al.own_set q with q | q
                · exact N1 a q
                · cases q
              · cases q
            · cases q
    · exact h1.elim)⟩

/-! ### a, b = x, y: what y makes is kept as one's own -/
def sParO (i j : Nat) (a b : M) : MS := fun pins ρ => bnd (a ρ) fun x ρ1 => bnd (b ρ1) fun y ρ2 => (setV pins i (.val x.frz) ρ2).bind fun ρ3 => (setV pins j y ρ3).map fun ρ4 => (.ok .nx, ρ4)
theorem semS_parO {i j : Nat} {ta tb : TE} {ma mb : M} (ha : Sem G E ta ma) (hb : Sem G E tb mb) : SemS G E (tPar i j (tCons ta (tCons tb tNil))) (sParO i j ma mb) := ⟨fun {F H σ ρ α D pins} S h =>
  ha.run S (Post.to h fun o ρ1 v F1 H1 α1 S1 r1 T1 N1 h1 => hb.run S1 (PostG.bind (PostS.shift T1 N1 .refl h1) fun y ρ2 hp u F2 H2 α2 β S2 r2 T2 M2 N2 => by
    cases e1 : setV pins i (.val o.frz) ρ2 with
    | none => rw [e1] at hp; exact hp.elim
    | some ρ3 =>
      rw [e1] at hp
      try dsimp only [Option.bind] at hp
      cases e2 : setV pins j y ρ3 with
      | none => rw [e2] at hp; exact hp.elim
      | some ρ4 =>
        rw [e2] at hp
        obtain ⟨n1, l1, rfl⟩ := setV_some e1
        obtain ⟨n2, l2, rfl⟩ := setV_some e2
        refine ⟨v, u, rfl, ?_⟩
        have S3 := S2.setD (r1.mono T2.exF) l1
        have S4 := S3.store r2 (fun k _ a ha z => M2 a ha (by
          rcases Al.own_set ⟨k, z⟩ with q | q
          · exact q
          · cases q)) l2
        refine hp _ F2 H2 _ S4 T2 (fun a q => ?_) ((Pin.set n1).trans (Pin.set n2))
        rcases Al.own_set q with q | q
        · rcases Al.own_set q with q | q
          · exact N2 a (.inl q)
          · cases q
        · exact N2 a (.inr q)))⟩

/-! ### a list that is nobody's is changed: e.append(x), e.clear() -/
def mAppT (a b : M) : M := fun ρ => bnd (a ρ) fun o ρ1 => match o with
  | .lst ds => if ds.length < 100000 then bnd (b ρ1) fun _ ρ2 => some (.ok (.val .non), ρ2) else none
  | _ => none
def mClrT (a : M) : M := fun ρ => bnd (a ρ) fun o ρ1 => match o with
  | .lst _ => some (.ok (.val .non), ρ1)
  | _ => none
theorem sem_clrT {ta : TE} {ma : M} (ha : Sem G E ta ma) : Sem G E (tBM0 G.K "list" rClear ta) (mClrT ma) := ⟨fun {F H σ ρ α Q} S h =>
  ha.run S (PostG.bind h fun o ρ1 hp v F1 H1 α1 β S1 r1 T1 M1 N1 => by
    match o, hp, r1 with
    | .lst ds, hp, r1 =>
      obtain ⟨p, vs, rfl, rfl, f1, h1, rs⟩ := r1
      have no : ¬ Own α1 p := M1 p (by simp)
      refine ⟨.inl ⟨rfl, vs, SqL.of h1⟩, p, vs, rfl, rfl, h1, ?_⟩
      refine hp .non F1 _ α1 [] (S1.poke f1 no) ⟨rfl, Rep.ofNon⟩ ⟨T1.exF, fun b w e n => ?_, T1.newF⟩ (fun _ z => nomatch z) fun a z => ?_
      · by_cases q : b = p
        · subst q
          rcases N1 b (.inr (by simp)) with z | z
          · exact absurd z n
          · rw [e] at z; cases z
        · rw [upd_ne q]
          exact T1.keep b w e n
      · rcases z with z | z
        · exact N1 a (.inl z)
        · cases z)⟩
theorem sem_appT {ta tb : TE} {ma mb : M} (ha : Sem G E ta ma) (hb : Sem G E tb mb) : Sem G E (tBM G.K "list" rAppend ta (tCons tb tNil)) (mAppT ma mb) := ⟨fun {F H σ ρ α Q} S h =>
  ha.run S (PostG.bind h fun o ρ1 hp v F1 H1 α1 β S1 r1 T1 M1 N1 => by
    match o, hp, r1 with
    | .lst ds, hp, r1 =>
      obtain ⟨p, vs, rfl, rfl, f1, h1, rs⟩ := r1
      have no : ¬ Own α1 p := M1 p (by simp)
      have hp' : PostG G E F H α (okV G F H σ α Q) (if ds.length < 100000 then bnd (mb ρ1) fun _ ρ2 => some (.ok (.val .non), ρ2) else none) := hp
      by_cases hl : ds.length < 100000
      · rw [if_pos hl] at hp'
        refine ⟨.inl ⟨rfl, vs, SqL.of h1⟩, ?_⟩
        have T0 : Stp (Own α) F H F1 H1 := T1
        have N0 : New (Own α) H (Own α1) := fun a z => N1 a (.inl z)
        refine hb.run S1 (Post.to (PostG.shift T0 N0 hp' fun _ _ q => q) fun o2 ρ2 w F2 H2 α2 S2 r2 T2 N2 h2 => ?_)
        have h2p : H2 p = some (.lst vs) := T2.keep p _ h1 no
        have f2 : F2 p = none := by
          cases e : F2 p with
          | none => rfl
          | some y =>
            rcases T2.newF p y e with z | z | z
            · rw [f1] at z; cases z
            · rw [h1] at z; cases z
            · exact absurd z no
        have no2 : ¬ Own α2 p := fun z => by
          rcases N2 p z with q | q
          · exact no q
          · rw [h1] at q; cases q
        refine ⟨p, vs, w, rfl, rfl, h2p, Nat.lt_of_lt_of_le (by rw [rs.length]; exact hl) (by decide), ?_⟩
        have T3 := T1.trans T2 N0
        refine h2 .non F2 _ α2 [] (S2.poke f2 no2) ⟨rfl, Rep.ofNon⟩ ⟨T3.exF, fun b y e n => ?_, T3.newF⟩ (fun _ z => nomatch z) fun a z => ?_
        · by_cases q : b = p
          · subst q
            rcases N1 b (.inr (by simp)) with z | z
            · exact absurd z n
            · rw [e] at z; cases z
          · rw [upd_ne q]
            exact T3.keep b y e n
        · rcases z with z | z
          · exact New.trans T0 N0 N2 a z
          · cases z
      · rw [if_neg hl] at hp'
        exact hp'.elim)⟩
end
end VL

namespace VL
open PySem PySem.Spec
open PyProof.Rows L2
open Evl (Ex sz_of)

/-! ### a list of lists, all of them one's own -/
section
variable {G : Cn} {E : XK} {F F1 H H1 : Hp} {σ : L2.St} {ρ ρ1 : Rho} {α α1 : Al}
theorem RepLL.len : ∀ {bs : List Addr} {dss : List (List D)}, RepLL G F H bs dss → bs.length = dss.length
  | _, [], h => by
    unfold RepLL at h
    subst h
    rfl
  | _, ds :: dss, h => by
    unfold RepLL at h
    obtain ⟨b, r, vs, rfl, _, _, _, t⟩ := h
    rw [List.length_cons, List.length_cons, RepLL.len t]
theorem RepLL.at_ : ∀ {bs : List Addr} {dss : List (List D)} {k : Nat} {ds : List D}, RepLL G F H bs dss → dss[k]? = some ds → ∃ b vs, bs[k]? = some b ∧ F b = none ∧ H b = some (.lst vs) ∧ Reps G F vs ds
  | _, [], k, ds, _, e => by simp at e
  | _, d :: dss, k, ds, h, e => by
    unfold RepLL at h
    obtain ⟨b, r, vs, rfl, e1, e2, e3, t⟩ := h
    cases k with
    | zero =>
      cases e
      exact ⟨b, vs, rfl, e1, e2, e3⟩
    | succ k =>
      obtain ⟨b', vs', g1, g2⟩ := RepLL.at_ (k := k) t (show dss[k]? = some ds from by simpa using e)
      exact ⟨b', vs', by simpa using g1, g2⟩
theorem RepLL.put : ∀ {bs : List Addr} {dss : List (List D)} {k : Nat} {b : Addr} {ds' : List D} {vs' : List V}, RepLL G F H bs dss → bs.Nodup → bs[k]? = some b → Reps G F vs' ds' → RepLL G F (upd H b (.lst vs')) bs (dss.set k ds')
  | _, [], k, b, ds', vs', h, _, e, _ => by
    unfold RepLL at h
    subst h
    simp at e
  | _, d :: dss, k, b, ds', vs', h, nd, e, r' => by
    unfold RepLL at h
    obtain ⟨c, r, vs, rfl, e1, e2, e3, t⟩ := h
    obtain ⟨nc, nd'⟩ := List.nodup_cons.mp nd
    cases k with
    | zero =>
      obtain rfl : c = b := by simpa using e
      rw [List.set_cons_zero]
      unfold RepLL
      refine ⟨c, r, vs', rfl, e1, upd_same, r', t.move (Ex.refl F) (fun a ha => (t.mem a ha).1) fun a ha o ho => ?_⟩
      rw [upd_ne fun z => nc (by rw [← z]; exact ha)]
      exact ho
    | succ k =>
      have e' : r[k]? = some b := by simpa using e
      have hb : b ∈ r := List.mem_of_getElem? e'
      rw [List.set_cons_succ]
      unfold RepLL
      refine ⟨c, r, vs, rfl, e1, ?_, e3, RepLL.put t nd' e' r'⟩
      rw [upd_ne fun z => nc (by rw [z]; exact hb)]
      exact e2
theorem RepLL.snoc : ∀ {bs : List Addr} {dss : List (List D)} {b : Addr} {ds : List D} {vs : List V}, RepLL G F H bs dss → F b = none → H b = some (.lst vs) → Reps G F vs ds → RepLL G F H (bs ++ [b]) (dss ++ [ds])
  | _, [], b, ds, vs, h, e1, e2, e3 => by
    unfold RepLL at h
    subst h
    show RepLL G F H [b] [ds]
    unfold RepLL
    exact ⟨b, [], vs, rfl, e1, e2, e3, by unfold RepLL; rfl⟩
  | _, d :: dss, b, ds, vs, h, e1, e2, e3 => by
    unfold RepLL at h
    obtain ⟨c, r, ws, rfl, f1, f2, f3, t⟩ := h
    show RepLL G F H (c :: (r ++ [b])) (d :: (dss ++ [ds]))
    unfold RepLL
    exact ⟨c, r ++ [b], ws, rfl, f1, f2, f3, RepLL.snoc t e1 e2 e3⟩
/-- len(xs[i]), xs such a list -/
def mLenLL (i : Nat) (a : M) : M := fun ρ => match ρ[i]? with
  | some (some (.ll _)) => bnd (a ρ) fun o ρ1 => (match ρ1[i]?, o.frz with
    | some (some (.ll dss)), .int k => (atI dss k).map fun ds => (.ok (.val (.int ds.length)), ρ1)
    | _, _ => none)
  | _ => none
theorem Ste.slotLL {i : Nat} {dss : List (List D)} (S : Ste G F H σ ρ α) (h : ρ[i]? = some (some (.ll dss))) : ∃ a bs, σ[i]? = some (some (.ref a)) ∧ α i = a :: bs ∧ (a :: bs).Nodup ∧ F a = none ∧ H a = some (.lst (bs.map V.ref)) ∧ RepLL G F H bs dss := by
  obtain ⟨v, h1, r⟩ := S.slot i _ h
  obtain ⟨a, bs, rfl, e1, nd, e2, e3, e4⟩ := r
  exact ⟨a, bs, h1, e1, nd, e2, e3, e4⟩
theorem ll_at {bs : List Addr} {dss : List (List D)} {k : Int} {ds : List D} (r : RepLL G F H bs dss) (e : atI dss k = some ds) : ∃ (j : Nat) (b : Addr) (vs : List V), dss[j]? = some ds ∧ bs[j]? = some b ∧ atI (bs.map V.ref) k = some (.ref b) ∧ F b = none ∧ H b = some (.lst vs) ∧ Reps G F vs ds := by
  unfold atI at e ⊢
  rw [List.length_map, r.len]
  cases q : ixN dss.length k with
  | none => rw [q] at e; cases e
  | some j =>
    rw [q] at e
    have e' : dss[j]? = some ds := e
    obtain ⟨b, vs, h1, h2, h3, h4⟩ := r.at_ e'
    refine ⟨j, b, vs, e', h1, ?_, h2, h3, h4⟩
    show (bs.map V.ref)[j]? = _
    rw [List.getElem?_map, h1] <;> rfl
theorem sem_lenLL {i : Nat} {ta : TE} {ma : M} {r : List V → Hp → VK → Prop} {f : List D → Option O} (hr : CSem G r f) (hf : ∀ ds : List D, f [.lst ds] = some (.val (.int ds.length))) (ha : Sem G E ta ma) : Sem G E (tCB r (tCons (tOp (rIxA G.K) (tVar i) ta) tNil)) (mLenLL i ma) := ⟨fun {F H σ ρ α Q} S h => by
  unfold mLenLL at h
  split at h
  · rename_i dss0 e0
    obtain ⟨a, bs0, hv, _⟩ := S.slotLL e0
    refine ⟨.ref a, hv, ha.run S (Post.to h fun o ρ1 v F1 H1 α1 S1 r1 T1 N1 h1 => ?_)⟩
    split at h1
    · rename_i dss k e1 ek
      rw [ek] at r1
      obtain rfl : v = .int k := by unfold Rep at r1; exact r1
      obtain ⟨a', bs, hv', ha', nd, hf', hh, rl⟩ := S1.slotLL e1
      rw [hv] at hv'
      cases hv'
      cases q : atI dss k with
      | none => rw [q] at h1; exact h1.elim
      | some ds =>
        rw [q] at h1
        obtain ⟨j, b, vs, e2, e3, e4, e5, e6, e7⟩ := ll_at rl q
        refine .inl (.inl ⟨a, bs.map V.ref, k, .ref b, rfl, rfl, SqL.of hh, e4, ?_⟩)
        refine hr (E := E) S1 (ds := [.lst ds]) ⟨.ref b, [], rfl, .inr (.inl ⟨ds, b, vs, rfl, rfl, e6, e7⟩), rfl⟩ ?_
        rw [hf]
        exact Post.shift T1 N1 h1
    · exact h1.elim
  · exact h.elim⟩
/-- xs[i].append(name) -/
def mAppLL (i : Nat) (a : M) (j : Nat) : M := fun ρ => match ρ[i]? with
  | some (some (.ll _)) => bnd (a ρ) fun o ρ1 => (match ρ1[i]?, o.frz, ρ1[j]? with
    | some (some (.ll dss)), .int k, some (some (.val d)) => (match ixN dss.length k with
      | some m => (match dss[m]? with
        | some ds => if ds.length < 100000 then some (.ok (.val .non), ρ1.set i (some (.ll (dss.set m (ds ++ [d]))))) else none
        | none => none)
      | none => none)
    | _, _, _ => none)
  | _ => none
theorem sem_appLL {i j : Nat} {ta : TE} {ma : M} (ha : Sem G E ta ma) : Sem G E (tBM G.K "list" rAppend (tOp (rIxA G.K) (tVar i) ta) (tCons (tVar j) tNil)) (mAppLL i ma j) := ⟨fun {F H σ ρ α Q} S h => by
  unfold mAppLL at h
  split at h
  · rename_i dss0 e0
    obtain ⟨a, bs0, hv, _⟩ := S.slotLL e0
    refine ⟨.ref a, hv, ha.run S (Post.to h fun o ρ1 v F1 H1 α1 S1 r1 T1 N1 h1 => ?_)⟩
    split at h1
    · rename_i dss k d e1 ek ej
      rw [ek] at r1
      obtain rfl : v = .int k := by unfold Rep at r1; exact r1
      obtain ⟨a', bs, hv', ha', nd, hf', hh, rl⟩ := S1.slotLL e1
      rw [hv] at hv'
      cases hv'
      obtain ⟨w, hw, rw'⟩ := S1.slot j _ ej
      split at h1
      · rename_i m em
        split at h1
        · rename_i ds ed
          split at h1
          · rename_i hl
            have q : atI dss k = some ds := by unfold atI; rw [em]; exact ed
            obtain ⟨b, vs, e3, e5, e6, e7⟩ := rl.at_ ed
            have e4 : atI (bs.map V.ref) k = some (.ref b) := by
              unfold atI
              rw [List.length_map, rl.len, em]
              show (bs.map V.ref)[m]? = _
              rw [List.getElem?_map, e3] <;> rfl
            refine .inl (.inl ⟨a, bs.map V.ref, k, .ref b, rfl, rfl, SqL.of hh, e4, .inl ⟨rfl, vs, SqL.of e6⟩, w, hw, b, vs, w, rfl, rfl, e6, Nat.lt_of_lt_of_le (by rw [e7.length]; exact hl) (by decide), ?_⟩)
            have hb : b ∈ bs := List.mem_of_getElem? e3
            have ib : b ∈ α1 i := by rw [ha']; exact List.mem_cons_of_mem _ hb
            obtain ⟨na, nd'⟩ := List.nodup_cons.mp nd
            have S2 : Ste G F1 (upd H1 b (.lst (vs ++ [w]))) σ (ρ1.set i (some (.ll (dss.set m (ds ++ [d]))))) α1 := S1.write e1 ib fun u hu q => by
              obtain ⟨a2, bs2, rfl, g1, g2, g3, g4, g5⟩ := q
              rw [ha'] at g1
              obtain ⟨rfl, rfl⟩ := List.cons.inj g1
              refine ⟨a, bs, rfl, ha', nd, hf', ?_, rl.put nd' e3 (e7.append (Reps.one rw'.2))⟩
              rw [upd_ne fun z => na (by rw [z]; exact hb)]
              exact hh
            exact Post.shift T1 N1 h1 .non F1 _ α1 [] S2 ⟨rfl, Rep.ofNon⟩ (Stp.write ⟨i, ib⟩) (fun _ z => nomatch z) fun c z => by
              rcases z with z | z
              · exact .inl z
              · cases z
          · exact h1.elim
        · exact h1.elim
      · exact h1.elim
    · exact h1.elim
  · exact h.elim⟩
end
end VL

namespace VL
open PySem PySem.Spec
open PyProof.Rows L2
open Evl (Ex sz_of)
/-! ### [[] for x in xs]: a list of new lists -/
def lcLoopE (vs : List Nat) (p : Pat) : List D → Rho → Nat → Option (Res × Rho)
  | [], ρ, n => some (.ok (.ll (List.replicate n [])), ρ)
  | d :: ds, ρ, n => match bindP [] p d ρ with
    | none => none
    | some ρ1 => lcLoopE vs p ds (wipeR ρ1 vs) (n + 1)
def mLcE (mi : MI) (vs : List Nat) (p : Pat) : M := fun ρ => match mi ρ with
  | some (ds, ρ1) => if clean vs ρ1 = true ∧ ds.length ≤ 100000 then lcLoopE vs p ds ρ1 0 else none
  | none => none
section
variable {G : Cn} {E E1 E2 : XK} {F F1 F2 H H1 H2 : Hp} {σ σ1 : L2.St} {ρ ρ1 : Rho} {α α1 : Al}
variable {wi : TI} {mi : MI} {g : TG} {p : Pat}
structure PendE (G : Cn) (F H : Hp) (α : Al) (Dl : Addr) (bs : List Addr) : Prop where
  nd : (Dl :: bs).Nodup
  fF : F Dl = none
  at' : H Dl = some (.lst (bs.map V.ref))
  ll : RepLL G F H bs (List.replicate bs.length [])
  no : ∀ a ∈ Dl :: bs, ¬ Own α a
theorem PendE.inH {Dl : Addr} {bs : List Addr} (q : PendE G F H α Dl bs) : ∀ a ∈ Dl :: bs, F a = none ∧ ∃ o, H a = some o := fun a ha => by
  rcases List.mem_cons.mp ha with rfl | ha
  · exact ⟨q.fF, _, q.at'⟩
  · exact q.ll.mem a ha
theorem PendE.step {Dl : Addr} {bs : List Addr} (q : PendE G F H α Dl bs) (T : Stp (Own α) F H F1 H1) (N : New (Own α) H (Own α1)) : PendE G F1 H1 α1 Dl bs := by
  have keepF : ∀ a ∈ Dl :: bs, F1 a = none := fun a ha => by
    obtain ⟨h1, o, h2⟩ := q.inH a ha
    cases e : F1 a with
    | none => rfl
    | some u =>
      rcases T.newF a u e with z | z | z
      · rw [h1] at z; cases z
      · rw [h2] at z; cases z
      · exact absurd z (q.no a ha)
  refine ⟨q.nd, keepF Dl List.mem_cons_self, T.keep _ _ q.at' (q.no Dl List.mem_cons_self), q.ll.move T.exF (fun b hb => keepF b (List.mem_cons_of_mem _ hb)) fun b hb o ho => T.keep b o ho (q.no b (List.mem_cons_of_mem _ hb)), fun a ha z => ?_⟩
  obtain ⟨h1, o, h2⟩ := q.inH a ha
  rcases N a z with y | y
  · exact q.no a ha y
  · rw [h2] at y; cases y
theorem sem_lcE {vs : List Nat} (hi : SemI G wi mi) (hg : GSem G g p) (hp : ∀ j ∈ p.slots, j ∈ vs) : Sem G E (tLc wi g tYes (tLst tNil) vs) (mLcE mi vs p) := ⟨fun {F H σ ρ α Q} S h => by
  unfold mLcE at h
  cases e : mi ρ with
  | none => rw [e] at h; exact h.elim
  | some x =>
    obtain ⟨ds, ρ1⟩ := x
    rw [e] at h
    try dsimp only at h
    split at h
    · rename_i hc
      obtain ⟨hcl, hlen⟩ := hc
      refine hi.run S e fun J F1 H1 α1 S1 T1 N1 it => ?_
      intro Dl hD
      have S1' : Ste G F1 (upd H1 Dl (.lst [])) (L2.wipe σ vs) ρ1 α1 := (S1.put hD).wiped fun j hj o q => by
        rw [clean_mem hcl hj] at q
        cases q
      have T1' : Stp (Own α) F H F1 (upd H1 Dl (.lst [])) := T1.trans (Ste.putStp hD (A := Own α1)) N1
      let A : Al → List Addr → Addr → Prop := fun β bs a => Own β a ∨ a ∈ Dl :: bs
      have wk : ∀ {β : Al} {bs : List Addr} {Fa Ha Fb Hb : Hp}, Stp (Own β) Fa Ha Fb Hb → Stp (A β bs) Fa Ha Fb Hb := fun s => s.weak fun a z => .inl z
      refine ⟨fun i m H' => m = ds.length - i ∧ i ≤ ds.length ∧ ∃ F' ρ' α' bs, Ste G F' H' (L2.wipe σ vs) ρ' α' ∧ PendE G F' H' α' Dl bs ∧ bs.length = i ∧ Ex F1 F' ∧ Stp (A α1 []) F1 (upd H1 Dl (.lst [])) F' H' ∧ New (A α1 []) (upd H1 Dl (.lst [])) (A α' bs) ∧
          PostG G E F H α (okV G F H σ α Q) (lcLoopE vs p (ds.drop i) ρ' i),
        ⟨ds.length, by simp, Nat.zero_le _, F1, ρ1, α1, [], S1', ⟨by simp, S1.fresh hD, upd_same, by show RepLL G F1 _ [] []; unfold RepLL; rfl, fun a ha => by
          have : a = Dl := by simpa using ha
          subst this
          exact S1.notown hD⟩, rfl, Ex.refl F1, .refl, .refl, h⟩, ?_⟩
      rintro i m H' ⟨rfl, hi', F', ρ', α', bs, S', q', la, e1, T', N', h'⟩
      obtain ⟨i1, i2, i3⟩ := it i e1 S'.ex
      by_cases hlt : i < ds.length
      · refine .inr ⟨i1 hlt, _, fun H2 n2 => ⟨ds.length - (i + 1), by omega, n2⟩, fun x H'' y => ?_⟩
        obtain ⟨d, hd⟩ : ∃ d, ds[i]? = some d := ⟨ds[i], by simp [hlt]⟩
        obtain ⟨F'', f1, f2, f3, f4, rx⟩ := i3 x H'' d hd y
        have S2 := S'.grow f1 f2 f3 f4
        have G2 : Stp (Own α') F' H' F'' H'' := Stp.grow f1 f2 f3
        have q2 := q'.step G2 (α1 := α') .refl
        rw [drop_get hd] at h'
        unfold lcLoopE at h'
        cases e2 : bindP [] p d ρ' with
        | none => rw [e2] at h'; exact h'.elim
        | some ρ2 =>
          rw [e2] at h'
          try dsimp only at h'
          refine hg (pins := []) S2 rx e2 fun σ2 α2 S3 o3 _ J3 => ?_
          have q3 : PendE G F'' H'' α2 Dl bs := ⟨q2.nd, q2.fF, q2.at', q2.ll, fun a ha z => q2.no a ha (o3 _ z)⟩
          have hw : L2.wipe σ2 vs = L2.wipe σ vs := (wipe_same J3.2 fun j hj => J3.1 j fun z => hj (hp j z)).trans (wipe_same (wipe_length σ vs) fun j hj => wipe_out hj)
          have T3 : Stp (A α1 []) F1 (upd H1 Dl (.lst [])) F'' H'' := T'.trans (wk G2) N'
          have N3 : New (A α1 []) (upd H1 Dl (.lst [])) (A α2 bs) := fun a z => N' a (z.elim (fun y => .inl (o3 a y)) .inr)
          have e3 : Ex F1 F'' := e1.trans f1
          refine ⟨hw, ?_⟩
          refine ⟨by decide, fun b hb => ?_⟩
          have nb : b ∉ Dl :: bs := fun z => by
            obtain ⟨_, o, ho⟩ := q3.inH b z
            rw [hb] at ho; cases ho
          have ob : ¬ Own α2 b := S3.notown hb
          have S4 := S3.put hb (o := .lst [])
          have nDl : Dl ≠ b := fun z => nb (by rw [← z]; exact List.mem_cons_self)
          refine ⟨bs.map V.ref, by rw [upd_ne nDl]; exact q3.at', by rw [List.length_map, la]; exact Nat.lt_of_lt_of_le (Nat.lt_of_lt_of_le hlt hlen) (by decide), ?_⟩
          have fb : F'' b = none := S3.fresh hb
          have S5 : Ste G F'' (upd (upd H'' b (.lst [])) Dl (.lst (bs.map V.ref ++ [.ref b]))) σ2 ρ2 α2 := S4.poke q3.fF (q3.no Dl List.mem_cons_self)
          obtain ⟨α9, S9, o9⟩ := S5.wipe vs
          obtain ⟨nd1, nd2⟩ := List.nodup_cons.mp q3.nd
          have q9 : PendE G F'' (upd (upd H'' b (.lst [])) Dl (.lst (bs.map V.ref ++ [.ref b]))) α9 Dl (bs ++ [b]) := by
            refine ⟨?_, q3.fF, by rw [upd_same, List.map_append] <;> rfl, ?_, fun a ha z => ?_⟩
            · refine List.nodup_cons.mpr ⟨fun z => ?_, ?_⟩
              · rcases List.mem_append.mp z with z | z
                · exact nd1 z
                · exact nDl (by simpa using z)
              · refine List.nodup_append.mpr ⟨nd2, by simp, fun x hx y hy => ?_⟩
                have : y = b := by simpa using hy
                subst this
                exact fun z => nb (by rw [← z]; exact List.mem_cons_of_mem _ hx)
            · have e7 : List.replicate (bs ++ [b]).length ([] : List D) = List.replicate bs.length [] ++ [[]] := by
                rw [List.length_append]
                exact List.replicate_succ'
              rw [e7]
              refine RepLL.snoc (vs := []) (q3.ll.move (Ex.refl F'') (fun c hc => (q3.ll.mem c hc).1) fun c hc o ho => ?_) fb (by rw [upd_ne (Ne.symm nDl), upd_same]) Reps.nil
              rw [upd_ne fun z => nd1 (by rw [← z]; exact hc), upd_ne fun z => nb (by rw [← z]; exact List.mem_cons_of_mem _ hc)]
              exact ho
            · rcases List.mem_cons.mp ha with rfl | ha
              · exact q3.no _ List.mem_cons_self (o9 _ z)
              · rcases List.mem_append.mp ha with ha | ha
                · exact q3.no a (List.mem_cons_of_mem _ ha) (o9 _ z)
                · have : a = b := by simpa using ha
                  subst this
                  exact ob (o9 _ z)
          have T10 : Stp (A α2 bs) F'' H'' F'' (upd (upd H'' b (.lst [])) Dl (.lst (bs.map V.ref ++ [.ref b]))) := ⟨Ex.refl F'', fun c u hc n => by
            rw [upd_ne fun z => n (.inr (by rw [z]; exact List.mem_cons_self)), upd_ne (ne_of_none hc hb)]
            exact hc, fun c u hc => .inl hc⟩
          refine ⟨rfl, hlt, F'', wipeR ρ2 vs, α9, bs ++ [b], S9.resig hw, q9, by rw [List.length_append, la] <;> rfl, e3, T3.trans T10 N3, ?_, h'⟩
          have nw : New (A α2 bs) H'' (A α9 (bs ++ [b])) := fun a z => by
            rcases z with z | z
            · exact .inl (.inl (o9 a z))
            · rcases List.mem_cons.mp z with rfl | z
              · exact .inl (.inr List.mem_cons_self)
              · rcases List.mem_append.mp z with z | z
                · exact .inl (.inr (List.mem_cons_of_mem _ z))
                · have : a = b := by simpa using z
                  subst this
                  exact .inr hb
          exact New.trans T3 N3 nw
      · refine .inl ⟨i2 (by omega), ?_⟩
        have ei : i = ds.length := by omega
        rw [List.drop_of_length_le (by omega)] at h'
        have nD : Own α Dl ∨ H Dl = none := by
          by_cases z : Own α Dl
          · exact .inl z
          · cases e5 : H Dl with
            | none => exact .inr rfl
            | some u =>
              rw [T1.keep Dl u e5 z] at hD
              cases hD
        have nA : New (Own α) H (A α1 []) := fun a z => z.elim (fun y => N1 a y) fun y => by
          have : a = Dl := by simpa using y
          subst this
          exact nD
        have rl := q'.ll
        rw [la] at rl
        refine h' (.ref Dl) F' H' α' (Dl :: bs) S'.unwiped ⟨Dl, bs, rfl, rfl, q'.nd, q'.fF, q'.at', rl⟩ (T1'.trans T' nA) q'.no fun a z => ?_
        exact New.trans T1' nA N' a z
    · exact h.elim⟩
end
end VL

namespace VL
open PySem PySem.Spec
open PyProof.Rows L2
open Evl (Ex sz_of)
/-! ### o[i] by an own __getitem__ -/
structure OwnGet (K : PySem.W.Frag) (C f : Addr) : Prop where
  at_ : PySem.W.findIn K (.ref C) "__getitem__" = some (some (.ref f))
  isF : PySem.W.fnIn K f = true
  call : PySem.W.isFn K (.ref f) = true
/-- the instance and the index, what the def makes of them -/
def rGetO (C : Addr) (sp : Sp) (E : XK) : R2 := fun x y H Q => ∃ o dx fs, x = .ref o ∧ H o = some (.ins C dx fs) ∧ sp [x, y] H Q E
section
variable {X : Cx} {CX : CXT} {E : XK} {k : Nat} {f C : Addr} {ps : List Str} {sp : Sp} {a b : Expr} {ta tb : TE} {pos : Pos}
theorem pe_getO (O : OkAt X.prog X.w X.K X.mg X.base CX k f ps sp) (c : OwnGet X.K C f) (hx : Passes CX X E) (hr : Room (k + 1) X.A) (ha : PE X a ta) (hb : PE X b tb)
    (hsl : ∀ x i, subscripted b true (.ref x) i = runValue (.builtin "lifetime.subscript" ⟨[.ref x, i], []⟩)) : PE X (.Subscript a b pos) (tOp (rGetO C sp E) ta tb) := by
  obtain ⟨fd, F, B, _⟩ := O.ok
  refine ⟨fun pns s σ H Q inv h => Subscript_ (binT ha hb inv h fun v u s2 x y H2 J rx ry q => ?_)⟩
  obtain ⟨o, dx, fs, ex, ho, q⟩ := q
  subst ex
  cases rx
  obtain ⟨mA, JA, _⟩ := ins_get J.hok ho
  obtain ⟨oa, IA, _⟩ := JA.look
  obtain ⟨m, fr⟩ := J.fr
  have rel : Vals [V.ref o, y] [Value.ref o, u] := .cons (show RelV (V.ref o) (Value.ref o) from rfl) (.cons ry .nil)
  exact PySem.W.sub_K fr J.ok.mod.kin IA c.at_ c.isF c.call (run_own J.env0.frames F hr.in1 B hx J rel q) (hsl o u)
end
def mGetO (c : Nat) (fn : Fn) (a b : M) : M := fun ρ => bnd (a ρ) fun o ρ1 => bnd (b ρ1) fun i ρ2 => match o.frz with
  | .ins c' fs => if c' = c then onData fn [.ins c' fs, i.frz] ρ2 else none
  | _ => none
section
variable {G : Cn} {E E1 : XK} {ta tb : TE} {ma mb : M} {fn : Fn} {n c : Nat}
theorem sem_getO (hE : E1 = E ∨ ∀ os c f os', fn os ≠ some (.ex c f, os')) (hl : ∀ os r, fn os = some r → os.length = n) (ha : Sem G E ta ma) (hb : Sem G E tb mb) : Sem G E (tOp (rGetO (G.cls c) (spF G fn n) E1) ta tb) (mGetO c fn ma mb) := ⟨fun {F H σ ρ α Q} S h =>
  ha.run S (Post.to h fun o ρ1 v F1 H1 α1 S1 r1 T1 N1 h1 => hb.run S1 (Post.to (Post.shift T1 N1 h1) fun i ρ2 u F2 H2 α2 S2 r2 T2 N2 h2 => by
    split at h2
    · rename_i c' fs e
      rw [e] at r1
      split at h2
      · rename_i hc
        subst hc
        have r1' := r1.mono T2.exF
        have r1'' := r1'
        unfold Rep at r1'
        obtain ⟨a, dx, fvs, ev, e1, e2⟩ := r1'
        refine ⟨a, dx, fvs, ev, S2.ex _ _ e1, ?_⟩
        exact spF_data hE hl S2 (Reps.cons r1'' (Reps.one r2)) (Post.shift T2 N2 h2)
      · exact h2.elim
    · exact h2.elim))⟩
end
end VL

open PySem PySem.Spec
open PyProof.Rows L2
namespace VG
open VL
def fuel : Nat := 100
def top (i : Nat) : Stmt := PySem.Challenge.pw_registerrooms_k01_whole_programs.main.body.getD i (.Pass ⟨0, 0, 0, 0⟩)
abbrev s_is_whole : Stmt := top 8
abbrev s_is_integer : Stmt := top 9
abbrev s_are_integers : Stmt := top 10
abbrev s_has_word : Stmt := top 13
abbrev s_may_stand : Stmt := top 15
abbrev s_is_join : Stmt := top 16
abbrev s_are_joins : Stmt := top 17
abbrev s_all_points : Stmt := top 21
abbrev s_check_block : Stmt := top 22
abbrev s_followers_of : Stmt := top 23
abbrev s_edges_of : Stmt := top 24
abbrev s_reached : Stmt := top 25
abbrev s_Program___eq__ : Stmt := inClass (top 31) 1
abbrev s_Program___len__ : Stmt := inClass (top 31) 2
abbrev s_Program___getitem__ : Stmt := inClass (top 31) 3
abbrev s_Program_rows : Stmt := inClass (top 31) 5
abbrev s_Program_end : Stmt := inClass (top 31) 6
abbrev s_Program_followers : Stmt := inClass (top 31) 7
abbrev s_Program_edges_into : Stmt := inClass (top 31) 8
abbrev s_Program_points : Stmt := inClass (top 31) 9
abbrev s_law_cell_at : Stmt := top 34
abbrev s_law_draw : Stmt := top 35
abbrev s_law_number : Stmt := top 36
abbrev s_law_next : Stmt := top 37
abbrev s_law_pick : Stmt := top 38
abbrev s_law_row : Stmt := top 39
abbrev s_law_outs : Stmt := top 40
abbrev s_law_end : Stmt := top 41
abbrev s_law_plain : Stmt := top 42
abbrev s_law_targets : Stmt := top 44
abbrev s_law_ends : Stmt := top 45
abbrev s_law_edges : Stmt := top 46
abbrev s_law_points : Stmt := top 47
abbrev s_fills : Stmt := top 14
abbrev s_is_row : Stmt := top 11
abbrev s_is_end : Stmt := top 12
abbrev s_are_rows : Stmt := top 18
abbrev s_is_block : Stmt := top 19
abbrev s_are_blocks : Stmt := top 20
abbrev s_wrong_part : Stmt := top 32
abbrev s_Program___init__ : Stmt := inClass (top 31) 0
abbrev s_law_made : Stmt := top 43
abbrev s_law : Stmt := top 48
def tab_ENDS : List (Str × D) := [("go", (.str "b")), ("part", (.str "vbb")), ("stop", (.str ""))]
def tab_ROWS : List (Str × D) := [("put", (.str "vn")), ("move", (.str "vv")), ("add", (.str "vvv")), ("sub", (.str "vvv")), ("less", (.str "vvv")), ("take", (.str "v")), ("tell", (.str "v"))]
def is_Program : List (Nat × Bool) := [(3, true)]
structure Txt (P : Program) (w : World) (K : PySem.W.Frag) (mg : Str → Option Value) (fn cl : Nat → Addr) : Prop where
  d_is_whole : DefAt K "is_whole" "is_whole" s_is_whole (fn 1) ["thing"]
  d_is_integer : DefAt K "is_integer" "is_integer" s_is_integer (fn 2) ["thing", "low", "top"]
  d_are_integers : DefAt K "are_integers" "are_integers" s_are_integers (fn 3) ["things", "low", "top"]
  d_has_word : DefAt K "has_word" "has_word" s_has_word (fn 6) ["line"]
  d_may_stand : DefAt K "may_stand" "may_stand" s_may_stand (fn 8) ["number", "place", "many", "span", "count"]
  d_is_join : DefAt K "is_join" "is_join" s_is_join (fn 9) ["join", "many"]
  d_are_joins : DefAt K "are_joins" "are_joins" s_are_joins (fn 10) ["joins", "many"]
  d_all_points : DefAt K "all_points" "all_points" s_all_points (fn 14) ["blocks"]
  d_check_block : DefAt K "check_block" "check_block" s_check_block (fn 15) ["blocks", "block"]
  d_followers_of : DefAt K "followers_of" "followers_of" s_followers_of (fn 16) ["blocks", "block"]
  d_edges_of : DefAt K "edges_of" "edges_of" s_edges_of (fn 17) ["blocks", "target"]
  d_reached : DefAt K "reached" "reached" s_reached (fn 18) ["blocks", "barred"]
  d_Program___eq__ : DefAt K "__eq__" "Program.__eq__" s_Program___eq__ (fn 20) ["self", "other"]
  d_Program___len__ : DefAt K "__len__" "Program.__len__" s_Program___len__ (fn 21) ["self"]
  d_Program___getitem__ : DefAt K "__getitem__" "Program.__getitem__" s_Program___getitem__ (fn 22) ["self", "block"]
  d_Program_rows : DefAt K "rows" "Program.rows" s_Program_rows (fn 24) ["self", "block"]
  d_Program_end : DefAt K "end" "Program.end" s_Program_end (fn 25) ["self", "block"]
  d_Program_followers : DefAt K "followers" "Program.followers" s_Program_followers (fn 26) ["self", "block"]
  d_Program_edges_into : DefAt K "edges_into" "Program.edges_into" s_Program_edges_into (fn 27) ["self", "block"]
  d_Program_points : DefAt K "points" "Program.points" s_Program_points (fn 28) ["self"]
  d_law_cell_at : DefAt K "_law_cell_at" "_law_cell_at" s_law_cell_at (fn 30) ["script", "k"]
  d_law_draw : DefAt K "_law_draw" "_law_draw" s_law_draw (fn 31) ["cell", "k", "bound"]
  d_law_number : DefAt K "_law_number" "_law_number" s_law_number (fn 32) ["cell", "k", "bound"]
  d_law_next : DefAt K "_law_next" "_law_next" s_law_next (fn 33) ["draw", "bound"]
  d_law_pick : DefAt K "_law_pick" "_law_pick" s_law_pick (fn 34) ["draw", "things"]
  d_law_row : DefAt K "_law_row" "_law_row" s_law_row (fn 35) ["draw", "many", "wide"]
  d_law_outs : DefAt K "_law_outs" "_law_outs" s_law_outs (fn 36) ["draw", "size"]
  d_law_end : DefAt K "_law_end" "_law_end" s_law_end (fn 37) ["draw", "many", "size", "outs"]
  d_law_plain : DefAt K "_law_plain" "_law_plain" s_law_plain (fn 38) ["draw", "sizes", "lengths"]
  d_law_targets : DefAt K "_law_targets" "_law_targets" s_law_targets (fn 40) ["end"]
  d_law_ends : DefAt K "_law_ends" "_law_ends" s_law_ends (fn 41) ["plain"]
  d_law_edges : DefAt K "_law_edges" "_law_edges" s_law_edges (fn 42) ["ends", "block"]
  d_law_points : DefAt K "_law_points" "_law_points" s_law_points (fn 43) ["plain"]
  d_fills : DefAt K "fills" "fills" s_fills (fn 7) ["numbers", "places", "many", "span", "count"]
  d_is_row : DefAt K "is_row" "is_row" s_is_row (fn 4) ["row", "many", "span"]
  d_is_end : DefAt K "is_end" "is_end" s_is_end (fn 5) ["end", "many", "count"]
  d_are_rows : DefAt K "are_rows" "are_rows" s_are_rows (fn 11) ["rows", "most", "many", "span"]
  d_is_block : DefAt K "is_block" "is_block" s_is_block (fn 12) ["block", "parts", "most", "many", "span", "count"]
  d_are_blocks : DefAt K "are_blocks" "are_blocks" s_are_blocks (fn 13) ["blocks", "parts", "most", "many", "span"]
  d_wrong_part : DefAt K "wrong_part" "wrong_part" s_wrong_part (fn 29) ["many", "blocks", "handed", "span"]
  d_law_made : DefAt K "_law_made" "_law_made" s_law_made (fn 39) ["plain"]
  d_law : DefAt K "law" "law" s_law (fn 44) ["script"]
  g_law_cell_at : mg "_law_cell_at" = some (.ref (fn 30))
  g_law_draw : mg "_law_draw" = some (.ref (fn 31))
  g_law_edges : mg "_law_edges" = some (.ref (fn 42))
  g_law_end : mg "_law_end" = some (.ref (fn 37))
  g_law_ends : mg "_law_ends" = some (.ref (fn 41))
  g_law_made : mg "_law_made" = some (.ref (fn 39))
  g_law_next : mg "_law_next" = some (.ref (fn 33))
  g_law_number : mg "_law_number" = some (.ref (fn 32))
  g_law_outs : mg "_law_outs" = some (.ref (fn 36))
  g_law_pick : mg "_law_pick" = some (.ref (fn 34))
  g_law_plain : mg "_law_plain" = some (.ref (fn 38))
  g_law_points : mg "_law_points" = some (.ref (fn 43))
  g_law_row : mg "_law_row" = some (.ref (fn 35))
  g_law_targets : mg "_law_targets" = some (.ref (fn 40))
  g_all_points : mg "all_points" = some (.ref (fn 14))
  g_are_blocks : mg "are_blocks" = some (.ref (fn 13))
  g_are_integers : mg "are_integers" = some (.ref (fn 3))
  g_are_joins : mg "are_joins" = some (.ref (fn 10))
  g_are_rows : mg "are_rows" = some (.ref (fn 11))
  g_check_block : mg "check_block" = some (.ref (fn 15))
  g_edges_of : mg "edges_of" = some (.ref (fn 17))
  g_fills : mg "fills" = some (.ref (fn 7))
  g_followers_of : mg "followers_of" = some (.ref (fn 16))
  g_has_word : mg "has_word" = some (.ref (fn 6))
  g_is_block : mg "is_block" = some (.ref (fn 12))
  g_is_end : mg "is_end" = some (.ref (fn 5))
  g_is_integer : mg "is_integer" = some (.ref (fn 2))
  g_is_join : mg "is_join" = some (.ref (fn 9))
  g_is_row : mg "is_row" = some (.ref (fn 4))
  g_is_whole : mg "is_whole" = some (.ref (fn 1))
  g_may_stand : mg "may_stand" = some (.ref (fn 8))
  g_reached : mg "reached" = some (.ref (fn 18))
  g_wrong_part : mg "wrong_part" = some (.ref (fn 29))
  b_all : mg "all" = none
  b_any : mg "any" = none
  b_bool : mg "bool" = none
  b_enumerate : mg "enumerate" = none
  b_int : mg "int" = none
  b_isinstance : mg "isinstance" = none
  b_len : mg "len" = none
  b_list : mg "list" = none
  b_min : mg "min" = none
  b_range : mg "range" = none
  b_str : mg "str" = none
  b_tuple : mg "tuple" = none
  b_zip : mg "zip" = none
  k_MOST_BLOCKS : ∃ u, mg "MOST_BLOCKS" = some u ∧ RelV (.int (16)) u
  k_MOST_HANDED : ∃ u, mg "MOST_HANDED" = some u ∧ RelV (.int (3)) u
  k_MOST_ROWS : ∃ u, mg "MOST_ROWS" = some u ∧ RelV (.int (12)) u
  k_MOST_SPAN : ∃ u, mg "MOST_SPAN" = some u ∧ RelV (.int (8)) u
  k_MOST_VARIABLES : ∃ u, mg "MOST_VARIABLES" = some u ∧ RelV (.int (8)) u
  c_Program : mg "Program" = some (.ref (cl 3))
  is_Program : IsOk ⟨K, cl⟩ (.ref (cl 3)) (ansC kitO is_Program)
  o_BadBlock : OwnErr K (cl 2) ∧ mg "BadBlock" = some (.ref (cl 2))
  m_Program_edges_into : L2.Cls K (cl 3) ∧ L2.Meth K (cl 3) "edges_into" (fn 27)
  m_Program_end : L2.Cls K (cl 3) ∧ L2.Meth K (cl 3) "end" (fn 25)
  m_Program_followers : L2.Cls K (cl 3) ∧ L2.Meth K (cl 3) "followers" (fn 26)
  m_Program_rows : L2.Cls K (cl 3) ∧ L2.Meth K (cl 3) "rows" (fn 24)
  cmp_Program : OwnCmp K (cl 3) (fn 20)
  gt_Program : OwnGet K (cl 3) (fn 22)
  l_Program : PySem.W.findIn K (.ref (cl 3)) "__len__" = some (some (.ref (fn 21))) ∧ PySem.W.isFn K (.ref (fn 21)) = true
  p_Program_points : L2.Cls K (cl 3) ∧ ∃ p, L2.PropOf K (cl 3) "points" p (fn 28)
  h_blocks : ∀ c ∈ ([3] : List Nat), L2.Cls K (cl c) ∧ L2.NoAttr K (cl c) "blocks"
  h_handed : ∀ c ∈ ([3] : List Nat), L2.Cls K (cl c) ∧ L2.NoAttr K (cl c) "handed"
  h_many : ∀ c ∈ ([3] : List Nat), L2.Cls K (cl c) ∧ L2.NoAttr K (cl c) "many"
  h_span : ∀ c ∈ ([3] : List Nat), L2.Cls K (cl c) ∧ L2.NoAttr K (cl c) "span"
  x_BadProgram : ∃ fI fd, VX.BadTxt P K mg (cl 1) fI fd ∧ (∀ (s : Shared) (a : Addr) (u : Value), K.In s.heap → BindsTo s fd ⟨[.ref a, u], []⟩ [("self", .ref a), ("part", u)]) ∧ mg "BadProgram" = some (.ref (cl 1))
  i_Program : ∃ fd, L2.Fun K "__init__" "Program.__init__" s_Program___init__ (fn 19) fd ∧ L2.Mk K (cl 3) (fn 19) ∧ mg "Program" = some (.ref (cl 3)) ∧ (∃ g, L2.KBn K fd ["self", "many", "blocks", "handed", "span"] 3 ["handed", "span"] g (fun vs zs => vs ++ zs)) ∧ ∃ g, L2.KBn K fd ["self", "many", "blocks", "handed", "span"] 3 [] g (fun vs _ => vs ++ [(.int (0)), (.int (4))])
  t_ENDS : ∃ d es n, mg "ENDS" = some (.ref d) ∧ KDict K w d es n ∧ Tab K d es n tab_ENDS
  t_ROWS : ∃ d es n, mg "ROWS" = some (.ref d) ∧ KDict K w d es n ∧ Tab K d es n tab_ROWS
section
variable {P : Program} {w : World} {K : PySem.W.Frag} {mg : Str → Option Value} {base : Heap} {fn cl : Nat → Addr}
def m_is_whole : Fn := mFn0 1 1 (sRet (mAnd (mIs (ansT "int") (mVar 0)) (mNot (mIs (ansT "bool") (mVar 0)))))
theorem sc_is_whole : FnScope ["thing"] ["thing"] (defScope s_is_whole) := ⟨rfl, rfl, rfl, by decide +kernel, rfl, by decide +kernel, by decide +kernel⟩
theorem okF_is_whole (T : Txt P w K mg fn cl) {fd : FuncData} (F : L2.Fun K "is_whole" "is_whole" s_is_whole (fn 1) fd) : FnOk P w K mg base CX0 1 (fn 1) fd ["thing"] (spF ⟨K, cl⟩ m_is_whole 1) :=
  fn_ok0 F sc_is_whole rfl (by decide) fun cdv A outer s H E hr => by
    have sc := sc_is_whole
    exact ⟨_, (pss_one (ps_ret (pe_and (pe_callB call_isi (by rfl) T.b_isinstance (by decide +kernel) (pa_cons (pv 0) (pa_cons (pe_bltn (v := .ty "int") (by rfl) T.b_int (by decide +kernel) rfl) pa_nil))) (pe_one (pe_not (pe_callB call_isi (by rfl) T.b_isinstance (by decide +kernel) (pa_cons (pv 0) (pa_cons (pe_bltn (v := .ty "bool") (by rfl) T.b_bool (by decide +kernel) rfl) pa_nil)))))))),
      (semS_ret (sem_andV (sem_is (is_ty (by decide)) (.ty _) sem_var) (sem_notV (sem_is (is_ty (by decide)) (.ty _) sem_var))))⟩
theorem ok_is_whole (T : Txt P w K mg fn cl) : OkAt P w K mg base CX0 1 (fn 1) ["thing"] (spF ⟨K, cl⟩ m_is_whole 1) := by
  obtain ⟨fd, F, B⟩ := T.d_is_whole.fu
  exact ⟨fd, okF_is_whole T F, B, F.kp⟩
def m_is_integer : Fn := mFn0 3 3 (sRet (mAnd (mCall m_is_whole (aCons (mVar 0) aNil)) (mChain (fCmp fun i j => decide (i ≤ j)) (fCmp fun i j => decide (i < j)) (mVar 1) (mVar 0) (mVar 2))))
theorem sc_is_integer : FnScope ["thing", "low", "top"] ["thing", "low", "top"] (defScope s_is_integer) := ⟨rfl, rfl, rfl, by decide +kernel, rfl, by decide +kernel, by decide +kernel⟩
theorem okF_is_integer (T : Txt P w K mg fn cl) {fd : FuncData} (F : L2.Fun K "is_integer" "is_integer" s_is_integer (fn 2) fd) : FnOk P w K mg base CX0 2 (fn 2) fd ["thing", "low", "top"] (spF ⟨K, cl⟩ m_is_integer 3) :=
  fn_ok0 F sc_is_integer rfl (by decide) fun cdv A outer s H E hr => by
    have sc := sc_is_integer
    have O_is_whole := ok_is_whole (P := P) (w := w) (base := base) T
    exact ⟨_, (pss_one (ps_ret (pe_and (pe_callO O_is_whole (hr.mono (by decide)) T.g_is_whole (pa_cons (pv 0) pa_nil)) (pe_one (pe_chain op_le op_lt (pv 1) (pv 0) (pv 2)))))),
      (semS_ret (sem_andV (sem_call mFn0_len (semA_cons sem_var semA_nil)) (sem_chain os_cmp os_cmp sem_var sem_var sem_var)))⟩
theorem ok_is_integer (T : Txt P w K mg fn cl) : OkAt P w K mg base CX0 2 (fn 2) ["thing", "low", "top"] (spF ⟨K, cl⟩ m_is_integer 3) := by
  obtain ⟨fd, F, B⟩ := T.d_is_integer.fu
  exact ⟨fd, okF_is_integer T F, B, F.kp⟩
def m_are_integers : Fn := mFn0 3 4 (sRet (mAnd (mIs (ansT "tuple") (mVar 0)) (mCB fAll (aCons (mLc (iWalk (mVar 0)) [3] (.nm 3) mYes (mCall m_is_integer (aCons (mVar 3) (aCons (mVar 1) (aCons (mVar 2) aNil))))) aNil))))
theorem sc_are_integers : FnScope ["things", "low", "top", "thing"] ["things", "low", "top"] (defScope s_are_integers) := ⟨rfl, rfl, rfl, by decide +kernel, rfl, by decide +kernel, by decide +kernel⟩
theorem okF_are_integers (T : Txt P w K mg fn cl) {fd : FuncData} (F : L2.Fun K "are_integers" "are_integers" s_are_integers (fn 3) fd) : FnOk P w K mg base CX0 3 (fn 3) fd ["things", "low", "top"] (spF ⟨K, cl⟩ m_are_integers 3) :=
  fn_ok0 F sc_are_integers rfl (by decide) fun cdv A outer s H E hr => by
    have sc := sc_are_integers
    have O_is_integer := ok_is_integer (P := P) (w := w) (base := base) T
    exact ⟨_, (pss_one (ps_ret (pe_and (pe_callB call_isi (by rfl) T.b_isinstance (by decide +kernel) (pa_cons (pv 0) (pa_cons (pe_bltn (v := .ty "tuple") (by rfl) T.b_tuple (by decide +kernel) rfl) pa_nil))) (pe_one (pe_callB (cr_all rfl) (by rfl) T.b_all (by decide +kernel) (pa_cons (pe_lc (own := [("thing", 3)]) rfl sc.nd (pi_seqV (pv 0)) (by show BlkOk ["things", "low", "top", "thing"] (defScope s_are_integers) _ _; exact ⟨rfl, by decide +kernel, by decide +kernel, by decide +kernel, by decide +kernel⟩) (fun _ _ _ _ _ => (pg_name (i := 3) sc.nd rfl (Or.inl rfl))) (fun _ _ _ _ _ => pts_nil) (fun _ _ _ _ _ => (pe_callO O_is_integer (hr.mono (by decide)) T.g_is_integer (pa_cons (pv 3) (pa_cons (pv 1) (pa_cons (pv 2) pa_nil)))))) pa_nil)))))),
      (semS_ret (sem_andV (sem_is (is_ty (by decide)) (.ty _) sem_var) (sem_cb cs_all (semA_cons (sem_lc (E1 := E0) (E2 := E0) (semI_walk (E := E0) sem_var) g_name semT_yes (sem_call mFn0_len (semA_cons sem_var (semA_cons sem_var (semA_cons sem_var semA_nil)))) (by decide)) semA_nil))))⟩
theorem ok_are_integers (T : Txt P w K mg fn cl) : OkAt P w K mg base CX0 3 (fn 3) ["things", "low", "top"] (spF ⟨K, cl⟩ m_are_integers 3) := by
  obtain ⟨fd, F, B⟩ := T.d_are_integers.fu
  exact ⟨fd, okF_are_integers T F, B, F.kp⟩
def m_has_word : Fn := mFn0 1 1 (sRet (mAnd (mIs (ansT "tuple") (mVar 0)) (mAnd (mOp2 (fCmp fun i j => decide (j < i)) (mCB (fOr1 fLen fLenD) (aCons (mVar 0) aNil)) (mC (.int (0)))) (mIs (ansT "str") (mOp2 fIxA (mVar 0) (mC (.int (0))))))))
theorem sc_has_word : FnScope ["line"] ["line"] (defScope s_has_word) := ⟨rfl, rfl, rfl, by decide +kernel, rfl, by decide +kernel, by decide +kernel⟩
theorem okF_has_word (T : Txt P w K mg fn cl) {fd : FuncData} (F : L2.Fun K "has_word" "has_word" s_has_word (fn 6) fd) : FnOk P w K mg base CX0 1 (fn 6) fd ["line"] (spF ⟨K, cl⟩ m_has_word 1) :=
  fn_ok0 F sc_has_word rfl (by decide) fun cdv A outer s H E hr => by
    have sc := sc_has_word
    have hu1 := hu_of hr
    exact ⟨_, (pss_one (ps_ret (pe_and (pe_callB call_isi (by rfl) T.b_isinstance (by decide +kernel) (pa_cons (pv 0) (pa_cons (pe_bltn (v := .ty "tuple") (by rfl) T.b_tuple (by decide +kernel) rfl) pa_nil))) (pe_and (pe_cmpR op_gt (pe_callB call_lens (by rfl) T.b_len (by decide +kernel) (pa_cons (pv 0) pa_nil)) pe_int (nomark _)) (pe_one (pe_callB call_isi (by rfl) T.b_isinstance (by decide +kernel) (pa_cons (pe_ix (ix_all hu1) (pv 0) pe_int (fun _ _ => rfl)) (pa_cons (pe_bltn (v := .ty "str") (by rfl) T.b_str (by decide +kernel) rfl) pa_nil)))))))),
      (semS_ret (sem_andV (sem_is (is_ty (by decide)) (.ty _) sem_var) (sem_andV (sem_op os_cmp (sem_cb (cs_or cs_len cs_lenD) (semA_cons sem_var semA_nil)) sem_int) (sem_is (is_ty (by decide)) (.ty _) (sem_op os_ixA sem_var sem_int)))))⟩
theorem ok_has_word (T : Txt P w K mg fn cl) : OkAt P w K mg base CX0 1 (fn 6) ["line"] (spF ⟨K, cl⟩ m_has_word 1) := by
  obtain ⟨fd, F, B⟩ := T.d_has_word.fu
  exact ⟨fd, okF_has_word T F, B, F.kp⟩
def m_may_stand : Fn := mFn0 5 5 (sSeq (sIf (mOp2 fEq (mVar 1) (mC (.str "v"))) (sRet (mCall m_is_integer (aCons (mVar 0) (aCons (mC (.int (0))) (aCons (mVar 2) aNil))))) sNx) (sSeq (sIf (mOp2 fEq (mVar 1) (mC (.str "n"))) (sRet (mCall m_is_integer (aCons (mVar 0) (aCons (mC (.int (0))) (aCons (mVar 3) aNil))))) sNx) (sRet (mCall m_is_integer (aCons (mVar 0) (aCons (mC (.int (1))) (aCons (mVar 4) aNil)))))))
theorem sc_may_stand : FnScope ["number", "place", "many", "span", "count"] ["number", "place", "many", "span", "count"] (defScope s_may_stand) := ⟨rfl, rfl, rfl, by decide +kernel, rfl, by decide +kernel, by decide +kernel⟩
theorem okF_may_stand (T : Txt P w K mg fn cl) {fd : FuncData} (F : L2.Fun K "may_stand" "may_stand" s_may_stand (fn 8) fd) : FnOk P w K mg base CX0 3 (fn 8) fd ["number", "place", "many", "span", "count"] (spF ⟨K, cl⟩ m_may_stand 5) :=
  fn_ok0 F sc_may_stand rfl (by decide) fun cdv A outer s H E hr => by
    have sc := sc_may_stand
    have O_is_integer := ok_is_integer (P := P) (w := w) (base := base) T
    have hu64 := hr.units
    exact ⟨_, (pss_cons (ps_if (pt_cmpR (op_eqD hu64) (pv 1) pe_str (nomark _)) (pss_one (ps_ret (pe_callO O_is_integer (hr.mono (by decide)) T.g_is_integer (pa_cons (pv 0) (pa_cons pe_int (pa_cons (pv 2) pa_nil)))))) pss_nil)
      (pss_cons (ps_if (pt_cmpR (op_eqD hu64) (pv 1) pe_str (nomark _)) (pss_one (ps_ret (pe_callO O_is_integer (hr.mono (by decide)) T.g_is_integer (pa_cons (pv 0) (pa_cons pe_int (pa_cons (pv 3) pa_nil)))))) pss_nil)
      (pss_one (ps_ret (pe_callO O_is_integer (hr.mono (by decide)) T.g_is_integer (pa_cons (pv 0) (pa_cons pe_int (pa_cons (pv 4) pa_nil)))))))),
      (semS_seq (semS_if (semT_test (sem_op os_eq sem_var sem_str)) (semS_ret (sem_call mFn0_len (semA_cons sem_var (semA_cons sem_int (semA_cons sem_var semA_nil))))) semS_nx) (semS_seq (semS_if (semT_test (sem_op os_eq sem_var sem_str)) (semS_ret (sem_call mFn0_len (semA_cons sem_var (semA_cons sem_int (semA_cons sem_var semA_nil))))) semS_nx) (semS_ret (sem_call mFn0_len (semA_cons sem_var (semA_cons sem_int (semA_cons sem_var semA_nil)))))))⟩
theorem ok_may_stand (T : Txt P w K mg fn cl) : OkAt P w K mg base CX0 3 (fn 8) ["number", "place", "many", "span", "count"] (spF ⟨K, cl⟩ m_may_stand 5) := by
  obtain ⟨fd, F, B⟩ := T.d_may_stand.fu
  exact ⟨fd, okF_may_stand T F, B, F.kp⟩
def m_is_join : Fn := mFn0 2 2 (sSeq (sIf (mOr (mNot (mTru (mIs (ansT "tuple") (mVar 0)))) (mOp2 fNe (mCB (fOr1 fLen fLenD) (aCons (mVar 0) aNil)) (mC (.int (2))))) (sRet (mC (.bl false))) sNx) (sRet (mAnd (mCall m_is_integer (aCons (mOp2 fIxA (mVar 0) (mC (.int (0)))) (aCons (mC (.int (0))) (aCons (mVar 1) aNil)))) (mCall m_are_integers (aCons (mOp2 fIxA (mVar 0) (mC (.int (1)))) (aCons (mC (.int (0))) (aCons (mVar 1) aNil)))))))
theorem sc_is_join : FnScope ["join", "many"] ["join", "many"] (defScope s_is_join) := ⟨rfl, rfl, rfl, by decide +kernel, rfl, by decide +kernel, by decide +kernel⟩
theorem okF_is_join (T : Txt P w K mg fn cl) {fd : FuncData} (F : L2.Fun K "is_join" "is_join" s_is_join (fn 9) fd) : FnOk P w K mg base CX0 4 (fn 9) fd ["join", "many"] (spF ⟨K, cl⟩ m_is_join 2) :=
  fn_ok0 F sc_is_join rfl (by decide) fun cdv A outer s H E hr => by
    have sc := sc_is_join
    have O_are_integers := ok_are_integers (P := P) (w := w) (base := base) T
    have O_is_integer := ok_is_integer (P := P) (w := w) (base := base) T
    have hu64 := hr.units
    have hu1 := hu_of hr
    exact ⟨_, (pss_cons (ps_if (PW.pt (pw_or (pt_not (pt_truth (pe_callB call_isi (by rfl) T.b_isinstance (by decide +kernel) (pa_cons (pv 0) (pa_cons (pe_bltn (v := .ty "tuple") (by rfl) T.b_tuple (by decide +kernel) rfl) pa_nil))) (fun _ => rfl))) (pw_or1 (pt_cmpR (op_neD hu64) (pe_callB call_lens (by rfl) T.b_len (by decide +kernel) (pa_cons (pv 0) pa_nil)) pe_int (nomark _))))) (pss_one (ps_ret pe_bl)) pss_nil)
      (pss_one (ps_ret (pe_and (pe_callO O_is_integer (hr.mono (by decide)) T.g_is_integer (pa_cons (pe_ix (ix_all hu1) (pv 0) pe_int (fun _ _ => rfl)) (pa_cons pe_int (pa_cons (pv 1) pa_nil)))) (pe_one (pe_callO O_are_integers (hr.mono (by decide)) T.g_are_integers (pa_cons (pe_ix (ix_all hu1) (pv 0) pe_int (fun _ _ => rfl)) (pa_cons pe_int (pa_cons (pv 1) pa_nil))))))))),
      (semS_seq (semS_if (semT_or (semT_not (semT_tru (sem_is (is_ty (by decide)) (.ty _) sem_var))) (semT_test (sem_op os_ne (sem_cb (cs_or cs_len cs_lenD) (semA_cons sem_var semA_nil)) sem_int))) (semS_ret sem_bl) semS_nx) (semS_ret (sem_andV (sem_call mFn0_len (semA_cons (sem_op os_ixA sem_var sem_int) (semA_cons sem_int (semA_cons sem_var semA_nil)))) (sem_call mFn0_len (semA_cons (sem_op os_ixA sem_var sem_int) (semA_cons sem_int (semA_cons sem_var semA_nil)))))))⟩
theorem ok_is_join (T : Txt P w K mg fn cl) : OkAt P w K mg base CX0 4 (fn 9) ["join", "many"] (spF ⟨K, cl⟩ m_is_join 2) := by
  obtain ⟨fd, F, B⟩ := T.d_is_join.fu
  exact ⟨fd, okF_is_join T F, B, F.kp⟩
def m_are_joins : Fn := mFn0 2 3 (sRet (mAnd (mIs (ansT "tuple") (mVar 0)) (mCB fAll (aCons (mLc (iWalk (mVar 0)) [2] (.nm 2) mYes (mCall m_is_join (aCons (mVar 2) (aCons (mVar 1) aNil)))) aNil))))
theorem sc_are_joins : FnScope ["joins", "many", "join"] ["joins", "many"] (defScope s_are_joins) := ⟨rfl, rfl, rfl, by decide +kernel, rfl, by decide +kernel, by decide +kernel⟩
theorem okF_are_joins (T : Txt P w K mg fn cl) {fd : FuncData} (F : L2.Fun K "are_joins" "are_joins" s_are_joins (fn 10) fd) : FnOk P w K mg base CX0 5 (fn 10) fd ["joins", "many"] (spF ⟨K, cl⟩ m_are_joins 2) :=
  fn_ok0 F sc_are_joins rfl (by decide) fun cdv A outer s H E hr => by
    have sc := sc_are_joins
    have O_is_join := ok_is_join (P := P) (w := w) (base := base) T
    exact ⟨_, (pss_one (ps_ret (pe_and (pe_callB call_isi (by rfl) T.b_isinstance (by decide +kernel) (pa_cons (pv 0) (pa_cons (pe_bltn (v := .ty "tuple") (by rfl) T.b_tuple (by decide +kernel) rfl) pa_nil))) (pe_one (pe_callB (cr_all rfl) (by rfl) T.b_all (by decide +kernel) (pa_cons (pe_lc (own := [("join", 2)]) rfl sc.nd (pi_seqV (pv 0)) (by show BlkOk ["joins", "many", "join"] (defScope s_are_joins) _ _; exact ⟨rfl, by decide +kernel, by decide +kernel, by decide +kernel, by decide +kernel⟩) (fun _ _ _ _ _ => (pg_name (i := 2) sc.nd rfl (Or.inl rfl))) (fun _ _ _ _ _ => pts_nil) (fun _ _ _ _ _ => (pe_callO O_is_join (hr.mono (by decide)) T.g_is_join (pa_cons (pv 2) (pa_cons (pv 1) pa_nil))))) pa_nil)))))),
      (semS_ret (sem_andV (sem_is (is_ty (by decide)) (.ty _) sem_var) (sem_cb cs_all (semA_cons (sem_lc (E1 := E0) (E2 := E0) (semI_walk (E := E0) sem_var) g_name semT_yes (sem_call mFn0_len (semA_cons sem_var (semA_cons sem_var semA_nil))) (by decide)) semA_nil))))⟩
theorem ok_are_joins (T : Txt P w K mg fn cl) : OkAt P w K mg base CX0 5 (fn 10) ["joins", "many"] (spF ⟨K, cl⟩ m_are_joins 2) := by
  obtain ⟨fd, F, B⟩ := T.d_are_joins.fu
  exact ⟨fd, okF_are_joins T F, B, F.kp⟩
def m_all_points : Fn := mFn0 1 3 (sRet (mLc2 (iRange1 (aCons (mCB (fOr1 fLen fLenD) (aCons (mVar 0) aNil)) aNil)) [1, 2] (.nm 1) (iRange1 (aCons (mOp2 fAddA (mCB (fOr1 fLen fLenD) (aCons (mOp2 fIxA (mOp2 fIxA (mVar 0) (mVar 1)) (mUn fNeg (mC (.int (2))))) aNil)) (mC (.int (1)))) aNil)) [2] (.nm 2) mYes (mTup (aCons (mVar 1) (aCons (mVar 2) aNil)))))
theorem sc_all_points : FnScope ["blocks", "block", "done"] ["blocks"] (defScope s_all_points) := ⟨rfl, rfl, rfl, by decide +kernel, rfl, by decide +kernel, by decide +kernel⟩
theorem okF_all_points (T : Txt P w K mg fn cl) {fd : FuncData} (F : L2.Fun K "all_points" "all_points" s_all_points (fn 14) fd) : FnOk P w K mg base CX0 1 (fn 14) fd ["blocks"] (spF ⟨K, cl⟩ m_all_points 1) :=
  fn_ok0 F sc_all_points rfl (by decide) fun cdv A outer s H E hr => by
    have sc := sc_all_points
    have hu1 := hu_of hr
    exact ⟨_, (pss_one (ps_ret (pe_lc2 (own := [("block", 1), ("done", 2)]) (vs1 := [2]) rfl sc.nd (pi_range1 (by rfl) T.b_range (pa_cons (pe_callB call_lens (by rfl) T.b_len (by decide +kernel) (pa_cons (pv 0) pa_nil)) pa_nil)) (by show BlkOk ["blocks", "block", "done"] (defScope s_all_points) _ _; exact ⟨rfl, by decide +kernel, by decide +kernel, by decide +kernel, by decide +kernel⟩) (by decide) (fun _ _ _ _ _ => (pg_name (i := 1) sc.nd rfl (Or.inl rfl))) (fun _ _ _ _ _ => pts_nil) (fun _ _ _ _ _ => (pi_range1 (by rfl) T.b_range (pa_cons (pe_op op_addA (pe_callB call_lens (by rfl) T.b_len (by decide +kernel) (pa_cons (pe_ix (ix_all hu1) (pe_ix (ix_all hu1) (pv 0) (pv 1) (fun _ _ => rfl)) (pe_un un_neg pe_int) (fun _ _ => rfl)) pa_nil)) pe_int) pa_nil))) (fun _ _ _ _ _ => (pg_name (i := 2) sc.nd rfl (Or.inl rfl))) (fun _ _ _ _ _ => pts_nil) (fun _ _ _ _ _ => (pe_tup (pa_cons (pv 1) (pa_cons (pv 2) pa_nil))))))),
      (semS_ret (sem_lc2 (E1 := E0) (E2 := E0) (semI_range1 (E := E0) (semA_cons (sem_cb (cs_or cs_len cs_lenD) (semA_cons sem_var semA_nil)) semA_nil)) g_name (semI_range1 (E := E0) (semA_cons (sem_op os_addA (sem_cb (cs_or cs_len cs_lenD) (semA_cons (sem_op os_ixA (sem_op os_ixA sem_var sem_var) (sem_neg sem_int)) semA_nil)) sem_int) semA_nil)) g_name semT_yes (sem_tup (semA_cons sem_var (semA_cons sem_var semA_nil))) (by decide) (by decide) (by decide)))⟩
theorem ok_all_points (T : Txt P w K mg fn cl) : OkAt P w K mg base CX0 1 (fn 14) ["blocks"] (spF ⟨K, cl⟩ m_all_points 1) := by
  obtain ⟨fd, F, B⟩ := T.d_all_points.fu
  exact ⟨fd, okF_all_points T F, B, F.kp⟩
def m_check_block : Fn := mFn 2 2 (sIf (mNot (mTru (mCall m_is_integer (aCons (mVar 1) (aCons (mC (.int (0))) (aCons (mCB (fOr1 fLen fLenD) (aCons (mVar 0) aNil)) aNil)))))) (sRaise0 2) sNx)
theorem sc_check_block : FnScope ["blocks", "block"] ["blocks", "block"] (defScope s_check_block) := ⟨rfl, rfl, rfl, by decide +kernel, rfl, by decide +kernel, by decide +kernel⟩
theorem ok_check_block (T : Txt P w K mg fn cl) {fd : FuncData} (F : L2.Fun K "check_block" "check_block" s_check_block (fn 15) fd) : FnOk P w K mg base (L2.CX P w) 4 (fn 15) fd ["blocks", "block"] (spF ⟨K, cl⟩ m_check_block 2) :=
  okx F sc_check_block rfl (by decide) fun cdv A outer s H E hr => by
    have sc := sc_check_block
    have O_is_integer := ok_is_integer (P := P) (w := w) (base := base) T
    exact ⟨_, (pss_one (ps_if (pt_not (pt_truth (pe_callO O_is_integer (hr.mono (by decide)) T.g_is_integer (pa_cons (pv 1) (pa_cons pe_int (pa_cons (pe_callB call_lens (by rfl) T.b_len (by decide +kernel) (pa_cons (pv 0) pa_nil)) pa_nil)))) (fun _ => rfl))) (pss_one (ps_raise0 rfl (takes_of rfl rfl rfl rfl) T.o_BadBlock.1 T.o_BadBlock.2)) pss_nil)),
      (semS_if (semT_not (semT_tru (sem_callE (.inr mFn0_noex) mFn0_len (semA_cons sem_var (semA_cons sem_int (semA_cons (sem_cb (cs_or cs_len cs_lenD) (semA_cons sem_var semA_nil)) semA_nil)))))) (semS_raise0 (c := 2)) semS_nx)⟩
theorem okr_check_block (T : Txt P w K mg fn cl) : OkAt P w K mg base (L2.CX P w) 4 (fn 15) ["blocks", "block"] (spF ⟨K, cl⟩ m_check_block 2) := by
  obtain ⟨fd, F, B⟩ := T.d_check_block.fu
  exact ⟨fd, ok_check_block T F, B, F.kp⟩
def m_followers_of : Fn := mFn0 2 3 (sSeq (sAsgV 2 (mOp2 fIxA (mOp2 fIxA (mVar 0) (mVar 1)) (mUn fNeg (mC (.int (1)))))) (sRet (mIf (mOp2 fEq (mOp2 fIxA (mVar 2) (mC (.int (0)))) (mC (.str "part"))) (mSl (mVar 2) (oPart (mC (.int (2)))) oNone) (mSl (mVar 2) (oPart (mC (.int (1)))) oNone))))
theorem sc_followers_of : FnScope ["blocks", "block", "end"] ["blocks", "block"] (defScope s_followers_of) := ⟨rfl, rfl, rfl, by decide +kernel, rfl, by decide +kernel, by decide +kernel⟩
theorem okF_followers_of (T : Txt P w K mg fn cl) {fd : FuncData} (F : L2.Fun K "followers_of" "followers_of" s_followers_of (fn 16) fd) : FnOk P w K mg base CX0 1 (fn 16) fd ["blocks", "block"] (spF ⟨K, cl⟩ m_followers_of 2) :=
  fn_ok0 F sc_followers_of rfl (by decide) fun cdv A outer s H E hr => by
    have sc := sc_followers_of
    have hu64 := hr.units
    have hu1 := hu_of hr
    exact ⟨_, (pss_cons (ps_set (i := 2) sc.nd rfl (Or.inl rfl) (pe_ix (ix_all hu1) (pe_ix (ix_all hu1) (pv 0) (pv 1) (fun _ _ => rfl)) (pe_un un_neg pe_int) (fun _ _ => rfl)))
      (pss_one (ps_ret (pe_ifExp (pt_cmpR (op_eqD hu64) (pe_ix (ix_all hu1) (pv 2) pe_int (fun _ _ => rfl)) pe_str (nomark _)) (pe_slice sl_any (pv 2) (po_some pe_int) po_none) (pe_slice sl_any (pv 2) (po_some pe_int) po_none))))),
      (semS_seq (semS_asgV (sem_op os_ixA (sem_op os_ixA sem_var sem_var) (sem_neg sem_int))) (semS_ret (sem_if (semT_test (sem_op os_eq (sem_op os_ixA sem_var sem_int) sem_str)) (sem_sl sem_var (semO_part sem_int) semO_none) (sem_sl sem_var (semO_part sem_int) semO_none))))⟩
theorem ok_followers_of (T : Txt P w K mg fn cl) : OkAt P w K mg base CX0 1 (fn 16) ["blocks", "block"] (spF ⟨K, cl⟩ m_followers_of 2) := by
  obtain ⟨fd, F, B⟩ := T.d_followers_of.fu
  exact ⟨fd, okF_followers_of T F, B, F.kp⟩
def m_edges_of : Fn := mFn0 2 6 (sSeq (sAsgO 2 (mLst aNil)) (sSeq (sFor (iRange1 (aCons (mCB (fOr1 fLen fLenD) (aCons (mVar 0) aNil)) aNil)) (.nm 3) (sFor (iEnu (aCons (mCall m_followers_of (aCons (mVar 0) (aCons (mVar 3) aNil))) aNil)) (.tu ((.nm 4) :: (.nm 5) :: [])) (sIf (mOp2 fEq (mVar 5) (mVar 1)) (sDrop (mApp 2 (mTup (aCons (mVar 3) (aCons (mVar 4) aNil))))) sNx))) (sRet (mMv 2))))
theorem sc_edges_of : FnScope ["blocks", "target", "found", "block", "way", "follower"] ["blocks", "target"] (defScope s_edges_of) := ⟨rfl, rfl, rfl, by decide +kernel, rfl, by decide +kernel, by decide +kernel⟩
theorem okF_edges_of (T : Txt P w K mg fn cl) {fd : FuncData} (F : L2.Fun K "edges_of" "edges_of" s_edges_of (fn 17) fd) : FnOk P w K mg base CX0 2 (fn 17) fd ["blocks", "target"] (spF ⟨K, cl⟩ m_edges_of 2) :=
  fn_ok0 F sc_edges_of rfl (by decide) fun cdv A outer s H E hr => by
    have sc := sc_edges_of
    have O_followers_of := ok_followers_of (P := P) (w := w) (base := base) T
    have hu64 := hr.units
    exact ⟨_, (pss_cons (ps_set (i := 2) sc.nd rfl (Or.inl rfl) (pe_lst pa_nil))
      (pss_cons (ps_for PassesOwn.never rfl (pi_range1 (by rfl) T.b_range (pa_cons (pe_callB call_lens (by rfl) T.b_len (by decide +kernel) (pa_cons (pv 0) pa_nil)) pa_nil)) (pg_name (i := 3) sc.nd rfl (Or.inl rfl)) (pss_one (ps_for PassesOwn.never rfl (pi_enumV (by rfl) T.b_enumerate (pa_cons (pe_callO O_followers_of (hr.mono (by decide)) T.g_followers_of (pa_cons (pv 0) (pa_cons (pv 3) pa_nil))) pa_nil)) (pg_tup (n := 2) rfl (pgs_cons (pg_name (i := 4) sc.nd rfl (Or.inl rfl)) (pgs_cons (pg_name (i := 5) sc.nd rfl (Or.inl rfl)) pgs_nil))) (pss_one (ps_if (pt_cmpR (op_eqD hu64) (pv 5) (pv 1) (nomark _)) (pss_one (ps_expr (pe_bm PySem.F.plainAttrs_list PySem.F.slot_list_append PySem.F.type_list_append mt_append (pv 2) (pa_cons (pe_tup (pa_cons (pv 3) (pa_cons (pv 4) pa_nil))) pa_nil)))) pss_nil)))))
      (pss_one (ps_ret (pv 2))))),
      (semS_seq (semS_asgO (sem_lst semA_nil)) (semS_seq (semS_for (semI_range1 (E := E0) (semA_cons (sem_cb (cs_or cs_len cs_lenD) (semA_cons sem_var semA_nil)) semA_nil)) g_name (semS_for (semI_enum (E := E0) (semA_cons (sem_call mFn0_len (semA_cons sem_var (semA_cons sem_var semA_nil))) semA_nil)) (g_tup (gs_cons g_name (gs_cons g_name gs_nil))) (semS_if (semT_test (sem_op os_eq sem_var sem_var)) (semS_drop (sem_app (sem_tup (semA_cons sem_var (semA_cons sem_var semA_nil))))) semS_nx))) (semS_ret sem_mv)))⟩
theorem ok_edges_of (T : Txt P w K mg fn cl) : OkAt P w K mg base CX0 2 (fn 17) ["blocks", "target"] (spF ⟨K, cl⟩ m_edges_of 2) := by
  obtain ⟨fd, F, B⟩ := T.d_edges_of.fu
  exact ⟨fd, okF_edges_of T F, B, F.kp⟩
def m_reached : Fn := mFn0 2 6 (sSeq (sAsgO 2 (mIf (mOp2 fEq (mVar 1) (mC (.int (0)))) mDNew (mD1 (mC (.int (0))) (mC .non)))) (sSeq (sAsgO 3 (mCB (fOr1 fList fListD) (aSl 2 aNil))) (sSeq (sWhile fuel (mTruS 3) (sSeq (sAsgV 4 (mPopAt 3 (mC (.int (0))))) (sFor (iWalk (mCall m_followers_of (aCons (mVar 0) (aCons (mVar 4) aNil)))) (.nm 5) (sIf (mAnd (mOp2 fNe (mVar 5) (mVar 1)) (mOpR (fInA true) (mVar 5) 2)) (sSeq (sDPutM 2 (mVar 5) (mVar 4)) (sDrop (mApp 3 (mVar 5)))) sNx)))) (sRet (mMv 2)))))
theorem sc_reached : FnScope ["blocks", "barred", "ahead", "waiting", "block", "follower"] ["blocks", "barred"] (defScope s_reached) := ⟨rfl, rfl, rfl, by decide +kernel, rfl, by decide +kernel, by decide +kernel⟩
theorem okF_reached (T : Txt P w K mg fn cl) {fd : FuncData} (F : L2.Fun K "reached" "reached" s_reached (fn 18) fd) : FnOk P w K mg base CX0 2 (fn 18) fd ["blocks", "barred"] (spF ⟨K, cl⟩ m_reached 2) :=
  fn_ok0 F sc_reached rfl (by decide) fun cdv A outer s H E hr => by
    have sc := sc_reached
    have O_followers_of := ok_followers_of (P := P) (w := w) (base := base) T
    have hu64 := hr.units
    have hu1 := hu_of hr
    exact ⟨_, (pss_cons (ps_set (i := 2) sc.nd rfl (Or.inl rfl) (pe_ifExp (pt_cmpR (op_eqD hu64) (pv 1) pe_int (nomark _)) pe_dnewK (pe_d1 pe_int pe_non)))
      (pss_cons (ps_set (i := 3) sc.nd rfl (Or.inl rfl) (pe_callTy (call_lists rfl) (by rfl) T.b_list (by decide +kernel) (pa_cons (pv 2) pa_nil)))
      (pss_cons (ps_while PassesOwn.never (pt_truth (pv 3) (fun _ => rfl)) (pss_cons (ps_set (i := 4) sc.nd rfl (Or.inl rfl) (pe_bm PySem.F.plainAttrs_list PySem.F.slot_list_pop PySem.F.type_list_pop mt_popAt (pv 3) (pa_cons pe_int pa_nil)))
      (pss_one (ps_for PassesOwn.never rfl (pi_seqV (pe_callO O_followers_of (hr.mono (by decide)) T.g_followers_of (pa_cons (pv 0) (pa_cons (pv 4) pa_nil)))) (pg_name (i := 5) sc.nd rfl (Or.inl rfl)) (pss_one (ps_if (PW.pt (pw_and (pt_cmpR (op_neD hu64) (pv 5) (pv 1) (nomark _)) (pw_and1 (pt_cmpR ((or_dnin hu1).or op_notIn_seq) (pv 5) (pv 2) (by rfl))))) (pss_cons (ps_dput hu1 (pv 2) (pv 5) (pv 4) rfl)
      (pss_one (ps_expr (pe_bm PySem.F.plainAttrs_list PySem.F.slot_list_append PySem.F.type_list_append mt_append (pv 3) (pa_cons (pv 5) pa_nil))))) pss_nil))))))
      (pss_one (ps_ret (pv 2)))))),
      (semS_seq (semS_asgO (sem_if (semT_test (sem_op os_eq sem_var sem_int)) sem_dnew (sem_d1 sem_int sem_non))) (semS_seq (semS_asgO (sem_cb (cs_or cs_list cs_listD) (semA_sl semA_nil))) (semS_seq (semS_while (n := fuel) semT_truS (semS_seq (semS_asgV (sem_popAt sem_int)) (semS_for (semI_walk (E := E0) (sem_call mFn0_len (semA_cons sem_var (semA_cons sem_var semA_nil)))) g_name (semS_if (semT_and (semT_test (sem_op os_ne sem_var sem_var)) (semT_test (sem_opR os_inA sem_var))) (semS_seq (semS_dput sem_var sem_var) (semS_drop (sem_app sem_var))) semS_nx)))) (semS_ret sem_mv))))⟩
theorem ok_reached (T : Txt P w K mg fn cl) : OkAt P w K mg base CX0 2 (fn 18) ["blocks", "barred"] (spF ⟨K, cl⟩ m_reached 2) := by
  obtain ⟨fd, F, B⟩ := T.d_reached.fu
  exact ⟨fd, okF_reached T F, B, F.kp⟩
def m_Program___eq__ : Fn := mFn0 2 2 (sRet (mAnd (mIs (ansC kitO is_Program) (mVar 1)) (mAnd (mOp2 fEq (mFld [3] "many" (mVar 0)) (mFld [3] "many" (mVar 1))) (mAnd (mOp2 fEq (mFld [3] "blocks" (mVar 0)) (mFld [3] "blocks" (mVar 1))) (mAnd (mOp2 fEq (mFld [3] "handed" (mVar 0)) (mFld [3] "handed" (mVar 1))) (mOp2 fEq (mFld [3] "span" (mVar 0)) (mFld [3] "span" (mVar 1))))))))
theorem sc_Program___eq__ : FnScope ["self", "other"] ["self", "other"] (defScope s_Program___eq__) := ⟨rfl, rfl, rfl, by decide +kernel, rfl, by decide +kernel, by decide +kernel⟩
theorem okF_Program___eq__ (T : Txt P w K mg fn cl) {fd : FuncData} (F : L2.Fun K "__eq__" "Program.__eq__" s_Program___eq__ (fn 20) fd) : FnOk P w K mg base CX0 1 (fn 20) fd ["self", "other"] (spF ⟨K, cl⟩ m_Program___eq__ 2) :=
  fn_ok0 F sc_Program___eq__ rfl (by decide) fun cdv A outer s H E hr => by
    have sc := sc_Program___eq__
    have hu64 := hr.units
    exact ⟨_, (pss_one (ps_ret (pe_and (pe_callB call_isi (by rfl) T.b_isinstance (by decide +kernel) (pa_cons (pv 1) (pa_cons (pe_k (v := .ref (cl 3)) ⟨_, T.c_Program, rfl⟩) pa_nil))) (pe_and (pe_cmpR (op_eqD hu64) (pe_fld (pv 0) rfl) (pe_fld (pv 1) rfl) (nomark _)) (pe_and (pe_cmpR (op_eqD hu64) (pe_fld (pv 0) rfl) (pe_fld (pv 1) rfl) (nomark _)) (pe_and (pe_cmpR (op_eqD hu64) (pe_fld (pv 0) rfl) (pe_fld (pv 1) rfl) (nomark _)) (pe_one (pe_cmpR (op_eqD hu64) (pe_fld (pv 0) rfl) (pe_fld (pv 1) rfl) (nomark _))))))))),
      (semS_ret (sem_andV (sem_is T.is_Program (.own _) sem_var) (sem_andV (sem_op os_eq (sem_fld T.h_many sem_var) (sem_fld T.h_many sem_var)) (sem_andV (sem_op os_eq (sem_fld T.h_blocks sem_var) (sem_fld T.h_blocks sem_var)) (sem_andV (sem_op os_eq (sem_fld T.h_handed sem_var) (sem_fld T.h_handed sem_var)) (sem_op os_eq (sem_fld T.h_span sem_var) (sem_fld T.h_span sem_var)))))))⟩
theorem ok_Program___eq__ (T : Txt P w K mg fn cl) : OkAt P w K mg base CX0 1 (fn 20) ["self", "other"] (spF ⟨K, cl⟩ m_Program___eq__ 2) := by
  obtain ⟨fd, F, B⟩ := T.d_Program___eq__.fu
  exact ⟨fd, okF_Program___eq__ T F, B, F.kp⟩
def m_Program___len__ : Fn := mFn0 1 1 (sRet (mCB (fOr1 fLen fLenD) (aCons (mFld [3] "blocks" (mVar 0)) aNil)))
theorem sc_Program___len__ : FnScope ["self"] ["self"] (defScope s_Program___len__) := ⟨rfl, rfl, rfl, by decide +kernel, rfl, by decide +kernel, by decide +kernel⟩
theorem okF_Program___len__ (T : Txt P w K mg fn cl) {fd : FuncData} (F : L2.Fun K "__len__" "Program.__len__" s_Program___len__ (fn 21) fd) : FnOk P w K mg base CX0 1 (fn 21) fd ["self"] (spF ⟨K, cl⟩ m_Program___len__ 1) :=
  fn_ok0 F sc_Program___len__ rfl (by decide) fun cdv A outer s H E hr => by
    have sc := sc_Program___len__
    exact ⟨_, (pss_one (ps_ret (pe_callB call_lens (by rfl) T.b_len (by decide +kernel) (pa_cons (pe_fld (pv 0) rfl) pa_nil)))),
      (semS_ret (sem_cb (cs_or cs_len cs_lenD) (semA_cons (sem_fld T.h_blocks sem_var) semA_nil)))⟩
theorem ok_Program___len__ (T : Txt P w K mg fn cl) : OkAt P w K mg base CX0 1 (fn 21) ["self"] (spF ⟨K, cl⟩ m_Program___len__ 1) := by
  obtain ⟨fd, F, B⟩ := T.d_Program___len__.fu
  exact ⟨fd, okF_Program___len__ T F, B, F.kp⟩
def m_Program___getitem__ : Fn := mFn 2 2 (sSeq (sDrop (mCall m_check_block (aCons (mFld [3] "blocks" (mVar 0)) (aCons (mVar 1) aNil)))) (sRet (mOp2 fIxA (mFld [3] "blocks" (mVar 0)) (mVar 1))))
theorem sc_Program___getitem__ : FnScope ["self", "block"] ["self", "block"] (defScope s_Program___getitem__) := ⟨rfl, rfl, rfl, by decide +kernel, rfl, by decide +kernel, by decide +kernel⟩
theorem ok_Program___getitem__ (T : Txt P w K mg fn cl) {fd : FuncData} (F : L2.Fun K "__getitem__" "Program.__getitem__" s_Program___getitem__ (fn 22) fd) : FnOk P w K mg base (L2.CX P w) 6 (fn 22) fd ["self", "block"] (spF ⟨K, cl⟩ m_Program___getitem__ 2) :=
  okx F sc_Program___getitem__ rfl (by decide) fun cdv A outer s H E hr => by
    have sc := sc_Program___getitem__
    have O_check_block := okr_check_block (P := P) (w := w) (base := base) T
    have hu1 := hu_of hr
    exact ⟨_, (pss_cons (ps_expr (pe_callX O_check_block (passX (takes_of rfl rfl rfl rfl)) (hr.mono (by decide)) T.g_check_block (pa_cons (pe_fld (pv 0) rfl) (pa_cons (pv 1) pa_nil))))
      (pss_one (ps_ret (pe_ix (ix_all hu1) (pe_fld (pv 0) rfl) (pv 1) (fun _ _ => rfl))))),
      (semS_seq (semS_drop (sem_call mFn_len (semA_cons (sem_fld T.h_blocks sem_var) (semA_cons sem_var semA_nil)))) (semS_ret (sem_op os_ixA (sem_fld T.h_blocks sem_var) sem_var)))⟩
theorem okr_Program___getitem__ (T : Txt P w K mg fn cl) : OkAt P w K mg base (L2.CX P w) 6 (fn 22) ["self", "block"] (spF ⟨K, cl⟩ m_Program___getitem__ 2) := by
  obtain ⟨fd, F, B⟩ := T.d_Program___getitem__.fu
  exact ⟨fd, ok_Program___getitem__ T F, B, F.kp⟩
def m_Program_rows : Fn := mFn 2 2 (sSeq (sDrop (mCall m_check_block (aCons (mFld [3] "blocks" (mVar 0)) (aCons (mVar 1) aNil)))) (sRet (mOp2 fIxA (mOp2 fIxA (mFld [3] "blocks" (mVar 0)) (mVar 1)) (mC (.int (0))))))
theorem sc_Program_rows : FnScope ["self", "block"] ["self", "block"] (defScope s_Program_rows) := ⟨rfl, rfl, rfl, by decide +kernel, rfl, by decide +kernel, by decide +kernel⟩
theorem ok_Program_rows (T : Txt P w K mg fn cl) {fd : FuncData} (F : L2.Fun K "rows" "Program.rows" s_Program_rows (fn 24) fd) : FnOk P w K mg base (L2.CX P w) 6 (fn 24) fd ["self", "block"] (spF ⟨K, cl⟩ m_Program_rows 2) :=
  okx F sc_Program_rows rfl (by decide) fun cdv A outer s H E hr => by
    have sc := sc_Program_rows
    have O_check_block := okr_check_block (P := P) (w := w) (base := base) T
    have hu1 := hu_of hr
    exact ⟨_, (pss_cons (ps_expr (pe_callX O_check_block (passX (takes_of rfl rfl rfl rfl)) (hr.mono (by decide)) T.g_check_block (pa_cons (pe_fld (pv 0) rfl) (pa_cons (pv 1) pa_nil))))
      (pss_one (ps_ret (pe_ix (ix_all hu1) (pe_ix (ix_all hu1) (pe_fld (pv 0) rfl) (pv 1) (fun _ _ => rfl)) pe_int (fun _ _ => rfl))))),
      (semS_seq (semS_drop (sem_call mFn_len (semA_cons (sem_fld T.h_blocks sem_var) (semA_cons sem_var semA_nil)))) (semS_ret (sem_op os_ixA (sem_op os_ixA (sem_fld T.h_blocks sem_var) sem_var) sem_int)))⟩
theorem okr_Program_rows (T : Txt P w K mg fn cl) : OkAt P w K mg base (L2.CX P w) 6 (fn 24) ["self", "block"] (spF ⟨K, cl⟩ m_Program_rows 2) := by
  obtain ⟨fd, F, B⟩ := T.d_Program_rows.fu
  exact ⟨fd, ok_Program_rows T F, B, F.kp⟩
def m_Program_end : Fn := mFn 2 2 (sSeq (sDrop (mCall m_check_block (aCons (mFld [3] "blocks" (mVar 0)) (aCons (mVar 1) aNil)))) (sRet (mOp2 fIxA (mOp2 fIxA (mFld [3] "blocks" (mVar 0)) (mVar 1)) (mC (.int (1))))))
theorem sc_Program_end : FnScope ["self", "block"] ["self", "block"] (defScope s_Program_end) := ⟨rfl, rfl, rfl, by decide +kernel, rfl, by decide +kernel, by decide +kernel⟩
theorem ok_Program_end (T : Txt P w K mg fn cl) {fd : FuncData} (F : L2.Fun K "end" "Program.end" s_Program_end (fn 25) fd) : FnOk P w K mg base (L2.CX P w) 6 (fn 25) fd ["self", "block"] (spF ⟨K, cl⟩ m_Program_end 2) :=
  okx F sc_Program_end rfl (by decide) fun cdv A outer s H E hr => by
    have sc := sc_Program_end
    have O_check_block := okr_check_block (P := P) (w := w) (base := base) T
    have hu1 := hu_of hr
    exact ⟨_, (pss_cons (ps_expr (pe_callX O_check_block (passX (takes_of rfl rfl rfl rfl)) (hr.mono (by decide)) T.g_check_block (pa_cons (pe_fld (pv 0) rfl) (pa_cons (pv 1) pa_nil))))
      (pss_one (ps_ret (pe_ix (ix_all hu1) (pe_ix (ix_all hu1) (pe_fld (pv 0) rfl) (pv 1) (fun _ _ => rfl)) pe_int (fun _ _ => rfl))))),
      (semS_seq (semS_drop (sem_call mFn_len (semA_cons (sem_fld T.h_blocks sem_var) (semA_cons sem_var semA_nil)))) (semS_ret (sem_op os_ixA (sem_op os_ixA (sem_fld T.h_blocks sem_var) sem_var) sem_int)))⟩
theorem okr_Program_end (T : Txt P w K mg fn cl) : OkAt P w K mg base (L2.CX P w) 6 (fn 25) ["self", "block"] (spF ⟨K, cl⟩ m_Program_end 2) := by
  obtain ⟨fd, F, B⟩ := T.d_Program_end.fu
  exact ⟨fd, ok_Program_end T F, B, F.kp⟩
def m_Program_followers : Fn := mFn 2 2 (sSeq (sDrop (mCall m_check_block (aCons (mFld [3] "blocks" (mVar 0)) (aCons (mVar 1) aNil)))) (sRet (mCall m_followers_of (aCons (mFld [3] "blocks" (mVar 0)) (aCons (mVar 1) aNil)))))
theorem sc_Program_followers : FnScope ["self", "block"] ["self", "block"] (defScope s_Program_followers) := ⟨rfl, rfl, rfl, by decide +kernel, rfl, by decide +kernel, by decide +kernel⟩
theorem ok_Program_followers (T : Txt P w K mg fn cl) {fd : FuncData} (F : L2.Fun K "followers" "Program.followers" s_Program_followers (fn 26) fd) : FnOk P w K mg base (L2.CX P w) 6 (fn 26) fd ["self", "block"] (spF ⟨K, cl⟩ m_Program_followers 2) :=
  okx F sc_Program_followers rfl (by decide) fun cdv A outer s H E hr => by
    have sc := sc_Program_followers
    have O_check_block := okr_check_block (P := P) (w := w) (base := base) T
    have O_followers_of := ok_followers_of (P := P) (w := w) (base := base) T
    exact ⟨_, (pss_cons (ps_expr (pe_callX O_check_block (passX (takes_of rfl rfl rfl rfl)) (hr.mono (by decide)) T.g_check_block (pa_cons (pe_fld (pv 0) rfl) (pa_cons (pv 1) pa_nil))))
      (pss_one (ps_ret (pe_callO O_followers_of (hr.mono (by decide)) T.g_followers_of (pa_cons (pe_fld (pv 0) rfl) (pa_cons (pv 1) pa_nil)))))),
      (semS_seq (semS_drop (sem_call mFn_len (semA_cons (sem_fld T.h_blocks sem_var) (semA_cons sem_var semA_nil)))) (semS_ret (sem_callE (.inr mFn0_noex) mFn0_len (semA_cons (sem_fld T.h_blocks sem_var) (semA_cons sem_var semA_nil)))))⟩
theorem okr_Program_followers (T : Txt P w K mg fn cl) : OkAt P w K mg base (L2.CX P w) 6 (fn 26) ["self", "block"] (spF ⟨K, cl⟩ m_Program_followers 2) := by
  obtain ⟨fd, F, B⟩ := T.d_Program_followers.fu
  exact ⟨fd, ok_Program_followers T F, B, F.kp⟩
def m_Program_edges_into : Fn := mFn 2 2 (sSeq (sDrop (mCall m_check_block (aCons (mFld [3] "blocks" (mVar 0)) (aCons (mVar 1) aNil)))) (sRet (mCall m_edges_of (aCons (mFld [3] "blocks" (mVar 0)) (aCons (mVar 1) aNil)))))
theorem sc_Program_edges_into : FnScope ["self", "block"] ["self", "block"] (defScope s_Program_edges_into) := ⟨rfl, rfl, rfl, by decide +kernel, rfl, by decide +kernel, by decide +kernel⟩
theorem ok_Program_edges_into (T : Txt P w K mg fn cl) {fd : FuncData} (F : L2.Fun K "edges_into" "Program.edges_into" s_Program_edges_into (fn 27) fd) : FnOk P w K mg base (L2.CX P w) 6 (fn 27) fd ["self", "block"] (spF ⟨K, cl⟩ m_Program_edges_into 2) :=
  okx F sc_Program_edges_into rfl (by decide) fun cdv A outer s H E hr => by
    have sc := sc_Program_edges_into
    have O_check_block := okr_check_block (P := P) (w := w) (base := base) T
    have O_edges_of := ok_edges_of (P := P) (w := w) (base := base) T
    exact ⟨_, (pss_cons (ps_expr (pe_callX O_check_block (passX (takes_of rfl rfl rfl rfl)) (hr.mono (by decide)) T.g_check_block (pa_cons (pe_fld (pv 0) rfl) (pa_cons (pv 1) pa_nil))))
      (pss_one (ps_ret (pe_callO O_edges_of (hr.mono (by decide)) T.g_edges_of (pa_cons (pe_fld (pv 0) rfl) (pa_cons (pv 1) pa_nil)))))),
      (semS_seq (semS_drop (sem_call mFn_len (semA_cons (sem_fld T.h_blocks sem_var) (semA_cons sem_var semA_nil)))) (semS_ret (sem_callE (.inr mFn0_noex) mFn0_len (semA_cons (sem_fld T.h_blocks sem_var) (semA_cons sem_var semA_nil)))))⟩
theorem okr_Program_edges_into (T : Txt P w K mg fn cl) : OkAt P w K mg base (L2.CX P w) 6 (fn 27) ["self", "block"] (spF ⟨K, cl⟩ m_Program_edges_into 2) := by
  obtain ⟨fd, F, B⟩ := T.d_Program_edges_into.fu
  exact ⟨fd, ok_Program_edges_into T F, B, F.kp⟩
def m_Program_points : Fn := mFn0 1 1 (sRet (mCall m_all_points (aCons (mFld [3] "blocks" (mVar 0)) aNil)))
theorem sc_Program_points : FnScope ["self"] ["self"] (defScope s_Program_points) := ⟨rfl, rfl, rfl, by decide +kernel, rfl, by decide +kernel, by decide +kernel⟩
theorem okF_Program_points (T : Txt P w K mg fn cl) {fd : FuncData} (F : L2.Fun K "points" "Program.points" s_Program_points (fn 28) fd) : FnOk P w K mg base CX0 2 (fn 28) fd ["self"] (spF ⟨K, cl⟩ m_Program_points 1) :=
  fn_ok0 F sc_Program_points rfl (by decide) fun cdv A outer s H E hr => by
    have sc := sc_Program_points
    have O_all_points := ok_all_points (P := P) (w := w) (base := base) T
    exact ⟨_, (pss_one (ps_ret (pe_callO O_all_points (hr.mono (by decide)) T.g_all_points (pa_cons (pe_fld (pv 0) rfl) pa_nil)))),
      (semS_ret (sem_call mFn0_len (semA_cons (sem_fld T.h_blocks sem_var) semA_nil)))⟩
theorem ok_Program_points (T : Txt P w K mg fn cl) : OkAt P w K mg base CX0 2 (fn 28) ["self"] (spF ⟨K, cl⟩ m_Program_points 1) := by
  obtain ⟨fd, F, B⟩ := T.d_Program_points.fu
  exact ⟨fd, okF_Program_points T F, B, F.kp⟩
def m_law_cell_at : Fn := mFn0 2 2 (sSeq (sIf (mOp2 (fCmp fun i j => decide (i < j)) (mVar 1) (mCB (fOr1 fLen fLenD) (aCons (mVar 0) aNil))) (sRet (mOp2 fIxA (mVar 0) (mVar 1))) sNx) (sRet (mC (.int (0)))))
theorem sc_law_cell_at : FnScope ["script", "k"] ["script", "k"] (defScope s_law_cell_at) := ⟨rfl, rfl, rfl, by decide +kernel, rfl, by decide +kernel, by decide +kernel⟩
theorem okF_law_cell_at (T : Txt P w K mg fn cl) {fd : FuncData} (F : L2.Fun K "_law_cell_at" "_law_cell_at" s_law_cell_at (fn 30) fd) : FnOk P w K mg base CX0 1 (fn 30) fd ["script", "k"] (spF ⟨K, cl⟩ m_law_cell_at 2) :=
  fn_ok0 F sc_law_cell_at rfl (by decide) fun cdv A outer s H E hr => by
    have sc := sc_law_cell_at
    have hu1 := hu_of hr
    exact ⟨_, (pss_cons (ps_if (pt_cmpR op_lt (pv 1) (pe_callB call_lens (by rfl) T.b_len (by decide +kernel) (pa_cons (pv 0) pa_nil)) (nomark _)) (pss_one (ps_ret (pe_ix (ix_all hu1) (pv 0) (pv 1) (fun _ _ => rfl)))) pss_nil)
      (pss_one (ps_ret pe_int))),
      (semS_seq (semS_if (semT_test (sem_op os_cmp sem_var (sem_cb (cs_or cs_len cs_lenD) (semA_cons sem_var semA_nil)))) (semS_ret (sem_op os_ixA sem_var sem_var)) semS_nx) (semS_ret sem_int))⟩
theorem ok_law_cell_at (T : Txt P w K mg fn cl) : OkAt P w K mg base CX0 1 (fn 30) ["script", "k"] (spF ⟨K, cl⟩ m_law_cell_at 2) := by
  obtain ⟨fd, F, B⟩ := T.d_law_cell_at.fu
  exact ⟨fd, okF_law_cell_at T F, B, F.kp⟩
def m_law_draw : Fn := mFn0 3 4 (sSeq (sAsgV 3 (mTup (aCons (mC (.int (1000003))) (aCons (mC (.int (1000033))) (aCons (mC (.int (1000037))) (aCons (mC (.int (1000039))) (aCons (mC (.int (1000081))) (aCons (mC (.int (1000099))) (aCons (mC (.int (1000117))) (aCons (mC (.int (1000121))) (aCons (mC (.int (1000133))) (aCons (mC (.int (1000151))) (aCons (mC (.int (1000159))) (aCons (mC (.int (1000171))) (aCons (mC (.int (1000183))) (aCons (mC (.int (1000187))) (aCons (mC (.int (1000193))) (aCons (mC (.int (1000199))) aNil)))))))))))))))))) (sRet (mOp2 (fIntC bMod fun i j => i % j) (mOp2 (fIntC bMod fun i j => i % j) (mCB fIntOf (aCons (mOp2 fAddA (mOp2 fMulA (mVar 0) (mC (.int (48271)))) (mOp2 fMulA (mVar 1) (mC (.int (69621))))) aNil)) (mOp2 fIxA (mVar 3) (mOp2 (fIntC bMod fun i j => i % j) (mCB fIntOf (aCons (mVar 1) aNil)) (mC (.int (16)))))) (mVar 2))))
theorem sc_law_draw : FnScope ["cell", "k", "bound", "primes"] ["cell", "k", "bound"] (defScope s_law_draw) := ⟨rfl, rfl, rfl, by decide +kernel, rfl, by decide +kernel, by decide +kernel⟩
theorem okF_law_draw (T : Txt P w K mg fn cl) {fd : FuncData} (F : L2.Fun K "_law_draw" "_law_draw" s_law_draw (fn 31) fd) : FnOk P w K mg base CX0 1 (fn 31) fd ["cell", "k", "bound"] (spF ⟨K, cl⟩ m_law_draw 3) :=
  fn_ok0 F sc_law_draw rfl (by decide) fun cdv A outer s H E hr => by
    have sc := sc_law_draw
    have hu1 := hu_of hr
    exact ⟨_, (pss_cons (ps_set (i := 3) sc.nd rfl (Or.inl rfl) (pe_tup (pa_cons pe_int (pa_cons pe_int (pa_cons pe_int (pa_cons pe_int (pa_cons pe_int (pa_cons pe_int (pa_cons pe_int (pa_cons pe_int (pa_cons pe_int (pa_cons pe_int (pa_cons pe_int (pa_cons pe_int (pa_cons pe_int (pa_cons pe_int (pa_cons pe_int (pa_cons pe_int pa_nil))))))))))))))))))
      (pss_one (ps_ret (pe_op op_mod (pe_op op_mod (pe_callTy call_int1 (by rfl) T.b_int (by decide +kernel) (pa_cons (pe_op op_addA (pe_op op_mulA (pv 0) pe_int) (pe_op op_mulA (pv 1) pe_int)) pa_nil)) (pe_ix (ix_all hu1) (pv 3) (pe_op op_mod (pe_callTy call_int1 (by rfl) T.b_int (by decide +kernel) (pa_cons (pv 1) pa_nil)) pe_int) (fun _ _ => rfl))) (pv 2))))),
      (semS_seq (semS_asgV (sem_tup (semA_cons sem_int (semA_cons sem_int (semA_cons sem_int (semA_cons sem_int (semA_cons sem_int (semA_cons sem_int (semA_cons sem_int (semA_cons sem_int (semA_cons sem_int (semA_cons sem_int (semA_cons sem_int (semA_cons sem_int (semA_cons sem_int (semA_cons sem_int (semA_cons sem_int (semA_cons sem_int semA_nil)))))))))))))))))) (semS_ret (sem_op os_mod (sem_op os_mod (sem_cb cs_intOf (semA_cons (sem_op os_addA (sem_op os_mulA sem_var sem_int) (sem_op os_mulA sem_var sem_int)) semA_nil)) (sem_op os_ixA sem_var (sem_op os_mod (sem_cb cs_intOf (semA_cons sem_var semA_nil)) sem_int))) sem_var)))⟩
theorem ok_law_draw (T : Txt P w K mg fn cl) : OkAt P w K mg base CX0 1 (fn 31) ["cell", "k", "bound"] (spF ⟨K, cl⟩ m_law_draw 3) := by
  obtain ⟨fd, F, B⟩ := T.d_law_draw.fu
  exact ⟨fd, okF_law_draw T F, B, F.kp⟩
def m_law_number : Fn := mFn0 3 7 (sSeq (sAsgV 3 (mC (.int (1)))) (sSeq (sFor (iRange1 (aCons (mOp2 (fIntC bMod fun i j => i % j) (mCB fIntOf (aCons (mVar 1) aNil)) (mC (.int (24)))) aNil)) (.nm 4) (sAsgV 3 (mOp2 fMulA (mVar 3) (mC (.int (1009)))))) (sSeq (sAsgV 5 (mOp2 (fIntC bDivW fun i j => i / j) (mOp2 (fInt fun i j => i - j) (mVar 0) (mOp2 (fIntC bPow fun i j => i ^ j.toNat) (mC (.int (10))) (mC (.int (18))))) (mVar 3))) (sSeq (sIf (mOp2 (fCmp fun i j => decide (j < i)) (mVar 5) (mC (.int (0)))) (sRet (mOp2 (fIntC bMod fun i j => i % j) (mOp2 (fIntC bMod fun i j => i % j) (mCB fIntOf (aCons (mVar 5) aNil)) (mC (.int (1009)))) (mVar 2))) sNx) (sSeq (sAsgV 6 (mOp2 (fIntC bMod fun i j => i % j) (mCB fIntOf (aCons (mVar 0) aNil)) (mC (.int (1000003))))) (sRet (mOp2 (fIntC bMod fun i j => i % j) (mCall m_law_draw (aCons (mOp2 fMulA (mOp2 fAddA (mVar 6) (mOp2 fMulA (mC (.int (977))) (mVar 1))) (mOp2 fAddA (mOp2 fAddA (mVar 6) (mOp2 fMulA (mC (.int (31))) (mVar 1))) (mC (.int (5))))) (aCons (mOp2 fAddA (mOp2 (fIntC bMod fun i j => i % j) (mCB fIntOf (aCons (mVar 1) aNil)) (mC (.int (9)))) (mC (.int (1)))) (aCons (mC (.int (999983))) aNil)))) (mVar 2))))))))
theorem sc_law_number : FnScope ["cell", "k", "bound", "power", "lap", "remains", "small"] ["cell", "k", "bound"] (defScope s_law_number) := ⟨rfl, rfl, rfl, by decide +kernel, rfl, by decide +kernel, by decide +kernel⟩
theorem okF_law_number (T : Txt P w K mg fn cl) {fd : FuncData} (F : L2.Fun K "_law_number" "_law_number" s_law_number (fn 32) fd) : FnOk P w K mg base CX0 2 (fn 32) fd ["cell", "k", "bound"] (spF ⟨K, cl⟩ m_law_number 3) :=
  fn_ok0 F sc_law_number rfl (by decide) fun cdv A outer s H E hr => by
    have sc := sc_law_number
    have O_law_draw := ok_law_draw (P := P) (w := w) (base := base) T
    exact ⟨_, (pss_cons (ps_set (i := 3) sc.nd rfl (Or.inl rfl) pe_int)
      (pss_cons (ps_for PassesOwn.never rfl (pi_range1 (by rfl) T.b_range (pa_cons (pe_op op_mod (pe_callTy call_int1 (by rfl) T.b_int (by decide +kernel) (pa_cons (pv 1) pa_nil)) pe_int) pa_nil)) (pg_name (i := 4) sc.nd rfl (Or.inl rfl)) (pss_one (ps_set (i := 3) sc.nd rfl (Or.inl rfl) (pe_op op_mulA (pv 3) pe_int))))
      (pss_cons (ps_set (i := 5) sc.nd rfl (Or.inl rfl) (pe_op op_fdivW (pe_op op_sub (pv 0) (pe_op op_pow pe_int pe_int)) (pv 3)))
      (pss_cons (ps_if (pt_cmpR op_gt (pv 5) pe_int (nomark _)) (pss_one (ps_ret (pe_op op_mod (pe_op op_mod (pe_callTy call_int1 (by rfl) T.b_int (by decide +kernel) (pa_cons (pv 5) pa_nil)) pe_int) (pv 2)))) pss_nil)
      (pss_cons (ps_set (i := 6) sc.nd rfl (Or.inl rfl) (pe_op op_mod (pe_callTy call_int1 (by rfl) T.b_int (by decide +kernel) (pa_cons (pv 0) pa_nil)) pe_int))
      (pss_one (ps_ret (pe_op op_mod (pe_callO O_law_draw (hr.mono (by decide)) T.g_law_draw (pa_cons (pe_op op_mulA (pe_op op_addA (pv 6) (pe_op op_mulA pe_int (pv 1))) (pe_op op_addA (pe_op op_addA (pv 6) (pe_op op_mulA pe_int (pv 1))) pe_int)) (pa_cons (pe_op op_addA (pe_op op_mod (pe_callTy call_int1 (by rfl) T.b_int (by decide +kernel) (pa_cons (pv 1) pa_nil)) pe_int) pe_int) (pa_cons pe_int pa_nil)))) (pv 2))))))))),
      (semS_seq (semS_asgV sem_int) (semS_seq (semS_for (semI_range1 (E := E0) (semA_cons (sem_op os_mod (sem_cb cs_intOf (semA_cons sem_var semA_nil)) sem_int) semA_nil)) g_name (semS_asgV (sem_op os_mulA sem_var sem_int))) (semS_seq (semS_asgV (sem_op os_divW (sem_op os_int sem_var (sem_op os_pow sem_int sem_int)) sem_var)) (semS_seq (semS_if (semT_test (sem_op os_cmp sem_var sem_int)) (semS_ret (sem_op os_mod (sem_op os_mod (sem_cb cs_intOf (semA_cons sem_var semA_nil)) sem_int) sem_var)) semS_nx) (semS_seq (semS_asgV (sem_op os_mod (sem_cb cs_intOf (semA_cons sem_var semA_nil)) sem_int)) (semS_ret (sem_op os_mod (sem_call mFn0_len (semA_cons (sem_op os_mulA (sem_op os_addA sem_var (sem_op os_mulA sem_int sem_var)) (sem_op os_addA (sem_op os_addA sem_var (sem_op os_mulA sem_int sem_var)) sem_int)) (semA_cons (sem_op os_addA (sem_op os_mod (sem_cb cs_intOf (semA_cons sem_var semA_nil)) sem_int) sem_int) (semA_cons sem_int semA_nil)))) sem_var)))))))⟩
theorem ok_law_number (T : Txt P w K mg fn cl) : OkAt P w K mg base CX0 2 (fn 32) ["cell", "k", "bound"] (spF ⟨K, cl⟩ m_law_number 3) := by
  obtain ⟨fd, F, B⟩ := T.d_law_number.fu
  exact ⟨fd, okF_law_number T F, B, F.kp⟩
def m_law_next : Fn := mFn0 2 4 (sSeq (sSetM 0 (mC (.int (2))) (mOp2 fAddA (mOpL fIxA 0 (mC (.int (2)))) (mC (.int (1))))) (sSeq (sAsgV 2 (mOp2 (fIntC bDivW fun i j => i / j) (mOpL fIxA 0 (mC (.int (2)))) (mC (.int (12))))) (sSeq (sAsgV 3 (mOp2 fAddA (mCall m_law_cell_at (aCons (mOpL fIxA 0 (mC (.int (0)))) (aCons (mOp2 fAddA (mOpL fIxA 0 (mC (.int (1)))) (mVar 2)) aNil))) (mOp2 fMulA (mC (.int (31))) (mVar 2)))) (sRet (mCall m_law_number (aCons (mVar 3) (aCons (mOp2 fAddA (mOp2 (fIntC bMod fun i j => i % j) (mCB fIntOf (aCons (mOpL fIxA 0 (mC (.int (2)))) aNil)) (mC (.int (12)))) (mC (.int (1)))) (aCons (mVar 1) aNil))))))))
theorem sc_law_next : FnScope ["draw", "bound", "at", "cell"] ["draw", "bound"] (defScope s_law_next) := ⟨rfl, rfl, rfl, by decide +kernel, rfl, by decide +kernel, by decide +kernel⟩
theorem okF_law_next (T : Txt P w K mg fn cl) {fd : FuncData} (F : L2.Fun K "_law_next" "_law_next" s_law_next (fn 33) fd) : FnOk P w K mg base CX0 3 (fn 33) fd ["draw", "bound"] (spF ⟨K, cl⟩ m_law_next 2) :=
  fn_ok0 F sc_law_next rfl (by decide) fun cdv A outer s H E hr => by
    have sc := sc_law_next
    have O_law_cell_at := ok_law_cell_at (P := P) (w := w) (base := base) T
    have O_law_number := ok_law_number (P := P) (w := w) (base := base) T
    have hu1 := hu_of hr
    exact ⟨_, (pss_cons (ps_asg (pe_op op_addA (pe_ix (ix_all hu1) (pv 0) pe_int (fun _ _ => rfl)) pe_int) (pg_sub (pv 0) pe_int set_list))
      (pss_cons (ps_set (i := 2) sc.nd rfl (Or.inl rfl) (pe_op op_fdivW (pe_ix (ix_all hu1) (pv 0) pe_int (fun _ _ => rfl)) pe_int))
      (pss_cons (ps_set (i := 3) sc.nd rfl (Or.inl rfl) (pe_op op_addA (pe_callO O_law_cell_at (hr.mono (by decide)) T.g_law_cell_at (pa_cons (pe_ix (ix_all hu1) (pv 0) pe_int (fun _ _ => rfl)) (pa_cons (pe_op op_addA (pe_ix (ix_all hu1) (pv 0) pe_int (fun _ _ => rfl)) (pv 2)) pa_nil))) (pe_op op_mulA pe_int (pv 2))))
      (pss_one (ps_ret (pe_callO O_law_number (hr.mono (by decide)) T.g_law_number (pa_cons (pv 3) (pa_cons (pe_op op_addA (pe_op op_mod (pe_callTy call_int1 (by rfl) T.b_int (by decide +kernel) (pa_cons (pe_ix (ix_all hu1) (pv 0) pe_int (fun _ _ => rfl)) pa_nil)) pe_int) pe_int) (pa_cons (pv 1) pa_nil))))))))),
      (semS_seq (semS_set sem_int (sem_op os_addA (sem_opL os_ixA sem_int) sem_int)) (semS_seq (semS_asgV (sem_op os_divW (sem_opL os_ixA sem_int) sem_int)) (semS_seq (semS_asgV (sem_op os_addA (sem_call mFn0_len (semA_cons (sem_opL os_ixA sem_int) (semA_cons (sem_op os_addA (sem_opL os_ixA sem_int) sem_var) semA_nil))) (sem_op os_mulA sem_int sem_var))) (semS_ret (sem_call mFn0_len (semA_cons sem_var (semA_cons (sem_op os_addA (sem_op os_mod (sem_cb cs_intOf (semA_cons (sem_opL os_ixA sem_int) semA_nil)) sem_int) sem_int) (semA_cons sem_var semA_nil))))))))⟩
theorem ok_law_next (T : Txt P w K mg fn cl) : OkAt P w K mg base CX0 3 (fn 33) ["draw", "bound"] (spF ⟨K, cl⟩ m_law_next 2) := by
  obtain ⟨fd, F, B⟩ := T.d_law_next.fu
  exact ⟨fd, okF_law_next T F, B, F.kp⟩
def m_law_pick : Fn := mFn0 2 2 (sRet (mOp2 fIxA (mVar 1) (mCall m_law_next (aSl 0 (aCons (mCB (fOr1 fLen fLenD) (aCons (mVar 1) aNil)) aNil)))))
theorem sc_law_pick : FnScope ["draw", "things"] ["draw", "things"] (defScope s_law_pick) := ⟨rfl, rfl, rfl, by decide +kernel, rfl, by decide +kernel, by decide +kernel⟩
theorem okF_law_pick (T : Txt P w K mg fn cl) {fd : FuncData} (F : L2.Fun K "_law_pick" "_law_pick" s_law_pick (fn 34) fd) : FnOk P w K mg base CX0 4 (fn 34) fd ["draw", "things"] (spF ⟨K, cl⟩ m_law_pick 2) :=
  fn_ok0 F sc_law_pick rfl (by decide) fun cdv A outer s H E hr => by
    have sc := sc_law_pick
    have O_law_next := ok_law_next (P := P) (w := w) (base := base) T
    have hu1 := hu_of hr
    exact ⟨_, (pss_one (ps_ret (pe_ix (ix_all hu1) (pv 1) (pe_callO O_law_next (hr.mono (by decide)) T.g_law_next (pa_cons (pv 0) (pa_cons (pe_callB call_lens (by rfl) T.b_len (by decide +kernel) (pa_cons (pv 1) pa_nil)) pa_nil))) (fun _ _ => rfl)))),
      (semS_ret (sem_op os_ixA sem_var (sem_call mFn0_len (semA_sl (semA_cons (sem_cb (cs_or cs_len cs_lenD) (semA_cons sem_var semA_nil)) semA_nil)))))⟩
theorem ok_law_pick (T : Txt P w K mg fn cl) : OkAt P w K mg base CX0 4 (fn 34) ["draw", "things"] (spF ⟨K, cl⟩ m_law_pick 2) := by
  obtain ⟨fd, F, B⟩ := T.d_law_pick.fu
  exact ⟨fd, okF_law_pick T F, B, F.kp⟩
def m_law_row : Fn := mFn0 3 7 (sSeq (sAsgV 3 (mCall m_law_pick (aSl 0 (aCons (mLst (aCons (mC (.str "put")) (aCons (mC (.str "move")) (aCons (mC (.str "add")) (aCons (mC (.str "sub")) (aCons (mC (.str "less")) (aCons (mC (.str "take")) (aCons (mC (.str "tell")) (aCons (mC (.str "tell")) aNil))))))))) aNil)))) (sSeq (sPar3 4 5 6 (aCons (mCall m_law_next (aSl 0 (aCons (mVar 1) aNil))) (aCons (mCall m_law_next (aSl 0 (aCons (mVar 1) aNil))) (aCons (mCall m_law_next (aSl 0 (aCons (mVar 1) aNil))) aNil)))) (sSeq (sIf (mOp2 fEq (mVar 3) (mC (.str "put"))) (sRet (mTup (aCons (mVar 3) (aCons (mVar 4) (aCons (mCall m_law_next (aSl 0 (aCons (mVar 2) aNil))) aNil))))) sNx) (sSeq (sIf (mOp2 (fInA false) (mVar 3) (mTup (aCons (mC (.str "take")) (aCons (mC (.str "tell")) aNil)))) (sRet (mTup (aCons (mVar 3) (aCons (mVar 4) aNil)))) sNx) (sRet (mIf (mOp2 fEq (mVar 3) (mC (.str "move"))) (mTup (aCons (mVar 3) (aCons (mVar 4) (aCons (mVar 5) aNil)))) (mTup (aCons (mVar 3) (aCons (mVar 4) (aCons (mVar 5) (aCons (mVar 6) aNil)))))))))))
theorem sc_law_row : FnScope ["draw", "many", "wide", "word", "r", "s", "t"] ["draw", "many", "wide"] (defScope s_law_row) := ⟨rfl, rfl, rfl, by decide +kernel, rfl, by decide +kernel, by decide +kernel⟩
theorem okF_law_row (T : Txt P w K mg fn cl) {fd : FuncData} (F : L2.Fun K "_law_row" "_law_row" s_law_row (fn 35) fd) : FnOk P w K mg base CX0 5 (fn 35) fd ["draw", "many", "wide"] (spF ⟨K, cl⟩ m_law_row 3) :=
  fn_ok0 F sc_law_row rfl (by decide) fun cdv A outer s H E hr => by
    have sc := sc_law_row
    have O_law_next := ok_law_next (P := P) (w := w) (base := base) T
    have O_law_pick := ok_law_pick (P := P) (w := w) (base := base) T
    have hu64 := hr.units
    have hu1 := hu_of hr
    exact ⟨_, (pss_cons (ps_set (i := 3) sc.nd rfl (Or.inl rfl) (pe_callO O_law_pick (hr.mono (by decide)) T.g_law_pick (pa_cons (pv 0) (pa_cons (pe_lst (pa_cons pe_str (pa_cons pe_str (pa_cons pe_str (pa_cons pe_str (pa_cons pe_str (pa_cons pe_str (pa_cons pe_str (pa_cons pe_str pa_nil))))))))) pa_nil))))
      (pss_cons (ps_par3 (i := 4) (j := 5) (l := 6) rfl sc.nd rfl rfl rfl (by decide) (by decide) (by decide) rfl rfl rfl (pa_cons (pe_callO O_law_next (hr.mono (by decide)) T.g_law_next (pa_cons (pv 0) (pa_cons (pv 1) pa_nil))) (pa_cons (pe_callO O_law_next (hr.mono (by decide)) T.g_law_next (pa_cons (pv 0) (pa_cons (pv 1) pa_nil))) (pa_cons (pe_callO O_law_next (hr.mono (by decide)) T.g_law_next (pa_cons (pv 0) (pa_cons (pv 1) pa_nil))) pa_nil))) (by rfl))
      (pss_cons (ps_if (pt_cmpR (op_eqD hu64) (pv 3) pe_str (nomark _)) (pss_one (ps_ret (pe_tup (pa_cons (pv 3) (pa_cons (pv 4) (pa_cons (pe_callO O_law_next (hr.mono (by decide)) T.g_law_next (pa_cons (pv 0) (pa_cons (pv 2) pa_nil))) pa_nil)))))) pss_nil)
      (pss_cons (ps_if (pt_cmpR ((or_din hu1).or op_in_seq) (pv 3) (pe_tup (pa_cons pe_str (pa_cons pe_str pa_nil))) (by rfl)) (pss_one (ps_ret (pe_tup (pa_cons (pv 3) (pa_cons (pv 4) pa_nil))))) pss_nil)
      (pss_one (ps_ret (pe_ifExp (pt_cmpR (op_eqD hu64) (pv 3) pe_str (nomark _)) (pe_tup (pa_cons (pv 3) (pa_cons (pv 4) (pa_cons (pv 5) pa_nil)))) (pe_tup (pa_cons (pv 3) (pa_cons (pv 4) (pa_cons (pv 5) (pa_cons (pv 6) pa_nil)))))))))))),
      (semS_seq (semS_asgV (sem_call mFn0_len (semA_sl (semA_cons (sem_lst (semA_cons sem_str (semA_cons sem_str (semA_cons sem_str (semA_cons sem_str (semA_cons sem_str (semA_cons sem_str (semA_cons sem_str (semA_cons sem_str semA_nil))))))))) semA_nil)))) (semS_seq (semS_par3 (i := 4) (j := 5) (l := 6) (semA_cons (sem_call mFn0_len (semA_sl (semA_cons sem_var semA_nil))) (semA_cons (sem_call mFn0_len (semA_sl (semA_cons sem_var semA_nil))) (semA_cons (sem_call mFn0_len (semA_sl (semA_cons sem_var semA_nil))) semA_nil)))) (semS_seq (semS_if (semT_test (sem_op os_eq sem_var sem_str)) (semS_ret (sem_tup (semA_cons sem_var (semA_cons sem_var (semA_cons (sem_call mFn0_len (semA_sl (semA_cons sem_var semA_nil))) semA_nil))))) semS_nx) (semS_seq (semS_if (semT_test (sem_op os_inA sem_var (sem_tup (semA_cons sem_str (semA_cons sem_str semA_nil))))) (semS_ret (sem_tup (semA_cons sem_var (semA_cons sem_var semA_nil)))) semS_nx) (semS_ret (sem_if (semT_test (sem_op os_eq sem_var sem_str)) (sem_tup (semA_cons sem_var (semA_cons sem_var (semA_cons sem_var semA_nil)))) (sem_tup (semA_cons sem_var (semA_cons sem_var (semA_cons sem_var (semA_cons sem_var semA_nil)))))))))))⟩
theorem ok_law_row (T : Txt P w K mg fn cl) : OkAt P w K mg base CX0 5 (fn 35) ["draw", "many", "wide"] (spF ⟨K, cl⟩ m_law_row 3) := by
  obtain ⟨fd, F, B⟩ := T.d_law_row.fu
  exact ⟨fd, okF_law_row T F, B, F.kp⟩
def m_law_outs : Fn := mFn0 2 5 (sSeq (sAsgO 2 (mLcE (iRange1 (aCons (mVar 1) aNil)) [3] (.nm 3))) (sSeq (sFor (iRange2 (aCons (mC (.int (1))) (aCons (mVar 1) aNil))) (.nm 3) (sDrop (mAppLL 2 (mCall m_law_pick (aSl 0 (aCons (mLc (iRange1 (aCons (mVar 3) aNil)) [4] (.nm 4) (mOp2 (fCmp fun i j => decide (i < j)) (mLenLL 2 (mVar 4)) (mC (.int (2)))) (mVar 4)) aNil))) 3))) (sRet (mMv 2))))
theorem sc_law_outs : FnScope ["draw", "size", "outs", "block", "one"] ["draw", "size"] (defScope s_law_outs) := ⟨rfl, rfl, rfl, by decide +kernel, rfl, by decide +kernel, by decide +kernel⟩
theorem okF_law_outs (T : Txt P w K mg fn cl) {fd : FuncData} (F : L2.Fun K "_law_outs" "_law_outs" s_law_outs (fn 36) fd) : FnOk P w K mg base CX0 5 (fn 36) fd ["draw", "size"] (spF ⟨K, cl⟩ m_law_outs 2) :=
  fn_ok0 F sc_law_outs rfl (by decide) fun cdv A outer s H E hr => by
    have sc := sc_law_outs
    have O_law_pick := ok_law_pick (P := P) (w := w) (base := base) T
    have hu1 := hu_of hr
    exact ⟨_, (pss_cons (ps_set (i := 2) sc.nd rfl (Or.inr rfl) (pe_lc (own := [("block", 3)]) rfl sc.nd (pi_range1 (by rfl) T.b_range (pa_cons (pv 1) pa_nil)) (by show BlkOk ["draw", "size", "outs", "block", "one"] (defScope s_law_outs) _ _; exact ⟨rfl, by decide +kernel, by decide +kernel, by decide +kernel, by decide +kernel⟩) (fun _ _ _ _ _ => (pg_name (i := 3) sc.nd rfl (Or.inl rfl))) (fun _ _ _ _ _ => pts_nil) (fun _ _ _ _ _ => (pe_lst pa_nil))))
      (pss_cons (ps_for PassesOwn.never rfl (pi_range2 (by rfl) T.b_range (pa_cons pe_int (pa_cons (pv 1) pa_nil))) (pg_name (i := 3) sc.nd rfl (Or.inl rfl)) (pss_one (ps_expr (pe_bm PySem.F.plainAttrs_list PySem.F.slot_list_append PySem.F.type_list_append mt_append (pe_ix (ix_all hu1) (pv 2) (pe_callO O_law_pick (hr.mono (by decide)) T.g_law_pick (pa_cons (pv 0) (pa_cons (pe_lc (own := [("one", 4)]) rfl sc.nd (pi_range1 (by rfl) T.b_range (pa_cons (pv 3) pa_nil)) (by show BlkOk ["draw", "size", "outs", "block", "one"] (defScope s_law_outs) _ _; exact ⟨rfl, by decide +kernel, by decide +kernel, by decide +kernel, by decide +kernel⟩) (fun _ _ _ _ _ => (pg_name (i := 4) sc.nd rfl (Or.inl rfl))) (fun _ _ _ _ _ => (pts_one (pt_cmpR op_lt (pe_callB call_lens (by rfl) T.b_len (by decide +kernel) (pa_cons (pe_ix (ix_all hu1) (pv 2) (pv 4) (fun _ _ => rfl)) pa_nil)) pe_int (nomark _)))) (fun _ _ _ _ _ => (pv 4))) pa_nil))) (fun _ _ => rfl)) (pa_cons (pv 3) pa_nil)))))
      (pss_one (ps_ret (pv 2))))),
      (semS_seq (semS_asgO (sem_lcE (semI_range1 (E := E0) (semA_cons sem_var semA_nil)) g_name (by decide))) (semS_seq (semS_for (semI_range2 (E := E0) (semA_cons sem_int (semA_cons sem_var semA_nil))) g_name (semS_drop (sem_appLL (sem_call mFn0_len (semA_sl (semA_cons (sem_lc (E1 := E0) (E2 := E0) (semI_range1 (E := E0) (semA_cons sem_var semA_nil)) g_name (semT_test (sem_op os_cmp (sem_lenLL (cs_or cs_len cs_lenD) (fun _ => rfl) sem_var) sem_int)) sem_var (by decide)) semA_nil)))))) (semS_ret sem_mv)))⟩
theorem ok_law_outs (T : Txt P w K mg fn cl) : OkAt P w K mg base CX0 5 (fn 36) ["draw", "size"] (spF ⟨K, cl⟩ m_law_outs 2) := by
  obtain ⟨fd, F, B⟩ := T.d_law_outs.fu
  exact ⟨fd, okF_law_outs T F, B, F.kp⟩
def m_law_end : Fn := mFn0 4 7 (sSeq (sPar 4 5 (aCons (mCall m_law_next (aSl 0 (aCons (mC (.int (4))) aNil))) (aCons (mCall m_law_next (aSl 0 (aCons (mVar 1) aNil))) aNil))) (sSeq (sIf (mOp2 fEq (mVar 3) (mLst aNil)) (sRet (mIf (mOr (mOp2 fEq (mVar 2) (mC (.int (1)))) (mOp2 (fCmp fun i j => decide (i < j)) (mVar 4) (mC (.int (2))))) (mTup (aCons (mC (.str "stop")) aNil)) (mTup (aCons (mC (.str "go")) (aCons (mOp2 fAddA (mC (.int (1))) (mCall m_law_next (aSl 0 (aCons (mOp2 (fInt fun i j => i - j) (mVar 2) (mC (.int (1)))) aNil)))) aNil))))) sNx) (sSeq (sIf (mAnd (mOp2 fEq (mCB (fOr1 fLen fLenD) (aCons (mVar 3) aNil)) (mC (.int (1)))) (mOp2 (fCmp fun i j => decide (i < j)) (mVar 4) (mC (.int (2))))) (sRet (mTup (aCons (mC (.str "go")) (aCons (mOp2 fIxA (mVar 3) (mC (.int (0)))) aNil)))) sNx) (sSeq (sAsgV 6 (mOp2 fAddA (mVar 3) (mIf (mOp2 fEq (mCB (fOr1 fLen fLenD) (aCons (mVar 3) aNil)) (mC (.int (1)))) (mLst (aCons (mOp2 fAddA (mC (.int (1))) (mCall m_law_next (aSl 0 (aCons (mOp2 (fInt fun i j => i - j) (mVar 2) (mC (.int (1)))) aNil)))) aNil)) (mLst aNil)))) (sRet (mIf (mOp2 fEq (mOp2 (fIntC bMod fun i j => i % j) (mVar 4) (mC (.int (2)))) (mC (.int (0)))) (mTup (aCons (mC (.str "part")) (aCons (mVar 5) (aCons (mOp2 fIxA (mVar 6) (mC (.int (0)))) (aCons (mOp2 fIxA (mVar 6) (mC (.int (1)))) aNil))))) (mTup (aCons (mC (.str "part")) (aCons (mVar 5) (aCons (mOp2 fIxA (mVar 6) (mC (.int (1)))) (aCons (mOp2 fIxA (mVar 6) (mC (.int (0)))) aNil)))))))))))
theorem sc_law_end : FnScope ["draw", "many", "size", "outs", "way", "one", "some"] ["draw", "many", "size", "outs"] (defScope s_law_end) := ⟨rfl, rfl, rfl, by decide +kernel, rfl, by decide +kernel, by decide +kernel⟩
theorem okF_law_end (T : Txt P w K mg fn cl) {fd : FuncData} (F : L2.Fun K "_law_end" "_law_end" s_law_end (fn 37) fd) : FnOk P w K mg base CX0 4 (fn 37) fd ["draw", "many", "size", "outs"] (spF ⟨K, cl⟩ m_law_end 4) :=
  fn_ok0 F sc_law_end rfl (by decide) fun cdv A outer s H E hr => by
    have sc := sc_law_end
    have O_law_next := ok_law_next (P := P) (w := w) (base := base) T
    have hu64 := hr.units
    have hu1 := hu_of hr
    exact ⟨_, (pss_cons (ps_par (i := 4) (j := 5) rfl sc.nd rfl rfl (by decide) rfl rfl (pa_cons (pe_callO O_law_next (hr.mono (by decide)) T.g_law_next (pa_cons (pv 0) (pa_cons pe_int pa_nil))) (pa_cons (pe_callO O_law_next (hr.mono (by decide)) T.g_law_next (pa_cons (pv 0) (pa_cons (pv 1) pa_nil))) pa_nil)) (by rfl))
      (pss_cons (ps_if (pt_cmpR (op_eqD hu64) (pv 3) (pe_lst pa_nil) (nomark _)) (pss_one (ps_ret (pe_ifExp (PW.pt (pw_or (pt_cmpR (op_eqD hu64) (pv 2) pe_int (nomark _)) (pw_or1 (pt_cmpR op_lt (pv 4) pe_int (nomark _))))) (pe_tup (pa_cons pe_str pa_nil)) (pe_tup (pa_cons pe_str (pa_cons (pe_op op_addA pe_int (pe_callO O_law_next (hr.mono (by decide)) T.g_law_next (pa_cons (pv 0) (pa_cons (pe_op op_sub (pv 2) pe_int) pa_nil)))) pa_nil)))))) pss_nil)
      (pss_cons (ps_if (PW.pt (pw_and (pt_cmpR (op_eqD hu64) (pe_callB call_lens (by rfl) T.b_len (by decide +kernel) (pa_cons (pv 3) pa_nil)) pe_int (nomark _)) (pw_and1 (pt_cmpR op_lt (pv 4) pe_int (nomark _))))) (pss_one (ps_ret (pe_tup (pa_cons pe_str (pa_cons (pe_ix (ix_all hu1) (pv 3) pe_int (fun _ _ => rfl)) pa_nil))))) pss_nil)
      (pss_cons (ps_set (i := 6) sc.nd rfl (Or.inl rfl) (pe_op op_addA (pv 3) (pe_ifExp (pt_cmpR (op_eqD hu64) (pe_callB call_lens (by rfl) T.b_len (by decide +kernel) (pa_cons (pv 3) pa_nil)) pe_int (nomark _)) (pe_lst (pa_cons (pe_op op_addA pe_int (pe_callO O_law_next (hr.mono (by decide)) T.g_law_next (pa_cons (pv 0) (pa_cons (pe_op op_sub (pv 2) pe_int) pa_nil)))) pa_nil)) (pe_lst pa_nil))))
      (pss_one (ps_ret (pe_ifExp (pt_cmpR (op_eqD hu64) (pe_op op_mod (pv 4) pe_int) pe_int (nomark _)) (pe_tup (pa_cons pe_str (pa_cons (pv 5) (pa_cons (pe_ix (ix_all hu1) (pv 6) pe_int (fun _ _ => rfl)) (pa_cons (pe_ix (ix_all hu1) (pv 6) pe_int (fun _ _ => rfl)) pa_nil))))) (pe_tup (pa_cons pe_str (pa_cons (pv 5) (pa_cons (pe_ix (ix_all hu1) (pv 6) pe_int (fun _ _ => rfl)) (pa_cons (pe_ix (ix_all hu1) (pv 6) pe_int (fun _ _ => rfl)) pa_nil)))))))))))),
      (semS_seq (semS_par (i := 4) (j := 5) (semA_cons (sem_call mFn0_len (semA_sl (semA_cons sem_int semA_nil))) (semA_cons (sem_call mFn0_len (semA_sl (semA_cons sem_var semA_nil))) semA_nil))) (semS_seq (semS_if (semT_test (sem_op os_eq sem_var (sem_lst semA_nil))) (semS_ret (sem_if (semT_or (semT_test (sem_op os_eq sem_var sem_int)) (semT_test (sem_op os_cmp sem_var sem_int))) (sem_tup (semA_cons sem_str semA_nil)) (sem_tup (semA_cons sem_str (semA_cons (sem_op os_addA sem_int (sem_call mFn0_len (semA_sl (semA_cons (sem_op os_int sem_var sem_int) semA_nil)))) semA_nil))))) semS_nx) (semS_seq (semS_if (semT_and (semT_test (sem_op os_eq (sem_cb (cs_or cs_len cs_lenD) (semA_cons sem_var semA_nil)) sem_int)) (semT_test (sem_op os_cmp sem_var sem_int))) (semS_ret (sem_tup (semA_cons sem_str (semA_cons (sem_op os_ixA sem_var sem_int) semA_nil)))) semS_nx) (semS_seq (semS_asgV (sem_op os_addA sem_var (sem_if (semT_test (sem_op os_eq (sem_cb (cs_or cs_len cs_lenD) (semA_cons sem_var semA_nil)) sem_int)) (sem_lst (semA_cons (sem_op os_addA sem_int (sem_call mFn0_len (semA_sl (semA_cons (sem_op os_int sem_var sem_int) semA_nil)))) semA_nil)) (sem_lst semA_nil)))) (semS_ret (sem_if (semT_test (sem_op os_eq (sem_op os_mod sem_var sem_int) sem_int)) (sem_tup (semA_cons sem_str (semA_cons sem_var (semA_cons (sem_op os_ixA sem_var sem_int) (semA_cons (sem_op os_ixA sem_var sem_int) semA_nil))))) (sem_tup (semA_cons sem_str (semA_cons sem_var (semA_cons (sem_op os_ixA sem_var sem_int) (semA_cons (sem_op os_ixA sem_var sem_int) semA_nil)))))))))))⟩
theorem ok_law_end (T : Txt P w K mg fn cl) : OkAt P w K mg base CX0 4 (fn 37) ["draw", "many", "size", "outs"] (spF ⟨K, cl⟩ m_law_end 4) := by
  obtain ⟨fd, F, B⟩ := T.d_law_end.fu
  exact ⟨fd, okF_law_end T F, B, F.kp⟩
def m_law_plain : Fn := mFn0 3 11 (sSeq (sAsgP (.tu ((.nm 3) :: (.nm 4) :: (.nm 5) :: [])) (mTup (aCons (mOp2 fAddA (mC (.int (1))) (mCall m_law_next (aSl 0 (aCons (mC (.int (3))) aNil)))) (aCons (mOp2 fAddA (mC (.int (2))) (mCall m_law_next (aSl 0 (aCons (mC (.int (3))) aNil)))) (aCons (mOp2 fAddA (mC (.int (1))) (mCall m_law_next (aSl 0 (aCons (mVar 1) aNil)))) aNil))))) (sSeq (sParO 6 7 (mCall m_law_outs (aSl 0 (aCons (mVar 5) aNil))) (mLst aNil)) (sSeq (sFor (iRange1 (aCons (mVar 5) aNil)) (.nm 8) (sSeq (sAsgV 9 (mLc (iRange1 (aCons (mCall m_law_next (aSl 0 (aCons (mOp2 fAddA (mVar 2) (mC (.int (1)))) aNil))) aNil)) [10] (.nm 10) mYes (mCall m_law_row (aSl 0 (aCons (mVar 3) (aCons (mVar 4) aNil)))))) (sDrop (mApp 7 (mTup (aCons (mCB fTuple (aCons (mVar 9) aNil)) (aCons (mCall m_law_end (aSl 0 (aCons (mVar 3) (aCons (mVar 5) (aCons (mOp2 fIxA (mVar 6) (mVar 8)) aNil))))) aNil))))))) (sRet (mTup (aCons (mVar 3) (aCons (mCB fTuple (aSl 7 aNil)) (aCons (mCall m_law_next (aSl 0 (aCons (mOp2 fAddA (mCB fMin2 (aCons (mVar 3) (aCons (mC (.int (2))) aNil))) (mC (.int (1)))) aNil))) (aCons (mVar 4) aNil)))))))))
theorem sc_law_plain : FnScope ["draw", "sizes", "lengths", "many", "wide", "size", "outs", "blocks", "block", "rows", "turn"] ["draw", "sizes", "lengths"] (defScope s_law_plain) := ⟨rfl, rfl, rfl, by decide +kernel, rfl, by decide +kernel, by decide +kernel⟩
theorem okF_law_plain (T : Txt P w K mg fn cl) {fd : FuncData} (F : L2.Fun K "_law_plain" "_law_plain" s_law_plain (fn 38) fd) : FnOk P w K mg base CX0 6 (fn 38) fd ["draw", "sizes", "lengths"] (spF ⟨K, cl⟩ m_law_plain 3) :=
  fn_ok0 F sc_law_plain rfl (by decide) fun cdv A outer s H E hr => by
    have sc := sc_law_plain
    have O_law_end := ok_law_end (P := P) (w := w) (base := base) T
    have O_law_next := ok_law_next (P := P) (w := w) (base := base) T
    have O_law_outs := ok_law_outs (P := P) (w := w) (base := base) T
    have O_law_row := ok_law_row (P := P) (w := w) (base := base) T
    have hu1 := hu_of hr
    exact ⟨_, (pss_cons (ps_asg (pe_tup (pa_cons (pe_op op_addA pe_int (pe_callO O_law_next (hr.mono (by decide)) T.g_law_next (pa_cons (pv 0) (pa_cons pe_int pa_nil)))) (pa_cons (pe_op op_addA pe_int (pe_callO O_law_next (hr.mono (by decide)) T.g_law_next (pa_cons (pv 0) (pa_cons pe_int pa_nil)))) (pa_cons (pe_op op_addA pe_int (pe_callO O_law_next (hr.mono (by decide)) T.g_law_next (pa_cons (pv 0) (pa_cons (pv 1) pa_nil)))) pa_nil)))) (pg_tup (n := 3) rfl (pgs_cons (pg_name (i := 3) sc.nd rfl (Or.inr rfl)) (pgs_cons (pg_name (i := 4) sc.nd rfl (Or.inr rfl)) (pgs_cons (pg_name (i := 5) sc.nd rfl (Or.inl rfl)) pgs_nil)))))
      (pss_cons (ps_par (i := 6) (j := 7) rfl sc.nd rfl rfl (by decide) rfl rfl (pa_cons (pe_callO O_law_outs (hr.mono (by decide)) T.g_law_outs (pa_cons (pv 0) (pa_cons (pv 5) pa_nil))) (pa_cons (pe_lst pa_nil) pa_nil)) (by rfl))
      (pss_cons (ps_for PassesOwn.never rfl (pi_range1 (by rfl) T.b_range (pa_cons (pv 5) pa_nil)) (pg_name (i := 8) sc.nd rfl (Or.inl rfl)) (pss_cons (ps_setLc (i := 9) (own := [("turn", 10)]) rfl sc.nd rfl rfl (by rfl) (pi_range1 (by rfl) T.b_range (pa_cons (pe_callO O_law_next (hr.mono (by decide)) T.g_law_next (pa_cons (pv 0) (pa_cons (pe_op op_addA (pv 2) pe_int) pa_nil))) pa_nil)) (by show BlkOk ["draw", "sizes", "lengths", "many", "wide", "size", "outs", "blocks", "block", "rows", "turn"] (defScope s_law_plain) _ _; exact ⟨rfl, by decide +kernel, by decide +kernel, by decide +kernel, by decide +kernel⟩) (fun _ _ _ _ _ => (pg_name (i := 10) sc.nd rfl (Or.inl rfl))) (fun _ _ _ _ _ => pts_nil) (fun _ _ _ _ _ => (pe_callO O_law_row (hr.mono (by decide)) T.g_law_row (pa_cons (pv 0) (pa_cons (pv 3) (pa_cons (pv 4) pa_nil))))))
      (pss_one (ps_expr (pe_bm PySem.F.plainAttrs_list PySem.F.slot_list_append PySem.F.type_list_append mt_append (pv 7) (pa_cons (pe_tup (pa_cons (pe_callTy call_tuple_of (by rfl) T.b_tuple (by decide +kernel) (pa_cons (pv 9) pa_nil)) (pa_cons (pe_callO O_law_end (hr.mono (by decide)) T.g_law_end (pa_cons (pv 0) (pa_cons (pv 3) (pa_cons (pv 5) (pa_cons (pe_ix (ix_all hu1) (pv 6) (pv 8) (fun _ _ => rfl)) pa_nil))))) pa_nil))) pa_nil))))))
      (pss_one (ps_ret (pe_tup (pa_cons (pv 3) (pa_cons (pe_callTy call_tuple_of (by rfl) T.b_tuple (by decide +kernel) (pa_cons (pv 7) pa_nil)) (pa_cons (pe_callO O_law_next (hr.mono (by decide)) T.g_law_next (pa_cons (pv 0) (pa_cons (pe_op op_addA (pe_callB (call_min2 rfl) (by rfl) T.b_min (by decide +kernel) (pa_cons (pv 3) (pa_cons pe_int pa_nil))) pe_int) pa_nil))) (pa_cons (pv 4) pa_nil)))))))))),
      (semS_seq (semS_asgP (g_tup (gs_cons g_name (gs_cons g_name (gs_cons g_name gs_nil)))) (sem_tup (semA_cons (sem_op os_addA sem_int (sem_call mFn0_len (semA_sl (semA_cons sem_int semA_nil)))) (semA_cons (sem_op os_addA sem_int (sem_call mFn0_len (semA_sl (semA_cons sem_int semA_nil)))) (semA_cons (sem_op os_addA sem_int (sem_call mFn0_len (semA_sl (semA_cons sem_var semA_nil)))) semA_nil))))) (semS_seq (semS_parO (i := 6) (j := 7) (sem_call mFn0_len (semA_sl (semA_cons sem_var semA_nil))) (sem_lst semA_nil)) (semS_seq (semS_for (semI_range1 (E := E0) (semA_cons sem_var semA_nil)) g_name (semS_seq (semS_asgV (sem_lc (E1 := E0) (E2 := E0) (semI_range1 (E := E0) (semA_cons (sem_call mFn0_len (semA_sl (semA_cons (sem_op os_addA sem_var sem_int) semA_nil))) semA_nil)) g_name semT_yes (sem_call mFn0_len (semA_sl (semA_cons sem_var (semA_cons sem_var semA_nil)))) (by decide))) (semS_drop (sem_app (sem_tup (semA_cons (sem_cb cs_tuple (semA_cons sem_var semA_nil)) (semA_cons (sem_call mFn0_len (semA_sl (semA_cons sem_var (semA_cons sem_var (semA_cons (sem_op os_ixA sem_var sem_var) semA_nil))))) semA_nil))))))) (semS_ret (sem_tup (semA_cons sem_var (semA_cons (sem_cb cs_tuple (semA_sl semA_nil)) (semA_cons (sem_call mFn0_len (semA_sl (semA_cons (sem_op os_addA (sem_cb cs_min2 (semA_cons sem_var (semA_cons sem_int semA_nil))) sem_int) semA_nil))) (semA_cons sem_var semA_nil)))))))))⟩
theorem ok_law_plain (T : Txt P w K mg fn cl) : OkAt P w K mg base CX0 6 (fn 38) ["draw", "sizes", "lengths"] (spF ⟨K, cl⟩ m_law_plain 3) := by
  obtain ⟨fd, F, B⟩ := T.d_law_plain.fu
  exact ⟨fd, okF_law_plain T F, B, F.kp⟩
def m_law_targets : Fn := mFn0 1 1 (sSeq (sIf (mOp2 fEq (mOp2 fIxA (mVar 0) (mC (.int (0)))) (mC (.str "go"))) (sRet (mLst (aCons (mOp2 fIxA (mVar 0) (mC (.int (1)))) aNil))) sNx) (sRet (mIf (mOp2 fEq (mOp2 fIxA (mVar 0) (mC (.int (0)))) (mC (.str "part"))) (mLst (aCons (mOp2 fIxA (mVar 0) (mC (.int (2)))) (aCons (mOp2 fIxA (mVar 0) (mC (.int (3)))) aNil))) (mLst aNil))))
theorem sc_law_targets : FnScope ["end"] ["end"] (defScope s_law_targets) := ⟨rfl, rfl, rfl, by decide +kernel, rfl, by decide +kernel, by decide +kernel⟩
theorem okF_law_targets (T : Txt P w K mg fn cl) {fd : FuncData} (F : L2.Fun K "_law_targets" "_law_targets" s_law_targets (fn 40) fd) : FnOk P w K mg base CX0 1 (fn 40) fd ["end"] (spF ⟨K, cl⟩ m_law_targets 1) :=
  fn_ok0 F sc_law_targets rfl (by decide) fun cdv A outer s H E hr => by
    have sc := sc_law_targets
    have hu64 := hr.units
    have hu1 := hu_of hr
    exact ⟨_, (pss_cons (ps_if (pt_cmpR (op_eqD hu64) (pe_ix (ix_all hu1) (pv 0) pe_int (fun _ _ => rfl)) pe_str (nomark _)) (pss_one (ps_ret (pe_lst (pa_cons (pe_ix (ix_all hu1) (pv 0) pe_int (fun _ _ => rfl)) pa_nil)))) pss_nil)
      (pss_one (ps_ret (pe_ifExp (pt_cmpR (op_eqD hu64) (pe_ix (ix_all hu1) (pv 0) pe_int (fun _ _ => rfl)) pe_str (nomark _)) (pe_lst (pa_cons (pe_ix (ix_all hu1) (pv 0) pe_int (fun _ _ => rfl)) (pa_cons (pe_ix (ix_all hu1) (pv 0) pe_int (fun _ _ => rfl)) pa_nil))) (pe_lst pa_nil))))),
      (semS_seq (semS_if (semT_test (sem_op os_eq (sem_op os_ixA sem_var sem_int) sem_str)) (semS_ret (sem_lst (semA_cons (sem_op os_ixA sem_var sem_int) semA_nil))) semS_nx) (semS_ret (sem_if (semT_test (sem_op os_eq (sem_op os_ixA sem_var sem_int) sem_str)) (sem_lst (semA_cons (sem_op os_ixA sem_var sem_int) (semA_cons (sem_op os_ixA sem_var sem_int) semA_nil))) (sem_lst semA_nil))))⟩
theorem ok_law_targets (T : Txt P w K mg fn cl) : OkAt P w K mg base CX0 1 (fn 40) ["end"] (spF ⟨K, cl⟩ m_law_targets 1) := by
  obtain ⟨fd, F, B⟩ := T.d_law_targets.fu
  exact ⟨fd, okF_law_targets T F, B, F.kp⟩
def m_law_ends : Fn := mFn0 1 2 (sRet (mLc (iWalk (mOp2 fIxA (mVar 0) (mC (.int (1))))) [1] (.nm 1) mYes (mOp2 fIxA (mVar 1) (mUn fNeg (mC (.int (1)))))))
theorem sc_law_ends : FnScope ["plain", "block"] ["plain"] (defScope s_law_ends) := ⟨rfl, rfl, rfl, by decide +kernel, rfl, by decide +kernel, by decide +kernel⟩
theorem okF_law_ends (T : Txt P w K mg fn cl) {fd : FuncData} (F : L2.Fun K "_law_ends" "_law_ends" s_law_ends (fn 41) fd) : FnOk P w K mg base CX0 1 (fn 41) fd ["plain"] (spF ⟨K, cl⟩ m_law_ends 1) :=
  fn_ok0 F sc_law_ends rfl (by decide) fun cdv A outer s H E hr => by
    have sc := sc_law_ends
    have hu1 := hu_of hr
    exact ⟨_, (pss_one (ps_ret (pe_lc (own := [("block", 1)]) rfl sc.nd (pi_seqV (pe_ix (ix_all hu1) (pv 0) pe_int (fun _ _ => rfl))) (by show BlkOk ["plain", "block"] (defScope s_law_ends) _ _; exact ⟨rfl, by decide +kernel, by decide +kernel, by decide +kernel, by decide +kernel⟩) (fun _ _ _ _ _ => (pg_name (i := 1) sc.nd rfl (Or.inl rfl))) (fun _ _ _ _ _ => pts_nil) (fun _ _ _ _ _ => (pe_ix (ix_all hu1) (pv 1) (pe_un un_neg pe_int) (fun _ _ => rfl)))))),
      (semS_ret (sem_lc (E1 := E0) (E2 := E0) (semI_walk (E := E0) (sem_op os_ixA sem_var sem_int)) g_name semT_yes (sem_op os_ixA sem_var (sem_neg sem_int)) (by decide)))⟩
theorem ok_law_ends (T : Txt P w K mg fn cl) : OkAt P w K mg base CX0 1 (fn 41) ["plain"] (spF ⟨K, cl⟩ m_law_ends 1) := by
  obtain ⟨fd, F, B⟩ := T.d_law_ends.fu
  exact ⟨fd, okF_law_ends T F, B, F.kp⟩
def m_law_edges : Fn := mFn0 2 7 (sSeq (sAsgV 2 (mLst aNil)) (sSeq (sFor (iEnu (aCons (mVar 0) aNil)) (.tu ((.nm 3) :: (.nm 4) :: [])) (sAsgV 2 (mOp2 fAddA (mVar 2) (mLc (iEnu (aCons (mCall m_law_targets (aCons (mVar 4) aNil)) aNil)) [5, 6] (.tu ((.nm 5) :: (.nm 6) :: [])) (mOp2 fEq (mVar 6) (mVar 1)) (mTup (aCons (mVar 3) (aCons (mVar 5) aNil))))))) (sRet (mVar 2))))
theorem sc_law_edges : FnScope ["ends", "block", "found", "other", "end", "way", "late"] ["ends", "block"] (defScope s_law_edges) := ⟨rfl, rfl, rfl, by decide +kernel, rfl, by decide +kernel, by decide +kernel⟩
theorem okF_law_edges (T : Txt P w K mg fn cl) {fd : FuncData} (F : L2.Fun K "_law_edges" "_law_edges" s_law_edges (fn 42) fd) : FnOk P w K mg base CX0 2 (fn 42) fd ["ends", "block"] (spF ⟨K, cl⟩ m_law_edges 2) :=
  fn_ok0 F sc_law_edges rfl (by decide) fun cdv A outer s H E hr => by
    have sc := sc_law_edges
    have O_law_targets := ok_law_targets (P := P) (w := w) (base := base) T
    have hu64 := hr.units
    exact ⟨_, (pss_cons (ps_set (i := 2) sc.nd rfl (Or.inl rfl) (pe_lst pa_nil))
      (pss_cons (ps_for PassesOwn.never rfl (pi_enumV (by rfl) T.b_enumerate (pa_cons (pv 0) pa_nil)) (pg_tup (n := 2) rfl (pgs_cons (pg_name (i := 3) sc.nd rfl (Or.inr rfl)) (pgs_cons (pg_name (i := 4) sc.nd rfl (Or.inl rfl)) pgs_nil))) (pss_one (ps_set (i := 2) sc.nd rfl (Or.inl rfl) (pe_op op_addA (pv 2) (pe_lc (own := [("way", 5), ("late", 6)]) rfl sc.nd (pi_enumV (by rfl) T.b_enumerate (pa_cons (pe_callO O_law_targets (hr.mono (by decide)) T.g_law_targets (pa_cons (pv 4) pa_nil)) pa_nil)) (by show BlkOk ["ends", "block", "found", "other", "end", "way", "late"] (defScope s_law_edges) _ _; exact ⟨rfl, by decide +kernel, by decide +kernel, by decide +kernel, by decide +kernel⟩) (fun _ _ _ _ _ => (pg_tup (n := 2) rfl (pgs_cons (pg_name (i := 5) sc.nd rfl (Or.inl rfl)) (pgs_cons (pg_name (i := 6) sc.nd rfl (Or.inl rfl)) pgs_nil)))) (fun _ _ _ _ _ => (pts_one (pt_cmpR (op_eqD hu64) (pv 6) (pv 1) (nomark _)))) (fun _ _ _ _ _ => (pe_tup (pa_cons (pv 3) (pa_cons (pv 5) pa_nil)))))))))
      (pss_one (ps_ret (pv 2))))),
      (semS_seq (semS_asgV (sem_lst semA_nil)) (semS_seq (semS_for (semI_enum (E := E0) (semA_cons sem_var semA_nil)) (g_tup (gs_cons g_name (gs_cons g_name gs_nil))) (semS_asgV (sem_op os_addA sem_var (sem_lc (E1 := E0) (E2 := E0) (semI_enum (E := E0) (semA_cons (sem_call mFn0_len (semA_cons sem_var semA_nil)) semA_nil)) (g_tup (gs_cons g_name (gs_cons g_name gs_nil))) (semT_test (sem_op os_eq sem_var sem_var)) (sem_tup (semA_cons sem_var (semA_cons sem_var semA_nil))) (by decide))))) (semS_ret sem_var)))⟩
theorem ok_law_edges (T : Txt P w K mg fn cl) : OkAt P w K mg base CX0 2 (fn 42) ["ends", "block"] (spF ⟨K, cl⟩ m_law_edges 2) := by
  obtain ⟨fd, F, B⟩ := T.d_law_edges.fu
  exact ⟨fd, okF_law_edges T F, B, F.kp⟩
def m_law_points : Fn := mFn0 1 5 (sSeq (sAsgV 1 (mLst aNil)) (sSeq (sFor (iEnu (aCons (mOp2 fIxA (mVar 0) (mC (.int (1)))) aNil)) (.tu ((.nm 2) :: (.nm 3) :: [])) (sAsgV 1 (mOp2 fAddA (mVar 1) (mLc (iRange1 (aCons (mOp2 fAddA (mCB (fOr1 fLen fLenD) (aCons (mOp2 fIxA (mVar 3) (mC (.int (0)))) aNil)) (mC (.int (1)))) aNil)) [4] (.nm 4) mYes (mTup (aCons (mVar 2) (aCons (mVar 4) aNil))))))) (sRet (mVar 1))))
theorem sc_law_points : FnScope ["plain", "found", "block", "pair", "done"] ["plain"] (defScope s_law_points) := ⟨rfl, rfl, rfl, by decide +kernel, rfl, by decide +kernel, by decide +kernel⟩
theorem okF_law_points (T : Txt P w K mg fn cl) {fd : FuncData} (F : L2.Fun K "_law_points" "_law_points" s_law_points (fn 43) fd) : FnOk P w K mg base CX0 1 (fn 43) fd ["plain"] (spF ⟨K, cl⟩ m_law_points 1) :=
  fn_ok0 F sc_law_points rfl (by decide) fun cdv A outer s H E hr => by
    have sc := sc_law_points
    have hu1 := hu_of hr
    exact ⟨_, (pss_cons (ps_set (i := 1) sc.nd rfl (Or.inl rfl) (pe_lst pa_nil))
      (pss_cons (ps_for PassesOwn.never rfl (pi_enumV (by rfl) T.b_enumerate (pa_cons (pe_ix (ix_all hu1) (pv 0) pe_int (fun _ _ => rfl)) pa_nil)) (pg_tup (n := 2) rfl (pgs_cons (pg_name (i := 2) sc.nd rfl (Or.inr rfl)) (pgs_cons (pg_name (i := 3) sc.nd rfl (Or.inl rfl)) pgs_nil))) (pss_one (ps_set (i := 1) sc.nd rfl (Or.inl rfl) (pe_op op_addA (pv 1) (pe_lc (own := [("done", 4)]) rfl sc.nd (pi_range1 (by rfl) T.b_range (pa_cons (pe_op op_addA (pe_callB call_lens (by rfl) T.b_len (by decide +kernel) (pa_cons (pe_ix (ix_all hu1) (pv 3) pe_int (fun _ _ => rfl)) pa_nil)) pe_int) pa_nil)) (by show BlkOk ["plain", "found", "block", "pair", "done"] (defScope s_law_points) _ _; exact ⟨rfl, by decide +kernel, by decide +kernel, by decide +kernel, by decide +kernel⟩) (fun _ _ _ _ _ => (pg_name (i := 4) sc.nd rfl (Or.inl rfl))) (fun _ _ _ _ _ => pts_nil) (fun _ _ _ _ _ => (pe_tup (pa_cons (pv 2) (pa_cons (pv 4) pa_nil)))))))))
      (pss_one (ps_ret (pv 1))))),
      (semS_seq (semS_asgV (sem_lst semA_nil)) (semS_seq (semS_for (semI_enum (E := E0) (semA_cons (sem_op os_ixA sem_var sem_int) semA_nil)) (g_tup (gs_cons g_name (gs_cons g_name gs_nil))) (semS_asgV (sem_op os_addA sem_var (sem_lc (E1 := E0) (E2 := E0) (semI_range1 (E := E0) (semA_cons (sem_op os_addA (sem_cb (cs_or cs_len cs_lenD) (semA_cons (sem_op os_ixA sem_var sem_int) semA_nil)) sem_int) semA_nil)) g_name semT_yes (sem_tup (semA_cons sem_var (semA_cons sem_var semA_nil))) (by decide))))) (semS_ret sem_var)))⟩
theorem ok_law_points (T : Txt P w K mg fn cl) : OkAt P w K mg base CX0 1 (fn 43) ["plain"] (spF ⟨K, cl⟩ m_law_points 1) := by
  obtain ⟨fd, F, B⟩ := T.d_law_points.fu
  exact ⟨fd, okF_law_points T F, B, F.kp⟩
def m_fills : Fn := mFn0 5 7 (sSeq (sIf (mOp2 fNe (mCB (fOr1 fLen fLenD) (aCons (mVar 0) aNil)) (mCB (fOr1 fLen fLenD) (aCons (mVar 1) aNil))) (sRet (mC (.bl false))) sNx) (sRet (mCB fAll (aCons (mLc (iZip (aCons (mVar 0) (aCons (mVar 1) aNil))) [5, 6] (.tu ((.nm 5) :: (.nm 6) :: [])) mYes (mCall m_may_stand (aCons (mVar 5) (aCons (mVar 6) (aCons (mVar 2) (aCons (mVar 3) (aCons (mVar 4) aNil))))))) aNil))))
theorem sc_fills : FnScope ["numbers", "places", "many", "span", "count", "number", "place"] ["numbers", "places", "many", "span", "count"] (defScope s_fills) := ⟨rfl, rfl, rfl, by decide +kernel, rfl, by decide +kernel, by decide +kernel⟩
theorem okF_fills (T : Txt P w K mg fn cl) {fd : FuncData} (F : L2.Fun K "fills" "fills" s_fills (fn 7) fd) : FnOk P w K mg base CX0 4 (fn 7) fd ["numbers", "places", "many", "span", "count"] (spF ⟨K, cl⟩ m_fills 5) :=
  fn_ok0 F sc_fills rfl (by decide) fun cdv A outer s H E hr => by
    have sc := sc_fills
    have O_may_stand := ok_may_stand (P := P) (w := w) (base := base) T
    have hu64 := hr.units
    exact ⟨_, (pss_cons (ps_if (pt_cmpR (op_neD hu64) (pe_callB call_lens (by rfl) T.b_len (by decide +kernel) (pa_cons (pv 0) pa_nil)) (pe_callB call_lens (by rfl) T.b_len (by decide +kernel) (pa_cons (pv 1) pa_nil)) (nomark _)) (pss_one (ps_ret pe_bl)) pss_nil)
      (pss_one (ps_ret (pe_callB (cr_all rfl) (by rfl) T.b_all (by decide +kernel) (pa_cons (pe_lc (own := [("number", 5), ("place", 6)]) rfl sc.nd (pi_zipV (by rfl) T.b_zip (pa_cons (pv 0) (pa_cons (pv 1) pa_nil))) (by show BlkOk ["numbers", "places", "many", "span", "count", "number", "place"] (defScope s_fills) _ _; exact ⟨rfl, by decide +kernel, by decide +kernel, by decide +kernel, by decide +kernel⟩) (fun _ _ _ _ _ => (pg_tup (n := 2) rfl (pgs_cons (pg_name (i := 5) sc.nd rfl (Or.inl rfl)) (pgs_cons (pg_name (i := 6) sc.nd rfl (Or.inl rfl)) pgs_nil)))) (fun _ _ _ _ _ => pts_nil) (fun _ _ _ _ _ => (pe_callO O_may_stand (hr.mono (by decide)) T.g_may_stand (pa_cons (pv 5) (pa_cons (pv 6) (pa_cons (pv 2) (pa_cons (pv 3) (pa_cons (pv 4) pa_nil)))))))) pa_nil))))),
      (semS_seq (semS_if (semT_test (sem_op os_ne (sem_cb (cs_or cs_len cs_lenD) (semA_cons sem_var semA_nil)) (sem_cb (cs_or cs_len cs_lenD) (semA_cons sem_var semA_nil)))) (semS_ret sem_bl) semS_nx) (semS_ret (sem_cb cs_all (semA_cons (sem_lc (E1 := E0) (E2 := E0) (semI_zip (E := E0) (semA_cons sem_var (semA_cons sem_var semA_nil))) (g_tup (gs_cons g_name (gs_cons g_name gs_nil))) semT_yes (sem_call mFn0_len (semA_cons sem_var (semA_cons sem_var (semA_cons sem_var (semA_cons sem_var (semA_cons sem_var semA_nil)))))) (by decide)) semA_nil))))⟩
theorem ok_fills (T : Txt P w K mg fn cl) : OkAt P w K mg base CX0 4 (fn 7) ["numbers", "places", "many", "span", "count"] (spF ⟨K, cl⟩ m_fills 5) := by
  obtain ⟨fd, F, B⟩ := T.d_fills.fu
  exact ⟨fd, okF_fills T F, B, F.kp⟩
def m_is_row : Fn := mFn0 3 3 (sRet (mAnd (mCall m_has_word (aCons (mVar 0) aNil)) (mAnd (mUn (fTabIn tab_ROWS) (mOp2 fIxA (mVar 0) (mC (.int (0))))) (mCall m_fills (aCons (mSl (mVar 0) (oPart (mC (.int (1)))) oNone) (aCons (mUn (fTabGet tab_ROWS) (mOp2 fIxA (mVar 0) (mC (.int (0))))) (aCons (mVar 1) (aCons (mVar 2) (aCons (mC (.int (1))) aNil)))))))))
theorem sc_is_row : FnScope ["row", "many", "span"] ["row", "many", "span"] (defScope s_is_row) := ⟨rfl, rfl, rfl, by decide +kernel, rfl, by decide +kernel, by decide +kernel⟩
theorem okF_is_row (T : Txt P w K mg fn cl) {fd : FuncData} (F : L2.Fun K "is_row" "is_row" s_is_row (fn 4) fd) : FnOk P w K mg base CX0 5 (fn 4) fd ["row", "many", "span"] (spF ⟨K, cl⟩ m_is_row 3) :=
  fn_ok0 F sc_is_row rfl (by decide) fun cdv A outer s H E hr => by
    have sc := sc_is_row
    have O_fills := ok_fills (P := P) (w := w) (base := base) T
    have O_has_word := ok_has_word (P := P) (w := w) (base := base) T
    have hu1 := hu_of hr
    obtain ⟨d_ROWS, es_ROWS, n_ROWS, G_ROWS, KD_ROWS', TB_ROWS⟩ := T.t_ROWS
    have KD_ROWS := KD_ROWS'
    exact ⟨_, (pss_one (ps_ret (pe_and (pe_callO O_has_word (hr.mono (by decide)) T.g_has_word (pa_cons (pv 0) pa_nil)) (pe_and (pe_cmpR (op_in_kd KD_ROWS) (pe_ix (ix_all hu1) (pv 0) pe_int (fun _ _ => rfl)) (pe_k (v := .ref d_ROWS) ⟨_, G_ROWS, rfl⟩) (by rfl)) (pe_one (pe_callO O_fills (hr.mono (by decide)) T.g_fills (pa_cons (pe_slice sl_any (pv 0) (po_some pe_int) po_none) (pa_cons (pe_ix (ix_of_kd KD_ROWS) (pe_k (v := .ref d_ROWS) ⟨_, G_ROWS, rfl⟩) (pe_ix (ix_all hu1) (pv 0) pe_int (fun _ _ => rfl)) (fun _ _ => rfl)) (pa_cons (pv 1) (pa_cons (pv 2) (pa_cons pe_int pa_nil))))))))))),
      (semS_ret (sem_andV (sem_call mFn0_len (semA_cons sem_var semA_nil)) (sem_andV (sem_tabIn TB_ROWS (sem_op os_ixA sem_var sem_int)) (sem_call mFn0_len (semA_cons (sem_sl sem_var (semO_part sem_int) semO_none) (semA_cons (sem_tabGet TB_ROWS (sem_op os_ixA sem_var sem_int)) (semA_cons sem_var (semA_cons sem_var (semA_cons sem_int semA_nil)))))))))⟩
theorem ok_is_row (T : Txt P w K mg fn cl) : OkAt P w K mg base CX0 5 (fn 4) ["row", "many", "span"] (spF ⟨K, cl⟩ m_is_row 3) := by
  obtain ⟨fd, F, B⟩ := T.d_is_row.fu
  exact ⟨fd, okF_is_row T F, B, F.kp⟩
def m_is_end : Fn := mFn0 3 3 (sRet (mAnd (mCall m_has_word (aCons (mVar 0) aNil)) (mAnd (mUn (fTabIn tab_ENDS) (mOp2 fIxA (mVar 0) (mC (.int (0))))) (mCall m_fills (aCons (mSl (mVar 0) (oPart (mC (.int (1)))) oNone) (aCons (mUn (fTabGet tab_ENDS) (mOp2 fIxA (mVar 0) (mC (.int (0))))) (aCons (mVar 1) (aCons (mC (.int (0))) (aCons (mVar 2) aNil)))))))))
theorem sc_is_end : FnScope ["end", "many", "count"] ["end", "many", "count"] (defScope s_is_end) := ⟨rfl, rfl, rfl, by decide +kernel, rfl, by decide +kernel, by decide +kernel⟩
theorem okF_is_end (T : Txt P w K mg fn cl) {fd : FuncData} (F : L2.Fun K "is_end" "is_end" s_is_end (fn 5) fd) : FnOk P w K mg base CX0 5 (fn 5) fd ["end", "many", "count"] (spF ⟨K, cl⟩ m_is_end 3) :=
  fn_ok0 F sc_is_end rfl (by decide) fun cdv A outer s H E hr => by
    have sc := sc_is_end
    have O_fills := ok_fills (P := P) (w := w) (base := base) T
    have O_has_word := ok_has_word (P := P) (w := w) (base := base) T
    have hu1 := hu_of hr
    obtain ⟨d_ENDS, es_ENDS, n_ENDS, G_ENDS, KD_ENDS', TB_ENDS⟩ := T.t_ENDS
    have KD_ENDS := KD_ENDS'
    exact ⟨_, (pss_one (ps_ret (pe_and (pe_callO O_has_word (hr.mono (by decide)) T.g_has_word (pa_cons (pv 0) pa_nil)) (pe_and (pe_cmpR (op_in_kd KD_ENDS) (pe_ix (ix_all hu1) (pv 0) pe_int (fun _ _ => rfl)) (pe_k (v := .ref d_ENDS) ⟨_, G_ENDS, rfl⟩) (by rfl)) (pe_one (pe_callO O_fills (hr.mono (by decide)) T.g_fills (pa_cons (pe_slice sl_any (pv 0) (po_some pe_int) po_none) (pa_cons (pe_ix (ix_of_kd KD_ENDS) (pe_k (v := .ref d_ENDS) ⟨_, G_ENDS, rfl⟩) (pe_ix (ix_all hu1) (pv 0) pe_int (fun _ _ => rfl)) (fun _ _ => rfl)) (pa_cons (pv 1) (pa_cons pe_int (pa_cons (pv 2) pa_nil))))))))))),
      (semS_ret (sem_andV (sem_call mFn0_len (semA_cons sem_var semA_nil)) (sem_andV (sem_tabIn TB_ENDS (sem_op os_ixA sem_var sem_int)) (sem_call mFn0_len (semA_cons (sem_sl sem_var (semO_part sem_int) semO_none) (semA_cons (sem_tabGet TB_ENDS (sem_op os_ixA sem_var sem_int)) (semA_cons sem_var (semA_cons sem_int (semA_cons sem_var semA_nil)))))))))⟩
theorem ok_is_end (T : Txt P w K mg fn cl) : OkAt P w K mg base CX0 5 (fn 5) ["end", "many", "count"] (spF ⟨K, cl⟩ m_is_end 3) := by
  obtain ⟨fd, F, B⟩ := T.d_is_end.fu
  exact ⟨fd, okF_is_end T F, B, F.kp⟩
def m_are_rows : Fn := mFn0 4 5 (sRet (mAnd (mIs (ansT "tuple") (mVar 0)) (mAnd (mOp2 (fCmp fun i j => decide (i ≤ j)) (mCB (fOr1 fLen fLenD) (aCons (mVar 0) aNil)) (mVar 1)) (mCB fAll (aCons (mLc (iWalk (mVar 0)) [4] (.nm 4) mYes (mCall m_is_row (aCons (mVar 4) (aCons (mVar 2) (aCons (mVar 3) aNil))))) aNil)))))
theorem sc_are_rows : FnScope ["rows", "most", "many", "span", "row"] ["rows", "most", "many", "span"] (defScope s_are_rows) := ⟨rfl, rfl, rfl, by decide +kernel, rfl, by decide +kernel, by decide +kernel⟩
theorem okF_are_rows (T : Txt P w K mg fn cl) {fd : FuncData} (F : L2.Fun K "are_rows" "are_rows" s_are_rows (fn 11) fd) : FnOk P w K mg base CX0 6 (fn 11) fd ["rows", "most", "many", "span"] (spF ⟨K, cl⟩ m_are_rows 4) :=
  fn_ok0 F sc_are_rows rfl (by decide) fun cdv A outer s H E hr => by
    have sc := sc_are_rows
    have O_is_row := ok_is_row (P := P) (w := w) (base := base) T
    exact ⟨_, (pss_one (ps_ret (pe_and (pe_callB call_isi (by rfl) T.b_isinstance (by decide +kernel) (pa_cons (pv 0) (pa_cons (pe_bltn (v := .ty "tuple") (by rfl) T.b_tuple (by decide +kernel) rfl) pa_nil))) (pe_and (pe_cmpR op_le (pe_callB call_lens (by rfl) T.b_len (by decide +kernel) (pa_cons (pv 0) pa_nil)) (pv 1) (nomark _)) (pe_one (pe_callB (cr_all rfl) (by rfl) T.b_all (by decide +kernel) (pa_cons (pe_lc (own := [("row", 4)]) rfl sc.nd (pi_seqV (pv 0)) (by show BlkOk ["rows", "most", "many", "span", "row"] (defScope s_are_rows) _ _; exact ⟨rfl, by decide +kernel, by decide +kernel, by decide +kernel, by decide +kernel⟩) (fun _ _ _ _ _ => (pg_name (i := 4) sc.nd rfl (Or.inl rfl))) (fun _ _ _ _ _ => pts_nil) (fun _ _ _ _ _ => (pe_callO O_is_row (hr.mono (by decide)) T.g_is_row (pa_cons (pv 4) (pa_cons (pv 2) (pa_cons (pv 3) pa_nil)))))) pa_nil))))))),
      (semS_ret (sem_andV (sem_is (is_ty (by decide)) (.ty _) sem_var) (sem_andV (sem_op os_cmp (sem_cb (cs_or cs_len cs_lenD) (semA_cons sem_var semA_nil)) sem_var) (sem_cb cs_all (semA_cons (sem_lc (E1 := E0) (E2 := E0) (semI_walk (E := E0) sem_var) g_name semT_yes (sem_call mFn0_len (semA_cons sem_var (semA_cons sem_var (semA_cons sem_var semA_nil)))) (by decide)) semA_nil)))))⟩
theorem ok_are_rows (T : Txt P w K mg fn cl) : OkAt P w K mg base CX0 6 (fn 11) ["rows", "most", "many", "span"] (spF ⟨K, cl⟩ m_are_rows 4) := by
  obtain ⟨fd, F, B⟩ := T.d_are_rows.fu
  exact ⟨fd, okF_are_rows T F, B, F.kp⟩
def m_is_block : Fn := mFn0 6 7 (sSeq (sIf (mOr (mNot (mTru (mIs (ansT "tuple") (mVar 0)))) (mOp2 fNe (mCB (fOr1 fLen fLenD) (aCons (mVar 0) aNil)) (mVar 1))) (sRet (mC (.bl false))) sNx) (sSeq (sIf (mNot (mTru (mCB fAll (aCons (mLc (iWalk (mSl (mVar 0) oNone (oPart (mUn fNeg (mC (.int (2))))))) [6] (.nm 6) mYes (mCall m_are_joins (aCons (mVar 6) (aCons (mVar 3) aNil)))) aNil)))) (sRet (mC (.bl false))) sNx) (sRet (mAnd (mCall m_are_rows (aCons (mOp2 fIxA (mVar 0) (mUn fNeg (mC (.int (2))))) (aCons (mVar 2) (aCons (mVar 3) (aCons (mVar 4) aNil))))) (mCall m_is_end (aCons (mOp2 fIxA (mVar 0) (mUn fNeg (mC (.int (1))))) (aCons (mVar 3) (aCons (mVar 5) aNil))))))))
theorem sc_is_block : FnScope ["block", "parts", "most", "many", "span", "count", "joins"] ["block", "parts", "most", "many", "span", "count"] (defScope s_is_block) := ⟨rfl, rfl, rfl, by decide +kernel, rfl, by decide +kernel, by decide +kernel⟩
theorem okF_is_block (T : Txt P w K mg fn cl) {fd : FuncData} (F : L2.Fun K "is_block" "is_block" s_is_block (fn 12) fd) : FnOk P w K mg base CX0 7 (fn 12) fd ["block", "parts", "most", "many", "span", "count"] (spF ⟨K, cl⟩ m_is_block 6) :=
  fn_ok0 F sc_is_block rfl (by decide) fun cdv A outer s H E hr => by
    have sc := sc_is_block
    have O_are_joins := ok_are_joins (P := P) (w := w) (base := base) T
    have O_are_rows := ok_are_rows (P := P) (w := w) (base := base) T
    have O_is_end := ok_is_end (P := P) (w := w) (base := base) T
    have hu64 := hr.units
    have hu1 := hu_of hr
    exact ⟨_, (pss_cons (ps_if (PW.pt (pw_or (pt_not (pt_truth (pe_callB call_isi (by rfl) T.b_isinstance (by decide +kernel) (pa_cons (pv 0) (pa_cons (pe_bltn (v := .ty "tuple") (by rfl) T.b_tuple (by decide +kernel) rfl) pa_nil))) (fun _ => rfl))) (pw_or1 (pt_cmpR (op_neD hu64) (pe_callB call_lens (by rfl) T.b_len (by decide +kernel) (pa_cons (pv 0) pa_nil)) (pv 1) (nomark _))))) (pss_one (ps_ret pe_bl)) pss_nil)
      (pss_cons (ps_if (pt_not (pt_truth (pe_callB (cr_all rfl) (by rfl) T.b_all (by decide +kernel) (pa_cons (pe_lc (own := [("joins", 6)]) rfl sc.nd (pi_seqV (pe_slice sl_any (pv 0) po_none (po_some (pe_un un_neg pe_int)))) (by show BlkOk ["block", "parts", "most", "many", "span", "count", "joins"] (defScope s_is_block) _ _; exact ⟨rfl, by decide +kernel, by decide +kernel, by decide +kernel, by decide +kernel⟩) (fun _ _ _ _ _ => (pg_name (i := 6) sc.nd rfl (Or.inl rfl))) (fun _ _ _ _ _ => pts_nil) (fun _ _ _ _ _ => (pe_callO O_are_joins (hr.mono (by decide)) T.g_are_joins (pa_cons (pv 6) (pa_cons (pv 3) pa_nil))))) pa_nil)) (fun _ => rfl))) (pss_one (ps_ret pe_bl)) pss_nil)
      (pss_one (ps_ret (pe_and (pe_callO O_are_rows (hr.mono (by decide)) T.g_are_rows (pa_cons (pe_ix (ix_all hu1) (pv 0) (pe_un un_neg pe_int) (fun _ _ => rfl)) (pa_cons (pv 2) (pa_cons (pv 3) (pa_cons (pv 4) pa_nil))))) (pe_one (pe_callO O_is_end (hr.mono (by decide)) T.g_is_end (pa_cons (pe_ix (ix_all hu1) (pv 0) (pe_un un_neg pe_int) (fun _ _ => rfl)) (pa_cons (pv 3) (pa_cons (pv 5) pa_nil)))))))))),
      (semS_seq (semS_if (semT_or (semT_not (semT_tru (sem_is (is_ty (by decide)) (.ty _) sem_var))) (semT_test (sem_op os_ne (sem_cb (cs_or cs_len cs_lenD) (semA_cons sem_var semA_nil)) sem_var))) (semS_ret sem_bl) semS_nx) (semS_seq (semS_if (semT_not (semT_tru (sem_cb cs_all (semA_cons (sem_lc (E1 := E0) (E2 := E0) (semI_walk (E := E0) (sem_sl sem_var semO_none (semO_part (sem_neg sem_int)))) g_name semT_yes (sem_call mFn0_len (semA_cons sem_var (semA_cons sem_var semA_nil))) (by decide)) semA_nil)))) (semS_ret sem_bl) semS_nx) (semS_ret (sem_andV (sem_call mFn0_len (semA_cons (sem_op os_ixA sem_var (sem_neg sem_int)) (semA_cons sem_var (semA_cons sem_var (semA_cons sem_var semA_nil))))) (sem_call mFn0_len (semA_cons (sem_op os_ixA sem_var (sem_neg sem_int)) (semA_cons sem_var (semA_cons sem_var semA_nil))))))))⟩
theorem ok_is_block (T : Txt P w K mg fn cl) : OkAt P w K mg base CX0 7 (fn 12) ["block", "parts", "most", "many", "span", "count"] (spF ⟨K, cl⟩ m_is_block 6) := by
  obtain ⟨fd, F, B⟩ := T.d_is_block.fu
  exact ⟨fd, okF_is_block T F, B, F.kp⟩
def m_are_blocks : Fn := mFn0 5 6 (sSeq (sIf (mOr (mNot (mTru (mIs (ansT "tuple") (mVar 0)))) (mNot (mTru (mCall m_is_integer (aCons (mCB (fOr1 fLen fLenD) (aCons (mVar 0) aNil)) (aCons (mC (.int (1))) (aCons (mOp2 fAddA (mC (.int (16))) (mC (.int (1)))) aNil))))))) (sRet (mC (.bl false))) sNx) (sSeq (sIf (mNot (mTru (mCB fAll (aCons (mLc (iWalk (mVar 0)) [5] (.nm 5) mYes (mCall m_is_block (aCons (mVar 5) (aCons (mVar 1) (aCons (mVar 2) (aCons (mVar 3) (aCons (mVar 4) (aCons (mCB (fOr1 fLen fLenD) (aCons (mVar 0) aNil)) aNil)))))))) aNil)))) (sRet (mC (.bl false))) sNx) (sRet (mOp2 fEq (mCB (fOr1 fLen fLenD) (aCons (mCall m_reached (aCons (mVar 0) (aCons (mC .non) aNil))) aNil)) (mCB (fOr1 fLen fLenD) (aCons (mVar 0) aNil))))))
theorem sc_are_blocks : FnScope ["blocks", "parts", "most", "many", "span", "block"] ["blocks", "parts", "most", "many", "span"] (defScope s_are_blocks) := ⟨rfl, rfl, rfl, by decide +kernel, rfl, by decide +kernel, by decide +kernel⟩
theorem okF_are_blocks (T : Txt P w K mg fn cl) {fd : FuncData} (F : L2.Fun K "are_blocks" "are_blocks" s_are_blocks (fn 13) fd) : FnOk P w K mg base CX0 8 (fn 13) fd ["blocks", "parts", "most", "many", "span"] (spF ⟨K, cl⟩ m_are_blocks 5) :=
  fn_ok0 F sc_are_blocks rfl (by decide) fun cdv A outer s H E hr => by
    have sc := sc_are_blocks
    have O_is_block := ok_is_block (P := P) (w := w) (base := base) T
    have O_is_integer := ok_is_integer (P := P) (w := w) (base := base) T
    have O_reached := ok_reached (P := P) (w := w) (base := base) T
    have hu64 := hr.units
    exact ⟨_, (pss_cons (ps_if (PW.pt (pw_or (pt_not (pt_truth (pe_callB call_isi (by rfl) T.b_isinstance (by decide +kernel) (pa_cons (pv 0) (pa_cons (pe_bltn (v := .ty "tuple") (by rfl) T.b_tuple (by decide +kernel) rfl) pa_nil))) (fun _ => rfl))) (pw_or1 (pt_not (pt_truth (pe_callO O_is_integer (hr.mono (by decide)) T.g_is_integer (pa_cons (pe_callB call_lens (by rfl) T.b_len (by decide +kernel) (pa_cons (pv 0) pa_nil)) (pa_cons pe_int (pa_cons (pe_op op_addA (pe_k T.k_MOST_BLOCKS) pe_int) pa_nil)))) (fun _ => rfl)))))) (pss_one (ps_ret pe_bl)) pss_nil)
      (pss_cons (ps_if (pt_not (pt_truth (pe_callB (cr_all rfl) (by rfl) T.b_all (by decide +kernel) (pa_cons (pe_lc (own := [("block", 5)]) rfl sc.nd (pi_seqV (pv 0)) (by show BlkOk ["blocks", "parts", "most", "many", "span", "block"] (defScope s_are_blocks) _ _; exact ⟨rfl, by decide +kernel, by decide +kernel, by decide +kernel, by decide +kernel⟩) (fun _ _ _ _ _ => (pg_name (i := 5) sc.nd rfl (Or.inl rfl))) (fun _ _ _ _ _ => pts_nil) (fun _ _ _ _ _ => (pe_callO O_is_block (hr.mono (by decide)) T.g_is_block (pa_cons (pv 5) (pa_cons (pv 1) (pa_cons (pv 2) (pa_cons (pv 3) (pa_cons (pv 4) (pa_cons (pe_callB call_lens (by rfl) T.b_len (by decide +kernel) (pa_cons (pv 0) pa_nil)) pa_nil))))))))) pa_nil)) (fun _ => rfl))) (pss_one (ps_ret pe_bl)) pss_nil)
      (pss_one (ps_ret (pe_cmpR (op_eqD hu64) (pe_callB call_lens (by rfl) T.b_len (by decide +kernel) (pa_cons (pe_callO O_reached (hr.mono (by decide)) T.g_reached (pa_cons (pv 0) (pa_cons pe_non pa_nil))) pa_nil)) (pe_callB call_lens (by rfl) T.b_len (by decide +kernel) (pa_cons (pv 0) pa_nil)) (nomark _)))))),
      (semS_seq (semS_if (semT_or (semT_not (semT_tru (sem_is (is_ty (by decide)) (.ty _) sem_var))) (semT_not (semT_tru (sem_call mFn0_len (semA_cons (sem_cb (cs_or cs_len cs_lenD) (semA_cons sem_var semA_nil)) (semA_cons sem_int (semA_cons (sem_op os_addA sem_int sem_int) semA_nil))))))) (semS_ret sem_bl) semS_nx) (semS_seq (semS_if (semT_not (semT_tru (sem_cb cs_all (semA_cons (sem_lc (E1 := E0) (E2 := E0) (semI_walk (E := E0) sem_var) g_name semT_yes (sem_call mFn0_len (semA_cons sem_var (semA_cons sem_var (semA_cons sem_var (semA_cons sem_var (semA_cons sem_var (semA_cons (sem_cb (cs_or cs_len cs_lenD) (semA_cons sem_var semA_nil)) semA_nil))))))) (by decide)) semA_nil)))) (semS_ret sem_bl) semS_nx) (semS_ret (sem_op os_eq (sem_cb (cs_or cs_len cs_lenD) (semA_cons (sem_call mFn0_len (semA_cons sem_var (semA_cons sem_non semA_nil))) semA_nil)) (sem_cb (cs_or cs_len cs_lenD) (semA_cons sem_var semA_nil))))))⟩
theorem ok_are_blocks (T : Txt P w K mg fn cl) : OkAt P w K mg base CX0 8 (fn 13) ["blocks", "parts", "most", "many", "span"] (spF ⟨K, cl⟩ m_are_blocks 5) := by
  obtain ⟨fd, F, B⟩ := T.d_are_blocks.fu
  exact ⟨fd, okF_are_blocks T F, B, F.kp⟩
def m_wrong_part : Fn := mFn0 4 4 (sSeq (sIf (mNot (mTru (mCall m_is_integer (aCons (mVar 0) (aCons (mC (.int (1))) (aCons (mOp2 fAddA (mC (.int (8))) (mC (.int (1)))) aNil)))))) (sRet (mC (.str "many"))) sNx) (sSeq (sIf (mNot (mTru (mCall m_is_integer (aCons (mVar 2) (aCons (mC (.int (0))) (aCons (mOp2 fAddA (mCB fMin2 (aCons (mC (.int (3))) (aCons (mVar 0) aNil))) (mC (.int (1)))) aNil)))))) (sRet (mC (.str "handed"))) sNx) (sSeq (sIf (mNot (mTru (mCall m_is_integer (aCons (mVar 3) (aCons (mC (.int (2))) (aCons (mOp2 fAddA (mC (.int (8))) (mC (.int (1)))) aNil)))))) (sRet (mC (.str "span"))) sNx) (sSeq (sIf (mNot (mTru (mCall m_are_blocks (aCons (mVar 1) (aCons (mC (.int (2))) (aCons (mC (.int (12))) (aCons (mVar 0) (aCons (mVar 3) aNil)))))))) (sRet (mC (.str "blocks"))) sNx) (sRet (mC .non))))))
theorem sc_wrong_part : FnScope ["many", "blocks", "handed", "span"] ["many", "blocks", "handed", "span"] (defScope s_wrong_part) := ⟨rfl, rfl, rfl, by decide +kernel, rfl, by decide +kernel, by decide +kernel⟩
theorem okF_wrong_part (T : Txt P w K mg fn cl) {fd : FuncData} (F : L2.Fun K "wrong_part" "wrong_part" s_wrong_part (fn 29) fd) : FnOk P w K mg base CX0 9 (fn 29) fd ["many", "blocks", "handed", "span"] (spF ⟨K, cl⟩ m_wrong_part 4) :=
  fn_ok0 F sc_wrong_part rfl (by decide) fun cdv A outer s H E hr => by
    have sc := sc_wrong_part
    have O_are_blocks := ok_are_blocks (P := P) (w := w) (base := base) T
    have O_is_integer := ok_is_integer (P := P) (w := w) (base := base) T
    exact ⟨_, (pss_cons (ps_if (pt_not (pt_truth (pe_callO O_is_integer (hr.mono (by decide)) T.g_is_integer (pa_cons (pv 0) (pa_cons pe_int (pa_cons (pe_op op_addA (pe_k T.k_MOST_VARIABLES) pe_int) pa_nil)))) (fun _ => rfl))) (pss_one (ps_ret pe_str)) pss_nil)
      (pss_cons (ps_if (pt_not (pt_truth (pe_callO O_is_integer (hr.mono (by decide)) T.g_is_integer (pa_cons (pv 2) (pa_cons pe_int (pa_cons (pe_op op_addA (pe_callB (call_min2 rfl) (by rfl) T.b_min (by decide +kernel) (pa_cons (pe_k T.k_MOST_HANDED) (pa_cons (pv 0) pa_nil))) pe_int) pa_nil)))) (fun _ => rfl))) (pss_one (ps_ret pe_str)) pss_nil)
      (pss_cons (ps_if (pt_not (pt_truth (pe_callO O_is_integer (hr.mono (by decide)) T.g_is_integer (pa_cons (pv 3) (pa_cons pe_int (pa_cons (pe_op op_addA (pe_k T.k_MOST_SPAN) pe_int) pa_nil)))) (fun _ => rfl))) (pss_one (ps_ret pe_str)) pss_nil)
      (pss_cons (ps_if (pt_not (pt_truth (pe_callO O_are_blocks (hr.mono (by decide)) T.g_are_blocks (pa_cons (pv 1) (pa_cons pe_int (pa_cons (pe_k T.k_MOST_ROWS) (pa_cons (pv 0) (pa_cons (pv 3) pa_nil)))))) (fun _ => rfl))) (pss_one (ps_ret pe_str)) pss_nil)
      (pss_one (ps_ret pe_non)))))),
      (semS_seq (semS_if (semT_not (semT_tru (sem_call mFn0_len (semA_cons sem_var (semA_cons sem_int (semA_cons (sem_op os_addA sem_int sem_int) semA_nil)))))) (semS_ret sem_str) semS_nx) (semS_seq (semS_if (semT_not (semT_tru (sem_call mFn0_len (semA_cons sem_var (semA_cons sem_int (semA_cons (sem_op os_addA (sem_cb cs_min2 (semA_cons sem_int (semA_cons sem_var semA_nil))) sem_int) semA_nil)))))) (semS_ret sem_str) semS_nx) (semS_seq (semS_if (semT_not (semT_tru (sem_call mFn0_len (semA_cons sem_var (semA_cons sem_int (semA_cons (sem_op os_addA sem_int sem_int) semA_nil)))))) (semS_ret sem_str) semS_nx) (semS_seq (semS_if (semT_not (semT_tru (sem_call mFn0_len (semA_cons sem_var (semA_cons sem_int (semA_cons sem_int (semA_cons sem_var (semA_cons sem_var semA_nil)))))))) (semS_ret sem_str) semS_nx) (semS_ret sem_non)))))⟩
theorem ok_wrong_part (T : Txt P w K mg fn cl) : OkAt P w K mg base CX0 9 (fn 29) ["many", "blocks", "handed", "span"] (spF ⟨K, cl⟩ m_wrong_part 4) := by
  obtain ⟨fd, F, B⟩ := T.d_wrong_part.fu
  exact ⟨fd, okF_wrong_part T F, B, F.kp⟩
def m_Program___init__ : Fn := mFn 5 6 (sSeq (sAsgV 5 (mCall m_wrong_part (aCons (mVar 1) (aCons (mVar 2) (aCons (mVar 3) (aCons (mVar 4) aNil)))))) (sSeq (sIf (mOp2 (fIsN true) (mVar 5) (mC .non)) (sRaise 1 (aCons (mVar 5) aNil)) sNx) (sSeq (sFldM [3] "many" 0 (mVar 1)) (sSeq (sFldM [3] "blocks" 0 (mVar 2)) (sSeq (sFldM [3] "handed" 0 (mVar 3)) (sFldM [3] "span" 0 (mVar 4)))))))
theorem sc_Program___init__ : FnScope ["self", "many", "blocks", "handed", "span", "part"] ["self", "many", "blocks", "handed", "span"] (defScope s_Program___init__) := ⟨rfl, rfl, rfl, by decide +kernel, rfl, by decide +kernel, by decide +kernel⟩
theorem ok_Program___init__ (T : Txt P w K mg fn cl) {fd : FuncData} (F : L2.Fun K "__init__" "Program.__init__" s_Program___init__ (fn 19) fd) : FnOk P w K mg base (L2.CX P w) 11 (fn 19) fd ["self", "many", "blocks", "handed", "span"] (spF ⟨K, cl⟩ m_Program___init__ 5) :=
  okx F sc_Program___init__ rfl (by decide) fun cdv A outer s H E hr => by
    obtain ⟨fI_BadProgram, fd_BadProgram, X_BadProgram, B_BadProgram, G_BadProgram⟩ := T.x_BadProgram
    have sc := sc_Program___init__
    have O_wrong_part := ok_wrong_part (P := P) (w := w) (base := base) T
    exact ⟨_, (pss_cons (ps_set (i := 5) sc.nd rfl (Or.inl rfl) (pe_callO O_wrong_part (hr.mono (by decide)) T.g_wrong_part (pa_cons (pv 1) (pa_cons (pv 2) (pa_cons (pv 3) (pa_cons (pv 4) pa_nil))))))
      (pss_cons (ps_if (pt_cmpR op_notN (pv 5) pe_non (nomark _)) (pss_one (ps_raiseBad rfl (takes_of rfl rfl rfl rfl) X_BadProgram B_BadProgram hr G_BadProgram (pa_cons (pv 5) pa_nil))) pss_nil)
      (pss_cons (ps_fld (pv 0) (pv 1) rfl)
      (pss_cons (ps_fld (pv 0) (pv 2) rfl)
      (pss_cons (ps_fld (pv 0) (pv 3) rfl)
      (pss_one (ps_fld (pv 0) (pv 4) rfl))))))),
      (semS_seq (semS_asgV (sem_callE (.inr mFn0_noex) mFn0_len (semA_cons sem_var (semA_cons sem_var (semA_cons sem_var (semA_cons sem_var semA_nil)))))) (semS_seq (semS_if (semT_test (sem_op os_notN sem_var sem_non)) (semS_raise (c := 1) (semA_cons sem_var semA_nil)) semS_nx) (semS_seq (semS_fld T.h_many sem_var) (semS_seq (semS_fld T.h_blocks sem_var) (semS_seq (semS_fld T.h_handed sem_var) (semS_fld T.h_span sem_var))))))⟩
def m_law_made : Fn := mFn0 1 1 (sRet (mMake 3 m_Program___init__ (aCons (mOp2 fIxA (mVar 0) (mC (.int (0)))) (aCons (mOp2 fIxA (mVar 0) (mC (.int (1)))) aNil)) (aCons (mOp2 fIxA (mVar 0) (mC (.int (2)))) (aCons (mOp2 fIxA (mVar 0) (mC (.int (3)))) aNil)) (fun ds zs => ds ++ zs) 2 2))
theorem sc_law_made : FnScope ["plain"] ["plain"] (defScope s_law_made) := ⟨rfl, rfl, rfl, by decide +kernel, rfl, by decide +kernel, by decide +kernel⟩
theorem okF_law_made (T : Txt P w K mg fn cl) {fd : FuncData} (F : L2.Fun K "_law_made" "_law_made" s_law_made (fn 39) fd) : FnOk P w K mg base CX0 14 (fn 39) fd ["plain"] (spF ⟨K, cl⟩ m_law_made 1) :=
  fn_ok0 F sc_law_made rfl (by decide) fun cdv A outer s H E hr => by
    have sc := sc_law_made
    obtain ⟨fdI_Program, F_Program, M_Program, G_Program, ⟨g1_Program, KB_Program_all⟩, ⟨g2_Program, KB_Program_none⟩⟩ := T.i_Program
    have OX_Program := ok_Program___init__ (P := P) (w := w) (base := base) T F_Program
    have hu1 := hu_of hr
    exact ⟨_, (pss_one (ps_ret (pe_makeK M_Program OX_Program (hr.mono (by decide)) (by rfl) G_Program KB_Program_all passL (pa_cons (pe_ix (ix_all hu1) (pv 0) pe_int (fun _ _ => rfl)) (pa_cons (pe_ix (ix_all hu1) (pv 0) pe_int (fun _ _ => rfl)) pa_nil)) (pk_cons (pe_ix (ix_all hu1) (pv 0) pe_int (fun _ _ => rfl)) (pk_cons (pe_ix (ix_all hu1) (pv 0) pe_int (fun _ _ => rfl)) pk_nil))))),
      (semS_ret (sem_makeK (c := 3) mFn_len (fun _ _ _ _ _ => rfl) (fun _ _ r1 r2 => r1.append r2) (semA_cons (sem_op os_ixA sem_var sem_int) (semA_cons (sem_op os_ixA sem_var sem_int) semA_nil)) (semA_cons (sem_op os_ixA sem_var sem_int) (semA_cons (sem_op os_ixA sem_var sem_int) semA_nil))))⟩
theorem ok_law_made (T : Txt P w K mg fn cl) : OkAt P w K mg base CX0 14 (fn 39) ["plain"] (spF ⟨K, cl⟩ m_law_made 1) := by
  obtain ⟨fd, F, B⟩ := T.d_law_made.fu
  exact ⟨fd, okF_law_made T F, B, F.kp⟩
def m_law : Fn := mFn0 1 12 (sSeq (sAsgO 1 (mLst (aCons (mSl (mVar 0) oNone (oPart (mC (.int (63))))) (aCons (mC (.int (0))) (aCons (mC (.int (0))) aNil))))) (sSeq (sFor (iRange1 (aCons (mC (.int (4))) aNil)) (.nm 2) (sSeq (sAsgV 3 (mCall m_law_plain (aSl 1 (aCons (mC (.int (7))) (aCons (mC (.int (3))) aNil))))) (sSeq (sAsgP (.tu ((.nm 4) :: (.nm 5) :: [])) (mTup (aCons (mCall m_law_made (aCons (mVar 3) aNil)) (aCons (mCall m_law_ends (aCons (mVar 3) aNil)) aNil)))) (sSeq (sIf (mOp2 fNe (mLst (aCons (mFld [3] "many" (mVar 4)) (aCons (mFld [3] "blocks" (mVar 4)) (aCons (mFld [3] "handed" (mVar 4)) (aCons (mFld [3] "span" (mVar 4)) aNil))))) (mCB (fOr1 fList fListD) (aCons (mVar 3) aNil))) (sRet (mC (.bl false))) sNx) (sSeq (sIf (mOr (mOp2 fNe (mLenO 3 m_Program___len__ (mVar 4)) (mCB (fOr1 fLen fLenD) (aCons (mVar 5) aNil))) (mOp2 fNe (mProp 3 m_Program_points (mVar 4)) (mCall m_law_points (aCons (mVar 3) aNil)))) (sRet (mC (.bl false))) sNx) (sSeq (sFor (iEnu (aCons (mOp2 fIxA (mVar 3) (mC (.int (1)))) aNil)) (.tu ((.nm 6) :: (.nm 7) :: [])) (sSeq (sIf (mOr (mOp2 fNe (mGetO 3 m_Program___getitem__ (mVar 4) (mVar 6)) (mVar 7)) (mOp2 fNe (mMeth 3 "rows" m_Program_rows (mVar 4) (aCons (mVar 6) aNil)) (mOp2 fIxA (mVar 7) (mC (.int (0)))))) (sRet (mC (.bl false))) sNx) (sSeq (sIf (mOp2 fNe (mMeth 3 "end" m_Program_end (mVar 4) (aCons (mVar 6) aNil)) (mOp2 fIxA (mVar 7) (mC (.int (1))))) (sRet (mC (.bl false))) sNx) (sSeq (sIf (mOp2 fNe (mMeth 3 "followers" m_Program_followers (mVar 4) (aCons (mVar 6) aNil)) (mCB fTuple (aCons (mCall m_law_targets (aCons (mOp2 fIxA (mVar 7) (mC (.int (1)))) aNil)) aNil))) (sRet (mC (.bl false))) sNx) (sIf (mOp2 fNe (mMeth 3 "edges_into" m_Program_edges_into (mVar 4) (aCons (mVar 6) aNil)) (mCall m_law_edges (aCons (mVar 5) (aCons (mVar 6) aNil)))) (sRet (mC (.bl false))) sNx))))) (sSeq (sDrop (mClrT (mProp 3 m_Program_points (mVar 4)))) (sSeq (sDrop (mAppT (mMeth 3 "edges_into" m_Program_edges_into (mVar 4) (aCons (mC (.int (0))) aNil)) (mTup (aCons (mC (.int (0))) (aCons (mC (.int (0))) aNil))))) (sSeq (sIf (mOr (mOp2 fNe (mProp 3 m_Program_points (mVar 4)) (mCall m_law_points (aCons (mVar 3) aNil))) (mOp2 fNe (mMeth 3 "edges_into" m_Program_edges_into (mVar 4) (aCons (mC (.int (0))) aNil)) (mLst aNil))) (sRet (mC (.bl false))) sNx) (sSeq (sAsgV 8 (mMake 3 m_Program___init__ (aCons (mOp2 fIxA (mVar 3) (mC (.int (0)))) (aCons (mOp2 fIxA (mVar 3) (mC (.int (1)))) aNil)) (aCons (mOp2 fIxA (mVar 3) (mC (.int (2)))) (aCons (mOp2 fIxA (mVar 3) (mC (.int (3)))) aNil)) (fun ds zs => ds ++ zs) 2 2)) (sSeq (sAsgO 9 (mLst (aCons (mMake 3 m_Program___init__ (aCons (mOp2 fAddA (mOp2 fIxA (mVar 3) (mC (.int (0)))) (mC (.int (1)))) (aCons (mOp2 fIxA (mVar 3) (mC (.int (1)))) aNil)) (aCons (mOp2 fIxA (mVar 3) (mC (.int (2)))) (aCons (mOp2 fIxA (mVar 3) (mC (.int (3)))) aNil)) (fun ds zs => ds ++ zs) 2 2) aNil))) (sSeq (sDrop (mApp 9 (mMake 3 m_Program___init__ (aCons (mOp2 fIxA (mVar 3) (mC (.int (0)))) (aCons (mOp2 fIxA (mVar 3) (mC (.int (1)))) aNil)) (aCons (mOp2 fIxA (mVar 3) (mC (.int (2)))) (aCons (mOp2 fAddA (mOp2 fIxA (mVar 3) (mC (.int (3)))) (mC (.int (1)))) aNil)) (fun ds zs => ds ++ zs) 2 2))) (sSeq (sDrop (mApp 9 (mMake 3 m_Program___init__ (aCons (mOp2 fIxA (mVar 3) (mC (.int (0)))) (aCons (mOp2 fIxA (mVar 3) (mC (.int (1)))) aNil)) (aCons (mIf (mOp2 (fCmp fun i j => decide (j < i)) (mOp2 fIxA (mVar 3) (mC (.int (2)))) (mC (.int (0)))) (mC (.int (0))) (mC (.int (1)))) (aCons (mOp2 fIxA (mVar 3) (mC (.int (3)))) aNil)) (fun ds zs => ds ++ zs) 2 2))) (sSeq (sAsgV 10 (mOp2 fAddA (mTup (aCons (mTup (aCons (mC (.str "tell")) (aCons (mC (.int (0))) aNil))) aNil)) (mOp2 fIxA (mOp2 fIxA (mOp2 fIxA (mVar 3) (mC (.int (1)))) (mC (.int (0)))) (mC (.int (0)))))) (sSeq (sDrop (mApp 9 (mMake 3 m_Program___init__ (aCons (mOp2 fIxA (mVar 3) (mC (.int (0)))) (aCons (mOp2 fAddA (mTup (aCons (mTup (aCons (mVar 10) (aCons (mOp2 fIxA (mVar 5) (mC (.int (0)))) aNil))) aNil)) (mSl (mOp2 fIxA (mVar 3) (mC (.int (1)))) (oPart (mC (.int (1)))) oNone)) aNil)) (aCons (mOp2 fIxA (mVar 3) (mC (.int (2)))) (aCons (mOp2 fIxA (mVar 3) (mC (.int (3)))) aNil)) (fun ds zs => ds ++ zs) 2 2))) (sIf (mOr (mNot (mOwn 3 m_Program___eq__ false (mVar 4) (mVar 8))) (mTru (mCB fAny (aCons (mLc (iWalk (mFz 9)) [11] (.nm 11) mYes (mOwn 3 m_Program___eq__ false (mVar 4) (mVar 11))) aNil)))) (sRet (mC (.bl false))) sNx)))))))))))))))) (sRet (mC (.bl true)))))
theorem sc_law : FnScope ["script", "draw", "by", "plain", "program", "ends", "block", "pair", "same", "more", "rows", "other"] ["script"] (defScope s_law) := ⟨rfl, rfl, rfl, by decide +kernel, rfl, by decide +kernel, by decide +kernel⟩
theorem okF_law (T : Txt P w K mg fn cl) {fd : FuncData} (F : L2.Fun K "law" "law" s_law (fn 44) fd) : FnOk P w K mg base CX0 15 (fn 44) fd ["script"] (spF ⟨K, cl⟩ m_law 1) :=
  fn_ok0 F sc_law rfl (by decide) fun cdv A outer s H E hr => by
    have sc := sc_law
    obtain ⟨fdI_Program, F_Program, M_Program, G_Program, ⟨g1_Program, KB_Program_all⟩, ⟨g2_Program, KB_Program_none⟩⟩ := T.i_Program
    have OX_Program := ok_Program___init__ (P := P) (w := w) (base := base) T F_Program
    have O_Program___eq__ := ok_Program___eq__ (P := P) (w := w) (base := base) T
    have O_Program___getitem__ := okr_Program___getitem__ (P := P) (w := w) (base := base) T
    have O_Program___len__ := ok_Program___len__ (P := P) (w := w) (base := base) T
    have O_Program_edges_into := okr_Program_edges_into (P := P) (w := w) (base := base) T
    have O_Program_end := okr_Program_end (P := P) (w := w) (base := base) T
    have O_Program_followers := okr_Program_followers (P := P) (w := w) (base := base) T
    have O_Program_points := ok_Program_points (P := P) (w := w) (base := base) T
    have O_Program_rows := okr_Program_rows (P := P) (w := w) (base := base) T
    have O_law_edges := ok_law_edges (P := P) (w := w) (base := base) T
    have O_law_ends := ok_law_ends (P := P) (w := w) (base := base) T
    have O_law_made := ok_law_made (P := P) (w := w) (base := base) T
    have O_law_plain := ok_law_plain (P := P) (w := w) (base := base) T
    have O_law_points := ok_law_points (P := P) (w := w) (base := base) T
    have O_law_targets := ok_law_targets (P := P) (w := w) (base := base) T
    have hu64 := hr.units
    have hu1 := hu_of hr
    exact ⟨_, (pss_cons (ps_set (i := 1) sc.nd rfl (Or.inl rfl) (pe_lst (pa_cons (pe_slice sl_any (pv 0) po_none (po_some pe_int)) (pa_cons pe_int (pa_cons pe_int pa_nil)))))
      (pss_cons (ps_for PassesOwn.never rfl (pi_range1 (by rfl) T.b_range (pa_cons pe_int pa_nil)) (pg_name (i := 2) sc.nd rfl (Or.inl rfl)) (pss_cons (ps_set (i := 3) sc.nd rfl (Or.inl rfl) (pe_callO O_law_plain (hr.mono (by decide)) T.g_law_plain (pa_cons (pv 1) (pa_cons pe_int (pa_cons pe_int pa_nil)))))
      (pss_cons (ps_asg (pe_tup (pa_cons (pe_callO O_law_made (hr.mono (by decide)) T.g_law_made (pa_cons (pv 3) pa_nil)) (pa_cons (pe_callO O_law_ends (hr.mono (by decide)) T.g_law_ends (pa_cons (pv 3) pa_nil)) pa_nil))) (pg_tup (n := 2) rfl (pgs_cons (pg_name (i := 4) sc.nd rfl (Or.inr rfl)) (pgs_cons (pg_name (i := 5) sc.nd rfl (Or.inl rfl)) pgs_nil))))
      (pss_cons (ps_if (pt_cmpR (op_neD hu64) (pe_lst (pa_cons (pe_fld (pv 4) rfl) (pa_cons (pe_fld (pv 4) rfl) (pa_cons (pe_fld (pv 4) rfl) (pa_cons (pe_fld (pv 4) rfl) pa_nil))))) (pe_callTy (call_lists rfl) (by rfl) T.b_list (by decide +kernel) (pa_cons (pv 3) pa_nil)) (nomark _)) (pss_one (ps_ret pe_bl)) pss_nil)
      (pss_cons (ps_if (PW.pt (pw_or (pt_cmpR (op_neD hu64) (pe_callB (call_lenO O_Program___len__ T.l_Program.1 T.l_Program.2 (hr.mono (by decide))) (by rfl) T.b_len (by decide +kernel) (pa_cons (pv 4) pa_nil)) (pe_callB call_lens (by rfl) T.b_len (by decide +kernel) (pa_cons (pv 5) pa_nil)) (nomark _)) (pw_or1 (pt_cmpR (op_neD hu64) (pe_propX O_Program_points T.p_Program_points.1 T.p_Program_points.2 pass0 (hr.mono (by decide)) (pv 4) rfl) (pe_callO O_law_points (hr.mono (by decide)) T.g_law_points (pa_cons (pv 3) pa_nil)) (nomark _))))) (pss_one (ps_ret pe_bl)) pss_nil)
      (pss_cons (ps_for PassesOwn.never rfl (pi_enumV (by rfl) T.b_enumerate (pa_cons (pe_ix (ix_all hu1) (pv 3) pe_int (fun _ _ => rfl)) pa_nil)) (pg_tup (n := 2) rfl (pgs_cons (pg_name (i := 6) sc.nd rfl (Or.inl rfl)) (pgs_cons (pg_name (i := 7) sc.nd rfl (Or.inl rfl)) pgs_nil))) (pss_cons (ps_if (PW.pt (pw_or (pt_cmpR (op_neD hu64) (pe_getO O_Program___getitem__ T.gt_Program passL (hr.mono (by decide)) (pv 4) (pv 6) (fun _ _ => by with_unfolding_all rfl)) (pv 7) (nomark _)) (pw_or1 (pt_cmpR (op_neD hu64) (pe_methX O_Program_rows T.m_Program_rows.1 T.m_Program_rows.2 passL (hr.mono (by decide)) (pv 4) (pa_cons (pv 6) pa_nil)) (pe_ix (ix_all hu1) (pv 7) pe_int (fun _ _ => rfl)) (nomark _))))) (pss_one (ps_ret pe_bl)) pss_nil)
      (pss_cons (ps_if (pt_cmpR (op_neD hu64) (pe_methX O_Program_end T.m_Program_end.1 T.m_Program_end.2 passL (hr.mono (by decide)) (pv 4) (pa_cons (pv 6) pa_nil)) (pe_ix (ix_all hu1) (pv 7) pe_int (fun _ _ => rfl)) (nomark _)) (pss_one (ps_ret pe_bl)) pss_nil)
      (pss_cons (ps_if (pt_cmpR (op_neD hu64) (pe_methX O_Program_followers T.m_Program_followers.1 T.m_Program_followers.2 passL (hr.mono (by decide)) (pv 4) (pa_cons (pv 6) pa_nil)) (pe_callTy call_tuple_of (by rfl) T.b_tuple (by decide +kernel) (pa_cons (pe_callO O_law_targets (hr.mono (by decide)) T.g_law_targets (pa_cons (pe_ix (ix_all hu1) (pv 7) pe_int (fun _ _ => rfl)) pa_nil)) pa_nil)) (nomark _)) (pss_one (ps_ret pe_bl)) pss_nil)
      (pss_one (ps_if (pt_cmpR (op_neD hu64) (pe_methX O_Program_edges_into T.m_Program_edges_into.1 T.m_Program_edges_into.2 passL (hr.mono (by decide)) (pv 4) (pa_cons (pv 6) pa_nil)) (pe_callO O_law_edges (hr.mono (by decide)) T.g_law_edges (pa_cons (pv 5) (pa_cons (pv 6) pa_nil))) (nomark _)) (pss_one (ps_ret pe_bl)) pss_nil))))))
      (pss_cons (ps_expr (pe_bm0 PySem.F.plainAttrs_list PySem.F.slot_list_clear PySem.F.type_list_clear mt_clear (pe_propX O_Program_points T.p_Program_points.1 T.p_Program_points.2 pass0 (hr.mono (by decide)) (pv 4) rfl)))
      (pss_cons (ps_expr (pe_bm PySem.F.plainAttrs_list PySem.F.slot_list_append PySem.F.type_list_append mt_append (pe_methX O_Program_edges_into T.m_Program_edges_into.1 T.m_Program_edges_into.2 passL (hr.mono (by decide)) (pv 4) (pa_cons pe_int pa_nil)) (pa_cons (pe_tup (pa_cons pe_int (pa_cons pe_int pa_nil))) pa_nil)))
      (pss_cons (ps_if (PW.pt (pw_or (pt_cmpR (op_neD hu64) (pe_propX O_Program_points T.p_Program_points.1 T.p_Program_points.2 pass0 (hr.mono (by decide)) (pv 4) rfl) (pe_callO O_law_points (hr.mono (by decide)) T.g_law_points (pa_cons (pv 3) pa_nil)) (nomark _)) (pw_or1 (pt_cmpR (op_neD hu64) (pe_methX O_Program_edges_into T.m_Program_edges_into.1 T.m_Program_edges_into.2 passL (hr.mono (by decide)) (pv 4) (pa_cons pe_int pa_nil)) (pe_lst pa_nil) (nomark _))))) (pss_one (ps_ret pe_bl)) pss_nil)
      (pss_cons (ps_set (i := 8) sc.nd rfl (Or.inl rfl) (pe_makeK M_Program OX_Program (hr.mono (by decide)) (by rfl) G_Program KB_Program_all passL (pa_cons (pe_ix (ix_all hu1) (pv 3) pe_int (fun _ _ => rfl)) (pa_cons (pe_ix (ix_all hu1) (pv 3) pe_int (fun _ _ => rfl)) pa_nil)) (pk_cons (pe_ix (ix_all hu1) (pv 3) pe_int (fun _ _ => rfl)) (pk_cons (pe_ix (ix_all hu1) (pv 3) pe_int (fun _ _ => rfl)) pk_nil))))
      (pss_cons (ps_set (i := 9) sc.nd rfl (Or.inl rfl) (pe_lst (pa_cons (pe_makeK M_Program OX_Program (hr.mono (by decide)) (by rfl) G_Program KB_Program_all passL (pa_cons (pe_op op_addA (pe_ix (ix_all hu1) (pv 3) pe_int (fun _ _ => rfl)) pe_int) (pa_cons (pe_ix (ix_all hu1) (pv 3) pe_int (fun _ _ => rfl)) pa_nil)) (pk_cons (pe_ix (ix_all hu1) (pv 3) pe_int (fun _ _ => rfl)) (pk_cons (pe_ix (ix_all hu1) (pv 3) pe_int (fun _ _ => rfl)) pk_nil))) pa_nil)))
      (pss_cons (ps_expr (pe_bm PySem.F.plainAttrs_list PySem.F.slot_list_append PySem.F.type_list_append mt_append (pv 9) (pa_cons (pe_makeK M_Program OX_Program (hr.mono (by decide)) (by rfl) G_Program KB_Program_all passL (pa_cons (pe_ix (ix_all hu1) (pv 3) pe_int (fun _ _ => rfl)) (pa_cons (pe_ix (ix_all hu1) (pv 3) pe_int (fun _ _ => rfl)) pa_nil)) (pk_cons (pe_ix (ix_all hu1) (pv 3) pe_int (fun _ _ => rfl)) (pk_cons (pe_op op_addA (pe_ix (ix_all hu1) (pv 3) pe_int (fun _ _ => rfl)) pe_int) pk_nil))) pa_nil)))
      (pss_cons (ps_expr (pe_bm PySem.F.plainAttrs_list PySem.F.slot_list_append PySem.F.type_list_append mt_append (pv 9) (pa_cons (pe_makeK M_Program OX_Program (hr.mono (by decide)) (by rfl) G_Program KB_Program_all passL (pa_cons (pe_ix (ix_all hu1) (pv 3) pe_int (fun _ _ => rfl)) (pa_cons (pe_ix (ix_all hu1) (pv 3) pe_int (fun _ _ => rfl)) pa_nil)) (pk_cons (pe_ifExp (pt_cmpR op_gt (pe_ix (ix_all hu1) (pv 3) pe_int (fun _ _ => rfl)) pe_int (nomark _)) pe_int pe_int) (pk_cons (pe_ix (ix_all hu1) (pv 3) pe_int (fun _ _ => rfl)) pk_nil))) pa_nil)))
      (pss_cons (ps_set (i := 10) sc.nd rfl (Or.inl rfl) (pe_op op_addA (pe_tup (pa_cons (pe_tup (pa_cons pe_str (pa_cons pe_int pa_nil))) pa_nil)) (pe_ix (ix_all hu1) (pe_ix (ix_all hu1) (pe_ix (ix_all hu1) (pv 3) pe_int (fun _ _ => rfl)) pe_int (fun _ _ => rfl)) pe_int (fun _ _ => rfl))))
      (pss_cons (ps_expr (pe_bm PySem.F.plainAttrs_list PySem.F.slot_list_append PySem.F.type_list_append mt_append (pv 9) (pa_cons (pe_makeK M_Program OX_Program (hr.mono (by decide)) (by rfl) G_Program KB_Program_all passL (pa_cons (pe_ix (ix_all hu1) (pv 3) pe_int (fun _ _ => rfl)) (pa_cons (pe_op op_addA (pe_tup (pa_cons (pe_tup (pa_cons (pv 10) (pa_cons (pe_ix (ix_all hu1) (pv 5) pe_int (fun _ _ => rfl)) pa_nil))) pa_nil)) (pe_slice sl_any (pe_ix (ix_all hu1) (pv 3) pe_int (fun _ _ => rfl)) (po_some pe_int) po_none)) pa_nil)) (pk_cons (pe_ix (ix_all hu1) (pv 3) pe_int (fun _ _ => rfl)) (pk_cons (pe_ix (ix_all hu1) (pv 3) pe_int (fun _ _ => rfl)) pk_nil))) pa_nil)))
      (pss_one (ps_if (PW.pt (pw_or (pt_not (pt_cmpR (op_own O_Program___eq__ T.cmp_Program (hr.mono (by decide))) (pv 4) (pv 8) (nomark _))) (pw_or1 (pt_truth (pe_callB (cr_any rfl) (by rfl) T.b_any (by decide +kernel) (pa_cons (pe_lc (own := [("other", 11)]) rfl sc.nd (pi_seqV (pv 9)) (by show BlkOk ["script", "draw", "by", "plain", "program", "ends", "block", "pair", "same", "more", "rows", "other"] (defScope s_law) _ _; exact ⟨rfl, by decide +kernel, by decide +kernel, by decide +kernel, by decide +kernel⟩) (fun _ _ _ _ _ => (pg_name (i := 11) sc.nd rfl (Or.inl rfl))) (fun _ _ _ _ _ => pts_nil) (fun _ _ _ _ _ => (pe_cmpR (op_own O_Program___eq__ T.cmp_Program (hr.mono (by decide))) (pv 4) (pv 11) (nomark _)))) pa_nil)) (fun _ => rfl))))) (pss_one (ps_ret pe_bl)) pss_nil)))))))))))))))))
      (pss_one (ps_ret pe_bl)))),
      (semS_seq (semS_asgO (sem_lst (semA_cons (sem_sl sem_var semO_none (semO_part sem_int)) (semA_cons sem_int (semA_cons sem_int semA_nil))))) (semS_seq (semS_for (semI_range1 (E := E0) (semA_cons sem_int semA_nil)) g_name (semS_seq (semS_asgV (sem_call mFn0_len (semA_sl (semA_cons sem_int (semA_cons sem_int semA_nil))))) (semS_seq (semS_asgP (g_tup (gs_cons g_name (gs_cons g_name gs_nil))) (sem_tup (semA_cons (sem_call mFn0_len (semA_cons sem_var semA_nil)) (semA_cons (sem_call mFn0_len (semA_cons sem_var semA_nil)) semA_nil)))) (semS_seq (semS_if (semT_test (sem_op os_ne (sem_lst (semA_cons (sem_fld T.h_many sem_var) (semA_cons (sem_fld T.h_blocks sem_var) (semA_cons (sem_fld T.h_handed sem_var) (semA_cons (sem_fld T.h_span sem_var) semA_nil))))) (sem_cb (cs_or cs_list cs_listD) (semA_cons sem_var semA_nil)))) (semS_ret sem_bl) semS_nx) (semS_seq (semS_if (semT_or (semT_test (sem_op os_ne (sem_lenO (c := 3) mFn0_len sem_var) (sem_cb (cs_or cs_len cs_lenD) (semA_cons sem_var semA_nil)))) (semT_test (sem_op os_ne (sem_prop (E1 := _) (c := 3) (.inr mFn0_noex) mFn0_len sem_var) (sem_call mFn0_len (semA_cons sem_var semA_nil))))) (semS_ret sem_bl) semS_nx) (semS_seq (semS_for (semI_enum (E := E0) (semA_cons (sem_op os_ixA sem_var sem_int) semA_nil)) (g_tup (gs_cons g_name (gs_cons g_name gs_nil))) (semS_seq (semS_if (semT_or (semT_test (sem_op os_ne (sem_getO (E1 := _) (c := 3) (.inl rfl) mFn_len sem_var sem_var) sem_var)) (semT_test (sem_op os_ne (sem_meth (E1 := _) (c := 3) (.inl rfl) mFn_len sem_var (semA_cons sem_var semA_nil)) (sem_op os_ixA sem_var sem_int)))) (semS_ret sem_bl) semS_nx) (semS_seq (semS_if (semT_test (sem_op os_ne (sem_meth (E1 := _) (c := 3) (.inl rfl) mFn_len sem_var (semA_cons sem_var semA_nil)) (sem_op os_ixA sem_var sem_int))) (semS_ret sem_bl) semS_nx) (semS_seq (semS_if (semT_test (sem_op os_ne (sem_meth (E1 := _) (c := 3) (.inl rfl) mFn_len sem_var (semA_cons sem_var semA_nil)) (sem_cb cs_tuple (semA_cons (sem_call mFn0_len (semA_cons (sem_op os_ixA sem_var sem_int) semA_nil)) semA_nil)))) (semS_ret sem_bl) semS_nx) (semS_if (semT_test (sem_op os_ne (sem_meth (E1 := _) (c := 3) (.inl rfl) mFn_len sem_var (semA_cons sem_var semA_nil)) (sem_call mFn0_len (semA_cons sem_var (semA_cons sem_var semA_nil))))) (semS_ret sem_bl) semS_nx))))) (semS_seq (semS_drop (sem_clrT (sem_prop (E1 := _) (c := 3) (.inr mFn0_noex) mFn0_len sem_var))) (semS_seq (semS_drop (sem_appT (sem_meth (E1 := _) (c := 3) (.inl rfl) mFn_len sem_var (semA_cons sem_int semA_nil)) (sem_tup (semA_cons sem_int (semA_cons sem_int semA_nil))))) (semS_seq (semS_if (semT_or (semT_test (sem_op os_ne (sem_prop (E1 := _) (c := 3) (.inr mFn0_noex) mFn0_len sem_var) (sem_call mFn0_len (semA_cons sem_var semA_nil)))) (semT_test (sem_op os_ne (sem_meth (E1 := _) (c := 3) (.inl rfl) mFn_len sem_var (semA_cons sem_int semA_nil)) (sem_lst semA_nil)))) (semS_ret sem_bl) semS_nx) (semS_seq (semS_asgV (sem_makeK (c := 3) mFn_len (fun _ _ _ _ _ => rfl) (fun _ _ r1 r2 => r1.append r2) (semA_cons (sem_op os_ixA sem_var sem_int) (semA_cons (sem_op os_ixA sem_var sem_int) semA_nil)) (semA_cons (sem_op os_ixA sem_var sem_int) (semA_cons (sem_op os_ixA sem_var sem_int) semA_nil)))) (semS_seq (semS_asgO (sem_lst (semA_cons (sem_makeK (c := 3) mFn_len (fun _ _ _ _ _ => rfl) (fun _ _ r1 r2 => r1.append r2) (semA_cons (sem_op os_addA (sem_op os_ixA sem_var sem_int) sem_int) (semA_cons (sem_op os_ixA sem_var sem_int) semA_nil)) (semA_cons (sem_op os_ixA sem_var sem_int) (semA_cons (sem_op os_ixA sem_var sem_int) semA_nil))) semA_nil))) (semS_seq (semS_drop (sem_app (sem_makeK (c := 3) mFn_len (fun _ _ _ _ _ => rfl) (fun _ _ r1 r2 => r1.append r2) (semA_cons (sem_op os_ixA sem_var sem_int) (semA_cons (sem_op os_ixA sem_var sem_int) semA_nil)) (semA_cons (sem_op os_ixA sem_var sem_int) (semA_cons (sem_op os_addA (sem_op os_ixA sem_var sem_int) sem_int) semA_nil))))) (semS_seq (semS_drop (sem_app (sem_makeK (c := 3) mFn_len (fun _ _ _ _ _ => rfl) (fun _ _ r1 r2 => r1.append r2) (semA_cons (sem_op os_ixA sem_var sem_int) (semA_cons (sem_op os_ixA sem_var sem_int) semA_nil)) (semA_cons (sem_if (semT_test (sem_op os_cmp (sem_op os_ixA sem_var sem_int) sem_int)) sem_int sem_int) (semA_cons (sem_op os_ixA sem_var sem_int) semA_nil))))) (semS_seq (semS_asgV (sem_op os_addA (sem_tup (semA_cons (sem_tup (semA_cons sem_str (semA_cons sem_int semA_nil))) semA_nil)) (sem_op os_ixA (sem_op os_ixA (sem_op os_ixA sem_var sem_int) sem_int) sem_int))) (semS_seq (semS_drop (sem_app (sem_makeK (c := 3) mFn_len (fun _ _ _ _ _ => rfl) (fun _ _ r1 r2 => r1.append r2) (semA_cons (sem_op os_ixA sem_var sem_int) (semA_cons (sem_op os_addA (sem_tup (semA_cons (sem_tup (semA_cons sem_var (semA_cons (sem_op os_ixA sem_var sem_int) semA_nil))) semA_nil)) (sem_sl (sem_op os_ixA sem_var sem_int) (semO_part sem_int) semO_none)) semA_nil)) (semA_cons (sem_op os_ixA sem_var sem_int) (semA_cons (sem_op os_ixA sem_var sem_int) semA_nil))))) (semS_if (semT_or (semT_not (semT_test (sem_own (c := 3) (neg := false) mFn0_len sem_var sem_var))) (semT_tru (sem_cb cs_any (semA_cons (sem_lc (E1 := E0) (E2 := E0) (semI_walk (E := E0) sem_fz) g_name semT_yes (sem_own (c := 3) (neg := false) mFn0_len sem_var sem_var) (by decide)) semA_nil)))) (semS_ret sem_bl) semS_nx)))))))))))))))) (semS_ret sem_bl)))⟩
theorem ok_law (T : Txt P w K mg fn cl) : OkAt P w K mg base CX0 15 (fn 44) ["script"] (spF ⟨K, cl⟩ m_law 1) := by
  obtain ⟨fd, F, B⟩ := T.d_law.fu
  exact ⟨fd, okF_law T F, B, F.kp⟩
end
end VG

section
open PySem PySem.Spec VL L2
namespace VL
theorem frz_val (d : D) : (O.val d).frz = d := rfl
/-! ### loops and comprehensions of mirrors, once for all -/
theorem mLc_run {mi : MI} {vs : List Nat} {p : Pat} {mt me : M} {ρ ρ1 : Rho} {ds : List D} (hi : mi ρ = some (ds, ρ1)) (hc : clean vs ρ1 = true) (hl : ds.length ≤ 100000) :
    mLc mi vs p mt me ρ = lcLoop vs p mt me ds ρ1 [] := by
  unfold mLc
  rw [hi]
  exact if_pos ⟨hc, hl⟩
theorem lcLoop_inv {vs : List Nat} {p : Pat} {mt me : M} {ρ : Rho} (st : D → Rho) (t : D → Bool) (g : D → D) : ∀ (ds acc : List D), (∀ d ∈ ds, bindP [] p d ρ = some (st d) ∧ wipeR (st d) vs = ρ ∧ mt (st d) = some (.ok (.val (.bl (t d))), st d) ∧ (t d = true → ∃ o, me (st d) = some (.ok o, st d) ∧ o.frz = g d)) →
    lcLoop vs p mt me ds ρ acc = some (.ok (.lst (acc ++ (ds.filter t).map g)), ρ)
  | [], acc, _ => by simp [lcLoop]
  | d :: ds, acc, h => by
    obtain ⟨h1, h2, h3, h4⟩ := h d List.mem_cons_self
    have ih := lcLoop_inv (vs := vs) (p := p) (mt := mt) (me := me) (ρ := ρ) st t g ds
    unfold lcLoop
    rw [h1]
    dsimp only
    rw [h3]
    cases e : t d with
    | true =>
      obtain ⟨o, h5, h6⟩ := h4 e
      simp only [frz_val, h5, h2, h6]
      rw [ih _ fun x hx => h x (List.mem_cons_of_mem _ hx), List.filter_cons_of_pos e]
      simp
    | false =>
      simp only [frz_val, h2]
      rw [ih _ fun x hx => h x (List.mem_cons_of_mem _ hx), List.filter_cons_of_neg (by rw [e]; decide)]
theorem lcIn_inv {vs : List Nat} {p : Pat} {mt me : M} {ρ : Rho} (st : D → Rho) (t : D → Bool) (g : D → D) : ∀ (ds acc : List D), (∀ d ∈ ds, bindP [] p d ρ = some (st d) ∧ wipeR (st d) vs = ρ ∧ mt (st d) = some (.ok (.val (.bl (t d))), st d) ∧ (t d = true → ∃ o, me (st d) = some (.ok o, st d) ∧ o.frz = g d)) →
    acc.length + ds.length ≤ 100000 → lcIn vs p mt me ds ρ acc = some (acc ++ (ds.filter t).map g, ρ)
  | [], acc, _, _ => by simp [lcIn]
  | d :: ds, acc, h, hl => by
    obtain ⟨h1, h2, h3, h4⟩ := h d List.mem_cons_self
    have ih := lcIn_inv (vs := vs) (p := p) (mt := mt) (me := me) (ρ := ρ) st t g ds
    rw [List.length_cons] at hl
    unfold lcIn
    rw [h1]
    dsimp only
    rw [h3]
    cases e : t d with
    | true =>
      obtain ⟨o, h5, h6⟩ := h4 e
      have lt : acc.length < 100000 := by omega
      simp only [frz_val, h5, h2, h6, if_pos lt]
      rw [ih _ (fun x hx => h x (List.mem_cons_of_mem _ hx)) (by rw [List.length_append, List.length_singleton]; omega), List.filter_cons_of_pos e]
      simp
    | false =>
      simp only [frz_val, h2]
      rw [ih _ (fun x hx => h x (List.mem_cons_of_mem _ hx)) (by omega), List.filter_cons_of_neg (by rw [e]; decide)]
theorem lcLoop_all {vs : List Nat} {p : Pat} {me : M} {ρ : Rho} (st : D → Rho) (g : D → D) (ds acc : List D) (h : ∀ d ∈ ds, bindP [] p d ρ = some (st d) ∧ wipeR (st d) vs = ρ ∧ ∃ o, me (st d) = some (.ok o, st d) ∧ o.frz = g d) :
    lcLoop vs p mYes me ds ρ acc = some (.ok (.lst (acc ++ ds.map g)), ρ) := by
  rw [lcLoop_inv st (fun _ => true) g ds acc fun d hd => ⟨(h d hd).1, (h d hd).2.1, rfl, fun _ => (h d hd).2.2⟩, List.filter_eq_self.mpr fun _ _ => rfl]
theorem lcIn_all {vs : List Nat} {p : Pat} {me : M} {ρ : Rho} (st : D → Rho) (g : D → D) (ds acc : List D) (h : ∀ d ∈ ds, bindP [] p d ρ = some (st d) ∧ wipeR (st d) vs = ρ ∧ ∃ o, me (st d) = some (.ok o, st d) ∧ o.frz = g d) (hl : acc.length + ds.length ≤ 100000) :
    lcIn vs p mYes me ds ρ acc = some (acc ++ ds.map g, ρ) := by
  rw [lcIn_inv st (fun _ => true) g ds acc (fun d hd => ⟨(h d hd).1, (h d hd).2.1, rfl, fun _ => (h d hd).2.2⟩) hl, List.filter_eq_self.mpr fun _ _ => rfl]
theorem mLc2_run {mi : MI} {vs : List Nat} {p : Pat} {mi1 : MI} {vs1 : List Nat} {p1 : Pat} {mt me : M} {ρ ρ1 : Rho} {ds : List D} (hi : mi ρ = some (ds, ρ1)) (hc : clean vs ρ1 = true) :
    mLc2 mi vs p mi1 vs1 p1 mt me ρ = (lcOut vs p mi1 vs1 p1 mt me ds ρ1 []).map fun x => (.ok (.lst x.1), x.2) := by
  unfold mLc2
  rw [hi]
  exact if_pos hc
/-- the outer turns: each one adds gs d -/
theorem lcOut_inv {vs : List Nat} {p : Pat} {mi : MI} {vs1 : List Nat} {p1 : Pat} {mt me : M} {ρ : Rho} (st : D → Rho) (es : D → List D) (gs : D → List D) : ∀ (ds acc : List D) (top : Nat), (∀ d ∈ ds, bindP [] p d ρ = some (st d) ∧ wipeR (st d) vs = ρ ∧ mi (st d) = some (es d, st d) ∧ clean vs1 (st d) = true ∧
      (∀ acc, acc.length + (es d).length ≤ top → lcIn vs1 p1 mt me (es d) (st d) acc = some (acc ++ gs d, st d)) ∧ (gs d).length ≤ (es d).length) →
    acc.length + (ds.map fun d => (es d).length).sum ≤ top → lcOut vs p mi vs1 p1 mt me ds ρ acc = some (acc ++ ds.flatMap gs, ρ)
  | [], acc, top, _, _ => by simp [lcOut]
  | d :: ds, acc, top, h, hl => by
    obtain ⟨h1, h2, h3, h4, h5, h6⟩ := h d List.mem_cons_self
    have ih := lcOut_inv (vs := vs) (p := p) (mi := mi) (vs1 := vs1) (p1 := p1) (mt := mt) (me := me) (ρ := ρ) st es gs ds
    rw [List.map_cons, List.sum_cons] at hl
    unfold lcOut
    rw [h1]
    dsimp only
    rw [h3]
    dsimp only
    rw [if_pos h4, h5 acc (by omega)]
    dsimp only
    rw [h2, ih _ top (fun x hx => h x (List.mem_cons_of_mem _ hx)) (by rw [List.length_append]; omega)]
    simp
/-- a for, by what holds ahead of each turn -/
theorem forLoop_inv {p : Pat} {b : List Nat → Rho → Option (Rs Fl × Rho)} {pins : List Nat} (Iv : Nat → Rho → Prop) : ∀ (ds : List D) (k : Nat) (ρ : Rho), Iv k ρ →
    (∀ (i : Nat) (d : D) (ρ : Rho), ds[i]? = some d → Iv (k + i) ρ → ∃ ρ1 ρ2, bindP pins p d ρ = some ρ1 ∧ (b pins ρ1 = some (.ok .nx, ρ2) ∨ b pins ρ1 = some (.ok .ct, ρ2)) ∧ Iv (k + i + 1) ρ2) →
    ∃ ρ', forLoop p b pins ds ρ = some (.ok .nx, ρ') ∧ Iv (k + ds.length) ρ'
  | [], k, ρ, h0, _ => ⟨ρ, by unfold forLoop; rfl, h0⟩
  | d :: ds, k, ρ, h0, h => by
    obtain ⟨ρ1, ρ2, h1, h2, h3⟩ := h 0 d ρ rfl h0
    obtain ⟨ρ', h4, h5⟩ := forLoop_inv (p := p) (b := b) (pins := pins) Iv ds (k + 1) ρ2 h3 fun i e ρ he hi => by
      have := h (i + 1) e ρ (by simpa using he) (by rw [show k + (i + 1) = k + 1 + i by omega]; exact hi)
      rw [show k + (i + 1) + 1 = k + 1 + i + 1 by omega] at this
      exact this
    refine ⟨ρ', ?_, by rw [List.length_cons, show k + (ds.length + 1) = k + 1 + ds.length by omega]; exact h5⟩
    unfold forLoop
    rw [h1]
    rcases h2 with h2 | h2
    · simp only [Option.bind, h2]
      exact h4
    · simp only [Option.bind, h2]
      exact h4
theorem sFor_inv {mi : MI} {p : Pat} {b : MS} {pins : List Nat} {ρ ρ0 : Rho} {ds : List D} (Iv : Nat → Rho → Prop) (hi : mi ρ = some (ds, ρ0)) (h0 : Iv 0 ρ0)
    (h : ∀ (i : Nat) (d : D) (ρ : Rho), ds[i]? = some d → Iv i ρ → ∃ ρ1 ρ2, bindP pins p d ρ = some ρ1 ∧ (b pins ρ1 = some (.ok .nx, ρ2) ∨ b pins ρ1 = some (.ok .ct, ρ2)) ∧ Iv (i + 1) ρ2) :
    ∃ ρ', sFor mi p b pins ρ = some (.ok .nx, ρ') ∧ Iv ds.length ρ' := by
  obtain ⟨ρ', h1, h2⟩ := forLoop_inv (p := p) (b := b) (pins := pins) Iv ds 0 ρ0 h0 fun i d ρ he hi => by
    rw [Nat.zero_add] at hi ⊢
    exact h i d ρ he hi
  rw [Nat.zero_add] at h2
  refine ⟨ρ', ?_, h2⟩
  unfold sFor
  rw [hi]
  exact h1
theorem iRange1_run {a : MA} {ρ ρ1 : Rho} {n : Nat} (h : a ρ = some (.ok [.d (.int (n : Int))], ρ1)) (hn : n ≤ 1000000) : iRange1 a ρ = some ((List.range n).map fun (j : Nat) => D.int (j : Int), ρ1) := by
  have c : (-1000000 : Int) ≤ (n : Int) ∧ (n : Int) ≤ 1000000 := by omega
  unfold iRange1
  rw [h]
  simp only [if_pos c, range, Int.toNat_natCast, Int.zero_add]
theorem iWalk_run {a : M} {ρ ρ1 : Rho} {o : O} {ds : List D} (h : a ρ = some (.ok o, ρ1)) (hw : walkD o.frz = some ds) : VL.iWalk a ρ = some (ds, ρ1) := by
  simp [VL.iWalk, h, hw]
end VL

end
section
open PySem PySem.Spec VL L2
namespace VM
open VG
theorem atI_nn {α : Type} {xs : List α} {k : Int} (h0 : 0 ≤ k) (h : k < xs.length) : ∃ x, atI xs k = some x ∧ xs[k.toNat]? = some x := by
  have hl : k.toNat < xs.length := by omega
  refine ⟨xs[k.toNat], ?_, by simp [hl]⟩
  simp [atI, ixN, h0, h, hl]
theorem cell_at (zs : List Int) (k : Int) (hk : 0 ≤ k) : ∃ c : Int, m_law_cell_at [.val (.lst (zs.map .int)), .val (.int k)] = some (.ok (.val (.int c)), [.val (.lst (zs.map .int)), .val (.int k)]) := by
  by_cases h : k < zs.length
  · obtain ⟨x, h1, h2⟩ := atI_nn hk h
    have hl : k.toNat < zs.length := by omega
    refine ⟨zs[k.toNat], ?_⟩
    have e : atI (zs.map D.int) k = some (.int zs[k.toNat]) := by simp [atI, ixN, hk, h, hl]
    simp [mFn0, mFn, sSeq, sThen, sIf, sRet, sNx, sAsgV, setV, mOp2, mOpL, look, O.pk, mVar, mC, bnd, mCB, aCons, aNil, dsOf, fOr1, fLen, fIntOf, fCmp, fInt, fIntC, O.frz, fIxA, fAddA, fMulA, fOr, fIx, pinsAux, fin, O.isOwn, bMod, bMul, bDivW, bPow, mTup, mCall, splitIo, m_law_cell_at, h, e]
  · refine ⟨0, ?_⟩
    simp [mFn0, mFn, sSeq, sThen, sIf, sRet, sNx, sAsgV, setV, mOp2, mOpL, look, O.pk, mVar, mC, bnd, mCB, aCons, aNil, dsOf, fOr1, fLen, fIntOf, fCmp, fInt, fIntC, O.frz, fIxA, fAddA, fMulA, fOr, fIx, pinsAux, fin, O.isOwn, bMod, bMul, bDivW, bPow, mTup, mCall, splitIo, m_law_cell_at, h]
theorem modlt (a b : Int) (h : 0 < b) : 0 ≤ a % b ∧ a % b < b := ⟨Int.emod_nonneg _ (by omega), Int.emod_lt_of_pos _ h⟩
def primes : List Int := [1000003, 1000033, 1000037, 1000039, 1000081, 1000099, 1000117, 1000121, 1000133, 1000151, 1000159, 1000171, 1000183, 1000187, 1000193, 1000199]
theorem draw (c k b : Int) (h1 : 1 ≤ k) (h9 : k ≤ 9) (hb : 0 < b) : ∃ r : Int, (0 ≤ r ∧ r < b) ∧ m_law_draw [.val (.int c), .val (.int k), .val (.int b)] = some (.ok (.val (.int r)), [.val (.int c), .val (.int k), .val (.int b)]) := by
  refine ⟨(c * 48271 + k * 69621) % (primes.getD k.toNat 1) % b, modlt _ b hb, ?_⟩
  have hk : k = 1 ∨ k = 2 ∨ k = 3 ∨ k = 4 ∨ k = 5 ∨ k = 6 ∨ k = 7 ∨ k = 8 ∨ k = 9 := by omega
  rcases hk with rfl | rfl | rfl | rfl | rfl | rfl | rfl | rfl | rfl <;>
  · simp [mFn0, mFn, sSeq, sThen, sIf, sRet, sNx, sAsgV, setV, mOp2, mOpL, look, O.pk, mVar, mC, bnd, mCB, aCons, aNil, dsOf, fOr1, fLen, fIntOf, fCmp, fInt, fIntC, O.frz, fIxA, fAddA, fMulA, fOr, fIx, pinsAux, fin, O.isOwn, bMod, bMul, bDivW, bPow, mTup, mCall, splitIo, m_law_draw, atI, ixN, hb, primes]
theorem fuelled (c k b : Int) (n : Nat) (p : Int) (x : Option O) : ∀ (i : Nat), ∃ (q : Int) (y : Option O), q = p * 1009 ^ n ∧
    forLoop (.nm 4) (sAsgV 3 (mOp2 fMulA (mVar 3) (mC (.int (1009))))) [] ((List.range' i n).map fun (j : Nat) => D.int (0 + (j : Int))) [some (.val (.int c)), some (.val (.int k)), some (.val (.int b)), some (.val (.int p)), x, none, none]
      = some (.ok .nx, [some (.val (.int c)), some (.val (.int k)), some (.val (.int b)), some (.val (.int q)), y, none, none]) := by
  induction n generalizing p x with
  | zero => exact fun i => ⟨p, x, by simp, by simp [forLoop]⟩
  | succ n ih =>
    intro i
    obtain ⟨q, y, e, h⟩ := ih (p * 1009) (some (.val (.int (0 + (i : Int))))) (i + 1)
    refine ⟨q, y, by rw [e, Int.pow_succ, Int.mul_assoc, Int.mul_comm 1009], ?_⟩
    rw [List.range'_succ, List.map_cons]
    unfold forLoop
    simp [mFn0, mFn, sSeq, sThen, sIf, sRet, sNx, sAsgV, setV, mOp2, mOpL, look, O.pk, mVar, mC, bnd, mCB, aCons, aNil, dsOf, fOr1, fLen, fIntOf, fCmp, fInt, fIntC, O.frz, fIxA, fAddA, fMulA, fOr, fIx, pinsAux, fin, O.isOwn, bMod, bMul, bDivW, bPow, mTup, mCall, splitIo, bindP]
    simpa [fMulA] using h
def sf : MS := (sFor (iRange1 (aCons (mOp2 (fIntC bMod fun i j => i % j) (mCB fIntOf (aCons (mVar 1) aNil)) (mC (.int (24)))) aNil)) (.nm 4) (sAsgV 3 (mOp2 fMulA (mVar 3) (mC (.int (1009))))))
theorem sf_run (c k b : Int) (h1 : 1 ≤ k) (h2 : k ≤ 12) : ∃ y : Option O, sf [] [some (.val (.int c)), some (.val (.int k)), some (.val (.int b)), some (.val (.int 1)), none, none, none]
    = some (.ok .nx, [some (.val (.int c)), some (.val (.int k)), some (.val (.int b)), some (.val (.int (1009 ^ k.toNat))), y, none, none]) := by
  obtain ⟨q, y, e, h⟩ := fuelled c k b k.toNat 1 none 0
  refine ⟨y, ?_⟩
  rw [Int.one_mul] at e
  rw [e] at h
  have hi : iRange1 (aCons (mOp2 (fIntC bMod fun i j => i % j) (mCB fIntOf (aCons (mVar 1) aNil)) (mC (.int (24)))) aNil) [some (.val (.int c)), some (.val (.int k)), some (.val (.int b)), some (.val (.int 1)), none, none, none]
      = some ((List.range' 0 k.toNat).map fun (j : Nat) => D.int (0 + (j : Int)), [some (.val (.int c)), some (.val (.int k)), some (.val (.int b)), some (.val (.int 1)), none, none, none]) := by
    have hk : k % 24 = k := by omega
    simp [mFn0, mFn, sSeq, sThen, sIf, sRet, sNx, sAsgV, setV, mOp2, mOpL, look, O.pk, mVar, mC, bnd, mCB, aCons, aNil, dsOf, fOr1, fLen, fIntOf, fCmp, fInt, fIntC, O.frz, fIxA, fAddA, fMulA, fOr, fIx, pinsAux, fin, O.isOwn, bMod, bMul, bDivW, bPow, mTup, mCall, splitIo, iRange1, hk, range, List.range_eq_range']
    omega
  unfold sf sFor
  rw [hi]
  exact h
theorem number_eq : m_law_number = mFn0 3 7 (sSeq (sAsgV 3 (mC (.int (1)))) (sSeq sf (sSeq (sAsgV 5 (mOp2 (fIntC bDivW fun i j => i / j) (mOp2 (fInt fun i j => i - j) (mVar 0) (mOp2 (fIntC bPow fun i j => i ^ j.toNat) (mC (.int (10))) (mC (.int (18))))) (mVar 3))) (sSeq (sIf (mOp2 (fCmp fun i j => decide (j < i)) (mVar 5) (mC (.int (0)))) (sRet (mOp2 (fIntC bMod fun i j => i % j) (mOp2 (fIntC bMod fun i j => i % j) (mCB fIntOf (aCons (mVar 5) aNil)) (mC (.int (1009)))) (mVar 2))) sNx) (sSeq (sAsgV 6 (mOp2 (fIntC bMod fun i j => i % j) (mCB fIntOf (aCons (mVar 0) aNil)) (mC (.int (1000003))))) (sRet (mOp2 (fIntC bMod fun i j => i % j) (mCall m_law_draw (aCons (mOp2 fMulA (mOp2 fAddA (mVar 6) (mOp2 fMulA (mC (.int (977))) (mVar 1))) (mOp2 fAddA (mOp2 fAddA (mVar 6) (mOp2 fMulA (mC (.int (31))) (mVar 1))) (mC (.int (5))))) (aCons (mOp2 fAddA (mOp2 (fIntC bMod fun i j => i % j) (mCB fIntOf (aCons (mVar 1) aNil)) (mC (.int (9)))) (mC (.int (1)))) (aCons (mC (.int (999983))) aNil)))) (mVar 2)))))))) := rfl
theorem pow_ok (k : Int) (h1 : 1 ≤ k) (h2 : k ≤ 12) : 0 < (1009 : Int) ^ k.toNat ∧ ((1009 : Nat) ^ k.toNat).log2 < 9000 := by
  have hk : k = 1 ∨ k = 2 ∨ k = 3 ∨ k = 4 ∨ k = 5 ∨ k = 6 ∨ k = 7 ∨ k = 8 ∨ k = 9 ∨ k = 10 ∨ k = 11 ∨ k = 12 := by omega
  rcases hk with rfl | rfl | rfl | rfl | rfl | rfl | rfl | rfl | rfl | rfl | rfl | rfl <;> exact ⟨by decide +kernel, by decide +kernel⟩
theorem number (c k b : Int) (h1 : 1 ≤ k) (h2 : k ≤ 12) (hb : 0 < b) : ∃ r : Int, (0 ≤ r ∧ r < b) ∧ m_law_number [.val (.int c), .val (.int k), .val (.int b)] = some (.ok (.val (.int r)), [.val (.int c), .val (.int k), .val (.int b)]) := by
  obtain ⟨y, hs⟩ := sf_run c k b h1 h2
  obtain ⟨p1, p2⟩ := pow_ok k h1 h2
  have tp : (fIntC bPow fun i j => i ^ j.toNat) (.int 10) (.int 18) = some (.val (.int 1000000000000000000)) := by rfl
  by_cases hpos : 0 < (c - 1000000000000000000) / 1009 ^ k.toNat
  · refine ⟨(c - 1000000000000000000) / 1009 ^ k.toNat % 1009 % b, modlt _ b hb, ?_⟩
    rw [number_eq]
    simp [mFn0, mFn, sSeq, sThen, sIf, sRet, sNx, sAsgV, setV, mOp2, mOpL, look, O.pk, mVar, mC, bnd, mCB, aCons, aNil, dsOf, fOr1, fLen, fIntOf, fCmp, fInt, fIntC, O.frz, fIxA, fAddA, fMulA, fOr, fIx, pinsAux, fin, O.isOwn, bMod, bMul, bDivW, bPow, mTup, mCall, splitIo, hs, hpos, p1, p2, hb]
  · obtain ⟨s0, s1⟩ := modlt c 1000003 (by decide)
    obtain ⟨d, ⟨d0, d1⟩, hd⟩ := draw ((c % 1000003 + 977 * k) * (c % 1000003 + 31 * k + 5)) (k % 9 + 1) 999983 (by omega) (by omega) (by decide)
    refine ⟨d % b, modlt _ b hb, ?_⟩
    rw [number_eq]
    have m1 : -18446744073709551616 < c % 1000003 + 977 * k := by omega
    have m2 : c % 1000003 + 977 * k < 18446744073709551616 := by omega
    simp [mFn0, mFn, sSeq, sThen, sIf, sRet, sNx, sAsgV, setV, mOp2, mOpL, look, O.pk, mVar, mC, bnd, mCB, aCons, aNil, dsOf, fOr1, fLen, fIntOf, fCmp, fInt, fIntC, O.frz, fIxA, fAddA, fMulA, fOr, fIx, pinsAux, fin, O.isOwn, bMod, bMul, bDivW, bPow, mTup, mCall, splitIo, hs, hpos, p1, p2, hb, hd, m1, m2]
/-- the state of the draws -/
def drawO (zs : List Int) (f a : Int) : O := .lst [.lst (zs.map .int), .int f, .int a]
theorem next (zs : List Int) (f a b : Int) (hf : 0 ≤ f) (ha : 0 ≤ a) (hb : 0 < b) : ∃ r : Int, (0 ≤ r ∧ r < b) ∧ m_law_next [drawO zs f a, .val (.int b)] = some (.ok (.val (.int r)), [drawO zs f (a + 1), .val (.int b)]) := by
  obtain ⟨c, hc⟩ := cell_at zs (f + (a + 1) / 12) (by omega)
  obtain ⟨r, hr, hn⟩ := number (c + 31 * ((a + 1) / 12)) ((a + 1) % 12 + 1) b (by omega) (by omega) hb
  refine ⟨r, hr, ?_⟩
  have l12 : Nat.log2 12 < 9000 := by decide +kernel
  unfold drawO
  simp [mFn0, mFn, sSeq, sThen, sIf, sRet, sNx, sAsgV, setV, mOp2, mOpL, look, O.pk, mVar, mC, bnd, mCB, aCons, aNil, dsOf, fOr1, fLen, fIntOf, fCmp, fInt, fIntC, O.frz, fIxA, fAddA, fMulA, fOr, fIx, pinsAux, fin, O.isOwn, bMod, bMul, bDivW, bPow, mTup, mCall, splitIo, m_law_next, sSetM, ixN, atI, hc, hn, l12]
theorem pick (zs : List Int) (f a : Int) (d : D) (xs : List D) (hd : d = .lst xs ∨ d = .tup xs) (hf : 0 ≤ f) (ha : 0 ≤ a) (hx : xs ≠ []) : ∃ x ∈ xs, m_law_pick [drawO zs f a, .val d] = some (.ok (.val x), [drawO zs f (a + 1), .val d]) := by
  have hl : 0 < (xs.length : Int) := by
    have := List.length_pos_iff.mpr hx
    omega
  obtain ⟨r, ⟨r0, r1⟩, hn⟩ := next zs f a xs.length hf ha hl
  have hi : r.toNat < xs.length := by omega
  have e : atI xs r = some xs[r.toNat] := by simp [atI, ixN, r0, r1, hi]
  refine ⟨xs[r.toNat], List.getElem_mem hi, ?_⟩
  rcases hd with rfl | rfl
  · unfold drawO at hn ⊢
    simp [mFn0, mFn, sSeq, sThen, sIf, sRet, sNx, sAsgV, setV, mOp2, mOpL, look, O.pk, mVar, mC, bnd, mCB, aCons, aNil, dsOf, fOr1, fLen, fIntOf, fCmp, fInt, fIntC, O.frz, fIxA, fAddA, fMulA, fOr, fIx, pinsAux, fin, O.isOwn, bMod, bMul, bDivW, bPow, mTup, mCall, splitIo, m_law_pick, aSl, aIo, dsOnly, hn, e]
  · unfold drawO at hn ⊢
    simp [mFn0, mFn, sSeq, sThen, sIf, sRet, sNx, sAsgV, setV, mOp2, mOpL, look, O.pk, mVar, mC, bnd, mCB, aCons, aNil, dsOf, fOr1, fLen, fIntOf, fCmp, fInt, fIntC, O.frz, fIxA, fAddA, fMulA, fOr, fIx, pinsAux, fin, O.isOwn, bMod, bMul, bDivW, bPow, mTup, mCall, splitIo, m_law_pick, aSl, aIo, dsOnly, hn, e]
end VM

end
section
open PySem PySem.Spec VL L2
namespace VM
open VG
theorem w_put_put : fEq (.str "put") (.str "put") = some (.val (.bl true)) := by kernel_rfl
theorem w_put_move : fEq (.str "put") (.str "move") = some (.val (.bl false)) := by kernel_rfl
theorem w_put_in : fInA false (.str "put") (.tup [.str "take", .str "tell"]) = some (.val (.bl false)) := by kernel_rfl
theorem w_move_put : fEq (.str "move") (.str "put") = some (.val (.bl false)) := by kernel_rfl
theorem w_move_move : fEq (.str "move") (.str "move") = some (.val (.bl true)) := by kernel_rfl
theorem w_move_in : fInA false (.str "move") (.tup [.str "take", .str "tell"]) = some (.val (.bl false)) := by kernel_rfl
theorem w_add_put : fEq (.str "add") (.str "put") = some (.val (.bl false)) := by kernel_rfl
theorem w_add_move : fEq (.str "add") (.str "move") = some (.val (.bl false)) := by kernel_rfl
theorem w_add_in : fInA false (.str "add") (.tup [.str "take", .str "tell"]) = some (.val (.bl false)) := by kernel_rfl
theorem w_sub_put : fEq (.str "sub") (.str "put") = some (.val (.bl false)) := by kernel_rfl
theorem w_sub_move : fEq (.str "sub") (.str "move") = some (.val (.bl false)) := by kernel_rfl
theorem w_sub_in : fInA false (.str "sub") (.tup [.str "take", .str "tell"]) = some (.val (.bl false)) := by kernel_rfl
theorem w_less_put : fEq (.str "less") (.str "put") = some (.val (.bl false)) := by kernel_rfl
theorem w_less_move : fEq (.str "less") (.str "move") = some (.val (.bl false)) := by kernel_rfl
theorem w_less_in : fInA false (.str "less") (.tup [.str "take", .str "tell"]) = some (.val (.bl false)) := by kernel_rfl
theorem w_take_put : fEq (.str "take") (.str "put") = some (.val (.bl false)) := by kernel_rfl
theorem w_take_move : fEq (.str "take") (.str "move") = some (.val (.bl false)) := by kernel_rfl
theorem w_take_in : fInA false (.str "take") (.tup [.str "take", .str "tell"]) = some (.val (.bl true)) := by kernel_rfl
theorem w_tell_put : fEq (.str "tell") (.str "put") = some (.val (.bl false)) := by kernel_rfl
theorem w_tell_move : fEq (.str "tell") (.str "move") = some (.val (.bl false)) := by kernel_rfl
theorem w_tell_in : fInA false (.str "tell") (.tup [.str "take", .str "tell"]) = some (.val (.bl true)) := by kernel_rfl
inductive RowOk (m w : Int) : D → Prop
  | put (r n : Int) (h : 0 ≤ r ∧ r < m) (k : 0 ≤ n ∧ n < w) : RowOk m w (.tup [.str "put", .int r, .int n])
  | move (r s : Int) (h : 0 ≤ r ∧ r < m) (k : 0 ≤ s ∧ s < m) : RowOk m w (.tup [.str "move", .int r, .int s])
  | take (r : Int) (h : 0 ≤ r ∧ r < m) : RowOk m w (.tup [.str "take", .int r])
  | tell (r : Int) (h : 0 ≤ r ∧ r < m) : RowOk m w (.tup [.str "tell", .int r])
  | add (r s t : Int) (h : 0 ≤ r ∧ r < m) (k : 0 ≤ s ∧ s < m) (l : 0 ≤ t ∧ t < m) : RowOk m w (.tup [.str "add", .int r, .int s, .int t])
  | sub (r s t : Int) (h : 0 ≤ r ∧ r < m) (k : 0 ≤ s ∧ s < m) (l : 0 ≤ t ∧ t < m) : RowOk m w (.tup [.str "sub", .int r, .int s, .int t])
  | less (r s t : Int) (h : 0 ≤ r ∧ r < m) (k : 0 ≤ s ∧ s < m) (l : 0 ≤ t ∧ t < m) : RowOk m w (.tup [.str "less", .int r, .int s, .int t])
theorem row (zs : List Int) (f a m w : Int) (hf : 0 ≤ f) (ha : 0 ≤ a) (hm : 0 < m) (hw : 0 < w) : ∃ (d : D) (a' : Int), RowOk m w d ∧ a ≤ a' ∧ m_law_row [drawO zs f a, .val (.int m), .val (.int w)] = some (.ok (.val d), [drawO zs f a', .val (.int m), .val (.int w)]) := by
  obtain ⟨x, hx, h1⟩ := pick zs f a (.lst [.str "put", .str "move", .str "add", .str "sub", .str "less", .str "take", .str "tell", .str "tell"]) _ (.inl rfl) hf ha (by simp)
  obtain ⟨r, hr, h2⟩ := next zs f (a + 1) m hf (by omega) hm
  obtain ⟨s, hs, h3⟩ := next zs f (a + 1 + 1) m hf (by omega) hm
  obtain ⟨t, ht, h4⟩ := next zs f (a + 1 + 1 + 1) m hf (by omega) hm
  obtain ⟨n, hn, h5⟩ := next zs f (a + 1 + 1 + 1 + 1) w hf (by omega) hw
  unfold drawO at h1 h2 h3 h4 h5 ⊢
  simp only [List.mem_cons, List.not_mem_nil, or_false] at hx
  rcases hx with rfl | rfl | rfl | rfl | rfl | rfl | rfl | rfl
  · refine ⟨_, a + 1 + 1 + 1 + 1 + 1, .put r n hr hn, by omega, ?_⟩
    simp [mFn0, mFn, sSeq, sThen, sIf, sRet, sNx, sAsgV, setV, mOp2, mOpL, look, O.pk, mVar, mC, bnd, mCB, aCons, aNil, dsOf, fOr1, fLen, fIntOf, fCmp, fInt, fIntC, O.frz, fIxA, fAddA, fMulA, fOr, fIx, pinsAux, fin, O.isOwn, bMod, bMul, bDivW, bPow, mTup, mCall, splitIo, m_law_row, aSl, aIo, dsOnly, mLst, sPar3, mIf, h1, h2, h3, h4, h5, w_put_put, w_put_move, w_put_in]
  · refine ⟨_, a + 1 + 1 + 1 + 1, .move r s hr hs, by omega, ?_⟩
    simp [mFn0, mFn, sSeq, sThen, sIf, sRet, sNx, sAsgV, setV, mOp2, mOpL, look, O.pk, mVar, mC, bnd, mCB, aCons, aNil, dsOf, fOr1, fLen, fIntOf, fCmp, fInt, fIntC, O.frz, fIxA, fAddA, fMulA, fOr, fIx, pinsAux, fin, O.isOwn, bMod, bMul, bDivW, bPow, mTup, mCall, splitIo, m_law_row, aSl, aIo, dsOnly, mLst, sPar3, mIf, h1, h2, h3, h4, h5, w_move_put, w_move_move, w_move_in]
  · refine ⟨_, a + 1 + 1 + 1 + 1, .add r s t hr hs ht, by omega, ?_⟩
    simp [mFn0, mFn, sSeq, sThen, sIf, sRet, sNx, sAsgV, setV, mOp2, mOpL, look, O.pk, mVar, mC, bnd, mCB, aCons, aNil, dsOf, fOr1, fLen, fIntOf, fCmp, fInt, fIntC, O.frz, fIxA, fAddA, fMulA, fOr, fIx, pinsAux, fin, O.isOwn, bMod, bMul, bDivW, bPow, mTup, mCall, splitIo, m_law_row, aSl, aIo, dsOnly, mLst, sPar3, mIf, h1, h2, h3, h4, h5, w_add_put, w_add_move, w_add_in]
  · refine ⟨_, a + 1 + 1 + 1 + 1, .sub r s t hr hs ht, by omega, ?_⟩
    simp [mFn0, mFn, sSeq, sThen, sIf, sRet, sNx, sAsgV, setV, mOp2, mOpL, look, O.pk, mVar, mC, bnd, mCB, aCons, aNil, dsOf, fOr1, fLen, fIntOf, fCmp, fInt, fIntC, O.frz, fIxA, fAddA, fMulA, fOr, fIx, pinsAux, fin, O.isOwn, bMod, bMul, bDivW, bPow, mTup, mCall, splitIo, m_law_row, aSl, aIo, dsOnly, mLst, sPar3, mIf, h1, h2, h3, h4, h5, w_sub_put, w_sub_move, w_sub_in]
  · refine ⟨_, a + 1 + 1 + 1 + 1, .less r s t hr hs ht, by omega, ?_⟩
    simp [mFn0, mFn, sSeq, sThen, sIf, sRet, sNx, sAsgV, setV, mOp2, mOpL, look, O.pk, mVar, mC, bnd, mCB, aCons, aNil, dsOf, fOr1, fLen, fIntOf, fCmp, fInt, fIntC, O.frz, fIxA, fAddA, fMulA, fOr, fIx, pinsAux, fin, O.isOwn, bMod, bMul, bDivW, bPow, mTup, mCall, splitIo, m_law_row, aSl, aIo, dsOnly, mLst, sPar3, mIf, h1, h2, h3, h4, h5, w_less_put, w_less_move, w_less_in]
  · refine ⟨_, a + 1 + 1 + 1 + 1, .take r hr, by omega, ?_⟩
    simp [mFn0, mFn, sSeq, sThen, sIf, sRet, sNx, sAsgV, setV, mOp2, mOpL, look, O.pk, mVar, mC, bnd, mCB, aCons, aNil, dsOf, fOr1, fLen, fIntOf, fCmp, fInt, fIntC, O.frz, fIxA, fAddA, fMulA, fOr, fIx, pinsAux, fin, O.isOwn, bMod, bMul, bDivW, bPow, mTup, mCall, splitIo, m_law_row, aSl, aIo, dsOnly, mLst, sPar3, mIf, h1, h2, h3, h4, h5, w_take_put, w_take_move, w_take_in]
  · refine ⟨_, a + 1 + 1 + 1 + 1, .tell r hr, by omega, ?_⟩
    simp [mFn0, mFn, sSeq, sThen, sIf, sRet, sNx, sAsgV, setV, mOp2, mOpL, look, O.pk, mVar, mC, bnd, mCB, aCons, aNil, dsOf, fOr1, fLen, fIntOf, fCmp, fInt, fIntC, O.frz, fIxA, fAddA, fMulA, fOr, fIx, pinsAux, fin, O.isOwn, bMod, bMul, bDivW, bPow, mTup, mCall, splitIo, m_law_row, aSl, aIo, dsOnly, mLst, sPar3, mIf, h1, h2, h3, h4, h5, w_tell_put, w_tell_move, w_tell_in]
  · refine ⟨_, a + 1 + 1 + 1 + 1, .tell r hr, by omega, ?_⟩
    simp [mFn0, mFn, sSeq, sThen, sIf, sRet, sNx, sAsgV, setV, mOp2, mOpL, look, O.pk, mVar, mC, bnd, mCB, aCons, aNil, dsOf, fOr1, fLen, fIntOf, fCmp, fInt, fIntC, O.frz, fIxA, fAddA, fMulA, fOr, fIx, pinsAux, fin, O.isOwn, bMod, bMul, bDivW, bPow, mTup, mCall, splitIo, m_law_row, aSl, aIo, dsOnly, mLst, sPar3, mIf, h1, h2, h3, h4, h5, w_tell_put, w_tell_move, w_tell_in]
end VM

end
section
open PySem PySem.Spec VL L2
namespace VM
open VG
theorem lay_int (x : Int) : (PyData.int x).canLay0 = true := by rfl
theorem dep_int (x : Int) : (PyData.int x).depth = 0 := by rfl
theorem eq_int (x y : Int) : fEq (.int x) (.int y) = some (.val (.bl (decide (x = y)))) := by
  simp [fEq, toPy, SeqAt.shaped, PyData.eqv, lay_int, dep_int]
  by_cases h : x = y <;> simp [h]
theorem eq_l0 : fEq (.lst []) (.lst []) = some (.val (.bl true)) := by kernel_rfl
theorem eq_l1 (c : Int) : fEq (.lst [.int c]) (.lst []) = some (.val (.bl false)) := by kernel_rfl
theorem eq_l2 (c e : Int) : fEq (.lst [.int c, .int e]) (.lst []) = some (.val (.bl false)) := by kernel_rfl
def EndOk (m size : Int) (cs : List Int) (d : D) : Prop := (cs = [] ∧ d = .tup [.str "stop"]) ∨ (∃ n, (1 ≤ n ∧ n < size) ∧ (∀ c ∈ cs, c = n) ∧ d = .tup [.str "go", .int n]) ∨
  ∃ r x y, (0 ≤ r ∧ r < m) ∧ (1 ≤ x ∧ x < size) ∧ (1 ≤ y ∧ y < size) ∧ (∀ c ∈ cs, c = x ∨ c = y) ∧ d = .tup [.str "part", .int r, .int x, .int y]
theorem end_ (zs : List Int) (f a m size : Int) (cs : List Int) (hf : 0 ≤ f) (ha : 0 ≤ a) (hm : 0 < m) (hs : 1 ≤ size) (hc : ∀ c ∈ cs, 1 ≤ c ∧ c < size) (hl : cs.length ≤ 2) :
    ∃ (d : D) (a' : Int), EndOk m size cs d ∧ a ≤ a' ∧ m_law_end [drawO zs f a, .val (.int m), .val (.int size), .val (.lst (cs.map .int))] = some (.ok (.val d), [drawO zs f a', .val (.int m), .val (.int size), .val (.lst (cs.map .int))]) := by
  obtain ⟨way, hw, h1⟩ := next zs f a 4 hf ha (by decide)
  obtain ⟨one, ho, h2⟩ := next zs f (a + 1) m hf (by omega) hm
  match cs, hl, hc with
  | [], _, _ =>
    by_cases h : size = 1 ∨ way < 2
    · refine ⟨.tup [.str "stop"], a + 1 + 1, .inl ⟨rfl, rfl⟩, by omega, ?_⟩
      unfold drawO at h1 h2 ⊢
      by_cases h0 : size = 1
      · simp [mFn0, mFn, sSeq, sThen, sIf, sRet, sNx, sAsgV, setV, mOp2, mOpL, look, O.pk, mVar, mC, bnd, mCB, aCons, aNil, dsOf, fOr1, fLen, fIntOf, fCmp, fInt, fIntC, O.frz, fIxA, fAddA, fMulA, fOr, fIx, pinsAux, fin, O.isOwn, bMod, bMul, bDivW, bPow, mTup, mCall, splitIo, m_law_end, aSl, aIo, dsOnly, mLst, sPar, mIf, mOr, mAnd, h1, h2, eq_int, eq_l0, h0]
      · have h3 : way < 2 := by omega
        simp [mFn0, mFn, sSeq, sThen, sIf, sRet, sNx, sAsgV, setV, mOp2, mOpL, look, O.pk, mVar, mC, bnd, mCB, aCons, aNil, dsOf, fOr1, fLen, fIntOf, fCmp, fInt, fIntC, O.frz, fIxA, fAddA, fMulA, fOr, fIx, pinsAux, fin, O.isOwn, bMod, bMul, bDivW, bPow, mTup, mCall, splitIo, m_law_end, aSl, aIo, dsOnly, mLst, sPar, mIf, mOr, mAnd, h1, h2, eq_int, eq_l0, h0, h3]
    · have h0 : ¬ size = 1 := fun z => h (.inl z)
      have h3 : ¬ way < 2 := fun z => h (.inr z)
      obtain ⟨n, hn, h4⟩ := next zs f (a + 1 + 1) (size - 1) hf (by omega) (by omega)
      refine ⟨.tup [.str "go", .int (1 + n)], a + 1 + 1 + 1, .inr (.inl ⟨1 + n, by omega, by simp, rfl⟩), by omega, ?_⟩
      unfold drawO at h1 h2 h4 ⊢
      simp [mFn0, mFn, sSeq, sThen, sIf, sRet, sNx, sAsgV, setV, mOp2, mOpL, look, O.pk, mVar, mC, bnd, mCB, aCons, aNil, dsOf, fOr1, fLen, fIntOf, fCmp, fInt, fIntC, O.frz, fIxA, fAddA, fMulA, fOr, fIx, pinsAux, fin, O.isOwn, bMod, bMul, bDivW, bPow, mTup, mCall, splitIo, m_law_end, aSl, aIo, dsOnly, mLst, sPar, mIf, mOr, mAnd, h1, h2, h4, eq_int, eq_l0, h0, h3]
  | [c], _, hc =>
    obtain ⟨c1, c2⟩ := hc c (by simp)
    by_cases h3 : way < 2
    · refine ⟨.tup [.str "go", .int c], a + 1 + 1, .inr (.inl ⟨c, ⟨c1, c2⟩, by simp, rfl⟩), by omega, ?_⟩
      unfold drawO at h1 h2 ⊢
      simp [mFn0, mFn, sSeq, sThen, sIf, sRet, sNx, sAsgV, setV, mOp2, mOpL, look, O.pk, mVar, mC, bnd, mCB, aCons, aNil, dsOf, fOr1, fLen, fIntOf, fCmp, fInt, fIntC, O.frz, fIxA, fAddA, fMulA, fOr, fIx, pinsAux, fin, O.isOwn, bMod, bMul, bDivW, bPow, mTup, mCall, splitIo, m_law_end, aSl, aIo, dsOnly, mLst, sPar, mIf, mOr, mAnd, h1, h2, eq_int, eq_l1, h3, atI, ixN]
    · obtain ⟨n, hn, h4⟩ := next zs f (a + 1 + 1) (size - 1) hf (by omega) (by omega)
      by_cases h5 : way % 2 = 0
      · refine ⟨.tup [.str "part", .int one, .int c, .int (1 + n)], a + 1 + 1 + 1, .inr (.inr ⟨one, c, 1 + n, ho, ⟨c1, c2⟩, by omega, by simp, rfl⟩), by omega, ?_⟩
        unfold drawO at h1 h2 h4 ⊢
        simp [mFn0, mFn, sSeq, sThen, sIf, sRet, sNx, sAsgV, setV, mOp2, mOpL, look, O.pk, mVar, mC, bnd, mCB, aCons, aNil, dsOf, fOr1, fLen, fIntOf, fCmp, fInt, fIntC, O.frz, fIxA, fAddA, fMulA, fOr, fIx, pinsAux, fin, O.isOwn, bMod, bMul, bDivW, bPow, mTup, mCall, splitIo, m_law_end, aSl, aIo, dsOnly, mLst, sPar, mIf, mOr, mAnd, h1, h2, h4, eq_int, eq_l1, h3, h5, atI, ixN, fCatL]
      · refine ⟨.tup [.str "part", .int one, .int (1 + n), .int c], a + 1 + 1 + 1, .inr (.inr ⟨one, 1 + n, c, ho, by omega, ⟨c1, c2⟩, by simp, rfl⟩), by omega, ?_⟩
        unfold drawO at h1 h2 h4 ⊢
        simp [mFn0, mFn, sSeq, sThen, sIf, sRet, sNx, sAsgV, setV, mOp2, mOpL, look, O.pk, mVar, mC, bnd, mCB, aCons, aNil, dsOf, fOr1, fLen, fIntOf, fCmp, fInt, fIntC, O.frz, fIxA, fAddA, fMulA, fOr, fIx, pinsAux, fin, O.isOwn, bMod, bMul, bDivW, bPow, mTup, mCall, splitIo, m_law_end, aSl, aIo, dsOnly, mLst, sPar, mIf, mOr, mAnd, h1, h2, h4, eq_int, eq_l1, h3, h5, atI, ixN, fCatL]
  | [c, e], _, hc =>
    obtain ⟨c1, c2⟩ := hc c (by simp)
    obtain ⟨e1, e2⟩ := hc e (by simp)
    by_cases h5 : way % 2 = 0
    · refine ⟨.tup [.str "part", .int one, .int c, .int e], a + 1 + 1, .inr (.inr ⟨one, c, e, ho, ⟨c1, c2⟩, ⟨e1, e2⟩, by simp, rfl⟩), by omega, ?_⟩
      unfold drawO at h1 h2 ⊢
      simp [mFn0, mFn, sSeq, sThen, sIf, sRet, sNx, sAsgV, setV, mOp2, mOpL, look, O.pk, mVar, mC, bnd, mCB, aCons, aNil, dsOf, fOr1, fLen, fIntOf, fCmp, fInt, fIntC, O.frz, fIxA, fAddA, fMulA, fOr, fIx, pinsAux, fin, O.isOwn, bMod, bMul, bDivW, bPow, mTup, mCall, splitIo, m_law_end, aSl, aIo, dsOnly, mLst, sPar, mIf, mOr, mAnd, h1, h2, eq_int, eq_l2, h5, atI, ixN, fCatL]
    · refine ⟨.tup [.str "part", .int one, .int e, .int c], a + 1 + 1, .inr (.inr ⟨one, e, c, ho, ⟨e1, e2⟩, ⟨c1, c2⟩, by simp, rfl⟩), by omega, ?_⟩
      unfold drawO at h1 h2 ⊢
      simp [mFn0, mFn, sSeq, sThen, sIf, sRet, sNx, sAsgV, setV, mOp2, mOpL, look, O.pk, mVar, mC, bnd, mCB, aCons, aNil, dsOf, fOr1, fLen, fIntOf, fCmp, fInt, fIntC, O.frz, fIxA, fAddA, fMulA, fOr, fIx, pinsAux, fin, O.isOwn, bMod, bMul, bDivW, bPow, mTup, mCall, splitIo, m_law_end, aSl, aIo, dsOnly, mLst, sPar, mIf, mOr, mAnd, h1, h2, eq_int, eq_l2, h5, atI, ixN, fCatL]
  | c :: e :: g :: r, hl, _ => simp at hl
end VM

end
section
open PySem PySem.Spec VL L2
namespace VM
open VG
abbrev ll (os : List (List Int)) : O := .ll (os.map fun cs => cs.map D.int)
/-- what stands in outs when the block b comes -/
structure OutsOk (size : Nat) (b : Int) (os : List (List Int)) : Prop where
  len : os.length = size
  each : ∀ (p : Nat) cs, os[p]? = some cs → cs.length ≤ 2 ∧ ∀ c ∈ cs, (p : Int) < c ∧ c < b
  all : ∀ c : Int, 1 ≤ c → c < b → ∃ (p : Nat) (cs : List Int), (p : Int) < c ∧ os[p]? = some cs ∧ c ∈ cs
def tst : M := mOp2 (fCmp fun i j => decide (i < j)) (mLenLL 2 (mVar 4)) (mC (.int (2)))
theorem lc_run (o0 o1 : Option O) (os : List (List Int)) (b : Int) : ∀ (l : List Nat) (acc : List D), (∀ p ∈ l, p < os.length) →
    lcLoop [4] (.nm 4) tst (mVar 4) (l.map fun (j : Nat) => D.int (0 + (j : Int))) [o0, o1, some (ll os), some (.val (.int b)), none] acc
      = some (.ok (.lst (acc ++ (l.filter fun p => decide ((os.getD p []).length < 2)).map fun (j : Nat) => D.int (0 + (j : Int)))), [o0, o1, some (ll os), some (.val (.int b)), none])
  | [], acc, _ => by simp [lcLoop]
  | p :: l, acc, h => by
    have hp : p < os.length := h p (by simp)
    have ih := lc_run o0 o1 os b l
    rw [List.map_cons]
    unfold lcLoop
    have e : atI (os.map fun cs => cs.map D.int) (0 + (p : Int)) = some (os[p].map D.int) := by simp [atI, ixN, hp]
    have eg : os.getD p [] = os[p] := by simp [hp]
    have et : tst [o0, o1, some (ll os), some (.val (.int b)), some (.val (.int (0 + (p : Int))))] = some (.ok (.val (.bl (decide (os[p].length < 2)))), [o0, o1, some (ll os), some (.val (.int b)), some (.val (.int (0 + (p : Int))))]) := by
      unfold tst
      simp only [mOp2, mLenLL, mVar, bnd, mC, List.getElem?_cons_succ, List.getElem?_cons_zero, O.frz, e, Option.map, fCmp, List.length_map]
      simp
      omega
    have eb : bindP [] (.nm 4) (.int (0 + (p : Int))) [o0, o1, some (ll os), some (.val (.int b)), none] = some [o0, o1, some (ll os), some (.val (.int b)), some (.val (.int (0 + (p : Int))))] := by
      simp [bindP, setV]
    rw [eb]
    simp only [et]
    by_cases h2 : os[p].length < 2
    · have e4 : mVar 4 [o0, o1, some (ll os), some (.val (.int b)), some (.val (.int (0 + (p : Int))))] = some (.ok (.val (.int (0 + (p : Int)))), [o0, o1, some (ll os), some (.val (.int b)), some (.val (.int (0 + (p : Int))))]) := by simp [mVar]
      simp only [O.frz, h2, decide_true, e4, wipeR, List.set_cons_succ, List.set_cons_zero]
      rw [ih _ fun q hq => h q (List.mem_cons_of_mem _ hq)]
      rw [List.filter_cons_of_pos (by rw [eg]; simpa using h2)]
      simp
    · simp only [O.frz, h2, decide_false, wipeR, List.set_cons_succ, List.set_cons_zero]
      rw [ih _ fun q hq => h q (List.mem_cons_of_mem _ hq)]
      rw [List.filter_cons_of_neg (by rw [eg]; simpa using h2)]
theorem lcE_run (o0 : Option O) (n : Int) : ∀ (l : List Nat) (k : Nat),
    lcLoopE [3] (.nm 3) (l.map fun (j : Nat) => D.int (0 + (j : Int))) [o0, some (.val (.int n)), none, none, none] k = some (.ok (.ll (List.replicate (k + l.length) [])), [o0, some (.val (.int n)), none, none, none])
  | [], k => by simp [lcLoopE]
  | p :: l, k => by
    rw [List.map_cons]
    unfold lcLoopE
    have eb : bindP [] (.nm 3) (.int (0 + (p : Int))) [o0, some (.val (.int n)), none, none, none] = some [o0, some (.val (.int n)), none, some (.val (.int (0 + (p : Int)))), none] := by
      simp [bindP, setV]
    rw [eb]
    simp only [wipeR, List.set_cons_succ, List.set_cons_zero]
    rw [lcE_run o0 n l (k + 1), List.length_cons]
    have : k + 1 + l.length = k + (l.length + 1) := by omega
    rw [this]
def outsB : MS := sDrop (mAppLL 2 (mCall m_law_pick (aSl 0 (aCons (mLc (iRange1 (aCons (mVar 3) aNil)) [4] (.nm 4) tst (mVar 4)) aNil))) 3)
theorem outs_step (zs : List Int) (f a : Int) (size b : Nat) (os : List (List Int)) (hf : 0 ≤ f) (ha : 0 ≤ a) (hb : 1 ≤ b) (hbs : b < size) (h16 : size ≤ 16) (h : OutsOk size b os) :
    ∃ (a' : Int) (os' : List (List Int)), a ≤ a' ∧ OutsOk size ((b + 1 : Nat) : Int) os' ∧ outsB [0] [some (drawO zs f a), some (.val (.int size)), some (ll os), some (.val (.int (b : Int))), none] = some (.ok .nx, [some (drawO zs f a'), some (.val (.int size)), some (ll os'), some (.val (.int (b : Int))), none]) := by
  have hlen := h.len
  have el : mLc (iRange1 (aCons (mVar 3) aNil)) [4] (.nm 4) tst (mVar 4) [some (drawO zs f a), some (.val (.int size)), some (ll os), some (.val (.int (b : Int))), none]
      = some (.ok (.lst (((List.range b).filter fun p => decide ((os.getD p []).length < 2)).map fun (j : Nat) => D.int (0 + (j : Int)))), [some (drawO zs f a), some (.val (.int size)), some (ll os), some (.val (.int (b : Int))), none]) := by
    have e1 : iRange1 (aCons (mVar 3) aNil) [some (drawO zs f a), some (.val (.int size)), some (ll os), some (.val (.int (b : Int))), none] = some ((List.range b).map fun (j : Nat) => D.int (0 + (j : Int)), [some (drawO zs f a), some (.val (.int size)), some (ll os), some (.val (.int (b : Int))), none]) := by
      simp [mFn0, mFn, sSeq, sThen, sIf, sRet, sNx, sAsgV, setV, mOp2, mOpL, look, O.pk, mVar, mC, bnd, mCB, aCons, aNil, dsOf, fOr1, fLen, fIntOf, fCmp, fInt, fIntC, O.frz, fIxA, fAddA, fMulA, fOr, fIx, pinsAux, fin, O.isOwn, bMod, bMul, bDivW, bPow, mTup, mCall, splitIo, iRange1, range]
      omega
    unfold mLc
    rw [e1]
    have hc : clean [4] [some (drawO zs f a), some (.val (.int size)), some (ll os), some (.val (.int (b : Int))), none] = true ∧ ((List.range b).map fun (j : Nat) => D.int (0 + (j : Int))).length ≤ 100000 := by
      refine ⟨by simp [clean], ?_⟩
      simp
      omega
    simp only [if_pos hc]
    have q := lc_run (some (drawO zs f a)) (some (.val (.int size))) os b (List.range b) [] (fun p hp => by
      have := List.mem_range.mp hp
      omega)
    simpa using q
  have hlast : os[b - 1]? = some [] := by
    obtain ⟨cs, hcs⟩ : ∃ cs, os[b - 1]? = some cs := ⟨os[b - 1], by simp [show b - 1 < os.length by omega]⟩
    rw [hcs]
    obtain ⟨_, h2⟩ := h.each _ _ hcs
    match cs, h2 with
    | [], _ => rfl
    | c :: r, h2 =>
      have := h2 c (by simp)
      omega
  have ne : ((List.range b).filter fun p => decide ((os.getD p []).length < 2)).map (fun (j : Nat) => D.int (0 + (j : Int))) ≠ [] := by
    intro z
    have z1 := List.map_eq_nil_iff.mp z
    have : b - 1 ∈ (List.range b).filter fun p => decide ((os.getD p []).length < 2) := by
      refine List.mem_filter.mpr ⟨List.mem_range.mpr (by omega), ?_⟩
      simp [List.getD, hlast]
    rw [z1] at this
    cases this
  obtain ⟨x, hx, hp⟩ := pick zs f a (.lst (((List.range b).filter fun p => decide ((os.getD p []).length < 2)).map fun (j : Nat) => D.int (0 + (j : Int)))) _ (.inl rfl) hf ha ne
  obtain ⟨p, hp1, rfl⟩ := List.mem_map.mp hx
  obtain ⟨hp2, hp3⟩ := List.mem_filter.mp hp1
  have hpb : p < b := List.mem_range.mp hp2
  have hpl : p < os.length := by omega
  have hg : os[p]? = some os[p] := by simp [hpl]
  have h2 : os[p].length < 2 := by simpa [List.getD, hg] using hp3
  refine ⟨a + 1, os.set p (os[p] ++ [(b : Int)]), by omega, ⟨by simp [hlen], fun q cs hq => ?_, fun c c1 c2 => ?_⟩, ?_⟩
  · by_cases e : q = p
    · subst e
      rw [List.getElem?_set_self hpl] at hq
      cases hq
      obtain ⟨g1, g2⟩ := h.each q _ hg
      refine ⟨by simp; omega, fun c hc => ?_⟩
      rcases List.mem_append.mp hc with hc | hc
      · have := g2 c hc
        omega
      · have : c = (b : Int) := by simpa using hc
        omega
    · rw [List.getElem?_set_ne (Ne.symm e)] at hq
      obtain ⟨g1, g2⟩ := h.each q _ hq
      exact ⟨g1, fun c hc => by have := g2 c hc; omega⟩
  · by_cases e : c < b
    · obtain ⟨q, cs, q1, q2, q3⟩ := h.all c c1 e
      by_cases e2 : q = p
      · subst e2
        rw [hg] at q2
        cases q2
        exact ⟨q, _, q1, List.getElem?_set_self hpl, List.mem_append_left _ q3⟩
      · exact ⟨q, cs, q1, by rw [List.getElem?_set_ne (Ne.symm e2)]; exact q2, q3⟩
    · have : c = (b : Int) := by omega
      subst this
      exact ⟨p, _, by omega, List.getElem?_set_self hpl, by simp⟩
  · have ex : ixN (os.map fun cs => cs.map D.int).length (0 + (p : Int)) = some p := by simp [ixN, hpl]
    unfold drawO at hp el ⊢
    unfold outsB
    simp only [sDrop, mAppLL, List.getElem?_cons_succ, List.getElem?_cons_zero, bnd]
    have ec : mCall m_law_pick (aSl 0 (aCons (mLc (iRange1 (aCons (mVar 3) aNil)) [4] (.nm 4) tst (mVar 4)) aNil)) [some (.lst [.lst (zs.map .int), .int f, .int a]), some (.val (.int size)), some (ll os), some (.val (.int (b : Int))), none]
        = some (.ok (.val (.int (0 + (p : Int)))), [some (.lst [.lst (zs.map .int), .int f, .int (a + 1)]), some (.val (.int size)), some (ll os), some (.val (.int (b : Int))), none]) := by
      simp only [mCall, aSl, aIo, aCons, aNil, bnd, look, O.pk, List.getElem?_cons_zero, Option.bind, el, O.frz, splitIo, dsOnly, Option.map, List.map_cons, List.map_nil, List.nil_append, hp, List.length_nil, List.set_cons_zero]
    rw [ec]
    simp only [O.frz, List.getElem?_cons_succ, List.getElem?_cons_zero, ex]
    have e6 : (os.map fun cs => cs.map D.int)[p]? = some (os[p].map D.int) := by simp [hpl]
    rw [e6]
    have e7 : (os[p].map D.int).length < 100000 := by simp; omega
    simp only [if_pos e7, List.set_cons_succ, List.set_cons_zero]
    have e8 : (os.map fun cs => cs.map D.int).set p (os[p].map D.int ++ [D.int (b : Int)]) = (os.set p (os[p] ++ [(b : Int)])).map fun cs => cs.map D.int := by
      rw [List.map_set]
      simp
    rw [e8]
theorem outs_loop (zs : List Int) (f : Int) (size : Nat) (hf : 0 ≤ f) (h16 : size ≤ 16) : ∀ (n b : Nat) (a : Int) (os : List (List Int)) (x : Option O), b + n = size → 1 ≤ b → 0 ≤ a → OutsOk size b os →
    ∃ (a' : Int) (os' : List (List Int)) (y : Option O), a ≤ a' ∧ OutsOk size (size : Int) os' ∧ forLoop (.nm 3) outsB [0] ((List.range' b n).map fun (j : Nat) => D.int (j : Int)) [some (drawO zs f a), some (.val (.int size)), some (ll os), x, none]
      = some (.ok .nx, [some (drawO zs f a'), some (.val (.int size)), some (ll os'), y, none])
  | 0, b, a, os, x, hs, hb, ha, h => ⟨a, os, x, Int.le_refl a, by
      have : b = size := by omega
      rw [this] at h
      exact h, by simp [forLoop]⟩
  | n + 1, b, a, os, x, hs, hb, ha, h => by
    obtain ⟨a1, os1, ha1, h1, e1⟩ := outs_step zs f a size b os hf ha hb (by omega) h16 h
    obtain ⟨a2, os2, y, ha2, h2, e2⟩ := outs_loop zs f size hf h16 n (b + 1) a1 os1 (some (.val (.int (b : Int)))) (by omega) (by omega) (by omega) h1
    refine ⟨a2, os2, y, by omega, h2, ?_⟩
    rw [List.range'_succ, List.map_cons]
    unfold forLoop
    have eb : bindP [0] (.nm 3) (.int (b : Int)) [some (drawO zs f a), some (.val (.int size)), some (ll os), x, none] = some [some (drawO zs f a), some (.val (.int size)), some (ll os), some (.val (.int (b : Int))), none] := by
      simp [bindP, setV]
    rw [eb]
    simp only [Option.bind, e1]
    exact e2
theorem outs (zs : List Int) (f a : Int) (size : Nat) (hf : 0 ≤ f) (ha : 0 ≤ a) (h1 : 1 ≤ size) (h16 : size ≤ 16) :
    ∃ (a' : Int) (os : List (List Int)), a ≤ a' ∧ OutsOk size (size : Int) os ∧ m_law_outs [drawO zs f a, .val (.int (size : Int))] = some (.ok (ll os), [drawO zs f a', .val (.int (size : Int))]) := by
  have h0 : OutsOk size ((1 : Nat) : Int) (List.replicate size []) := ⟨by simp, fun p cs hc => by
    have := List.getElem?_eq_some_iff.mp hc
    obtain ⟨_, e⟩ := this
    simp at e
    subst e
    simp, fun c c1 c2 => by omega⟩
  obtain ⟨a', os, y, ha', hok, hl⟩ := outs_loop zs f size hf h16 (size - 1) 1 a _ none (by omega) (by omega) ha h0
  refine ⟨a', os, ha', hok, ?_⟩
  have em : m_law_outs = mFn0 2 5 (sSeq (sAsgO 2 (mLcE (iRange1 (aCons (mVar 1) aNil)) [3] (.nm 3))) (sSeq (sFor (iRange2 (aCons (mC (.int (1))) (aCons (mVar 1) aNil))) (.nm 3) outsB) (sRet (mMv 2)))) := rfl
  rw [em]
  have e1 : mLcE (iRange1 (aCons (mVar 1) aNil)) [3] (.nm 3) [some (drawO zs f a), some (.val (.int (size : Int))), none, none, none] = some (.ok (ll (List.replicate size [])), [some (drawO zs f a), some (.val (.int (size : Int))), none, none, none]) := by
    have e1 : iRange1 (aCons (mVar 1) aNil) [some (drawO zs f a), some (.val (.int (size : Int))), none, none, none] = some ((List.range size).map fun (j : Nat) => D.int (0 + (j : Int)), [some (drawO zs f a), some (.val (.int (size : Int))), none, none, none]) := by
      simp [mFn0, mFn, sSeq, sThen, sIf, sRet, sNx, sAsgV, setV, mOp2, mOpL, look, O.pk, mVar, mC, bnd, mCB, aCons, aNil, dsOf, fOr1, fLen, fIntOf, fCmp, fInt, fIntC, O.frz, fIxA, fAddA, fMulA, fOr, fIx, pinsAux, fin, O.isOwn, bMod, bMul, bDivW, bPow, mTup, mCall, splitIo, iRange1, range]
      omega
    unfold mLcE
    rw [e1]
    have hc : clean [3] [some (drawO zs f a), some (.val (.int (size : Int))), none, none, none] = true ∧ ((List.range size).map fun (j : Nat) => D.int (0 + (j : Int))).length ≤ 100000 := by
      refine ⟨by simp [clean], ?_⟩
      simp
      omega
    simp only [if_pos hc]
    rw [lcE_run]
    simp
  have e2 : iRange2 (aCons (mC (.int (1))) (aCons (mVar 1) aNil)) [some (drawO zs f a), some (.val (.int (size : Int))), some (ll (List.replicate size [])), none, none] = some ((List.range' 1 (size - 1)).map fun (j : Nat) => D.int (j : Int), [some (drawO zs f a), some (.val (.int (size : Int))), some (ll (List.replicate size [])), none, none]) := by
    have e3 : ((size : Int) - 1).toNat = size - 1 := by omega
    have e4 : (List.range (size - 1)).map (fun (i : Nat) => D.int (1 + (i : Int))) = (List.range' 1 (size - 1)).map fun (j : Nat) => D.int (j : Int) := by
      rw [List.range'_eq_map_range]
      simp
    simp [mFn0, mFn, sSeq, sThen, sIf, sRet, sNx, sAsgV, setV, mOp2, mOpL, look, O.pk, mVar, mC, bnd, mCB, aCons, aNil, dsOf, fOr1, fLen, fIntOf, fCmp, fInt, fIntC, O.frz, fIxA, fAddA, fMulA, fOr, fIx, pinsAux, fin, O.isOwn, bMod, bMul, bDivW, bPow, mTup, mCall, splitIo, iRange2, range, e3, e4]
    omega
  unfold drawO at *
  simp only [mFn0, mFn, sSeq, sThen, sAsgO, sFor, sRet, mMv, bnd, List.length_cons, List.length_nil, List.map_cons, List.map_nil, List.cons_append, List.nil_append, pinsAux, O.isOwn, setV, e1]
  simp [e1, e2, hl, fin, O.isOwn]
end VM

end
section
open PySem PySem.Spec VL L2
namespace VM
open VG
def rowsM : M := mCall m_law_row (aSl 0 (aCons (mVar 3) (aCons (mVar 4) aNil)))
abbrev ρP (zs : List Int) (f a m w : Int) (s1 s2 s5 s6 s7 s8 s9 : Option O) : Rho := [some (drawO zs f a), s1, s2, some (.val (.int m)), some (.val (.int w)), s5, s6, s7, s8, s9, none]
theorem rows_run (zs : List Int) (f m w : Int) (s1 s2 s5 s6 s7 s8 s9 : Option O) (hf : 0 ≤ f) (hm : 0 < m) (hw : 0 < w) : ∀ (l : List Nat) (a : Int) (acc : List D), 0 ≤ a →
    ∃ (a' : Int) (rs : List D), a ≤ a' ∧ rs.length = l.length ∧ (∀ r ∈ rs, RowOk m w r) ∧
      lcLoop [10] (.nm 10) mYes rowsM (l.map fun (j : Nat) => D.int (0 + (j : Int))) (ρP zs f a m w s1 s2 s5 s6 s7 s8 s9) acc = some (.ok (.lst (acc ++ rs)), ρP zs f a' m w s1 s2 s5 s6 s7 s8 s9)
  | [], a, acc, ha => ⟨a, [], Int.le_refl a, rfl, by simp, by simp [lcLoop]⟩
  | p :: l, a, acc, ha => by
    obtain ⟨d, a1, hd, ha1, h1⟩ := row zs f a m w hf ha hm hw
    obtain ⟨a2, rs, ha2, hl, hr, h2⟩ := rows_run zs f m w s1 s2 s5 s6 s7 s8 s9 hf hm hw l a1 (acc ++ [d]) (by omega)
    refine ⟨a2, d :: rs, by omega, by simp [hl], fun r hr' => ?_, ?_⟩
    · rcases List.mem_cons.mp hr' with rfl | hr'
      · exact hd
      · exact hr r hr'
    · rw [List.map_cons]
      unfold lcLoop
      have eb : bindP [] (.nm 10) (.int (0 + (p : Int))) (ρP zs f a m w s1 s2 s5 s6 s7 s8 s9) = some [some (drawO zs f a), s1, s2, some (.val (.int m)), some (.val (.int w)), s5, s6, s7, s8, s9, some (.val (.int (0 + (p : Int))))] := by
        simp [bindP, setV]
      have er : rowsM [some (drawO zs f a), s1, s2, some (.val (.int m)), some (.val (.int w)), s5, s6, s7, s8, s9, some (.val (.int (0 + (p : Int))))]
          = some (.ok (.val d), [some (drawO zs f a1), s1, s2, some (.val (.int m)), some (.val (.int w)), s5, s6, s7, s8, s9, some (.val (.int (0 + (p : Int))))]) := by
        unfold drawO at h1 ⊢
        unfold rowsM
        simp [mFn0, mFn, sSeq, sThen, sIf, sRet, sNx, sAsgV, setV, mOp2, mOpL, look, O.pk, mVar, mC, bnd, mCB, aCons, aNil, dsOf, fOr1, fLen, fIntOf, fCmp, fInt, fIntC, O.frz, fIxA, fAddA, fMulA, fOr, fIx, pinsAux, fin, O.isOwn, bMod, bMul, bDivW, bPow, mTup, mCall, splitIo, aSl, aIo, dsOnly, h1]
      have ey : ∀ ρ : Rho, mYes ρ = some (.ok (.val (.bl true)), ρ) := fun _ => rfl
      rw [eb]
      simp only [ey, O.frz, er, wipeR, List.set_cons_succ, List.set_cons_zero]
      exact h2.trans (by simp)
def lld (os : List (List Int)) : List D := (os.map fun cs => cs.map D.int).map D.lst
def BlockOk (m w size : Int) (os : List (List Int)) (b : Nat) (d : D) : Prop := ∃ (rows : List D) (e : D) (cs : List Int), d = .tup [.tup rows, e] ∧ rows.length ≤ 3 ∧ (∀ r ∈ rows, RowOk m w r) ∧ os[b]? = some cs ∧ EndOk m size cs e
def plainB : MS := (sSeq (sAsgV 9 (mLc (iRange1 (aCons (mCall m_law_next (aSl 0 (aCons (mOp2 fAddA (mVar 2) (mC (.int (1)))) aNil))) aNil)) [10] (.nm 10) mYes rowsM)) (sDrop (mApp 7 (mTup (aCons (mCB fTuple (aCons (mVar 9) aNil)) (aCons (mCall m_law_end (aSl 0 (aCons (mVar 3) (aCons (mVar 5) (aCons (mOp2 fIxA (mVar 6) (mVar 8)) aNil))))) aNil))))))
theorem plain_step (zs : List Int) (f a m w : Int) (size b : Nat) (os : List (List Int)) (bs : List D) (s1 s9 : Option O) (hf : 0 ≤ f) (ha : 0 ≤ a) (hm : 0 < m) (hw : 0 < w) (hs : 1 ≤ size) (hb : b < size) (h16 : size ≤ 16) (h : OutsOk size (size : Int) os) (hbs : bs.length = b) :
    ∃ (a' : Int) (d : D) (s9' : Option O), a ≤ a' ∧ BlockOk m w size os b d ∧
      plainB [0] (ρP zs f a m w s1 (some (.val (.int 3))) (some (.val (.int (size : Int)))) (some (.val (.lst (lld os)))) (some (.lst bs)) (some (.val (.int (b : Int)))) s9)
        = some (.ok .nx, ρP zs f a' m w s1 (some (.val (.int 3))) (some (.val (.int (size : Int)))) (some (.val (.lst (lld os)))) (some (.lst (bs ++ [d]))) (some (.val (.int (b : Int)))) s9') := by
  obtain ⟨n, ⟨n0, n1⟩, h1⟩ := next zs f a 4 hf ha (by decide)
  obtain ⟨a2, rs, ha2, hl, hr, h2⟩ := rows_run zs f m w s1 (some (.val (.int 3))) (some (.val (.int (size : Int)))) (some (.val (.lst (lld os)))) (some (.lst bs)) (some (.val (.int (b : Int)))) s9 hf hm hw (List.range n.toNat) (a + 1) [] (by omega)
  have hbl : b < os.length := by have := h.len; omega
  have hg : os[b]? = some os[b] := by simp [hbl]
  obtain ⟨g1, g2⟩ := h.each b _ hg
  obtain ⟨e, a3, he, ha3, h3⟩ := end_ zs f a2 m size os[b] hf (by omega) hm (by omega) (fun c hc => by have := g2 c hc; omega) g1
  have hrl : rs.length ≤ 3 := by rw [hl]; simp; omega
  refine ⟨a3, .tup [.tup rs, e], some (.val (.lst rs)), by omega, ⟨rs, e, os[b], rfl, hrl, hr, hg, he⟩, ?_⟩
  have e1 : mLc (iRange1 (aCons (mCall m_law_next (aSl 0 (aCons (mOp2 fAddA (mVar 2) (mC (.int (1)))) aNil))) aNil)) [10] (.nm 10) mYes rowsM (ρP zs f a m w s1 (some (.val (.int 3))) (some (.val (.int (size : Int)))) (some (.val (.lst (lld os)))) (some (.lst bs)) (some (.val (.int (b : Int)))) s9)
      = some (.ok (.lst rs), ρP zs f a2 m w s1 (some (.val (.int 3))) (some (.val (.int (size : Int)))) (some (.val (.lst (lld os)))) (some (.lst bs)) (some (.val (.int (b : Int)))) s9) := by
    have e0 : iRange1 (aCons (mCall m_law_next (aSl 0 (aCons (mOp2 fAddA (mVar 2) (mC (.int (1)))) aNil))) aNil) (ρP zs f a m w s1 (some (.val (.int 3))) (some (.val (.int (size : Int)))) (some (.val (.lst (lld os)))) (some (.lst bs)) (some (.val (.int (b : Int)))) s9)
        = some ((List.range n.toNat).map fun (j : Nat) => D.int (0 + (j : Int)), ρP zs f (a + 1) m w s1 (some (.val (.int 3))) (some (.val (.int (size : Int)))) (some (.val (.lst (lld os)))) (some (.lst bs)) (some (.val (.int (b : Int)))) s9) := by
      unfold drawO at h1
      unfold ρP drawO
      simp [mFn0, mFn, sSeq, sThen, sIf, sRet, sNx, sAsgV, setV, mOp2, mOpL, look, O.pk, mVar, mC, bnd, mCB, aCons, aNil, dsOf, fOr1, fLen, fIntOf, fCmp, fInt, fIntC, O.frz, fIxA, fAddA, fMulA, fOr, fIx, pinsAux, fin, O.isOwn, bMod, bMul, bDivW, bPow, mTup, mCall, splitIo, iRange1, range, aSl, aIo, dsOnly, h1]
      omega
    unfold mLc
    rw [e0]
    have hc : clean [10] (ρP zs f (a + 1) m w s1 (some (.val (.int 3))) (some (.val (.int (size : Int)))) (some (.val (.lst (lld os)))) (some (.lst bs)) (some (.val (.int (b : Int)))) s9) = true ∧ ((List.range n.toNat).map fun (j : Nat) => D.int (0 + (j : Int))).length ≤ 100000 := by
      refine ⟨by simp [clean], ?_⟩
      simp
      omega
    simp only [if_pos hc]
    simpa using h2
  have eix : atI (lld os) (b : Int) = some (.lst (os[b].map D.int)) := by simp [lld, atI, ixN, hbl]
  have hbl2 : bs.length < 100000 := by omega
  unfold plainB
  simp only [sSeq, sThen, sAsgV, bnd, e1, O.frz, setV]
  unfold ρP drawO at *
  simp [sDrop, mApp, bnd, mTup, aCons, aNil, mCB, mVar, dsOf, fTuple, mCall, aSl, aIo, look, O.pk, O.frz, mOp2, fIxA, fOr, fIx, splitIo, dsOnly, eix, h3, hbl2]
theorem plain_loop (zs : List Int) (f m w : Int) (size : Nat) (os : List (List Int)) (s1 : Option O) (hf : 0 ≤ f) (hm : 0 < m) (hw : 0 < w) (hs : 1 ≤ size) (h16 : size ≤ 16) (h : OutsOk size (size : Int) os) : ∀ (n b : Nat) (a : Int) (bs : List D) (s8 s9 : Option O), b + n = size → 0 ≤ a → bs.length = b → (∀ q d, bs[q]? = some d → BlockOk m w size os q d) →
    ∃ (a' : Int) (bs' : List D) (s8' s9' : Option O), a ≤ a' ∧ bs'.length = size ∧ (∀ q d, bs'[q]? = some d → BlockOk m w size os q d) ∧
      forLoop (.nm 8) plainB [0] ((List.range' b n).map fun (j : Nat) => D.int (j : Int)) (ρP zs f a m w s1 (some (.val (.int 3))) (some (.val (.int (size : Int)))) (some (.val (.lst (lld os)))) (some (.lst bs)) s8 s9)
        = some (.ok .nx, ρP zs f a' m w s1 (some (.val (.int 3))) (some (.val (.int (size : Int)))) (some (.val (.lst (lld os)))) (some (.lst bs')) s8' s9')
  | 0, b, a, bs, s8, s9, hn, ha, hl, hk => ⟨a, bs, s8, s9, Int.le_refl a, by omega, hk, by simp [forLoop]⟩
  | n + 1, b, a, bs, s8, s9, hn, ha, hl, hk => by
    obtain ⟨a1, d, s9', ha1, hd, h1⟩ := plain_step zs f a m w size b os bs s1 s9 hf ha hm hw hs (by omega) h16 h hl
    obtain ⟨a2, bs2, t8, t9, ha2, hl2, hk2, h2⟩ := plain_loop zs f m w size os s1 hf hm hw hs h16 h n (b + 1) a1 (bs ++ [d]) (some (.val (.int (b : Int)))) s9' (by omega) (by omega) (by simp [hl]) (fun q e he => by
      by_cases z : q < bs.length
      · rw [List.getElem?_append_left z] at he
        exact hk q e he
      · rw [List.getElem?_append_right (by omega)] at he
        have z1 : q - bs.length < [d].length := (List.getElem?_eq_some_iff.mp he).1
        have z2 : q = b := by
          simp at z1
          omega
        subst z2
        rw [hl, Nat.sub_self] at he
        cases he
        exact hd)
    refine ⟨a2, bs2, t8, t9, by omega, hl2, hk2, ?_⟩
    rw [List.range'_succ, List.map_cons]
    unfold forLoop
    have eb : bindP [0] (.nm 8) (.int (b : Int)) (ρP zs f a m w s1 (some (.val (.int 3))) (some (.val (.int (size : Int)))) (some (.val (.lst (lld os)))) (some (.lst bs)) s8 s9)
        = some (ρP zs f a m w s1 (some (.val (.int 3))) (some (.val (.int (size : Int)))) (some (.val (.lst (lld os)))) (some (.lst bs)) (some (.val (.int (b : Int)))) s9) := by
      simp [bindP, setV]
    rw [eb]
    simp only [Option.bind, h1]
    exact h2
def PlainOk (d : D) : Prop := ∃ (m w h : Int) (size : Nat) (os : List (List Int)) (bs : List D), d = .tup [.int m, .tup bs, .int h, .int w] ∧ (1 ≤ m ∧ m ≤ 3) ∧ (2 ≤ w ∧ w ≤ 4) ∧ (1 ≤ size ∧ size ≤ 7) ∧ (0 ≤ h ∧ h ≤ 2 ∧ h ≤ m) ∧ bs.length = size ∧ OutsOk size (size : Int) os ∧ ∀ q d, bs[q]? = some d → BlockOk m w size os q d
theorem plain (zs : List Int) (f a : Int) (hf : 0 ≤ f) (ha : 0 ≤ a) :
    ∃ (a' : Int) (d : D), a ≤ a' ∧ PlainOk d ∧ m_law_plain [drawO zs f a, .val (.int 7), .val (.int 3)] = some (.ok (.val d), [drawO zs f a', .val (.int 7), .val (.int 3)]) := by
  obtain ⟨x, hx, h1⟩ := next zs f a 3 hf ha (by decide)
  obtain ⟨y, hy, h2⟩ := next zs f (a + 1) 3 hf (by omega) (by decide)
  obtain ⟨z, hz, h3⟩ := next zs f (a + 1 + 1) 7 hf (by omega) (by decide)
  obtain ⟨size, hsz⟩ : ∃ size : Nat, (size : Int) = 1 + z := ⟨(1 + z).toNat, by omega⟩
  obtain ⟨a4, os, ha4, hos, h4⟩ := outs zs f (a + 1 + 1 + 1) size hf (by omega) (by omega) (by omega)
  obtain ⟨a5, bs, t8, t9, ha5, hl5, hk5, h5⟩ := plain_loop zs f (1 + x) (2 + y) size os (some (.val (.int 7))) hf (by omega) (by omega) (by omega) (by omega) hos size 0 a4 [] none none (by omega) (by omega) rfl (fun q d hq => by simp at hq)
  obtain ⟨h, ⟨hh0, hh1⟩, h6⟩ := next zs f a5 ((if 2 < 1 + x then 2 else 1 + x) + 1) hf (by omega) (by split <;> omega)
  refine ⟨a5 + 1, .tup [.int (1 + x), .tup bs, .int h, .int (2 + y)], by omega, ⟨1 + x, 2 + y, h, size, os, bs, rfl, by omega, by omega, by omega, ⟨hh0, by split at hh1 <;> omega, by split at hh1 <;> omega⟩, hl5, hos, hk5⟩, ?_⟩
  have em : m_law_plain = mFn0 3 11 (sSeq (sAsgP (.tu ((.nm 3) :: (.nm 4) :: (.nm 5) :: [])) (mTup (aCons (mOp2 fAddA (mC (.int (1))) (mCall m_law_next (aSl 0 (aCons (mC (.int (3))) aNil)))) (aCons (mOp2 fAddA (mC (.int (2))) (mCall m_law_next (aSl 0 (aCons (mC (.int (3))) aNil)))) (aCons (mOp2 fAddA (mC (.int (1))) (mCall m_law_next (aSl 0 (aCons (mVar 1) aNil)))) aNil))))) (sSeq (sParO 6 7 (mCall m_law_outs (aSl 0 (aCons (mVar 5) aNil))) (mLst aNil)) (sSeq (sFor (iRange1 (aCons (mVar 5) aNil)) (.nm 8) plainB) (sRet (mTup (aCons (mVar 3) (aCons (mCB fTuple (aSl 7 aNil)) (aCons (mCall m_law_next (aSl 0 (aCons (mOp2 fAddA (mCB fMin2 (aCons (mVar 3) (aCons (mC (.int (2))) aNil))) (mC (.int (1)))) aNil))) (aCons (mVar 4) aNil))))))))) := rfl
  rw [em]
  have er : (List.range size).map (fun (i : Nat) => D.int (0 + (i : Int))) = (List.range' 0 size).map fun (j : Nat) => D.int (j : Int) := by
    rw [List.range_eq_range']
    simp
  have e5 : sFor (iRange1 (aCons (mVar 5) aNil)) (.nm 8) plainB [0] (ρP zs f a4 (1 + x) (2 + y) (some (.val (.int 7))) (some (.val (.int 3))) (some (.val (.int (size : Int)))) (some (.val (.lst (lld os)))) (some (.lst [])) none none)
      = some (.ok .nx, ρP zs f a5 (1 + x) (2 + y) (some (.val (.int 7))) (some (.val (.int 3))) (some (.val (.int (size : Int)))) (some (.val (.lst (lld os)))) (some (.lst bs)) t8 t9) := by
    have ei : iRange1 (aCons (mVar 5) aNil) (ρP zs f a4 (1 + x) (2 + y) (some (.val (.int 7))) (some (.val (.int 3))) (some (.val (.int (size : Int)))) (some (.val (.lst (lld os)))) (some (.lst [])) none none)
        = some ((List.range' 0 size).map fun (j : Nat) => D.int (j : Int), ρP zs f a4 (1 + x) (2 + y) (some (.val (.int 7))) (some (.val (.int 3))) (some (.val (.int (size : Int)))) (some (.val (.lst (lld os)))) (some (.lst [])) none none) := by
      unfold ρP
      rw [← er]
      simp [mFn0, mFn, sSeq, sThen, sIf, sRet, sNx, sAsgV, setV, mOp2, mOpL, look, O.pk, mVar, mC, bnd, mCB, aCons, aNil, dsOf, fOr1, fLen, fIntOf, fCmp, fInt, fIntC, O.frz, fIxA, fAddA, fMulA, fOr, fIx, pinsAux, fin, O.isOwn, bMod, bMul, bDivW, bPow, mTup, mCall, splitIo, iRange1, range]
      omega
    unfold sFor
    rw [ei]
    exact h5
  have e6 : sParO 6 7 (mCall m_law_outs (aSl 0 (aCons (mVar 5) aNil))) (mLst aNil) [0] [some (drawO zs f (a + 1 + 1 + 1)), some (.val (.int 7)), some (.val (.int 3)), some (.val (.int (1 + x))), some (.val (.int (2 + y))), some (.val (.int (size : Int))), none, none, none, none, none]
      = some (.ok .nx, ρP zs f a4 (1 + x) (2 + y) (some (.val (.int 7))) (some (.val (.int 3))) (some (.val (.int (size : Int)))) (some (.val (.lst (lld os)))) (some (.lst [])) none none) := by
    unfold drawO at h4
    unfold ρP drawO lld
    simp [mFn0, mFn, sSeq, sThen, sIf, sRet, sNx, sAsgV, setV, mOp2, mOpL, look, O.pk, mVar, mC, bnd, mCB, aCons, aNil, dsOf, fOr1, fLen, fIntOf, fCmp, fInt, fIntC, O.frz, fIxA, fAddA, fMulA, fOr, fIx, pinsAux, fin, O.isOwn, bMod, bMul, bDivW, bPow, mTup, mCall, splitIo, sParO, aSl, aIo, dsOnly, mLst, h4]
  unfold drawO at h1 h2 h3 h6
  unfold ρP drawO at e5 e6
  unfold drawO
  have hh : ∀ (hm : Int), hm = (if 2 < 1 + x then 2 else 1 + x) + 1 → m_law_next [O.lst [D.lst (zs.map .int), D.int f, D.int a5], .val (.int hm)] = some (.ok (.val (.int h)), [O.lst [D.lst (zs.map .int), D.int f, D.int (a5 + 1)], .val (.int hm)]) := fun hm e => by rw [e]; exact h6
  simp only [hsz] at e5 e6
  simp [mFn0, mFn, sSeq, sThen, sIf, sRet, sNx, sAsgV, setV, mOp2, mOpL, look, O.pk, mVar, mC, bnd, mCB, aCons, aNil, dsOf, fOr1, fLen, fIntOf, fCmp, fInt, fIntC, O.frz, fIxA, fAddA, fMulA, fOr, fIx, pinsAux, fin, O.isOwn, bMod, bMul, bDivW, bPow, mTup, mCall, splitIo, sAsgP, bindP, bindPs, aSl, aIo, dsOnly, h1, h2, h3, e5, e6, fTuple, fMin2]
  simp [h6, dsOf]
end VM

end
section
open PySem PySem.Spec VL L2
namespace VM
open VG
theorem whole_int (n : Int) : m_is_whole [.val (.int n)] = some (.ok (.val (.bl true)), [.val (.int n)]) := by kernel_rfl
theorem isint (n lo hi : Int) : m_is_integer [.val (.int n), .val (.int lo), .val (.int hi)] = some (.ok (.val (.bl (decide (lo ≤ n) && decide (n < hi)))), [.val (.int n), .val (.int lo), .val (.int hi)]) := by
  by_cases h : lo ≤ n
  · simp [mFn0, mFn, sSeq, sThen, sIf, sRet, sNx, sAsgV, setV, mOp2, mOpL, look, O.pk, mVar, mC, bnd, mCB, aCons, aNil, dsOf, fOr1, fLen, fIntOf, fCmp, fInt, fIntC, O.frz, fIxA, fAddA, fMulA, fOr, fIx, pinsAux, fin, O.isOwn, bMod, bMul, bDivW, bPow, mTup, mCall, splitIo, m_is_integer, mAnd, mChain, whole_int, h]
  · simp [mFn0, mFn, sSeq, sThen, sIf, sRet, sNx, sAsgV, setV, mOp2, mOpL, look, O.pk, mVar, mC, bnd, mCB, aCons, aNil, dsOf, fOr1, fLen, fIntOf, fCmp, fInt, fIntC, O.frz, fIxA, fAddA, fMulA, fOr, fIx, pinsAux, fin, O.isOwn, bMod, bMul, bDivW, bPow, mTup, mCall, splitIo, m_is_integer, mAnd, mChain, whole_int, h]
theorem eqvv : fEq (.str "v") (.str "v") = some (.val (.bl true)) := by kernel_rfl
theorem eqnv : fEq (.str "n") (.str "v") = some (.val (.bl false)) := by kernel_rfl
theorem eqnn : fEq (.str "n") (.str "n") = some (.val (.bl true)) := by kernel_rfl
theorem eqbv : fEq (.str "b") (.str "v") = some (.val (.bl false)) := by kernel_rfl
theorem eqbn : fEq (.str "b") (.str "n") = some (.val (.bl false)) := by kernel_rfl
theorem stand_v (n m w c : Int) : m_may_stand [.val (.int n), .val (.str "v"), .val (.int m), .val (.int w), .val (.int c)] = some (.ok (.val (.bl (decide (0 ≤ n) && decide (n < m)))), [.val (.int n), .val (.str "v"), .val (.int m), .val (.int w), .val (.int c)]) := by
  simp [mFn0, mFn, sSeq, sThen, sIf, sRet, sNx, sAsgV, setV, mOp2, mOpL, look, O.pk, mVar, mC, bnd, mCB, aCons, aNil, dsOf, fOr1, fLen, fIntOf, fCmp, fInt, fIntC, O.frz, fIxA, fAddA, fMulA, fOr, fIx, pinsAux, fin, O.isOwn, bMod, bMul, bDivW, bPow, mTup, mCall, splitIo, m_may_stand, eqvv, isint]
theorem stand_n (n m w c : Int) : m_may_stand [.val (.int n), .val (.str "n"), .val (.int m), .val (.int w), .val (.int c)] = some (.ok (.val (.bl (decide (0 ≤ n) && decide (n < w)))), [.val (.int n), .val (.str "n"), .val (.int m), .val (.int w), .val (.int c)]) := by
  simp [mFn0, mFn, sSeq, sThen, sIf, sRet, sNx, sAsgV, setV, mOp2, mOpL, look, O.pk, mVar, mC, bnd, mCB, aCons, aNil, dsOf, fOr1, fLen, fIntOf, fCmp, fInt, fIntC, O.frz, fIxA, fAddA, fMulA, fOr, fIx, pinsAux, fin, O.isOwn, bMod, bMul, bDivW, bPow, mTup, mCall, splitIo, m_may_stand, eqnv, eqnn, isint]
theorem stand_b (n m w c : Int) : m_may_stand [.val (.int n), .val (.str "b"), .val (.int m), .val (.int w), .val (.int c)] = some (.ok (.val (.bl (decide (1 ≤ n) && decide (n < c)))), [.val (.int n), .val (.str "b"), .val (.int m), .val (.int w), .val (.int c)]) := by
  simp [mFn0, mFn, sSeq, sThen, sIf, sRet, sNx, sAsgV, setV, mOp2, mOpL, look, O.pk, mVar, mC, bnd, mCB, aCons, aNil, dsOf, fOr1, fLen, fIntOf, fCmp, fInt, fIntC, O.frz, fIxA, fAddA, fMulA, fOr, fIx, pinsAux, fin, O.isOwn, bMod, bMul, bDivW, bPow, mTup, mCall, splitIo, m_may_stand, eqbv, eqbn, isint]
theorem ne_int (x y : Int) : fNe (.int x) (.int y) = some (.val (.bl (!decide (x = y)))) := by
  simp [fNe, toPy, SeqAt.shaped, PyData.eqv, lay_int, dep_int]
  by_cases h : x = y <;> simp [h]
theorem sg_e : dsigns "" = [] := by kernel_rfl
theorem ln_e : fOr1 fLen fLenD [.str ""] = some (.val (.int 0)) := by kernel_rfl
theorem fills_e (m w c' : Int)  : m_fills [.val (.tup []), .val (.str ""), .val (.int m), .val (.int w), .val (.int c')] = some (.ok (.val (.bl true)), [.val (.tup []), .val (.str ""), .val (.int m), .val (.int w), .val (.int c')]) := by
  have l0 : (fOr1 fLen fLenD [.tup []]) = some (.val (.int 0)) := by rfl
  simp [m_fills, mFn0, mFn, sSeq, sThen, sIf, sRet, sNx, mOp2, mVar, mC, bnd, mCB, aCons, aNil, dsOf, O.frz, l0, ln_e, ne_int, pinsAux, fin, O.isOwn, mLc, VL.iZip, seqD, sg_e, zipD, clean, lcLoop, bindP, bindPs, setV, mYes, mCall, splitIo, stand_v, stand_n, stand_b, wipeR, fAll, bools]
theorem sg_v : dsigns "v" = [.str "v"] := by kernel_rfl
theorem ln_v : fOr1 fLen fLenD [.str "v"] = some (.val (.int 1)) := by kernel_rfl
theorem fills_v (a m w c' : Int) (ha : 0 ≤ a ∧ a < m) : m_fills [.val (.tup [.int a]), .val (.str "v"), .val (.int m), .val (.int w), .val (.int c')] = some (.ok (.val (.bl true)), [.val (.tup [.int a]), .val (.str "v"), .val (.int m), .val (.int w), .val (.int c')]) := by
  have l0 : (fOr1 fLen fLenD [.tup [.int a]]) = some (.val (.int 1)) := by rfl
  simp [m_fills, mFn0, mFn, sSeq, sThen, sIf, sRet, sNx, mOp2, mVar, mC, bnd, mCB, aCons, aNil, dsOf, O.frz, l0, ln_v, ne_int, pinsAux, fin, O.isOwn, mLc, VL.iZip, seqD, sg_v, zipD, clean, lcLoop, bindP, bindPs, setV, mYes, mCall, splitIo, stand_v, stand_n, stand_b, wipeR, fAll, bools, ha.1, ha.2]
theorem sg_vn : dsigns "vn" = [.str "v", .str "n"] := by kernel_rfl
theorem ln_vn : fOr1 fLen fLenD [.str "vn"] = some (.val (.int 2)) := by kernel_rfl
theorem fills_vn (a b m w c' : Int) (ha : 0 ≤ a ∧ a < m) (hb : 0 ≤ b ∧ b < w) : m_fills [.val (.tup [.int a, .int b]), .val (.str "vn"), .val (.int m), .val (.int w), .val (.int c')] = some (.ok (.val (.bl true)), [.val (.tup [.int a, .int b]), .val (.str "vn"), .val (.int m), .val (.int w), .val (.int c')]) := by
  have l0 : (fOr1 fLen fLenD [.tup [.int a, .int b]]) = some (.val (.int 2)) := by rfl
  simp [m_fills, mFn0, mFn, sSeq, sThen, sIf, sRet, sNx, mOp2, mVar, mC, bnd, mCB, aCons, aNil, dsOf, O.frz, l0, ln_vn, ne_int, pinsAux, fin, O.isOwn, mLc, VL.iZip, seqD, sg_vn, zipD, clean, lcLoop, bindP, bindPs, setV, mYes, mCall, splitIo, stand_v, stand_n, stand_b, wipeR, fAll, bools, ha.1, ha.2, hb.1, hb.2]
theorem sg_vv : dsigns "vv" = [.str "v", .str "v"] := by kernel_rfl
theorem ln_vv : fOr1 fLen fLenD [.str "vv"] = some (.val (.int 2)) := by kernel_rfl
theorem fills_vv (a b m w c' : Int) (ha : 0 ≤ a ∧ a < m) (hb : 0 ≤ b ∧ b < m) : m_fills [.val (.tup [.int a, .int b]), .val (.str "vv"), .val (.int m), .val (.int w), .val (.int c')] = some (.ok (.val (.bl true)), [.val (.tup [.int a, .int b]), .val (.str "vv"), .val (.int m), .val (.int w), .val (.int c')]) := by
  have l0 : (fOr1 fLen fLenD [.tup [.int a, .int b]]) = some (.val (.int 2)) := by rfl
  simp [m_fills, mFn0, mFn, sSeq, sThen, sIf, sRet, sNx, mOp2, mVar, mC, bnd, mCB, aCons, aNil, dsOf, O.frz, l0, ln_vv, ne_int, pinsAux, fin, O.isOwn, mLc, VL.iZip, seqD, sg_vv, zipD, clean, lcLoop, bindP, bindPs, setV, mYes, mCall, splitIo, stand_v, stand_n, stand_b, wipeR, fAll, bools, ha.1, ha.2, hb.1, hb.2]
theorem sg_vvv : dsigns "vvv" = [.str "v", .str "v", .str "v"] := by kernel_rfl
theorem ln_vvv : fOr1 fLen fLenD [.str "vvv"] = some (.val (.int 3)) := by kernel_rfl
theorem fills_vvv (a b c m w c' : Int) (ha : 0 ≤ a ∧ a < m) (hb : 0 ≤ b ∧ b < m) (hc : 0 ≤ c ∧ c < m) : m_fills [.val (.tup [.int a, .int b, .int c]), .val (.str "vvv"), .val (.int m), .val (.int w), .val (.int c')] = some (.ok (.val (.bl true)), [.val (.tup [.int a, .int b, .int c]), .val (.str "vvv"), .val (.int m), .val (.int w), .val (.int c')]) := by
  have l0 : (fOr1 fLen fLenD [.tup [.int a, .int b, .int c]]) = some (.val (.int 3)) := by rfl
  simp [m_fills, mFn0, mFn, sSeq, sThen, sIf, sRet, sNx, mOp2, mVar, mC, bnd, mCB, aCons, aNil, dsOf, O.frz, l0, ln_vvv, ne_int, pinsAux, fin, O.isOwn, mLc, VL.iZip, seqD, sg_vvv, zipD, clean, lcLoop, bindP, bindPs, setV, mYes, mCall, splitIo, stand_v, stand_n, stand_b, wipeR, fAll, bools, ha.1, ha.2, hb.1, hb.2, hc.1, hc.2]
theorem sg_b : dsigns "b" = [.str "b"] := by kernel_rfl
theorem ln_b : fOr1 fLen fLenD [.str "b"] = some (.val (.int 1)) := by kernel_rfl
theorem fills_b (a m w c' : Int) (ha : 1 ≤ a ∧ a < c') : m_fills [.val (.tup [.int a]), .val (.str "b"), .val (.int m), .val (.int w), .val (.int c')] = some (.ok (.val (.bl true)), [.val (.tup [.int a]), .val (.str "b"), .val (.int m), .val (.int w), .val (.int c')]) := by
  have l0 : (fOr1 fLen fLenD [.tup [.int a]]) = some (.val (.int 1)) := by rfl
  simp [m_fills, mFn0, mFn, sSeq, sThen, sIf, sRet, sNx, mOp2, mVar, mC, bnd, mCB, aCons, aNil, dsOf, O.frz, l0, ln_b, ne_int, pinsAux, fin, O.isOwn, mLc, VL.iZip, seqD, sg_b, zipD, clean, lcLoop, bindP, bindPs, setV, mYes, mCall, splitIo, stand_v, stand_n, stand_b, wipeR, fAll, bools, ha.1, ha.2]
theorem sg_vbb : dsigns "vbb" = [.str "v", .str "b", .str "b"] := by kernel_rfl
theorem ln_vbb : fOr1 fLen fLenD [.str "vbb"] = some (.val (.int 3)) := by kernel_rfl
theorem fills_vbb (a b c m w c' : Int) (ha : 0 ≤ a ∧ a < m) (hb : 1 ≤ b ∧ b < c') (hc : 1 ≤ c ∧ c < c') : m_fills [.val (.tup [.int a, .int b, .int c]), .val (.str "vbb"), .val (.int m), .val (.int w), .val (.int c')] = some (.ok (.val (.bl true)), [.val (.tup [.int a, .int b, .int c]), .val (.str "vbb"), .val (.int m), .val (.int w), .val (.int c')]) := by
  have l0 : (fOr1 fLen fLenD [.tup [.int a, .int b, .int c]]) = some (.val (.int 3)) := by rfl
  simp [m_fills, mFn0, mFn, sSeq, sThen, sIf, sRet, sNx, mOp2, mVar, mC, bnd, mCB, aCons, aNil, dsOf, O.frz, l0, ln_vbb, ne_int, pinsAux, fin, O.isOwn, mLc, VL.iZip, seqD, sg_vbb, zipD, clean, lcLoop, bindP, bindPs, setV, mYes, mCall, splitIo, stand_v, stand_n, stand_b, wipeR, fAll, bools, ha.1, ha.2, hb.1, hb.2, hc.1, hc.2]
end VM

end
section
open PySem PySem.Spec VL L2
namespace VM
open VG
theorem row_put (a b : Int) (m w : Int) (ha : 0 ≤ a ∧ a < m) (hb : 0 ≤ b ∧ b < w) : m_is_row [.val (.tup [.str "put", .int a, .int b]), .val (.int m), .val (.int w)] = some (.ok (.val (.bl true)), [.val (.tup [.str "put", .int a, .int b]), .val (.int m), .val (.int w)]) := by
  have e1 : m_has_word [.val (.tup [.str "put", .int a, .int b])] = some (.ok (.val (.bl true)), [.val (.tup [.str "put", .int a, .int b])]) := by kernel_rfl
  have e2 : fTabIn tab_ROWS (.str "put") = some (.val (.bl true)) := by kernel_rfl
  have e3 : fTabGet tab_ROWS (.str "put") = some (.val (.str "vn")) := by kernel_rfl
  have e4 : fSl (.tup [.str "put", .int a, .int b]) (some 1) none = some (.val (.tup [.int a, .int b])) := by kernel_rfl
  have e5 : fIxA (.tup [.str "put", .int a, .int b]) (.int 0) = some (.val (.str "put")) := by kernel_rfl
  have e6 := fills_vn a b m w 1 ha hb
  simp [m_is_row, mFn0, mFn, sRet, mAnd, mCall, aCons, aNil, mVar, mC, bnd, splitIo, O.frz, mUn, mOp2, e5, e2, e3, mSl, oPart, oNone, e4, e6, e1, pinsAux, fin, O.isOwn]
theorem row_move (a b : Int) (m w : Int) (ha : 0 ≤ a ∧ a < m) (hb : 0 ≤ b ∧ b < m) : m_is_row [.val (.tup [.str "move", .int a, .int b]), .val (.int m), .val (.int w)] = some (.ok (.val (.bl true)), [.val (.tup [.str "move", .int a, .int b]), .val (.int m), .val (.int w)]) := by
  have e1 : m_has_word [.val (.tup [.str "move", .int a, .int b])] = some (.ok (.val (.bl true)), [.val (.tup [.str "move", .int a, .int b])]) := by kernel_rfl
  have e2 : fTabIn tab_ROWS (.str "move") = some (.val (.bl true)) := by kernel_rfl
  have e3 : fTabGet tab_ROWS (.str "move") = some (.val (.str "vv")) := by kernel_rfl
  have e4 : fSl (.tup [.str "move", .int a, .int b]) (some 1) none = some (.val (.tup [.int a, .int b])) := by kernel_rfl
  have e5 : fIxA (.tup [.str "move", .int a, .int b]) (.int 0) = some (.val (.str "move")) := by kernel_rfl
  have e6 := fills_vv a b m w 1 ha hb
  simp [m_is_row, mFn0, mFn, sRet, mAnd, mCall, aCons, aNil, mVar, mC, bnd, splitIo, O.frz, mUn, mOp2, e5, e2, e3, mSl, oPart, oNone, e4, e6, e1, pinsAux, fin, O.isOwn]
theorem row_add (a b c : Int) (m w : Int) (ha : 0 ≤ a ∧ a < m) (hb : 0 ≤ b ∧ b < m) (hc : 0 ≤ c ∧ c < m) : m_is_row [.val (.tup [.str "add", .int a, .int b, .int c]), .val (.int m), .val (.int w)] = some (.ok (.val (.bl true)), [.val (.tup [.str "add", .int a, .int b, .int c]), .val (.int m), .val (.int w)]) := by
  have e1 : m_has_word [.val (.tup [.str "add", .int a, .int b, .int c])] = some (.ok (.val (.bl true)), [.val (.tup [.str "add", .int a, .int b, .int c])]) := by kernel_rfl
  have e2 : fTabIn tab_ROWS (.str "add") = some (.val (.bl true)) := by kernel_rfl
  have e3 : fTabGet tab_ROWS (.str "add") = some (.val (.str "vvv")) := by kernel_rfl
  have e4 : fSl (.tup [.str "add", .int a, .int b, .int c]) (some 1) none = some (.val (.tup [.int a, .int b, .int c])) := by kernel_rfl
  have e5 : fIxA (.tup [.str "add", .int a, .int b, .int c]) (.int 0) = some (.val (.str "add")) := by kernel_rfl
  have e6 := fills_vvv a b c m w 1 ha hb hc
  simp [m_is_row, mFn0, mFn, sRet, mAnd, mCall, aCons, aNil, mVar, mC, bnd, splitIo, O.frz, mUn, mOp2, e5, e2, e3, mSl, oPart, oNone, e4, e6, e1, pinsAux, fin, O.isOwn]
theorem row_sub (a b c : Int) (m w : Int) (ha : 0 ≤ a ∧ a < m) (hb : 0 ≤ b ∧ b < m) (hc : 0 ≤ c ∧ c < m) : m_is_row [.val (.tup [.str "sub", .int a, .int b, .int c]), .val (.int m), .val (.int w)] = some (.ok (.val (.bl true)), [.val (.tup [.str "sub", .int a, .int b, .int c]), .val (.int m), .val (.int w)]) := by
  have e1 : m_has_word [.val (.tup [.str "sub", .int a, .int b, .int c])] = some (.ok (.val (.bl true)), [.val (.tup [.str "sub", .int a, .int b, .int c])]) := by kernel_rfl
  have e2 : fTabIn tab_ROWS (.str "sub") = some (.val (.bl true)) := by kernel_rfl
  have e3 : fTabGet tab_ROWS (.str "sub") = some (.val (.str "vvv")) := by kernel_rfl
  have e4 : fSl (.tup [.str "sub", .int a, .int b, .int c]) (some 1) none = some (.val (.tup [.int a, .int b, .int c])) := by kernel_rfl
  have e5 : fIxA (.tup [.str "sub", .int a, .int b, .int c]) (.int 0) = some (.val (.str "sub")) := by kernel_rfl
  have e6 := fills_vvv a b c m w 1 ha hb hc
  simp [m_is_row, mFn0, mFn, sRet, mAnd, mCall, aCons, aNil, mVar, mC, bnd, splitIo, O.frz, mUn, mOp2, e5, e2, e3, mSl, oPart, oNone, e4, e6, e1, pinsAux, fin, O.isOwn]
theorem row_less (a b c : Int) (m w : Int) (ha : 0 ≤ a ∧ a < m) (hb : 0 ≤ b ∧ b < m) (hc : 0 ≤ c ∧ c < m) : m_is_row [.val (.tup [.str "less", .int a, .int b, .int c]), .val (.int m), .val (.int w)] = some (.ok (.val (.bl true)), [.val (.tup [.str "less", .int a, .int b, .int c]), .val (.int m), .val (.int w)]) := by
  have e1 : m_has_word [.val (.tup [.str "less", .int a, .int b, .int c])] = some (.ok (.val (.bl true)), [.val (.tup [.str "less", .int a, .int b, .int c])]) := by kernel_rfl
  have e2 : fTabIn tab_ROWS (.str "less") = some (.val (.bl true)) := by kernel_rfl
  have e3 : fTabGet tab_ROWS (.str "less") = some (.val (.str "vvv")) := by kernel_rfl
  have e4 : fSl (.tup [.str "less", .int a, .int b, .int c]) (some 1) none = some (.val (.tup [.int a, .int b, .int c])) := by kernel_rfl
  have e5 : fIxA (.tup [.str "less", .int a, .int b, .int c]) (.int 0) = some (.val (.str "less")) := by kernel_rfl
  have e6 := fills_vvv a b c m w 1 ha hb hc
  simp [m_is_row, mFn0, mFn, sRet, mAnd, mCall, aCons, aNil, mVar, mC, bnd, splitIo, O.frz, mUn, mOp2, e5, e2, e3, mSl, oPart, oNone, e4, e6, e1, pinsAux, fin, O.isOwn]
theorem row_take (a : Int) (m w : Int) (ha : 0 ≤ a ∧ a < m) : m_is_row [.val (.tup [.str "take", .int a]), .val (.int m), .val (.int w)] = some (.ok (.val (.bl true)), [.val (.tup [.str "take", .int a]), .val (.int m), .val (.int w)]) := by
  have e1 : m_has_word [.val (.tup [.str "take", .int a])] = some (.ok (.val (.bl true)), [.val (.tup [.str "take", .int a])]) := by kernel_rfl
  have e2 : fTabIn tab_ROWS (.str "take") = some (.val (.bl true)) := by kernel_rfl
  have e3 : fTabGet tab_ROWS (.str "take") = some (.val (.str "v")) := by kernel_rfl
  have e4 : fSl (.tup [.str "take", .int a]) (some 1) none = some (.val (.tup [.int a])) := by kernel_rfl
  have e5 : fIxA (.tup [.str "take", .int a]) (.int 0) = some (.val (.str "take")) := by kernel_rfl
  have e6 := fills_v a m w 1 ha
  simp [m_is_row, mFn0, mFn, sRet, mAnd, mCall, aCons, aNil, mVar, mC, bnd, splitIo, O.frz, mUn, mOp2, e5, e2, e3, mSl, oPart, oNone, e4, e6, e1, pinsAux, fin, O.isOwn]
theorem row_tell (a : Int) (m w : Int) (ha : 0 ≤ a ∧ a < m) : m_is_row [.val (.tup [.str "tell", .int a]), .val (.int m), .val (.int w)] = some (.ok (.val (.bl true)), [.val (.tup [.str "tell", .int a]), .val (.int m), .val (.int w)]) := by
  have e1 : m_has_word [.val (.tup [.str "tell", .int a])] = some (.ok (.val (.bl true)), [.val (.tup [.str "tell", .int a])]) := by kernel_rfl
  have e2 : fTabIn tab_ROWS (.str "tell") = some (.val (.bl true)) := by kernel_rfl
  have e3 : fTabGet tab_ROWS (.str "tell") = some (.val (.str "v")) := by kernel_rfl
  have e4 : fSl (.tup [.str "tell", .int a]) (some 1) none = some (.val (.tup [.int a])) := by kernel_rfl
  have e5 : fIxA (.tup [.str "tell", .int a]) (.int 0) = some (.val (.str "tell")) := by kernel_rfl
  have e6 := fills_v a m w 1 ha
  simp [m_is_row, mFn0, mFn, sRet, mAnd, mCall, aCons, aNil, mVar, mC, bnd, splitIo, O.frz, mUn, mOp2, e5, e2, e3, mSl, oPart, oNone, e4, e6, e1, pinsAux, fin, O.isOwn]
theorem end_go (a : Int) (m w : Int) (ha : 1 ≤ a ∧ a < w) : m_is_end [.val (.tup [.str "go", .int a]), .val (.int m), .val (.int w)] = some (.ok (.val (.bl true)), [.val (.tup [.str "go", .int a]), .val (.int m), .val (.int w)]) := by
  have e1 : m_has_word [.val (.tup [.str "go", .int a])] = some (.ok (.val (.bl true)), [.val (.tup [.str "go", .int a])]) := by kernel_rfl
  have e2 : fTabIn tab_ENDS (.str "go") = some (.val (.bl true)) := by kernel_rfl
  have e3 : fTabGet tab_ENDS (.str "go") = some (.val (.str "b")) := by kernel_rfl
  have e4 : fSl (.tup [.str "go", .int a]) (some 1) none = some (.val (.tup [.int a])) := by kernel_rfl
  have e5 : fIxA (.tup [.str "go", .int a]) (.int 0) = some (.val (.str "go")) := by kernel_rfl
  have e6 := fills_b a m 0 w ha
  simp [m_is_end, mFn0, mFn, sRet, mAnd, mCall, aCons, aNil, mVar, mC, bnd, splitIo, O.frz, mUn, mOp2, e5, e2, e3, mSl, oPart, oNone, e4, e6, e1, pinsAux, fin, O.isOwn]
theorem end_part (a b c : Int) (m w : Int) (ha : 0 ≤ a ∧ a < m) (hb : 1 ≤ b ∧ b < w) (hc : 1 ≤ c ∧ c < w) : m_is_end [.val (.tup [.str "part", .int a, .int b, .int c]), .val (.int m), .val (.int w)] = some (.ok (.val (.bl true)), [.val (.tup [.str "part", .int a, .int b, .int c]), .val (.int m), .val (.int w)]) := by
  have e1 : m_has_word [.val (.tup [.str "part", .int a, .int b, .int c])] = some (.ok (.val (.bl true)), [.val (.tup [.str "part", .int a, .int b, .int c])]) := by kernel_rfl
  have e2 : fTabIn tab_ENDS (.str "part") = some (.val (.bl true)) := by kernel_rfl
  have e3 : fTabGet tab_ENDS (.str "part") = some (.val (.str "vbb")) := by kernel_rfl
  have e4 : fSl (.tup [.str "part", .int a, .int b, .int c]) (some 1) none = some (.val (.tup [.int a, .int b, .int c])) := by kernel_rfl
  have e5 : fIxA (.tup [.str "part", .int a, .int b, .int c]) (.int 0) = some (.val (.str "part")) := by kernel_rfl
  have e6 := fills_vbb a b c m 0 w ha hb hc
  simp [m_is_end, mFn0, mFn, sRet, mAnd, mCall, aCons, aNil, mVar, mC, bnd, splitIo, O.frz, mUn, mOp2, e5, e2, e3, mSl, oPart, oNone, e4, e6, e1, pinsAux, fin, O.isOwn]
theorem end_stop (m w : Int)  : m_is_end [.val (.tup [.str "stop"]), .val (.int m), .val (.int w)] = some (.ok (.val (.bl true)), [.val (.tup [.str "stop"]), .val (.int m), .val (.int w)]) := by
  have e1 : m_has_word [.val (.tup [.str "stop"])] = some (.ok (.val (.bl true)), [.val (.tup [.str "stop"])]) := by kernel_rfl
  have e2 : fTabIn tab_ENDS (.str "stop") = some (.val (.bl true)) := by kernel_rfl
  have e3 : fTabGet tab_ENDS (.str "stop") = some (.val (.str "")) := by kernel_rfl
  have e4 : fSl (.tup [.str "stop"]) (some 1) none = some (.val (.tup [])) := by kernel_rfl
  have e5 : fIxA (.tup [.str "stop"]) (.int 0) = some (.val (.str "stop")) := by kernel_rfl
  have e6 := fills_e  m 0 w 
  simp [m_is_end, mFn0, mFn, sRet, mAnd, mCall, aCons, aNil, mVar, mC, bnd, splitIo, O.frz, mUn, mOp2, e5, e2, e3, mSl, oPart, oNone, e4, e6, e1, pinsAux, fin, O.isOwn]
end VM

end
section
open PySem PySem.Spec VL L2
namespace VM
open VG
theorem isrow {m w : Int} {d : D} (h : RowOk m w d) : m_is_row [.val d, .val (.int m), .val (.int w)] = some (.ok (.val (.bl true)), [.val d, .val (.int m), .val (.int w)]) := by
  cases h with
  | put r n h k => exact row_put r n m w h k
  | move r s h k => exact row_move r s m w h k
  | take r h => exact row_take r m w h
  | tell r h => exact row_tell r m w h
  | add r s t h k l => exact row_add r s t m w h k l
  | sub r s t h k l => exact row_sub r s t m w h k l
  | less r s t h k l => exact row_less r s t m w h k l
theorem isend {m c : Int} {cs : List Int} {d : D} (h : EndOk m c cs d) : m_is_end [.val d, .val (.int m), .val (.int c)] = some (.ok (.val (.bl true)), [.val d, .val (.int m), .val (.int c)]) := by
  rcases h with ⟨_, rfl⟩ | ⟨n, hn, _, rfl⟩ | ⟨r, x, y, hr, hx, hy, _, rfl⟩
  · exact end_stop m c
  · exact end_go n m c hn
  · exact end_part r x y m c hr hx hy
theorem bools_true (n : Nat) : bools (List.replicate n (D.bl true)) = some (List.replicate n true) := by
  induction n with
  | zero => rfl
  | succ n ih => simp [List.replicate_succ, bools, ih]
theorem all_true (n : Nat) : fAll [.lst (List.replicate n (D.bl true))] = some (.val (.bl true)) := by
  simp [fAll, bools_true]
theorem rows_lc (s0 s1 : Option O) (m w : Int) : ∀ (l : List D) (k : Nat), (∀ r ∈ l, RowOk m w r) →
    lcLoop [4] (.nm 4) mYes (mCall m_is_row (aCons (mVar 4) (aCons (mVar 2) (aCons (mVar 3) aNil)))) l [s0, s1, some (.val (.int m)), some (.val (.int w)), none] (List.replicate k (.bl true))
      = some (.ok (.lst (List.replicate (k + l.length) (.bl true))), [s0, s1, some (.val (.int m)), some (.val (.int w)), none])
  | [], k, _ => by simp [lcLoop]
  | d :: l, k, h => by
    have ih := rows_lc s0 s1 m w l (k + 1) fun r hr => h r (List.mem_cons_of_mem _ hr)
    have hd := isrow (h d (by simp))
    unfold lcLoop
    have eb : bindP [] (.nm 4) d [s0, s1, some (.val (.int m)), some (.val (.int w)), none] = some [s0, s1, some (.val (.int m)), some (.val (.int w)), some (.val d)] := by simp [bindP, setV]
    have ey : ∀ ρ : Rho, mYes ρ = some (.ok (.val (.bl true)), ρ) := fun _ => rfl
    have er : mCall m_is_row (aCons (mVar 4) (aCons (mVar 2) (aCons (mVar 3) aNil))) [s0, s1, some (.val (.int m)), some (.val (.int w)), some (.val d)] = some (.ok (.val (.bl true)), [s0, s1, some (.val (.int m)), some (.val (.int w)), some (.val d)]) := by
      simp [mFn0, mFn, sSeq, sThen, sIf, sRet, sNx, sAsgV, setV, mOp2, mOpL, look, O.pk, mVar, mC, bnd, mCB, aCons, aNil, dsOf, fOr1, fLen, fIntOf, fCmp, fInt, fIntC, O.frz, fIxA, fAddA, fMulA, fOr, fIx, pinsAux, fin, O.isOwn, bMod, bMul, bDivW, bPow, mTup, mCall, splitIo, hd]
    rw [eb]
    simp only [ey, O.frz, er, wipeR, List.set_cons_succ, List.set_cons_zero]
    have e9 : (List.replicate k (D.bl true)) ++ [D.bl true] = List.replicate (k + 1) (D.bl true) := List.replicate_succ'.symm
    rw [e9]
    refine ih.trans ?_
    rw [List.length_cons]
    have : k + 1 + l.length = k + (l.length + 1) := by omega
    rw [this]
theorem tupi (l : List D) : ansT "tuple" (.tup l) = some true := by kernel_rfl
theorem arerows {m w : Int} {rows : List D} {most : Int} (h : ∀ r ∈ rows, RowOk m w r) (hl : (rows.length : Int) ≤ most) (h2 : rows.length ≤ 100) : m_are_rows [.val (.tup rows), .val (.int most), .val (.int m), .val (.int w)] = some (.ok (.val (.bl true)), [.val (.tup rows), .val (.int most), .val (.int m), .val (.int w)]) := by
  have e := rows_lc (some (.val (.tup rows))) (some (.val (.int most))) m w rows 0 h
  have hl2 : rows.length ≤ 100000 := by omega
  rw [Nat.zero_add] at e
  have e1 : mLc (iWalk (mVar 0)) [4] (.nm 4) mYes (mCall m_is_row (aCons (mVar 4) (aCons (mVar 2) (aCons (mVar 3) aNil)))) [some (.val (.tup rows)), some (.val (.int most)), some (.val (.int m)), some (.val (.int w)), none]
      = some (.ok (.lst (List.replicate rows.length (.bl true))), [some (.val (.tup rows)), some (.val (.int most)), some (.val (.int m)), some (.val (.int w)), none]) := by
    have e0 : VL.iWalk (mVar 0) [some (.val (.tup rows)), some (.val (.int most)), some (.val (.int m)), some (.val (.int w)), none] = some (rows, [some (.val (.tup rows)), some (.val (.int most)), some (.val (.int m)), some (.val (.int w)), none]) := by rfl
    unfold mLc
    rw [e0]
    have hc : clean [4] [some (.val (.tup rows)), some (.val (.int most)), some (.val (.int m)), some (.val (.int w)), none] = true ∧ rows.length ≤ 100000 := ⟨by simp [clean], hl2⟩
    simp only [if_pos hc]
    exact e
  simp [m_are_rows, mFn0, mFn, sRet, mAnd, mIs, mVar, bnd, O.frz, tupi, mOp2, mCB, aCons, aNil, dsOf, fOr1, fLen, fCmp, hl, e1, all_true, pinsAux, fin, O.isOwn]
def Blk (m w c : Int) (most : Int) (d : D) : Prop := ∃ (rows : List D) (e : D) (cs : List Int), d = .tup [.tup rows, e] ∧ (rows.length : Int) ≤ most ∧ rows.length ≤ 100 ∧ (∀ r ∈ rows, RowOk m w r) ∧ EndOk m c cs e
theorem isblock {m w c most : Int} {d : D} (h : Blk m w c most d) : m_is_block [.val d, .val (.int 2), .val (.int most), .val (.int m), .val (.int w), .val (.int c)] = some (.ok (.val (.bl true)), [.val d, .val (.int 2), .val (.int most), .val (.int m), .val (.int w), .val (.int c)]) := by
  obtain ⟨rows, e, cs, rfl, h1, h2, h3, h4⟩ := h
  have r1 := arerows h3 h1 h2
  have r2 := isend h4
  have s1 : fSl (.tup [.tup rows, e]) none (some (-2)) = some (.val (.tup [])) := by kernel_rfl
  have x1 : fIxA (.tup [.tup rows, e]) (.int (-2)) = some (.val (.tup rows)) := by kernel_rfl
  have x2 : fIxA (.tup [.tup rows, e]) (.int (-1)) = some (.val e) := by kernel_rfl
  have l1 : fOr1 fLen fLenD [.tup [.tup rows, e]] = some (.val (.int 2)) := by kernel_rfl
  have w1 : walkD (.tup []) = some [] := by rfl
  have a1 : fAll [.lst []] = some (.val (.bl true)) := by rfl
  have t1 : truD (.bl true) = some true := by rfl
  simp [m_is_block, mFn0, mFn, sSeq, sThen, sIf, sRet, sNx, mOr, mNot, mTru, mIs, mVar, bnd, O.frz, tupi, t1, mOp2, mCB, aCons, aNil, dsOf, l1, ne_int, mC, mLc, VL.iWalk, mSl, oNone, oPart, mUn, fNeg, s1, w1, clean, lcLoop, a1, mAnd, mCall, splitIo, x1, x2, r1, r2, pinsAux, fin, O.isOwn]
end VM

end
section
open PySem PySem.Spec VL L2
namespace VM
open VG
/-! ### the walk over all blocks -/
inductive Tg : D → List Int → Prop
  | stop : Tg (.tup [.str "stop"]) []
  | go (n : Int) : Tg (.tup [.str "go", .int n]) [n]
  | part (r x y : Int) : Tg (.tup [.str "part", .int r, .int x, .int y]) [x, y]
theorem pe_stop : fEq (.str "stop") (.str "part") = some (.val (.bl false)) := by kernel_rfl
theorem pe_go : fEq (.str "go") (.str "part") = some (.val (.bl false)) := by kernel_rfl
theorem pe_part : fEq (.str "part") (.str "part") = some (.val (.bl true)) := by kernel_rfl
theorem followers (bs : List D) (b : Nat) (rows e : D) (ts : List Int) (hb : bs[b]? = some (.tup [rows, e])) (ht : Tg e ts) :
    m_followers_of [.val (.tup bs), .val (.int (b : Int))] = some (.ok (.val (.tup (ts.map .int))), [.val (.tup bs), .val (.int (b : Int))]) := by
  have hl : b < bs.length := (List.getElem?_eq_some_iff.mp hb).1
  have hb' := (List.getElem?_eq_some_iff.mp hb).2
  have e1 : fIxA (.tup bs) (.int (b : Int)) = some (.val (.tup [rows, e])) := by simp [fIxA, fOr, fIx, atI, ixN, hl, hb']
  have e2 : fIxA (.tup [rows, e]) (.int (-1)) = some (.val e) := by kernel_rfl
  cases ht with
  | stop =>
    have e3 : fIxA (.tup [.str "stop"]) (.int 0) = some (.val (.str "stop")) := by kernel_rfl
    have e4 : fSl (.tup [.str "stop"]) (some 1) none = some (.val (.tup [])) := by kernel_rfl
    simp [m_followers_of, mFn0, mFn, sSeq, sThen, sAsgV, setV, sRet, mIf, mOp2, mVar, mC, mUn, fNeg, bnd, O.frz, e1, e2, e3, e4, pe_stop, mSl, oPart, oNone, pinsAux, fin, O.isOwn]
  | go n =>
    have e3 : fIxA (.tup [.str "go", .int n]) (.int 0) = some (.val (.str "go")) := by kernel_rfl
    have e4 : fSl (.tup [.str "go", .int n]) (some 1) none = some (.val (.tup [.int n])) := by kernel_rfl
    simp [m_followers_of, mFn0, mFn, sSeq, sThen, sAsgV, setV, sRet, mIf, mOp2, mVar, mC, mUn, fNeg, bnd, O.frz, e1, e2, e3, e4, pe_go, mSl, oPart, oNone, pinsAux, fin, O.isOwn]
  | part r x y =>
    have e3 : fIxA (.tup [.str "part", .int r, .int x, .int y]) (.int 0) = some (.val (.str "part")) := by kernel_rfl
    have e4 : fSl (.tup [.str "part", .int r, .int x, .int y]) (some 2) none = some (.val (.tup [.int x, .int y])) := by kernel_rfl
    simp [m_followers_of, mFn0, mFn, sSeq, sThen, sAsgV, setV, sRet, mIf, mOp2, mVar, mC, mUn, fNeg, bnd, O.frz, e1, e2, e3, e4, pe_part, mSl, oPart, oNone, pinsAux, fin, O.isOwn]
abbrev keys (kds : List (Key × D)) : List Key := kds.map (·.1)
theorem getK_some (kds : List (Key × D)) (k : Key) : (getK kds k).isSome = true ↔ k ∈ keys kds := by
  unfold getK
  rw [Option.isSome_map, List.find?_isSome]
  constructor
  · rintro ⟨x, h1, h2⟩
    have := of_decide_eq_true h2
    exact List.mem_map.mpr ⟨x, h1, this⟩
  · intro h
    obtain ⟨x, h1, h2⟩ := List.mem_map.mp h
    exact ⟨x, h1, decide_eq_true h2⟩
theorem putD_new (kds : List (Key × D)) (k : Key) (d : D) (h : k ∉ keys kds) : putD kds k d = kds ++ [(k, d)] := by
  unfold putD
  rw [if_neg]
  intro z
  obtain ⟨x, h1, h2⟩ := List.any_eq_true.mp z
  exact h (List.mem_map.mpr ⟨x, h1, of_decide_eq_true h2⟩)
abbrev ik (ks : List Int) : List Key := ks.map Sum.inl
theorem mem_ik (c : Int) (ks : List Int) : (Sum.inl c : Key) ∈ ik ks ↔ c ∈ ks := by simp [ik]
def adds : List Int → List Int × List Int → List Int × List Int
  | [], s => s
  | c :: ts, (ks, ws) => if c ∈ ks then adds ts (ks, ws) else adds ts (ks ++ [c], ws ++ [c])
def reachB : MS := (sIf (mAnd (mOp2 fNe (mVar 5) (mVar 1)) (mOpR (fInA true) (mVar 5) 2)) (sSeq (sDPutM 2 (mVar 5) (mVar 4)) (sDrop (mApp 3 (mVar 5)))) sNx)
theorem ne_non (c : Int) : fNe (.int c) .non = some (.val (.bl true)) := by kernel_rfl
theorem reach_for (bs : List D) (b : Int) (pins : List Nat) (hp : 5 ∉ pins) : ∀ (ts ks ws : List Int) (kds : List (Key × D)) (x : Option O), keys kds = ik ks → ks.length + ts.length < 1000 → ws.length + ts.length < 1000 →
    ∃ (kds' : List (Key × D)) (y : Option O), keys kds' = ik (adds ts (ks, ws)).1 ∧ forLoop (.nm 5) reachB pins (ts.map .int) [some (.val (.tup bs)), some (.val .non), some (.dic kds), some (.lst (ws.map .int)), some (.val (.int b)), x]
      = some (.ok .nx, [some (.val (.tup bs)), some (.val .non), some (.dic kds'), some (.lst ((adds ts (ks, ws)).2.map .int)), some (.val (.int b)), y])
  | [], ks, ws, kds, x, hk, _, _ => ⟨kds, x, hk, by simp [forLoop, adds]⟩
  | c :: ts, ks, ws, kds, x, hk, h1, h2 => by
    have eb : bindP pins (.nm 5) (.int c) [some (.val (.tup bs)), some (.val .non), some (.dic kds), some (.lst (ws.map .int)), some (.val (.int b)), x] = some [some (.val (.tup bs)), some (.val .non), some (.dic kds), some (.lst (ws.map .int)), some (.val (.int b)), some (.val (.int c))] := by
      simp [bindP, setV, hp]
    have eg : (getK kds (.inl c)).isSome = decide (c ∈ ks) := by
      rw [Bool.eq_iff_iff, getK_some, hk, mem_ik, decide_eq_true_iff]
    have eg2 : (getK kds (.inl c)).isNone = !decide (c ∈ ks) := by
      rw [← eg]
      cases getK kds (.inl c) <;> rfl
    rw [List.map_cons]
    unfold forLoop
    rw [eb]
    by_cases hc : c ∈ ks
    · obtain ⟨kds', y, hk', h'⟩ := reach_for bs b pins hp ts ks ws kds (some (.val (.int c))) hk (by simp at h1; omega) (by simp at h2; omega)
      refine ⟨kds', y, by unfold adds; rw [if_pos hc]; exact hk', ?_⟩
      unfold adds
      rw [if_pos hc]
      have es : reachB pins [some (.val (.tup bs)), some (.val .non), some (.dic kds), some (.lst (ws.map .int)), some (.val (.int b)), some (.val (.int c))] = some (.ok .nx, [some (.val (.tup bs)), some (.val .non), some (.dic kds), some (.lst (ws.map .int)), some (.val (.int b)), some (.val (.int c))]) := by
        simp [reachB, sIf, mAnd, mOp2, mOpR, mVar, bnd, O.frz, ne_non, look, O.pk, fInA, fOr, fDIn, keyD, eg, eg2, hc, sNx]
      simp only [Option.bind, es]
      exact h'
    · have nk : (Sum.inl c : Key) ∉ keys kds := by
        rw [hk, mem_ik]
        exact hc
      obtain ⟨kds', y, hk', h'⟩ := reach_for bs b pins hp ts (ks ++ [c]) (ws ++ [c]) (kds ++ [(.inl c, .int b)]) (some (.val (.int c))) (by simp only [keys, ik, List.map_append] at hk ⊢; rw [hk]; rfl) (by simp at h1 ⊢; omega) (by simp at h2 ⊢; omega)
      refine ⟨kds', y, by unfold adds; rw [if_neg hc]; exact hk', ?_⟩
      unfold adds
      rw [if_neg hc]
      have lk : kds.length < 100000 := by
        have := congrArg List.length hk
        simp [keys, ik] at this
        simp at h1
        omega
      have lw : ws.length < 100000 := by omega
      have es : reachB pins [some (.val (.tup bs)), some (.val .non), some (.dic kds), some (.lst (ws.map .int)), some (.val (.int b)), some (.val (.int c))] = some (.ok .nx, [some (.val (.tup bs)), some (.val .non), some (.dic (kds ++ [(.inl c, .int b)])), some (.lst ((ws ++ [c]).map .int)), some (.val (.int b)), some (.val (.int c))]) := by
        simp [reachB, sIf, mAnd, mOp2, mOpR, mVar, bnd, O.frz, ne_non, look, O.pk, fInA, fOr, fDIn, keyD, eg, eg2, hc, sSeq, sThen, sDPutM, sDrop, mApp, putD_new kds _ _ nk, lk, lw]
      simp only [Option.bind, es]
      exact h'
/-! ### what the walk comes to -/
theorem pigeon : ∀ (n : Nat) (l : List Int), l.Nodup → (∀ x ∈ l, 0 ≤ x ∧ x < n) → l.length ≤ n
  | 0, l, _, h => by
    cases l with
    | nil => simp
    | cons x r =>
      have := h x (by simp)
      omega
  | n + 1, l, nd, h => by
    by_cases hm : (n : Int) ∈ l
    · have e := List.length_erase_of_mem hm
      have := pigeon n (l.erase (n : Int)) (nd.erase _) fun x hx => by
        obtain ⟨h1, h2⟩ := (List.Nodup.mem_erase_iff nd).mp hx
        have := h x h2
        omega
      omega
    · have := pigeon n l nd fun x hx => by
        have := h x hx
        have : x ≠ (n : Int) := fun z => hm (by rw [← z]; exact hx)
        omega
      omega
theorem pigeon' : ∀ (n : Nat) (l : List Int), l.Nodup → (∀ x : Int, 0 ≤ x → x < n → x ∈ l) → n ≤ l.length
  | 0, l, _, _ => Nat.zero_le _
  | n + 1, l, nd, h => by
    have hm : (n : Int) ∈ l := h n (by omega) (by omega)
    have e := List.length_erase_of_mem hm
    have hp : 0 < l.length := List.length_pos_of_mem hm
    have := pigeon' n (l.erase (n : Int)) (nd.erase _) fun x h1 h2 => (List.Nodup.mem_erase_iff nd).mpr ⟨by omega, h x h1 (by omega)⟩
    omega
/-- the walk's state: all that was come to, and what waits -/
structure Walk (size : Nat) (T : Int → List Int) (ks ws : List Int) : Prop where
  nd : ks.Nodup
  bd : ∀ c ∈ ks, 0 ≤ c ∧ c < size
  sub : ∀ c ∈ ws, c ∈ ks
  zero : (0 : Int) ∈ ks
  cl : ∀ p ∈ ks, p ∉ ws → ∀ c ∈ T p, c ∈ ks
theorem adds_spec (size : Nat) : ∀ (ts ks ws : List Int), ks.Nodup → (∀ c ∈ ks, 0 ≤ c ∧ c < size) → (∀ c ∈ ws, c ∈ ks) → (∀ c ∈ ts, 0 ≤ c ∧ c < size) →
    (adds ts (ks, ws)).1.Nodup ∧ (∀ c ∈ (adds ts (ks, ws)).1, 0 ≤ c ∧ c < size) ∧ (∀ c ∈ (adds ts (ks, ws)).2, c ∈ (adds ts (ks, ws)).1) ∧ (∀ c ∈ ks, c ∈ (adds ts (ks, ws)).1) ∧ (∀ c ∈ ts, c ∈ (adds ts (ks, ws)).1) ∧
      (∀ c ∈ (adds ts (ks, ws)).1, c ∉ ks → c ∈ (adds ts (ks, ws)).2) ∧ (∀ c ∈ ws, c ∈ (adds ts (ks, ws)).2) ∧ (adds ts (ks, ws)).1.length + ws.length = ks.length + (adds ts (ks, ws)).2.length
  | [], ks, ws, nd, bd, sub, _ => by
    unfold adds
    exact ⟨nd, bd, sub, fun c h => h, by simp, fun c h n => absurd h n, fun c h => h, rfl⟩
  | c :: ts, ks, ws, nd, bd, sub, ht => by
    unfold adds
    by_cases hc : c ∈ ks
    · rw [if_pos hc]
      obtain ⟨a1, a2, a3, a4, a5, a6, a7, a8⟩ := adds_spec size ts ks ws nd bd sub fun x hx => ht x (List.mem_cons_of_mem _ hx)
      refine ⟨a1, a2, a3, a4, fun x hx => ?_, a6, a7, a8⟩
      rcases List.mem_cons.mp hx with rfl | hx
      · exact a4 _ hc
      · exact a5 x hx
    · rw [if_neg hc]
      obtain ⟨a1, a2, a3, a4, a5, a6, a7, a8⟩ := adds_spec size ts (ks ++ [c]) (ws ++ [c]) (List.nodup_append.mpr ⟨nd, by simp, fun x hx y hy => by
          have : y = c := by simpa using hy
          subst this
          exact fun z => hc (by rw [← z]; exact hx)⟩) (fun x hx => by
          rcases List.mem_append.mp hx with hx | hx
          · exact bd x hx
          · have : x = c := by simpa using hx
            subst this
            exact ht x (by simp)) (fun x hx => by
          rcases List.mem_append.mp hx with hx | hx
          · exact List.mem_append_left _ (sub x hx)
          · exact List.mem_append_right _ hx) fun x hx => ht x (List.mem_cons_of_mem _ hx)
      refine ⟨a1, a2, a3, fun x hx => a4 x (List.mem_append_left _ hx), fun x hx => ?_, fun x hx nx => ?_, fun x hx => a7 x (List.mem_append_left _ hx), by simp at a8; omega⟩
      · rcases List.mem_cons.mp hx with rfl | hx
        · exact a4 _ (by simp)
        · exact a5 x hx
      · by_cases z : x ∈ ks ++ [c]
        · rcases List.mem_append.mp z with z | z
          · exact absurd z nx
          · exact a7 x (List.mem_append_right _ z)
        · exact a6 x hx z
end VM

end
section
open PySem PySem.Spec VL L2
namespace VM
open VG
/-- blocks, and where their ends lead -/
structure Graph (size : Nat) (bs : List D) (T : Int → List Int) : Prop where
  len : bs.length = size
  one : 1 ≤ size
  top : size ≤ 16
  at_ : ∀ p : Nat, p < size → ∃ rows e, bs[p]? = some (.tup [rows, e]) ∧ Tg e (T (p : Int))
  bd : ∀ p : Nat, p < size → (T (p : Int)).length ≤ 2 ∧ ∀ c ∈ T (p : Int), 1 ≤ c ∧ c < size
  all : ∀ c : Int, 1 ≤ c → c < size → ∃ p : Nat, (p : Int) < c ∧ c ∈ T (p : Int)
def reachW : MS := (sSeq (sAsgV 4 (mPopAt 3 (mC (.int (0))))) (sFor (iWalk (mCall m_followers_of (aCons (mVar 0) (aCons (mVar 4) aNil)))) (.nm 5) reachB))
theorem reach_while (size : Nat) (bs : List D) (T : Int → List Int) (g : Graph size bs T) : ∀ (n : Nat) (ks ws : List Int) (kds : List (Key × D)) (s4 s5 : Option O), Walk size T ks ws → keys kds = ik ks → (size - ks.length) + ws.length < n → n ≤ 100 →
    ∃ (kds' : List (Key × D)) (ks' : List Int) (s4' s5' : Option O), Walk size T ks' [] ∧ keys kds' = ik ks' ∧
      whileLoop (mTruS 3) reachW [] n [some (.val (.tup bs)), some (.val .non), some (.dic kds), some (.lst (ws.map .int)), s4, s5] = some (.ok .nx, [some (.val (.tup bs)), some (.val .non), some (.dic kds'), some (.lst []), s4', s5'])
  | 0, ks, ws, kds, s4, s5, w, hk, hm, _ => by omega
  | n + 1, ks, [], kds, s4, s5, w, hk, hm, _ => ⟨kds, ks, s4, s5, w, hk, by simp [whileLoop, mTruS, look, O.pk, O.frz, truD, bnd]⟩
  | n + 1, ks, p :: ws, kds, s4, s5, w, hk, hm, h100 => by
    obtain ⟨p0, p1⟩ := w.bd p (w.sub p (by simp))
    obtain ⟨q, rfl⟩ : ∃ q : Nat, p = (q : Int) := ⟨p.toNat, by omega⟩
    obtain ⟨rows, e, hb, ht⟩ := g.at_ q (by omega)
    obtain ⟨t2, tb⟩ := g.bd q (by omega)
    have hf := followers bs q rows e _ hb ht
    have kl := pigeon size ks w.nd w.bd
    have gt := g.top
    obtain ⟨a1, a2, a3, a4, a5, a6, a7, a8⟩ := adds_spec size (T (q : Int)) ks ws w.nd w.bd (fun c hc => w.sub c (List.mem_cons_of_mem _ hc)) fun c hc => by
      have := tb c hc
      omega
    have kl1 := pigeon size _ a1 a2
    obtain ⟨kds1, y, hk1, h1⟩ := reach_for bs (q : Int) [] (by simp) (T (q : Int)) ks ws kds s5 hk (by omega) (by simp at hm; omega)
    have kge : ks.length ≤ (adds (T (q : Int)) (ks, ws)).1.length := by
      by_cases z : ks.length ≤ (adds (T (q : Int)) (ks, ws)).1.length
      · exact z
      · exfalso
        have aux : ∀ ts ks ws, ks.length ≤ (adds ts (ks, ws)).1.length := fun ts => by
          induction ts with
          | nil => exact fun ks ws => Nat.le_refl _
          | cons c ts ih =>
            intro ks ws
            unfold adds
            split
            · exact ih ks ws
            · have := ih (ks ++ [c]) (ws ++ [c])
              simp at this
              omega
        exact z (aux _ _ _)
    have W1 : Walk size T (adds (T (q : Int)) (ks, ws)).1 (adds (T (q : Int)) (ks, ws)).2 := by
      refine ⟨a1, a2, a3, a4 _ w.zero, fun x hx nx c hc => ?_⟩
      by_cases xk : x ∈ ks
      · by_cases xq : x = (q : Int)
        · subst xq
          exact a5 c hc
        · refine a4 c (w.cl x xk (fun z => ?_) c hc)
          rcases List.mem_cons.mp z with z | z
          · exact xq z
          · exact nx (a7 x z)
      · exact absurd (a6 x hx xk) nx
    obtain ⟨kds', ks', s4', s5', W', hk', h2⟩ := reach_while size bs T g n _ _ kds1 (some (.val (.int (q : Int)))) y W1 hk1 (by simp at hm; omega) (by omega)
    refine ⟨kds', ks', s4', s5', W', hk', ?_⟩
    unfold whileLoop
    have et : mTruS 3 [some (.val (.tup bs)), some (.val .non), some (.dic kds), some (.lst (((q : Int) :: ws).map .int)), s4, s5] = some (.ok (.val (.bl true)), [some (.val (.tup bs)), some (.val .non), some (.dic kds), some (.lst (((q : Int) :: ws).map .int)), s4, s5]) := by
      simp [mTruS, look, O.pk, O.frz, truD]
    have ew : reachW [] [some (.val (.tup bs)), some (.val .non), some (.dic kds), some (.lst (((q : Int) :: ws).map .int)), s4, s5]
        = some (.ok .nx, [some (.val (.tup bs)), some (.val .non), some (.dic kds1), some (.lst ((adds (T (q : Int)) (ks, ws)).2.map .int)), some (.val (.int (q : Int))), y]) := by
      have e1 : sAsgV 4 (mPopAt 3 (mC (.int (0)))) [] [some (.val (.tup bs)), some (.val .non), some (.dic kds), some (.lst (((q : Int) :: ws).map .int)), s4, s5] = some (.ok .nx, [some (.val (.tup bs)), some (.val .non), some (.dic kds), some (.lst (ws.map .int)), some (.val (.int (q : Int))), s5]) := by
        simp [sAsgV, mPopAt, mC, bnd, O.frz, setV]
      have e2 : VL.iWalk (mCall m_followers_of (aCons (mVar 0) (aCons (mVar 4) aNil))) [some (.val (.tup bs)), some (.val .non), some (.dic kds), some (.lst (ws.map .int)), some (.val (.int (q : Int))), s5]
          = some ((T (q : Int)).map .int, [some (.val (.tup bs)), some (.val .non), some (.dic kds), some (.lst (ws.map .int)), some (.val (.int (q : Int))), s5]) := by
        simp [VL.iWalk, mCall, aCons, aNil, mVar, bnd, O.frz, splitIo, hf, walkD, seqD]
      unfold reachW sSeq
      rw [e1]
      simp only [sThen, sFor, e2, Option.bind, h1]
    rw [et]
    simp only [bnd, O.frz, ew]
    exact h2
theorem reached (size : Nat) (bs : List D) (T : Int → List Int) (g : Graph size bs T) : ∃ kds : List (Key × D), kds.length = size ∧ m_reached [.val (.tup bs), .val .non] = some (.ok (.dic kds), [.val (.tup bs), .val .non]) := by
  have g1 := g.one
  have gt := g.top
  have W0 : Walk size T [0] [0] := ⟨by simp, fun c hc => by
    have : c = 0 := by simpa using hc
    omega, fun c hc => hc, by simp, fun p hp np => absurd hp np⟩
  obtain ⟨kds, ks, s4, s5, W, hk, h⟩ := reach_while size bs T g 100 [0] [0] [(.inl 0, .non)] none none W0 rfl (by simp; omega) (Nat.le_refl _)
  have hall : ∀ n : Nat, ∀ c : Int, 0 ≤ c → c < size → c < n → c ∈ ks := by
    intro n
    induction n with
    | zero => intro c h0 _ h2; omega
    | succ n ih =>
      intro c h0 h1 h2
      by_cases hz : c = 0
      · rw [hz]; exact W.zero
      · obtain ⟨p, hp, hc⟩ := g.all c (by omega) h1
        exact W.cl (p : Int) (ih p (by omega) (by omega) (by omega)) (by simp) c hc
  have l1 := pigeon size ks W.nd W.bd
  have l2 := pigeon' size ks W.nd fun c h0 h1 => hall size c h0 h1 h1
  have lk : kds.length = size := by
    have := congrArg List.length hk
    simp [keys, ik] at this
    omega
  refine ⟨kds, lk, ?_⟩
  have em : m_reached = mFn0 2 6 (sSeq (sAsgO 2 (mIf (mOp2 fEq (mVar 1) (mC (.int (0)))) mDNew (mD1 (mC (.int (0))) (mC .non)))) (sSeq (sAsgO 3 (mCB (fOr1 fList fListD) (aSl 2 aNil))) (sSeq (sWhile 100 (mTruS 3) reachW) (sRet (mMv 2))))) := rfl
  have en : fEq .non (.int 0) = some (.val (.bl false)) := by kernel_rfl
  have el : fOr1 fList fListD [.dic [(.inl 0, .non)]] = some (.lst [.int 0]) := by rfl
  have hw : sWhile 100 (mTruS 3) reachW [] [some (.val (.tup bs)), some (.val .non), some (.dic [(.inl 0, .non)]), some (.lst [.int 0]), none, none] = some (.ok .nx, [some (.val (.tup bs)), some (.val .non), some (.dic kds), some (.lst []), s4, s5]) := h
  rw [em]
  simp [mFn0, mFn, sSeq, sThen, sAsgO, mIf, mOp2, mVar, mC, bnd, O.frz, en, mD1, keyD, setV, mCB, aSl, aIo, look, O.pk, aNil, dsOf, el, hw, sRet, mMv, pinsAux, fin, O.isOwn]
end VM

end
section
open PySem PySem.Spec VL L2
namespace VM
open VG
theorem blocks_lc (s0 s1 : Option O) (bs : List D) (most m w : Int) : ∀ (l : List D) (k : Nat), (∀ d ∈ l, Blk m w bs.length most d) →
    lcLoop [5] (.nm 5) mYes (mCall m_is_block (aCons (mVar 5) (aCons (mVar 1) (aCons (mVar 2) (aCons (mVar 3) (aCons (mVar 4) (aCons (mCB (fOr1 fLen fLenD) (aCons (mVar 0) aNil)) aNil))))))) l [some (.val (.tup bs)), some (.val (.int 2)), some (.val (.int most)), some (.val (.int m)), some (.val (.int w)), none] (List.replicate k (.bl true))
      = some (.ok (.lst (List.replicate (k + l.length) (.bl true))), [some (.val (.tup bs)), some (.val (.int 2)), some (.val (.int most)), some (.val (.int m)), some (.val (.int w)), none])
  | [], k, _ => by simp [lcLoop]
  | d :: l, k, h => by
    have ih := blocks_lc s0 s1 bs most m w l (k + 1) fun r hr => h r (List.mem_cons_of_mem _ hr)
    have hd := isblock (h d (by simp))
    unfold lcLoop
    have eb : bindP [] (.nm 5) d [some (.val (.tup bs)), some (.val (.int 2)), some (.val (.int most)), some (.val (.int m)), some (.val (.int w)), none] = some [some (.val (.tup bs)), some (.val (.int 2)), some (.val (.int most)), some (.val (.int m)), some (.val (.int w)), some (.val d)] := by simp [bindP, setV]
    have ey : ∀ ρ : Rho, mYes ρ = some (.ok (.val (.bl true)), ρ) := fun _ => rfl
    have er : mCall m_is_block (aCons (mVar 5) (aCons (mVar 1) (aCons (mVar 2) (aCons (mVar 3) (aCons (mVar 4) (aCons (mCB (fOr1 fLen fLenD) (aCons (mVar 0) aNil)) aNil)))))) [some (.val (.tup bs)), some (.val (.int 2)), some (.val (.int most)), some (.val (.int m)), some (.val (.int w)), some (.val d)] = some (.ok (.val (.bl true)), [some (.val (.tup bs)), some (.val (.int 2)), some (.val (.int most)), some (.val (.int m)), some (.val (.int w)), some (.val d)]) := by
      simp [mFn0, mFn, sSeq, sThen, sIf, sRet, sNx, sAsgV, setV, mOp2, mOpL, look, O.pk, mVar, mC, bnd, mCB, aCons, aNil, dsOf, fOr1, fLen, fIntOf, fCmp, fInt, fIntC, O.frz, fIxA, fAddA, fMulA, fOr, fIx, pinsAux, fin, O.isOwn, bMod, bMul, bDivW, bPow, mTup, mCall, splitIo, hd]
    rw [eb]
    simp only [ey, O.frz, er, wipeR, List.set_cons_succ, List.set_cons_zero]
    have e9 : (List.replicate k (D.bl true)) ++ [D.bl true] = List.replicate (k + 1) (D.bl true) := List.replicate_succ'.symm
    rw [e9]
    refine ih.trans ?_
    rw [List.length_cons]
    have : k + 1 + l.length = k + (l.length + 1) := by omega
    rw [this]
theorem areblocks (bs : List D) (T : Int → List Int) (size : Nat) (m w : Int) (g : Graph size bs T) (h : ∀ d ∈ bs, Blk m w size 12 d) :
    m_are_blocks [.val (.tup bs), .val (.int 2), .val (.int 12), .val (.int m), .val (.int w)] = some (.ok (.val (.bl true)), [.val (.tup bs), .val (.int 2), .val (.int 12), .val (.int m), .val (.int w)]) := by
  have gl := g.len
  have g1 := g.one
  have gt := g.top
  obtain ⟨kds, hk, hr⟩ := reached size bs T g
  have e := blocks_lc none none bs 12 m w bs 0 (by rw [gl]; exact h)
  rw [Nat.zero_add] at e
  have e1 : mLc (iWalk (mVar 0)) [5] (.nm 5) mYes (mCall m_is_block (aCons (mVar 5) (aCons (mVar 1) (aCons (mVar 2) (aCons (mVar 3) (aCons (mVar 4) (aCons (mCB (fOr1 fLen fLenD) (aCons (mVar 0) aNil)) aNil))))))) [some (.val (.tup bs)), some (.val (.int 2)), some (.val (.int 12)), some (.val (.int m)), some (.val (.int w)), none]
      = some (.ok (.lst (List.replicate bs.length (.bl true))), [some (.val (.tup bs)), some (.val (.int 2)), some (.val (.int 12)), some (.val (.int m)), some (.val (.int w)), none]) := by
    have e0 : VL.iWalk (mVar 0) [some (.val (.tup bs)), some (.val (.int 2)), some (.val (.int 12)), some (.val (.int m)), some (.val (.int w)), none] = some (bs, [some (.val (.tup bs)), some (.val (.int 2)), some (.val (.int 12)), some (.val (.int m)), some (.val (.int w)), none]) := by rfl
    unfold mLc
    rw [e0]
    have hc : clean [5] [some (.val (.tup bs)), some (.val (.int 2)), some (.val (.int 12)), some (.val (.int m)), some (.val (.int w)), none] = true ∧ bs.length ≤ 100000 := ⟨by simp [clean], by omega⟩
    simp only [if_pos hc]
    exact e
  have l1 : fOr1 fLen fLenD [.tup bs] = some (.val (.int size)) := by simp [fOr1, fLen, gl]
  have l2 : fOr1 fLen fLenD [.dic kds] = some (.val (.int size)) := by simp [fOr1, fLen, fLenD, hk]
  have t1 : truD (.bl true) = some true := by rfl
  have c1 : decide ((1 : Int) ≤ size) = true := by simp; omega
  have c2 : decide ((size : Int) < 17) = true := by simp; omega
  simp only [← gl] at l1 l2 c1 c2
  simp [m_are_blocks, mFn0, mFn, sSeq, sThen, sIf, sRet, sNx, mOr, mNot, mTru, mIs, mVar, bnd, O.frz, tupi, t1, mCall, splitIo, aCons, aNil, mCB, dsOf, l1, mC, mOp2, fAddA, fOr, fInt, isint, c1, c2, e1, all_true, hr, l2, eq_int, pinsAux, fin, O.isOwn]
end VM

end
section
open PySem PySem.Spec VL L2
namespace VM
open VG
def prog (m : Int) (bs : List D) (h w : Int) : List (Str × D) := [("many", .int m), ("blocks", .tup bs), ("handed", .int h), ("span", .int w)]
theorem wrong (bs : List D) (T : Int → List Int) (size : Nat) (m w h : Int) (g : Graph size bs T) (hb : ∀ d ∈ bs, Blk m w size 12 d) (hm : 1 ≤ m ∧ m ≤ 8) (hh : 0 ≤ h ∧ h ≤ 3 ∧ h ≤ m) (hw : 2 ≤ w ∧ w ≤ 8) :
    m_wrong_part [.val (.int m), .val (.tup bs), .val (.int h), .val (.int w)] = some (.ok (.val .non), [.val (.int m), .val (.tup bs), .val (.int h), .val (.int w)]) := by
  have e := areblocks bs T size m w g hb
  have t1 : truD (.bl true) = some true := by rfl
  have c1 : decide (1 ≤ m) = true := by simp; omega
  have c2 : decide (m < 9) = true := by simp; omega
  have c3 : decide (0 ≤ h) = true := by simp; omega
  have c4 : decide (h < (if m < 3 then m else 3) + 1) = true := by
    simp
    split <;> omega
  have c5 : decide (2 ≤ w) = true := by simp; omega
  have c6 : decide (w < 9) = true := by simp; omega
  simp only [decide_eq_true_eq] at c1 c2 c3 c4 c5 c6
  simp [m_wrong_part, mFn0, mFn, sSeq, sThen, sIf, sRet, sNx, mNot, mTru, mVar, bnd, O.frz, t1, mCall, splitIo, aCons, aNil, mCB, dsOf, fMin2, mC, mOp2, fAddA, fOr, fInt, isint, c1, c2, c3, c4, c5, c6, e, pinsAux, fin, O.isOwn]
theorem init (bs : List D) (T : Int → List Int) (size : Nat) (m w h : Int) (g : Graph size bs T) (hb : ∀ d ∈ bs, Blk m w size 12 d) (hm : 1 ≤ m ∧ m ≤ 8) (hh : 0 ≤ h ∧ h ≤ 3 ∧ h ≤ m) (hw : 2 ≤ w ∧ w ≤ 8) :
    m_Program___init__ [.ins 3 [], .val (.int m), .val (.tup bs), .val (.int h), .val (.int w)] = some (.ok (.val .non), [.ins 3 (prog m bs h w), .val (.int m), .val (.tup bs), .val (.int h), .val (.int w)]) := by
  have e := wrong bs T size m w h g hb hm hh hw
  have p1 : putFD "many" (.int m) [] = ([("many", .int m)] : List (Str × D)) := by rfl
  have p2 : putFD "blocks" (.tup bs) ([("many", .int m)] : List (Str × D)) = ([("many", .int m), ("blocks", .tup bs)] : List (Str × D)) := by kernel_rfl
  have p3 : putFD "handed" (.int h) ([("many", .int m), ("blocks", .tup bs)] : List (Str × D)) = ([("many", .int m), ("blocks", .tup bs), ("handed", .int h)] : List (Str × D)) := by kernel_rfl
  have p4 : putFD "span" (.int w) ([("many", .int m), ("blocks", .tup bs), ("handed", .int h)] : List (Str × D)) = prog m bs h w := by kernel_rfl
  have n1 : VL.isNon .non = true := by rfl
  simp [m_Program___init__, mFn, sSeq, sThen, sIf, sNx, sAsgV, setV, mVar, bnd, O.frz, mCall, splitIo, aCons, aNil, mC, mOp2, fIsN, n1, e, sFldM, p1, p2, p3, p4, pinsAux, fin, O.isOwn]
end VM

end
section
open PySem PySem.Spec VL L2
namespace VM
open VG
theorem tg_of {m size : Int} {cs : List Int} {e : D} (h : EndOk m size cs e) : ∃ ts : List Int, Tg e ts ∧ ts.length ≤ 2 ∧ (∀ c ∈ ts, 1 ≤ c ∧ c < size) ∧ ∀ c ∈ cs, c ∈ ts := by
  rcases h with ⟨h0, rfl⟩ | ⟨n, hn, hc, rfl⟩ | ⟨r, x, y, hr, hx, hy, hc, rfl⟩
  · exact ⟨[], .stop, by simp, by simp, by rw [h0]; simp⟩
  · exact ⟨[n], .go n, by simp, fun c h => by
      have : c = n := by simpa using h
      omega, fun c h => by simp [hc c h]⟩
  · exact ⟨[x, y], .part r x y, by simp, fun c h => by
      have : c = x ∨ c = y := by simpa using h
      rcases this with rfl | rfl <;> assumption, fun c h => by simpa using hc c h⟩
theorem graph (m w : Int) (size : Nat) (os : List (List Int)) (bs : List D) (h1 : 1 ≤ size) (h7 : size ≤ 7) (hl : bs.length = size) (ho : OutsOk size (size : Int) os) (hb : ∀ q d, bs[q]? = some d → BlockOk m w size os q d) :
    ∃ T : Int → List Int, Graph size bs T ∧ ∀ d ∈ bs, Blk m w size 3 d := by
  have key : ∀ p : Nat, ∃ ts : List Int, p < size → ∃ rows e cs, bs[p]? = some (.tup [.tup rows, e]) ∧ Tg e ts ∧ ts.length ≤ 2 ∧ (∀ c ∈ ts, 1 ≤ c ∧ c < (size : Int)) ∧ os[p]? = some cs ∧ ∀ c ∈ cs, c ∈ ts := fun p => by
    by_cases hp : p < size
    · have hg : bs[p]? = some bs[p] := by simp [show p < bs.length by omega]
      obtain ⟨rows, e, cs, ed, _, _, ho1, he⟩ := hb p _ hg
      obtain ⟨ts, t1, t2, t3, t4⟩ := tg_of he
      exact ⟨ts, fun _ => ⟨rows, e, cs, by rw [hg, ed], t1, t2, t3, ho1, t4⟩⟩
    · exact ⟨[], fun z => absurd z hp⟩
  obtain ⟨T, hT⟩ := Classical.axiomOfChoice key
  refine ⟨fun c => T c.toNat, ⟨hl, h1, by omega, fun p hp => ?_, fun p hp => ?_, fun c c1 c2 => ?_⟩, fun d hd => ?_⟩
  · obtain ⟨rows, e, cs, e1, e2, _⟩ := hT p hp
    exact ⟨.tup rows, e, e1, by simpa using e2⟩
  · obtain ⟨rows, e, cs, e1, e2, e3, e4, _⟩ := hT p hp
    exact ⟨by simpa using e3, by simpa using e4⟩
  · obtain ⟨p, cs, p1, p2, p3⟩ := ho.all c c1 c2
    obtain ⟨rows, e, cs', e1, e2, e3, e4, e5, e6⟩ := hT p (by omega)
    rw [p2] at e5
    cases e5
    exact ⟨p, p1, by simpa using e6 c p3⟩
  · obtain ⟨q, hq, e⟩ := List.mem_iff_getElem.mp hd
    obtain ⟨rows, e', cs, ed, r1, r2, _, he⟩ := hb q d (by rw [← e]; simp [hq])
    exact ⟨rows, e', cs, ed, by omega, by omega, r2, he⟩
theorem made (d : D) (h : PlainOk d) : ∃ (m w h : Int) (size : Nat) (os : List (List Int)) (bs : List D) (T : Int → List Int), d = .tup [.int m, .tup bs, .int h, .int w] ∧ (1 ≤ m ∧ m ≤ 3) ∧ (2 ≤ w ∧ w ≤ 4) ∧ (0 ≤ h ∧ h ≤ 2 ∧ h ≤ m) ∧ Graph size bs T ∧ (∀ d ∈ bs, Blk m w size 3 d) ∧
    m_law_made [.val d] = some (.ok (.ins 3 (prog m bs h w)), [.val d]) := by
  obtain ⟨m, w, h, size, os, bs, rfl, hm, hw, hs, hh, hl, ho, hb⟩ := h
  obtain ⟨T, g, hk⟩ := graph m w size os bs hs.1 hs.2 hl ho hb
  have e := init bs T size m w h g (fun d hd => by
    obtain ⟨rows, e, cs, e1, e2, e3, e4, e5⟩ := hk d hd
    exact ⟨rows, e, cs, e1, by omega, e3, e4, e5⟩) (by omega) (by omega) (by omega)
  refine ⟨m, w, h, size, os, bs, T, rfl, hm, hw, hh, g, hk, ?_⟩
  have x0 : fIxA (.tup [.int m, .tup bs, .int h, .int w]) (.int 0) = some (.val (.int m)) := by kernel_rfl
  have x1 : fIxA (.tup [.int m, .tup bs, .int h, .int w]) (.int 1) = some (.val (.tup bs)) := by kernel_rfl
  have x2 : fIxA (.tup [.int m, .tup bs, .int h, .int w]) (.int 2) = some (.val (.int h)) := by kernel_rfl
  have x3 : fIxA (.tup [.int m, .tup bs, .int h, .int w]) (.int 3) = some (.val (.int w)) := by kernel_rfl
  simp [m_law_made, mFn0, mFn, sRet, mMake, aCons, aNil, mOp2, mVar, mC, bnd, O.frz, x0, x1, x2, x3, dsOnly, e, pinsAux, fin, O.isOwn]
end VM

end
section
open PySem PySem.Spec VL L2
namespace VM
open VG
/-! ### data that can be compared, and is equal to itself -/
def Sh (n : Nat) (d : D) : Prop := ∃ p, toPy d = some p ∧ p.canLay0 = true ∧ p.depth ≤ n ∧ PyData.eqv p p = true
def Shs (n : Nat) (ds : List D) : Prop := ∃ ps, toPys ds = some ps ∧ PyData.canLayAll0 ps = true ∧ PyData.depthAll ps ≤ n ∧ PyData.eqvAll ps ps = true
theorem Sh.mono {n k : Nat} {d : D} (h : Sh n d) (hk : n ≤ k) : Sh k d := by
  obtain ⟨p, h1, h2, h3, h4⟩ := h
  exact ⟨p, h1, h2, by omega, h4⟩
theorem Sh.int (i : Int) : Sh 0 (.int i) := ⟨.int i, by simp [toPy], lay_int i, by simp [dep_int], by simp [PyData.eqv]⟩
theorem Sh.str (x : Str) (h : (PyData.str x).canLay0 = true) : Sh 0 (.str x) := ⟨.str x, by simp [toPy], h, Nat.le_of_eq (by rfl), by simp [PyData.eqv]⟩
theorem Shs.nil (n : Nat) : Shs n [] := ⟨[], by simp [toPys], by rfl, Nat.zero_le _, by simp [PyData.eqvAll]⟩
theorem Shs.cons {n : Nat} {d : D} {ds : List D} (h : Sh n d) (hs : Shs n ds) : Shs n (d :: ds) := by
  obtain ⟨p, h1, h2, h3, h4⟩ := h
  obtain ⟨ps, g1, g2, g3, g4⟩ := hs
  refine ⟨p :: ps, by simp [toPys, h1, g1], ?_, ?_, ?_⟩
  · unfold PyData.canLayAll0
    rw [h2, g2] <;> rfl
  · unfold PyData.depthAll
    exact Nat.max_le.mpr ⟨h3, g3⟩
  · simp [PyData.eqvAll, h4, g4]
theorem Shs.of {n : Nat} : ∀ (ds : List D), (∀ d ∈ ds, Sh n d) → Shs n ds
  | [], _ => Shs.nil n
  | d :: ds, h => Shs.cons (h d (by simp)) (Shs.of ds fun x hx => h x (List.mem_cons_of_mem _ hx))
theorem Sh.tup {n : Nat} {ds : List D} (h : Shs n ds) : Sh (n + 1) (.tup ds) := by
  obtain ⟨ps, g1, g2, g3, g4⟩ := h
  refine ⟨.tuple ps, by simp [toPy, g1], ?_, ?_, ?_⟩
  · unfold PyData.canLay0
    exact g2
  · unfold PyData.depth
    omega
  · simp [PyData.eqv, g4]
theorem Sh.lst {n : Nat} {ds : List D} (h : Shs n ds) : Sh (n + 1) (.lst ds) := by
  obtain ⟨ps, g1, g2, g3, g4⟩ := h
  refine ⟨.list ps, by simp [toPy, g1], ?_, ?_, ?_⟩
  · unfold PyData.canLay0
    exact g2
  · unfold PyData.depth
    omega
  · simp [PyData.eqv, g4]
theorem Sh.eq {d : D} (h : Sh 64 d) : fEq d d = some (.val (.bl true)) := by
  obtain ⟨p, h1, h2, h3, h4⟩ := h
  simp [fEq, h1, SeqAt.shaped, h2, h3, h4]
theorem Sh.ne {d : D} (h : Sh 64 d) : fNe d d = some (.val (.bl false)) := by
  obtain ⟨p, h1, h2, h3, h4⟩ := h
  simp [fNe, h1, SeqAt.shaped, h2, h3, h4]
theorem eqvAll_len : ∀ (xs ys : List PyData), PyData.eqvAll xs ys = true → xs.length = ys.length
  | [], [], _ => rfl
  | [], _ :: _, h => by simp [PyData.eqvAll] at h
  | _ :: _, [], h => by simp [PyData.eqvAll] at h
  | x :: xs, y :: ys, h => by
    simp [PyData.eqvAll] at h
    simp [eqvAll_len xs ys h.2]
theorem toPys_len : ∀ (ds : List D) (ps : List PyData), toPys ds = some ps → ps.length = ds.length
  | [], ps, h => by
    simp [toPys] at h
    subst h
    rfl
  | d :: ds, ps, h => by
    unfold toPys at h
    cases e : toPy d with
    | none => rw [e] at h; cases h
    | some p =>
      rw [e] at h
      cases e2 : toPys ds with
      | none => rw [e2] at h; cases h
      | some qs =>
        rw [e2] at h
        cases h
        simp [toPys_len ds qs e2]
/-- the first blocks have not as many rows -/
theorem eq_first {r1 r2 r : List D} {e : D} (h1 : Shs 3 r1) (h2 : Shs 3 r2) (he : Sh 3 e) (hr : Shs 5 r) (hl : r1.length ≠ r2.length) :
    fEq (.tup (.tup [.tup r1, e] :: r)) (.tup (.tup [.tup r2, e] :: r)) = some (.val (.bl false)) := by
  obtain ⟨p1, a1, a2, a3, a4⟩ := h1
  obtain ⟨p2, b1, b2, b3, b4⟩ := h2
  obtain ⟨q, c1, c2, c3, c4⟩ := he
  obtain ⟨rs, d1, d2, d3, d4⟩ := hr
  have l1 := toPys_len _ _ a1
  have l2 := toPys_len _ _ b1
  have ne : PyData.eqvAll p1 p2 = false := by
    cases z : PyData.eqvAll p1 p2 with
    | false => rfl
    | true =>
      have := eqvAll_len _ _ z
      omega
  have t1 : toPy (.tup (.tup [.tup r1, e] :: r)) = some (.tuple (.tuple [.tuple p1, q] :: rs)) := by simp [toPy, toPys, a1, c1, d1]
  have t2 : toPy (.tup (.tup [.tup r2, e] :: r)) = some (.tuple (.tuple [.tuple p2, q] :: rs)) := by simp [toPy, toPys, b1, c1, d1]
  have s1 : SeqAt.shaped (.tuple (.tuple [.tuple p1, q] :: rs)) = true := by
    simp [SeqAt.shaped, PyData.canLay0, PyData.canLayAll0, PyData.depth, PyData.depthAll, a2, c2, d2]
    omega
  have s2 : SeqAt.shaped (.tuple (.tuple [.tuple p2, q] :: rs)) = true := by
    simp [SeqAt.shaped, PyData.canLay0, PyData.canLayAll0, PyData.depth, PyData.depthAll, b2, c2, d2]
    omega
  simp [fEq, t1, t2, s1, s2, PyData.eqv, PyData.eqvAll, ne]
theorem Sh.row {m w : Int} {d : D} (h : RowOk m w d) : Sh 1 d := by
  have I : ∀ i, Sh 0 (.int i) := Sh.int
  cases h with
  | put r n h k => exact Sh.tup (.cons (.str _ (by kernel_rfl)) (.cons (I _) (.cons (I _) (.nil _))))
  | move r s h k => exact Sh.tup (.cons (.str _ (by kernel_rfl)) (.cons (I _) (.cons (I _) (.nil _))))
  | take r h => exact Sh.tup (.cons (.str _ (by kernel_rfl)) (.cons (I _) (.nil _)))
  | tell r h => exact Sh.tup (.cons (.str _ (by kernel_rfl)) (.cons (I _) (.nil _)))
  | add r s t h k l => exact Sh.tup (.cons (.str _ (by kernel_rfl)) (.cons (I _) (.cons (I _) (.cons (I _) (.nil _)))))
  | sub r s t h k l => exact Sh.tup (.cons (.str _ (by kernel_rfl)) (.cons (I _) (.cons (I _) (.cons (I _) (.nil _)))))
  | less r s t h k l => exact Sh.tup (.cons (.str _ (by kernel_rfl)) (.cons (I _) (.cons (I _) (.cons (I _) (.nil _)))))
theorem Sh.end_ {m c : Int} {cs : List Int} {d : D} (h : EndOk m c cs d) : Sh 1 d := by
  have I : ∀ i, Sh 0 (.int i) := Sh.int
  rcases h with ⟨_, rfl⟩ | ⟨n, hn, _, rfl⟩ | ⟨r, x, y, hr, hx, hy, _, rfl⟩
  · exact Sh.tup (.cons (.str _ (by kernel_rfl)) (.nil _))
  · exact Sh.tup (.cons (.str _ (by kernel_rfl)) (.cons (I _) (.nil _)))
  · exact Sh.tup (.cons (.str _ (by kernel_rfl)) (.cons (I _) (.cons (I _) (.cons (I _) (.nil _)))))
theorem Sh.blk {m w c most : Int} {d : D} (h : Blk m w c most d) : Sh 3 d := by
  obtain ⟨rows, e, cs, rfl, _, _, h3, h4⟩ := h
  exact Sh.tup (.cons (Sh.tup (Shs.of rows fun r hr => Sh.row (h3 r hr))) (.cons ((Sh.end_ h4).mono (by omega)) (.nil _)))
end VM

end
section
open PySem PySem.Spec VL L2
namespace VM
open VG
def mk (p : List D × D) : D := .tup [.tup p.1, p.2]
theorem ey (ρ : Rho) : mYes ρ = some (.ok (.val (.bl true)), ρ) := rfl
theorem x_last (p : List D × D) : fIxA (mk p) (.int (-1)) = some (.val p.2) := by
  unfold mk
  kernel_rfl
theorem x_m2 (p : List D × D) : fIxA (mk p) (.int (-2)) = some (.val (.tup p.1)) := by
  unfold mk
  kernel_rfl
theorem x_0 (p : List D × D) : fIxA (mk p) (.int 0) = some (.val (.tup p.1)) := by
  unfold mk
  kernel_rfl
theorem x_1 (p : List D × D) : fIxA (mk p) (.int 1) = some (.val p.2) := by
  unfold mk
  kernel_rfl
def endM : M := mOp2 fIxA (mVar 1) (mUn fNeg (mC (.int (1))))
theorem ends_lc (s0 : Option O) : ∀ (ps : List (List D × D)) (acc : List D),
    lcLoop [1] (.nm 1) mYes endM (ps.map mk) [s0, none] acc = some (.ok (.lst (acc ++ ps.map (·.2))), [s0, none])
  | [], acc => by simp [lcLoop]
  | p :: ps, acc => by
    rw [List.map_cons]
    unfold lcLoop
    have eb : bindP [] (.nm 1) (mk p) [s0, none] = some [s0, some (.val (mk p))] := by simp [bindP, setV]
    have er : endM [s0, some (.val (mk p))] = some (.ok (.val p.2), [s0, some (.val (mk p))]) := by
      simp [endM, mOp2, mVar, mUn, fNeg, mC, bnd, O.frz, x_last]
    rw [eb]
    simp only [ey, O.frz, er, wipeR, List.set_cons_succ, List.set_cons_zero]
    refine (ends_lc s0 ps (acc ++ [p.2])).trans ?_
    simp
def plainD (m : Int) (ps : List (List D × D)) (h w : Int) : D := .tup [.int m, .tup (ps.map mk), .int h, .int w]
theorem ends (m : Int) (ps : List (List D × D)) (h w : Int) (hl : ps.length ≤ 16) : m_law_ends [.val (plainD m ps h w)] = some (.ok (.lst (ps.map (·.2))), [.val (plainD m ps h w)]) := by
  have x1 : fIxA (plainD m ps h w) (.int 1) = some (.val (.tup (ps.map mk))) := by
    unfold plainD
    kernel_rfl
  have w1 : walkD (.tup (ps.map mk)) = some (ps.map mk) := by rfl
  have e := ends_lc (some (.val (plainD m ps h w))) ps []
  have hl2 : ps.length ≤ 100000 := by omega
  rw [List.nil_append] at e
  have em : m_law_ends = mFn0 1 2 (sRet (mLc (iWalk (mOp2 fIxA (mVar 0) (mC (.int (1))))) [1] (.nm 1) mYes endM)) := rfl
  have e0 : VL.iWalk (mOp2 fIxA (mVar 0) (mC (.int (1)))) [some (.val (plainD m ps h w)), none] = some (ps.map mk, [some (.val (plainD m ps h w)), none]) := by
    simp [VL.iWalk, mOp2, mVar, mC, bnd, O.frz, x1, w1]
  have e2 : mLc (iWalk (mOp2 fIxA (mVar 0) (mC (.int (1))))) [1] (.nm 1) mYes endM [some (.val (plainD m ps h w)), none] = some (.ok (.lst (ps.map (·.2))), [some (.val (plainD m ps h w)), none]) := by
    unfold mLc
    rw [e0]
    have hc : clean [1] [some (.val (plainD m ps h w)), none] = true ∧ (ps.map mk).length ≤ 100000 := ⟨by simp [clean], by simpa using hl2⟩
    simp only [if_pos hc]
    exact e
  rw [em]
  simp [mFn0, mFn, sRet, bnd, e2, pinsAux, fin, O.isOwn]
def row1 (i : Int) (n : Nat) : List D := (List.range n).map fun (j : Nat) => .tup [.int i, .int (j : Int)]
def pts : Nat → List (List D × D) → List D
  | _, [] => []
  | k, p :: ps => row1 k (p.1.length + 1) ++ pts (k + 1) ps
theorem pts_lc (s0 s1 s3 : Option O) (i : Int) : ∀ (l : List Nat) (acc : List D),
    lcLoop [4] (.nm 4) mYes (mTup (aCons (mVar 2) (aCons (mVar 4) aNil))) (l.map fun (j : Nat) => D.int (0 + (j : Int))) [s0, s1, some (.val (.int i)), s3, none] acc
      = some (.ok (.lst (acc ++ l.map fun (j : Nat) => D.tup [.int i, .int (j : Int)])), [s0, s1, some (.val (.int i)), s3, none])
  | [], acc => by simp [lcLoop]
  | j :: l, acc => by
    rw [List.map_cons]
    unfold lcLoop
    have eb : bindP [] (.nm 4) (.int (0 + (j : Int))) [s0, s1, some (.val (.int i)), s3, none] = some [s0, s1, some (.val (.int i)), s3, some (.val (.int (0 + (j : Int))))] := by simp [bindP, setV]
    have er : mTup (aCons (mVar 2) (aCons (mVar 4) aNil)) [s0, s1, some (.val (.int i)), s3, some (.val (.int (0 + (j : Int))))] = some (.ok (.val (.tup [.int i, .int (j : Int)])), [s0, s1, some (.val (.int i)), s3, some (.val (.int (0 + (j : Int))))]) := by
      simp [mTup, aCons, aNil, mVar, bnd, O.frz, dsOf]
    rw [eb]
    simp only [ey, O.frz, er, wipeR, List.set_cons_succ, List.set_cons_zero]
    refine (pts_lc s0 s1 s3 i l _).trans ?_
    simp
end VM

end
section
open PySem PySem.Spec VL L2
namespace VM
open VG
theorem enumD_get : ∀ (ds : List D) (k i : Nat) (d : D), (enumD k ds)[i]? = some d → ∃ x, ds[i]? = some x ∧ d = .tup [.int ((k + i : Nat) : Int), x]
  | [], k, i, d, h => by simp [enumD] at h
  | x :: xs, k, 0, d, h => by
    simp [enumD] at h
    exact ⟨x, rfl, by rw [← h]; simp⟩
  | x :: xs, k, i + 1, d, h => by
    simp only [enumD, List.getElem?_cons_succ] at h
    obtain ⟨y, h1, h2⟩ := enumD_get xs (k + 1) i d h
    refine ⟨y, by simpa using h1, ?_⟩
    rw [h2, show k + 1 + i = k + (i + 1) by omega]
theorem enumD_len : ∀ (ds : List D) (k : Nat), (enumD k ds).length = ds.length
  | [], _ => rfl
  | x :: xs, k => by simp [enumD, enumD_len xs]
theorem sum_le (f : D → Nat) (b : Nat) : ∀ ds : List D, (∀ d ∈ ds, f d ≤ b) → (ds.map f).sum ≤ ds.length * b
  | [], _ => by simp
  | d :: ds, h => by
    have h1 := h d List.mem_cons_self
    have h2 := sum_le f b ds fun x hx => h x (List.mem_cons_of_mem _ hx)
    rw [List.map_cons, List.sum_cons, List.length_cons, Nat.succ_mul]
    omega
def nr (ps : List (List D × D)) (j : Nat) : Nat := match ps[j]? with
  | some p => p.1.length
  | none => 0
def PT (ps : List (List D × D)) (k : Nat) : List D := (List.range k).flatMap fun (j : Nat) => row1 (j : Int) (nr ps j + 1)
/-- what is asked of the blocks -/
structure Ps (ps : List (List D × D)) : Prop where
  top : ps.length ≤ 16
  each : ∀ p ∈ ps, p.1.length ≤ 12
variable {ps : List (List D × D)}
theorem Ps.nr (h : Ps ps) (j : Nat) : nr ps j ≤ 12 := by
  unfold VM.nr
  split
  · rename_i p e
    exact h.each p (List.mem_of_getElem? e)
  · omega
theorem row1_len (i : Int) (n : Nat) : (row1 i n).length = n := by simp [row1]
theorem PT_len (h : Ps ps) (k : Nat) : (PT ps k).length ≤ k * 13 := by
  induction k with
  | zero => simp [PT]
  | succ k ih =>
    have e : PT ps (k + 1) = PT ps k ++ row1 (k : Int) (nr ps k + 1) := by
      unfold PT
      rw [List.range_succ, List.flatMap_append]
      simp
    rw [e, List.length_append, row1_len]
    have := h.nr k
    omega
theorem PT_succ (k : Nat) : PT ps (k + 1) = PT ps k ++ row1 (k : Int) (nr ps k + 1) := by
  unfold PT
  rw [List.range_succ, List.flatMap_append]
  simp
/-! ### all_points -/
def esP (ps : List (List D × D)) (d : D) : List D := match d with
  | .int i => (List.range (nr ps i.toNat + 1)).map fun (j : Nat) => D.int (j : Int)
  | _ => []
def gsP (ps : List (List D × D)) (d : D) : List D := match d with
  | .int i => row1 i (nr ps i.toNat + 1)
  | _ => []
def apI : MI := iRange1 (aCons (mOp2 fAddA (mCB (fOr1 fLen fLenD) (aCons (mOp2 fIxA (mOp2 fIxA (mVar 0) (mVar 1)) (mUn fNeg (mC (.int (2))))) aNil)) (mC (.int (1)))) aNil)
def apT : M := mTup (aCons (mVar 1) (aCons (mVar 2) aNil))
theorem ix_at (b : Nat) (p : List D × D) (e : ps[b]? = some p) : fIxA (.tup (ps.map mk)) (.int (b : Int)) = some (.val (mk p)) := by
  have hl : b < ps.length := (List.getElem?_eq_some_iff.mp e).1
  have hb' := (List.getElem?_eq_some_iff.mp e).2
  simp [fIxA, fOr, fIx, atI, ixN, hl, hb']
theorem apI_run (h : Ps ps) (j : Nat) (p : List D × D) (e : ps[j]? = some p) (s2 : Option O) : apI [some (.val (.tup (ps.map mk))), some (.val (.int (j : Int))), s2] = some (esP ps (.int (j : Int)), [some (.val (.tup (ps.map mk))), some (.val (.int (j : Int))), s2]) := by
  have hb := ix_at j p e
  have l1 : fOr1 fLen fLenD [.tup p.1] = some (.val (.int p.1.length)) := by simp [fOr1, fLen]
  have en : nr ps j = p.1.length := by unfold nr; rw [e]
  have hn := h.nr j
  have q : esP ps (.int (j : Int)) = (List.range (nr ps j + 1)).map fun (j : Nat) => D.int (j : Int) := by simp [esP]
  rw [q]
  unfold apI
  refine iRange1_run ?_ (by omega)
  simp [aCons, aNil, mOp2, mCB, mVar, mUn, fNeg, mC, bnd, O.frz, hb, x_m2, dsOf, l1, fAddA, fOr, fInt, en]
theorem all_points (h : Ps ps) : m_all_points [.val (.tup (ps.map mk))] = some (.ok (.lst (PT ps ps.length)), [.val (.tup (ps.map mk))]) := by
  have ht := h.top
  have l0 : fOr1 fLen fLenD [.tup (ps.map mk)] = some (.val (.int ps.length)) := by simp [fOr1, fLen]
  have em : m_all_points = mFn0 1 3 (sRet (mLc2 (iRange1 (aCons (mCB (fOr1 fLen fLenD) (aCons (mVar 0) aNil)) aNil)) [1, 2] (.nm 1) apI [2] (.nm 2) mYes apT)) := rfl
  have ei : iRange1 (aCons (mCB (fOr1 fLen fLenD) (aCons (mVar 0) aNil)) aNil) [some (.val (.tup (ps.map mk))), none, none] = some ((List.range ps.length).map fun (j : Nat) => D.int (j : Int), [some (.val (.tup (ps.map mk))), none, none]) := by
    refine iRange1_run ?_ (by omega)
    simp [aCons, aNil, mCB, mVar, bnd, O.frz, dsOf, l0]
  have e2 : mLc2 (iRange1 (aCons (mCB (fOr1 fLen fLenD) (aCons (mVar 0) aNil)) aNil)) [1, 2] (.nm 1) apI [2] (.nm 2) mYes apT [some (.val (.tup (ps.map mk))), none, none] = some (.ok (.lst (PT ps ps.length)), [some (.val (.tup (ps.map mk))), none, none]) := by
    rw [mLc2_run ei (by simp [clean])]
    have := lcOut_inv (vs := [1, 2]) (p := .nm 1) (mi := apI) (vs1 := [2]) (p1 := .nm 2) (mt := mYes) (me := apT) (ρ := [some (.val (.tup (ps.map mk))), none, none])
      (fun d => [some (.val (.tup (ps.map mk))), some (.val d), none]) (esP ps) (gsP ps) ((List.range ps.length).map fun (j : Nat) => D.int (j : Int)) [] 100000 (fun d hd => by
        obtain ⟨j, hj, rfl⟩ := List.mem_map.mp hd
        have hj' : j < ps.length := List.mem_range.mp hj
        have e : ps[j]? = some ps[j] := by simp [hj']
        refine ⟨by simp [bindP, setV], by simp [wipeR], apI_run h j _ e none, by simp [clean], fun acc ha => ?_, by simp [gsP, esP, row1_len]⟩
        rw [lcIn_all (fun x => [some (.val (.tup (ps.map mk))), some (.val (.int (j : Int))), some (.val x)]) (fun x => .tup [.int (j : Int), x]) _ _ (fun x hx => ⟨by simp [bindP, setV], by simp [wipeR], .val (.tup [.int (j : Int), x]), by simp [apT, mTup, aCons, aNil, mVar, bnd, O.frz, dsOf], rfl⟩) ha]
        simp [gsP, esP, row1, Function.comp_def]) (by
        have := sum_le (fun d => (esP ps d).length) 13 ((List.range ps.length).map fun (j : Nat) => D.int (j : Int)) fun d hd => by
          obtain ⟨j, hj, rfl⟩ := List.mem_map.mp hd
          have := h.nr j
          simp [esP]
          omega
        rw [List.length_map, List.length_range] at this
        rw [List.length_nil]
        omega)
    rw [this]
    simp [gsP, PT, List.flatMap_map]
  rw [em]
  simp [mFn0, mFn, sRet, bnd, e2, pinsAux, fin, O.isOwn]
/-! ### _law_points -/
def lpI : MI := iRange1 (aCons (mOp2 fAddA (mCB (fOr1 fLen fLenD) (aCons (mOp2 fIxA (mVar 3) (mC (.int (0)))) aNil)) (mC (.int (1)))) aNil)
def lpT : M := mTup (aCons (mVar 2) (aCons (mVar 4) aNil))
def lpB : MS := sAsgV 1 (mOp2 fAddA (mVar 1) (mLc lpI [4] (.nm 4) mYes lpT))
theorem lp_lc (s0 s1 : Option O) (k : Nat) (p : List D × D) (hp : p.1.length ≤ 12) : mLc lpI [4] (.nm 4) mYes lpT [s0, s1, some (.val (.int (k : Int))), some (.val (mk p)), none] = some (.ok (.lst (row1 (k : Int) (p.1.length + 1))), [s0, s1, some (.val (.int (k : Int))), some (.val (mk p)), none]) := by
  have l1 : fOr1 fLen fLenD [.tup p.1] = some (.val (.int p.1.length)) := by simp [fOr1, fLen]
  have ei : lpI [s0, s1, some (.val (.int (k : Int))), some (.val (mk p)), none] = some ((List.range (p.1.length + 1)).map fun (j : Nat) => D.int (j : Int), [s0, s1, some (.val (.int (k : Int))), some (.val (mk p)), none]) := by
    unfold lpI
    refine iRange1_run ?_ (by omega)
    simp [aCons, aNil, mOp2, mCB, mVar, mC, bnd, O.frz, x_0, dsOf, l1, fAddA, fOr, fInt]
  rw [mLc_run ei (by simp [clean]) (by rw [List.length_map, List.length_range]; omega)]
  rw [lcLoop_all (fun x => [s0, s1, some (.val (.int (k : Int))), some (.val (mk p)), some (.val x)]) (fun x => .tup [.int (k : Int), x]) _ _ (fun x hx => ⟨by simp [bindP, setV], by simp [wipeR], .val (.tup [.int (k : Int), x]), by simp [lpT, mTup, aCons, aNil, mVar, bnd, O.frz, dsOf], rfl⟩)]
  simp [row1, Function.comp_def]
theorem lpB_run (s0 : Option O) (q r : List D) (x y : D) (s4 : Option O) (e : mLc lpI [4] (.nm 4) mYes lpT [s0, some (.val (.lst q)), some (.val x), some (.val y), s4] = some (.ok (.lst r), [s0, some (.val (.lst q)), some (.val x), some (.val y), s4])) (cl : q.length + r.length ≤ 100000) :
    lpB [] [s0, some (.val (.lst q)), some (.val x), some (.val y), s4] = some (.ok .nx, [s0, some (.val (.lst (q ++ r))), some (.val x), some (.val y), s4]) := by
  unfold lpB sAsgV
  simp only [mOp2, bnd, mVar, List.getElem?_cons_succ, List.getElem?_cons_zero, e, O.frz]
  simp [fAddA, fOr, fInt, fCatL, cl, setV, O.frz]
theorem x_1p (m h w : Int) : fIxA (plainD m ps h w) (.int 1) = some (.val (.tup (ps.map mk))) := by
  unfold plainD
  kernel_rfl
theorem law_points (hp : Ps ps) (m h w : Int) : m_law_points [.val (plainD m ps h w)] = some (.ok (.val (.lst (PT ps ps.length))), [.val (plainD m ps h w)]) := by
  have ht := hp.top
  have em : m_law_points = mFn0 1 5 (sSeq (sAsgV 1 (mLst aNil)) (sSeq (sFor (iEnu (aCons (mOp2 fIxA (mVar 0) (mC (.int (1)))) aNil)) (.tu ((.nm 2) :: (.nm 3) :: [])) lpB) (sRet (mVar 1)))) := rfl
  have ei : iEnu (aCons (mOp2 fIxA (mVar 0) (mC (.int (1)))) aNil) [some (.val (plainD m ps h w)), some (.val (.lst [])), none, none, none] = some (enumD 0 (ps.map mk), [some (.val (plainD m ps h w)), some (.val (.lst [])), none, none, none]) := by
    simp [iEnu, aCons, aNil, mOp2, mVar, mC, bnd, O.frz, x_1p, seqD]
  obtain ⟨ρ', h1, s2, s3, h2⟩ := sFor_inv (mi := iEnu (aCons (mOp2 fIxA (mVar 0) (mC (.int (1)))) aNil)) (p := .tu ((.nm 2) :: (.nm 3) :: [])) (b := lpB) (pins := []) (fun k ρ => ∃ s2 s3, ρ = [some (.val (plainD m ps h w)), some (.val (.lst (PT ps k))), s2, s3, none]) ei ⟨none, none, rfl⟩ (fun i d ρ hd hi => by
    obtain ⟨s2, s3, rfl⟩ := hi
    obtain ⟨x, hx, rfl⟩ := enumD_get _ _ _ _ hd
    rw [List.getElem?_map] at hx
    obtain ⟨p, hpi, rfl⟩ := Option.map_eq_some_iff.mp hx
    have pm : p ∈ ps := List.mem_of_getElem? hpi
    have il : i < ps.length := (List.getElem?_eq_some_iff.mp hpi).1
    have e := lp_lc (some (.val (plainD m ps h w))) (some (.val (.lst (PT ps i)))) i p (hp.each p pm)
    have c1 := PT_len hp i
    have c2 := hp.each p pm
    have cl : (PT ps i).length + (row1 (i : Int) (p.1.length + 1)).length ≤ 100000 := by rw [row1_len]; omega
    have en : nr ps i = p.1.length := by unfold nr; rw [hpi]
    refine ⟨[some (.val (plainD m ps h w)), some (.val (.lst (PT ps i))), some (.val (.int (i : Int))), some (.val (mk p)), none], [some (.val (plainD m ps h w)), some (.val (.lst (PT ps (i + 1)))), some (.val (.int (i : Int))), some (.val (mk p)), none], by simp [bindP, bindPs, setV], .inl ?_, ⟨_, _, rfl⟩⟩
    rw [PT_succ, en]
    exact lpB_run _ _ _ _ _ _ e cl)
  rw [enumD_len, List.length_map] at h2
  subst h2
  rw [em]
  simp [mFn0, mFn, sSeq, sThen, sAsgV, setV, mLst, aNil, bnd, dsOf, O.frz, h1, sRet, mVar, pinsAux, fin, O.isOwn]
end VM

end
section
open PySem PySem.Spec VL L2
namespace VM
open VG
/-! ### edges -/
def EW (b : Int) (t : Int) : Nat → List Int → List D
  | _, [] => []
  | k, c :: cs => if c = t then .tup [.int b, .int (k : Int)] :: EW b t (k + 1) cs else EW b t (k + 1) cs
theorem EW_yes {b t c : Int} {k : Nat} {cs : List Int} (h : c = t) : EW b t k (c :: cs) = .tup [.int b, .int (k : Int)] :: EW b t (k + 1) cs := by rw [EW, if_pos h]
theorem EW_no {b t c : Int} {k : Nat} {cs : List Int} (h : ¬ c = t) : EW b t k (c :: cs) = EW b t (k + 1) cs := by rw [EW, if_neg h]
theorem EW_len (b t : Int) : ∀ (ts : List Int) (k : Nat), (EW b t k ts).length ≤ ts.length
  | [], _ => by simp [EW]
  | c :: cs, k => by
    have := EW_len b t cs (k + 1)
    unfold EW
    split <;> simp <;> omega
theorem EW_nil (b t : Int) : ∀ (ts : List Int) (k : Nat), (∀ c ∈ ts, c ≠ t) → EW b t k ts = []
  | [], _, _ => by simp [EW]
  | c :: cs, k, h => by
    unfold EW
    rw [if_neg (h c (by simp))]
    exact EW_nil b t cs (k + 1) fun x hx => h x (List.mem_cons_of_mem _ hx)
def ET (T : Int → List Int) (t : Int) (k : Nat) : List D := (List.range k).flatMap fun (b : Nat) => EW (b : Int) t 0 (T (b : Int))
theorem ET_succ (T : Int → List Int) (t : Int) (k : Nat) : ET T t (k + 1) = ET T t k ++ EW (k : Int) t 0 (T (k : Int)) := by
  unfold ET
  rw [List.range_succ, List.flatMap_append]
  simp
variable {size : Nat} {bs : List D} {T : Int → List Int}
theorem ET_len (g : Graph size bs T) (t : Int) : ∀ k : Nat, k ≤ size → (ET T t k).length ≤ k * 2
  | 0, _ => by simp [ET]
  | k + 1, h => by
    have ih := ET_len g t k (by omega)
    have := EW_len (k : Int) t (T (k : Int)) 0
    have := (g.bd k (by omega)).1
    rw [ET_succ, List.length_append]
    omega
theorem ET_zero (g : Graph size bs T) : ET T 0 size = [] := by
  unfold ET
  rw [List.flatMap_eq_nil_iff]
  intro b hb
  have hb := List.mem_range.mp hb
  exact EW_nil _ _ _ _ fun c hc => by
    have := (g.bd b hb).2 c hc
    omega
/-! ### edges_of -/
def eoI : MS := sIf (mOp2 fEq (mVar 5) (mVar 1)) (sDrop (mApp 2 (mTup (aCons (mVar 3) (aCons (mVar 4) aNil))))) sNx
def eoB : MS := sFor (iEnu (aCons (mCall m_followers_of (aCons (mVar 0) (aCons (mVar 3) aNil))) aNil)) (.tu ((.nm 4) :: (.nm 5) :: [])) eoI
theorem eo_in (s0 : Option O) (t b : Int) : ∀ (ts : List Int) (k : Nat) (acc : List D) (s4 s5 : Option O), acc.length + ts.length < 1000 → ∃ s4' s5',
    forLoop (.tu ((.nm 4) :: (.nm 5) :: [])) eoI [] (enumD k (ts.map .int)) [s0, some (.val (.int t)), some (.lst acc), some (.val (.int b)), s4, s5] = some (.ok .nx, [s0, some (.val (.int t)), some (.lst (acc ++ EW b t k ts)), some (.val (.int b)), s4', s5'])
  | [], k, acc, s4, s5, _ => ⟨s4, s5, by simp [enumD, forLoop, EW]⟩
  | c :: cs, k, acc, s4, s5, hl => by
    rw [List.length_cons] at hl
    have eb : bindP [] (.tu ((.nm 4) :: (.nm 5) :: [])) (.tup [.int (k : Int), .int c]) [s0, some (.val (.int t)), some (.lst acc), some (.val (.int b)), s4, s5] = some [s0, some (.val (.int t)), some (.lst acc), some (.val (.int b)), some (.val (.int (k : Int))), some (.val (.int c))] := by simp [bindP, bindPs, setV]
    rw [List.map_cons]
    unfold enumD forLoop
    rw [eb]
    have lt : acc.length < 100000 := by omega
    by_cases h : c = t
    · obtain ⟨u4, u5, ih⟩ := eo_in s0 t b cs (k + 1) (acc ++ [.tup [.int b, .int (k : Int)]]) (some (.val (.int (k : Int)))) (some (.val (.int c))) (by simp; omega)
      refine ⟨u4, u5, ?_⟩
      have es : eoI [] [s0, some (.val (.int t)), some (.lst acc), some (.val (.int b)), some (.val (.int (k : Int))), some (.val (.int c))] = some (.ok .nx, [s0, some (.val (.int t)), some (.lst (acc ++ [.tup [.int b, .int (k : Int)]])), some (.val (.int b)), some (.val (.int (k : Int))), some (.val (.int c))]) := by
        simp [eoI, sIf, mOp2, mVar, bnd, O.frz, eq_int, h, sDrop, mApp, mTup, aCons, aNil, dsOf, lt]
      simp only [Option.bind, es]
      rw [ih]
      rw [EW_yes h]
      simp
    · obtain ⟨u4, u5, ih⟩ := eo_in s0 t b cs (k + 1) acc (some (.val (.int (k : Int)))) (some (.val (.int c))) (by omega)
      refine ⟨u4, u5, ?_⟩
      have es : eoI [] [s0, some (.val (.int t)), some (.lst acc), some (.val (.int b)), some (.val (.int (k : Int))), some (.val (.int c))] = some (.ok .nx, [s0, some (.val (.int t)), some (.lst acc), some (.val (.int b)), some (.val (.int (k : Int))), some (.val (.int c))]) := by
        simp [eoI, sIf, mOp2, mVar, bnd, O.frz, eq_int, h, sNx]
      simp only [Option.bind, es]
      rw [ih]
      rw [EW_no h]
theorem foll (g : Graph size bs T) (b : Nat) (hb : b < size) : m_followers_of [.val (.tup bs), .val (.int (b : Int))] = some (.ok (.val (.tup ((T (b : Int)).map .int))), [.val (.tup bs), .val (.int (b : Int))]) := by
  obtain ⟨rows, e, h1, h2⟩ := g.at_ b hb
  exact followers bs b rows e _ h1 h2
theorem edges_of (g : Graph size bs T) (t : Int) : m_edges_of [.val (.tup bs), .val (.int t)] = some (.ok (.lst (ET T t size)), [.val (.tup bs), .val (.int t)]) := by
  have gt := g.top
  have gl := g.len
  have l0 : fOr1 fLen fLenD [.tup bs] = some (.val (.int (size : Int))) := by simp [fOr1, fLen, gl]
  have em : m_edges_of = mFn0 2 6 (sSeq (sAsgO 2 (mLst aNil)) (sSeq (sFor (iRange1 (aCons (mCB (fOr1 fLen fLenD) (aCons (mVar 0) aNil)) aNil)) (.nm 3) eoB) (sRet (mMv 2)))) := rfl
  have ei : iRange1 (aCons (mCB (fOr1 fLen fLenD) (aCons (mVar 0) aNil)) aNil) [some (.val (.tup bs)), some (.val (.int t)), some (.lst []), none, none, none] = some ((List.range size).map fun (j : Nat) => D.int (j : Int), [some (.val (.tup bs)), some (.val (.int t)), some (.lst []), none, none, none]) := by
    refine iRange1_run ?_ (by omega)
    simp [aCons, aNil, mCB, mVar, bnd, O.frz, dsOf, l0]
  obtain ⟨ρ', h1, s3, s4, s5, h2⟩ := sFor_inv (mi := iRange1 (aCons (mCB (fOr1 fLen fLenD) (aCons (mVar 0) aNil)) aNil)) (p := .nm 3) (b := eoB) (pins := []) (fun k ρ => ∃ s3 s4 s5, ρ = [some (.val (.tup bs)), some (.val (.int t)), some (.lst (ET T t k)), s3, s4, s5]) ei ⟨none, none, none, rfl⟩ (fun i d ρ hd hi => by
    obtain ⟨s3, s4, s5, rfl⟩ := hi
    rw [List.getElem?_map] at hd
    obtain ⟨j, hj, rfl⟩ := Option.map_eq_some_iff.mp hd
    have hj2 : j = i := by
      have := (List.getElem?_eq_some_iff.mp hj).2
      simpa using this.symm
    subst hj2
    have hb : j < size := by
      have := (List.getElem?_eq_some_iff.mp hj).1
      simpa using this
    have c1 := ET_len g t j (by omega)
    have c2 := (g.bd j hb).1
    obtain ⟨u4, u5, e⟩ := eo_in (some (.val (.tup bs))) t (j : Int) (T (j : Int)) 0 (ET T t j) s4 s5 (by omega)
    refine ⟨[some (.val (.tup bs)), some (.val (.int t)), some (.lst (ET T t j)), some (.val (.int (j : Int))), s4, s5], [some (.val (.tup bs)), some (.val (.int t)), some (.lst (ET T t (j + 1))), some (.val (.int (j : Int))), u4, u5], by simp [bindP, setV], .inl ?_, ⟨_, _, _, rfl⟩⟩
    have ej : iEnu (aCons (mCall m_followers_of (aCons (mVar 0) (aCons (mVar 3) aNil))) aNil) [some (.val (.tup bs)), some (.val (.int t)), some (.lst (ET T t j)), some (.val (.int (j : Int))), s4, s5]
        = some (enumD 0 ((T (j : Int)).map .int), [some (.val (.tup bs)), some (.val (.int t)), some (.lst (ET T t j)), some (.val (.int (j : Int))), s4, s5]) := by
      simp [iEnu, mCall, aCons, aNil, mVar, bnd, O.frz, splitIo, foll g j hb, seqD]
    unfold eoB sFor
    rw [ej, ET_succ]
    exact e)
  rw [List.length_map, List.length_range] at h2
  subst h2
  rw [em]
  simp [mFn0, mFn, sSeq, sThen, sAsgO, setV, mLst, aNil, bnd, dsOf, O.frz, h1, sRet, mMv, pinsAux, fin, O.isOwn]
/-! ### _law_edges -/
theorem tq_stop_go : fEq (.str "stop") (.str "go") = some (.val (.bl false)) := by kernel_rfl
theorem tq_go_go : fEq (.str "go") (.str "go") = some (.val (.bl true)) := by kernel_rfl
theorem tq_part_go : fEq (.str "part") (.str "go") = some (.val (.bl false)) := by kernel_rfl
theorem targets {e : D} {ts : List Int} (h : Tg e ts) : m_law_targets [.val e] = some (.ok (.lst (ts.map .int)), [.val e]) := by
  cases h with
  | stop =>
    have e3 : fIxA (.tup [.str "stop"]) (.int 0) = some (.val (.str "stop")) := by kernel_rfl
    simp [m_law_targets, mFn0, mFn, sSeq, sThen, sIf, sRet, sNx, mIf, mOp2, mVar, mC, bnd, O.frz, e3, tq_stop_go, pe_stop, mLst, aNil, dsOf, pinsAux, fin, O.isOwn]
  | go n =>
    have e3 : fIxA (.tup [.str "go", .int n]) (.int 0) = some (.val (.str "go")) := by kernel_rfl
    have e4 : fIxA (.tup [.str "go", .int n]) (.int 1) = some (.val (.int n)) := by kernel_rfl
    simp [m_law_targets, mFn0, mFn, sSeq, sThen, sIf, sRet, sNx, mIf, mOp2, mVar, mC, bnd, O.frz, e3, e4, tq_go_go, mLst, aCons, aNil, dsOf, pinsAux, fin, O.isOwn]
  | part r x y =>
    have e3 : fIxA (.tup [.str "part", .int r, .int x, .int y]) (.int 0) = some (.val (.str "part")) := by kernel_rfl
    have e4 : fIxA (.tup [.str "part", .int r, .int x, .int y]) (.int 2) = some (.val (.int x)) := by kernel_rfl
    have e5 : fIxA (.tup [.str "part", .int r, .int x, .int y]) (.int 3) = some (.val (.int y)) := by kernel_rfl
    simp [m_law_targets, mFn0, mFn, sSeq, sThen, sIf, sRet, sNx, mIf, mOp2, mVar, mC, bnd, O.frz, e3, e4, e5, tq_part_go, pe_part, mLst, aCons, aNil, dsOf, pinsAux, fin, O.isOwn]
def leI : MI := iEnu (aCons (mCall m_law_targets (aCons (mVar 4) aNil)) aNil)
def leT : M := mOp2 fEq (mVar 6) (mVar 1)
def leE : M := mTup (aCons (mVar 3) (aCons (mVar 5) aNil))
def leL : M := mLc leI [5, 6] (.tu ((.nm 5) :: (.nm 6) :: [])) leT leE
def leB : MS := sAsgV 2 (mOp2 fAddA (mVar 2) leL)
theorem le_in (s0 s2 s4 : Option O) (t b : Int) : ∀ (ts : List Int) (k : Nat) (acc : List D),
    lcLoop [5, 6] (.tu ((.nm 5) :: (.nm 6) :: [])) leT leE (enumD k (ts.map .int)) [s0, some (.val (.int t)), s2, some (.val (.int b)), s4, none, none] acc = some (.ok (.lst (acc ++ EW b t k ts)), [s0, some (.val (.int t)), s2, some (.val (.int b)), s4, none, none])
  | [], k, acc => by simp [enumD, lcLoop, EW]
  | c :: cs, k, acc => by
    have eb : bindP [] (.tu ((.nm 5) :: (.nm 6) :: [])) (.tup [.int (k : Int), .int c]) [s0, some (.val (.int t)), s2, some (.val (.int b)), s4, none, none] = some [s0, some (.val (.int t)), s2, some (.val (.int b)), s4, some (.val (.int (k : Int))), some (.val (.int c))] := by simp [bindP, bindPs, setV]
    have et : leT [s0, some (.val (.int t)), s2, some (.val (.int b)), s4, some (.val (.int (k : Int))), some (.val (.int c))] = some (.ok (.val (.bl (decide (c = t)))), [s0, some (.val (.int t)), s2, some (.val (.int b)), s4, some (.val (.int (k : Int))), some (.val (.int c))]) := by
      simp [leT, mOp2, mVar, bnd, O.frz, eq_int]
    have ee : leE [s0, some (.val (.int t)), s2, some (.val (.int b)), s4, some (.val (.int (k : Int))), some (.val (.int c))] = some (.ok (.val (.tup [.int b, .int (k : Int)])), [s0, some (.val (.int t)), s2, some (.val (.int b)), s4, some (.val (.int (k : Int))), some (.val (.int c))]) := by
      simp [leE, mTup, aCons, aNil, mVar, bnd, O.frz, dsOf]
    have ew : wipeR [s0, some (.val (.int t)), s2, some (.val (.int b)), s4, some (.val (.int (k : Int))), some (.val (.int c))] [5, 6] = [s0, some (.val (.int t)), s2, some (.val (.int b)), s4, none, none] := by simp [wipeR]
    rw [List.map_cons]
    unfold enumD lcLoop
    rw [eb]
    dsimp only
    rw [et]
    by_cases h : c = t
    · simp only [frz_val, decide_eq_true h, ee, ew]
      rw [le_in s0 s2 s4 t b cs (k + 1)]
      rw [EW_yes h]
      simp
    · simp only [frz_val, decide_eq_false h, ew]
      rw [le_in s0 s2 s4 t b cs (k + 1)]
      rw [EW_no h]
theorem leB_run (s0 s1 s3 s4 : Option O) (q r : List D) (e : leL [s0, s1, some (.val (.lst q)), s3, s4, none, none] = some (.ok (.lst r), [s0, s1, some (.val (.lst q)), s3, s4, none, none])) (cl : q.length + r.length ≤ 100000) :
    leB [] [s0, s1, some (.val (.lst q)), s3, s4, none, none] = some (.ok .nx, [s0, s1, some (.val (.lst (q ++ r))), s3, s4, none, none]) := by
  unfold leB sAsgV
  simp only [mOp2, bnd, mVar, List.getElem?_cons_succ, List.getElem?_cons_zero, e, O.frz]
  simp [fAddA, fOr, fInt, fCatL, cl, setV, O.frz]
theorem law_edges (g : Graph size bs T) (ends : List D) (he : ends.length = size) (ht : ∀ (i : Nat) (e : D), ends[i]? = some e → Tg e (T (i : Int))) (t : Int) : m_law_edges [.val (.lst ends), .val (.int t)] = some (.ok (.val (.lst (ET T t size))), [.val (.lst ends), .val (.int t)]) := by
  have gt := g.top
  have em : m_law_edges = mFn0 2 7 (sSeq (sAsgV 2 (mLst aNil)) (sSeq (sFor (iEnu (aCons (mVar 0) aNil)) (.tu ((.nm 3) :: (.nm 4) :: [])) leB) (sRet (mVar 2)))) := rfl
  have ei : iEnu (aCons (mVar 0) aNil) [some (.val (.lst ends)), some (.val (.int t)), some (.val (.lst [])), none, none, none, none] = some (enumD 0 ends, [some (.val (.lst ends)), some (.val (.int t)), some (.val (.lst [])), none, none, none, none]) := by
    simp [iEnu, aCons, aNil, mVar, bnd, O.frz, seqD]
  obtain ⟨ρ', h1, s3, s4, h2⟩ := sFor_inv (mi := iEnu (aCons (mVar 0) aNil)) (p := .tu ((.nm 3) :: (.nm 4) :: [])) (b := leB) (pins := []) (fun k ρ => ∃ s3 s4, ρ = [some (.val (.lst ends)), some (.val (.int t)), some (.val (.lst (ET T t k))), s3, s4, none, none]) ei ⟨none, none, rfl⟩ (fun i d ρ hd hi => by
    obtain ⟨s3, s4, rfl⟩ := hi
    obtain ⟨x, hx, rfl⟩ := enumD_get _ _ _ _ hd
    have hb : i < size := by
      have := (List.getElem?_eq_some_iff.mp hx).1
      omega
    have c1 := ET_len g t i (by omega)
    have c2 := (g.bd i hb).1
    have c3 := EW_len (i : Int) t (T (i : Int)) 0
    rw [Nat.zero_add]
    refine ⟨[some (.val (.lst ends)), some (.val (.int t)), some (.val (.lst (ET T t i))), some (.val (.int (i : Int))), some (.val x), none, none], [some (.val (.lst ends)), some (.val (.int t)), some (.val (.lst (ET T t (i + 1)))), some (.val (.int (i : Int))), some (.val x), none, none], by simp [bindP, bindPs, setV], .inl ?_, ⟨_, _, rfl⟩⟩
    rw [ET_succ]
    refine leB_run _ _ _ _ _ _ ?_ (by omega)
    have ej : leI [some (.val (.lst ends)), some (.val (.int t)), some (.val (.lst (ET T t i))), some (.val (.int (i : Int))), some (.val x), none, none] = some (enumD 0 ((T (i : Int)).map .int), [some (.val (.lst ends)), some (.val (.int t)), some (.val (.lst (ET T t i))), some (.val (.int (i : Int))), some (.val x), none, none]) := by
      simp [leI, iEnu, mCall, aCons, aNil, mVar, bnd, O.frz, splitIo, targets (ht i x hx), seqD]
    unfold leL
    rw [mLc_run ej (by simp [clean]) (by rw [enumD_len, List.length_map]; omega), le_in]
    rfl)
  rw [enumD_len, he] at h2
  subst h2
  rw [em]
  simp [mFn0, mFn, sSeq, sThen, sAsgV, setV, mLst, aNil, bnd, dsOf, O.frz, h1, sRet, mVar, pinsAux, fin, O.isOwn]
end VM

end
section
open PySem PySem.Spec VL L2
namespace VM
open VG
/-! ### one program: what it is, what it tells of a block -/
structure PP (m w h : Int) (size : Nat) (ps : List (List D × D)) (T : Int → List Int) : Prop where
  g : Graph size (ps.map mk) T
  blk : ∀ d ∈ ps.map mk, Blk m w size 3 d
  hm : 1 ≤ m ∧ m ≤ 3
  hw : 2 ≤ w ∧ w ≤ 4
  hh : 0 ≤ h ∧ h ≤ 2 ∧ h ≤ m
variable {m w h : Int} {size : Nat} {ps : List (List D × D)} {T : Int → List Int}
theorem PP.len (x : PP m w h size ps T) : ps.length = size := by simpa using x.g.len
theorem PP.pk (x : PP m w h size ps T) : Ps ps where
  top := by
    have := x.g.top
    have := x.len
    omega
  each := fun p hp => by
    obtain ⟨rows, e, cs, e1, e2, _⟩ := x.blk (VM.mk p) (List.mem_map.mpr ⟨p, hp, rfl⟩)
    unfold VM.mk at e1
    cases e1
    omega
theorem PP.tg (x : PP m w h size ps T) (i : Nat) (p : List D × D) (e : ps[i]? = some p) : Tg p.2 (T (i : Int)) := by
  have hl := (List.getElem?_eq_some_iff.mp e).1
  obtain ⟨rows, e', h1, h2⟩ := x.g.at_ i (by rw [← x.len]; exact hl)
  rw [List.getElem?_map, e, Option.map_some] at h1
  unfold VM.mk at h1
  cases h1
  exact h2
def PR (m w h : Int) (ps : List (List D × D)) : D := .ins 3 (prog m (ps.map mk) h w)
theorem lk_blocks (m w h : Int) (bs : List D) : (prog m bs h w).lookup ("blocks" : Str) = some (.tup bs) := by kernel_rfl
theorem lk_many (m w h : Int) (bs : List D) : (prog m bs h w).lookup ("many" : Str) = some (.int m) := by kernel_rfl
theorem lk_handed (m w h : Int) (bs : List D) : (prog m bs h w).lookup ("handed" : Str) = some (.int h) := by kernel_rfl
theorem lk_span (m w h : Int) (bs : List D) : (prog m bs h w).lookup ("span" : Str) = some (.int w) := by kernel_rfl
theorem lk_rows (m w h : Int) (bs : List D) : (prog m bs h w).lookup ("rows" : Str) = none := by kernel_rfl
theorem lk_end (m w h : Int) (bs : List D) : (prog m bs h w).lookup ("end" : Str) = none := by kernel_rfl
theorem lk_followers (m w h : Int) (bs : List D) : (prog m bs h w).lookup ("followers" : Str) = none := by kernel_rfl
theorem lk_edges (m w h : Int) (bs : List D) : (prog m bs h w).lookup ("edges_into" : Str) = none := by kernel_rfl
theorem chk (bs : List D) (size b : Nat) (hl : bs.length = size) (hb : b < size) : m_check_block [.val (.tup bs), .val (.int (b : Int))] = some (.ok (.val .non), [.val (.tup bs), .val (.int (b : Int))]) := by
  have l0 : fOr1 fLen fLenD [.tup bs] = some (.val (.int (size : Int))) := by simp [fOr1, fLen, hl]
  have c2 : decide ((b : Int) < size) = true := by simp; omega
  have t1 : truD (.bl true) = some true := by rfl
  have c0 : decide ((0 : Int) ≤ (b : Int)) = true := by simp
  have hi := isint (b : Int) 0 (size : Int)
  rw [c0, c2] at hi
  have hi2 : m_is_integer [.val (.int (b : Int)), .val (.int 0), .val (.int (size : Int))] = some (.ok (.val (.bl true)), [.val (.int (b : Int)), .val (.int 0), .val (.int (size : Int))]) := hi
  simp [m_check_block, mFn, sIf, sNx, mNot, mTru, mCall, splitIo, aCons, aNil, mCB, mVar, mC, bnd, O.frz, dsOf, l0, hi2, t1, pinsAux, fin, O.isOwn]
theorem getitem (x : PP m w h size ps T) (b : Nat) (p : List D × D) (e : ps[b]? = some p) : m_Program___getitem__ [.val (PR m w h ps), .val (.int (b : Int))] = some (.ok (.val (mk p)), [.val (PR m w h ps), .val (.int (b : Int))]) := by
  have hl := (List.getElem?_eq_some_iff.mp e).1
  have hc := chk (ps.map mk) size b x.g.len (by rw [← x.len]; exact hl)
  simp [m_Program___getitem__, PR, mFn, sSeq, sThen, sDrop, sRet, mFld, mOp2, mCall, splitIo, aCons, aNil, mVar, bnd, O.frz, lk_blocks, hc, ix_at b p e, pinsAux, fin, O.isOwn]
theorem rows_of (x : PP m w h size ps T) (b : Nat) (p : List D × D) (e : ps[b]? = some p) : m_Program_rows [.val (PR m w h ps), .val (.int (b : Int))] = some (.ok (.val (.tup p.1)), [.val (PR m w h ps), .val (.int (b : Int))]) := by
  have hl := (List.getElem?_eq_some_iff.mp e).1
  have hc := chk (ps.map mk) size b x.g.len (by rw [← x.len]; exact hl)
  simp [m_Program_rows, PR, mFn, sSeq, sThen, sDrop, sRet, mFld, mOp2, mCall, splitIo, aCons, aNil, mVar, mC, bnd, O.frz, lk_blocks, hc, ix_at b p e, x_0, pinsAux, fin, O.isOwn]
theorem end_of (x : PP m w h size ps T) (b : Nat) (p : List D × D) (e : ps[b]? = some p) : m_Program_end [.val (PR m w h ps), .val (.int (b : Int))] = some (.ok (.val p.2), [.val (PR m w h ps), .val (.int (b : Int))]) := by
  have hl := (List.getElem?_eq_some_iff.mp e).1
  have hc := chk (ps.map mk) size b x.g.len (by rw [← x.len]; exact hl)
  simp [m_Program_end, PR, mFn, sSeq, sThen, sDrop, sRet, mFld, mOp2, mCall, splitIo, aCons, aNil, mVar, mC, bnd, O.frz, lk_blocks, hc, ix_at b p e, x_1, pinsAux, fin, O.isOwn]
theorem foll_of (x : PP m w h size ps T) (b : Nat) (hb : b < size) : m_Program_followers [.val (PR m w h ps), .val (.int (b : Int))] = some (.ok (.val (.tup ((T (b : Int)).map .int))), [.val (PR m w h ps), .val (.int (b : Int))]) := by
  have hc := chk (ps.map mk) size b x.g.len hb
  simp [m_Program_followers, PR, mFn, sSeq, sThen, sDrop, sRet, mFld, mCall, splitIo, aCons, aNil, mVar, bnd, O.frz, lk_blocks, hc, foll x.g b hb, pinsAux, fin, O.isOwn]
theorem edges_into (x : PP m w h size ps T) (b : Nat) (hb : b < size) : m_Program_edges_into [.val (PR m w h ps), .val (.int (b : Int))] = some (.ok (.lst (ET T (b : Int) size)), [.val (PR m w h ps), .val (.int (b : Int))]) := by
  have hc := chk (ps.map mk) size b x.g.len hb
  simp [m_Program_edges_into, PR, mFn, sSeq, sThen, sDrop, sRet, mFld, mCall, splitIo, aCons, aNil, mVar, bnd, O.frz, lk_blocks, hc, edges_of x.g, pinsAux, fin, O.isOwn]
theorem points_of (x : PP m w h size ps T) : m_Program_points [.val (PR m w h ps)] = some (.ok (.lst (PT ps ps.length)), [.val (PR m w h ps)]) := by
  simp [m_Program_points, PR, mFn0, mFn, sRet, mFld, mCall, splitIo, aCons, aNil, mVar, bnd, O.frz, lk_blocks, all_points x.pk, pinsAux, fin, O.isOwn]
theorem len_of (x : PP m w h size ps T) : m_Program___len__ [.val (PR m w h ps)] = some (.ok (.val (.int (size : Int))), [.val (PR m w h ps)]) := by
  have l0 : fOr1 fLen fLenD [.tup (ps.map mk)] = some (.val (.int (size : Int))) := by simp [fOr1, fLen, x.len]
  simp [m_Program___len__, PR, mFn0, mFn, sRet, mFld, mCB, aCons, aNil, mVar, bnd, O.frz, lk_blocks, dsOf, l0, pinsAux, fin, O.isOwn]
/-! ### data that is equal to itself -/
theorem sh_ii (a b : Int) : Sh 1 (.tup [.int a, .int b]) := Sh.tup (.cons (Sh.int a) (.cons (Sh.int b) (.nil _)))
theorem sh_PT (k : Nat) : Sh 2 (.lst (PT ps k)) := Sh.lst (Shs.of _ fun d hd => by
  obtain ⟨j, _, hj⟩ := List.mem_flatMap.mp hd
  obtain ⟨i, _, rfl⟩ := List.mem_map.mp hj
  exact sh_ii _ _)
theorem sh_EW (b t : Int) : ∀ (ts : List Int) (k : Nat), ∀ d ∈ EW b t k ts, Sh 1 d
  | [], _, d, hd => by simp [EW] at hd
  | c :: cs, k, d, hd => by
    by_cases e : c = t
    · rw [EW_yes e] at hd
      rcases List.mem_cons.mp hd with rfl | hd
      · exact sh_ii _ _
      · exact sh_EW b t cs (k + 1) d hd
    · rw [EW_no e] at hd
      exact sh_EW b t cs (k + 1) d hd
theorem sh_ET (t : Int) (k : Nat) : Sh 2 (.lst (ET T t k)) := Sh.lst (Shs.of _ fun d hd => by
  obtain ⟨j, _, hj⟩ := List.mem_flatMap.mp hd
  exact sh_EW _ _ _ _ d hj)
theorem sh_ints (ts : List Int) : Sh 1 (.tup (ts.map .int)) := Sh.tup (Shs.of _ fun d hd => by
  obtain ⟨j, _, rfl⟩ := List.mem_map.mp hd
  exact Sh.int j)
theorem PP.sh (x : PP m w h size ps T) (p : List D × D) (hp : p ∈ ps) : Sh 3 (VM.mk p) := Sh.blk (x.blk _ (List.mem_map.mpr ⟨p, hp, rfl⟩))
theorem PP.shr (x : PP m w h size ps T) (p : List D × D) (hp : p ∈ ps) : Shs 1 p.1 ∧ Sh 1 p.2 := by
  obtain ⟨rows, e, cs, e1, _, _, h3, h4⟩ := x.blk _ (List.mem_map.mpr ⟨p, hp, rfl⟩)
  unfold VM.mk at e1
  cases e1
  exact ⟨Shs.of _ fun r hr => Sh.row (h3 r hr), Sh.end_ h4⟩
theorem PP.shb (x : PP m w h size ps T) : Shs 3 (ps.map VM.mk) := Shs.of _ fun d hd => Sh.blk (x.blk d hd)
/-! ### the turn of a block -/
def blockB : MS := (sSeq (sIf (mOr (mOp2 fNe (mGetO 3 m_Program___getitem__ (mVar 4) (mVar 6)) (mVar 7)) (mOp2 fNe (mMeth 3 "rows" m_Program_rows (mVar 4) (aCons (mVar 6) aNil)) (mOp2 fIxA (mVar 7) (mC (.int (0)))))) (sRet (mC (.bl false))) sNx) (sSeq (sIf (mOp2 fNe (mMeth 3 "end" m_Program_end (mVar 4) (aCons (mVar 6) aNil)) (mOp2 fIxA (mVar 7) (mC (.int (1))))) (sRet (mC (.bl false))) sNx) (sSeq (sIf (mOp2 fNe (mMeth 3 "followers" m_Program_followers (mVar 4) (aCons (mVar 6) aNil)) (mCB fTuple (aCons (mCall m_law_targets (aCons (mOp2 fIxA (mVar 7) (mC (.int (1)))) aNil)) aNil))) (sRet (mC (.bl false))) sNx) (sIf (mOp2 fNe (mMeth 3 "edges_into" m_Program_edges_into (mVar 4) (aCons (mVar 6) aNil)) (mCall m_law_edges (aCons (mVar 5) (aCons (mVar 6) aNil)))) (sRet (mC (.bl false))) sNx))))
theorem blockB_run (x : PP m w h size ps T) (b : Nat) (p : List D × D) (e : ps[b]? = some p) (s0 s1 s2 s3 s8 s9 s10 s11 : Option O) :
    blockB [] [s0, s1, s2, s3, some (.val (PR m w h ps)), some (.val (.lst (ps.map (·.2)))), some (.val (.int (b : Int))), some (.val (mk p)), s8, s9, s10, s11]
      = some (.ok .nx, [s0, s1, s2, s3, some (.val (PR m w h ps)), some (.val (.lst (ps.map (·.2)))), some (.val (.int (b : Int))), some (.val (mk p)), s8, s9, s10, s11]) := by
  have hp : p ∈ ps := List.mem_of_getElem? e
  have hb : b < size := by
    rw [← x.len]
    exact (List.getElem?_eq_some_iff.mp e).1
  have q1 := getitem x b p e
  have q2 := rows_of x b p e
  have q3 := end_of x b p e
  have q4 := foll_of x b hb
  have q5 := edges_into x b hb
  have q6 := targets (x.tg b p e)
  have q7 := law_edges x.g (ps.map (·.2)) (by rw [List.length_map]; exact x.len) (fun i e' he => by
    rw [List.getElem?_map] at he
    obtain ⟨p', h1, rfl⟩ := Option.map_eq_some_iff.mp he
    exact x.tg i p' h1) (b : Int)
  have n1 := ((x.sh p hp).mono (k := 64) (by omega)).ne
  have n2 := ((Sh.tup (x.shr p hp).1).mono (k := 64) (by omega)).ne
  have n3 := ((x.shr p hp).2.mono (k := 64) (by omega)).ne
  have n4 := ((sh_ints (T (b : Int))).mono (k := 64) (by omega)).ne
  have n5 := ((sh_ET (T := T) (b : Int) size).mono (k := 64) (by omega)).ne
  have f1 : fTuple [.lst ((T (b : Int)).map .int)] = some (.val (.tup ((T (b : Int)).map .int))) := by rfl
  unfold PR at q1 q2 q3 q4 q5 ⊢
  simp [blockB, sSeq, sThen, sIf, sNx, sRet, mOr, mOp2, mGetO, mMeth, mCall, mCB, onData, dsOnly, splitIo, aCons, aNil, mVar, mC, bnd, O.frz, lk_rows, lk_end, lk_followers, lk_edges, q1, q2, q3, q4, q5, q6, q7, n1, n2, n3, n4, n5, x_0, x_1, dsOf, f1]
end VM

end
section
open PySem PySem.Spec VL L2
namespace VM
open VG
variable {m w h : Int} {size : Nat} {ps : List (List D × D)} {T : Int → List Int}
/-! ### what is a program for some numbers is one for greater ones -/
theorem RowOk.more {m w m' w' : Int} {d : D} (x : RowOk m w d) (h1 : m ≤ m') (h2 : w ≤ w') : RowOk m' w' d := by
  cases x with
  | put r n h k => exact .put r n (by omega) (by omega)
  | move r s h k => exact .move r s (by omega) (by omega)
  | take r h => exact .take r (by omega)
  | tell r h => exact .tell r (by omega)
  | add r s t h k l => exact .add r s t (by omega) (by omega) (by omega)
  | sub r s t h k l => exact .sub r s t (by omega) (by omega) (by omega)
  | less r s t h k l => exact .less r s t (by omega) (by omega) (by omega)
theorem EndOk.more {m m' c : Int} {cs : List Int} {d : D} (x : EndOk m c cs d) (h1 : m ≤ m') : EndOk m' c cs d := by
  rcases x with x | x | ⟨r, a, b, hr, rest⟩
  · exact .inl x
  · exact .inr (.inl x)
  · exact .inr (.inr ⟨r, a, b, by omega, rest⟩)
theorem Blk.more {m m' w w' c most most' : Int} {d : D} (x : Blk m w c most d) (h1 : m ≤ m') (h2 : w ≤ w') (h3 : most ≤ most') : Blk m' w' c most' d := by
  obtain ⟨rows, e, cs, rfl, a1, a2, a3, a4⟩ := x
  exact ⟨rows, e, cs, rfl, by omega, a2, fun r hr => RowOk.more (a3 r hr) h1 h2, EndOk.more a4 h1⟩
/-- a program is made -/
theorem make {m w h : Int} {size : Nat} {bs : List D} {T : Int → List Int} (g : Graph size bs T) (hb : ∀ d ∈ bs, Blk m w size 12 d) (hm : 1 ≤ m ∧ m ≤ 8) (hh : 0 ≤ h ∧ h ≤ 3 ∧ h ≤ m) (hw : 2 ≤ w ∧ w ≤ 8)
    (a b : MA) (ρ ρ1 ρ2 : Rho) (ha : a ρ = some (.ok [.d (.int m), .d (.tup bs)], ρ1)) (hk : b ρ1 = some (.ok [.d (.int h), .d (.int w)], ρ2)) :
    mMake 3 m_Program___init__ a b (fun ds zs => ds ++ zs) 2 2 ρ = some (.ok (.ins 3 (prog m bs h w)), ρ2) := by
  have e := init bs T size m w h g hb hm hh hw
  simp [mMake, ha, hk, bnd, dsOnly, e]
theorem PP.wide (x : PP m w h size ps T) {m' w' : Int} (h1 : m ≤ m') (h2 : w ≤ w') : ∀ d ∈ ps.map VM.mk, Blk m' w' size 12 d := fun d hd => Blk.more (x.blk d hd) h1 h2 (by omega)
/-- the first block with a row ahead -/
def hd1 (p : List D × D) : List D × D := (.tup [.str "tell", .int 0] :: p.1, p.2)
theorem graph1 {p : List D × D} {r : List (List D × D)} (g : Graph size ((p :: r).map mk) T) : Graph size ((hd1 p :: r).map mk) T where
  len := by simpa using g.len
  one := g.one
  top := g.top
  at_ := fun q hq => by
    obtain ⟨rows, e, h1, h2⟩ := g.at_ q hq
    cases q with
    | zero =>
      have h1' : some (mk p) = some (.tup [rows, e]) := by simpa using h1
      unfold mk at h1'
      cases h1'
      exact ⟨.tup (.tup [.str "tell", .int 0] :: p.1), p.2, by simp [mk, hd1], h2⟩
    | succ q => exact ⟨rows, e, by simpa using h1, h2⟩
  bd := g.bd
  all := g.all
theorem blk1 {p : List D × D} {r : List (List D × D)} (x : PP m w h size (p :: r) T) : ∀ d ∈ (hd1 p :: r).map mk, Blk m w size 12 d := fun d hd => by
  rw [List.map_cons] at hd
  rcases List.mem_cons.mp hd with rfl | hd
  · obtain ⟨rows, e, cs, e1, a1, a2, a3, a4⟩ := x.blk (mk p) (by simp)
    unfold mk at e1
    cases e1
    have hm := x.hm
    refine ⟨.tup [.str "tell", .int 0] :: p.1, p.2, cs, rfl, ?_, ?_, fun q hq => ?_, a4⟩
    · rw [List.length_cons]
      omega
    · rw [List.length_cons]
      omega
    · rcases List.mem_cons.mp hq with rfl | hq
      · exact .tell 0 (by omega)
      · exact a3 q hq
  · exact Blk.more (x.blk d (by simp; exact .inr (by simpa using hd))) (by omega) (by omega) (by omega)
/-! ### equality of programs -/
theorem isprog (m w h : Int) (bs : List D) : mIs (ansC kitO is_Program) (mVar 1) [some (.val (.ins 3 (prog m bs h w))), some (.val (.ins 3 (prog m bs h w)))] = some (.ok (.val (.bl true)), [some (.val (.ins 3 (prog m bs h w))), some (.val (.ins 3 (prog m bs h w)))]) := by kernel_rfl
theorem isprog2 (x : Option O) (m w h : Int) (bs : List D) : mIs (ansC kitO is_Program) (mVar 1) [x, some (.val (.ins 3 (prog m bs h w)))] = some (.ok (.val (.bl true)), [x, some (.val (.ins 3 (prog m bs h w)))]) := by kernel_rfl
theorem eqP {m w h m' w' h' : Int} {bs bs' : List D} {t : Bool} (hs : fEq (.tup bs) (.tup bs') = some (.val (.bl t))) :
    m_Program___eq__ [.val (.ins 3 (prog m bs h w)), .val (.ins 3 (prog m' bs' h' w'))] = some (.ok (.val (.bl (decide (m = m') && (t && (decide (h = h') && decide (w = w')))))), [.val (.ins 3 (prog m bs h w)), .val (.ins 3 (prog m' bs' h' w'))]) := by
  have l1 := lk_blocks m w h bs
  have l2 := lk_blocks m' w' h' bs'
  have i1 := isprog2 (some (.val (.ins 3 (prog m bs h w)))) m' w' h' bs'
  by_cases e1 : m = m'
  · subst e1
    cases t with
    | false => simp [m_Program___eq__, mFn0, mFn, sRet, mAnd, mOp2, mFld, mVar, bnd, O.frz, i1, lk_blocks, lk_many, eq_int, hs, pinsAux, fin, O.isOwn]
    | true =>
      by_cases e2 : h = h'
      · subst e2
        simp [m_Program___eq__, mFn0, mFn, sRet, mAnd, mOp2, mFld, mVar, bnd, O.frz, i1, lk_blocks, lk_many, lk_handed, lk_span, eq_int, hs, pinsAux, fin, O.isOwn]
      · simp [m_Program___eq__, mFn0, mFn, sRet, mAnd, mOp2, mFld, mVar, bnd, O.frz, i1, lk_blocks, lk_many, lk_handed, lk_span, eq_int, hs, e2, pinsAux, fin, O.isOwn]
  · simp [m_Program___eq__, mFn0, mFn, sRet, mAnd, mOp2, mFld, mVar, bnd, O.frz, i1, lk_blocks, lk_many, eq_int, hs, e1, pinsAux, fin, O.isOwn]
theorem own_eq {m w h m' w' h' : Int} {bs bs' : List D} {t : Bool} (hs : fEq (.tup bs) (.tup bs') = some (.val (.bl t))) (a b : M) (ρ : Rho) (o o' : O) (ha : a ρ = some (.ok o, ρ)) (hb : b ρ = some (.ok o', ρ)) (fa : o.frz = .ins 3 (prog m bs h w)) (fb : o'.frz = .ins 3 (prog m' bs' h' w')) :
    mOwn 3 m_Program___eq__ false a b ρ = some (.ok (.val (.bl (decide (m = m') && (t && (decide (h = h') && decide (w = w')))))), ρ) := by
  simp [mOwn, ha, hb, bnd, fa, fb, eqP hs]
end VM

end
section
open PySem PySem.Spec VL L2
namespace VM
open VG
variable {m w h : Int} {size : Nat} {ps : List (List D × D)} {T : Int → List Int}
def t0 : MS := (sAsgV 3 (mCall m_law_plain (aSl 1 (aCons (mC (.int (7))) (aCons (mC (.int (3))) aNil)))))
def t1 : MS := (sAsgP (.tu ((.nm 4) :: (.nm 5) :: [])) (mTup (aCons (mCall m_law_made (aCons (mVar 3) aNil)) (aCons (mCall m_law_ends (aCons (mVar 3) aNil)) aNil))))
def t2 : MS := (sIf (mOp2 fNe (mLst (aCons (mFld [3] "many" (mVar 4)) (aCons (mFld [3] "blocks" (mVar 4)) (aCons (mFld [3] "handed" (mVar 4)) (aCons (mFld [3] "span" (mVar 4)) aNil))))) (mCB (fOr1 fList fListD) (aCons (mVar 3) aNil))) (sRet (mC (.bl false))) sNx)
def t3 : MS := (sIf (mOr (mOp2 fNe (mLenO 3 m_Program___len__ (mVar 4)) (mCB (fOr1 fLen fLenD) (aCons (mVar 5) aNil))) (mOp2 fNe (mProp 3 m_Program_points (mVar 4)) (mCall m_law_points (aCons (mVar 3) aNil)))) (sRet (mC (.bl false))) sNx)
def t4 : MS := (sFor (iEnu (aCons (mOp2 fIxA (mVar 3) (mC (.int (1)))) aNil)) (.tu ((.nm 6) :: (.nm 7) :: [])) blockB)
def t5 : MS := (sDrop (mClrT (mProp 3 m_Program_points (mVar 4))))
def t6 : MS := (sDrop (mAppT (mMeth 3 "edges_into" m_Program_edges_into (mVar 4) (aCons (mC (.int (0))) aNil)) (mTup (aCons (mC (.int (0))) (aCons (mC (.int (0))) aNil)))))
def t7 : MS := (sIf (mOr (mOp2 fNe (mProp 3 m_Program_points (mVar 4)) (mCall m_law_points (aCons (mVar 3) aNil))) (mOp2 fNe (mMeth 3 "edges_into" m_Program_edges_into (mVar 4) (aCons (mC (.int (0))) aNil)) (mLst aNil))) (sRet (mC (.bl false))) sNx)
def t8 : MS := (sAsgV 8 (mMake 3 m_Program___init__ (aCons (mOp2 fIxA (mVar 3) (mC (.int (0)))) (aCons (mOp2 fIxA (mVar 3) (mC (.int (1)))) aNil)) (aCons (mOp2 fIxA (mVar 3) (mC (.int (2)))) (aCons (mOp2 fIxA (mVar 3) (mC (.int (3)))) aNil)) (fun ds zs => ds ++ zs) 2 2))
def t9 : MS := (sAsgO 9 (mLst (aCons (mMake 3 m_Program___init__ (aCons (mOp2 fAddA (mOp2 fIxA (mVar 3) (mC (.int (0)))) (mC (.int (1)))) (aCons (mOp2 fIxA (mVar 3) (mC (.int (1)))) aNil)) (aCons (mOp2 fIxA (mVar 3) (mC (.int (2)))) (aCons (mOp2 fIxA (mVar 3) (mC (.int (3)))) aNil)) (fun ds zs => ds ++ zs) 2 2) aNil)))
def t10 : MS := (sDrop (mApp 9 (mMake 3 m_Program___init__ (aCons (mOp2 fIxA (mVar 3) (mC (.int (0)))) (aCons (mOp2 fIxA (mVar 3) (mC (.int (1)))) aNil)) (aCons (mOp2 fIxA (mVar 3) (mC (.int (2)))) (aCons (mOp2 fAddA (mOp2 fIxA (mVar 3) (mC (.int (3)))) (mC (.int (1)))) aNil)) (fun ds zs => ds ++ zs) 2 2)))
def t11 : MS := (sDrop (mApp 9 (mMake 3 m_Program___init__ (aCons (mOp2 fIxA (mVar 3) (mC (.int (0)))) (aCons (mOp2 fIxA (mVar 3) (mC (.int (1)))) aNil)) (aCons (mIf (mOp2 (fCmp fun i j => decide (j < i)) (mOp2 fIxA (mVar 3) (mC (.int (2)))) (mC (.int (0)))) (mC (.int (0))) (mC (.int (1)))) (aCons (mOp2 fIxA (mVar 3) (mC (.int (3)))) aNil)) (fun ds zs => ds ++ zs) 2 2)))
def t12 : MS := (sAsgV 10 (mOp2 fAddA (mTup (aCons (mTup (aCons (mC (.str "tell")) (aCons (mC (.int (0))) aNil))) aNil)) (mOp2 fIxA (mOp2 fIxA (mOp2 fIxA (mVar 3) (mC (.int (1)))) (mC (.int (0)))) (mC (.int (0))))))
def t13 : MS := (sDrop (mApp 9 (mMake 3 m_Program___init__ (aCons (mOp2 fIxA (mVar 3) (mC (.int (0)))) (aCons (mOp2 fAddA (mTup (aCons (mTup (aCons (mVar 10) (aCons (mOp2 fIxA (mVar 5) (mC (.int (0)))) aNil))) aNil)) (mSl (mOp2 fIxA (mVar 3) (mC (.int (1)))) (oPart (mC (.int (1)))) oNone)) aNil)) (aCons (mOp2 fIxA (mVar 3) (mC (.int (2)))) (aCons (mOp2 fIxA (mVar 3) (mC (.int (3)))) aNil)) (fun ds zs => ds ++ zs) 2 2)))
def t14 : MS := (sIf (mOr (mNot (mOwn 3 m_Program___eq__ false (mVar 4) (mVar 8))) (mTru (mCB fAny (aCons (mLc (iWalk (mFz 9)) [11] (.nm 11) mYes (mOwn 3 m_Program___eq__ false (mVar 4) (mVar 11))) aNil)))) (sRet (mC (.bl false))) sNx)
def turnB : MS := (sSeq t0 (sSeq t1 (sSeq t2 (sSeq t3 (sSeq t4 (sSeq t5 (sSeq t6 (sSeq t7 (sSeq t8 (sSeq t9 (sSeq t10 (sSeq t11 (sSeq t12 (sSeq t13 t14))))))))))))))
theorem d_0 (m h w : Int) : fIxA (plainD m ps h w) (.int 0) = some (.val (.int m)) := by
  unfold plainD
  kernel_rfl
theorem d_1 (m h w : Int) : fIxA (plainD m ps h w) (.int 1) = some (.val (.tup (ps.map mk))) := x_1p m h w
theorem d_2 (m h w : Int) : fIxA (plainD m ps h w) (.int 2) = some (.val (.int h)) := by
  unfold plainD
  kernel_rfl
theorem d_3 (m h w : Int) : fIxA (plainD m ps h w) (.int 3) = some (.val (.int w)) := by
  unfold plainD
  kernel_rfl
/-- the state behind the making -/
abbrev rS (m w h : Int) (ps : List (List D × D)) (s0 s1 s2 s6 s7 s8 s9 s10 s11 : Option O) : Rho := [s0, s1, s2, some (.val (plainD m ps h w)), some (.val (PR m w h ps)), some (.val (.lst (ps.map (·.2)))), s6, s7, s8, s9, s10, s11]
theorem t0_run (zs : List Int) (f a : Int) (hf : 0 ≤ f) (ha : 0 ≤ a) (s0 s2 s3 s4 s5 s6 s7 s8 s9 s10 s11 : Option O) : ∃ (a' : Int) (d : D), a ≤ a' ∧ PlainOk d ∧ t0 [] [s0, some (drawO zs f a), s2, s3, s4, s5, s6, s7, s8, s9, s10, s11] = some (.ok .nx, [s0, some (drawO zs f a'), s2, some (.val d), s4, s5, s6, s7, s8, s9, s10, s11]) := by
  obtain ⟨a', d, h1, h2, h3⟩ := plain zs f a hf ha
  refine ⟨a', d, h1, h2, ?_⟩
  unfold drawO at h3 ⊢
  simp [t0, sAsgV, mCall, aSl, aIo, look, O.pk, aCons, aNil, mC, bnd, O.frz, splitIo, dsOnly, h3, setV]
theorem pp_of (d : D) (hd : PlainOk d) : ∃ (m w h : Int) (size : Nat) (ps : List (List D × D)) (T : Int → List Int), d = plainD m ps h w ∧ PP m w h size ps T ∧ m_law_made [.val d] = some (.ok (.ins 3 (prog m (ps.map mk) h w)), [.val d]) := by
  obtain ⟨m, w, h, size, os, bs, T, rfl, hm, hw, hh, g, hb, e⟩ := made d hd
  have hx : ∃ ps : List (List D × D), bs = ps.map mk := by
    clear g e hd
    induction bs with
    | nil => exact ⟨[], rfl⟩
    | cons b bs ih =>
      obtain ⟨ps, rfl⟩ := ih fun d hd => hb d (List.mem_cons_of_mem _ hd)
      obtain ⟨rows, e, cs, rfl, _⟩ := hb b (by simp)
      exact ⟨(rows, e) :: ps, by simp [mk]⟩
  obtain ⟨ps, rfl⟩ := hx
  exact ⟨m, w, h, size, ps, T, rfl, ⟨g, hb, hm, hw, hh⟩, e⟩
theorem t1_run (x : PP m w h size ps T) (e : m_law_made [.val (plainD m ps h w)] = some (.ok (.ins 3 (prog m (ps.map mk) h w)), [.val (plainD m ps h w)])) (s0 s1 s2 s4 s5 s6 s7 s8 s9 s10 s11 : Option O) :
    t1 [] [s0, s1, s2, some (.val (plainD m ps h w)), s4, s5, s6, s7, s8, s9, s10, s11] = some (.ok .nx, rS m w h ps s0 s1 s2 s6 s7 s8 s9 s10 s11) := by
  have e2 := ends m ps h w x.pk.top
  simp [t1, sAsgP, bindP, bindPs, setV, mTup, aCons, aNil, mCall, mVar, bnd, O.frz, splitIo, e, e2, dsOf, PR]
theorem sh64 {n : Nat} {d : D} (x : Sh n d) (hn : n ≤ 64 := by omega) : Sh 64 d := x.mono hn
theorem t2_run (x : PP m w h size ps T) (s0 s1 s2 s6 s7 s8 s9 s10 s11 : Option O) : t2 [] (rS m w h ps s0 s1 s2 s6 s7 s8 s9 s10 s11) = some (.ok .nx, rS m w h ps s0 s1 s2 s6 s7 s8 s9 s10 s11) := by
  have sh : Sh 5 (.lst [.int m, .tup (ps.map mk), .int h, .int w]) := Sh.lst (.cons ((Sh.int m).mono (by omega)) (.cons (Sh.tup (n := 3) x.shb) (.cons ((Sh.int h).mono (by omega)) (.cons ((Sh.int w).mono (by omega)) (.nil _)))))
  have n := (sh64 sh).ne
  have f1 : fOr1 fList fListD [plainD m ps h w] = some (.lst [.int m, .tup (ps.map mk), .int h, .int w]) := by rfl
  simp [t2, sIf, sNx, mOp2, mLst, mFld, PR, aCons, aNil, mVar, bnd, O.frz, lk_many, lk_blocks, lk_handed, lk_span, dsOf, mCB, f1, n]
theorem lenO_run {fn : Fn} {c : Nat} {fs : List (Str × D)} {n : Int} {os : List O} {a : M} {ρ ρ1 : Rho} (ha : a ρ = some (.ok (.val (.ins c fs)), ρ1)) (hf : fn [.val (.ins c fs)] = some (.ok (.val (.int n)), os)) (h0 : 0 ≤ n) (h1 : n < 2 ^ 63) : mLenO c fn a ρ = some (.ok (.val (.int n)), ρ1) := by
  unfold mLenO
  rw [ha]
  simp only [bnd, frz_val, if_true, hf]
  exact if_pos ⟨h0, h1⟩
theorem t3_run (x : PP m w h size ps T) (s0 s1 s2 s6 s7 s8 s9 s10 s11 : Option O) : t3 [] (rS m w h ps s0 s1 s2 s6 s7 s8 s9 s10 s11) = some (.ok .nx, rS m w h ps s0 s1 s2 s6 s7 s8 s9 s10 s11) := by
  have q1 := len_of x
  have q2 := points_of x
  have q3 := law_points x.pk m h w
  have n1 := (sh64 (Sh.int (size : Int))).ne
  have n2 := (sh64 (sh_PT (ps := ps) ps.length)).ne
  have l0 : fOr1 fLen fLenD [.lst (ps.map (·.2))] = some (.val (.int (size : Int))) := by simp [fOr1, fLen, x.len]
  have h16 := x.g.top
  unfold PR at q1 q2
  have e1 : mLenO 3 m_Program___len__ (mVar 4) (rS m w h ps s0 s1 s2 s6 s7 s8 s9 s10 s11) = some (.ok (.val (.int (size : Int))), rS m w h ps s0 s1 s2 s6 s7 s8 s9 s10 s11) := lenO_run (ha := by simp [mVar, PR]) q1 (by omega) (Int.lt_of_le_of_lt (b := 16) (by omega) (by decide))
  unfold t3 sIf mOr
  have e2 : mOp2 fNe (mLenO 3 m_Program___len__ (mVar 4)) (mCB (fOr1 fLen fLenD) (aCons (mVar 5) aNil)) (rS m w h ps s0 s1 s2 s6 s7 s8 s9 s10 s11) = some (.ok (.val (.bl false)), rS m w h ps s0 s1 s2 s6 s7 s8 s9 s10 s11) := by
    unfold mOp2
    rw [e1]
    simp [mCB, aCons, aNil, mVar, bnd, O.frz, dsOf, l0, n1]
  rw [e2]
  simp [sNx, mOp2, mProp, PR, onData, mCall, splitIo, aCons, aNil, mVar, bnd, O.frz, q2, q3, n2]
theorem t4_run (x : PP m w h size ps T) (s0 s1 s2 s6 s7 s8 s9 s10 s11 : Option O) : ∃ s6' s7', t4 [] (rS m w h ps s0 s1 s2 s6 s7 s8 s9 s10 s11) = some (.ok .nx, rS m w h ps s0 s1 s2 s6' s7' s8 s9 s10 s11) := by
  have ei : iEnu (aCons (mOp2 fIxA (mVar 3) (mC (.int (1)))) aNil) (rS m w h ps s0 s1 s2 s6 s7 s8 s9 s10 s11) = some (enumD 0 (ps.map mk), rS m w h ps s0 s1 s2 s6 s7 s8 s9 s10 s11) := by
    simp [iEnu, aCons, aNil, mOp2, mVar, mC, bnd, O.frz, d_1, seqD]
  obtain ⟨ρ', h1, u6, u7, rfl⟩ := sFor_inv (mi := iEnu (aCons (mOp2 fIxA (mVar 3) (mC (.int (1)))) aNil)) (p := .tu ((.nm 6) :: (.nm 7) :: [])) (b := blockB) (pins := []) (fun k ρ => ∃ s6 s7, ρ = rS m w h ps s0 s1 s2 s6 s7 s8 s9 s10 s11) ei ⟨s6, s7, rfl⟩ (fun i d ρ hd hi => by
    obtain ⟨s6, s7, rfl⟩ := hi
    obtain ⟨y, hy, rfl⟩ := enumD_get _ _ _ _ hd
    rw [List.getElem?_map] at hy
    obtain ⟨p, hpi, rfl⟩ := Option.map_eq_some_iff.mp hy
    rw [Nat.zero_add]
    exact ⟨rS m w h ps s0 s1 s2 (some (.val (.int (i : Int)))) (some (.val (mk p))) s8 s9 s10 s11, _, by simp [bindP, bindPs, setV], .inl (blockB_run x i p hpi _ _ _ _ _ _ _ _), ⟨_, _, rfl⟩⟩)
  exact ⟨u6, u7, h1⟩
theorem t5_run (x : PP m w h size ps T) (s0 s1 s2 s6 s7 s8 s9 s10 s11 : Option O) : t5 [] (rS m w h ps s0 s1 s2 s6 s7 s8 s9 s10 s11) = some (.ok .nx, rS m w h ps s0 s1 s2 s6 s7 s8 s9 s10 s11) := by
  have q2 := points_of x
  unfold PR at q2
  simp [t5, sDrop, mClrT, mProp, PR, onData, mVar, bnd, O.frz, q2]
theorem t6_run (x : PP m w h size ps T) (s0 s1 s2 s6 s7 s8 s9 s10 s11 : Option O) : t6 [] (rS m w h ps s0 s1 s2 s6 s7 s8 s9 s10 s11) = some (.ok .nx, rS m w h ps s0 s1 s2 s6 s7 s8 s9 s10 s11) := by
  have q5 := edges_into x 0 x.g.one
  rw [show ((0 : Nat) : Int) = 0 by rfl, ET_zero x.g] at q5
  unfold PR at q5
  simp [t6, sDrop, mAppT, mMeth, PR, onData, dsOnly, aCons, aNil, mTup, mVar, mC, bnd, O.frz, lk_edges, q5, dsOf]
theorem t7_run (x : PP m w h size ps T) (s0 s1 s2 s6 s7 s8 s9 s10 s11 : Option O) : t7 [] (rS m w h ps s0 s1 s2 s6 s7 s8 s9 s10 s11) = some (.ok .nx, rS m w h ps s0 s1 s2 s6 s7 s8 s9 s10 s11) := by
  have q2 := points_of x
  have q3 := law_points x.pk m h w
  have q5 := edges_into x 0 x.g.one
  rw [show ((0 : Nat) : Int) = 0 by rfl, ET_zero x.g] at q5
  have n2 := (sh64 (sh_PT (ps := ps) ps.length)).ne
  have n3 := (sh64 (Sh.lst (.nil 0))).ne
  unfold PR at q2 q5
  simp [t7, sIf, sNx, mOr, mOp2, mProp, mMeth, PR, onData, dsOnly, mCall, splitIo, mLst, aCons, aNil, mVar, mC, bnd, O.frz, lk_edges, q2, q3, q5, n2, n3, dsOf]
end VM

end
section
open PySem PySem.Spec VL L2
namespace VM
open VG
variable {m w h : Int} {size : Nat} {ps : List (List D × D)} {T : Int → List Int}
abbrev AA : MA := aCons (mOp2 fIxA (mVar 3) (mC (.int (0)))) (aCons (mOp2 fIxA (mVar 3) (mC (.int (1)))) aNil)
abbrev BB : MA := aCons (mOp2 fIxA (mVar 3) (mC (.int (2)))) (aCons (mOp2 fIxA (mVar 3) (mC (.int (3)))) aNil)
theorem AA_run (m w h : Int) (ps : List (List D × D)) (s0 s1 s2 s6 s7 s8 s9 s10 s11 : Option O) : AA (rS m w h ps s0 s1 s2 s6 s7 s8 s9 s10 s11) = some (.ok [.d (.int m), .d (.tup (ps.map mk))], rS m w h ps s0 s1 s2 s6 s7 s8 s9 s10 s11) := by
  simp [AA, aCons, aNil, mOp2, mVar, mC, bnd, O.frz, d_0, d_1]
theorem BB_run (m w h : Int) (ps : List (List D × D)) (s0 s1 s2 s6 s7 s8 s9 s10 s11 : Option O) : BB (rS m w h ps s0 s1 s2 s6 s7 s8 s9 s10 s11) = some (.ok [.d (.int h), .d (.int w)], rS m w h ps s0 s1 s2 s6 s7 s8 s9 s10 s11) := by
  simp [BB, aCons, aNil, mOp2, mVar, mC, bnd, O.frz, d_2, d_3]
theorem t8_run (x : PP m w h size ps T) (s0 s1 s2 s6 s7 s8 s9 s10 s11 : Option O) : t8 [] (rS m w h ps s0 s1 s2 s6 s7 s8 s9 s10 s11) = some (.ok .nx, rS m w h ps s0 s1 s2 s6 s7 (some (.val (PR m w h ps))) s9 s10 s11) := by
  have hm := x.hm
  have hw := x.hw
  have hh := x.hh
  have e := make x.g (x.wide (m' := m) (w' := w) (by omega) (by omega)) (by omega) (by omega) (by omega) AA BB _ _ _ (AA_run m w h ps s0 s1 s2 s6 s7 s8 s9 s10 s11) (BB_run m w h ps s0 s1 s2 s6 s7 s8 s9 s10 s11)
  unfold t8 sAsgV
  rw [e]
  simp [bnd, setV, O.frz, PR]
abbrev AA1 : MA := aCons (mOp2 fAddA (mOp2 fIxA (mVar 3) (mC (.int (0)))) (mC (.int (1)))) (aCons (mOp2 fIxA (mVar 3) (mC (.int (1)))) aNil)
theorem t9_run (x : PP m w h size ps T) (s0 s1 s2 s6 s7 s8 s9 s10 s11 : Option O) : t9 [] (rS m w h ps s0 s1 s2 s6 s7 s8 s9 s10 s11) = some (.ok .nx, rS m w h ps s0 s1 s2 s6 s7 s8 (some (.lst [PR (m + 1) w h ps])) s10 s11) := by
  have hm := x.hm
  have hw := x.hw
  have hh := x.hh
  have ea : AA1 (rS m w h ps s0 s1 s2 s6 s7 s8 s9 s10 s11) = some (.ok [.d (.int (m + 1)), .d (.tup (ps.map mk))], rS m w h ps s0 s1 s2 s6 s7 s8 s9 s10 s11) := by
    simp [AA1, aCons, aNil, mOp2, mVar, mC, bnd, O.frz, d_0, d_1, fAddA, fOr, fInt]
  have e := make x.g (x.wide (m' := m + 1) (w' := w) (by omega) (by omega)) (by omega) (by omega) (by omega) AA1 BB _ _ _ ea (BB_run m w h ps s0 s1 s2 s6 s7 s8 s9 s10 s11)
  unfold t9 sAsgO mLst
  simp only [aCons, aNil, e, bnd]
  simp [setV, O.frz, PR, dsOf]
abbrev BB1 : MA := aCons (mOp2 fIxA (mVar 3) (mC (.int (2)))) (aCons (mOp2 fAddA (mOp2 fIxA (mVar 3) (mC (.int (3)))) (mC (.int (1)))) aNil)
theorem app_run {i : Nat} {a : M} {ρ ρ' : Rho} {ds : List D} {o : O} (h0 : ρ[i]? = some (some (.lst ds))) (ha : a ρ = some (.ok o, ρ)) (hl : ds.length < 1000) (h1 : ρ.set i (some (.lst (ds ++ [o.frz]))) = ρ') : sDrop (mApp i a) [] ρ = some (.ok .nx, ρ') := by
  have : ds.length < 100000 := by omega
  simp only [sDrop, mApp, h0, ha, bnd, if_pos this, h1]
theorem t10_run (x : PP m w h size ps T) (s0 s1 s2 s6 s7 s8 s10 s11 : Option O) (q : List D) (hq : q.length < 1000) : t10 [] (rS m w h ps s0 s1 s2 s6 s7 s8 (some (.lst q)) s10 s11) = some (.ok .nx, rS m w h ps s0 s1 s2 s6 s7 s8 (some (.lst (q ++ [PR m (w + 1) h ps]))) s10 s11) := by
  have hm := x.hm
  have hw := x.hw
  have hh := x.hh
  have eb : BB1 (rS m w h ps s0 s1 s2 s6 s7 s8 (some (.lst q)) s10 s11) = some (.ok [.d (.int h), .d (.int (w + 1))], rS m w h ps s0 s1 s2 s6 s7 s8 (some (.lst q)) s10 s11) := by
    simp [BB1, aCons, aNil, mOp2, mVar, mC, bnd, O.frz, d_2, d_3, fAddA, fOr, fInt]
  have e := make x.g (x.wide (m' := m) (w' := w + 1) (by omega) (by omega)) (by omega) (by omega) (by omega) AA BB1 _ _ _ (AA_run m w h ps s0 s1 s2 s6 s7 s8 (some (.lst q)) s10 s11) eb
  exact app_run (by rfl) e hq (by rfl)
def ho (h : Int) : Int := if 0 < h then 0 else 1
abbrev BB2 : MA := aCons (mIf (mOp2 (fCmp fun i j => decide (j < i)) (mOp2 fIxA (mVar 3) (mC (.int (2)))) (mC (.int (0)))) (mC (.int (0))) (mC (.int (1)))) (aCons (mOp2 fIxA (mVar 3) (mC (.int (3)))) aNil)
theorem t11_run (x : PP m w h size ps T) (s0 s1 s2 s6 s7 s8 s10 s11 : Option O) (q : List D) (hq : q.length < 1000) : t11 [] (rS m w h ps s0 s1 s2 s6 s7 s8 (some (.lst q)) s10 s11) = some (.ok .nx, rS m w h ps s0 s1 s2 s6 s7 s8 (some (.lst (q ++ [PR m w (ho h) ps]))) s10 s11) := by
  have hm := x.hm
  have hw := x.hw
  have hh := x.hh
  have eb : BB2 (rS m w h ps s0 s1 s2 s6 s7 s8 (some (.lst q)) s10 s11) = some (.ok [.d (.int (ho h)), .d (.int w)], rS m w h ps s0 s1 s2 s6 s7 s8 (some (.lst q)) s10 s11) := by
    by_cases z : 0 < h
    · simp [BB2, aCons, aNil, mIf, mOp2, mVar, mC, bnd, O.frz, d_2, d_3, fCmp, z, ho]
    · simp [BB2, aCons, aNil, mIf, mOp2, mVar, mC, bnd, O.frz, d_2, d_3, fCmp, z, ho]
  have e := make x.g (x.wide (m' := m) (w' := w) (by omega) (by omega)) (by omega) (h := ho h) (by unfold ho; split <;> omega) (by omega) AA BB2 _ _ _ (AA_run m w h ps s0 s1 s2 s6 s7 s8 (some (.lst q)) s10 s11) eb
  exact app_run (by rfl) e hq (by rfl)
theorem t12_run (p : List D × D) (r : List (List D × D)) (hl : p.1.length ≤ 12) (s0 s1 s2 s6 s7 s8 s9 s10 s11 : Option O) : t12 [] (rS m w h (p :: r) s0 s1 s2 s6 s7 s8 s9 s10 s11) = some (.ok .nx, rS m w h (p :: r) s0 s1 s2 s6 s7 s8 s9 (some (.val (.tup (hd1 p).1))) s11) := by
  have i0 : fIxA (.tup (mk p :: r.map mk)) (.int 0) = some (.val (mk p)) := ix_at (ps := p :: r) 0 p rfl
  have ec : fAddA (.tup [.tup [.str "tell", .int 0]]) (.tup p.1) = some (.val (.tup (.tup [.str "tell", .int 0] :: p.1))) := by
    have : (1 : Nat) + p.1.length ≤ 100000 := by omega
    simp [fAddA, fOr, fInt, fCatL, fCatT, this]
  simp [t12, sAsgV, mOp2, mTup, aCons, aNil, mVar, mC, bnd, O.frz, d_1, i0, x_0, dsOf, ec, setV, hd1]
/-- a tuple's rest -/
theorem sl_rest (x : D) (xs : List D) (hl : xs.length ≤ 100) : fSl (.tup (x :: xs)) (some 1) none = some (.val (.tup xs)) := by
  simp [fSl, VL.cutD, HT.sIx]
abbrev AA4 : MA := (aCons (mOp2 fIxA (mVar 3) (mC (.int (0)))) (aCons (mOp2 fAddA (mTup (aCons (mTup (aCons (mVar 10) (aCons (mOp2 fIxA (mVar 5) (mC (.int (0)))) aNil))) aNil)) (mSl (mOp2 fIxA (mVar 3) (mC (.int (1)))) (oPart (mC (.int (1)))) oNone)) aNil))
theorem t13_run {p : List D × D} {r : List (List D × D)} (x : PP m w h size (p :: r) T) (s0 s1 s2 s6 s7 s8 s11 : Option O) (q : List D) (hq : q.length < 1000) : t13 [] (rS m w h (p :: r) s0 s1 s2 s6 s7 s8 (some (.lst q)) (some (.val (.tup (hd1 p).1))) s11) = some (.ok .nx, rS m w h (p :: r) s0 s1 s2 s6 s7 s8 (some (.lst (q ++ [PR m w h (hd1 p :: r)]))) (some (.val (.tup (hd1 p).1))) s11) := by
  have hm := x.hm
  have hw := x.hw
  have hh := x.hh
  have i0 : fIxA (.lst (p.2 :: r.map (·.2))) (.int 0) = some (.val p.2) := by simp [fIxA, fOr, fIx, atI, ixN]
  have hr : (r.map mk).length ≤ 100 := by
    have := x.len
    have := x.g.top
    rw [List.length_cons] at *
    rw [List.length_map]
    omega
  have sl := sl_rest (mk p) (r.map mk) hr
  have ec : fAddA (.tup [.tup [.tup (hd1 p).1, p.2]]) (.tup (r.map mk)) = some (.val (.tup (.tup [.tup (hd1 p).1, p.2] :: r.map mk))) := by
    have : (1 : Nat) + r.length ≤ 100000 := by
      rw [List.length_map] at hr
      omega
    simp [fAddA, fOr, fInt, fCatL, fCatT, this]
  have ea : AA4 (rS m w h (p :: r) s0 s1 s2 s6 s7 s8 (some (.lst q)) (some (.val (.tup (hd1 p).1))) s11) = some (.ok [.d (.int m), .d (.tup ((hd1 p :: r).map mk))], rS m w h (p :: r) s0 s1 s2 s6 s7 s8 (some (.lst q)) (some (.val (.tup (hd1 p).1))) s11) := by
    have e2 : (hd1 p :: r).map mk = .tup [.tup (hd1 p).1, p.2] :: r.map mk := by rfl
    rw [e2]
    generalize (hd1 p).1 = z at ec ⊢
    have e1 := d_1 (ps := p :: r) m h w
    have e0 := d_0 (ps := p :: r) m h w
    rw [List.map_cons] at e1
    unfold rS
    generalize plainD m (p :: r) h w = pl at e0 e1 ⊢
    simp [AA4, aCons, aNil, mOp2, mTup, mSl, oPart, oNone, mVar, mC, bnd, O.frz, e0, e1, i0, sl, dsOf, ec]
  have e := make (graph1 x.g) (blk1 x) (by omega) (by omega) (by omega) AA4 BB _ _ _ ea (BB_run m w h (p :: r) s0 s1 s2 s6 s7 s8 (some (.lst q)) (some (.val (.tup (hd1 p).1))) s11)
  exact app_run (by rfl) e hq (by rfl)
end VM

end
section
open PySem PySem.Spec VL L2
namespace VM
open VG
variable {m w h : Int} {size : Nat} {ps : List (List D × D)} {T : Int → List Int}
theorem any4 : fAny [.lst [.bl false, .bl false, .bl false, .bl false]] = some (.val (.bl false)) := by rfl
theorem tru_f : truD (.bl false) = some false := by rfl
def L4 (m w h : Int) (p : List D × D) (r : List (List D × D)) : List D := [PR (m + 1) w h (p :: r), PR m (w + 1) h (p :: r), PR m w (ho h) (p :: r), PR m w h (hd1 p :: r)]
theorem mem_L4 {d : D} {p : List D × D} {r : List (List D × D)} (hd : d ∈ L4 m w h p r) : d = PR (m + 1) w h (p :: r) ∨ d = PR m (w + 1) h (p :: r) ∨ d = PR m w (ho h) (p :: r) ∨ d = PR m w h (hd1 p :: r) := by
  simpa [L4] using hd
theorem len_L4 {p : List D × D} {r : List (List D × D)} : (L4 m w h p r).length ≤ 1000 := by
  unfold L4
  simp only [List.length_cons, List.length_nil]
  omega
theorem sbs {p : List D × D} {r : List (List D × D)} (x : PP m w h size (p :: r) T) : fEq (.tup ((p :: r).map mk)) (.tup ((p :: r).map mk)) = some (.val (.bl true)) := (sh64 (Sh.tup x.shb)).eq
theorem sb4 {p : List D × D} {r : List (List D × D)} (x : PP m w h size (p :: r) T) : fEq (.tup ((p :: r).map mk)) (.tup ((hd1 p :: r).map mk)) = some (.val (.bl false)) := by
  have sr := x.shr p (by simp)
  have a1 : Shs 3 p.1 := by
    obtain ⟨ps, q1, q2, q3, q4⟩ := sr.1
    exact ⟨ps, q1, q2, by omega, q4⟩
  have a2 : Shs 3 (hd1 p).1 := .cons (Sh.tup (n := 2) (.cons ((Sh.str _ (by kernel_rfl)).mono (by omega)) (.cons ((Sh.int 0).mono (by omega)) (.nil _)))) a1
  have a3 : Shs 5 (r.map mk) := Shs.of _ fun d hd => (Sh.blk (x.blk d (by simp; exact .inr (by simpa using hd)))).mono (by omega)
  exact eq_first a1 a2 (sr.2.mono (by omega)) a3 (by simp [hd1])
abbrev r14 (m w h : Int) (p : List D × D) (r : List (List D × D)) (s0 s1 s2 s6 s7 s10 s11 : Option O) : Rho := rS m w h (p :: r) s0 s1 s2 s6 s7 (some (.val (PR m w h (p :: r)))) (some (.val (.lst (L4 m w h p r)))) s10 s11
theorem own14 {p : List D × D} {r : List (List D × D)} (x : PP m w h size (p :: r) T) (s0 s1 s2 s6 s7 s10 : Option O) (d : D) (hd : d ∈ L4 m w h p r) :
    mOwn 3 m_Program___eq__ false (mVar 4) (mVar 11) (r14 m w h p r s0 s1 s2 s6 s7 s10 (some (.val d))) = some (.ok (.val (.bl false)), r14 m w h p r s0 s1 s2 s6 s7 s10 (some (.val d))) := by
  have sb := sbs x
  have s4 := sb4 x
  rcases mem_L4 hd with rfl | rfl | rfl | rfl
  · rw [own_eq sb (mVar 4) (mVar 11) _ (.val (PR m w h (p :: r))) (.val (PR (m + 1) w h (p :: r))) (by simp [mVar]) (by simp [mVar]) rfl rfl]
    have : ¬ m = m + 1 := by omega
    simp [this]
  · rw [own_eq sb (mVar 4) (mVar 11) _ (.val (PR m w h (p :: r))) (.val (PR m (w + 1) h (p :: r))) (by simp [mVar]) (by simp [mVar]) rfl rfl]
    have : ¬ w = w + 1 := by omega
    simp [this]
  · rw [own_eq sb (mVar 4) (mVar 11) _ (.val (PR m w h (p :: r))) (.val (PR m w (ho h) (p :: r))) (by simp [mVar]) (by simp [mVar]) rfl rfl]
    have hh := x.hh
    have : ¬ h = ho h := by
      unfold ho
      split <;> omega
    simp [this]
  · rw [own_eq s4 (mVar 4) (mVar 11) _ (.val (PR m w h (p :: r))) (.val (PR m w h (hd1 p :: r))) (by simp [mVar]) (by simp [mVar]) rfl rfl]
    simp
theorem lc14 {p : List D × D} {r : List (List D × D)} (x : PP m w h size (p :: r) T) (s0 s1 s2 s6 s7 s10 : Option O) : mLc (iWalk (mFz 9)) [11] (.nm 11) mYes (mOwn 3 m_Program___eq__ false (mVar 4) (mVar 11)) (rS m w h (p :: r) s0 s1 s2 s6 s7 (some (.val (PR m w h (p :: r)))) (some (.lst (L4 m w h p r))) s10 none) = some (.ok (.lst [.bl false, .bl false, .bl false, .bl false]), r14 m w h p r s0 s1 s2 s6 s7 s10 none) := by
  have ei : VL.iWalk (mFz 9) (rS m w h (p :: r) s0 s1 s2 s6 s7 (some (.val (PR m w h (p :: r)))) (some (.lst (L4 m w h p r))) s10 none) = some (L4 m w h p r, r14 m w h p r s0 s1 s2 s6 s7 s10 none) := iWalk_run (o := .val (.lst (L4 m w h p r))) (by simp [mFz, O.frz]) (by rfl)
  have hl := len_L4 (m := m) (w := w) (h := h) (p := p) (r := r)
  have hc : clean [11] (r14 m w h p r s0 s1 s2 s6 s7 s10 none) = true := by simp [clean]
  rw [mLc_run ei hc (by omega)]
  rw [lcLoop_all (fun d => r14 m w h p r s0 s1 s2 s6 s7 s10 (some (.val d))) (fun _ => .bl false) (L4 m w h p r) [] fun d hd => ⟨by simp [bindP, setV], by simp [wipeR], .val (.bl false), own14 x s0 s1 s2 s6 s7 s10 d hd, rfl⟩]
  rfl
theorem t14_run {p : List D × D} {r : List (List D × D)} (x : PP m w h size (p :: r) T) (s0 s1 s2 s6 s7 s10 : Option O) : t14 [] (rS m w h (p :: r) s0 s1 s2 s6 s7 (some (.val (PR m w h (p :: r)))) (some (.lst (L4 m w h p r))) s10 none)
    = some (.ok .nx, r14 m w h p r s0 s1 s2 s6 s7 s10 none) := by
  have e2 := lc14 x s0 s1 s2 s6 s7 s10
  have sb := sbs x
  have e1 : mOwn 3 m_Program___eq__ false (mVar 4) (mVar 8) (rS m w h (p :: r) s0 s1 s2 s6 s7 (some (.val (PR m w h (p :: r)))) (some (.lst (L4 m w h p r))) s10 none) = some (.ok (.val (.bl true)), rS m w h (p :: r) s0 s1 s2 s6 s7 (some (.val (PR m w h (p :: r)))) (some (.lst (L4 m w h p r))) s10 none) := by
    rw [own_eq sb (mVar 4) (mVar 8) _ (.val (PR m w h (p :: r))) (.val (PR m w h (p :: r))) (by simp [mVar]) (by simp [mVar]) rfl rfl]
    simp
  unfold t14 sIf mOr mNot mTru mCB
  rw [e1]
  simp only [bnd, frz_val, Bool.not_true, aCons, aNil, e2, O.frz, dsOf, Option.map, Option.bind, any4, tru_f, sNx]
theorem seq_run {a b : MS} {p : List Nat} {ρ ρ1 : Rho} (h : a p ρ = some (.ok .nx, ρ1)) : sSeq a b p ρ = b p ρ1 := by
  unfold sSeq
  rw [h]
  rfl
theorem turn_run (zs : List Int) (f a : Int) (hf : 0 ≤ f) (ha : 0 ≤ a) (s0 s2 s3 s4 s5 s6 s7 s8 s9 s10 : Option O) : ∃ (a' : Int) (u3 u4 u5 u6 u7 u8 u9 u10 : Option O), 0 ≤ a' ∧
    turnB [] [s0, some (drawO zs f a), s2, s3, s4, s5, s6, s7, s8, s9, s10, none] = some (.ok .nx, [s0, some (drawO zs f a'), s2, u3, u4, u5, u6, u7, u8, u9, u10, none]) := by
  obtain ⟨a', d, ha', hd, h0⟩ := t0_run zs f a hf ha s0 s2 s3 s4 s5 s6 s7 s8 s9 s10 none
  obtain ⟨m, w, h, size, ps, T, rfl, x, hmade⟩ := pp_of d hd
  have h1 := t1_run x hmade s0 (some (drawO zs f a')) s2 s4 s5 s6 s7 s8 s9 s10 none
  have h2 := t2_run x s0 (some (drawO zs f a')) s2 s6 s7 s8 s9 s10 none
  have h3 := t3_run x s0 (some (drawO zs f a')) s2 s6 s7 s8 s9 s10 none
  obtain ⟨u6, u7, h4⟩ := t4_run x s0 (some (drawO zs f a')) s2 s6 s7 s8 s9 s10 none
  have h5 := t5_run x s0 (some (drawO zs f a')) s2 u6 u7 s8 s9 s10 none
  have h6 := t6_run x s0 (some (drawO zs f a')) s2 u6 u7 s8 s9 s10 none
  have h7 := t7_run x s0 (some (drawO zs f a')) s2 u6 u7 s8 s9 s10 none
  have h8 := t8_run x s0 (some (drawO zs f a')) s2 u6 u7 s8 s9 s10 none
  have h9 := t9_run x s0 (some (drawO zs f a')) s2 u6 u7 (some (.val (PR m w h ps))) s9 s10 none
  have h10 := t10_run x s0 (some (drawO zs f a')) s2 u6 u7 (some (.val (PR m w h ps))) s10 none [PR (m + 1) w h ps] (by simp)
  have h11 := t11_run x s0 (some (drawO zs f a')) s2 u6 u7 (some (.val (PR m w h ps))) s10 none ([PR (m + 1) w h ps] ++ [PR m (w + 1) h ps]) (by simp)
  have hl := x.len
  have h1s := x.g.one
  cases ps with
  | nil =>
    rw [List.length_nil] at hl
    omega
  | cons p r =>
  have h12 := t12_run (m := m) (w := w) (h := h) p r (x.pk.each p (by simp)) s0 (some (drawO zs f a')) s2 u6 u7 (some (.val (PR m w h (p :: r)))) (some (.lst ([PR (m + 1) w h (p :: r)] ++ [PR m (w + 1) h (p :: r)] ++ [PR m w (ho h) (p :: r)]))) s10 none
  have h13 := t13_run x s0 (some (drawO zs f a')) s2 u6 u7 (some (.val (PR m w h (p :: r)))) none ([PR (m + 1) w h (p :: r)] ++ [PR m (w + 1) h (p :: r)] ++ [PR m w (ho h) (p :: r)]) (by simp)
  have h14 := t14_run x s0 (some (drawO zs f a')) s2 u6 u7 (some (.val (.tup (hd1 p).1)))
  refine ⟨a', some (.val (plainD m (p :: r) h w)), some (.val (PR m w h (p :: r))), some (.val (.lst ((p :: r).map (·.2)))), u6, u7, some (.val (PR m w h (p :: r))), some (.val (.lst (L4 m w h p r))), some (.val (.tup (hd1 p).1)), by omega, ?_⟩
  have eL : [PR (m + 1) w h (p :: r)] ++ [PR m (w + 1) h (p :: r)] ++ [PR m w (ho h) (p :: r)] ++ [PR m w h (hd1 p :: r)] = L4 m w h p r := by rfl
  rw [eL] at h13
  unfold turnB
  rw [seq_run h0, seq_run h1, seq_run h2, seq_run h3, seq_run h4, seq_run h5, seq_run h6, seq_run h7, seq_run h8, seq_run h9, seq_run h10, seq_run h11, seq_run h12, seq_run h13]
  exact h14
theorem law_true (ns : List Int) : m_law [.val (.scr ns)] = some (.ok (.val (.bl true)), [.val (.scr ns)]) := by
  have em : m_law = mFn0 1 12 (sSeq (sAsgO 1 (mLst (aCons (mSl (mVar 0) oNone (oPart (mC (.int (63))))) (aCons (mC (.int (0))) (aCons (mC (.int (0))) aNil))))) (sSeq (sFor (iRange1 (aCons (mC (.int (4))) aNil)) (.nm 2) turnB) (sRet (mC (.bl true))))) := rfl
  obtain ⟨zs, hz⟩ : ∃ zs : List Int, VL.cutD (ns.map .int) none (some 63) = zs.map .int := ⟨(ns.drop _).take _, by unfold VL.cutD; rw [← List.map_drop, ← List.map_take]⟩
  have e0 : sAsgO 1 (mLst (aCons (mSl (mVar 0) oNone (oPart (mC (.int (63))))) (aCons (mC (.int (0))) (aCons (mC (.int (0))) aNil)))) [] [some (.val (.scr ns)), none, none, none, none, none, none, none, none, none, none, none]
      = some (.ok .nx, [some (.val (.scr ns)), some (drawO zs 0 0), none, none, none, none, none, none, none, none, none, none]) := by
    simp [sAsgO, mLst, aCons, aNil, mSl, oNone, oPart, mVar, mC, bnd, O.frz, fSl, hz, dsOf, setV, drawO]
  have ei : iRange1 (aCons (mC (.int (4))) aNil) [some (.val (.scr ns)), some (drawO zs 0 0), none, none, none, none, none, none, none, none, none, none] = some ((List.range 4).map fun (j : Nat) => D.int (j : Int), [some (.val (.scr ns)), some (drawO zs 0 0), none, none, none, none, none, none, none, none, none, none]) :=
    iRange1_run (by simp [aCons, aNil, mC, bnd, O.frz]) (by omega)
  obtain ⟨ρ', h1, a, u2, u3, u4, u5, u6, u7, u8, u9, u10, h2, rfl⟩ := sFor_inv (mi := iRange1 (aCons (mC (.int (4))) aNil)) (p := .nm 2) (b := turnB) (pins := []) (fun k ρ => ∃ (a : Int) (u2 u3 u4 u5 u6 u7 u8 u9 u10 : Option O), 0 ≤ a ∧ ρ = [some (.val (.scr ns)), some (drawO zs 0 a), u2, u3, u4, u5, u6, u7, u8, u9, u10, none]) ei ⟨0, _, _, _, _, _, _, _, _, _, by omega, rfl⟩ (fun i d ρ hd hi => by
    obtain ⟨a, u2, u3, u4, u5, u6, u7, u8, u9, u10, ha, rfl⟩ := hi
    obtain ⟨a', v3, v4, v5, v6, v7, v8, v9, v10, ha', ht⟩ := turn_run zs 0 a (by omega) ha (some (.val (.scr ns))) (some (.val d)) u3 u4 u5 u6 u7 u8 u9 u10
    exact ⟨_, _, by simp [bindP, setV], .inl ht, a', _, _, _, _, _, _, _, _, _, ha', rfl⟩)
  rw [em]
  simp only [mFn0, mFn]
  have ep : pinsAux 0 [O.val (.scr ns)] = [] := by rfl
  have el : [O.val (D.scr ns)].map some ++ List.replicate (12 - 1) none = [some (.val (.scr ns)), none, none, none, none, none, none, none, none, none, none, none] := by rfl
  rw [ep, el]
  simp [sSeq, e0, h1, sThen, sRet, mC, bnd, fin, O.isOwn]
end VM

end
open PySem PySem.Spec
open PyProof.Rows L2
namespace VG
open VL
def ps_BadProgram : VX.Ps := ⟨⟨6, 17, 6, 21⟩, ⟨6, 23, 6, 27⟩, ⟨6, 28, 6, 32⟩, ⟨7, 8, 7, 13⟩, ⟨7, 8, 7, 15⟩, ⟨7, 8, 7, 24⟩, ⟨7, 27, 7, 53⟩, ⟨7, 54, 7, 58⟩, ⟨7, 53, 7, 59⟩, ⟨7, 25, 7, 60⟩, ⟨7, 8, 7, 61⟩, ⟨7, 8, 7, 61⟩, ⟨8, 8, 8, 12⟩, ⟨8, 8, 8, 17⟩, ⟨8, 20, 8, 24⟩, ⟨8, 8, 8, 24⟩⟩
theorem all_txt {P : Program} {w : World} {K : PySem.W.Frag} {h : Heap} {mg : Str → Option Value} (X : K.In h) (G : h.Ns mainGlobals mg)
    {f1 : Addr} {od1 an1 : Option Addr} {sl1 : Array (Option Value)} {oc1 kV1 dc1 pm1 cd1 ct1 : Value}
    {f2 : Addr} {od2 an2 : Option Addr} {sl2 : Array (Option Value)} {oc2 kV2 dc2 pm2 cd2 ct2 : Value}
    {f3 : Addr} {od3 an3 : Option Addr} {sl3 : Array (Option Value)} {oc3 kV3 dc3 pm3 cd3 ct3 : Value}
    {f6 : Addr} {od6 an6 : Option Addr} {sl6 : Array (Option Value)} {oc6 kV6 dc6 pm6 cd6 ct6 : Value}
    {f8 : Addr} {od8 an8 : Option Addr} {sl8 : Array (Option Value)} {oc8 kV8 dc8 pm8 cd8 ct8 : Value}
    {f9 : Addr} {od9 an9 : Option Addr} {sl9 : Array (Option Value)} {oc9 kV9 dc9 pm9 cd9 ct9 : Value}
    {f10 : Addr} {od10 an10 : Option Addr} {sl10 : Array (Option Value)} {oc10 kV10 dc10 pm10 cd10 ct10 : Value}
    {f14 : Addr} {od14 an14 : Option Addr} {sl14 : Array (Option Value)} {oc14 kV14 dc14 pm14 cd14 ct14 : Value}
    {f15 : Addr} {od15 an15 : Option Addr} {sl15 : Array (Option Value)} {oc15 kV15 dc15 pm15 cd15 ct15 : Value}
    {f16 : Addr} {od16 an16 : Option Addr} {sl16 : Array (Option Value)} {oc16 kV16 dc16 pm16 cd16 ct16 : Value}
    {f17 : Addr} {od17 an17 : Option Addr} {sl17 : Array (Option Value)} {oc17 kV17 dc17 pm17 cd17 ct17 : Value}
    {f18 : Addr} {od18 an18 : Option Addr} {sl18 : Array (Option Value)} {oc18 kV18 dc18 pm18 cd18 ct18 : Value}
    {f20 : Addr} {od20 an20 : Option Addr} {sl20 : Array (Option Value)} {oc20 kV20 dc20 pm20 cd20 ct20 : Value}
    {f21 : Addr} {od21 an21 : Option Addr} {sl21 : Array (Option Value)} {oc21 kV21 dc21 pm21 cd21 ct21 : Value}
    {f22 : Addr} {od22 an22 : Option Addr} {sl22 : Array (Option Value)} {oc22 kV22 dc22 pm22 cd22 ct22 : Value}
    {f24 : Addr} {od24 an24 : Option Addr} {sl24 : Array (Option Value)} {oc24 kV24 dc24 pm24 cd24 ct24 : Value}
    {f25 : Addr} {od25 an25 : Option Addr} {sl25 : Array (Option Value)} {oc25 kV25 dc25 pm25 cd25 ct25 : Value}
    {f26 : Addr} {od26 an26 : Option Addr} {sl26 : Array (Option Value)} {oc26 kV26 dc26 pm26 cd26 ct26 : Value}
    {f27 : Addr} {od27 an27 : Option Addr} {sl27 : Array (Option Value)} {oc27 kV27 dc27 pm27 cd27 ct27 : Value}
    {f28 : Addr} {od28 an28 : Option Addr} {sl28 : Array (Option Value)} {oc28 kV28 dc28 pm28 cd28 ct28 : Value}
    {f30 : Addr} {od30 an30 : Option Addr} {sl30 : Array (Option Value)} {oc30 kV30 dc30 pm30 cd30 ct30 : Value}
    {f31 : Addr} {od31 an31 : Option Addr} {sl31 : Array (Option Value)} {oc31 kV31 dc31 pm31 cd31 ct31 : Value}
    {f32 : Addr} {od32 an32 : Option Addr} {sl32 : Array (Option Value)} {oc32 kV32 dc32 pm32 cd32 ct32 : Value}
    {f33 : Addr} {od33 an33 : Option Addr} {sl33 : Array (Option Value)} {oc33 kV33 dc33 pm33 cd33 ct33 : Value}
    {f34 : Addr} {od34 an34 : Option Addr} {sl34 : Array (Option Value)} {oc34 kV34 dc34 pm34 cd34 ct34 : Value}
    {f35 : Addr} {od35 an35 : Option Addr} {sl35 : Array (Option Value)} {oc35 kV35 dc35 pm35 cd35 ct35 : Value}
    {f36 : Addr} {od36 an36 : Option Addr} {sl36 : Array (Option Value)} {oc36 kV36 dc36 pm36 cd36 ct36 : Value}
    {f37 : Addr} {od37 an37 : Option Addr} {sl37 : Array (Option Value)} {oc37 kV37 dc37 pm37 cd37 ct37 : Value}
    {f38 : Addr} {od38 an38 : Option Addr} {sl38 : Array (Option Value)} {oc38 kV38 dc38 pm38 cd38 ct38 : Value}
    {f40 : Addr} {od40 an40 : Option Addr} {sl40 : Array (Option Value)} {oc40 kV40 dc40 pm40 cd40 ct40 : Value}
    {f41 : Addr} {od41 an41 : Option Addr} {sl41 : Array (Option Value)} {oc41 kV41 dc41 pm41 cd41 ct41 : Value}
    {f42 : Addr} {od42 an42 : Option Addr} {sl42 : Array (Option Value)} {oc42 kV42 dc42 pm42 cd42 ct42 : Value}
    {f43 : Addr} {od43 an43 : Option Addr} {sl43 : Array (Option Value)} {oc43 kV43 dc43 pm43 cd43 ct43 : Value}
    {f7 : Addr} {od7 an7 : Option Addr} {sl7 : Array (Option Value)} {oc7 kV7 dc7 pm7 cd7 ct7 : Value}
    {f4 : Addr} {od4 an4 : Option Addr} {sl4 : Array (Option Value)} {oc4 kV4 dc4 pm4 cd4 ct4 : Value}
    {f5 : Addr} {od5 an5 : Option Addr} {sl5 : Array (Option Value)} {oc5 kV5 dc5 pm5 cd5 ct5 : Value}
    {f11 : Addr} {od11 an11 : Option Addr} {sl11 : Array (Option Value)} {oc11 kV11 dc11 pm11 cd11 ct11 : Value}
    {f12 : Addr} {od12 an12 : Option Addr} {sl12 : Array (Option Value)} {oc12 kV12 dc12 pm12 cd12 ct12 : Value}
    {f13 : Addr} {od13 an13 : Option Addr} {sl13 : Array (Option Value)} {oc13 kV13 dc13 pm13 cd13 ct13 : Value}
    {f29 : Addr} {od29 an29 : Option Addr} {sl29 : Array (Option Value)} {oc29 kV29 dc29 pm29 cd29 ct29 : Value}
    {f39 : Addr} {od39 an39 : Option Addr} {sl39 : Array (Option Value)} {oc39 kV39 dc39 pm39 cd39 ct39 : Value}
    {f44 : Addr} {od44 an44 : Option Addr} {sl44 : Array (Option Value)} {oc44 kV44 dc44 pm44 cd44 ct44 : Value}
    {t_MOST_BLOCKS : Tok}
    {t_MOST_HANDED : Tok}
    {t_MOST_ROWS : Tok}
    {t_MOST_SPAN : Tok}
    {t_MOST_VARIABLES : Tok}
    {C3 : Addr}
    {f19 D19 : Addr} {od19 an19 : Option Addr} {sl19 : Array (Option Value)} {oc19 dc19 pm19 cd19 ct19 : Value} {td19_0 : Tok} {td19_1 : Tok}
    {C2 : Addr}
    {p28 : Addr} {rs28 : List Value}
    {C1 : Addr}
    {nm1 qn1 : Str} {N1 fI1 T1 cc1 cda1 B1 : Addr} {bs1 sub1 : List Value} {sn1 : List Str} {ab1 : Bool} {col1 : Option Bool} {dd1 : Option Addr} {m0_1 m1_1 m2_1 m3_1 m5_1 : Option Value} {ocI1 kVI1 dcI1 pmI1 ctI1 ccl1 cel1 : Value} {odI1 anI1 cdd1 cld1 : Option Addr} {slI1 ccs1 csl1 : Array (Option Value)} {vs1 : Array Value} {file1 : Str} {tf1 : Tok} {oT1 : Obj} {nT1 : Nat}
    {d_ENDS : Addr} {es_ENDS : Array DictEntry} {n_ENDS : Nat}
    {d_ROWS : Addr} {es_ROWS : Array DictEntry} {n_ROWS : Nat}
    (a1 : PySem.W.nsIn K mainGlobals "is_whole" = some (some (.ref f1)))
    (a2 : PySem.W.nsIn K mainGlobals "is_integer" = some (some (.ref f2)))
    (a3 : PySem.W.nsIn K mainGlobals "are_integers" = some (some (.ref f3)))
    (a6 : PySem.W.nsIn K mainGlobals "has_word" = some (some (.ref f6)))
    (a8 : PySem.W.nsIn K mainGlobals "may_stand" = some (some (.ref f8)))
    (a9 : PySem.W.nsIn K mainGlobals "is_join" = some (some (.ref f9)))
    (a10 : PySem.W.nsIn K mainGlobals "are_joins" = some (some (.ref f10)))
    (a14 : PySem.W.nsIn K mainGlobals "all_points" = some (some (.ref f14)))
    (a15 : PySem.W.nsIn K mainGlobals "check_block" = some (some (.ref f15)))
    (a16 : PySem.W.nsIn K mainGlobals "followers_of" = some (some (.ref f16)))
    (a17 : PySem.W.nsIn K mainGlobals "edges_of" = some (some (.ref f17)))
    (a18 : PySem.W.nsIn K mainGlobals "reached" = some (some (.ref f18)))
    (a30 : PySem.W.nsIn K mainGlobals "_law_cell_at" = some (some (.ref f30)))
    (a31 : PySem.W.nsIn K mainGlobals "_law_draw" = some (some (.ref f31)))
    (a32 : PySem.W.nsIn K mainGlobals "_law_number" = some (some (.ref f32)))
    (a33 : PySem.W.nsIn K mainGlobals "_law_next" = some (some (.ref f33)))
    (a34 : PySem.W.nsIn K mainGlobals "_law_pick" = some (some (.ref f34)))
    (a35 : PySem.W.nsIn K mainGlobals "_law_row" = some (some (.ref f35)))
    (a36 : PySem.W.nsIn K mainGlobals "_law_outs" = some (some (.ref f36)))
    (a37 : PySem.W.nsIn K mainGlobals "_law_end" = some (some (.ref f37)))
    (a38 : PySem.W.nsIn K mainGlobals "_law_plain" = some (some (.ref f38)))
    (a40 : PySem.W.nsIn K mainGlobals "_law_targets" = some (some (.ref f40)))
    (a41 : PySem.W.nsIn K mainGlobals "_law_ends" = some (some (.ref f41)))
    (a42 : PySem.W.nsIn K mainGlobals "_law_edges" = some (some (.ref f42)))
    (a43 : PySem.W.nsIn K mainGlobals "_law_points" = some (some (.ref f43)))
    (a7 : PySem.W.nsIn K mainGlobals "fills" = some (some (.ref f7)))
    (a4 : PySem.W.nsIn K mainGlobals "is_row" = some (some (.ref f4)))
    (a5 : PySem.W.nsIn K mainGlobals "is_end" = some (some (.ref f5)))
    (a11 : PySem.W.nsIn K mainGlobals "are_rows" = some (some (.ref f11)))
    (a12 : PySem.W.nsIn K mainGlobals "is_block" = some (some (.ref f12)))
    (a13 : PySem.W.nsIn K mainGlobals "are_blocks" = some (some (.ref f13)))
    (a29 : PySem.W.nsIn K mainGlobals "wrong_part" = some (some (.ref f29)))
    (a39 : PySem.W.nsIn K mainGlobals "_law_made" = some (some (.ref f39)))
    (a44 : PySem.W.nsIn K mainGlobals "law" = some (some (.ref f44)))
    (aC3 : PySem.W.nsIn K mainGlobals "Program" = some (some (.ref C3)))
    (a19 : PySem.W.findIn K (.ref C3) "__init__" = some (some (.ref f19)))
    (aC2 : PySem.W.nsIn K mainGlobals "BadBlock" = some (some (.ref C2)))
    (aC1 : PySem.W.nsIn K mainGlobals "BadProgram" = some (some (.ref C1)))
    (mt27 : PySem.W.findIn K (.ref C3) "edges_into" = some (some (.ref f27)))
    (mt25 : PySem.W.findIn K (.ref C3) "end" = some (some (.ref f25)))
    (mt26 : PySem.W.findIn K (.ref C3) "followers" = some (some (.ref f26)))
    (mt24 : PySem.W.findIn K (.ref C3) "rows" = some (some (.ref f24)))
    (mt28 : PySem.W.findIn K (.ref C3) "points" = some (some (.ref p28)))
    (mt20 : PySem.W.findIn K (.ref C3) "__eq__" = some (some (.ref f20)))
    (mt22 : PySem.W.findIn K (.ref C3) "__getitem__" = some (some (.ref f22)))
    (mt21 : PySem.W.findIn K (.ref C3) "__len__" = some (some (.ref f21)))
    (mu28 : PySem.W.recIn K p28 "property" = some (.ref f28 :: rs28))
    (l1 : K.lookup f1 = some ⟨oc1, od1, .func (PySem.W.fnOf "is_whole" "is_whole" (defArgs s_is_whole) (defBody s_is_whole) (defScope s_is_whole) .none kV1 dc1 pm1 an1 cd1 ct1), sl1⟩)
    (c1 : PySem.W.codeIn K cd1 "is_whole" = true)
    (k1 : PySem.W.keepIn K (.ref f1) = true)
    (l2 : K.lookup f2 = some ⟨oc2, od2, .func (PySem.W.fnOf "is_integer" "is_integer" (defArgs s_is_integer) (defBody s_is_integer) (defScope s_is_integer) .none kV2 dc2 pm2 an2 cd2 ct2), sl2⟩)
    (c2 : PySem.W.codeIn K cd2 "is_integer" = true)
    (k2 : PySem.W.keepIn K (.ref f2) = true)
    (l3 : K.lookup f3 = some ⟨oc3, od3, .func (PySem.W.fnOf "are_integers" "are_integers" (defArgs s_are_integers) (defBody s_are_integers) (defScope s_are_integers) .none kV3 dc3 pm3 an3 cd3 ct3), sl3⟩)
    (c3 : PySem.W.codeIn K cd3 "are_integers" = true)
    (k3 : PySem.W.keepIn K (.ref f3) = true)
    (l6 : K.lookup f6 = some ⟨oc6, od6, .func (PySem.W.fnOf "has_word" "has_word" (defArgs s_has_word) (defBody s_has_word) (defScope s_has_word) .none kV6 dc6 pm6 an6 cd6 ct6), sl6⟩)
    (c6 : PySem.W.codeIn K cd6 "has_word" = true)
    (k6 : PySem.W.keepIn K (.ref f6) = true)
    (l8 : K.lookup f8 = some ⟨oc8, od8, .func (PySem.W.fnOf "may_stand" "may_stand" (defArgs s_may_stand) (defBody s_may_stand) (defScope s_may_stand) .none kV8 dc8 pm8 an8 cd8 ct8), sl8⟩)
    (c8 : PySem.W.codeIn K cd8 "may_stand" = true)
    (k8 : PySem.W.keepIn K (.ref f8) = true)
    (l9 : K.lookup f9 = some ⟨oc9, od9, .func (PySem.W.fnOf "is_join" "is_join" (defArgs s_is_join) (defBody s_is_join) (defScope s_is_join) .none kV9 dc9 pm9 an9 cd9 ct9), sl9⟩)
    (c9 : PySem.W.codeIn K cd9 "is_join" = true)
    (k9 : PySem.W.keepIn K (.ref f9) = true)
    (l10 : K.lookup f10 = some ⟨oc10, od10, .func (PySem.W.fnOf "are_joins" "are_joins" (defArgs s_are_joins) (defBody s_are_joins) (defScope s_are_joins) .none kV10 dc10 pm10 an10 cd10 ct10), sl10⟩)
    (c10 : PySem.W.codeIn K cd10 "are_joins" = true)
    (k10 : PySem.W.keepIn K (.ref f10) = true)
    (l14 : K.lookup f14 = some ⟨oc14, od14, .func (PySem.W.fnOf "all_points" "all_points" (defArgs s_all_points) (defBody s_all_points) (defScope s_all_points) .none kV14 dc14 pm14 an14 cd14 ct14), sl14⟩)
    (c14 : PySem.W.codeIn K cd14 "all_points" = true)
    (k14 : PySem.W.keepIn K (.ref f14) = true)
    (l15 : K.lookup f15 = some ⟨oc15, od15, .func (PySem.W.fnOf "check_block" "check_block" (defArgs s_check_block) (defBody s_check_block) (defScope s_check_block) .none kV15 dc15 pm15 an15 cd15 ct15), sl15⟩)
    (c15 : PySem.W.codeIn K cd15 "check_block" = true)
    (k15 : PySem.W.keepIn K (.ref f15) = true)
    (l16 : K.lookup f16 = some ⟨oc16, od16, .func (PySem.W.fnOf "followers_of" "followers_of" (defArgs s_followers_of) (defBody s_followers_of) (defScope s_followers_of) .none kV16 dc16 pm16 an16 cd16 ct16), sl16⟩)
    (c16 : PySem.W.codeIn K cd16 "followers_of" = true)
    (k16 : PySem.W.keepIn K (.ref f16) = true)
    (l17 : K.lookup f17 = some ⟨oc17, od17, .func (PySem.W.fnOf "edges_of" "edges_of" (defArgs s_edges_of) (defBody s_edges_of) (defScope s_edges_of) .none kV17 dc17 pm17 an17 cd17 ct17), sl17⟩)
    (c17 : PySem.W.codeIn K cd17 "edges_of" = true)
    (k17 : PySem.W.keepIn K (.ref f17) = true)
    (l18 : K.lookup f18 = some ⟨oc18, od18, .func (PySem.W.fnOf "reached" "reached" (defArgs s_reached) (defBody s_reached) (defScope s_reached) .none kV18 dc18 pm18 an18 cd18 ct18), sl18⟩)
    (c18 : PySem.W.codeIn K cd18 "reached" = true)
    (k18 : PySem.W.keepIn K (.ref f18) = true)
    (l20 : K.lookup f20 = some ⟨oc20, od20, .func (PySem.W.fnOf "__eq__" "Program.__eq__" (defArgs s_Program___eq__) (defBody s_Program___eq__) (defScope s_Program___eq__) .none kV20 dc20 pm20 an20 cd20 ct20), sl20⟩)
    (c20 : PySem.W.codeIn K cd20 "Program.__eq__" = true)
    (k20 : PySem.W.keepIn K (.ref f20) = true)
    (l21 : K.lookup f21 = some ⟨oc21, od21, .func (PySem.W.fnOf "__len__" "Program.__len__" (defArgs s_Program___len__) (defBody s_Program___len__) (defScope s_Program___len__) .none kV21 dc21 pm21 an21 cd21 ct21), sl21⟩)
    (c21 : PySem.W.codeIn K cd21 "Program.__len__" = true)
    (k21 : PySem.W.keepIn K (.ref f21) = true)
    (l22 : K.lookup f22 = some ⟨oc22, od22, .func (PySem.W.fnOf "__getitem__" "Program.__getitem__" (defArgs s_Program___getitem__) (defBody s_Program___getitem__) (defScope s_Program___getitem__) .none kV22 dc22 pm22 an22 cd22 ct22), sl22⟩)
    (c22 : PySem.W.codeIn K cd22 "Program.__getitem__" = true)
    (k22 : PySem.W.keepIn K (.ref f22) = true)
    (l24 : K.lookup f24 = some ⟨oc24, od24, .func (PySem.W.fnOf "rows" "Program.rows" (defArgs s_Program_rows) (defBody s_Program_rows) (defScope s_Program_rows) .none kV24 dc24 pm24 an24 cd24 ct24), sl24⟩)
    (c24 : PySem.W.codeIn K cd24 "Program.rows" = true)
    (k24 : PySem.W.keepIn K (.ref f24) = true)
    (l25 : K.lookup f25 = some ⟨oc25, od25, .func (PySem.W.fnOf "end" "Program.end" (defArgs s_Program_end) (defBody s_Program_end) (defScope s_Program_end) .none kV25 dc25 pm25 an25 cd25 ct25), sl25⟩)
    (c25 : PySem.W.codeIn K cd25 "Program.end" = true)
    (k25 : PySem.W.keepIn K (.ref f25) = true)
    (l26 : K.lookup f26 = some ⟨oc26, od26, .func (PySem.W.fnOf "followers" "Program.followers" (defArgs s_Program_followers) (defBody s_Program_followers) (defScope s_Program_followers) .none kV26 dc26 pm26 an26 cd26 ct26), sl26⟩)
    (c26 : PySem.W.codeIn K cd26 "Program.followers" = true)
    (k26 : PySem.W.keepIn K (.ref f26) = true)
    (l27 : K.lookup f27 = some ⟨oc27, od27, .func (PySem.W.fnOf "edges_into" "Program.edges_into" (defArgs s_Program_edges_into) (defBody s_Program_edges_into) (defScope s_Program_edges_into) .none kV27 dc27 pm27 an27 cd27 ct27), sl27⟩)
    (c27 : PySem.W.codeIn K cd27 "Program.edges_into" = true)
    (k27 : PySem.W.keepIn K (.ref f27) = true)
    (l28 : K.lookup f28 = some ⟨oc28, od28, .func (PySem.W.fnOf "points" "Program.points" (defArgs s_Program_points) (defBody s_Program_points) (defScope s_Program_points) .none kV28 dc28 pm28 an28 cd28 ct28), sl28⟩)
    (c28 : PySem.W.codeIn K cd28 "Program.points" = true)
    (k28 : PySem.W.keepIn K (.ref f28) = true)
    (l30 : K.lookup f30 = some ⟨oc30, od30, .func (PySem.W.fnOf "_law_cell_at" "_law_cell_at" (defArgs s_law_cell_at) (defBody s_law_cell_at) (defScope s_law_cell_at) .none kV30 dc30 pm30 an30 cd30 ct30), sl30⟩)
    (c30 : PySem.W.codeIn K cd30 "_law_cell_at" = true)
    (k30 : PySem.W.keepIn K (.ref f30) = true)
    (l31 : K.lookup f31 = some ⟨oc31, od31, .func (PySem.W.fnOf "_law_draw" "_law_draw" (defArgs s_law_draw) (defBody s_law_draw) (defScope s_law_draw) .none kV31 dc31 pm31 an31 cd31 ct31), sl31⟩)
    (c31 : PySem.W.codeIn K cd31 "_law_draw" = true)
    (k31 : PySem.W.keepIn K (.ref f31) = true)
    (l32 : K.lookup f32 = some ⟨oc32, od32, .func (PySem.W.fnOf "_law_number" "_law_number" (defArgs s_law_number) (defBody s_law_number) (defScope s_law_number) .none kV32 dc32 pm32 an32 cd32 ct32), sl32⟩)
    (c32 : PySem.W.codeIn K cd32 "_law_number" = true)
    (k32 : PySem.W.keepIn K (.ref f32) = true)
    (l33 : K.lookup f33 = some ⟨oc33, od33, .func (PySem.W.fnOf "_law_next" "_law_next" (defArgs s_law_next) (defBody s_law_next) (defScope s_law_next) .none kV33 dc33 pm33 an33 cd33 ct33), sl33⟩)
    (c33 : PySem.W.codeIn K cd33 "_law_next" = true)
    (k33 : PySem.W.keepIn K (.ref f33) = true)
    (l34 : K.lookup f34 = some ⟨oc34, od34, .func (PySem.W.fnOf "_law_pick" "_law_pick" (defArgs s_law_pick) (defBody s_law_pick) (defScope s_law_pick) .none kV34 dc34 pm34 an34 cd34 ct34), sl34⟩)
    (c34 : PySem.W.codeIn K cd34 "_law_pick" = true)
    (k34 : PySem.W.keepIn K (.ref f34) = true)
    (l35 : K.lookup f35 = some ⟨oc35, od35, .func (PySem.W.fnOf "_law_row" "_law_row" (defArgs s_law_row) (defBody s_law_row) (defScope s_law_row) .none kV35 dc35 pm35 an35 cd35 ct35), sl35⟩)
    (c35 : PySem.W.codeIn K cd35 "_law_row" = true)
    (k35 : PySem.W.keepIn K (.ref f35) = true)
    (l36 : K.lookup f36 = some ⟨oc36, od36, .func (PySem.W.fnOf "_law_outs" "_law_outs" (defArgs s_law_outs) (defBody s_law_outs) (defScope s_law_outs) .none kV36 dc36 pm36 an36 cd36 ct36), sl36⟩)
    (c36 : PySem.W.codeIn K cd36 "_law_outs" = true)
    (k36 : PySem.W.keepIn K (.ref f36) = true)
    (l37 : K.lookup f37 = some ⟨oc37, od37, .func (PySem.W.fnOf "_law_end" "_law_end" (defArgs s_law_end) (defBody s_law_end) (defScope s_law_end) .none kV37 dc37 pm37 an37 cd37 ct37), sl37⟩)
    (c37 : PySem.W.codeIn K cd37 "_law_end" = true)
    (k37 : PySem.W.keepIn K (.ref f37) = true)
    (l38 : K.lookup f38 = some ⟨oc38, od38, .func (PySem.W.fnOf "_law_plain" "_law_plain" (defArgs s_law_plain) (defBody s_law_plain) (defScope s_law_plain) .none kV38 dc38 pm38 an38 cd38 ct38), sl38⟩)
    (c38 : PySem.W.codeIn K cd38 "_law_plain" = true)
    (k38 : PySem.W.keepIn K (.ref f38) = true)
    (l40 : K.lookup f40 = some ⟨oc40, od40, .func (PySem.W.fnOf "_law_targets" "_law_targets" (defArgs s_law_targets) (defBody s_law_targets) (defScope s_law_targets) .none kV40 dc40 pm40 an40 cd40 ct40), sl40⟩)
    (c40 : PySem.W.codeIn K cd40 "_law_targets" = true)
    (k40 : PySem.W.keepIn K (.ref f40) = true)
    (l41 : K.lookup f41 = some ⟨oc41, od41, .func (PySem.W.fnOf "_law_ends" "_law_ends" (defArgs s_law_ends) (defBody s_law_ends) (defScope s_law_ends) .none kV41 dc41 pm41 an41 cd41 ct41), sl41⟩)
    (c41 : PySem.W.codeIn K cd41 "_law_ends" = true)
    (k41 : PySem.W.keepIn K (.ref f41) = true)
    (l42 : K.lookup f42 = some ⟨oc42, od42, .func (PySem.W.fnOf "_law_edges" "_law_edges" (defArgs s_law_edges) (defBody s_law_edges) (defScope s_law_edges) .none kV42 dc42 pm42 an42 cd42 ct42), sl42⟩)
    (c42 : PySem.W.codeIn K cd42 "_law_edges" = true)
    (k42 : PySem.W.keepIn K (.ref f42) = true)
    (l43 : K.lookup f43 = some ⟨oc43, od43, .func (PySem.W.fnOf "_law_points" "_law_points" (defArgs s_law_points) (defBody s_law_points) (defScope s_law_points) .none kV43 dc43 pm43 an43 cd43 ct43), sl43⟩)
    (c43 : PySem.W.codeIn K cd43 "_law_points" = true)
    (k43 : PySem.W.keepIn K (.ref f43) = true)
    (l7 : K.lookup f7 = some ⟨oc7, od7, .func (PySem.W.fnOf "fills" "fills" (defArgs s_fills) (defBody s_fills) (defScope s_fills) .none kV7 dc7 pm7 an7 cd7 ct7), sl7⟩)
    (c7 : PySem.W.codeIn K cd7 "fills" = true)
    (k7 : PySem.W.keepIn K (.ref f7) = true)
    (l4 : K.lookup f4 = some ⟨oc4, od4, .func (PySem.W.fnOf "is_row" "is_row" (defArgs s_is_row) (defBody s_is_row) (defScope s_is_row) .none kV4 dc4 pm4 an4 cd4 ct4), sl4⟩)
    (c4 : PySem.W.codeIn K cd4 "is_row" = true)
    (k4 : PySem.W.keepIn K (.ref f4) = true)
    (l5 : K.lookup f5 = some ⟨oc5, od5, .func (PySem.W.fnOf "is_end" "is_end" (defArgs s_is_end) (defBody s_is_end) (defScope s_is_end) .none kV5 dc5 pm5 an5 cd5 ct5), sl5⟩)
    (c5 : PySem.W.codeIn K cd5 "is_end" = true)
    (k5 : PySem.W.keepIn K (.ref f5) = true)
    (l11 : K.lookup f11 = some ⟨oc11, od11, .func (PySem.W.fnOf "are_rows" "are_rows" (defArgs s_are_rows) (defBody s_are_rows) (defScope s_are_rows) .none kV11 dc11 pm11 an11 cd11 ct11), sl11⟩)
    (c11 : PySem.W.codeIn K cd11 "are_rows" = true)
    (k11 : PySem.W.keepIn K (.ref f11) = true)
    (l12 : K.lookup f12 = some ⟨oc12, od12, .func (PySem.W.fnOf "is_block" "is_block" (defArgs s_is_block) (defBody s_is_block) (defScope s_is_block) .none kV12 dc12 pm12 an12 cd12 ct12), sl12⟩)
    (c12 : PySem.W.codeIn K cd12 "is_block" = true)
    (k12 : PySem.W.keepIn K (.ref f12) = true)
    (l13 : K.lookup f13 = some ⟨oc13, od13, .func (PySem.W.fnOf "are_blocks" "are_blocks" (defArgs s_are_blocks) (defBody s_are_blocks) (defScope s_are_blocks) .none kV13 dc13 pm13 an13 cd13 ct13), sl13⟩)
    (c13 : PySem.W.codeIn K cd13 "are_blocks" = true)
    (k13 : PySem.W.keepIn K (.ref f13) = true)
    (l29 : K.lookup f29 = some ⟨oc29, od29, .func (PySem.W.fnOf "wrong_part" "wrong_part" (defArgs s_wrong_part) (defBody s_wrong_part) (defScope s_wrong_part) .none kV29 dc29 pm29 an29 cd29 ct29), sl29⟩)
    (c29 : PySem.W.codeIn K cd29 "wrong_part" = true)
    (k29 : PySem.W.keepIn K (.ref f29) = true)
    (l39 : K.lookup f39 = some ⟨oc39, od39, .func (PySem.W.fnOf "_law_made" "_law_made" (defArgs s_law_made) (defBody s_law_made) (defScope s_law_made) .none kV39 dc39 pm39 an39 cd39 ct39), sl39⟩)
    (c39 : PySem.W.codeIn K cd39 "_law_made" = true)
    (k39 : PySem.W.keepIn K (.ref f39) = true)
    (l44 : K.lookup f44 = some ⟨oc44, od44, .func (PySem.W.fnOf "law" "law" (defArgs s_law) (defBody s_law) (defScope s_law) .none kV44 dc44 pm44 an44 cd44 ct44), sl44⟩)
    (c44 : PySem.W.codeIn K cd44 "law" = true)
    (k44 : PySem.W.keepIn K (.ref f44) = true)
    (zb_all : PySem.W.nsIn K mainGlobals "all" = some none)
    (zb_any : PySem.W.nsIn K mainGlobals "any" = some none)
    (zb_bool : PySem.W.nsIn K mainGlobals "bool" = some none)
    (zb_enumerate : PySem.W.nsIn K mainGlobals "enumerate" = some none)
    (zb_int : PySem.W.nsIn K mainGlobals "int" = some none)
    (zb_isinstance : PySem.W.nsIn K mainGlobals "isinstance" = some none)
    (zb_len : PySem.W.nsIn K mainGlobals "len" = some none)
    (zb_list : PySem.W.nsIn K mainGlobals "list" = some none)
    (zb_min : PySem.W.nsIn K mainGlobals "min" = some none)
    (zb_range : PySem.W.nsIn K mainGlobals "range" = some none)
    (zb_str : PySem.W.nsIn K mainGlobals "str" = some none)
    (zb_tuple : PySem.W.nsIn K mainGlobals "tuple" = some none)
    (zb_zip : PySem.W.nsIn K mainGlobals "zip" = some none)
    (zk_MOST_BLOCKS : PySem.W.nsIn K mainGlobals "MOST_BLOCKS" = some (some (.int (16) t_MOST_BLOCKS)))
    (zk_MOST_HANDED : PySem.W.nsIn K mainGlobals "MOST_HANDED" = some (some (.int (3) t_MOST_HANDED)))
    (zk_MOST_ROWS : PySem.W.nsIn K mainGlobals "MOST_ROWS" = some (some (.int (12) t_MOST_ROWS)))
    (zk_MOST_SPAN : PySem.W.nsIn K mainGlobals "MOST_SPAN" = some (some (.int (8) t_MOST_SPAN)))
    (zk_MOST_VARIABLES : PySem.W.nsIn K mainGlobals "MOST_VARIABLES" = some (some (.int (8) t_MOST_VARIABLES)))
    (i19 : PySem.W.isFn K (.ref f19) = true)
    (l19 : K.lookup f19 = some ⟨oc19, od19, .func (PySem.W.fnOf "__init__" "Program.__init__" (defArgs s_Program___init__) (defBody s_Program___init__) (defScope s_Program___init__) .none (.ref D19) dc19 pm19 an19 cd19 ct19), sl19⟩)
    (c19 : PySem.W.codeIn K cd19 "Program.__init__" = true)
    (k19 : PySem.W.keepIn K (.ref f19) = true)
    (mk3 : PySem.W.makesIn K C3 = true)
    (kc3 : PySem.W.keepIn K (.ref C3) = true)
    (kd19_0 : PySem.W.nsIn K D19 "handed" = some (some (.int (0) td19_0)))
    (kd19_1 : PySem.W.nsIn K D19 "span" = some (some (.int (4) td19_1)))
    (pg3 : PySem.W.plainGet K C3 Str.empty = true)
    (hd3 : PySem.W.hasDictIn K C3 = true)
    (po3 : PySem.W.plainOver K C3 = true)
    (sa3 : PySem.W.findIn K (.ref C3) "__setattr__" = some (some (.builtin "object.__setattr__")))
    (n3_blocks : PySem.W.findIn K (.ref C3) "blocks" = some none)
    (n3_handed : PySem.W.findIn K (.ref C3) "handed" = some none)
    (n3_many : PySem.W.findIn K (.ref C3) "many" = some none)
    (n3_span : PySem.W.findIn K (.ref C3) "span" = some none)
    (em2 : PySem.W.excIn K C2 PySem.HandSPX.veTail "ValueError.__new__" = true)
    (kx2 : PySem.W.keepIn K (.ref C2) = true)
    (ex2 : PySem.W.subIn K (.ref C2) (.type "BaseException") = some true)
    (ty2 : PySem.W.typeIn K (.ref C2) = some (.type "type"))
    (i27 : PySem.W.isFn K (.ref f27) = true)
    (i25 : PySem.W.isFn K (.ref f25) = true)
    (i26 : PySem.W.isFn K (.ref f26) = true)
    (i24 : PySem.W.isFn K (.ref f24) = true)
    (pgt28 : PySem.W.specialIn K (.ref p28) "__get__" = some (some (.builtin "property.__get__")))
    (ptk28 : PySem.W.takesIn K (.ref p28) = some true)
    (i20 : PySem.W.isFn K (.ref f20) = true)
    (ne3 : PySem.W.findIn K (.ref C3) "__ne__" = some (some (.builtin "object.__ne__")))
    (mo3 : PySem.W.mroIn K C3 (.type "object") = some true)
    (fi22 : PySem.W.fnIn K f22 = true)
    (i22 : PySem.W.isFn K (.ref f22) = true)
    (i21 : PySem.W.isFn K (.ref f21) = true)
    (kt3_NoneType : PySem.W.kitOne K (.type "NoneType") (.ref C3) = some false)
    (kt3_bool : PySem.W.kitOne K (.type "bool") (.ref C3) = some false)
    (kt3_int : PySem.W.kitOne K (.type "int") (.ref C3) = some false)
    (kt3_str : PySem.W.kitOne K (.type "str") (.ref C3) = some false)
    (kt3_tuple : PySem.W.kitOne K (.type "tuple") (.ref C3) = some false)
    (kt3_list : PySem.W.kitOne K (.type "list") (.ref C3) = some false)
    (kt3_dict : PySem.W.kitOne K (.type "dict") (.ref C3) = some false)
    (ca3 : PySem.W.findIn K (.ref C3) "__class__" = some (some (.builtin "object.__class__")))
    (spc : PySem.W.specialIn K (.builtin "object.__class__") "__get__" = some (some (.builtin "getset_descriptor.__get__")))
    (tkc : PySem.W.takesIn K (.builtin "object.__class__") = some true)
    (kk3_3 : PySem.W.kitOne K (.ref C3) (.ref C3) = some true)
    (np1 : PySem.W.findIn K (.ref C1) "part" = some none)
    (ex1 : PySem.W.subIn K (.ref C1) (.type "BaseException") = some true)
    (xL1 : K.lookup C1 = some (excClassObj nm1 qn1 C1 N1 bs1 [.ref B1, .type "ValueError", .type "Exception", .type "BaseException", .type "object"] true sn1 sub1 ab1 col1 dd1 m0_1 m1_1 m2_1 m3_1 m5_1 "ValueError.__new__"))
    (sx1 : PySem.W.findIn K (.ref C1) "__setattr__" = some (some (.builtin "object.__setattr__")))
    (iC1 : PySem.W.findIn K (.ref C1) "__init__" = some (some (.ref fI1)))
    (tI1 : PySem.W.typeIn K (.ref fI1) = some (.type "function"))
    (kx1 : PySem.W.keepIn K (.ref C1) = true)
    (ty1 : PySem.W.typeIn K (.ref C1) = some (.type "type"))
    (sv1 : PySem.W.subIn K (.ref C1) (.type "ValueError") = some true)
    (su1 : PySem.W.ks_superIn K C1 C1 "__init__" = some (some (.builtin "ValueError.__init__")))
    (mc1 : PySem.W.mroIn K C1 (.ref C1) = some true)
    (opq : PySem.W.nsIn K cStatics "thirdparty.any" = some none)
    (zsup : PySem.W.nsIn K mainGlobals "super" = some none)
    (lI1 : K.lookup fI1 = some ⟨ocI1, odI1, .func (PySem.W.ksFn "__init__" "BadProgram.__init__" (VX.iA ps_BadProgram) (VX.iB "this is no program, part: " ps_BadProgram) VX.iS (.ref T1) kVI1 dcI1 pmI1 anI1 (.ref cda1) ctI1 cc1), slI1⟩)
    (cI1 : PySem.W.codeIn K (.ref cda1) "BadProgram.__init__" = true)
    (lc1 : K.lookup cda1 = some ⟨ccl1, cdd1, .fields vs1, ccs1⟩)
    (hv1 : vs1[2]? = some (.str file1 tf1))
    (hf1 : ((P.main.file : Str) == file1) = true)
    (le1 : K.lookup cc1 = some ⟨cel1, cld1, .cell (some (.ref C1)), csl1⟩)
    (lT1 : K.lookup T1 = some oT1)
    (oT1' : oT1.data = .seq #[Value.none] nT1)
    (htop : (P.main.scope.names.lookup ("super" : Str)).isSome = false)
    (at_ENDS : PySem.W.nsIn K mainGlobals "ENDS" = some (some (.ref d_ENDS)))
    (lt_ENDS : K.lookup d_ENDS = some ⟨.type "dict", none, .dict es_ENDS n_ENDS, #[]⟩)
    (kl_ENDS : PySem.W.KeysLit w.params es_ENDS.toList)
    (lo_ENDS : (d_ENDS == sysModules) = false)
    (ok_ENDS : tabOk es_ENDS.toList tab_ENDS = true)
    (at_ROWS : PySem.W.nsIn K mainGlobals "ROWS" = some (some (.ref d_ROWS)))
    (lt_ROWS : K.lookup d_ROWS = some ⟨.type "dict", none, .dict es_ROWS n_ROWS, #[]⟩)
    (kl_ROWS : PySem.W.KeysLit w.params es_ROWS.toList)
    (lo_ROWS : (d_ROWS == sysModules) = false)
    (ok_ROWS : tabOk es_ROWS.toList tab_ROWS = true) :
    Txt P w K mg (fun i => match i with | 1 => f1 | 2 => f2 | 3 => f3 | 4 => f4 | 5 => f5 | 6 => f6 | 7 => f7 | 8 => f8 | 9 => f9 | 10 => f10 | 11 => f11 | 12 => f12 | 13 => f13 | 14 => f14 | 15 => f15 | 16 => f16 | 17 => f17 | 18 => f18 | 19 => f19 | 20 => f20 | 21 => f21 | 22 => f22 | 24 => f24 | 25 => f25 | 26 => f26 | 27 => f27 | 28 => f28 | 29 => f29 | 30 => f30 | 31 => f31 | 32 => f32 | 33 => f33 | 34 => f34 | 35 => f35 | 36 => f36 | 37 => f37 | 38 => f38 | 39 => f39 | 40 => f40 | 41 => f41 | 42 => f42 | 43 => f43 | 44 => f44 | _ => 0) (fun i => match i with | 1 => C1 | 2 => C2 | 3 => C3 | _ => 0) ∧ mg "law" = some (.ref f44) := ⟨{
  d_is_whole := ⟨⟨_, fun_mk (st := s_is_whole) l1 c1 k1, (fun_mk (st := s_is_whole) l1 c1 k1).binds (ps := ["thing"]) fun _ _ _ _ _ _ us hl => match us, hl with | [_], _ => rfl⟩⟩
  d_is_integer := ⟨⟨_, fun_mk (st := s_is_integer) l2 c2 k2, (fun_mk (st := s_is_integer) l2 c2 k2).binds (ps := ["thing", "low", "top"]) fun _ _ _ _ _ _ us hl => match us, hl with | [_, _, _], _ => rfl⟩⟩
  d_are_integers := ⟨⟨_, fun_mk (st := s_are_integers) l3 c3 k3, (fun_mk (st := s_are_integers) l3 c3 k3).binds (ps := ["things", "low", "top"]) fun _ _ _ _ _ _ us hl => match us, hl with | [_, _, _], _ => rfl⟩⟩
  d_has_word := ⟨⟨_, fun_mk (st := s_has_word) l6 c6 k6, (fun_mk (st := s_has_word) l6 c6 k6).binds (ps := ["line"]) fun _ _ _ _ _ _ us hl => match us, hl with | [_], _ => rfl⟩⟩
  d_may_stand := ⟨⟨_, fun_mk (st := s_may_stand) l8 c8 k8, (fun_mk (st := s_may_stand) l8 c8 k8).binds (ps := ["number", "place", "many", "span", "count"]) fun _ _ _ _ _ _ us hl => match us, hl with | [_, _, _, _, _], _ => rfl⟩⟩
  d_is_join := ⟨⟨_, fun_mk (st := s_is_join) l9 c9 k9, (fun_mk (st := s_is_join) l9 c9 k9).binds (ps := ["join", "many"]) fun _ _ _ _ _ _ us hl => match us, hl with | [_, _], _ => rfl⟩⟩
  d_are_joins := ⟨⟨_, fun_mk (st := s_are_joins) l10 c10 k10, (fun_mk (st := s_are_joins) l10 c10 k10).binds (ps := ["joins", "many"]) fun _ _ _ _ _ _ us hl => match us, hl with | [_, _], _ => rfl⟩⟩
  d_all_points := ⟨⟨_, fun_mk (st := s_all_points) l14 c14 k14, (fun_mk (st := s_all_points) l14 c14 k14).binds (ps := ["blocks"]) fun _ _ _ _ _ _ us hl => match us, hl with | [_], _ => rfl⟩⟩
  d_check_block := ⟨⟨_, fun_mk (st := s_check_block) l15 c15 k15, (fun_mk (st := s_check_block) l15 c15 k15).binds (ps := ["blocks", "block"]) fun _ _ _ _ _ _ us hl => match us, hl with | [_, _], _ => rfl⟩⟩
  d_followers_of := ⟨⟨_, fun_mk (st := s_followers_of) l16 c16 k16, (fun_mk (st := s_followers_of) l16 c16 k16).binds (ps := ["blocks", "block"]) fun _ _ _ _ _ _ us hl => match us, hl with | [_, _], _ => rfl⟩⟩
  d_edges_of := ⟨⟨_, fun_mk (st := s_edges_of) l17 c17 k17, (fun_mk (st := s_edges_of) l17 c17 k17).binds (ps := ["blocks", "target"]) fun _ _ _ _ _ _ us hl => match us, hl with | [_, _], _ => rfl⟩⟩
  d_reached := ⟨⟨_, fun_mk (st := s_reached) l18 c18 k18, (fun_mk (st := s_reached) l18 c18 k18).binds (ps := ["blocks", "barred"]) fun _ _ _ _ _ _ us hl => match us, hl with | [_, _], _ => rfl⟩⟩
  d_Program___eq__ := ⟨⟨_, fun_mk (st := s_Program___eq__) l20 c20 k20, (fun_mk (st := s_Program___eq__) l20 c20 k20).binds (ps := ["self", "other"]) fun _ _ _ _ _ _ us hl => match us, hl with | [_, _], _ => rfl⟩⟩
  d_Program___len__ := ⟨⟨_, fun_mk (st := s_Program___len__) l21 c21 k21, (fun_mk (st := s_Program___len__) l21 c21 k21).binds (ps := ["self"]) fun _ _ _ _ _ _ us hl => match us, hl with | [_], _ => rfl⟩⟩
  d_Program___getitem__ := ⟨⟨_, fun_mk (st := s_Program___getitem__) l22 c22 k22, (fun_mk (st := s_Program___getitem__) l22 c22 k22).binds (ps := ["self", "block"]) fun _ _ _ _ _ _ us hl => match us, hl with | [_, _], _ => rfl⟩⟩
  d_Program_rows := ⟨⟨_, fun_mk (st := s_Program_rows) l24 c24 k24, (fun_mk (st := s_Program_rows) l24 c24 k24).binds (ps := ["self", "block"]) fun _ _ _ _ _ _ us hl => match us, hl with | [_, _], _ => rfl⟩⟩
  d_Program_end := ⟨⟨_, fun_mk (st := s_Program_end) l25 c25 k25, (fun_mk (st := s_Program_end) l25 c25 k25).binds (ps := ["self", "block"]) fun _ _ _ _ _ _ us hl => match us, hl with | [_, _], _ => rfl⟩⟩
  d_Program_followers := ⟨⟨_, fun_mk (st := s_Program_followers) l26 c26 k26, (fun_mk (st := s_Program_followers) l26 c26 k26).binds (ps := ["self", "block"]) fun _ _ _ _ _ _ us hl => match us, hl with | [_, _], _ => rfl⟩⟩
  d_Program_edges_into := ⟨⟨_, fun_mk (st := s_Program_edges_into) l27 c27 k27, (fun_mk (st := s_Program_edges_into) l27 c27 k27).binds (ps := ["self", "block"]) fun _ _ _ _ _ _ us hl => match us, hl with | [_, _], _ => rfl⟩⟩
  d_Program_points := ⟨⟨_, fun_mk (st := s_Program_points) l28 c28 k28, (fun_mk (st := s_Program_points) l28 c28 k28).binds (ps := ["self"]) fun _ _ _ _ _ _ us hl => match us, hl with | [_], _ => rfl⟩⟩
  d_law_cell_at := ⟨⟨_, fun_mk (st := s_law_cell_at) l30 c30 k30, (fun_mk (st := s_law_cell_at) l30 c30 k30).binds (ps := ["script", "k"]) fun _ _ _ _ _ _ us hl => match us, hl with | [_, _], _ => rfl⟩⟩
  d_law_draw := ⟨⟨_, fun_mk (st := s_law_draw) l31 c31 k31, (fun_mk (st := s_law_draw) l31 c31 k31).binds (ps := ["cell", "k", "bound"]) fun _ _ _ _ _ _ us hl => match us, hl with | [_, _, _], _ => rfl⟩⟩
  d_law_number := ⟨⟨_, fun_mk (st := s_law_number) l32 c32 k32, (fun_mk (st := s_law_number) l32 c32 k32).binds (ps := ["cell", "k", "bound"]) fun _ _ _ _ _ _ us hl => match us, hl with | [_, _, _], _ => rfl⟩⟩
  d_law_next := ⟨⟨_, fun_mk (st := s_law_next) l33 c33 k33, (fun_mk (st := s_law_next) l33 c33 k33).binds (ps := ["draw", "bound"]) fun _ _ _ _ _ _ us hl => match us, hl with | [_, _], _ => rfl⟩⟩
  d_law_pick := ⟨⟨_, fun_mk (st := s_law_pick) l34 c34 k34, (fun_mk (st := s_law_pick) l34 c34 k34).binds (ps := ["draw", "things"]) fun _ _ _ _ _ _ us hl => match us, hl with | [_, _], _ => rfl⟩⟩
  d_law_row := ⟨⟨_, fun_mk (st := s_law_row) l35 c35 k35, (fun_mk (st := s_law_row) l35 c35 k35).binds (ps := ["draw", "many", "wide"]) fun _ _ _ _ _ _ us hl => match us, hl with | [_, _, _], _ => rfl⟩⟩
  d_law_outs := ⟨⟨_, fun_mk (st := s_law_outs) l36 c36 k36, (fun_mk (st := s_law_outs) l36 c36 k36).binds (ps := ["draw", "size"]) fun _ _ _ _ _ _ us hl => match us, hl with | [_, _], _ => rfl⟩⟩
  d_law_end := ⟨⟨_, fun_mk (st := s_law_end) l37 c37 k37, (fun_mk (st := s_law_end) l37 c37 k37).binds (ps := ["draw", "many", "size", "outs"]) fun _ _ _ _ _ _ us hl => match us, hl with | [_, _, _, _], _ => rfl⟩⟩
  d_law_plain := ⟨⟨_, fun_mk (st := s_law_plain) l38 c38 k38, (fun_mk (st := s_law_plain) l38 c38 k38).binds (ps := ["draw", "sizes", "lengths"]) fun _ _ _ _ _ _ us hl => match us, hl with | [_, _, _], _ => rfl⟩⟩
  d_law_targets := ⟨⟨_, fun_mk (st := s_law_targets) l40 c40 k40, (fun_mk (st := s_law_targets) l40 c40 k40).binds (ps := ["end"]) fun _ _ _ _ _ _ us hl => match us, hl with | [_], _ => rfl⟩⟩
  d_law_ends := ⟨⟨_, fun_mk (st := s_law_ends) l41 c41 k41, (fun_mk (st := s_law_ends) l41 c41 k41).binds (ps := ["plain"]) fun _ _ _ _ _ _ us hl => match us, hl with | [_], _ => rfl⟩⟩
  d_law_edges := ⟨⟨_, fun_mk (st := s_law_edges) l42 c42 k42, (fun_mk (st := s_law_edges) l42 c42 k42).binds (ps := ["ends", "block"]) fun _ _ _ _ _ _ us hl => match us, hl with | [_, _], _ => rfl⟩⟩
  d_law_points := ⟨⟨_, fun_mk (st := s_law_points) l43 c43 k43, (fun_mk (st := s_law_points) l43 c43 k43).binds (ps := ["plain"]) fun _ _ _ _ _ _ us hl => match us, hl with | [_], _ => rfl⟩⟩
  d_fills := ⟨⟨_, fun_mk (st := s_fills) l7 c7 k7, (fun_mk (st := s_fills) l7 c7 k7).binds (ps := ["numbers", "places", "many", "span", "count"]) fun _ _ _ _ _ _ us hl => match us, hl with | [_, _, _, _, _], _ => rfl⟩⟩
  d_is_row := ⟨⟨_, fun_mk (st := s_is_row) l4 c4 k4, (fun_mk (st := s_is_row) l4 c4 k4).binds (ps := ["row", "many", "span"]) fun _ _ _ _ _ _ us hl => match us, hl with | [_, _, _], _ => rfl⟩⟩
  d_is_end := ⟨⟨_, fun_mk (st := s_is_end) l5 c5 k5, (fun_mk (st := s_is_end) l5 c5 k5).binds (ps := ["end", "many", "count"]) fun _ _ _ _ _ _ us hl => match us, hl with | [_, _, _], _ => rfl⟩⟩
  d_are_rows := ⟨⟨_, fun_mk (st := s_are_rows) l11 c11 k11, (fun_mk (st := s_are_rows) l11 c11 k11).binds (ps := ["rows", "most", "many", "span"]) fun _ _ _ _ _ _ us hl => match us, hl with | [_, _, _, _], _ => rfl⟩⟩
  d_is_block := ⟨⟨_, fun_mk (st := s_is_block) l12 c12 k12, (fun_mk (st := s_is_block) l12 c12 k12).binds (ps := ["block", "parts", "most", "many", "span", "count"]) fun _ _ _ _ _ _ us hl => match us, hl with | [_, _, _, _, _, _], _ => rfl⟩⟩
  d_are_blocks := ⟨⟨_, fun_mk (st := s_are_blocks) l13 c13 k13, (fun_mk (st := s_are_blocks) l13 c13 k13).binds (ps := ["blocks", "parts", "most", "many", "span"]) fun _ _ _ _ _ _ us hl => match us, hl with | [_, _, _, _, _], _ => rfl⟩⟩
  d_wrong_part := ⟨⟨_, fun_mk (st := s_wrong_part) l29 c29 k29, (fun_mk (st := s_wrong_part) l29 c29 k29).binds (ps := ["many", "blocks", "handed", "span"]) fun _ _ _ _ _ _ us hl => match us, hl with | [_, _, _, _], _ => rfl⟩⟩
  d_law_made := ⟨⟨_, fun_mk (st := s_law_made) l39 c39 k39, (fun_mk (st := s_law_made) l39 c39 k39).binds (ps := ["plain"]) fun _ _ _ _ _ _ us hl => match us, hl with | [_], _ => rfl⟩⟩
  d_law := ⟨⟨_, fun_mk (st := s_law) l44 c44 k44, (fun_mk (st := s_law) l44 c44 k44).binds (ps := ["script"]) fun _ _ _ _ _ _ us hl => match us, hl with | [_], _ => rfl⟩⟩
  g_law_cell_at := PySem.W.mg_of X G a30
  g_law_draw := PySem.W.mg_of X G a31
  g_law_edges := PySem.W.mg_of X G a42
  g_law_end := PySem.W.mg_of X G a37
  g_law_ends := PySem.W.mg_of X G a41
  g_law_made := PySem.W.mg_of X G a39
  g_law_next := PySem.W.mg_of X G a33
  g_law_number := PySem.W.mg_of X G a32
  g_law_outs := PySem.W.mg_of X G a36
  g_law_pick := PySem.W.mg_of X G a34
  g_law_plain := PySem.W.mg_of X G a38
  g_law_points := PySem.W.mg_of X G a43
  g_law_row := PySem.W.mg_of X G a35
  g_law_targets := PySem.W.mg_of X G a40
  g_all_points := PySem.W.mg_of X G a14
  g_are_blocks := PySem.W.mg_of X G a13
  g_are_integers := PySem.W.mg_of X G a3
  g_are_joins := PySem.W.mg_of X G a10
  g_are_rows := PySem.W.mg_of X G a11
  g_check_block := PySem.W.mg_of X G a15
  g_edges_of := PySem.W.mg_of X G a17
  g_fills := PySem.W.mg_of X G a7
  g_followers_of := PySem.W.mg_of X G a16
  g_has_word := PySem.W.mg_of X G a6
  g_is_block := PySem.W.mg_of X G a12
  g_is_end := PySem.W.mg_of X G a5
  g_is_integer := PySem.W.mg_of X G a2
  g_is_join := PySem.W.mg_of X G a9
  g_is_row := PySem.W.mg_of X G a4
  g_is_whole := PySem.W.mg_of X G a1
  g_may_stand := PySem.W.mg_of X G a8
  g_reached := PySem.W.mg_of X G a18
  g_wrong_part := PySem.W.mg_of X G a29
  b_all := PySem.W.mg_none_of X G zb_all
  b_any := PySem.W.mg_none_of X G zb_any
  b_bool := PySem.W.mg_none_of X G zb_bool
  b_enumerate := PySem.W.mg_none_of X G zb_enumerate
  b_int := PySem.W.mg_none_of X G zb_int
  b_isinstance := PySem.W.mg_none_of X G zb_isinstance
  b_len := PySem.W.mg_none_of X G zb_len
  b_list := PySem.W.mg_none_of X G zb_list
  b_min := PySem.W.mg_none_of X G zb_min
  b_range := PySem.W.mg_none_of X G zb_range
  b_str := PySem.W.mg_none_of X G zb_str
  b_tuple := PySem.W.mg_none_of X G zb_tuple
  b_zip := PySem.W.mg_none_of X G zb_zip
  k_MOST_BLOCKS := ⟨_, PySem.W.mg_of X G zk_MOST_BLOCKS, ⟨_, rfl⟩⟩
  k_MOST_HANDED := ⟨_, PySem.W.mg_of X G zk_MOST_HANDED, ⟨_, rfl⟩⟩
  k_MOST_ROWS := ⟨_, PySem.W.mg_of X G zk_MOST_ROWS, ⟨_, rfl⟩⟩
  k_MOST_SPAN := ⟨_, PySem.W.mg_of X G zk_MOST_SPAN, ⟨_, rfl⟩⟩
  k_MOST_VARIABLES := ⟨_, PySem.W.mg_of X G zk_MOST_VARIABLES, ⟨_, rfl⟩⟩
  i_Program := by
    have mem : ∀ q ∈ ([("handed", V.int (0)), ("span", V.int (4))] : List (Str × V)), ∃ u, PySem.W.nsIn K D19 q.1 = some (some u) ∧ RelV q.2 u := fun q hq => by
      rcases List.mem_cons.mp hq with rfl | hq
      · exact ⟨_, kd19_0, ⟨_, rfl⟩⟩
      rcases List.mem_cons.mp hq with rfl | hq
      · exact ⟨_, kd19_1, ⟨_, rfl⟩⟩
      cases hq
    have FD := (⟨⟨_, _, _, _, _, _, _, _, _, _, rfl, l19, c19, .inl ⟨rfl, rfl⟩, .inr ⟨D19, rfl, mem⟩⟩, k19⟩ : FunD K "__init__" "Program.__init__" (defArgs s_Program___init__) (defBody s_Program___init__) (defScope s_Program___init__) [] [("handed", V.int (0)), ("span", V.int (4))] f19 _)
    obtain ⟨mv1, KB1⟩ := FD.kbinds0 (ps := ["self", "many", "blocks", "handed", "span"]) 3 ["handed", "span"] [] (fun us _ ws => us ++ ws) (by intro h; cases h) (by intro q hq; cases hq) (fun r1 _ r3 => r1.append r3) (fun D doc pm an cdv ct us mv ws l1 l2 l3 => match us, mv, ws, l1, l2, l3 with | [u0, u1, u2], [], [w0, w1], _, _, _ => rfl)
    obtain ⟨mv2, KB2⟩ := FD.kbinds0 (ps := ["self", "many", "blocks", "handed", "span"]) 3 [] [("handed", V.int (0)), ("span", V.int (4))] (fun us mv _ => us ++ mv) (by intro h; cases h) (fun q hq => hq) (fun r1 r2 _ => r1.append r2) (fun D doc pm an cdv ct us mv ws l1 l2 l3 => match us, mv, ws, l1, l2, l3 with | [u0, u1, u2], [w0, w1], [], _, _, _ => ⟨_, _, _, _, _, _, rfl, rfl, ⟨_, _, _, _, _, _, rfl, rfl, rfl⟩⟩)
    exact ⟨_, fun_mk (st := s_Program___init__) l19 c19 k19, ⟨mk3, a19, i19, kc3⟩, PySem.W.mg_of X G aC3, ⟨_, KB1⟩, ⟨_, KB2⟩⟩
  h_blocks := fun c hc => by
    rcases List.mem_cons.mp hc with rfl | hc
    · exact ⟨⟨pg3, hd3, po3, sa3⟩, n3_blocks⟩
    cases hc
  h_handed := fun c hc => by
    rcases List.mem_cons.mp hc with rfl | hc
    · exact ⟨⟨pg3, hd3, po3, sa3⟩, n3_handed⟩
    cases hc
  h_many := fun c hc => by
    rcases List.mem_cons.mp hc with rfl | hc
    · exact ⟨⟨pg3, hd3, po3, sa3⟩, n3_many⟩
    cases hc
  h_span := fun c hc => by
    rcases List.mem_cons.mp hc with rfl | hc
    · exact ⟨⟨pg3, hd3, po3, sa3⟩, n3_span⟩
    cases hc
  c_Program := PySem.W.mg_of X G aC3
  o_BadBlock := ⟨⟨em2, kx2, ex2, ty2⟩, PySem.W.mg_of X G aC2⟩
  m_Program_edges_into := ⟨⟨pg3, hd3, po3, sa3⟩, ⟨mt27, i27, k27⟩⟩
  m_Program_end := ⟨⟨pg3, hd3, po3, sa3⟩, ⟨mt25, i25, k25⟩⟩
  m_Program_followers := ⟨⟨pg3, hd3, po3, sa3⟩, ⟨mt26, i26, k26⟩⟩
  m_Program_rows := ⟨⟨pg3, hd3, po3, sa3⟩, ⟨mt24, i24, k24⟩⟩
  p_Program_points := ⟨⟨pg3, hd3, po3, sa3⟩, p28, ⟨mt28, pgt28, ptk28, _, mu28⟩⟩
  cmp_Program := ⟨mt20, i20, ne3, mo3⟩
  gt_Program := ⟨mt22, fi22, i22⟩
  l_Program := ⟨mt21, i21⟩
  is_Program := is_cls (fun p hp => by
    rcases List.mem_cons.mp hp with rfl | hp
    · exact kt3_NoneType
    rcases List.mem_cons.mp hp with rfl | hp
    · exact kt3_bool
    rcases List.mem_cons.mp hp with rfl | hp
    · exact kt3_int
    rcases List.mem_cons.mp hp with rfl | hp
    · exact kt3_str
    rcases List.mem_cons.mp hp with rfl | hp
    · exact kt3_tuple
    rcases List.mem_cons.mp hp with rfl | hp
    · exact kt3_list
    rcases List.mem_cons.mp hp with rfl | hp
    · exact kt3_dict
    cases hp) (fun p hp => by
    rcases List.mem_cons.mp hp with rfl | hp
    · exact ⟨⟨⟨pg3, hd3, po3, sa3⟩, ca3, spc, tkc, mo3, kk3_3⟩, kk3_3⟩
    cases hp)
  x_BadProgram := by
    obtain ⟨pl, hpl⟩ : ∃ pl, VX.MCall "this is no program, part: " ps_BadProgram pl := ⟨pure false, fun _ => by rfl⟩
    refine ⟨fI1, _, ⟨⟨nm1, qn1, N1, bs1, _, sn1, sub1, ab1, col1, dd1, m0_1, m1_1, m2_1, m3_1, m5_1, xL1, rfl⟩, sx1, np1, iC1, tI1, kx1, ex1, ty1, sv1, su1, mc1, opq, PySem.W.mg_none_of X G zsup, htop,
      ⟨_, _, _, _, _, _, _, _, _, _, _, _, _, _, _, _, _, _, _, _, _, _, _, pl, hpl, rfl, lI1, cI1, lc1, hv1, hf1, le1, by decide⟩⟩, fun s a u Y => ?_, PySem.W.mg_of X G aC1⟩
    refine BindsTo.of_looks fun M => ?_
    exact looks_items (k := _) Y lT1 oT1' (.of_pure rfl)
  t_ENDS := ⟨_, _, _, PySem.W.mg_of X G at_ENDS, ⟨lt_ENDS, kl_ENDS, lo_ENDS⟩, ⟨lt_ENDS, ok_ENDS⟩⟩
  t_ROWS := ⟨_, _, _, PySem.W.mg_of X G at_ROWS, ⟨lt_ROWS, kl_ROWS, lo_ROWS⟩, ⟨lt_ROWS, ok_ROWS⟩⟩
  }, PySem.W.mg_of X G a44⟩
def spLaw (K : PySem.W.Frag) : Sp := fun vs H Q _ => ∃ (a : Addr) (ns : List Int), vs = [.ref a] ∧ SqL K H a (ns.map V.int) ∧ ns.length ≤ 63 ∧ ∀ H', Q (.bl true) H'
set_option maxRecDepth 1000000 in
set_option maxHeartbeats 0 in
theorem law_true (ns : List Int) : m_law [.val (.scr ns)] = some (.ok (.val (.bl true)), [.val (.scr ns)]) := VM.law_true ns

end VG
namespace VG
open VL L2 PySem
theorem walk {l : PySem.W.OpenLaw} {q : Program} {loose : List Str} {XP : (Str → Option Value) → Heap → Prop} {YP : World → Heap → Prop} {d : DefRec} {K : Params → PySem.W.Frag} (hn : l.most = some 63) (hdf : d.params.defaults = [])
    (hY : ∀ (w : World) (h : Heap), YP w h → (K w.params).In h)
    (F : ∀ (w : World) (mg : Str → Option Value) (fa : Addr) (h : Heap), (K w.params).In h → h.Ns mainGlobals mg → mg d.name = some (.ref fa) →
      ∃ fd : FuncData, (∀ (s : Shared) (u : Value), BindsTo s fd ⟨[u], []⟩ [("script", u)]) ∧ ∀ base : Heap, (K w.params).In base → base.Ns mainGlobals mg → FnOk l.prog w (K w.params) mg base CX0 15 fa fd ["script"] (spLaw (K w.params))) :
    PySem.W.WalkO q loose XP YP l.row.toRowW d [] (fun f vs => PySem.call f vs) :=
  L2.walk_of (n := 63) (k := 15) (x := "script") (CX := fun _ => CX0) (sp := fun w => spLaw (K w.params)) hn (by decide) hdf ⟨rfl, by decide, by decide⟩ hY F (fun _ _ a ns hl _ hS => ⟨a, ns, rfl, hS, hl, fun _ => rfl⟩) fun _ _ _ _ _ z => z
theorem head_mk {l : PySem.W.OpenLaw} {w : World} {K : PySem.W.Frag} {mg : Str → Option Value} {fn cl : Nat → Addr} {fa : Addr} (TT : Txt l.prog w K mg fn cl ∧ mg "law" = some (.ref (fn 44))) (hfa : mg "law" = some (.ref fa)) :
    ∃ fd : FuncData, (∀ (s : Shared) (v : Value), BindsTo s fd ⟨[v], []⟩ [("script", v)]) ∧ ∀ base : Heap, K.In base → base.Ns mainGlobals mg → FnOk l.prog w K mg base CX0 15 fa fd ["script"] (spLaw K) := by
  obtain ⟨T, hl⟩ := TT
  have e := hfa.symm.trans hl
  cases e
  obtain ⟨fd, F, _⟩ := T.d_law.fu
  refine ⟨fd, fun s v => ?_, fun base _ _ => (okF_law (base := base) T F).imp fun vs H Q E h => ?_⟩
  · obtain ⟨oc, od, kV, doc, pm, an, cdv, ct, osl, e, _, _⟩ := F.ex
    subst e
    exact .of_eq rfl
  · obtain ⟨a, ns, rfl, hS, _, kQ⟩ := h
    exact script_in (law_true ns) hS kQ
end VG

open PySem PySem.W PyProof.Rows in
set_option maxRecDepth 100000 in
set_option maxHeartbeats 0 in
theorem PySem.Challenge.cw_registerrooms_k01_whole_programs_holds : PySem.Challenge.rw_registerrooms_k01_whole_programs.Holds := by
  w_on; o_law; k_head; (case hw => w_witness2)
  k_fill
  refine VG.walk (l := PySem.Challenge.rw_registerrooms_k01_whole_programs) rfl rfl (fun w h Y => PySem.W.kIn_of Y) ?F
  case F =>
    intro w mg fa h KX G hmg
    refine' VG.head_mk (VG.all_txt KX G ?a1 ?a2 ?a3 ?a6 ?a8 ?a9 ?a10 ?a14 ?a15 ?a16 ?a17 ?a18 ?a30 ?a31 ?a32 ?a33 ?a34 ?a35 ?a36 ?a37 ?a38 ?a40 ?a41 ?a42 ?a43 ?a7 ?a4 ?a5 ?a11 ?a12 ?a13 ?a29 ?a39 ?a44 ?aC3 ?a19 ?aC2 ?aC1 ?mt27 ?mt25 ?mt26 ?mt24 ?mt28 ?mt20 ?mt22 ?mt21 ?mu28 ?l1 ?c1 ?k1 ?l2 ?c2 ?k2 ?l3 ?c3 ?k3 ?l6 ?c6 ?k6 ?l8 ?c8 ?k8 ?l9 ?c9 ?k9 ?l10 ?c10 ?k10 ?l14 ?c14 ?k14 ?l15 ?c15 ?k15 ?l16 ?c16 ?k16 ?l17 ?c17 ?k17 ?l18 ?c18 ?k18 ?l20 ?c20 ?k20 ?l21 ?c21 ?k21 ?l22 ?c22 ?k22 ?l24 ?c24 ?k24 ?l25 ?c25 ?k25 ?l26 ?c26 ?k26 ?l27 ?c27 ?k27 ?l28 ?c28 ?k28 ?l30 ?c30 ?k30 ?l31 ?c31 ?k31 ?l32 ?c32 ?k32 ?l33 ?c33 ?k33 ?l34 ?c34 ?k34 ?l35 ?c35 ?k35 ?l36 ?c36 ?k36 ?l37 ?c37 ?k37 ?l38 ?c38 ?k38 ?l40 ?c40 ?k40 ?l41 ?c41 ?k41 ?l42 ?c42 ?k42 ?l43 ?c43 ?k43 ?l7 ?c7 ?k7 ?l4 ?c4 ?k4 ?l5 ?c5 ?k5 ?l11 ?c11 ?k11 ?l12 ?c12 ?k12 ?l13 ?c13 ?k13 ?l29 ?c29 ?k29 ?l39 ?c39 ?k39 ?l44 ?c44 ?k44 ?zb_all ?zb_any ?zb_bool ?zb_enumerate ?zb_int ?zb_isinstance ?zb_len ?zb_list ?zb_min ?zb_range ?zb_str ?zb_tuple ?zb_zip ?zk_MOST_BLOCKS ?zk_MOST_HANDED ?zk_MOST_ROWS ?zk_MOST_SPAN ?zk_MOST_VARIABLES ?i19 ?l19 ?c19 ?k19 ?mk3 ?kc3 ?kd19_0 ?kd19_1 ?pg3 ?hd3 ?po3 ?sa3 ?n3_blocks ?n3_handed ?n3_many ?n3_span ?em2 ?kx2 ?ex2 ?ty2 ?i27 ?i25 ?i26 ?i24 ?pgt28 ?ptk28 ?i20 ?ne3 ?mo3 ?fi22 ?i22 ?i21 ?kt3_NoneType ?kt3_bool ?kt3_int ?kt3_str ?kt3_tuple ?kt3_list ?kt3_dict ?ca3 ?spc ?tkc ?kk3_3 ?np1 ?ex1 ?xL1 ?sx1 ?iC1 ?tI1 ?kx1 ?ty1 ?sv1 ?su1 ?mc1 ?opq ?zsup ?lI1 ?cI1 ?lc1 ?hv1 ?hf1 ?le1 ?lT1 ?oT1' ?htop ?at_ENDS ?lt_ENDS ?kl_ENDS ?lo_ENDS ?ok_ENDS ?at_ROWS ?lt_ROWS ?kl_ROWS ?lo_ROWS ?ok_ROWS) hmg
    (case a1 => first | k_is | rfl | decide +kernel | k_exc | kernel_rfl | (repeat (first | exact True.intro | refine ⟨⟨_, _, rfl, rfl⟩, ?_⟩)))
    (case a2 => first | k_is | rfl | decide +kernel | k_exc | kernel_rfl | (repeat (first | exact True.intro | refine ⟨⟨_, _, rfl, rfl⟩, ?_⟩)))
    (case a3 => first | k_is | rfl | decide +kernel | k_exc | kernel_rfl | (repeat (first | exact True.intro | refine ⟨⟨_, _, rfl, rfl⟩, ?_⟩)))
    (case a6 => first | k_is | rfl | decide +kernel | k_exc | kernel_rfl | (repeat (first | exact True.intro | refine ⟨⟨_, _, rfl, rfl⟩, ?_⟩)))
    (case a8 => first | k_is | rfl | decide +kernel | k_exc | kernel_rfl | (repeat (first | exact True.intro | refine ⟨⟨_, _, rfl, rfl⟩, ?_⟩)))
    (case a9 => first | k_is | rfl | decide +kernel | k_exc | kernel_rfl | (repeat (first | exact True.intro | refine ⟨⟨_, _, rfl, rfl⟩, ?_⟩)))
    (case a10 => first | k_is | rfl | decide +kernel | k_exc | kernel_rfl | (repeat (first | exact True.intro | refine ⟨⟨_, _, rfl, rfl⟩, ?_⟩)))
    (case a14 => first | k_is | rfl | decide +kernel | k_exc | kernel_rfl | (repeat (first | exact True.intro | refine ⟨⟨_, _, rfl, rfl⟩, ?_⟩)))
    (case a15 => first | k_is | rfl | decide +kernel | k_exc | kernel_rfl | (repeat (first | exact True.intro | refine ⟨⟨_, _, rfl, rfl⟩, ?_⟩)))
    (case a16 => first | k_is | rfl | decide +kernel | k_exc | kernel_rfl | (repeat (first | exact True.intro | refine ⟨⟨_, _, rfl, rfl⟩, ?_⟩)))
    (case a17 => first | k_is | rfl | decide +kernel | k_exc | kernel_rfl | (repeat (first | exact True.intro | refine ⟨⟨_, _, rfl, rfl⟩, ?_⟩)))
    (case a18 => first | k_is | rfl | decide +kernel | k_exc | kernel_rfl | (repeat (first | exact True.intro | refine ⟨⟨_, _, rfl, rfl⟩, ?_⟩)))
    (case a30 => first | k_is | rfl | decide +kernel | k_exc | kernel_rfl | (repeat (first | exact True.intro | refine ⟨⟨_, _, rfl, rfl⟩, ?_⟩)))
    (case a31 => first | k_is | rfl | decide +kernel | k_exc | kernel_rfl | (repeat (first | exact True.intro | refine ⟨⟨_, _, rfl, rfl⟩, ?_⟩)))
    (case a32 => first | k_is | rfl | decide +kernel | k_exc | kernel_rfl | (repeat (first | exact True.intro | refine ⟨⟨_, _, rfl, rfl⟩, ?_⟩)))
    (case a33 => first | k_is | rfl | decide +kernel | k_exc | kernel_rfl | (repeat (first | exact True.intro | refine ⟨⟨_, _, rfl, rfl⟩, ?_⟩)))
    (case a34 => first | k_is | rfl | decide +kernel | k_exc | kernel_rfl | (repeat (first | exact True.intro | refine ⟨⟨_, _, rfl, rfl⟩, ?_⟩)))
    (case a35 => first | k_is | rfl | decide +kernel | k_exc | kernel_rfl | (repeat (first | exact True.intro | refine ⟨⟨_, _, rfl, rfl⟩, ?_⟩)))
    (case a36 => first | k_is | rfl | decide +kernel | k_exc | kernel_rfl | (repeat (first | exact True.intro | refine ⟨⟨_, _, rfl, rfl⟩, ?_⟩)))
    (case a37 => first | k_is | rfl | decide +kernel | k_exc | kernel_rfl | (repeat (first | exact True.intro | refine ⟨⟨_, _, rfl, rfl⟩, ?_⟩)))
    (case a38 => first | k_is | rfl | decide +kernel | k_exc | kernel_rfl | (repeat (first | exact True.intro | refine ⟨⟨_, _, rfl, rfl⟩, ?_⟩)))
    (case a40 => first | k_is | rfl | decide +kernel | k_exc | kernel_rfl | (repeat (first | exact True.intro | refine ⟨⟨_, _, rfl, rfl⟩, ?_⟩)))
    (case a41 => first | k_is | rfl | decide +kernel | k_exc | kernel_rfl | (repeat (first | exact True.intro | refine ⟨⟨_, _, rfl, rfl⟩, ?_⟩)))
    (case a42 => first | k_is | rfl | decide +kernel | k_exc | kernel_rfl | (repeat (first | exact True.intro | refine ⟨⟨_, _, rfl, rfl⟩, ?_⟩)))
    (case a43 => first | k_is | rfl | decide +kernel | k_exc | kernel_rfl | (repeat (first | exact True.intro | refine ⟨⟨_, _, rfl, rfl⟩, ?_⟩)))
    (case a7 => first | k_is | rfl | decide +kernel | k_exc | kernel_rfl | (repeat (first | exact True.intro | refine ⟨⟨_, _, rfl, rfl⟩, ?_⟩)))
    (case a4 => first | k_is | rfl | decide +kernel | k_exc | kernel_rfl | (repeat (first | exact True.intro | refine ⟨⟨_, _, rfl, rfl⟩, ?_⟩)))
    (case a5 => first | k_is | rfl | decide +kernel | k_exc | kernel_rfl | (repeat (first | exact True.intro | refine ⟨⟨_, _, rfl, rfl⟩, ?_⟩)))
    (case a11 => first | k_is | rfl | decide +kernel | k_exc | kernel_rfl | (repeat (first | exact True.intro | refine ⟨⟨_, _, rfl, rfl⟩, ?_⟩)))
    (case a12 => first | k_is | rfl | decide +kernel | k_exc | kernel_rfl | (repeat (first | exact True.intro | refine ⟨⟨_, _, rfl, rfl⟩, ?_⟩)))
    (case a13 => first | k_is | rfl | decide +kernel | k_exc | kernel_rfl | (repeat (first | exact True.intro | refine ⟨⟨_, _, rfl, rfl⟩, ?_⟩)))
    (case a29 => first | k_is | rfl | decide +kernel | k_exc | kernel_rfl | (repeat (first | exact True.intro | refine ⟨⟨_, _, rfl, rfl⟩, ?_⟩)))
    (case a39 => first | k_is | rfl | decide +kernel | k_exc | kernel_rfl | (repeat (first | exact True.intro | refine ⟨⟨_, _, rfl, rfl⟩, ?_⟩)))
    (case a44 => first | k_is | rfl | decide +kernel | k_exc | kernel_rfl | (repeat (first | exact True.intro | refine ⟨⟨_, _, rfl, rfl⟩, ?_⟩)))
    (case aC3 => first | k_is | rfl | decide +kernel | k_exc | kernel_rfl | (repeat (first | exact True.intro | refine ⟨⟨_, _, rfl, rfl⟩, ?_⟩)))
    (case a19 => first | k_is | rfl | decide +kernel | k_exc | kernel_rfl | (repeat (first | exact True.intro | refine ⟨⟨_, _, rfl, rfl⟩, ?_⟩)))
    (case aC2 => first | k_is | rfl | decide +kernel | k_exc | kernel_rfl | (repeat (first | exact True.intro | refine ⟨⟨_, _, rfl, rfl⟩, ?_⟩)))
    (case aC1 => first | k_is | rfl | decide +kernel | k_exc | kernel_rfl | (repeat (first | exact True.intro | refine ⟨⟨_, _, rfl, rfl⟩, ?_⟩)))
    (case mt27 => first | k_is | rfl | decide +kernel | k_exc | kernel_rfl | (repeat (first | exact True.intro | refine ⟨⟨_, _, rfl, rfl⟩, ?_⟩)))
    (case mt25 => first | k_is | rfl | decide +kernel | k_exc | kernel_rfl | (repeat (first | exact True.intro | refine ⟨⟨_, _, rfl, rfl⟩, ?_⟩)))
    (case mt26 => first | k_is | rfl | decide +kernel | k_exc | kernel_rfl | (repeat (first | exact True.intro | refine ⟨⟨_, _, rfl, rfl⟩, ?_⟩)))
    (case mt24 => first | k_is | rfl | decide +kernel | k_exc | kernel_rfl | (repeat (first | exact True.intro | refine ⟨⟨_, _, rfl, rfl⟩, ?_⟩)))
    (case mt28 => first | k_is | rfl | decide +kernel | k_exc | kernel_rfl | (repeat (first | exact True.intro | refine ⟨⟨_, _, rfl, rfl⟩, ?_⟩)))
    (case mt20 => first | k_is | rfl | decide +kernel | k_exc | kernel_rfl | (repeat (first | exact True.intro | refine ⟨⟨_, _, rfl, rfl⟩, ?_⟩)))
    (case mt22 => first | k_is | rfl | decide +kernel | k_exc | kernel_rfl | (repeat (first | exact True.intro | refine ⟨⟨_, _, rfl, rfl⟩, ?_⟩)))
    (case mt21 => first | k_is | rfl | decide +kernel | k_exc | kernel_rfl | (repeat (first | exact True.intro | refine ⟨⟨_, _, rfl, rfl⟩, ?_⟩)))
    (case mu28 => first | k_is | rfl | decide +kernel | k_exc | kernel_rfl | (repeat (first | exact True.intro | refine ⟨⟨_, _, rfl, rfl⟩, ?_⟩)))
    (case l1 => first | k_is | rfl | decide +kernel | k_exc | kernel_rfl | (repeat (first | exact True.intro | refine ⟨⟨_, _, rfl, rfl⟩, ?_⟩)))
    (case c1 => first | k_is | rfl | decide +kernel | k_exc | kernel_rfl | (repeat (first | exact True.intro | refine ⟨⟨_, _, rfl, rfl⟩, ?_⟩)))
    (case k1 => first | k_is | rfl | decide +kernel | k_exc | kernel_rfl | (repeat (first | exact True.intro | refine ⟨⟨_, _, rfl, rfl⟩, ?_⟩)))
    (case l2 => first | k_is | rfl | decide +kernel | k_exc | kernel_rfl | (repeat (first | exact True.intro | refine ⟨⟨_, _, rfl, rfl⟩, ?_⟩)))
    (case c2 => first | k_is | rfl | decide +kernel | k_exc | kernel_rfl | (repeat (first | exact True.intro | refine ⟨⟨_, _, rfl, rfl⟩, ?_⟩)))
    (case k2 => first | k_is | rfl | decide +kernel | k_exc | kernel_rfl | (repeat (first | exact True.intro | refine ⟨⟨_, _, rfl, rfl⟩, ?_⟩)))
    (case l3 => first | k_is | rfl | decide +kernel | k_exc | kernel_rfl | (repeat (first | exact True.intro | refine ⟨⟨_, _, rfl, rfl⟩, ?_⟩)))
    (case c3 => first | k_is | rfl | decide +kernel | k_exc | kernel_rfl | (repeat (first | exact True.intro | refine ⟨⟨_, _, rfl, rfl⟩, ?_⟩)))
    (case k3 => first | k_is | rfl | decide +kernel | k_exc | kernel_rfl | (repeat (first | exact True.intro | refine ⟨⟨_, _, rfl, rfl⟩, ?_⟩)))
    (case l6 => first | k_is | rfl | decide +kernel | k_exc | kernel_rfl | (repeat (first | exact True.intro | refine ⟨⟨_, _, rfl, rfl⟩, ?_⟩)))
    (case c6 => first | k_is | rfl | decide +kernel | k_exc | kernel_rfl | (repeat (first | exact True.intro | refine ⟨⟨_, _, rfl, rfl⟩, ?_⟩)))
    (case k6 => first | k_is | rfl | decide +kernel | k_exc | kernel_rfl | (repeat (first | exact True.intro | refine ⟨⟨_, _, rfl, rfl⟩, ?_⟩)))
    (case l8 => first | k_is | rfl | decide +kernel | k_exc | kernel_rfl | (repeat (first | exact True.intro | refine ⟨⟨_, _, rfl, rfl⟩, ?_⟩)))
    (case c8 => first | k_is | rfl | decide +kernel | k_exc | kernel_rfl | (repeat (first | exact True.intro | refine ⟨⟨_, _, rfl, rfl⟩, ?_⟩)))
    (case k8 => first | k_is | rfl | decide +kernel | k_exc | kernel_rfl | (repeat (first | exact True.intro | refine ⟨⟨_, _, rfl, rfl⟩, ?_⟩)))
    (case l9 => first | k_is | rfl | decide +kernel | k_exc | kernel_rfl | (repeat (first | exact True.intro | refine ⟨⟨_, _, rfl, rfl⟩, ?_⟩)))
    (case c9 => first | k_is | rfl | decide +kernel | k_exc | kernel_rfl | (repeat (first | exact True.intro | refine ⟨⟨_, _, rfl, rfl⟩, ?_⟩)))
    (case k9 => first | k_is | rfl | decide +kernel | k_exc | kernel_rfl | (repeat (first | exact True.intro | refine ⟨⟨_, _, rfl, rfl⟩, ?_⟩)))
    (case l10 => first | k_is | rfl | decide +kernel | k_exc | kernel_rfl | (repeat (first | exact True.intro | refine ⟨⟨_, _, rfl, rfl⟩, ?_⟩)))
    (case c10 => first | k_is | rfl | decide +kernel | k_exc | kernel_rfl | (repeat (first | exact True.intro | refine ⟨⟨_, _, rfl, rfl⟩, ?_⟩)))
    (case k10 => first | k_is | rfl | decide +kernel | k_exc | kernel_rfl | (repeat (first | exact True.intro | refine ⟨⟨_, _, rfl, rfl⟩, ?_⟩)))
    (case l14 => first | k_is | rfl | decide +kernel | k_exc | kernel_rfl | (repeat (first | exact True.intro | refine ⟨⟨_, _, rfl, rfl⟩, ?_⟩)))
    (case c14 => first | k_is | rfl | decide +kernel | k_exc | kernel_rfl | (repeat (first | exact True.intro | refine ⟨⟨_, _, rfl, rfl⟩, ?_⟩)))
    (case k14 => first | k_is | rfl | decide +kernel | k_exc | kernel_rfl | (repeat (first | exact True.intro | refine ⟨⟨_, _, rfl, rfl⟩, ?_⟩)))
    (case l15 => first | k_is | rfl | decide +kernel | k_exc | kernel_rfl | (repeat (first | exact True.intro | refine ⟨⟨_, _, rfl, rfl⟩, ?_⟩)))
    (case c15 => first | k_is | rfl | decide +kernel | k_exc | kernel_rfl | (repeat (first | exact True.intro | refine ⟨⟨_, _, rfl, rfl⟩, ?_⟩)))
    (case k15 => first | k_is | rfl | decide +kernel | k_exc | kernel_rfl | (repeat (first | exact True.intro | refine ⟨⟨_, _, rfl, rfl⟩, ?_⟩)))
    (case l16 => first | k_is | rfl | decide +kernel | k_exc | kernel_rfl | (repeat (first | exact True.intro | refine ⟨⟨_, _, rfl, rfl⟩, ?_⟩)))
    (case c16 => first | k_is | rfl | decide +kernel | k_exc | kernel_rfl | (repeat (first | exact True.intro | refine ⟨⟨_, _, rfl, rfl⟩, ?_⟩)))
    (case k16 => first | k_is | rfl | decide +kernel | k_exc | kernel_rfl | (repeat (first | exact True.intro | refine ⟨⟨_, _, rfl, rfl⟩, ?_⟩)))
    (case l17 => first | k_is | rfl | decide +kernel | k_exc | kernel_rfl | (repeat (first | exact True.intro | refine ⟨⟨_, _, rfl, rfl⟩, ?_⟩)))
    (case c17 => first | k_is | rfl | decide +kernel | k_exc | kernel_rfl | (repeat (first | exact True.intro | refine ⟨⟨_, _, rfl, rfl⟩, ?_⟩)))
    (case k17 => first | k_is | rfl | decide +kernel | k_exc | kernel_rfl | (repeat (first | exact True.intro | refine ⟨⟨_, _, rfl, rfl⟩, ?_⟩)))
    (case l18 => first | k_is | rfl | decide +kernel | k_exc | kernel_rfl | (repeat (first | exact True.intro | refine ⟨⟨_, _, rfl, rfl⟩, ?_⟩)))
    (case c18 => first | k_is | rfl | decide +kernel | k_exc | kernel_rfl | (repeat (first | exact True.intro | refine ⟨⟨_, _, rfl, rfl⟩, ?_⟩)))
    (case k18 => first | k_is | rfl | decide +kernel | k_exc | kernel_rfl | (repeat (first | exact True.intro | refine ⟨⟨_, _, rfl, rfl⟩, ?_⟩)))
    (case l20 => first | k_is | rfl | decide +kernel | k_exc | kernel_rfl | (repeat (first | exact True.intro | refine ⟨⟨_, _, rfl, rfl⟩, ?_⟩)))
    (case c20 => first | k_is | rfl | decide +kernel | k_exc | kernel_rfl | (repeat (first | exact True.intro | refine ⟨⟨_, _, rfl, rfl⟩, ?_⟩)))
    (case k20 => first | k_is | rfl | decide +kernel | k_exc | kernel_rfl | (repeat (first | exact True.intro | refine ⟨⟨_, _, rfl, rfl⟩, ?_⟩)))
    (case l21 => first | k_is | rfl | decide +kernel | k_exc | kernel_rfl | (repeat (first | exact True.intro | refine ⟨⟨_, _, rfl, rfl⟩, ?_⟩)))
    (case c21 => first | k_is | rfl | decide +kernel | k_exc | kernel_rfl | (repeat (first | exact True.intro | refine ⟨⟨_, _, rfl, rfl⟩, ?_⟩)))
    (case k21 => first | k_is | rfl | decide +kernel | k_exc | kernel_rfl | (repeat (first | exact True.intro | refine ⟨⟨_, _, rfl, rfl⟩, ?_⟩)))
    (case l22 => first | k_is | rfl | decide +kernel | k_exc | kernel_rfl | (repeat (first | exact True.intro | refine ⟨⟨_, _, rfl, rfl⟩, ?_⟩)))
    (case c22 => first | k_is | rfl | decide +kernel | k_exc | kernel_rfl | (repeat (first | exact True.intro | refine ⟨⟨_, _, rfl, rfl⟩, ?_⟩)))
    (case k22 => first | k_is | rfl | decide +kernel | k_exc | kernel_rfl | (repeat (first | exact True.intro | refine ⟨⟨_, _, rfl, rfl⟩, ?_⟩)))
    (case l24 => first | k_is | rfl | decide +kernel | k_exc | kernel_rfl | (repeat (first | exact True.intro | refine ⟨⟨_, _, rfl, rfl⟩, ?_⟩)))
    (case c24 => first | k_is | rfl | decide +kernel | k_exc | kernel_rfl | (repeat (first | exact True.intro | refine ⟨⟨_, _, rfl, rfl⟩, ?_⟩)))
    (case k24 => first | k_is | rfl | decide +kernel | k_exc | kernel_rfl | (repeat (first | exact True.intro | refine ⟨⟨_, _, rfl, rfl⟩, ?_⟩)))
    (case l25 => first | k_is | rfl | decide +kernel | k_exc | kernel_rfl | (repeat (first | exact True.intro | refine ⟨⟨_, _, rfl, rfl⟩, ?_⟩)))
    (case c25 => first | k_is | rfl | decide +kernel | k_exc | kernel_rfl | (repeat (first | exact True.intro | refine ⟨⟨_, _, rfl, rfl⟩, ?_⟩)))
    (case k25 => first | k_is | rfl | decide +kernel | k_exc | kernel_rfl | (repeat (first | exact True.intro | refine ⟨⟨_, _, rfl, rfl⟩, ?_⟩)))
    (case l26 => first | k_is | rfl | decide +kernel | k_exc | kernel_rfl | (repeat (first | exact True.intro | refine ⟨⟨_, _, rfl, rfl⟩, ?_⟩)))
    (case c26 => first | k_is | rfl | decide +kernel | k_exc | kernel_rfl | (repeat (first | exact True.intro | refine ⟨⟨_, _, rfl, rfl⟩, ?_⟩)))
    (case k26 => first | k_is | rfl | decide +kernel | k_exc | kernel_rfl | (repeat (first | exact True.intro | refine ⟨⟨_, _, rfl, rfl⟩, ?_⟩)))
    (case l27 => first | k_is | rfl | decide +kernel | k_exc | kernel_rfl | (repeat (first | exact True.intro | refine ⟨⟨_, _, rfl, rfl⟩, ?_⟩)))
    (case c27 => first | k_is | rfl | decide +kernel | k_exc | kernel_rfl | (repeat (first | exact True.intro | refine ⟨⟨_, _, rfl, rfl⟩, ?_⟩)))
    (case k27 => first | k_is | rfl | decide +kernel | k_exc | kernel_rfl | (repeat (first | exact True.intro | refine ⟨⟨_, _, rfl, rfl⟩, ?_⟩)))
    (case l28 => first | k_is | rfl | decide +kernel | k_exc | kernel_rfl | (repeat (first | exact True.intro | refine ⟨⟨_, _, rfl, rfl⟩, ?_⟩)))
    (case c28 => first | k_is | rfl | decide +kernel | k_exc | kernel_rfl | (repeat (first | exact True.intro | refine ⟨⟨_, _, rfl, rfl⟩, ?_⟩)))
    (case k28 => first | k_is | rfl | decide +kernel | k_exc | kernel_rfl | (repeat (first | exact True.intro | refine ⟨⟨_, _, rfl, rfl⟩, ?_⟩)))
    (case l30 => first | k_is | rfl | decide +kernel | k_exc | kernel_rfl | (repeat (first | exact True.intro | refine ⟨⟨_, _, rfl, rfl⟩, ?_⟩)))
    (case c30 => first | k_is | rfl | decide +kernel | k_exc | kernel_rfl | (repeat (first | exact True.intro | refine ⟨⟨_, _, rfl, rfl⟩, ?_⟩)))
    (case k30 => first | k_is | rfl | decide +kernel | k_exc | kernel_rfl | (repeat (first | exact True.intro | refine ⟨⟨_, _, rfl, rfl⟩, ?_⟩)))
    (case l31 => first | k_is | rfl | decide +kernel | k_exc | kernel_rfl | (repeat (first | exact True.intro | refine ⟨⟨_, _, rfl, rfl⟩, ?_⟩)))
    (case c31 => first | k_is | rfl | decide +kernel | k_exc | kernel_rfl | (repeat (first | exact True.intro | refine ⟨⟨_, _, rfl, rfl⟩, ?_⟩)))
    (case k31 => first | k_is | rfl | decide +kernel | k_exc | kernel_rfl | (repeat (first | exact True.intro | refine ⟨⟨_, _, rfl, rfl⟩, ?_⟩)))
    (case l32 => first | k_is | rfl | decide +kernel | k_exc | kernel_rfl | (repeat (first | exact True.intro | refine ⟨⟨_, _, rfl, rfl⟩, ?_⟩)))
    (case c32 => first | k_is | rfl | decide +kernel | k_exc | kernel_rfl | (repeat (first | exact True.intro | refine ⟨⟨_, _, rfl, rfl⟩, ?_⟩)))
    (case k32 => first | k_is | rfl | decide +kernel | k_exc | kernel_rfl | (repeat (first | exact True.intro | refine ⟨⟨_, _, rfl, rfl⟩, ?_⟩)))
    (case l33 => first | k_is | rfl | decide +kernel | k_exc | kernel_rfl | (repeat (first | exact True.intro | refine ⟨⟨_, _, rfl, rfl⟩, ?_⟩)))
    (case c33 => first | k_is | rfl | decide +kernel | k_exc | kernel_rfl | (repeat (first | exact True.intro | refine ⟨⟨_, _, rfl, rfl⟩, ?_⟩)))
    (case k33 => first | k_is | rfl | decide +kernel | k_exc | kernel_rfl | (repeat (first | exact True.intro | refine ⟨⟨_, _, rfl, rfl⟩, ?_⟩)))
    (case l34 => first | k_is | rfl | decide +kernel | k_exc | kernel_rfl | (repeat (first | exact True.intro | refine ⟨⟨_, _, rfl, rfl⟩, ?_⟩)))
    (case c34 => first | k_is | rfl | decide +kernel | k_exc | kernel_rfl | (repeat (first | exact True.intro | refine ⟨⟨_, _, rfl, rfl⟩, ?_⟩)))
    (case k34 => first | k_is | rfl | decide +kernel | k_exc | kernel_rfl | (repeat (first | exact True.intro | refine ⟨⟨_, _, rfl, rfl⟩, ?_⟩)))
    (case l35 => first | k_is | rfl | decide +kernel | k_exc | kernel_rfl | (repeat (first | exact True.intro | refine ⟨⟨_, _, rfl, rfl⟩, ?_⟩)))
    (case c35 => first | k_is | rfl | decide +kernel | k_exc | kernel_rfl | (repeat (first | exact True.intro | refine ⟨⟨_, _, rfl, rfl⟩, ?_⟩)))
    (case k35 => first | k_is | rfl | decide +kernel | k_exc | kernel_rfl | (repeat (first | exact True.intro | refine ⟨⟨_, _, rfl, rfl⟩, ?_⟩)))
    (case l36 => first | k_is | rfl | decide +kernel | k_exc | kernel_rfl | (repeat (first | exact True.intro | refine ⟨⟨_, _, rfl, rfl⟩, ?_⟩)))
    (case c36 => first | k_is | rfl | decide +kernel | k_exc | kernel_rfl | (repeat (first | exact True.intro | refine ⟨⟨_, _, rfl, rfl⟩, ?_⟩)))
    (case k36 => first | k_is | rfl | decide +kernel | k_exc | kernel_rfl | (repeat (first | exact True.intro | refine ⟨⟨_, _, rfl, rfl⟩, ?_⟩)))
    (case l37 => first | k_is | rfl | decide +kernel | k_exc | kernel_rfl | (repeat (first | exact True.intro | refine ⟨⟨_, _, rfl, rfl⟩, ?_⟩)))
    (case c37 => first | k_is | rfl | decide +kernel | k_exc | kernel_rfl | (repeat (first | exact True.intro | refine ⟨⟨_, _, rfl, rfl⟩, ?_⟩)))
    (case k37 => first | k_is | rfl | decide +kernel | k_exc | kernel_rfl | (repeat (first | exact True.intro | refine ⟨⟨_, _, rfl, rfl⟩, ?_⟩)))
    (case l38 => first | k_is | rfl | decide +kernel | k_exc | kernel_rfl | (repeat (first | exact True.intro | refine ⟨⟨_, _, rfl, rfl⟩, ?_⟩)))
    (case c38 => first | k_is | rfl | decide +kernel | k_exc | kernel_rfl | (repeat (first | exact True.intro | refine ⟨⟨_, _, rfl, rfl⟩, ?_⟩)))
    (case k38 => first | k_is | rfl | decide +kernel | k_exc | kernel_rfl | (repeat (first | exact True.intro | refine ⟨⟨_, _, rfl, rfl⟩, ?_⟩)))
    (case l40 => first | k_is | rfl | decide +kernel | k_exc | kernel_rfl | (repeat (first | exact True.intro | refine ⟨⟨_, _, rfl, rfl⟩, ?_⟩)))
    (case c40 => first | k_is | rfl | decide +kernel | k_exc | kernel_rfl | (repeat (first | exact True.intro | refine ⟨⟨_, _, rfl, rfl⟩, ?_⟩)))
    (case k40 => first | k_is | rfl | decide +kernel | k_exc | kernel_rfl | (repeat (first | exact True.intro | refine ⟨⟨_, _, rfl, rfl⟩, ?_⟩)))
    (case l41 => first | k_is | rfl | decide +kernel | k_exc | kernel_rfl | (repeat (first | exact True.intro | refine ⟨⟨_, _, rfl, rfl⟩, ?_⟩)))
    (case c41 => first | k_is | rfl | decide +kernel | k_exc | kernel_rfl | (repeat (first | exact True.intro | refine ⟨⟨_, _, rfl, rfl⟩, ?_⟩)))
    (case k41 => first | k_is | rfl | decide +kernel | k_exc | kernel_rfl | (repeat (first | exact True.intro | refine ⟨⟨_, _, rfl, rfl⟩, ?_⟩)))
    (case l42 => first | k_is | rfl | decide +kernel | k_exc | kernel_rfl | (repeat (first | exact True.intro | refine ⟨⟨_, _, rfl, rfl⟩, ?_⟩)))
    (case c42 => first | k_is | rfl | decide +kernel | k_exc | kernel_rfl | (repeat (first | exact True.intro | refine ⟨⟨_, _, rfl, rfl⟩, ?_⟩)))
    (case k42 => first | k_is | rfl | decide +kernel | k_exc | kernel_rfl | (repeat (first | exact True.intro | refine ⟨⟨_, _, rfl, rfl⟩, ?_⟩)))
    (case l43 => first | k_is | rfl | decide +kernel | k_exc | kernel_rfl | (repeat (first | exact True.intro | refine ⟨⟨_, _, rfl, rfl⟩, ?_⟩)))
    (case c43 => first | k_is | rfl | decide +kernel | k_exc | kernel_rfl | (repeat (first | exact True.intro | refine ⟨⟨_, _, rfl, rfl⟩, ?_⟩)))
    (case k43 => first | k_is | rfl | decide +kernel | k_exc | kernel_rfl | (repeat (first | exact True.intro | refine ⟨⟨_, _, rfl, rfl⟩, ?_⟩)))
    (case l7 => first | k_is | rfl | decide +kernel | k_exc | kernel_rfl | (repeat (first | exact True.intro | refine ⟨⟨_, _, rfl, rfl⟩, ?_⟩)))
    (case c7 => first | k_is | rfl | decide +kernel | k_exc | kernel_rfl | (repeat (first | exact True.intro | refine ⟨⟨_, _, rfl, rfl⟩, ?_⟩)))
    (case k7 => first | k_is | rfl | decide +kernel | k_exc | kernel_rfl | (repeat (first | exact True.intro | refine ⟨⟨_, _, rfl, rfl⟩, ?_⟩)))
    (case l4 => first | k_is | rfl | decide +kernel | k_exc | kernel_rfl | (repeat (first | exact True.intro | refine ⟨⟨_, _, rfl, rfl⟩, ?_⟩)))
    (case c4 => first | k_is | rfl | decide +kernel | k_exc | kernel_rfl | (repeat (first | exact True.intro | refine ⟨⟨_, _, rfl, rfl⟩, ?_⟩)))
    (case k4 => first | k_is | rfl | decide +kernel | k_exc | kernel_rfl | (repeat (first | exact True.intro | refine ⟨⟨_, _, rfl, rfl⟩, ?_⟩)))
    (case l5 => first | k_is | rfl | decide +kernel | k_exc | kernel_rfl | (repeat (first | exact True.intro | refine ⟨⟨_, _, rfl, rfl⟩, ?_⟩)))
    (case c5 => first | k_is | rfl | decide +kernel | k_exc | kernel_rfl | (repeat (first | exact True.intro | refine ⟨⟨_, _, rfl, rfl⟩, ?_⟩)))
    (case k5 => first | k_is | rfl | decide +kernel | k_exc | kernel_rfl | (repeat (first | exact True.intro | refine ⟨⟨_, _, rfl, rfl⟩, ?_⟩)))
    (case l11 => first | k_is | rfl | decide +kernel | k_exc | kernel_rfl | (repeat (first | exact True.intro | refine ⟨⟨_, _, rfl, rfl⟩, ?_⟩)))
    (case c11 => first | k_is | rfl | decide +kernel | k_exc | kernel_rfl | (repeat (first | exact True.intro | refine ⟨⟨_, _, rfl, rfl⟩, ?_⟩)))
    (case k11 => first | k_is | rfl | decide +kernel | k_exc | kernel_rfl | (repeat (first | exact True.intro | refine ⟨⟨_, _, rfl, rfl⟩, ?_⟩)))
    (case l12 => first | k_is | rfl | decide +kernel | k_exc | kernel_rfl | (repeat (first | exact True.intro | refine ⟨⟨_, _, rfl, rfl⟩, ?_⟩)))
    (case c12 => first | k_is | rfl | decide +kernel | k_exc | kernel_rfl | (repeat (first | exact True.intro | refine ⟨⟨_, _, rfl, rfl⟩, ?_⟩)))
    (case k12 => first | k_is | rfl | decide +kernel | k_exc | kernel_rfl | (repeat (first | exact True.intro | refine ⟨⟨_, _, rfl, rfl⟩, ?_⟩)))
    (case l13 => first | k_is | rfl | decide +kernel | k_exc | kernel_rfl | (repeat (first | exact True.intro | refine ⟨⟨_, _, rfl, rfl⟩, ?_⟩)))
    (case c13 => first | k_is | rfl | decide +kernel | k_exc | kernel_rfl | (repeat (first | exact True.intro | refine ⟨⟨_, _, rfl, rfl⟩, ?_⟩)))
    (case k13 => first | k_is | rfl | decide +kernel | k_exc | kernel_rfl | (repeat (first | exact True.intro | refine ⟨⟨_, _, rfl, rfl⟩, ?_⟩)))
    (case l29 => first | k_is | rfl | decide +kernel | k_exc | kernel_rfl | (repeat (first | exact True.intro | refine ⟨⟨_, _, rfl, rfl⟩, ?_⟩)))
    (case c29 => first | k_is | rfl | decide +kernel | k_exc | kernel_rfl | (repeat (first | exact True.intro | refine ⟨⟨_, _, rfl, rfl⟩, ?_⟩)))
    (case k29 => first | k_is | rfl | decide +kernel | k_exc | kernel_rfl | (repeat (first | exact True.intro | refine ⟨⟨_, _, rfl, rfl⟩, ?_⟩)))
    (case l39 => first | k_is | rfl | decide +kernel | k_exc | kernel_rfl | (repeat (first | exact True.intro | refine ⟨⟨_, _, rfl, rfl⟩, ?_⟩)))
    (case c39 => first | k_is | rfl | decide +kernel | k_exc | kernel_rfl | (repeat (first | exact True.intro | refine ⟨⟨_, _, rfl, rfl⟩, ?_⟩)))
    (case k39 => first | k_is | rfl | decide +kernel | k_exc | kernel_rfl | (repeat (first | exact True.intro | refine ⟨⟨_, _, rfl, rfl⟩, ?_⟩)))
    (case l44 => first | k_is | rfl | decide +kernel | k_exc | kernel_rfl | (repeat (first | exact True.intro | refine ⟨⟨_, _, rfl, rfl⟩, ?_⟩)))
    (case c44 => first | k_is | rfl | decide +kernel | k_exc | kernel_rfl | (repeat (first | exact True.intro | refine ⟨⟨_, _, rfl, rfl⟩, ?_⟩)))
    (case k44 => first | k_is | rfl | decide +kernel | k_exc | kernel_rfl | (repeat (first | exact True.intro | refine ⟨⟨_, _, rfl, rfl⟩, ?_⟩)))
    (case zb_all => first | k_is | rfl | decide +kernel | k_exc | kernel_rfl | (repeat (first | exact True.intro | refine ⟨⟨_, _, rfl, rfl⟩, ?_⟩)))
    (case zb_any => first | k_is | rfl | decide +kernel | k_exc | kernel_rfl | (repeat (first | exact True.intro | refine ⟨⟨_, _, rfl, rfl⟩, ?_⟩)))
    (case zb_bool => first | k_is | rfl | decide +kernel | k_exc | kernel_rfl | (repeat (first | exact True.intro | refine ⟨⟨_, _, rfl, rfl⟩, ?_⟩)))
    (case zb_enumerate => first | k_is | rfl | decide +kernel | k_exc | kernel_rfl | (repeat (first | exact True.intro | refine ⟨⟨_, _, rfl, rfl⟩, ?_⟩)))
    (case zb_int => first | k_is | rfl | decide +kernel | k_exc | kernel_rfl | (repeat (first | exact True.intro | refine ⟨⟨_, _, rfl, rfl⟩, ?_⟩)))
    (case zb_isinstance => first | k_is | rfl | decide +kernel | k_exc | kernel_rfl | (repeat (first | exact True.intro | refine ⟨⟨_, _, rfl, rfl⟩, ?_⟩)))
    (case zb_len => first | k_is | rfl | decide +kernel | k_exc | kernel_rfl | (repeat (first | exact True.intro | refine ⟨⟨_, _, rfl, rfl⟩, ?_⟩)))
    (case zb_list => first | k_is | rfl | decide +kernel | k_exc | kernel_rfl | (repeat (first | exact True.intro | refine ⟨⟨_, _, rfl, rfl⟩, ?_⟩)))
    (case zb_min => first | k_is | rfl | decide +kernel | k_exc | kernel_rfl | (repeat (first | exact True.intro | refine ⟨⟨_, _, rfl, rfl⟩, ?_⟩)))
    (case zb_range => first | k_is | rfl | decide +kernel | k_exc | kernel_rfl | (repeat (first | exact True.intro | refine ⟨⟨_, _, rfl, rfl⟩, ?_⟩)))
    (case zb_str => first | k_is | rfl | decide +kernel | k_exc | kernel_rfl | (repeat (first | exact True.intro | refine ⟨⟨_, _, rfl, rfl⟩, ?_⟩)))
    (case zb_tuple => first | k_is | rfl | decide +kernel | k_exc | kernel_rfl | (repeat (first | exact True.intro | refine ⟨⟨_, _, rfl, rfl⟩, ?_⟩)))
    (case zb_zip => first | k_is | rfl | decide +kernel | k_exc | kernel_rfl | (repeat (first | exact True.intro | refine ⟨⟨_, _, rfl, rfl⟩, ?_⟩)))
    (case zk_MOST_BLOCKS => first | k_is | rfl | decide +kernel | k_exc | kernel_rfl | (repeat (first | exact True.intro | refine ⟨⟨_, _, rfl, rfl⟩, ?_⟩)))
    (case zk_MOST_HANDED => first | k_is | rfl | decide +kernel | k_exc | kernel_rfl | (repeat (first | exact True.intro | refine ⟨⟨_, _, rfl, rfl⟩, ?_⟩)))
    (case zk_MOST_ROWS => first | k_is | rfl | decide +kernel | k_exc | kernel_rfl | (repeat (first | exact True.intro | refine ⟨⟨_, _, rfl, rfl⟩, ?_⟩)))
    (case zk_MOST_SPAN => first | k_is | rfl | decide +kernel | k_exc | kernel_rfl | (repeat (first | exact True.intro | refine ⟨⟨_, _, rfl, rfl⟩, ?_⟩)))
    (case zk_MOST_VARIABLES => first | k_is | rfl | decide +kernel | k_exc | kernel_rfl | (repeat (first | exact True.intro | refine ⟨⟨_, _, rfl, rfl⟩, ?_⟩)))
    (case i19 => first | k_is | rfl | decide +kernel | k_exc | kernel_rfl | (repeat (first | exact True.intro | refine ⟨⟨_, _, rfl, rfl⟩, ?_⟩)))
    (case l19 => first | k_is | rfl | decide +kernel | k_exc | kernel_rfl | (repeat (first | exact True.intro | refine ⟨⟨_, _, rfl, rfl⟩, ?_⟩)))
    (case c19 => first | k_is | rfl | decide +kernel | k_exc | kernel_rfl | (repeat (first | exact True.intro | refine ⟨⟨_, _, rfl, rfl⟩, ?_⟩)))
    (case k19 => first | k_is | rfl | decide +kernel | k_exc | kernel_rfl | (repeat (first | exact True.intro | refine ⟨⟨_, _, rfl, rfl⟩, ?_⟩)))
    (case mk3 => first | k_is | rfl | decide +kernel | k_exc | kernel_rfl | (repeat (first | exact True.intro | refine ⟨⟨_, _, rfl, rfl⟩, ?_⟩)))
    (case kc3 => first | k_is | rfl | decide +kernel | k_exc | kernel_rfl | (repeat (first | exact True.intro | refine ⟨⟨_, _, rfl, rfl⟩, ?_⟩)))
    (case kd19_0 => first | k_is | rfl | decide +kernel | k_exc | kernel_rfl | (repeat (first | exact True.intro | refine ⟨⟨_, _, rfl, rfl⟩, ?_⟩)))
    (case kd19_1 => first | k_is | rfl | decide +kernel | k_exc | kernel_rfl | (repeat (first | exact True.intro | refine ⟨⟨_, _, rfl, rfl⟩, ?_⟩)))
    (case pg3 => first | k_is | rfl | decide +kernel | k_exc | kernel_rfl | (repeat (first | exact True.intro | refine ⟨⟨_, _, rfl, rfl⟩, ?_⟩)))
    (case hd3 => first | k_is | rfl | decide +kernel | k_exc | kernel_rfl | (repeat (first | exact True.intro | refine ⟨⟨_, _, rfl, rfl⟩, ?_⟩)))
    (case po3 => first | k_is | rfl | decide +kernel | k_exc | kernel_rfl | (repeat (first | exact True.intro | refine ⟨⟨_, _, rfl, rfl⟩, ?_⟩)))
    (case sa3 => first | k_is | rfl | decide +kernel | k_exc | kernel_rfl | (repeat (first | exact True.intro | refine ⟨⟨_, _, rfl, rfl⟩, ?_⟩)))
    (case n3_blocks => first | k_is | rfl | decide +kernel | k_exc | kernel_rfl | (repeat (first | exact True.intro | refine ⟨⟨_, _, rfl, rfl⟩, ?_⟩)))
    (case n3_handed => first | k_is | rfl | decide +kernel | k_exc | kernel_rfl | (repeat (first | exact True.intro | refine ⟨⟨_, _, rfl, rfl⟩, ?_⟩)))
    (case n3_many => first | k_is | rfl | decide +kernel | k_exc | kernel_rfl | (repeat (first | exact True.intro | refine ⟨⟨_, _, rfl, rfl⟩, ?_⟩)))
    (case n3_span => first | k_is | rfl | decide +kernel | k_exc | kernel_rfl | (repeat (first | exact True.intro | refine ⟨⟨_, _, rfl, rfl⟩, ?_⟩)))
    (case em2 => first | k_is | rfl | decide +kernel | k_exc | kernel_rfl | (repeat (first | exact True.intro | refine ⟨⟨_, _, rfl, rfl⟩, ?_⟩)))
    (case kx2 => first | k_is | rfl | decide +kernel | k_exc | kernel_rfl | (repeat (first | exact True.intro | refine ⟨⟨_, _, rfl, rfl⟩, ?_⟩)))
    (case ex2 => first | k_is | rfl | decide +kernel | k_exc | kernel_rfl | (repeat (first | exact True.intro | refine ⟨⟨_, _, rfl, rfl⟩, ?_⟩)))
    (case ty2 => first | k_is | rfl | decide +kernel | k_exc | kernel_rfl | (repeat (first | exact True.intro | refine ⟨⟨_, _, rfl, rfl⟩, ?_⟩)))
    (case i27 => first | k_is | rfl | decide +kernel | k_exc | kernel_rfl | (repeat (first | exact True.intro | refine ⟨⟨_, _, rfl, rfl⟩, ?_⟩)))
    (case i25 => first | k_is | rfl | decide +kernel | k_exc | kernel_rfl | (repeat (first | exact True.intro | refine ⟨⟨_, _, rfl, rfl⟩, ?_⟩)))
    (case i26 => first | k_is | rfl | decide +kernel | k_exc | kernel_rfl | (repeat (first | exact True.intro | refine ⟨⟨_, _, rfl, rfl⟩, ?_⟩)))
    (case i24 => first | k_is | rfl | decide +kernel | k_exc | kernel_rfl | (repeat (first | exact True.intro | refine ⟨⟨_, _, rfl, rfl⟩, ?_⟩)))
    (case pgt28 => first | k_is | rfl | decide +kernel | k_exc | kernel_rfl | (repeat (first | exact True.intro | refine ⟨⟨_, _, rfl, rfl⟩, ?_⟩)))
    (case ptk28 => first | k_is | rfl | decide +kernel | k_exc | kernel_rfl | (repeat (first | exact True.intro | refine ⟨⟨_, _, rfl, rfl⟩, ?_⟩)))
    (case i20 => first | k_is | rfl | decide +kernel | k_exc | kernel_rfl | (repeat (first | exact True.intro | refine ⟨⟨_, _, rfl, rfl⟩, ?_⟩)))
    (case ne3 => first | k_is | rfl | decide +kernel | k_exc | kernel_rfl | (repeat (first | exact True.intro | refine ⟨⟨_, _, rfl, rfl⟩, ?_⟩)))
    (case mo3 => first | k_is | rfl | decide +kernel | k_exc | kernel_rfl | (repeat (first | exact True.intro | refine ⟨⟨_, _, rfl, rfl⟩, ?_⟩)))
    (case fi22 => first | k_is | rfl | decide +kernel | k_exc | kernel_rfl | (repeat (first | exact True.intro | refine ⟨⟨_, _, rfl, rfl⟩, ?_⟩)))
    (case i22 => first | k_is | rfl | decide +kernel | k_exc | kernel_rfl | (repeat (first | exact True.intro | refine ⟨⟨_, _, rfl, rfl⟩, ?_⟩)))
    (case i21 => first | k_is | rfl | decide +kernel | k_exc | kernel_rfl | (repeat (first | exact True.intro | refine ⟨⟨_, _, rfl, rfl⟩, ?_⟩)))
    (case kt3_NoneType => first | k_is | rfl | decide +kernel | k_exc | kernel_rfl | (repeat (first | exact True.intro | refine ⟨⟨_, _, rfl, rfl⟩, ?_⟩)))
    (case kt3_bool => first | k_is | rfl | decide +kernel | k_exc | kernel_rfl | (repeat (first | exact True.intro | refine ⟨⟨_, _, rfl, rfl⟩, ?_⟩)))
    (case kt3_int => first | k_is | rfl | decide +kernel | k_exc | kernel_rfl | (repeat (first | exact True.intro | refine ⟨⟨_, _, rfl, rfl⟩, ?_⟩)))
    (case kt3_str => first | k_is | rfl | decide +kernel | k_exc | kernel_rfl | (repeat (first | exact True.intro | refine ⟨⟨_, _, rfl, rfl⟩, ?_⟩)))
    (case kt3_tuple => first | k_is | rfl | decide +kernel | k_exc | kernel_rfl | (repeat (first | exact True.intro | refine ⟨⟨_, _, rfl, rfl⟩, ?_⟩)))
    (case kt3_list => first | k_is | rfl | decide +kernel | k_exc | kernel_rfl | (repeat (first | exact True.intro | refine ⟨⟨_, _, rfl, rfl⟩, ?_⟩)))
    (case kt3_dict => first | k_is | rfl | decide +kernel | k_exc | kernel_rfl | (repeat (first | exact True.intro | refine ⟨⟨_, _, rfl, rfl⟩, ?_⟩)))
    (case ca3 => first | k_is | rfl | decide +kernel | k_exc | kernel_rfl | (repeat (first | exact True.intro | refine ⟨⟨_, _, rfl, rfl⟩, ?_⟩)))
    (case spc => first | k_is | rfl | decide +kernel | k_exc | kernel_rfl | (repeat (first | exact True.intro | refine ⟨⟨_, _, rfl, rfl⟩, ?_⟩)))
    (case tkc => first | k_is | rfl | decide +kernel | k_exc | kernel_rfl | (repeat (first | exact True.intro | refine ⟨⟨_, _, rfl, rfl⟩, ?_⟩)))
    (case kk3_3 => first | k_is | rfl | decide +kernel | k_exc | kernel_rfl | (repeat (first | exact True.intro | refine ⟨⟨_, _, rfl, rfl⟩, ?_⟩)))
    (case np1 => first | k_is | rfl | decide +kernel | k_exc | kernel_rfl | (repeat (first | exact True.intro | refine ⟨⟨_, _, rfl, rfl⟩, ?_⟩)))
    (case ex1 => first | k_is | rfl | decide +kernel | k_exc | kernel_rfl | (repeat (first | exact True.intro | refine ⟨⟨_, _, rfl, rfl⟩, ?_⟩)))
    (case xL1 => first | k_is | rfl | decide +kernel | k_exc | kernel_rfl | (repeat (first | exact True.intro | refine ⟨⟨_, _, rfl, rfl⟩, ?_⟩)))
    (case sx1 => first | k_is | rfl | decide +kernel | k_exc | kernel_rfl | (repeat (first | exact True.intro | refine ⟨⟨_, _, rfl, rfl⟩, ?_⟩)))
    (case iC1 => first | k_is | rfl | decide +kernel | k_exc | kernel_rfl | (repeat (first | exact True.intro | refine ⟨⟨_, _, rfl, rfl⟩, ?_⟩)))
    (case tI1 => first | k_is | rfl | decide +kernel | k_exc | kernel_rfl | (repeat (first | exact True.intro | refine ⟨⟨_, _, rfl, rfl⟩, ?_⟩)))
    (case kx1 => first | k_is | rfl | decide +kernel | k_exc | kernel_rfl | (repeat (first | exact True.intro | refine ⟨⟨_, _, rfl, rfl⟩, ?_⟩)))
    (case ty1 => first | k_is | rfl | decide +kernel | k_exc | kernel_rfl | (repeat (first | exact True.intro | refine ⟨⟨_, _, rfl, rfl⟩, ?_⟩)))
    (case sv1 => first | k_is | rfl | decide +kernel | k_exc | kernel_rfl | (repeat (first | exact True.intro | refine ⟨⟨_, _, rfl, rfl⟩, ?_⟩)))
    (case su1 => first | k_is | rfl | decide +kernel | k_exc | kernel_rfl | (repeat (first | exact True.intro | refine ⟨⟨_, _, rfl, rfl⟩, ?_⟩)))
    (case mc1 => first | k_is | rfl | decide +kernel | k_exc | kernel_rfl | (repeat (first | exact True.intro | refine ⟨⟨_, _, rfl, rfl⟩, ?_⟩)))
    (case opq => first | k_is | rfl | decide +kernel | k_exc | kernel_rfl | (repeat (first | exact True.intro | refine ⟨⟨_, _, rfl, rfl⟩, ?_⟩)))
    (case zsup => first | k_is | rfl | decide +kernel | k_exc | kernel_rfl | (repeat (first | exact True.intro | refine ⟨⟨_, _, rfl, rfl⟩, ?_⟩)))
    (case lI1 => first | k_is | rfl | decide +kernel | k_exc | kernel_rfl | (repeat (first | exact True.intro | refine ⟨⟨_, _, rfl, rfl⟩, ?_⟩)))
    (case cI1 => first | k_is | rfl | decide +kernel | k_exc | kernel_rfl | (repeat (first | exact True.intro | refine ⟨⟨_, _, rfl, rfl⟩, ?_⟩)))
    (case lc1 => first | k_is | rfl | decide +kernel | k_exc | kernel_rfl | (repeat (first | exact True.intro | refine ⟨⟨_, _, rfl, rfl⟩, ?_⟩)))
    (case hv1 => first | k_is | rfl | decide +kernel | k_exc | kernel_rfl | (repeat (first | exact True.intro | refine ⟨⟨_, _, rfl, rfl⟩, ?_⟩)))
    (case hf1 => first | k_is | rfl | decide +kernel | k_exc | kernel_rfl | (repeat (first | exact True.intro | refine ⟨⟨_, _, rfl, rfl⟩, ?_⟩)))
    (case le1 => first | k_is | rfl | decide +kernel | k_exc | kernel_rfl | (repeat (first | exact True.intro | refine ⟨⟨_, _, rfl, rfl⟩, ?_⟩)))
    (case lT1 => first | k_is | rfl | decide +kernel | k_exc | kernel_rfl | (repeat (first | exact True.intro | refine ⟨⟨_, _, rfl, rfl⟩, ?_⟩)))
    (case oT1' => first | k_is | rfl | decide +kernel | k_exc | kernel_rfl | (repeat (first | exact True.intro | refine ⟨⟨_, _, rfl, rfl⟩, ?_⟩)))
    (case htop => first | k_is | rfl | decide +kernel | k_exc | kernel_rfl | (repeat (first | exact True.intro | refine ⟨⟨_, _, rfl, rfl⟩, ?_⟩)))
    (case at_ENDS => first | k_is | rfl | decide +kernel | k_exc | kernel_rfl | (repeat (first | exact True.intro | refine ⟨⟨_, _, rfl, rfl⟩, ?_⟩)))
    (case lt_ENDS => first | k_is | rfl | decide +kernel | k_exc | kernel_rfl | (repeat (first | exact True.intro | refine ⟨⟨_, _, rfl, rfl⟩, ?_⟩)))
    (case kl_ENDS => first | k_is | rfl | decide +kernel | k_exc | kernel_rfl | (repeat (first | exact True.intro | refine ⟨⟨_, _, rfl, rfl⟩, ?_⟩)))
    (case lo_ENDS => first | k_is | rfl | decide +kernel | k_exc | kernel_rfl | (repeat (first | exact True.intro | refine ⟨⟨_, _, rfl, rfl⟩, ?_⟩)))
    (case ok_ENDS => first | k_is | rfl | decide +kernel | k_exc | kernel_rfl | (repeat (first | exact True.intro | refine ⟨⟨_, _, rfl, rfl⟩, ?_⟩)))
    (case at_ROWS => first | k_is | rfl | decide +kernel | k_exc | kernel_rfl | (repeat (first | exact True.intro | refine ⟨⟨_, _, rfl, rfl⟩, ?_⟩)))
    (case lt_ROWS => first | k_is | rfl | decide +kernel | k_exc | kernel_rfl | (repeat (first | exact True.intro | refine ⟨⟨_, _, rfl, rfl⟩, ?_⟩)))
    (case kl_ROWS => first | k_is | rfl | decide +kernel | k_exc | kernel_rfl | (repeat (first | exact True.intro | refine ⟨⟨_, _, rfl, rfl⟩, ?_⟩)))
    (case lo_ROWS => first | k_is | rfl | decide +kernel | k_exc | kernel_rfl | (repeat (first | exact True.intro | refine ⟨⟨_, _, rfl, rfl⟩, ?_⟩)))
    (case ok_ROWS => first | k_is | rfl | decide +kernel | k_exc | kernel_rfl | (repeat (first | exact True.intro | refine ⟨⟨_, _, rfl, rfl⟩, ?_⟩)))
#print axioms PySem.Challenge.cw_registerrooms_k01_whole_programs_holds
