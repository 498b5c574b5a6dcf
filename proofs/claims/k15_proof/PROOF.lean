import PyProof.Rows.All
import Wide.All
import OpenK.AllK
import Wide.FinOn
import HandS.ForMost
import HandS.ForExc
import HandS.Evl
import HandS.TupAny
import HandS.TupMul
import HandS.IsInst
import HandS.Wide
import HandS.Property
import HandS.MakeKwOnly
import HandS.Conv
import HandS.Codes
import KE.GoesMore
import KE.GoesEnum
import HandS.More
import HandS.WordsDict
import KE.KExcSuper
import KE.KExcInit
import HandS.ExcInit
import HandS.ExcSuper
import HandS.FStr
import HandS.ExcOwn
import HandS.WordsExc
import HandS.ExcIs
import KE.KExcIs
import HandS.Defaults
import HandS.Iter
import KE.GoesNew
import HandS.DictComp
import PyProof.EnumMake
import HandS.SortInts
import HandS.Deep
import KE.KSortedM
import PyProof.InstNe
import HandS.Lambda
import HandS.EndTab
import PySem.Challenge.RW_registerrooms_k15_whole_refused_single
set_option Elab.async false
set_option linter.all false
set_option maxRecDepth 100000
set_option maxHeartbeats 4000000
namespace VL
open PySem PySem.Spec
open PyProof.Rows L2
open Evl (Ex sz_of)

/-- data -/
inductive D where
  | non | bl (b : Bool) | int (i : Int) | str (x : Str)
  | tup (xs : List D) | lst (xs : List D)
  | dic (kvs : List (Key × D))
  | ins (c : Nat) (fs : List (Str × D))
  | scr (ns : List Int)
  deriving Inhabited

/-! ### heaps grow: the library's Evl.Ex -/
theorem _root_.Evl.Ex.rd {H H' : Hp} {a : Addr} {u : HO} (e : Ex H H') (h : Rd H a u) : Rd H' a u := by
  rcases h with h | ⟨o, h⟩
  · exact Or.inl (e a _ h)
  · exact Or.inr ⟨o, e a _ h⟩
theorem _root_.Evl.Ex.l {K : PySem.W.Frag} {H H' : Hp} {a : Addr} {xs : List V} (e : Ex H H') (h : SqL K H a xs) : SqL K H' a xs := by
  rcases h with h | h
  · exact Or.inl (e.rd h)
  · exact Or.inr h
theorem _root_.Evl.Ex.t {K : PySem.W.Frag} {H H' : Hp} {a : Addr} {xs : List V} (e : Ex H H') (h : SqT K H a xs) : SqT K H' a xs := by
  rcases h with h | h
  · exact Or.inl (e.rd h)
  · exact Or.inr h
theorem _root_.Evl.Ex.back {H H' : Hp} {p : Addr} (e : Ex H H') (h : H' p = none) : H p = none := by
  cases h1 : H p with
  | none => rfl
  | some o =>
    rw [e p o h1] at h
    cases h

/-- the written part, the classes by number -/
structure Cn where
  K : PySem.W.Frag
  cls : Nat → Addr

/-! ### what a value stands for -/
mutual
def Rep (G : Cn) (H : Hp) : V → D → Prop
  | v, .non => v = .non
  | v, .bl b => v = .bl b
  | v, .int i => v = .int i
  | v, .str x => v = .str x
  | v, .tup ds => ∃ a vs, v = .ref a ∧ H a = some (.tup vs) ∧ Reps G H vs ds
  | v, .lst ds => ∃ a vs, v = .ref a ∧ H a = some (.lst vs) ∧ Reps G H vs ds
  | v, .dic kds => ∃ a kvs, v = .ref a ∧ H a = some (.dK kvs) ∧ RepsK G H kvs kds
  | v, .ins c fds => ∃ a dx fvs, v = .ref a ∧ H a = some (.ins (G.cls c) dx fvs) ∧ RepsF G H fvs fds
  | v, .scr ns => ∃ a, v = .ref a ∧ SqL G.K H a (ns.map V.int)
def Reps (G : Cn) (H : Hp) : List V → List D → Prop
  | vs, [] => vs = []
  | vs, d :: ds => ∃ v r, vs = v :: r ∧ Rep G H v d ∧ Reps G H r ds
def RepsK (G : Cn) (H : Hp) : List (Key × V) → List (Key × D) → Prop
  | kvs, [] => kvs = []
  | kvs, (k, d) :: ds => ∃ v r, kvs = (k, v) :: r ∧ Rep G H v d ∧ RepsK G H r ds
def RepsF (G : Cn) (H : Hp) : List (Str × V) → List (Str × D) → Prop
  | kvs, [] => kvs = []
  | kvs, (k, d) :: ds => ∃ v r, kvs = (k, v) :: r ∧ Rep G H v d ∧ RepsF G H r ds
end
section
variable {G : Cn} {H H' : Hp}
mutual
theorem Rep.mono (e : Ex H H') : ∀ {v : V} (d : D), Rep G H v d → Rep G H' v d
  | _, .non, h => h
  | _, .bl _, h => h
  | _, .int _, h => h
  | _, .str _, h => h
  | _, .scr _, h => by
    unfold Rep at h ⊢
    obtain ⟨a, e1, e2⟩ := h
    exact ⟨a, e1, e.l e2⟩
  | _, .tup ds, h => by
    unfold Rep at h ⊢
    obtain ⟨a, vs, e1, e2, e3⟩ := h
    exact ⟨a, vs, e1, e _ _ e2, Reps.mono e ds e3⟩
  | _, .lst ds, h => by
    unfold Rep at h ⊢
    obtain ⟨a, vs, e1, e2, e3⟩ := h
    exact ⟨a, vs, e1, e _ _ e2, Reps.mono e ds e3⟩
  | _, .dic ds, h => by
    unfold Rep at h ⊢
    obtain ⟨a, vs, e1, e2, e3⟩ := h
    exact ⟨a, vs, e1, e _ _ e2, RepsK.mono e ds e3⟩
  | _, .ins c ds, h => by
    unfold Rep at h ⊢
    obtain ⟨a, dx, vs, e1, e2, e3⟩ := h
    exact ⟨a, dx, vs, e1, e _ _ e2, RepsF.mono e ds e3⟩
theorem Reps.mono (e : Ex H H') : ∀ {vs : List V} (ds : List D), Reps G H vs ds → Reps G H' vs ds
  | _, [], h => h
  | _, d :: ds, h => by
    unfold Reps at h ⊢
    obtain ⟨v, r, e1, e2, e3⟩ := h
    exact ⟨v, r, e1, Rep.mono e d e2, Reps.mono e ds e3⟩
theorem RepsK.mono (e : Ex H H') : ∀ {vs : List (Key × V)} (ds : List (Key × D)), RepsK G H vs ds → RepsK G H' vs ds
  | _, [], h => h
  | _, (k, d) :: ds, h => by
    unfold RepsK at h ⊢
    obtain ⟨v, r, e1, e2, e3⟩ := h
    exact ⟨v, r, e1, Rep.mono e d e2, RepsK.mono e ds e3⟩
theorem RepsF.mono (e : Ex H H') : ∀ {vs : List (Str × V)} (ds : List (Str × D)), RepsF G H vs ds → RepsF G H' vs ds
  | _, [], h => h
  | _, (k, d) :: ds, h => by
    unfold RepsF at h ⊢
    obtain ⟨v, r, e1, e2, e3⟩ := h
    exact ⟨v, r, e1, Rep.mono e d e2, RepsF.mono e ds e3⟩
end
theorem Reps.cons {v : V} {vs : List V} {d : D} {ds : List D} (h : Rep G H v d) (t : Reps G H vs ds) : Reps G H (v :: vs) (d :: ds) := by
  unfold Reps
  exact ⟨v, vs, rfl, h, t⟩
theorem Reps.nil : Reps G H [] [] := by
  unfold Reps
  rfl
theorem Reps.of_nil {vs : List V} (h : Reps G H vs []) : vs = [] := by
  unfold Reps at h
  exact h
theorem Reps.of_cons {vs : List V} {d : D} {ds : List D} (h : Reps G H vs (d :: ds)) : ∃ v r, vs = v :: r ∧ Rep G H v d ∧ Reps G H r ds := by
  unfold Reps at h
  exact h
theorem Reps.length : ∀ {vs : List V} {ds : List D}, Reps G H vs ds → vs.length = ds.length
  | _, [], h => by
    rw [h.of_nil]
    rfl
  | _, d :: ds, h => by
    obtain ⟨v, r, rfl, _, t⟩ := h.of_cons
    rw [List.length_cons, List.length_cons, Reps.length t]
theorem Reps.get : ∀ {vs : List V} {ds : List D} {i : Nat} {d : D}, Reps G H vs ds → ds[i]? = some d → ∃ v, vs[i]? = some v ∧ Rep G H v d
  | _, [], i, d, h, e => by simp at e
  | _, d' :: ds, 0, d, h, e => by
    obtain ⟨v, r, rfl, q, t⟩ := h.of_cons
    have e' : d' = d := by simpa using e
    subst e'
    exact ⟨v, rfl, q⟩
  | _, d' :: ds, i + 1, d, h, e => by
    obtain ⟨v, r, rfl, q, t⟩ := h.of_cons
    obtain ⟨u, h1, h2⟩ := Reps.get (i := i) (d := d) t (by simpa using e)
    refine ⟨u, ?_, h2⟩
    simpa using h1
theorem Reps.get' : ∀ {vs : List V} {ds : List D} {i : Nat} {v : V}, Reps G H vs ds → vs[i]? = some v → ∃ d, ds[i]? = some d ∧ Rep G H v d := fun {vs ds i v} h e => by
  have l := h.length
  have hi := (List.getElem?_eq_some_iff.mp e).1
  obtain ⟨d, hd⟩ : ∃ d, ds[i]? = some d := ⟨ds[i]'(by omega), List.getElem?_eq_getElem (by omega)⟩
  obtain ⟨u, h1, h2⟩ := h.get hd
  rw [e] at h1
  cases h1
  exact ⟨d, hd, h2⟩
theorem Reps.append : ∀ {vs ws : List V} {ds es : List D}, Reps G H vs ds → Reps G H ws es → Reps G H (vs ++ ws) (ds ++ es)
  | _, _, [], _, h, t => by
    rw [h.of_nil]
    exact t
  | _, _, d :: ds, _, h, t => by
    obtain ⟨v, r, rfl, q, u⟩ := h.of_cons
    exact Reps.cons q (Reps.append u t)
theorem Reps.take : ∀ {vs : List V} {ds : List D} (n : Nat), Reps G H vs ds → Reps G H (vs.take n) (ds.take n)
  | _, _, 0, _ => by simpa using Reps.nil
  | _, [], n + 1, h => by
    rw [h.of_nil]
    simpa using Reps.nil
  | _, d :: ds, n + 1, h => by
    obtain ⟨v, r, rfl, q, u⟩ := h.of_cons
    simpa using Reps.cons q (Reps.take n u)
theorem Reps.drop : ∀ {vs : List V} {ds : List D} (n : Nat), Reps G H vs ds → Reps G H (vs.drop n) (ds.drop n)
  | _, _, 0, h => by simpa using h
  | _, [], n + 1, h => by
    rw [h.of_nil]
    simpa using Reps.nil
  | _, d :: ds, n + 1, h => by
    obtain ⟨v, r, rfl, q, u⟩ := h.of_cons
    simpa using Reps.drop n u
theorem Reps.reverse : ∀ {vs : List V} {ds : List D}, Reps G H vs ds → Reps G H vs.reverse ds.reverse
  | _, [], h => by
    rw [h.of_nil]
    exact Reps.nil
  | _, d :: ds, h => by
    obtain ⟨v, r, rfl, q, u⟩ := h.of_cons
    simp only [List.reverse_cons]
    exact (Reps.reverse u).append (Reps.cons q Reps.nil)
theorem Reps.erase : ∀ {vs : List V} {ds : List D} (n : Nat), Reps G H vs ds → Reps G H (vs.eraseIdx n) (ds.eraseIdx n)
  | _, [], n, h => by
    rw [h.of_nil]
    simpa using Reps.nil
  | _, d :: ds, 0, h => by
    obtain ⟨v, r, rfl, q, u⟩ := h.of_cons
    simpa using u
  | _, d :: ds, n + 1, h => by
    obtain ⟨v, r, rfl, q, u⟩ := h.of_cons
    simpa using Reps.cons q (Reps.erase n u)
theorem Reps.set {v : V} {d : D} (q : Rep G H v d) : ∀ {vs : List V} {ds : List D} (n : Nat), Reps G H vs ds → Reps G H (vs.set n v) (ds.set n d)
  | _, [], n, h => by
    rw [h.of_nil]
    simpa using Reps.nil
  | _, d' :: ds, 0, h => by
    obtain ⟨v, r, rfl, _, u⟩ := h.of_cons
    simpa using Reps.cons q u
  | _, d' :: ds, n + 1, h => by
    obtain ⟨v, r, rfl, q', u⟩ := h.of_cons
    simpa using Reps.cons q' (Reps.set q n u)
theorem Reps.one {v : V} {d : D} (q : Rep G H v d) : Reps G H [v] [d] := Reps.cons q Reps.nil
end
end VL

namespace VL
open PySem PySem.Spec
open PyProof.Rows L2
open Evl (Ex sz_of)

/-- what a slot holds, what an expression gives: data, or an object that nobody else knows -/
inductive O where
  | val (d : D) | lst (ds : List D) | dic (kds : List (Key × D)) | ins (c : Nat) (fs : List (Str × D)) | ll (dss : List (List D))
  deriving Inhabited
def O.frz : O → D
  | .val d => d
  | .lst ds => .lst ds
  | .dic k => .dic k
  | .ins c f => .ins c f
  | .ll dss => .lst (dss.map .lst)
def O.isOwn : O → Bool
  | .val _ => false
  | _ => true
abbrev Rho := List (Option O)
inductive Rs (A : Type) where
  | ok (o : A) | ex (c : Nat) (fs : Option (List (Str × D)))
abbrev Res := Rs O
abbrev M := Rho → Option (Res × Rho)

def RepLL (G : Cn) (F H : Hp) : List Addr → List (List D) → Prop
  | bs, [] => bs = []
  | bs, ds :: dss => ∃ b r vs, bs = b :: r ∧ F b = none ∧ H b = some (.lst vs) ∧ Reps G F vs ds ∧ RepLL G F H r dss
def RepO (G : Cn) (F H : Hp) (β : List Addr) (v : V) : O → Prop
  | .val d => β = [] ∧ Rep G F v d
  | .lst ds => ∃ a vs, v = .ref a ∧ β = [a] ∧ F a = none ∧ H a = some (.lst vs) ∧ Reps G F vs ds
  | .dic kds => ∃ a kvs, v = .ref a ∧ β = [a] ∧ F a = none ∧ H a = some (.dK kvs) ∧ RepsK G F kvs kds
  | .ins c fds => ∃ a dx fvs, v = .ref a ∧ β = [a, dx] ∧ dx ≠ a ∧ F a = none ∧ F dx = none ∧ H a = some (.ins (G.cls c) dx fvs) ∧ H dx = some (.own a) ∧ RepsF G F fvs fds
  | .ll dss => ∃ a bs, v = .ref a ∧ β = a :: bs ∧ (a :: bs).Nodup ∧ F a = none ∧ H a = some (.lst (bs.map V.ref)) ∧ RepLL G F H bs dss

abbrev Al := Nat → List Addr
def Own (α : Al) (a : Addr) : Prop := ∃ i, a ∈ α i

section
variable {G : Cn} {F F' H H' : Hp}
theorem RepLL.mem : ∀ {bs : List Addr} {dss : List (List D)}, RepLL G F H bs dss → ∀ b ∈ bs, F b = none ∧ ∃ o, H b = some o
  | _, [], h, b, hb => by
    unfold RepLL at h
    subst h
    cases hb
  | _, ds :: dss, h, b, hb => by
    unfold RepLL at h
    obtain ⟨c, r, vs, rfl, e1, e2, _, t⟩ := h
    rcases List.mem_cons.mp hb with rfl | hb
    · exact ⟨e1, _, e2⟩
    · exact RepLL.mem t b hb
theorem RepLL.move (e : Ex F F') : ∀ {bs : List Addr} {dss : List (List D)}, RepLL G F H bs dss → (∀ b ∈ bs, F' b = none) → (∀ b ∈ bs, ∀ o, H b = some o → H' b = some o) → RepLL G F' H' bs dss
  | _, [], h, _, _ => h
  | _, ds :: dss, h, h1, h2 => by
    unfold RepLL at h ⊢
    obtain ⟨c, r, vs, rfl, e1, e2, e3, t⟩ := h
    exact ⟨c, r, vs, rfl, h1 c List.mem_cons_self, h2 c List.mem_cons_self _ e2, e3.mono e, RepLL.move e t (fun b hb => h1 b (List.mem_cons_of_mem _ hb)) fun b hb => h2 b (List.mem_cons_of_mem _ hb)⟩
theorem RepLL.reps (e : Ex F F') : ∀ {bs : List Addr} {dss : List (List D)}, RepLL G F H bs dss → (∀ b ∈ bs, ∀ o, H b = some o → F' b = some o) → Reps G F' (bs.map V.ref) (dss.map D.lst)
  | _, [], h, _ => by
    unfold RepLL at h
    subst h
    exact Reps.nil
  | _, ds :: dss, h, h2 => by
    unfold RepLL at h
    obtain ⟨c, r, vs, rfl, e1, e2, e3, t⟩ := h
    refine Reps.cons ?_ (RepLL.reps e t fun b hb => h2 b (List.mem_cons_of_mem _ hb))
    unfold Rep
    exact ⟨c, vs, rfl, h2 c List.mem_cons_self _ e2, e3.mono e⟩
theorem RepO.mem {β : List Addr} {v : V} {o : O} (h : RepO G F H β v o) : ∀ b ∈ β, F b = none ∧ ∃ u, H b = some u := by
  intro b hb
  cases o with
  | val d =>
    obtain ⟨rfl, _⟩ := h
    cases hb
  | lst ds =>
    obtain ⟨a, vs, rfl, rfl, e1, e2, _⟩ := h
    have : b = a := by simpa using hb
    subst this
    exact ⟨e1, _, e2⟩
  | dic ds =>
    obtain ⟨a, vs, rfl, rfl, e1, e2, _⟩ := h
    have : b = a := by simpa using hb
    subst this
    exact ⟨e1, _, e2⟩
  | ins c fs =>
    obtain ⟨a, dx, vs, rfl, rfl, _, e1, e2, e3, e4, _⟩ := h
    have : b = a ∨ b = dx := by simpa using hb
    rcases this with rfl | rfl
    · exact ⟨e1, _, e3⟩
    · exact ⟨e2, _, e4⟩
  | ll dss =>
    obtain ⟨a, bs, rfl, rfl, _, e1, e2, t⟩ := h
    rcases List.mem_cons.mp hb with rfl | hb
    · exact ⟨e1, _, e2⟩
    · exact t.mem b hb
theorem RepO.move {β : List Addr} {v : V} {o : O} (e : Ex F F') (h : RepO G F H β v o) (h1 : ∀ b ∈ β, F' b = none) (h2 : ∀ b ∈ β, ∀ u, H b = some u → H' b = some u) : RepO G F' H' β v o := by
  cases o with
  | val d => exact ⟨h.1, h.2.mono e⟩
  | lst ds =>
    obtain ⟨a, vs, rfl, rfl, e1, e2, e3⟩ := h
    exact ⟨a, vs, rfl, rfl, h1 a (by simp), h2 a (by simp) _ e2, e3.mono e⟩
  | dic ds =>
    obtain ⟨a, vs, rfl, rfl, e1, e2, e3⟩ := h
    exact ⟨a, vs, rfl, rfl, h1 a (by simp), h2 a (by simp) _ e2, e3.mono e⟩
  | ins c fs =>
    obtain ⟨a, dx, vs, rfl, rfl, ne, e1, e2, e3, e4, e5⟩ := h
    exact ⟨a, dx, vs, rfl, rfl, ne, h1 a (by simp), h1 dx (by simp), h2 a (by simp) _ e3, h2 dx (by simp) _ e4, e5.mono e⟩
  | ll dss =>
    obtain ⟨a, bs, rfl, rfl, nd, e1, e2, t⟩ := h
    exact ⟨a, bs, rfl, rfl, nd, h1 a (by simp), h2 a (by simp) _ e2, t.move e (fun b hb => h1 b (List.mem_cons_of_mem _ hb)) fun b hb => h2 b (List.mem_cons_of_mem _ hb)⟩
/-- frozen -/
theorem RepO.frz {β : List Addr} {v : V} {o : O} (e : Ex F F') (h : RepO G F H β v o) (h2 : ∀ b ∈ β, ∀ u, H b = some u → F' b = some u) : Rep G F' v o.frz := by
  cases o with
  | val d => exact h.2.mono e
  | lst ds =>
    obtain ⟨a, vs, rfl, rfl, e1, e2, e3⟩ := h
    unfold O.frz Rep
    exact ⟨a, vs, rfl, h2 a (by simp) _ e2, e3.mono e⟩
  | dic ds =>
    obtain ⟨a, vs, rfl, rfl, e1, e2, e3⟩ := h
    unfold O.frz Rep
    exact ⟨a, vs, rfl, h2 a (by simp) _ e2, e3.mono e⟩
  | ins c fs =>
    obtain ⟨a, dx, vs, rfl, rfl, ne, e1, e2, e3, e4, e5⟩ := h
    unfold O.frz Rep
    exact ⟨a, dx, vs, rfl, h2 a (by simp) _ e3, e5.mono e⟩
  | ll dss =>
    obtain ⟨a, bs, rfl, rfl, nd, e1, e2, t⟩ := h
    unfold O.frz Rep
    exact ⟨a, _, rfl, h2 a (by simp) _ e2, t.reps e fun b hb => h2 b (List.mem_cons_of_mem _ hb)⟩
end

/-! ### states -/
structure Ste (G : Cn) (F H : Hp) (σ : L2.St) (ρ : Rho) (α : Al) : Prop where
  ex : Ex F H
  len : σ.length = ρ.length
  slot : ∀ (i : Nat) o, ρ[i]? = some (some o) → ∃ v, σ[i]? = some (some v) ∧ RepO G F H (α i) v o
  off : ∀ (i : Nat), (∀ o, ρ[i]? ≠ some (some o)) → α i = []
  dis : ∀ i j a, i ≠ j → a ∈ α i → a ∉ α j
/-- a step: what is frozen grows, what is neither frozen nor owned stays -/
structure Stp (A : Addr → Prop) (F H F' H' : Hp) : Prop where
  exF : Ex F F'
  keep : ∀ b o, H b = some o → ¬ A b → H' b = some o
  newF : ∀ b o, F' b = some o → F b = some o ∨ H b = none ∨ A b
def New (A : Addr → Prop) (H : Hp) (A' : Addr → Prop) : Prop := ∀ a, A' a → A a ∨ H a = none

section
variable {G : Cn} {F F1 F2 H H1 H2 : Hp} {A A1 A2 : Addr → Prop} {σ : L2.St} {ρ : Rho} {α : Al}
theorem Stp.refl : Stp A F H F H := ⟨Ex.refl F, fun _ _ h _ => h, fun _ _ h => .inl h⟩
theorem New.refl : New A H A := fun _ h => .inl h
theorem Stp.trans (a : Stp A F H F1 H1) (b : Stp A1 F1 H1 F2 H2) (n : New A H A1) : Stp A F H F2 H2 where
  exF := a.exF.trans b.exF
  keep := fun c o h nA => b.keep c o (a.keep c o h nA) fun z => by
    rcases n c z with z | z
    · exact nA z
    · rw [h] at z; cases z
  newF := fun c o h => by
    by_cases hA : A c
    · exact .inr (.inr hA)
    · cases e : H c with
      | none => exact .inr (.inl rfl)
      | some u =>
        have k := a.keep c u e hA
        rcases b.newF c o h with z | z | z
        · rcases a.newF c o z with y | y | y
          · exact .inl y
          · rw [e] at y; cases y
          · exact absurd y hA
        · rw [k] at z; cases z
        · rcases n c z with y | y
          · exact absurd y hA
          · rw [e] at y; cases y
theorem New.trans (a : Stp A F H F1 H1) (n : New A H A1) (m : New A1 H1 A2) : New A H A2 := fun c h => by
  rcases m c h with z | z
  · exact n c z
  · by_cases hA : A c
    · exact .inl hA
    · cases e : H c with
      | none => exact .inr rfl
      | some u =>
        rw [a.keep c u e hA] at z
        cases z
theorem Ste.own (S : Ste G F H σ ρ α) {a : Addr} (h : Own α a) : F a = none ∧ ∃ o, H a = some o := by
  obtain ⟨i, hi⟩ := h
  by_cases q : ∃ o, ρ[i]? = some (some o)
  · obtain ⟨o, ho⟩ := q
    obtain ⟨v, _, r⟩ := S.slot i o ho
    exact r.mem a hi
  · rw [S.off i fun o e => q ⟨o, e⟩] at hi
    cases hi
theorem Ste.fresh (S : Ste G F H σ ρ α) {p : Addr} (h : H p = none) : F p = none := S.ex.back h
theorem Ste.notown (S : Ste G F H σ ρ α) {p : Addr} (h : H p = none) : ¬ Own α p := fun z => by
  obtain ⟨_, o, e⟩ := S.own z
  rw [h] at e
  cases e
/-- a new frozen object -/
theorem Ste.laid (S : Ste G F H σ ρ α) {p : Addr} {o : HO} (h : H p = none) : Ste G (upd F p o) (upd H p o) σ ρ α where
  ex := fun a u e => by
    by_cases q : a = p
    · subst q
      rw [upd_same] at e ⊢
      exact e
    · rw [upd_ne q] at e ⊢
      exact S.ex a u e
  len := S.len
  slot := fun i x e => by
    obtain ⟨v, h1, r⟩ := S.slot i x e
    refine ⟨v, h1, r.move (Ex.new (S.fresh h)) (fun b hb => ?_) fun b hb u e => ?_⟩
    · rw [upd_ne fun z => S.notown h ⟨i, by rw [← z]; exact hb⟩]
      exact (r.mem b hb).1
    · rw [upd_ne fun z => S.notown h ⟨i, by rw [← z]; exact hb⟩]
      exact e
  off := S.off
  dis := S.dis
theorem Ste.laidStp (S : Ste G F H σ ρ α) {p : Addr} {o : HO} (h : H p = none) : Stp A F H (upd F p o) (upd H p o) where
  exF := Ex.new (S.fresh h)
  keep := fun b u e _ => by
    rw [upd_ne (ne_of_none e h)]
    exact e
  newF := fun b u e => by
    by_cases q : b = p
    · subst q
      exact .inr (.inl h)
    · rw [upd_ne q] at e
      exact .inl e
/-- a new object that is not frozen -/
theorem Ste.put (S : Ste G F H σ ρ α) {p : Addr} {o : HO} (h : H p = none) : Ste G F (upd H p o) σ ρ α where
  ex := S.ex.trans (Ex.new h)
  len := S.len
  slot := fun i x e => by
    obtain ⟨v, h1, r⟩ := S.slot i x e
    refine ⟨v, h1, r.move (Ex.refl F) (fun b hb => (r.mem b hb).1) fun b hb u e => ?_⟩
    rw [upd_ne fun z => S.notown h ⟨i, by rw [← z]; exact hb⟩]
    exact e
  off := S.off
  dis := S.dis
theorem Ste.putStp {p : Addr} {o : HO} (h : H p = none) : Stp A F H F (upd H p o) where
  exF := Ex.refl F
  keep := fun b u e _ => by
    rw [upd_ne (ne_of_none e h)]
    exact e
  newF := fun b u e => .inl e
/-- what stands at β is frozen -/
def frzH (F H : Hp) (β : List Addr) : Hp := fun a => if a ∈ β then H a else F a
theorem frz_in {β : List Addr} {a : Addr} (h : a ∈ β) : frzH F H β a = H a := if_pos h
theorem frz_out {β : List Addr} {a : Addr} (h : a ∉ β) : frzH F H β a = F a := if_neg h
theorem Ste.frz (S : Ste G F H σ ρ α) {β : List Addr} (hb : ∀ a ∈ β, ¬ Own α a) (hf : ∀ a ∈ β, F a = none) : Ste G (frzH F H β) H σ ρ α where
  ex := fun a o e => by
    by_cases q : a ∈ β
    · rw [frz_in q] at e
      exact e
    · rw [frz_out q] at e
      exact S.ex a o e
  len := S.len
  slot := fun i x e => by
    obtain ⟨v, h1, r⟩ := S.slot i x e
    refine ⟨v, h1, r.move (fun a o e => ?_) (fun b hb' => ?_) fun b hb' u e => e⟩
    · rw [frz_out fun z => by rw [hf a z] at e; cases e]
      exact e
    · rw [frz_out fun z => hb b z ⟨i, hb'⟩]
      exact (r.mem b hb').1
  off := S.off
  dis := S.dis
theorem frz_ex {β : List Addr} (hf : ∀ a ∈ β, F a = none) : Ex F (frzH F H β) := fun a o e => by
  rw [frz_out fun z => by rw [hf a z] at e; cases e]
  exact e
end

/-! ### what is wanted behind an expression -/
def PostG (G : Cn) (E : XK) (F H : Hp) (α : Al) {A : Type} (okP : A → Rho → Prop) : Option (Rs A × Rho) → Prop
  | none => False
  | some (.ok o, ρ') => okP o ρ'
  | some (.ex c none, _) => ∀ F' H', Stp (Own α) F H F' H' → E (.ref (G.cls c)) none H'
  | some (.ex c (some fs), _) => ∀ F' H' dd fvs, Stp (Own α) F H F' H' → H' dd = some (.xd fvs) → RepsF G F' fvs fs → E (.ref (G.cls c)) (some dd) H'
/-- an expression's value -/
def okV (G : Cn) (F H : Hp) (σ : L2.St) (α : Al) (Q : VK) (o : O) (ρ' : Rho) : Prop :=
  ∀ v F' H' α' β, Ste G F' H' σ ρ' α' → RepO G F' H' β v o → Stp (Own α) F H F' H' → (∀ a ∈ β, ¬ Own α' a) → New (Own α) H (fun a => Own α' a ∨ a ∈ β) → Q v H'
abbrev Post (G : Cn) (E : XK) (F H : Hp) (σ : L2.St) (α : Al) (r : Option (Res × Rho)) (Q : VK) : Prop := PostG G E F H α (okV G F H σ α Q) r
/-- an argument: data, or the object in a slot -/
inductive AI where
  | d (x : D) | io (i : Nat)
def RepA (G : Cn) (F : Hp) (σ : L2.St) : List V → List AI → Prop
  | vs, [] => vs = []
  | vs, .d x :: r => ∃ v ws, vs = v :: ws ∧ Rep G F v x ∧ RepA G F σ ws r
  | vs, .io i :: r => ∃ v ws, vs = v :: ws ∧ σ[i]? = some (some v) ∧ RepA G F σ ws r
def okA (G : Cn) (F H : Hp) (σ : L2.St) (α : Al) (Q : List V → Hp → Prop) (xs : List AI) (ρ' : Rho) : Prop :=
  ∀ vs F' H' α', Ste G F' H' σ ρ' α' → RepA G F' σ vs xs → Stp (Own α) F H F' H' → New (Own α) H (Own α') → Q vs H'
abbrev MA := Rho → Option (Rs (List AI) × Rho)
abbrev PostA (G : Cn) (E : XK) (F H : Hp) (σ : L2.St) (α : Al) (r : Option (Rs (List AI) × Rho)) (Q : List V → Hp → Prop) : Prop := PostG G E F H α (okA G F H σ α Q) r
def bnd {A B : Type} (r : Option (Rs A × Rho)) (k : A → Rho → Option (Rs B × Rho)) : Option (Rs B × Rho) :=
  match r with
  | none => none
  | some (.ok o, ρ) => k o ρ
  | some (.ex c f, ρ) => some (.ex c f, ρ)
section
variable {G : Cn} {E : XK} {F F1 F2 H H1 H2 : Hp} {σ : L2.St} {ρ ρ1 : Rho} {α α1 : Al} {Q R : VK} {A B : Type} {r : Option (Rs A × Rho)} {k : A → Rho → Option (Rs B × Rho)} {okP okP' : A → Rho → Prop} {okQ : B → Rho → Prop}
theorem PostG.bind (h : PostG G E F H α okQ (bnd r k)) (hk : ∀ o ρ1, PostG G E F H α okQ (k o ρ1) → okP o ρ1) : PostG G E F H α okP r := by
  match r, h with
  | none, h => exact h
  | some (.ok o, ρ'), h => exact hk o ρ' h
  | some (.ex c none, _), h => exact h
  | some (.ex c (some fs), _), h => exact h
theorem PostG.shift (s : Stp (Own α) F H F1 H1) (n : New (Own α) H (Own α1)) (h : PostG G E F H α okP r) (hk : ∀ o ρ1, okP o ρ1 → okP' o ρ1) : PostG G E F1 H1 α1 okP' r := by
  match r, h with
  | none, h => exact h
  | some (.ok o, ρ'), h => exact hk o ρ' h
  | some (.ex c none, _), h => exact fun F' H' T => h F' H' (s.trans T n)
  | some (.ex c (some fs), _), h => exact fun F' H' dd fvs T d3 d4 => h F' H' dd fvs (s.trans T n) d3 d4
theorem Post.shift {r : Option (Res × Rho)} (s : Stp (Own α) F H F1 H1) (n : New (Own α) H (Own α1)) (h : Post G E F H σ α r Q) : Post G E F1 H1 σ α1 r Q :=
  PostG.shift s n h fun o ρ1 hq v F' H' α' β S R T N1 N2 => hq v F' H' α' β S R (s.trans T n) N1 (New.trans s n N2)
theorem PostA.shift {r : Option (Rs (List AI) × Rho)} {Q : List V → Hp → Prop} (s : Stp (Own α) F H F1 H1) (n : New (Own α) H (Own α1)) (h : PostA G E F H σ α r Q) : PostA G E F1 H1 σ α1 r Q :=
  PostG.shift s n h fun o ρ1 hq v F' H' α' S R T N2 => hq v F' H' α' S R (s.trans T n) (New.trans s n N2)
theorem Ste.freeze {o : O} {v : V} {β : List Addr} {ρ1 : Rho} (S : Ste G F1 H1 σ ρ1 α1) (r : RepO G F1 H1 β v o) (T : Stp (Own α) F H F1 H1) (N1 : ∀ a ∈ β, ¬ Own α1 a) (N2 : New (Own α) H (fun a => Own α1 a ∨ a ∈ β)) :
    ∃ F2, Ste G F2 H1 σ ρ1 α1 ∧ Rep G F2 v o.frz ∧ Stp (Own α) F H F2 H1 ∧ New (Own α) H (Own α1) := by
  have hf : ∀ a ∈ β, F1 a = none := fun a ha => (r.mem a ha).1
  have T2 : Stp (fun a => Own α1 a ∨ a ∈ β) F1 H1 (frzH F1 H1 β) H1 := ⟨frz_ex hf, fun _ _ e _ => e, fun b o e => by
    by_cases q : b ∈ β
    · exact .inr (.inr (.inr q))
    · rw [frz_out q] at e
      exact .inl e⟩
  exact ⟨frzH F1 H1 β, S.frz N1 hf, r.frz (frz_ex hf) (fun b hb u e => by rw [frz_in hb]; exact e), T.trans T2 N2, fun a z => N2 a (.inl z)⟩
/-- from an expression on, the value frozen; w: how what is wanted moves to the new state -/
theorem Post.to {r : Option (Res × Rho)} {k : O → Rho → Option (Rs B × Rho)} (h : PostG G E F H α okQ (bnd r k))
    (hk : ∀ o ρ1 v F1 H1 α1, Ste G F1 H1 σ ρ1 α1 → Rep G F1 v o.frz → Stp (Own α) F H F1 H1 → New (Own α) H (Own α1) → PostG G E F H α okQ (k o ρ1) → R v H1) : Post G E F H σ α r R :=
  PostG.bind h fun o ρ1 hp v F1 H1 α1 β S r T N1 N2 => by
    obtain ⟨F2, S2, r2, T2, N3⟩ := S.freeze r T N1 N2
    exact hk o ρ1 v F2 H1 α1 S2 r2 T2 N3 hp
/-- the end: data, nothing changed -/
theorem Post.val {d : D} {v : V} (h : Post G E F H σ α (some (.ok (.val d), ρ)) Q) (S : Ste G F H σ ρ α) (r : Rep G F v d) : Q v H :=
  h v F H α [] S ⟨rfl, r⟩ .refl (fun _ z => nomatch z) fun a z => by
    rcases z with z | z
    · exact .inl z
    · cases z
/-- the end: a new frozen object -/
theorem Post.newV {d : D} {p : Addr} {o : HO} (h : Post G E F H σ α (some (.ok (.val d), ρ)) Q) (S : Ste G F H σ ρ α) (hp : H p = none) (r : Rep G (upd F p o) (.ref p) d) : Q (.ref p) (upd H p o) :=
  h (.ref p) (upd F p o) (upd H p o) α [] (S.laid hp) ⟨rfl, r⟩ (S.laidStp hp) (fun _ z => nomatch z) fun a z => by
    rcases z with z | z
    · exact .inl z
    · cases z
/-- a new list of one's own -/
theorem Post.newL {ds : List D} {vs : List V} {p : Addr} (h : Post G E F H σ α (some (.ok (.lst ds), ρ)) Q) (S : Ste G F H σ ρ α) (hp : H p = none) (r : Reps G F vs ds) : Q (.ref p) (upd H p (.lst vs)) :=
  h (.ref p) F (upd H p (.lst vs)) α [p] (S.put hp) ⟨p, vs, rfl, rfl, S.fresh hp, upd_same, r⟩ (Ste.putStp hp) (fun a z => by
    have : a = p := by simpa using z
    subst this
    exact S.notown hp) fun a z => by
    rcases z with z | z
    · exact .inl z
    · have : a = p := by simpa using z
      subst this
      exact .inr hp
theorem Post.newD {ds : List (Key × D)} {vs : List (Key × V)} {p : Addr} (h : Post G E F H σ α (some (.ok (.dic ds), ρ)) Q) (S : Ste G F H σ ρ α) (hp : H p = none) (r : RepsK G F vs ds) : Q (.ref p) (upd H p (.dK vs)) :=
  h (.ref p) F (upd H p (.dK vs)) α [p] (S.put hp) ⟨p, vs, rfl, rfl, S.fresh hp, upd_same, r⟩ (Ste.putStp hp) (fun a z => by
    have : a = p := by simpa using z
    subst this
    exact S.notown hp) fun a z => by
    rcases z with z | z
    · exact .inl z
    · have : a = p := by simpa using z
      subst this
      exact .inr hp
theorem RepA.mono (e : Ex F F1) : ∀ {vs : List V} {xs : List AI}, RepA G F σ vs xs → RepA G F1 σ vs xs
  | _, [], h => h
  | _, .d x :: r, h => by
    obtain ⟨v, ws, e1, e2, e3⟩ := h
    exact ⟨v, ws, e1, e2.mono e, RepA.mono e e3⟩
  | _, .io i :: r, h => by
    obtain ⟨v, ws, e1, e2, e3⟩ := h
    exact ⟨v, ws, e1, e2, RepA.mono e e3⟩
end
end VL

namespace VL
open PySem PySem.Spec
open PyProof.Rows L2
open Evl (Ex sz_of)

/-! ### operands: data, or what a slot holds -/
def RepX (G : Cn) (F H : Hp) (v : V) (d : D) : Prop :=
  Rep G F v d ∨ (∃ ds a vs, d = .lst ds ∧ v = .ref a ∧ H a = some (.lst vs) ∧ Reps G F vs ds) ∨ (∃ ds a vs, d = .dic ds ∧ v = .ref a ∧ H a = some (.dK vs) ∧ RepsK G F vs ds) ∨
    ∃ c fs a dx fvs, d = .ins c fs ∧ v = .ref a ∧ H a = some (.ins (G.cls c) dx fvs) ∧ RepsF G F fvs fs
def RepXs (G : Cn) (F H : Hp) : List V → List D → Prop
  | vs, [] => vs = []
  | vs, d :: ds => ∃ v r, vs = v :: r ∧ RepX G F H v d ∧ RepXs G F H r ds
/-- what may be looked at as it stands -/
def O.pk : O → Option D
  | .ll _ => none
  | o => some o.frz
section
variable {G : Cn} {F H : Hp} {v : V}
theorem RepO.x {β : List Addr} {o : O} {d : D} (h : RepO G F H β v o) (e : o.pk = some d) : RepX G F H v d := by
  cases o with
  | val d' =>
    cases e
    exact .inl h.2
  | lst ds =>
    cases e
    obtain ⟨a, vs, rfl, _, _, e2, e3⟩ := h
    exact .inr (.inl ⟨ds, a, vs, rfl, rfl, e2, e3⟩)
  | dic ds =>
    cases e
    obtain ⟨a, vs, rfl, _, _, e2, e3⟩ := h
    exact .inr (.inr (.inl ⟨ds, a, vs, rfl, rfl, e2, e3⟩))
  | ins c fs =>
    cases e
    obtain ⟨a, dx, vs, rfl, _, _, _, _, e3, _, e5⟩ := h
    exact .inr (.inr (.inr ⟨c, fs, a, dx, vs, rfl, rfl, e3, e5⟩))
  | ll dss => cases e
theorem RepX.l {ds : List D} (h : RepX G F H v (.lst ds)) (e : Ex F H) : ∃ a vs, v = .ref a ∧ H a = some (.lst vs) ∧ Reps G F vs ds := by
  rcases h with h | ⟨ds', a, vs, q, e1, e2, e3⟩ | ⟨ds', a, vs, q, _⟩ | ⟨c, fs, a, dx, fvs, q, _⟩
  · unfold Rep at h
    obtain ⟨a, vs, e1, e2, e3⟩ := h
    exact ⟨a, vs, e1, e _ _ e2, e3⟩
  · cases q
    exact ⟨a, vs, e1, e2, e3⟩
  · cases q
  · cases q
theorem RepX.t {ds : List D} (h : RepX G F H v (.tup ds)) (e : Ex F H) : ∃ a vs, v = .ref a ∧ F a = some (.tup vs) ∧ H a = some (.tup vs) ∧ Reps G F vs ds := by
  rcases h with h | ⟨ds', a, vs, q, e1, e2, e3⟩ | ⟨ds', a, vs, q, _⟩ | ⟨c, fs, a, dx, fvs, q, _⟩
  · unfold Rep at h
    obtain ⟨a, vs, e1, e2, e3⟩ := h
    exact ⟨a, vs, e1, e2, e _ _ e2, e3⟩
  · cases q
  · cases q
  · cases q
theorem RepX.k {ds : List (Key × D)} (h : RepX G F H v (.dic ds)) (e : Ex F H) : ∃ a vs, v = .ref a ∧ H a = some (.dK vs) ∧ RepsK G F vs ds := by
  rcases h with h | ⟨ds', a, vs, q, e1, e2, e3⟩ | ⟨ds', a, vs, q, e1, e2, e3⟩ | ⟨c, fs, a, dx, fvs, q, _⟩
  · unfold Rep at h
    obtain ⟨a, vs, e1, e2, e3⟩ := h
    exact ⟨a, vs, e1, e _ _ e2, e3⟩
  · cases q
  · cases q
    exact ⟨a, vs, e1, e2, e3⟩
  · cases q
theorem RepX.i {c : Nat} {fs : List (Str × D)} (h : RepX G F H v (.ins c fs)) (e : Ex F H) : ∃ a dx fvs, v = .ref a ∧ H a = some (.ins (G.cls c) dx fvs) ∧ RepsF G F fvs fs := by
  rcases h with h | ⟨ds', a, vs, q, e1, e2, e3⟩ | ⟨ds', a, vs, q, e1, e2, e3⟩ | ⟨c', fs', a, dx, fvs, q, e1, e2, e3⟩
  · unfold Rep at h
    obtain ⟨a, dx, vs, e1, e2, e3⟩ := h
    exact ⟨a, dx, vs, e1, e _ _ e2, e3⟩
  · cases q
  · cases q
  · cases q
    exact ⟨a, dx, fvs, e1, e2, e3⟩
theorem RepX.non (h : RepX G F H v .non) : v = .non := by
  rcases h with h | ⟨_, _, _, q, _⟩ | ⟨_, _, _, q, _⟩ | ⟨_, _, _, _, _, q, _⟩
  · unfold Rep at h; exact h
  all_goals cases q
theorem RepX.bl {b : Bool} (h : RepX G F H v (.bl b)) : v = .bl b := by
  rcases h with h | ⟨_, _, _, q, _⟩ | ⟨_, _, _, q, _⟩ | ⟨_, _, _, _, _, q, _⟩
  · unfold Rep at h; exact h
  all_goals cases q
theorem RepX.int {i : Int} (h : RepX G F H v (.int i)) : v = .int i := by
  rcases h with h | ⟨_, _, _, q, _⟩ | ⟨_, _, _, q, _⟩ | ⟨_, _, _, _, _, q, _⟩
  · unfold Rep at h; exact h
  all_goals cases q
theorem RepX.str {x : Str} (h : RepX G F H v (.str x)) : v = .str x := by
  rcases h with h | ⟨_, _, _, q, _⟩ | ⟨_, _, _, q, _⟩ | ⟨_, _, _, _, _, q, _⟩
  · unfold Rep at h; exact h
  all_goals cases q
theorem Rep.ofBl {b : Bool} : Rep G F (.bl b) (.bl b) := by unfold Rep; rfl
theorem Rep.ofInt {b : Int} : Rep G F (.int b) (.int b) := by unfold Rep; rfl
theorem Rep.ofStr {b : Str} : Rep G F (.str b) (.str b) := by unfold Rep; rfl
theorem Rep.ofNon : Rep G F .non .non := by unfold Rep; rfl
theorem Rep.ofTup {a : Addr} {vs : List V} {ds : List D} (h : F a = some (.tup vs)) (r : Reps G F vs ds) : Rep G F (.ref a) (.tup ds) := by unfold Rep; exact ⟨a, vs, rfl, h, r⟩
theorem Rep.ofLst {a : Addr} {vs : List V} {ds : List D} (h : F a = some (.lst vs)) (r : Reps G F vs ds) : Rep G F (.ref a) (.lst ds) := by unfold Rep; exact ⟨a, vs, rfl, h, r⟩
theorem Reps.x {vs : List V} : ∀ {vs : List V} {ds : List D}, Reps G F vs ds → RepXs G F H vs ds
  | _, [], h => h.of_nil
  | _, d :: ds, h => by
    obtain ⟨v, r, e1, e2, e3⟩ := h.of_cons
    exact ⟨v, r, e1, .inl e2, Reps.x (vs := r) e3⟩
end

/-! ### the semantics of readings -/
structure Sem (G : Cn) (E : XK) (t : TE) (m : M) : Prop where
  run : ∀ {F H σ ρ α Q}, Ste G F H σ ρ α → Post G E F H σ α (m ρ) Q → t σ H Q
structure SemT (G : Cn) (E : XK) (t : TT) (m : M) : Prop where
  run : ∀ {F H σ ρ α} {Q : Bool → Hp → Prop}, Ste G F H σ ρ α → Post G E F H σ α (m ρ) (fun v H' => ∃ b, v = .bl b ∧ Q b H') → t σ H Q
structure SemA (G : Cn) (E : XK) (t : TA) (m : MA) : Prop where
  run : ∀ {F H σ ρ α Q}, Ste G F H σ ρ α → PostA G E F H σ α (m ρ) Q → t σ H Q
/-- an operator, a call, by values -/
def OSem (G : Cn) (r : R2) (f : D → D → Option O) : Prop :=
  ∀ {E : XK} {F H σ ρ α Q x y dx dy}, Ste G F H σ ρ α → RepX G F H x dx → RepX G F H y dy → Post G E F H σ α ((f dx dy).map fun o => (.ok o, ρ)) Q → r x y H Q
def CSem (G : Cn) (r : List V → Hp → VK → Prop) (f : List D → Option O) : Prop :=
  ∀ {E : XK} {F H σ ρ α Q vs ds}, Ste G F H σ ρ α → RepXs G F H vs ds → Post G E F H σ α ((f ds).map fun o => (.ok o, ρ)) Q → r vs H Q

def mVar (i : Nat) : M := fun ρ => match ρ[i]? with
  | some (some (.val d)) => some (.ok (.val d), ρ)
  | _ => none
def mC (d : D) : M := fun ρ => some (.ok (.val d), ρ)
def mOp2 (f : D → D → Option O) (a b : M) : M := fun ρ => bnd (a ρ) fun x ρ1 => bnd (b ρ1) fun y ρ2 => (f x.frz y.frz).map fun o => (.ok o, ρ2)
def look (ρ : Rho) (i : Nat) : Option D := match ρ[i]? with
  | some (some o) => o.pk
  | _ => none
/-- the left operand stands in a slot: it is looked at as it stands -/
def mOpL (f : D → D → Option O) (i : Nat) (b : M) : M := fun ρ => (look ρ i).bind fun _ => bnd (b ρ) fun y ρ1 => (look ρ1 i).bind fun x => (f x y.frz).map fun o => (.ok o, ρ1)
def mOpR (f : D → D → Option O) (a : M) (i : Nat) : M := fun ρ => bnd (a ρ) fun x ρ1 => (look ρ1 i).bind fun y => (f x.frz y).map fun o => (.ok o, ρ1)
/-- and, or, not, if -/
def mAnd (a b : M) : M := fun ρ => bnd (a ρ) fun x ρ1 => match x.frz with
  | .bl true => b ρ1
  | .bl false => some (.ok (.val (.bl false)), ρ1)
  | _ => none
def mOr (a b : M) : M := fun ρ => bnd (a ρ) fun x ρ1 => match x.frz with
  | .bl false => b ρ1
  | .bl true => some (.ok (.val (.bl true)), ρ1)
  | _ => none
def mNot (a : M) : M := fun ρ => bnd (a ρ) fun x ρ1 => match x.frz with
  | .bl b => some (.ok (.val (.bl (!b))), ρ1)
  | _ => none
def mIf (c a b : M) : M := fun ρ => bnd (c ρ) fun x ρ1 => match x.frz with
  | .bl true => a ρ1
  | .bl false => b ρ1
  | _ => none
def aNil : MA := fun ρ => some (.ok [], ρ)
def aCons (a : M) (r : MA) : MA := fun ρ => bnd (a ρ) fun x ρ1 => bnd (r ρ1) fun xs ρ2 => some (.ok (.d x.frz :: xs), ρ2)
def aIo (i : Nat) (r : MA) : MA := fun ρ => bnd (r ρ) fun xs ρ2 => some (.ok (.io i :: xs), ρ2)
/-- arguments, all of them data, or slots that are looked at -/
def dsOf (ρ : Rho) : List AI → Option (List D)
  | [] => some []
  | .d x :: r => (dsOf ρ r).map (x :: ·)
  | .io i :: r => (look ρ i).bind fun x => (dsOf ρ r).map (x :: ·)
def mCB (f : List D → Option O) (ms : MA) : M := fun ρ => bnd (ms ρ) fun xs ρ1 => (dsOf ρ1 xs).bind fun ds => (f ds).map fun o => (.ok o, ρ1)
def mTup (ms : MA) : M := fun ρ => bnd (ms ρ) fun xs ρ1 => (dsOf [] xs).bind fun ds => if ds.length ≤ 100000 then some (.ok (.val (.tup ds)), ρ1) else none
def mLst (ms : MA) : M := fun ρ => bnd (ms ρ) fun xs ρ1 => (dsOf [] xs).bind fun ds => if ds.length ≤ 100000 then some (.ok (.lst ds), ρ1) else none

section
variable {G : Cn} {E : XK} {ta tb tc : TE} {t u : TT} {ma mb mc : M} {r : R2} {f : D → D → Option O} {i : Nat}
theorem sem_var : Sem G E (tVar i) (mVar i) := ⟨fun {F H σ ρ α Q} S h => by
  unfold mVar at h
  split at h
  · rename_i d e
    obtain ⟨v, h1, r⟩ := S.slot i _ e
    exact ⟨v, h1, Post.val h S r.2⟩
  · exact h.elim⟩
theorem sem_c {v : V} {d : D} (hr : ∀ F, Rep G F v d) : Sem G E (tC v) (mC d) := ⟨fun {F H σ ρ α Q} S h => Post.val h S (hr F)⟩
theorem sem_int {n : Int} : Sem G E (tC (.int n)) (mC (.int n)) := sem_c fun _ => Rep.ofInt
theorem sem_bl {n : Bool} : Sem G E (tC (.bl n)) (mC (.bl n)) := sem_c fun _ => Rep.ofBl
theorem sem_str {n : Str} : Sem G E (tC (.str n)) (mC (.str n)) := sem_c fun _ => Rep.ofStr
theorem sem_non : Sem G E (tC .non) (mC .non) := sem_c fun _ => Rep.ofNon
theorem sem_op (hr : OSem G r f) (ha : Sem G E ta ma) (hb : Sem G E tb mb) : Sem G E (tOp r ta tb) (mOp2 f ma mb) := ⟨fun S h =>
  ha.run S (Post.to h fun o ρ1 v F1 H1 α1 S1 r1 T1 N1 h1 => hb.run S1 (Post.to (Post.shift T1 N1 h1) fun o2 ρ2 v2 F2 H2 α2 S2 r2 T2 N2 h2 =>
    hr S2 (.inl (r1.mono T2.exF)) (.inl r2) (Post.shift T2 N2 h2)))⟩
theorem look_x {F H : Hp} {σ : L2.St} {ρ : Rho} {α : Al} {d : D} (S : Ste G F H σ ρ α) (e : look ρ i = some d) : ∃ v, σ[i]? = some (some v) ∧ RepX G F H v d := by
  unfold look at e
  split at e
  · rename_i o e1
    obtain ⟨v, h1, r⟩ := S.slot i o e1
    exact ⟨v, h1, r.x e⟩
  · cases e
theorem sem_opL (hr : OSem G r f) (hb : Sem G E tb mb) : Sem G E (tOp r (tVar i) tb) (mOpL f i mb) := ⟨fun {F H σ ρ α Q} S h => by
  unfold mOpL at h
  cases e : look ρ i with
  | none => rw [e] at h; exact h.elim
  | some d0 =>
    rw [e] at h
    obtain ⟨v, hv, _⟩ := look_x S e
    refine ⟨v, hv, hb.run S (Post.to h fun o ρ1 v2 F1 H1 α1 S1 r1 T1 N1 h1 => ?_)⟩
    cases e1 : look ρ1 i with
    | none => rw [e1] at h1; exact h1.elim
    | some d1 =>
      rw [e1] at h1
      obtain ⟨v', hv', rx⟩ := look_x S1 e1
      rw [hv] at hv'
      cases hv'
      exact hr S1 rx (.inl r1) (Post.shift T1 N1 h1)⟩
theorem sem_opR (hr : OSem G r f) (ha : Sem G E ta ma) : Sem G E (tOp r ta (tVar i)) (mOpR f ma i) := ⟨fun {F H σ ρ α Q} S h => by
  refine ha.run S (Post.to h fun o ρ1 v2 F1 H1 α1 S1 r1 T1 N1 h1 => ?_)
  cases e1 : look ρ1 i with
  | none => rw [e1] at h1; exact h1.elim
  | some d1 =>
    rw [e1] at h1
    obtain ⟨v', hv', rx⟩ := look_x S1 e1
    exact ⟨v', hv', hr S1 (.inl r1) rx (Post.shift T1 N1 h1)⟩⟩
theorem frz_bl {F H : Hp} {v : V} {o : O} {b : Bool} (r : Rep G F v o.frz) (e : o.frz = .bl b) : v = .bl b := by
  rw [e] at r
  unfold Rep at r
  exact r
theorem sem_andV (ha : Sem G E ta ma) (hb : Sem G E tb mb) : Sem G E (tAndV ta tb) (mAnd ma mb) := ⟨fun {F H σ ρ α Q} S h => by
  refine ha.run S (Post.to h fun o ρ1 v F1 H1 α1 S1 r1 T1 N1 h1 => ?_)
  try dsimp only at h1
  split at h1
  · rename_i e
    refine ⟨true, frz_bl (H := H) r1 e, ?_⟩
    rw [if_pos rfl]
    exact hb.run S1 (Post.shift T1 N1 h1)
  · rename_i e
    refine ⟨false, frz_bl (H := H) r1 e, ?_⟩
    rw [if_neg Bool.false_ne_true]
    exact Post.val (Post.shift T1 N1 h1) S1 Rep.ofBl
  · exact h1.elim⟩
theorem sem_orV (ha : Sem G E ta ma) (hb : Sem G E tb mb) : Sem G E (tOrV ta tb) (mOr ma mb) := ⟨fun {F H σ ρ α Q} S h => by
  refine ha.run S (Post.to h fun o ρ1 v F1 H1 α1 S1 r1 T1 N1 h1 => ?_)
  try dsimp only at h1
  split at h1
  · rename_i e
    refine ⟨false, frz_bl (H := H) r1 e, ?_⟩
    rw [if_neg Bool.false_ne_true]
    exact hb.run S1 (Post.shift T1 N1 h1)
  · rename_i e
    refine ⟨true, frz_bl (H := H) r1 e, ?_⟩
    rw [if_pos rfl]
    exact Post.val (Post.shift T1 N1 h1) S1 Rep.ofBl
  · exact h1.elim⟩
theorem sem_notV (ha : Sem G E ta ma) : Sem G E (tNotV ta) (mNot ma) := ⟨fun {F H σ ρ α Q} S h => by
  refine ha.run S (Post.to h fun o ρ1 v F1 H1 α1 S1 r1 T1 N1 h1 => ?_)
  try dsimp only at h1
  split at h1
  · rename_i b e
    exact ⟨b, frz_bl (H := H) r1 e, Post.val (Post.shift T1 N1 h1) S1 Rep.ofBl⟩
  · exact h1.elim⟩
/-- tests -/
theorem semT_val (ha : Sem G E ta ma) : SemT G E (tB ta) ma := ⟨fun S h => ha.run S h⟩
theorem semT_test (ha : Sem G E ta ma) : SemT G E (tTest ta) ma := ⟨fun S h => ha.run S h⟩
theorem okV_bl {F H : Hp} {σ : L2.St} {ρ : Rho} {α : Al} {Q : Bool → Hp → Prop} {b : Bool} (S : Ste G F H σ ρ α) (h : Post G E F H σ α (some (.ok (.val (.bl b)), ρ)) fun v H' => ∃ b, v = .bl b ∧ Q b H') : Q b H := by
  obtain ⟨b', e, q⟩ := Post.val h S Rep.ofBl
  cases e
  exact q
theorem SemT.to {F H : Hp} {σ : L2.St} {ρ : Rho} {α : Al} {B : Type} {k : O → Rho → Option (Rs B × Rho)} {okQ : B → Rho → Prop} {R : Bool → Hp → Prop} (ht : SemT G E t ma) (S : Ste G F H σ ρ α) (h : PostG G E F H α okQ (bnd (ma ρ) k))
    (hk : ∀ o ρ1 b F1 H1 α1, Ste G F1 H1 σ ρ1 α1 → (∀ c, o.frz = .bl c → b = c) → Stp (Own α) F H F1 H1 → New (Own α) H (Own α1) → (∃ c, o.frz = .bl c) → PostG G E F H α okQ (k o ρ1) → R b H1)
    (hk0 : ∀ o ρ1, (∀ c, o.frz ≠ .bl c) → PostG G E F H α okQ (k o ρ1) → False) : t σ H R :=
  ht.run S (Post.to h fun o ρ1 v F1 H1 α1 S1 r1 T1 N1 h1 => by
    by_cases q : ∃ c, o.frz = .bl c
    · obtain ⟨c, e⟩ := q
      exact ⟨c, frz_bl (H := H) r1 e, hk o ρ1 c F1 H1 α1 S1 (fun c' e' => by rw [e] at e'; cases e'; rfl) T1 N1 ⟨c, e⟩ h1⟩
    · exact (hk0 o ρ1 (fun c e => q ⟨c, e⟩) h1).elim)
theorem bl_or {B : Type} {A : Type} (o : O) {x y z : A} : (∃ c, o.frz = .bl c) ∨ (∀ c, o.frz ≠ .bl c) := by
  by_cases q : ∃ c, o.frz = .bl c
  · exact .inl q
  · exact .inr fun c e => q ⟨c, e⟩
theorem semT_and (ha : SemT G E t ma) (hb : SemT G E u mb) : SemT G E (tAnd t u) (mAnd ma mb) := ⟨fun {F H σ ρ α Q} S h => by
  refine ha.to S h (fun o ρ1 b F1 H1 α1 S1 hb1 T1 N1 hc h1 => ?_) fun o ρ1 hn h1 => ?_
  · obtain ⟨c, e⟩ := hc
    obtain rfl := hb1 c e
    try dsimp only at h1
    rw [e] at h1
    cases b with
    | true => exact hb.run S1 (Post.shift T1 N1 h1)
    | false => exact okV_bl S1 (Post.shift T1 N1 h1)
  · try dsimp only at h1
    split at h1
    · rename_i e
      exact hn _ e
    · rename_i e
      exact hn _ e
    · exact h1⟩
theorem semT_or (ha : SemT G E t ma) (hb : SemT G E u mb) : SemT G E (tOr t u) (mOr ma mb) := ⟨fun {F H σ ρ α Q} S h => by
  refine ha.to S h (fun o ρ1 b F1 H1 α1 S1 hb1 T1 N1 hc h1 => ?_) fun o ρ1 hn h1 => ?_
  · obtain ⟨c, e⟩ := hc
    obtain rfl := hb1 c e
    try dsimp only at h1
    rw [e] at h1
    cases b with
    | false => exact hb.run S1 (Post.shift T1 N1 h1)
    | true => exact okV_bl S1 (Post.shift T1 N1 h1)
  · try dsimp only at h1
    split at h1
    · rename_i e
      exact hn _ e
    · rename_i e
      exact hn _ e
    · exact h1⟩
theorem semT_not (ha : SemT G E t ma) : SemT G E (tNot t) (mNot ma) := ⟨fun {F H σ ρ α Q} S h => by
  refine ha.to S h (fun o ρ1 b F1 H1 α1 S1 hb1 T1 N1 hc h1 => ?_) fun o ρ1 hn h1 => ?_
  · obtain ⟨c, e⟩ := hc
    obtain rfl := hb1 c e
    try dsimp only at h1
    rw [e] at h1
    exact okV_bl S1 (Post.shift T1 N1 h1)
  · try dsimp only at h1
    split at h1
    · rename_i e
      exact hn _ e
    · exact h1⟩
theorem sem_if (hc : SemT G E t mc) (ha : Sem G E ta ma) (hb : Sem G E tb mb) : Sem G E (tIf t ta tb) (mIf mc ma mb) := ⟨fun {F H σ ρ α Q} S h => by
  refine hc.to S h (fun o ρ1 b F1 H1 α1 S1 hb1 T1 N1 hc h1 => ?_) fun o ρ1 hn h1 => ?_
  · obtain ⟨c, e⟩ := hc
    obtain rfl := hb1 c e
    try dsimp only at h1
    rw [e] at h1
    cases b with
    | true => exact ha.run S1 (Post.shift T1 N1 h1)
    | false => exact hb.run S1 (Post.shift T1 N1 h1)
  · try dsimp only at h1
    split at h1
    · rename_i e
      exact hn _ e
    · rename_i e
      exact hn _ e
    · exact h1⟩
/-! ### argument lists -/
variable {tr : TA} {mr : MA}
theorem PostA.done {F H : Hp} {σ : L2.St} {ρ : Rho} {α : Al} {Q : List V → Hp → Prop} {xs : List AI} {vs : List V} (h : PostA G E F H σ α (some (.ok xs, ρ)) Q) (S : Ste G F H σ ρ α) (r : RepA G F σ vs xs) : Q vs H :=
  h vs F H α S r .refl .refl
theorem semA_nil : SemA G E tNil aNil := ⟨fun S h => PostA.done h S rfl⟩
theorem PostA.to {F H : Hp} {σ : L2.St} {α : Al} {B : Type} {k : List AI → Rho → Option (Rs B × Rho)} {okQ : B → Rho → Prop} {R : List V → Hp → Prop} {r : Option (Rs (List AI) × Rho)} (h : PostG G E F H α okQ (bnd r k))
    (hk : ∀ xs ρ1 vs F1 H1 α1, Ste G F1 H1 σ ρ1 α1 → RepA G F1 σ vs xs → Stp (Own α) F H F1 H1 → New (Own α) H (Own α1) → PostG G E F H α okQ (k xs ρ1) → R vs H1) : PostA G E F H σ α r R :=
  PostG.bind h fun xs ρ1 hp vs F1 H1 α1 S r T N => hk xs ρ1 vs F1 H1 α1 S r T N hp
theorem semA_cons (ha : Sem G E ta ma) (hr : SemA G E tr mr) : SemA G E (tCons ta tr) (aCons ma mr) := ⟨fun {F H σ ρ α Q} S h =>
  ha.run S (Post.to h fun o ρ1 v F1 H1 α1 S1 r1 T1 N1 h1 => hr.run S1 (PostA.to (PostA.shift T1 N1 h1) fun xs ρ2 vs F2 H2 α2 S2 r2 T2 N2 h2 =>
    PostA.done (PostA.shift T2 N2 h2) S2 ⟨v, vs, rfl, r1.mono T2.exF, r2⟩))⟩
theorem semA_io (hr : SemA G E tr mr) : SemA G E (tCons (tVar i) tr) (fun ρ => (look ρ i).bind fun _ => aIo i mr ρ) := ⟨fun {F H σ ρ α Q} S h => by
  cases e : look ρ i with
  | none => rw [e] at h; exact h.elim
  | some d =>
    skip
    rw [e] at h
    obtain ⟨v, hv, _⟩ := look_x S e
    exact ⟨v, hv, hr.run S (PostA.to h fun xs ρ2 vs F2 H2 α2 S2 r2 T2 N2 h2 => PostA.done (PostA.shift T2 N2 h2) S2 ⟨v, vs, rfl, hv, r2⟩)⟩⟩
theorem dsOf_x {F H : Hp} {σ : L2.St} {ρ : Rho} {α : Al} (S : Ste G F H σ ρ α) : ∀ {vs : List V} {xs : List AI} {ds : List D}, RepA G F σ vs xs → dsOf ρ xs = some ds → RepXs G F H vs ds
  | _, [], ds, h, e => by
    cases e
    exact h
  | _, .d x :: r, ds, h, e => by
    obtain ⟨v, ws, rfl, e2, e3⟩ := h
    unfold dsOf at e
    cases q : dsOf ρ r with
    | none => rw [q] at e; cases e
    | some es =>
      rw [q] at e
      cases e
      exact ⟨v, ws, rfl, .inl e2, dsOf_x S e3 q⟩
  | _, .io i :: r, ds, h, e => by
    obtain ⟨v, ws, rfl, e2, e3⟩ := h
    unfold dsOf at e
    cases q0 : look ρ i with
    | none => rw [q0] at e; cases e
    | some d0 =>
      rw [q0] at e
      cases q : dsOf ρ r with
      | none => rw [q] at e; cases e
      | some es =>
        rw [q] at e
        cases e
        obtain ⟨v', hv', rx⟩ := look_x S q0
        rw [e2] at hv'
        cases hv'
        exact ⟨v, ws, rfl, rx, dsOf_x S e3 q⟩
theorem dsOf_r {F : Hp} {σ : L2.St} : ∀ {vs : List V} {xs : List AI} {ds : List D}, RepA G F σ vs xs → dsOf [] xs = some ds → Reps G F vs ds
  | _, [], ds, h, e => by
    cases e
    rw [show _ = [] from h]
    exact Reps.nil
  | _, .d x :: r, ds, h, e => by
    obtain ⟨v, ws, rfl, e2, e3⟩ := h
    unfold dsOf at e
    cases q : dsOf [] r with
    | none => rw [q] at e; cases e
    | some es =>
      rw [q] at e
      cases e
      exact Reps.cons e2 (dsOf_r e3 q)
  | _, .io i :: r, ds, h, e => by
    unfold dsOf look at e
    simp at e
theorem sem_cb {r : List V → Hp → VK → Prop} {f : List D → Option O} (hc : CSem G r f) (hr : SemA G E tr mr) : Sem G E (tCB r tr) (mCB f mr) := ⟨fun {F H σ ρ α Q} S h =>
  hr.run S (PostA.to h fun xs ρ1 vs F1 H1 α1 S1 r1 T1 N1 h1 => by
    cases e : dsOf ρ1 xs with
    | none => rw [e] at h1; exact h1.elim
    | some ds =>
      rw [e] at h1
      exact hc S1 (dsOf_x S1 r1 e) (Post.shift T1 N1 h1))⟩
theorem sem_tup (hr : SemA G E tr mr) : Sem G E (tTup tr) (mTup mr) := ⟨fun {F H σ ρ α Q} S h =>
  hr.run S (PostA.to h fun xs ρ1 vs F1 H1 α1 S1 r1 T1 N1 h1 => by
    cases e : dsOf [] xs with
    | none => rw [e] at h1; exact h1.elim
    | some ds =>
      rw [e] at h1
      have rr := dsOf_r r1 e
      dsimp only [Option.bind] at h1
      split at h1
      · rename_i hl
        refine ⟨sz_of (by rw [rr.length]; exact hl), fun p hp => Post.newV (Post.shift T1 N1 h1) S1 hp (Rep.ofTup upd_same (rr.mono (Ex.new (S1.fresh hp))))⟩
      · exact h1.elim)⟩
theorem sem_lst (hr : SemA G E tr mr) : Sem G E (tLst tr) (mLst mr) := ⟨fun {F H σ ρ α Q} S h =>
  hr.run S (PostA.to h fun xs ρ1 vs F1 H1 α1 S1 r1 T1 N1 h1 => by
    cases e : dsOf [] xs with
    | none => rw [e] at h1; exact h1.elim
    | some ds =>
      rw [e] at h1
      have rr := dsOf_r r1 e
      dsimp only [Option.bind] at h1
      split at h1
      · rename_i hl
        refine ⟨sz_of (by rw [rr.length]; exact hl), fun p hp => Post.newL (Post.shift T1 N1 h1) S1 hp rr⟩
      · exact h1.elim)⟩
end
end VL

namespace VL
open PySem PySem.Spec
open PyProof.Rows L2
open Evl (Ex sz_of)

/-! ### statements -/
inductive Fl where
  | nx | ret (o : O) | bk | ct
abbrev MS := List Nat → Rho → Option (Rs Fl × Rho)
def Pin (pins : List Nat) (σ σ' : L2.St) : Prop := ∀ i ∈ pins, σ'[i]? = σ[i]?
theorem Pin.refl {pins : List Nat} {σ : L2.St} : Pin pins σ σ := fun _ _ => rfl
theorem Pin.trans {pins : List Nat} {σ σ1 σ2 : L2.St} (a : Pin pins σ σ1) (b : Pin pins σ1 σ2) : Pin pins σ σ2 := fun i h => (b i h).trans (a i h)
def okS (G : Cn) (F H : Hp) (σ : L2.St) (α : Al) (pins : List Nat) (D : Ends) : Fl → Rho → Prop
  | .nx, ρ' => ∀ σ' F' H' α', Ste G F' H' σ' ρ' α' → Stp (Own α) F H F' H' → New (Own α) H (Own α') → Pin pins σ σ' → D.nx σ' H'
  | .bk, ρ' => ∀ σ' F' H' α', Ste G F' H' σ' ρ' α' → Stp (Own α) F H F' H' → New (Own α) H (Own α') → Pin pins σ σ' → D.bk σ' H'
  | .ct, ρ' => ∀ σ' F' H' α', Ste G F' H' σ' ρ' α' → Stp (Own α) F H F' H' → New (Own α) H (Own α') → Pin pins σ σ' → D.ct σ' H'
  | .ret o, ρ' => ∀ v σ' F' H' α' β, Ste G F' H' σ' ρ' α' → RepO G F' H' β v o → Stp (Own α) F H F' H' → (∀ a ∈ β, ¬ Own α' a) → New (Own α) H (fun a => Own α' a ∨ a ∈ β) → Pin pins σ σ' → D.rt v H'
abbrev PostS (G : Cn) (E : XK) (F H : Hp) (σ : L2.St) (α : Al) (pins : List Nat) (r : Option (Rs Fl × Rho)) (D : Ends) : Prop := PostG G E F H α (okS G F H σ α pins D) r
structure SemS (G : Cn) (E : XK) (t : TS) (m : MS) : Prop where
  run : ∀ {F H σ ρ α D} {pins : List Nat}, Ste G F H σ ρ α → PostS G E F H σ α pins (m pins ρ) D → t D σ H

/-- one after the other -/
def sThen (r : Option (Rs Fl × Rho)) (k : Rho → Option (Rs Fl × Rho)) : Option (Rs Fl × Rho) :=
  match r with
  | some (.ok .nx, ρ) => k ρ
  | x => x
def sSeq (a b : MS) : MS := fun p ρ => sThen (a p ρ) (b p)
def sNx : MS := fun _ ρ => some (.ok .nx, ρ)
def sBk : MS := fun _ ρ => some (.ok .bk, ρ)
def sCt : MS := fun _ ρ => some (.ok .ct, ρ)
def sIf (c : M) (a b : MS) : MS := fun p ρ => bnd (c ρ) fun x ρ1 => match x.frz with
  | .bl true => a p ρ1
  | .bl false => b p ρ1
  | _ => none
def sRet (a : M) : MS := fun _ ρ => bnd (a ρ) fun o ρ1 => some (.ok (.ret o), ρ1)
def sRetN : MS := fun _ ρ => some (.ok (.ret (.val .non)), ρ)
def sDrop (a : M) : MS := fun _ ρ => bnd (a ρ) fun o ρ1 => some (.ok .nx, ρ1)
/-- a slot gets data, or an object of one's own -/
def setV (pins : List Nat) (i : Nat) (o : O) (ρ : Rho) : Option Rho := if i ∈ pins then none else if i < ρ.length then some (ρ.set i (some o)) else none
def sAsgV (i : Nat) (a : M) : MS := fun p ρ => bnd (a ρ) fun o ρ1 => (setV p i (.val o.frz) ρ1).map fun ρ2 => (.ok .nx, ρ2)
def sAsgO (i : Nat) (a : M) : MS := fun p ρ => bnd (a ρ) fun o ρ1 => (setV p i o ρ1).map fun ρ2 => (.ok .nx, ρ2)

/-! ### targets: names, tuples of names -/
inductive Pat where
  | nm (i : Nat) | tu (ps : List Pat)
mutual
def bindP : List Nat → Pat → D → Rho → Option Rho
  | pins, .nm i, d, ρ => setV pins i (.val d) ρ
  | pins, .tu ps, .tup ds, ρ => if ds.length = ps.length then bindPs pins ps ds ρ else none
  | _, .tu _, _, _ => none
def bindPs : List Nat → List Pat → List D → Rho → Option Rho
  | _, [], [], ρ => some ρ
  | pins, p :: ps, d :: ds, ρ => (bindP pins p d ρ).bind (bindPs pins ps ds)
  | _, _, _, _ => none
end
mutual
def Pat.slots : Pat → List Nat
  | .nm i => [i]
  | .tu ps => slotsL ps
def slotsL : List Pat → List Nat
  | [] => []
  | p :: ps => p.slots ++ slotsL ps
end
/-- the target stores: the own objects stay but those of overwritten slots -/
def GSem (G : Cn) (g : TG) (p : Pat) : Prop := ∀ {F H σ ρ α x d ρ'} {pins : List Nat} {Q : L2.St → Hp → Prop}, Ste G F H σ ρ α → Rep G F x d → bindP pins p d ρ = some ρ' →
  (∀ σ' α', Ste G F H σ' ρ' α' → (∀ a, Own α' a → Own α a) → Pin pins σ σ' → (∀ j, j ∉ p.slots → σ'[j]? = σ[j]?) ∧ σ'.length = σ.length → Q σ' H) → g x σ H Q
def GsSem (G : Cn) (g : TGs) (ps : List Pat) : Prop := ∀ {F H σ ρ α xs ds ρ'} {pins : List Nat} {Q : L2.St → Hp → Prop}, Ste G F H σ ρ α → Reps G F xs ds → bindPs pins ps ds ρ = some ρ' →
  (∀ σ' α', Ste G F H σ' ρ' α' → (∀ a, Own α' a → Own α a) → Pin pins σ σ' → (∀ j, j ∉ slotsL ps → σ'[j]? = σ[j]?) ∧ σ'.length = σ.length → Q σ' H) → g xs σ H Q
section
variable {G : Cn} {E : XK} {F F1 H H1 : Hp} {σ σ1 : L2.St} {ρ ρ1 : Rho} {α α1 : Al} {pins : List Nat} {D : Ends}
theorem okS.shift (s : Stp (Own α) F H F1 H1) (n : New (Own α) H (Own α1)) (p : Pin pins σ σ1) : ∀ (f : Fl) (ρ' : Rho), okS G F H σ α pins D f ρ' → okS G F1 H1 σ1 α1 pins D f ρ'
  | .nx, _, h => fun σ' F' H' α' S T N P => h σ' F' H' α' S (s.trans T n) (New.trans s n N) (p.trans P)
  | .bk, _, h => fun σ' F' H' α' S T N P => h σ' F' H' α' S (s.trans T n) (New.trans s n N) (p.trans P)
  | .ct, _, h => fun σ' F' H' α' S T N P => h σ' F' H' α' S (s.trans T n) (New.trans s n N) (p.trans P)
  | .ret o, _, h => fun v σ' F' H' α' β S R T N1 N2 P => h v σ' F' H' α' β S R (s.trans T n) N1 (New.trans s n N2) (p.trans P)
theorem PostS.shift {r : Option (Rs Fl × Rho)} (s : Stp (Own α) F H F1 H1) (n : New (Own α) H (Own α1)) (p : Pin pins σ σ1) (h : PostS G E F H σ α pins r D) : PostS G E F1 H1 σ1 α1 pins r D :=
  PostG.shift s n h fun f ρ' => okS.shift s n p f ρ'
theorem PostS.nx (h : PostS G E F H σ α pins (some (.ok .nx, ρ)) D) (S : Ste G F H σ ρ α) : D.nx σ H := h σ F H α S .refl .refl .refl
theorem PostS.then {r : Option (Rs Fl × Rho)} {k : Rho → Option (Rs Fl × Rho)} {N : L2.St → Hp → Prop} (h : PostS G E F H σ α pins (sThen r k) D)
    (hk : ∀ ρ1 σ1 F1 H1 α1, Ste G F1 H1 σ1 ρ1 α1 → Stp (Own α) F H F1 H1 → New (Own α) H (Own α1) → Pin pins σ σ1 → PostS G E F H σ α pins (k ρ1) D → N σ1 H1) : PostS G E F H σ α pins r { D with nx := N } := by
  match r, h with
  | none, h => exact h
  | some (.ok .nx, ρ'), h => exact fun σ' F' H' α' S T N P => hk ρ' σ' F' H' α' S T N P h
  | some (.ok .bk, ρ'), h => exact h
  | some (.ok .ct, ρ'), h => exact h
  | some (.ok (.ret o), ρ'), h => exact h
  | some (.ex c none, _), h => exact h
  | some (.ex c (some fs), _), h => exact h
variable {t u : TS} {m n : MS} {te : TE} {ma : M} {tc : TT} {mc : M} {i : Nat}
theorem semS_seq (ht : SemS G E t m) (hu : SemS G E u n) : SemS G E (tSeq t u) (sSeq m n) := ⟨fun S h =>
  ht.run S (PostS.then h fun ρ1 σ1 F1 H1 α1 S1 T1 N1 P1 h1 => hu.run S1 (PostS.shift T1 N1 P1 h1))⟩
theorem semS_nx : SemS G E tNext sNx := ⟨fun S h => PostS.nx h S⟩
theorem semS_bk : SemS G E tBreak sBk := ⟨fun {F H σ ρ α D pins} S h => h σ F H α S .refl .refl .refl⟩
theorem semS_ct : SemS G E tCont sCt := ⟨fun {F H σ ρ α D pins} S h => h σ F H α S .refl .refl .refl⟩
theorem semS_if (hc : SemT G E tc mc) (ha : SemS G E t m) (hb : SemS G E u n) : SemS G E (tIfS tc t u) (sIf mc m n) := ⟨fun {F H σ ρ α D pins} S h => by
  refine hc.to S h (fun o ρ1 b F1 H1 α1 S1 hb1 T1 N1 hc h1 => ?_) fun o ρ1 hn h1 => ?_
  · obtain ⟨c, e⟩ := hc
    obtain rfl := hb1 c e
    try dsimp only at h1
    rw [e] at h1
    cases b with
    | true => exact ha.run S1 (PostS.shift T1 N1 .refl h1)
    | false => exact hb.run S1 (PostS.shift T1 N1 .refl h1)
  · try dsimp only at h1
    split at h1
    · rename_i e
      exact hn _ e
    · rename_i e
      exact hn _ e
    · exact h1⟩
theorem semS_ret (ha : Sem G E te ma) : SemS G E (tRet te) (sRet ma) := ⟨fun {F H σ ρ α D pins} S h =>
  ha.run S (PostG.bind h fun o ρ1 hp v F1 H1 α1 β S1 r1 T1 N1 N2 => hp v σ F1 H1 α1 β S1 r1 T1 N1 N2 .refl)⟩
theorem semS_retN : SemS G E tRetN sRetN := ⟨fun {F H σ ρ α D pins} S h => h .non σ F H α [] S ⟨rfl, Rep.ofNon⟩ .refl (fun _ z => nomatch z) (fun a z => by
    rcases z with z | z
    · exact .inl z
    · cases z) .refl⟩
theorem semS_drop (ha : Sem G E te ma) : SemS G E (tDrop te) (sDrop ma) := ⟨fun {F H σ ρ α D pins} S h =>
  ha.run S (Post.to h fun o ρ1 v F1 H1 α1 S1 r1 T1 N1 h1 => PostS.nx (PostS.shift T1 N1 .refl h1) S1)⟩

/-! ### a slot is stored -/
def Al.set (α : Al) (i : Nat) (β : List Addr) : Al := fun j => if j = i then β else α j
theorem Al.set_eq {α : Al} {i : Nat} {β : List Addr} : Al.set α i β i = β := if_pos rfl
theorem Al.set_ne {α : Al} {i j : Nat} {β : List Addr} (h : j ≠ i) : Al.set α i β j = α j := if_neg h
theorem Al.own_set {α : Al} {i : Nat} {β : List Addr} {a : Addr} (h : Own (Al.set α i β) a) : Own α a ∨ a ∈ β := by
  obtain ⟨j, hj⟩ := h
  by_cases e : j = i
  · subst e
    rw [Al.set_eq] at hj
    exact .inr hj
  · rw [Al.set_ne e] at hj
    exact .inl ⟨j, hj⟩
theorem Ste.store {o : O} {v : V} {β : List Addr} (S : Ste G F H σ ρ α) (r : RepO G F H β v o) (hβ : ∀ j, j ≠ i → ∀ a ∈ β, a ∉ α j) (hi : i < ρ.length) : Ste G F H (σ.set i (some v)) (ρ.set i (some o)) (Al.set α i β) where
  ex := S.ex
  len := by rw [List.length_set, List.length_set]; exact S.len
  slot := fun j x e => by
    by_cases q : j = i
    · subst q
      rw [List.getElem?_set_self hi] at e
      cases e
      exact ⟨v, List.getElem?_set_self (by rw [S.len]; exact hi), by rw [Al.set_eq]; exact r⟩
    · rw [List.getElem?_set_ne (Ne.symm q)] at e
      obtain ⟨w, h1, r1⟩ := S.slot j x e
      exact ⟨w, by rw [List.getElem?_set_ne (Ne.symm q)]; exact h1, by rw [Al.set_ne q]; exact r1⟩
  off := fun j h => by
    by_cases q : j = i
    · subst q
      exact absurd (List.getElem?_set_self hi) (h o)
    · rw [Al.set_ne q]
      exact S.off j fun x e => h x (by rw [List.getElem?_set_ne (Ne.symm q)]; exact e)
  dis := fun j k a ne hj hk => by
    by_cases q : j = i
    · subst q
      rw [Al.set_eq] at hj
      rw [Al.set_ne (Ne.symm ne)] at hk
      exact hβ k (Ne.symm ne) a hj hk
    · rw [Al.set_ne q] at hj
      by_cases q2 : k = i
      · subst q2
        rw [Al.set_eq] at hk
        exact hβ j q a hk hj
      · rw [Al.set_ne q2] at hk
        exact S.dis j k a ne hj hk
theorem setV_some {ρ' : Rho} {o : O} (h : setV pins i o ρ = some ρ') : i ∉ pins ∧ i < ρ.length ∧ ρ' = ρ.set i (some o) := by
  unfold setV at h
  split at h
  · cases h
  · split at h
    · cases h
      exact ⟨by assumption, by assumption, rfl⟩
    · cases h
theorem Pin.set {v : Option V} (h : i ∉ pins) : Pin pins σ (σ.set i v) := fun j hj => by
  rw [List.getElem?_set_ne]
  rintro rfl
  exact h hj
theorem semS_asgV (ha : Sem G E te ma) : SemS G E (tAsg te (gName i)) (sAsgV i ma) := ⟨fun {F H σ ρ α D pins} S h =>
  ha.run S (Post.to h fun o ρ1 v F1 H1 α1 S1 r1 T1 N1 h1 => by
    cases e : setV pins i (.val o.frz) ρ1 with
    | none => rw [e] at h1; exact h1.elim
    | some ρ2 =>
      rw [e] at h1
      obtain ⟨np, hi, rfl⟩ := setV_some e
      exact h1 _ F1 H1 _ (S1.store (β := []) ⟨rfl, r1⟩ (fun _ _ _ z => nomatch z) hi) T1 (fun a z => by
        rcases Al.own_set z with z | z
        · exact N1 a z
        · cases z) (Pin.set np))⟩
theorem semS_asgO (ha : Sem G E te ma) : SemS G E (tAsg te (gName i)) (sAsgO i ma) := ⟨fun {F H σ ρ α D pins} S h =>
  ha.run S (PostG.bind h fun o ρ1 h1 v F1 H1 α1 β S1 r1 T1 M1 N1 => by
    cases e : setV pins i o ρ1 with
    | none => rw [e] at h1; exact h1.elim
    | some ρ2 =>
      rw [e] at h1
      obtain ⟨np, hi, rfl⟩ := setV_some e
      exact h1 _ F1 H1 _ (S1.store r1 (fun j _ a ha hj => M1 a ha ⟨j, hj⟩) hi) T1 (fun a z => by
        rcases Al.own_set z with z | z
        · exact N1 a (.inl z)
        · exact N1 a (.inr z)) (Pin.set np))⟩

theorem g_name : GSem G (gName i) (.nm i) := fun {F H σ ρ α x d ρ' pins Q} S r e k => by
  unfold bindP at e
  obtain ⟨np, hi, rfl⟩ := setV_some e
  exact k _ _ (S.store (β := []) ⟨rfl, r⟩ (fun _ _ _ z => nomatch z) hi) (fun a z => by
    rcases Al.own_set z with z | z
    · exact z
    · cases z) (Pin.set np) ⟨fun j hj => by
    rw [List.getElem?_set_ne]
    rintro rfl
    exact hj (by simp [Pat.slots]), List.length_set ..⟩
theorem gs_nil : GsSem G gNil [] := fun {F H σ ρ α xs ds ρ' pins Q} S r e k => by
  cases ds with
  | nil =>
    unfold bindPs at e
    cases e
    exact ⟨r.of_nil, k σ α S (fun _ z => z) .refl ⟨fun _ _ => rfl, rfl⟩⟩
  | cons d ds =>
    unfold bindPs at e
    cases e
theorem gs_cons {g : TG} {gs : TGs} {p : Pat} {ps : List Pat} (h1 : GSem G g p) (h2 : GsSem G gs ps) : GsSem G (gCons g gs) (p :: ps) := fun {F H σ ρ α xs ds ρ' pins Q} S r e k => by
  cases ds with
  | nil =>
    unfold bindPs at e
    cases e
  | cons d ds =>
    unfold bindPs at e
    cases e1 : bindP pins p d ρ with
    | none => rw [e1] at e; cases e
    | some ρ1 =>
      rw [e1] at e
      obtain ⟨v, r', rfl, q, t⟩ := r.of_cons
      exact ⟨v, r', rfl, h1 S q e1 fun σ1 α1 S1 o1 P1 J1 => h2 S1 t e fun σ2 α2 S2 o2 P2 J2 => k σ2 α2 S2 (fun a z => o1 a (o2 a z)) (P1.trans P2) ⟨fun j hj => by
        unfold slotsL at hj
        rw [List.mem_append, not_or] at hj
        exact (J2.1 j hj.2).trans (J1.1 j hj.1), J2.2.trans J1.2⟩⟩
theorem g_tup {gs : TGs} {ps : List Pat} {n : Nat} (h : GsSem G gs ps) (hn : ps.length = n := by rfl) : GSem G (gTup G.K n gs) (.tu ps) := fun {F H σ ρ α x d ρ' pins Q} S r e k => by
  cases d with
  | tup ds =>
    unfold bindP at e
    split at e
    · rename_i hl
      unfold Rep at r
      obtain ⟨a, vs, rfl, h1, h2⟩ := r
      exact ⟨a, vs, rfl, SqT.of (S.ex _ _ h1), by rw [h2.length, hl, hn], h S h2 e fun σ' α' S' o' P' J' => k σ' α' S' o' P' ⟨fun j hj => J'.1 j (by unfold Pat.slots at hj; exact hj), J'.2⟩⟩
    · cases e
  | _ => unfold bindP at e; cases e
def sAsgP (p : Pat) (a : M) : MS := fun pins ρ => bnd (a ρ) fun o ρ1 => (bindP pins p o.frz ρ1).map fun ρ2 => (.ok .nx, ρ2)
theorem semS_asgP {g : TG} {p : Pat} (hg : GSem G g p) (ha : Sem G E te ma) : SemS G E (tAsg te g) (sAsgP p ma) := ⟨fun {F H σ ρ α D pins} S h =>
  ha.run S (Post.to h fun o ρ1 v F1 H1 α1 S1 r1 T1 N1 h1 => by
    cases e : bindP pins p o.frz ρ1 with
    | none => rw [e] at h1; exact h1.elim
    | some ρ2 =>
      rw [e] at h1
      exact hg S1 r1 e fun σ' α' S' o' P' _ => h1 σ' F1 H1 α' S' T1 (fun a z => N1 a (o' a z)) P')⟩
end
end VL

namespace VL
open PySem PySem.Spec
open PyProof.Rows L2
open Evl (Ex sz_of)

/-! ### what is walked -/
def ItSem (G : Cn) (F1 : Hp) (J : It) (ds : List D) : Prop := ∀ {F' H' : Hp} (i : Nat), Ex F1 F' → Ex F' H' →
  (i < ds.length → J.go i H') ∧ (ds.length ≤ i → J.stop i H') ∧ ∀ x H'' d, ds[i]? = some d → J.yld i H' x H'' →
    ∃ F'', Ex F' F'' ∧ Ex H' H'' ∧ (∀ b o, F'' b = some o → F' b = some o ∨ H' b = none) ∧ Ex F'' H'' ∧ Rep G F'' x d
abbrev MI := Rho → Option (List D × Rho)
structure SemI (G : Cn) (w : TI) (m : MI) : Prop where
  run : ∀ {F H σ ρ α ds ρ1} {R : It → Hp → Prop}, Ste G F H σ ρ α → m ρ = some (ds, ρ1) →
    (∀ J F1 H1 α1, Ste G F1 H1 σ ρ1 α1 → Stp (Own α) F H F1 H1 → New (Own α) H (Own α1) → ItSem G F1 J ds → R J H1) → w σ H R
/-- a list, a tuple that an expression gives -/
def iSeq (a : M) : MI := fun ρ => match a ρ with
  | some (.ok o, ρ1) => match o.frz with
    | .lst ds => some (ds, ρ1)
    | _ => none
  | _ => none
def iTupl (a : M) : MI := fun ρ => match a ρ with
  | some (.ok o, ρ1) => match o.frz with
    | .tup ds => some (ds, ρ1)
    | _ => none
  | _ => none
def range (lo : Int) (n : Nat) : List D := (List.range n).map fun (i : Nat) => D.int (lo + (i : Int))
def iRange1 (a : MA) : MI := fun ρ => match a ρ with
  | some (.ok [.d (.int j)], ρ1) => if -1000000 ≤ j ∧ j ≤ 1000000 then some (range 0 j.toNat, ρ1) else none
  | _ => none
def iRange2 (a : MA) : MI := fun ρ => match a ρ with
  | some (.ok [.d (.int i), .d (.int j)], ρ1) => if -1000000 ≤ i ∧ i ≤ 1000000 ∧ -1000000 ≤ j ∧ j ≤ 1000000 then some (range i (j - i).toNat, ρ1) else none
  | _ => none
section
variable {G : Cn} {E : XK} {F F1 F2 H H1 H2 : Hp} {σ σ1 : L2.St} {ρ ρ1 : Rho} {α α1 : Al}
theorem Ste.grow (S : Ste G F H σ ρ α) (eF : Ex F F1) (eH : Ex H H1) (nf : ∀ b o, F1 b = some o → F b = some o ∨ H b = none) (eX : Ex F1 H1) : Ste G F1 H1 σ ρ α where
  ex := eX
  len := S.len
  slot := fun i o e => by
    obtain ⟨v, h1, r⟩ := S.slot i o e
    refine ⟨v, h1, r.move eF (fun b hb => ?_) fun b hb u q => eH b u q⟩
    obtain ⟨f0, u, hu⟩ := r.mem b hb
    cases q : F1 b with
    | none => rfl
    | some u' =>
      rcases nf b u' q with z | z
      · rw [f0] at z; cases z
      · rw [hu] at z; cases z
  off := S.off
  dis := S.dis
theorem Stp.grow {A : Addr → Prop} (eF : Ex F F1) (eH : Ex H H1) (nf : ∀ b o, F1 b = some o → F b = some o ∨ H b = none) : Stp A F H F1 H1 :=
  ⟨eF, fun b o h _ => eH b o h, fun b o h => (nf b o h).elim .inl fun z => .inr (.inl z)⟩
theorem Post.okEnd {a : M} {o : O} {R : VK} (e : a ρ = some (.ok o, ρ1))
    (hk : ∀ v F1 H1 α1, Ste G F1 H1 σ ρ1 α1 → Rep G F1 v o.frz → Stp (Own α) F H F1 H1 → New (Own α) H (Own α1) → R v H1) : Post G E F H σ α (a ρ) R := by
  rw [e]
  exact fun v F1 H1 α1 β S r T N1 N2 => by
    obtain ⟨F2, S2, r2, T2, N3⟩ := S.freeze r T N1 N2
    exact hk v F2 H1 α1 S2 r2 T2 N3
theorem it_list {a : Addr} {vs : List V} {ds : List D} (h : F1 a = some (.lst vs)) (r : Reps G F1 vs ds) : ItSem G F1 (Itl G.K a) ds := fun {F' H'} i e1 e2 => by
  have hs : SqL G.K H' a vs := SqL.of ((e1.trans e2) _ _ h)
  refine ⟨fun hi => ?_, fun hi => ?_, fun x H'' d hd y => ?_⟩
  · have hi' : i < vs.length := by rw [r.length]; exact hi
    exact ⟨vs, vs[i], hs, by simp [hi']⟩
  · exact ⟨vs, hs, by rw [r.length]; exact hi⟩
  · obtain ⟨rfl, y⟩ := y
    obtain ⟨v, h1, h2⟩ := r.get hd
    have := y vs hs
    rw [h1] at this
    cases this
    exact ⟨F', Ex.refl F', Ex.refl _, fun _ _ z => .inl z, e2, h2.mono e1⟩
theorem it_tup {a : Addr} {vs : List V} {ds : List D} (h : F1 a = some (.tup vs)) (r : Reps G F1 vs ds) : ItSem G F1 (Itt G.K a) ds := fun {F' H'} i e1 e2 => by
  have hs : SqT G.K H' a vs := SqT.of ((e1.trans e2) _ _ h)
  refine ⟨fun hi => ?_, fun hi => ?_, fun x H'' d hd y => ?_⟩
  · have hi' : i < vs.length := by rw [r.length]; exact hi
    exact ⟨vs, vs[i], hs, by simp [hi']⟩
  · exact ⟨vs, hs, by rw [r.length]; exact hi⟩
  · obtain ⟨rfl, y⟩ := y
    obtain ⟨v, h1, h2⟩ := r.get hd
    have := y vs hs
    rw [h1] at this
    cases this
    exact ⟨F', Ex.refl F', Ex.refl _, fun _ _ z => .inl z, e2, h2.mono e1⟩
theorem range_get {lo : Int} {n i : Nat} {d : D} (h : (range lo n)[i]? = some d) : i < n ∧ d = .int (lo + i) := by
  unfold range at h
  rw [List.getElem?_map] at h
  cases e : (List.range n)[i]? with
  | none => rw [e] at h; cases h
  | some j =>
    rw [e] at h
    cases h
    obtain ⟨h1, h2⟩ := List.getElem?_eq_some_iff.mp e
    rw [List.length_range] at h1
    rw [List.getElem_range] at h2
    subst h2
    exact ⟨h1, rfl⟩
theorem range_len {lo : Int} {n : Nat} : (range lo n).length = n := by
  unfold range
  rw [List.length_map, List.length_range]
theorem it_range {lo : Int} {n : Nat} : ItSem G F1 (Itr lo n) (range lo n) := fun {F' H'} i e1 e2 => by
  refine ⟨fun hi => ?_, fun hi => ?_, fun x H'' d hd y => ?_⟩
  · rw [range_len] at hi; exact hi
  · rw [range_len] at hi; exact hi
  · obtain ⟨rfl, rfl⟩ := y
    obtain ⟨_, rfl⟩ := range_get hd
    exact ⟨F', Ex.refl F', Ex.refl _, fun _ _ z => .inl z, e2, Rep.ofInt⟩
theorem semI_list {tl : TE} {a : M} (ha : Sem G E tl a) : SemI G (iList G.K tl) (iSeq a) := ⟨fun {F H σ ρ α ds ρ1 R} S e k => by
  unfold iSeq at e
  split at e
  · rename_i o ρ' e1
    split at e
    · rename_i ds' e2
      cases e
      refine ha.run S (Post.okEnd e1 fun v F1 H1 α1 S1 r1 T1 N1 => ?_)
      rw [e2] at r1
      unfold Rep at r1
      obtain ⟨p, vs, rfl, h1, h2⟩ := r1
      exact ⟨p, rfl, ⟨vs, SqL.of (S1.ex _ _ h1)⟩, k _ F1 H1 α1 S1 T1 N1 (it_list h1 h2)⟩
    · cases e
  · cases e⟩
theorem semI_tup {tl : TE} {a : M} (ha : Sem G E tl a) : SemI G (iTup G.K tl) (iTupl a) := ⟨fun {F H σ ρ α ds ρ1 R} S e k => by
  unfold iTupl at e
  split at e
  · rename_i o ρ' e1
    split at e
    · rename_i ds' e2
      cases e
      refine ha.run S (Post.okEnd e1 fun v F1 H1 α1 S1 r1 T1 N1 => ?_)
      rw [e2] at r1
      unfold Rep at r1
      obtain ⟨p, vs, rfl, h1, h2⟩ := r1
      exact ⟨p, rfl, ⟨vs, SqT.of (S1.ex _ _ h1)⟩, k _ F1 H1 α1 S1 T1 N1 (it_tup h1 h2)⟩
    · cases e
  · cases e⟩
theorem PostA.okEnd {a : MA} {xs : List AI} {R : List V → Hp → Prop} (e : a ρ = some (.ok xs, ρ1))
    (hk : ∀ vs F1 H1 α1, Ste G F1 H1 σ ρ1 α1 → RepA G F1 σ vs xs → Stp (Own α) F H F1 H1 → New (Own α) H (Own α1) → R vs H1) : PostA G E F H σ α (a ρ) R := by
  rw [e]
  exact fun vs F1 H1 α1 S r T N => hk vs F1 H1 α1 S r T N
theorem RepA.one {vs : List V} {d : D} (h : RepA G F σ vs [.d d]) : ∃ v, vs = [v] ∧ Rep G F v d := by
  obtain ⟨v, ws, rfl, e2, e3⟩ := h
  obtain rfl : ws = [] := e3
  exact ⟨v, rfl, e2⟩
theorem RepA.two {vs : List V} {d e : D} (h : RepA G F σ vs [.d d, .d e]) : ∃ v w, vs = [v, w] ∧ Rep G F v d ∧ Rep G F w e := by
  obtain ⟨v, ws, rfl, e2, e3⟩ := h
  obtain ⟨w, rfl, q⟩ := RepA.one e3
  exact ⟨v, w, rfl, e2, q⟩
theorem Rep.toInt {v : V} {i : Int} (h : Rep G F v (.int i)) : v = .int i := by unfold Rep at h; exact h
theorem semI_range1 {ta : TA} {a : MA} (ha : SemA G E ta a) : SemI G (iRng1 ta) (iRange1 a) := ⟨fun {F H σ ρ α ds ρ1 R} S e k => by
  unfold iRange1 at e
  split at e
  · rename_i j ρ' e1
    split at e
    · rename_i hj
      cases e
      refine ha.run S (PostA.okEnd e1 fun vs F1 H1 α1 S1 r1 T1 N1 => ?_)
      obtain ⟨v, rfl, q⟩ := r1.one
      obtain rfl := q.toInt
      exact ⟨j, rfl, by omega, by omega, k _ F1 H1 α1 S1 T1 N1 it_range⟩
    · cases e
  · cases e⟩
theorem semI_range2 {ta : TA} {a : MA} (ha : SemA G E ta a) : SemI G (iRng2 ta) (iRange2 a) := ⟨fun {F H σ ρ α ds ρ1 R} S e k => by
  unfold iRange2 at e
  split at e
  · rename_i i j ρ' e1
    split at e
    · rename_i hj
      cases e
      refine ha.run S (PostA.okEnd e1 fun vs F1 H1 α1 S1 r1 T1 N1 => ?_)
      obtain ⟨v, w, rfl, q, q'⟩ := r1.two
      obtain rfl := q.toInt
      obtain rfl := q'.toInt
      exact ⟨i, j, rfl, ⟨by omega, by omega, by omega, by omega⟩, k _ F1 H1 α1 S1 T1 N1 it_range⟩
    · cases e
  · cases e⟩
end

/-! ### for, while -/
def forLoop (p : Pat) (b : List Nat → Rho → Option (Rs Fl × Rho)) (pins : List Nat) : List D → Rho → Option (Rs Fl × Rho)
  | [], ρ => some (.ok .nx, ρ)
  | d :: ds, ρ => (bindP pins p d ρ).bind fun ρ1 => match b pins ρ1 with
    | some (.ok .nx, ρ2) => forLoop p b pins ds ρ2
    | some (.ok .ct, ρ2) => forLoop p b pins ds ρ2
    | some (.ok .bk, ρ2) => some (.ok .nx, ρ2)
    | x => x
def sFor (mi : MI) (p : Pat) (b : MS) : MS := fun pins ρ => (mi ρ).bind fun x => forLoop p b pins x.1 x.2
def whileLoop (c : M) (b : MS) (pins : List Nat) : Nat → Rho → Option (Rs Fl × Rho)
  | 0, _ => none
  | n + 1, ρ => bnd (c ρ) fun x ρ1 => match x.frz with
    | .bl true => (match b pins ρ1 with
      | some (.ok .nx, ρ2) => whileLoop c b pins n ρ2
      | some (.ok .ct, ρ2) => whileLoop c b pins n ρ2
      | some (.ok .bk, ρ2) => some (.ok .nx, ρ2)
      | x => x)
    | .bl false => some (.ok .nx, ρ1)
    | _ => none
def sWhile (n : Nat) (c : M) (b : MS) : MS := fun pins ρ => whileLoop c b pins n ρ
section
variable {G : Cn} {E : XK} {t : TS} {b : MS} {g : TG} {p : Pat} {wi : TI} {mi : MI} {tc : TT} {mc : M}
/-- the turn's end: go on with k, or leave -/
theorem PostS.turn {F0 H0 F H : Hp} {σ0 σ : L2.St} {α0 α : Al} {pins : List Nat} {D : Ends} {N : L2.St → Hp → Prop} {r : Option (Rs Fl × Rho)} {k : Rho → Option (Rs Fl × Rho)}
    (T : Stp (Own α0) F0 H0 F H) (M : New (Own α0) H0 (Own α)) (Q : Pin pins σ0 σ)
    (h : PostS G E F0 H0 σ0 α0 pins (match r with
      | some (.ok .nx, ρ2) => k ρ2
      | some (.ok .ct, ρ2) => k ρ2
      | some (.ok .bk, ρ2) => some (.ok .nx, ρ2)
      | x => x) D)
    (hk : ∀ ρ1 σ1 F1 H1 α1, Ste G F1 H1 σ1 ρ1 α1 → Stp (Own α) F H F1 H1 → New (Own α) H (Own α1) → Pin pins σ σ1 → PostS G E F0 H0 σ0 α0 pins (k ρ1) D → N σ1 H1) : PostS G E F H σ α pins r { D with nx := N, ct := N, bk := D.nx } := by
  match r, h with
  | none, h => exact h
  | some (.ok .nx, ρ'), h => exact fun σ' F' H' α' S T N P => hk ρ' σ' F' H' α' S T N P h
  | some (.ok .bk, ρ'), h => exact okS.shift T M Q .nx ρ' h
  | some (.ok .ct, ρ'), h => exact fun σ' F' H' α' S T N P => hk ρ' σ' F' H' α' S T N P h
  | some (.ok (.ret o), ρ'), h => exact okS.shift T M Q (.ret o) ρ' h
  | some (.ex c none, _), h => exact fun F' H' T' => h F' H' (T.trans T' M)
  | some (.ex c (some fs), _), h => exact fun F' H' dd fvs T' d3 d4 => h F' H' dd fvs (T.trans T' M) d3 d4
theorem SemT.toB {F0 H0 F H : Hp} {α0 : Al} {σ : L2.St} {ρ : Rho} {α : Al} {B : Type} {k : O → Rho → Option (Rs B × Rho)} {okQ : B → Rho → Prop} {R : Bool → Hp → Prop} (ht : SemT G E tc mc) (S : Ste G F H σ ρ α)
    (T0 : Stp (Own α0) F0 H0 F H) (N0 : New (Own α0) H0 (Own α)) (h : PostG G E F0 H0 α0 okQ (bnd (mc ρ) k))
    (hk : ∀ o ρ1 b F1 H1 α1, Ste G F1 H1 σ ρ1 α1 → o.frz = .bl b → Stp (Own α) F H F1 H1 → New (Own α) H (Own α1) → PostG G E F0 H0 α0 okQ (k o ρ1) → R b H1)
    (hk0 : ∀ o ρ1, (∀ c, o.frz ≠ .bl c) → PostG G E F0 H0 α0 okQ (k o ρ1) → False) : tc σ H R := by
  refine ht.run S ?_
  match hm : mc ρ, h with
  | none, h => exact h
  | some (.ok o, ρ1), h =>
    exact fun v F1 H1 α1 β S1 r1 T1 M1 N1 => by
      obtain ⟨F2, S2, r2, T2, N3⟩ := S1.freeze r1 T1 M1 N1
      by_cases q : ∃ c, o.frz = .bl c
      · obtain ⟨c, e⟩ := q
        exact ⟨c, frz_bl (H := H) r2 e, hk o ρ1 c F2 H1 α1 S2 e T2 N3 h⟩
      · exact (hk0 o ρ1 (fun c e => q ⟨c, e⟩) h).elim
  | some (.ex c none, _), h => exact fun F' H' T' => h F' H' (T0.trans T' N0)
  | some (.ex c (some fs), _), h => exact fun F' H' dd fvs T' d3 d4 => h F' H' dd fvs (T0.trans T' N0) d3 d4
theorem drop_get {A : Type} {l : List A} {i : Nat} {d : A} (h : l[i]? = some d) : l.drop i = d :: l.drop (i + 1) := by
  obtain ⟨h1, h2⟩ := List.getElem?_eq_some_iff.mp h
  rw [← h2]
  exact List.drop_eq_getElem_cons h1
theorem semS_for (hi : SemI G wi mi) (hg : GSem G g p) (hb : SemS G E t b) : SemS G E (tFor wi g t) (sFor mi p b) := ⟨fun {F H σ ρ α D pins} S h => by
  unfold sFor at h
  cases e : mi ρ with
  | none => rw [e] at h; exact h.elim
  | some x =>
    obtain ⟨ds, ρ1⟩ := x
    rw [e] at h
    refine hi.run S e fun J F1 H1 α1 S1 T1 N1 it => ?_
    refine ⟨fun i m σ' H' => m = ds.length - i ∧ i ≤ ds.length ∧ ∃ F' ρ' α', Ste G F' H' σ' ρ' α' ∧ Ex F1 F' ∧ Stp (Own α) F H F' H' ∧ New (Own α) H (Own α') ∧ Pin pins σ σ' ∧ PostS G E F H σ α pins (forLoop p b pins (ds.drop i) ρ') D,
      ⟨ds.length, by simp, Nat.zero_le _, F1, ρ1, α1, S1, Ex.refl F1, T1, N1, .refl, h⟩, ?_⟩
    rintro i m σ' H' ⟨rfl, hi, F', ρ', α', S', e1, T', N', P', h'⟩
    obtain ⟨i1, i2, i3⟩ := it i e1 S'.ex
    by_cases hlt : i < ds.length
    · refine .inr ⟨i1 hlt, _, fun σ2 H2 n2 => ⟨ds.length - (i + 1), by omega, n2⟩, fun x H'' y => ?_⟩
      obtain ⟨d, hd⟩ : ∃ d, ds[i]? = some d := ⟨ds[i], by simp [hlt]⟩
      obtain ⟨F'', f1, f2, f3, f4, rx⟩ := i3 x H'' d hd y
      have S2 := S'.grow f1 f2 f3 f4
      have T2 : Stp (Own α) F H F'' H'' := T'.trans (Stp.grow (A := Own α') f1 f2 f3) N'
      rw [drop_get hd] at h'
      unfold forLoop at h'
      cases e2 : bindP pins p d ρ' with
      | none => rw [e2] at h'; exact h'.elim
      | some ρ2 =>
        rw [e2] at h'
        refine hg S2 rx e2 fun σ2 α2 S3 o3 P3 _ => ?_
        have N3 : New (Own α) H (Own α2) := fun a z => N' a (o3 a z)
        refine hb.run S3 (PostS.turn T2 N3 (P'.trans P3) h' fun ρ3 σ3 F3 H3 α3 S4 T4 N4 P4 h4 => ?_)
        refine ⟨rfl, hlt, F3, ρ3, α3, S4, (e1.trans f1).trans T4.exF, T2.trans T4 N3, New.trans T2 N3 N4, (P'.trans P3).trans P4, h4⟩
    · refine .inl ⟨i2 (by omega), ?_⟩
      rw [List.drop_of_length_le (by omega)] at h'
      exact h' σ' F' H' α' S' T' N' P'⟩
theorem semS_while {n : Nat} (hc : SemT G E tc mc) (hb : SemS G E t b) : SemS G E (tWhile tc t) (sWhile n mc b) := ⟨fun {F H σ ρ α D pins} S h => by
  refine ⟨fun m σ' H' => ∃ F' ρ' α', Ste G F' H' σ' ρ' α' ∧ Stp (Own α) F H F' H' ∧ New (Own α) H (Own α') ∧ Pin pins σ σ' ∧ PostS G E F H σ α pins (whileLoop mc b pins m ρ') D,
    ⟨n, F, ρ, α, S, .refl, .refl, .refl, h⟩, ?_⟩
  rintro m σ' H' ⟨F', ρ', α', S', T', N', P', h'⟩
  cases m with
  | zero => exact h'.elim
  | succ m =>
    unfold whileLoop at h'
    refine hc.toB S' T' N' h' (fun o ρ1 c F1 H1 α1 S1 hb1 T1 N1 h1 => ?_) fun o ρ1 hn h1 => ?_
    · try dsimp only at h1
      rw [hb1] at h1
      have T2 := T'.trans T1 N'
      have N2 := New.trans T' N' N1
      cases c with
      | false => exact h1 σ' F1 H1 α1 S1 T2 N2 P'
      | true =>
        refine ⟨_, fun σ2 H2 n2 => ⟨m, Nat.lt_succ_self m, n2⟩, hb.run S1 (PostS.turn T2 N2 P' h1 fun ρ3 σ3 F3 H3 α3 S4 T4 N4 P4 h4 => ?_)⟩
        exact ⟨F3, ρ3, α3, S4, T2.trans T4 N2, New.trans T2 N2 N4, P'.trans P4, h4⟩
    · try dsimp only at h1
      split at h1
      · rename_i e
        exact hn _ e
      · rename_i e
        exact hn _ e
      · exact h1⟩
end
end VL

namespace VL
open PySem PySem.Spec
open PyProof.Rows L2
open Evl (Ex sz_of)

/-! ### defs -/
abbrev Fn := List O → Option (Res × List O)
def retR (r : Option (Res × List O)) : Option (Res × Rho) := r.map fun x => (x.1, x.2.map some)
/-- a def's promise: from arguments as they are to what fn says -/
def spF (G : Cn) (fn : Fn) (n : Nat) : Sp := fun vs H Q E => vs.length = n ∧ ∃ F os α, Ste G F H (vs.map some) (os.map some) α ∧ Post G E F H (vs.map some) α (retR (fn os)) Q
def fin : List O → Rho → Option (List O)
  | [], _ => some []
  | o :: os, ρ => match o.isOwn, ρ with
    | false, _ :: r => (fin os r).map (o :: ·)
    | true, some o' :: r => (fin os r).map (o' :: ·)
    | _, _ => none
def pinsAux : Nat → List O → List Nat
  | _, [] => []
  | i, o :: os => if o.isOwn then i :: pinsAux (i + 1) os else pinsAux (i + 1) os
def mFn (np N : Nat) (body : MS) : Fn := fun os => if os.length = np ∧ np ≤ N then (match body (pinsAux 0 os) (os.map some ++ List.replicate (N - np) none) with
  | some (.ok .nx, ρ') => (fin os ρ').map fun os' => (.ok (.val .non), os')
  | some (.ok (.ret o), ρ') => (fin os ρ').map fun os' => (.ok o, os')
  | some (.ex c fs, _) => some (.ex c fs, os)
  | _ => none) else none
/-- a def that raises nothing -/
def mFn0 (np N : Nat) (body : MS) : Fn := fun os => match mFn np N body os with
  | some (.ok o, os') => some (.ok o, os')
  | _ => none
theorem pinsAux_mem : ∀ {os : List O} {k j : Nat} {o : O}, os[j]? = some o → o.isOwn = true → k + j ∈ pinsAux k os
  | [], k, j, o, h, _ => by simp at h
  | o' :: os, k, 0, o, h, e => by
    have : o' = o := by simpa using h
    subst this
    unfold pinsAux
    rw [if_pos e]
    exact List.mem_cons_self
  | o' :: os, k, j + 1, o, h, e => by
    have q := pinsAux_mem (k := k + 1) (j := j) (by simpa using h) e
    have e1 : k + (j + 1) = k + 1 + j := by omega
    rw [e1]
    unfold pinsAux
    split
    · exact List.mem_cons_of_mem _ q
    · exact q
theorem fin_get : ∀ {os os' : List O} {ρ : Rho}, fin os ρ = some os' → os'.length = os.length ∧ ∀ (i : Nat) o', os'[i]? = some o' → ∃ o, os[i]? = some o ∧ ((o.isOwn = false ∧ o' = o) ∨ (o.isOwn = true ∧ ρ[i]? = some (some o')))
  | [], os', ρ, h => by
    cases h
    exact ⟨rfl, fun i o' e => by simp at e⟩
  | o :: os, os', ρ, h => by
    unfold fin at h
    split at h
    · rename_i e0
      cases q : fin os _ with
      | none => rw [q] at h; cases h
      | some r =>
        rw [q] at h
        cases h
        obtain ⟨l, g⟩ := fin_get q
        refine ⟨by simp [l], fun i o' e => ?_⟩
        cases i with
        | zero => exact ⟨o, rfl, .inl ⟨e0, by simpa using e.symm⟩⟩
        | succ i =>
          obtain ⟨u, h1, h2⟩ := g i o' (by simpa using e)
          exact ⟨u, by simpa using h1, by simpa using h2⟩
    · rename_i o1 r1 e0
      cases q : fin os _ with
      | none => rw [q] at h; cases h
      | some r =>
        rw [q] at h
        cases h
        obtain ⟨l, g⟩ := fin_get q
        refine ⟨by simp [l], fun i o' e => ?_⟩
        cases i with
        | zero =>
          refine ⟨o, rfl, .inr ⟨e0, ?_⟩⟩
          have : o1 = o' := by simpa using e
          subst this
          rfl
        | succ i =>
          obtain ⟨u, h1, h2⟩ := g i o' (by simpa using e)
          exact ⟨u, by simpa using h1, by simpa using h2⟩
    · cases h
section
variable {G : Cn} {E : XK} {F F1 H H1 : Hp} {σ : L2.St} {ρ : Rho} {α α1 : Al}
theorem map_get {A B : Type} {f : A → B} {l : List A} {i : Nat} {x : B} (h : (l.map f)[i]? = some x) : ∃ y, l[i]? = some y ∧ f y = x := by
  rw [List.getElem?_map] at h
  cases e : l[i]? with
  | none => rw [e] at h; cases h
  | some y =>
    rw [e] at h
    exact ⟨y, rfl, Option.some.inj h⟩
def selA (os : List O) (α : Al) (i : Nat) : List Addr := match os[i]? with
  | some o => (match o.isOwn with | true => α i | false => [])
  | none => []
theorem selA_own {os : List O} {o : O} {i : Nat} (h : os[i]? = some o) (h2 : o.isOwn = true) : selA os α i = α i := by
  unfold selA
  rw [h]
  dsimp only
  rw [h2]
theorem selA_val {os : List O} {o : O} {i : Nat} (h : os[i]? = some o) (h2 : o.isOwn = false) : selA os α i = [] := by
  unfold selA
  rw [h]
  dsimp only
  rw [h2]
theorem selA_none {os : List O} {i : Nat} (h : os[i]? = none) : selA os α i = [] := by
  unfold selA
  rw [h]
theorem selA_mem {os : List O} {a : Addr} {i : Nat} (h : a ∈ selA os α i) : a ∈ α i := by
  unfold selA at h
  split at h
  · split at h
    · exact h
    · cases h
  · cases h
/-- the arguments behind the body -/
theorem Ste.fin {vs : List V} {os os' : List O} {N : Nat} {σ' : L2.St} {ρ' : Rho} {α' : Al} (S0 : Ste G F H (vs.map some) (os.map some) α) (S : Ste G F1 H1 σ' ρ' α') (T : Stp (Own α) F H F1 H1)
    (P : Pin (pinsAux 0 os) (vs.map some ++ List.replicate N none) σ') (h : fin os ρ' = some os') : ∃ α2, Ste G F1 H1 (vs.map some) (os'.map some) α2 ∧ ∀ a, Own α2 a → Own α' a := by
  obtain ⟨l, g⟩ := fin_get h
  have lv : vs.length = os.length := by
    have := S0.len
    simpa using this
  refine ⟨selA os α', ⟨S.ex, by simp [l, lv], fun i o' e => ?_, fun i hi => ?_, fun i j a ne hi hj => S.dis i j a ne (selA_mem hi) (selA_mem hj)⟩, fun a ⟨i, hi⟩ => ⟨i, selA_mem hi⟩⟩
  · obtain ⟨o1, e1, e2⟩ := map_get e
    cases e2
    obtain ⟨o, h1, h2⟩ := g i o' e1
    obtain ⟨v, hv, r⟩ := S0.slot i o (by rw [List.getElem?_map, h1]; rfl)
    obtain ⟨v', hv', q⟩ := map_get hv
    cases q
    refine ⟨v, hv, ?_⟩
    rcases h2 with ⟨h2, rfl⟩ | ⟨h2, h3⟩
    · rw [selA_val h1 h2]
      cases o' with
      | val d => exact ⟨rfl, r.2.mono T.exF⟩
      | _ => cases h2
    · rw [selA_own h1 h2]
      obtain ⟨w, hw, rw'⟩ := S.slot i o' h3
      have hp := P i (by have := pinsAux_mem (k := 0) h1 h2; rwa [Nat.zero_add] at this)
      have hil : i < vs.length := (List.getElem?_eq_some_iff.mp hv').1
      rw [hw, List.getElem?_append_left (by rw [List.length_map]; exact hil), hv] at hp
      cases hp
      exact rw'
  · cases e : os[i]? with
    | none => exact selA_none e
    | some o =>
      have hil : i < os'.length := by rw [l]; exact (List.getElem?_eq_some_iff.mp e).1
      exact absurd (by rw [List.getElem?_map, List.getElem?_eq_getElem hil]; rfl) (hi os'[i])
theorem Ste.start {vs : List V} {os : List O} {N : Nat} (S : Ste G F H (vs.map some) (os.map some) α) : Ste G F H (vs.map some ++ List.replicate N none) (os.map some ++ List.replicate N none) α where
  ex := S.ex
  len := by
    have := S.len
    simp at this ⊢
    exact this
  slot := fun i o e => by
    have hl : i < (os.map some).length := by
      refine Nat.lt_of_not_le fun hle => ?_
      rw [List.getElem?_append_right hle, List.getElem?_replicate] at e
      split at e
      · cases e
      · cases e
    rw [List.getElem?_append_left hl] at e
    obtain ⟨v, h1, r⟩ := S.slot i o e
    exact ⟨v, by rw [List.getElem?_append_left (by rw [S.len]; exact hl)]; exact h1, r⟩
  off := fun i h => S.off i fun o e => h o (by rw [List.getElem?_append_left (List.getElem?_eq_some_iff.mp e).1]; exact e)
  dis := S.dis
variable {P : Program} {w : World} {K : PySem.W.Frag} {mg : Str → Option Value} {base : Heap} {cl : Nat → Addr}
theorem body_run {t : TS} {m : MS} {vs : List V} {os : List O} {np N : Nat} {Q : VK} (hm : SemS G E t m) (S : Ste G F H (vs.map some) (os.map some) α) (hv : vs.length = np) (h : Post G E F H (vs.map some) α (retR (mFn np N m os)) Q) :
    t { nx := fun _ H' => Q .non H', rt := Q } (vs.map some ++ List.replicate (N - np) none) H := by
  unfold mFn at h
  split at h
  · rename_i hl
    refine hm.run (pins := pinsAux 0 os) S.start ?_
    match e : m (pinsAux 0 os) (os.map some ++ List.replicate (N - np) none), h with
    | none, h => exact h
    | some (.ok .nx, ρ'), h =>
      intro σ' F' H' α' S' T' N' P'
      try dsimp only at h
      cases q : fin os ρ' with
      | none => rw [q] at h; exact h.elim
      | some os' =>
        rw [q] at h
        obtain ⟨α2, S2, o2⟩ := Ste.fin S S' T' P' q
        exact h .non F' H' α2 [] S2 ⟨rfl, Rep.ofNon⟩ T' (fun _ z => nomatch z) fun a z => by
          rcases z with z | z
          · exact N' a (o2 a z)
          · cases z
    | some (.ok (.ret o), ρ'), h =>
      intro v σ' F' H' α' β S' R' T' M' N' P'
      try dsimp only at h
      cases q : fin os ρ' with
      | none => rw [q] at h; exact h.elim
      | some os' =>
        rw [q] at h
        obtain ⟨α2, S2, o2⟩ := Ste.fin S S' T' P' q
        exact h v F' H' α2 β S2 R' T' (fun a z z2 => M' a z (o2 a z2)) fun a z => by
          rcases z with z | z
          · exact N' a (.inl (o2 a z))
          · exact N' a (.inr z)
    | some (.ok .bk, ρ'), h => exact h.elim
    | some (.ok .ct, ρ'), h => exact h.elim
    | some (.ex c none, ρ'), h => exact h
    | some (.ex c (some fs), ρ'), h => exact h
  · exact h.elim
/-- THE RULE for a def that raises nothing -/
theorem fn_ok0 {x qual : Str} {st : Stmt} {f : Addr} {fd : FuncData} {Ns ps : List Str} {k np : Nat} {m : MS} (Fu : L2.Fun K x qual st f fd) (S : FnScope Ns ps (defScope st)) (hp : ps.length = np) (hN : np ≤ Ns.length)
    (hbody : ∀ (cdv : Value) (A : Around) (outer : List Env) (s : Shared) (H : Hp) (E : XK), Room k (A.deeper (envOfC qual (defScope st) s.heap.objs.size f cdv)) →
      ∃ t, PSs (cxOf CX0 P w K mg base Ns qual (defScope st) f cdv A outer s H E).nox (defBody st) t ∧ SemS ⟨K, cl⟩ E0 t m) : FnOk P w K mg base CX0 (k + 1) f fd ps (spF ⟨K, cl⟩ (mFn0 np Ns.length m) np) := by
  refine Fu.ok S (fun vs H Q E h => ?_) (fun cdv A outer s H vs Q E hr h => ?_)
  · exact h.1.trans hp.symm
  · obtain ⟨hv, F, os, α, S0, h⟩ := h
    obtain ⟨t, ht, hm⟩ := hbody cdv A outer s H E hr
    refine ⟨t, ht, ?_⟩
    have e : L2.start Ns vs = vs.map some ++ List.replicate (Ns.length - np) none := by
      unfold L2.start
      rw [hv]
    rw [e]
    refine body_run (Q := Q) hm S0 hv (np := np) (N := Ns.length) ?_
    unfold mFn0 at h
    match q : mFn np Ns.length m os, h with
    | none, h => exact h
    | some (.ok o, os'), h => exact h
    | some (.ex c f, os'), h => exact h.elim
end
end VL

namespace VL
open PySem PySem.Spec
open PyProof.Rows L2
open Evl (Ex sz_of)

/-! ### calls -/
def dsOnly : List AI → Option (List D)
  | [] => some []
  | .d x :: r => (dsOnly r).map (x :: ·)
  | .io _ :: _ => none
def splitIo : List AI → Option (List D × Option (Nat × List D))
  | [] => some ([], none)
  | .d x :: r => (splitIo r).map fun p => (x :: p.1, p.2)
  | .io i :: r => (dsOnly r).map fun post => ([], some (i, post))
def mCall (fn : Fn) (ms : MA) : M := fun ρ => bnd (ms ρ) fun ais ρ1 => match splitIo ais with
  | none => none
  | some (ds, none) => (match fn (ds.map .val) with
    | some (r, _) => some (r, ρ1)
    | none => none)
  | some (pre, some (i, post)) => (match ρ1[i]? with
    | some (some o) => (match fn (pre.map .val ++ o :: post.map .val) with
      | none => none
      | some (.ok r, os') => (match os'[pre.length]? with
        | some o' => some (.ok r, ρ1.set i (some o'))
        | none => none)
      | some (.ex c fs, _) => some (.ex c fs, ρ1))
    | _ => none)
section
variable {G : Cn} {E : XK} {F F1 H H1 : Hp} {σ : L2.St} {ρ ρ1 : Rho} {α α1 : Al}
theorem dsOnly_r : ∀ {vs : List V} {xs : List AI} {ds : List D}, RepA G F σ vs xs → dsOnly xs = some ds → Reps G F vs ds
  | _, [], ds, h, e => by
    cases e
    rw [show _ = [] from h]
    exact Reps.nil
  | _, .d x :: r, ds, h, e => by
    obtain ⟨v, ws, rfl, e2, e3⟩ := h
    unfold dsOnly at e
    cases q : dsOnly r with
    | none => rw [q] at e; cases e
    | some es =>
      rw [q] at e
      cases e
      exact Reps.cons e2 (dsOnly_r e3 q)
  | _, .io i :: r, ds, h, e => by cases e
theorem split_r : ∀ {vs : List V} {xs : List AI} {pre : List D} {t : Option (Nat × List D)}, RepA G F σ vs xs → splitIo xs = some (pre, t) →
    match t with
    | none => Reps G F vs pre
    | some (i, post) => ∃ ws v us, vs = ws ++ v :: us ∧ Reps G F ws pre ∧ σ[i]? = some (some v) ∧ Reps G F us post
  | _, [], pre, t, h, e => by
    cases e
    rw [show _ = [] from h]
    exact Reps.nil
  | _, .d x :: r, pre, t, h, e => by
    obtain ⟨v, ws, rfl, e2, e3⟩ := h
    unfold splitIo at e
    cases q : splitIo r with
    | none => rw [q] at e; cases e
    | some p =>
      obtain ⟨p1, p2⟩ := p
      rw [q] at e
      cases e
      have ih := split_r e3 q
      match p2, ih with
      | none, ih => exact Reps.cons e2 ih
      | some (i, post), ih =>
        obtain ⟨ws', v', us, rfl, h1, h2, h3⟩ := ih
        exact ⟨v :: ws', v', us, rfl, Reps.cons e2 h1, h2, h3⟩
  | _, .io i :: r, pre, t, h, e => by
    obtain ⟨v, ws, rfl, e2, e3⟩ := h
    unfold splitIo at e
    cases q : dsOnly r with
    | none => rw [q] at e; cases e
    | some post =>
      rw [q] at e
      cases e
      exact ⟨[], v, ws, rfl, Reps.nil, e2, dsOnly_r e3 q⟩
/-- arguments that are data -/
theorem Ste.args {vs : List V} {ds : List D} (ex : Ex F H) (h : Reps G F vs ds) : Ste G F H (vs.map some) ((ds.map O.val).map some) (fun _ => []) where
  ex := ex
  len := by simp [h.length]
  slot := fun i o e => by
    obtain ⟨o1, e1, e2⟩ := map_get e
    cases e2
    obtain ⟨d, h1, h2⟩ := map_get e1
    subst h2
    obtain ⟨v, hv, r⟩ := h.get h1
    exact ⟨v, by rw [List.getElem?_map, hv]; rfl, rfl, r⟩
  off := fun _ _ => rfl
  dis := fun _ _ _ _ h => nomatch h
/-- .. one of them stands in a slot -/
theorem Ste.args1 {ws us : List V} {v : V} {pre post : List D} {i : Nat} {o : O} (S : Ste G F H σ ρ α) (h1 : Reps G F ws pre) (hv : σ[i]? = some (some v)) (ho : ρ[i]? = some (some o)) (h2 : Reps G F us post) :
    Ste G F H ((ws ++ v :: us).map some) ((pre.map O.val ++ o :: post.map O.val).map some) (fun j => if j = pre.length then α i else []) where
  ex := S.ex
  len := by simp [h1.length, h2.length]
  slot := fun j x e => by
    obtain ⟨o1, e1, e2⟩ := map_get e
    cases e2
    have lw := h1.length
    rcases Nat.lt_trichotomy j pre.length with hj | hj | hj
    · rw [List.getElem?_append_left (by simpa using hj)] at e1
      obtain ⟨d, q1, q2⟩ := map_get e1
      subst q2
      obtain ⟨w, hw, r⟩ := h1.get q1
      refine ⟨w, by rw [List.getElem?_map, List.getElem?_append_left (by omega), hw]; rfl, ?_⟩
      rw [if_neg (by omega)]
      exact ⟨rfl, r⟩
    · subst hj
      rw [List.getElem?_append_right (by simp)] at e1
      have e1' : o = x := by simpa using e1
      subst e1'
      obtain ⟨w, hw, r⟩ := S.slot i o ho
      rw [hv] at hw
      cases hw
      refine ⟨v, by rw [List.getElem?_map, List.getElem?_append_right (by omega), lw]; simp, ?_⟩
      rw [if_pos rfl]
      exact r
    · rw [List.getElem?_append_right (by simp; omega)] at e1
      have e3 : j - (pre.map O.val).length = (j - pre.length - 1) + 1 := by simp; omega
      rw [e3] at e1
      have e1' : (post.map O.val)[j - pre.length - 1]? = some x := by simpa using e1
      obtain ⟨d, q1, q2⟩ := map_get e1'
      subst q2
      obtain ⟨w, hw, r⟩ := h2.get q1
      have e4 : j - ws.length = (j - pre.length - 1) + 1 := by omega
      refine ⟨w, by rw [List.getElem?_map, List.getElem?_append_right (by omega), e4]; simp [hw], ?_⟩
      rw [if_neg (by omega)]
      exact ⟨rfl, r⟩
  off := fun j h => by
    by_cases hj : j = pre.length
    · subst hj
      exact absurd (by simp) (h o)
    · rw [if_neg hj]
  dis := fun j k a ne hj hk => by
    split at hj
    · split at hk
      · omega
      · cases hk
    · cases hj
theorem Stp.weak {A B : Addr → Prop} (s : Stp A F H F1 H1) (h : ∀ a, A a → B a) : Stp B F H F1 H1 :=
  ⟨s.exF, fun b o e n => s.keep b o e fun z => n (h b z), fun b o e => (s.newF b o e).elim .inl fun z => z.elim (fun y => .inr (.inl y)) fun y => .inr (.inr (h b y))⟩
variable {fn : Fn} {n : Nat} {t : TA} {ms : MA}
theorem sem_callE {E1 : XK} (hE : E1 = E ∨ ∀ os c f os', fn os ≠ some (.ex c f, os')) (hl : ∀ os r, fn os = some r → os.length = n) (ha : SemA G E t ms) : Sem G E (tCall (spF G fn n) [] E1 t) (mCall fn ms) := ⟨fun {F H σ ρ α Q} S h =>
  ha.run S (PostA.to h fun xs ρ1 vs F1 H1 α1 S1 r1 T1 N1 h1 => by
    rw [List.append_nil]
    have h2 := Post.shift T1 N1 h1
    cases e : splitIo xs with
    | none => rw [e] at h2; exact h2.elim
    | some p =>
      obtain ⟨pre, tl⟩ := p
      rw [e] at h2
      have sr := split_r r1 e
      match tl, sr, h2 with
      | none, sr, h2 =>
        try dsimp only at h2
        match q : fn (pre.map O.val), h2 with
        | none, h2 => exact h2.elim
        | some (r, os'), h2 =>
          refine ⟨by rw [sr.length, ← hl _ _ q, List.length_map], F1, pre.map O.val, fun _ => [], Ste.args S1.ex sr, ?_⟩
          rw [q]
          have ow : ∀ a, ¬ Own (fun _ => ([] : List Addr)) a := fun a ⟨_, z⟩ => nomatch z
          match r, h2 with
          | .ok o, h2 =>
            exact fun v F' H' α' β S' R' T' M' N' => by
              have kp : Ex H1 H' := fun b u hb => T'.keep b u hb (ow b)
              have nf : ∀ b u, F' b = some u → F1 b = some u ∨ H1 b = none := fun b u hb => (T'.newF b u hb).elim .inl fun z => z.elim .inr fun y => (ow b y).elim
              exact h2 v F' H' α1 β (S1.grow T'.exF kp nf S'.ex) R' (T'.weak fun a z => (ow a z).elim) (fun a ha z => by
                rcases N' a (.inr ha) with y | y
                · exact ow a y
                · exact S1.notown y z) fun a z => by
                rcases z with z | z
                · exact .inl z
                · rcases N' a (.inr z) with y | y
                  · exact (ow a y).elim
                  · exact .inr y
          | .ex c none, h2 =>
            rcases hE with rfl | hE
            · exact fun F' H' T' => h2 F' H' (T'.weak fun a z => (ow a z).elim)
            · exact (hE _ _ _ _ q).elim
          | .ex c (some fs), h2 =>
            rcases hE with rfl | hE
            · exact fun F' H' dd fvs T' => h2 F' H' dd fvs (T'.weak fun a z => (ow a z).elim)
            · exact (hE _ _ _ _ q).elim
      | some (i, post), sr, h2 =>
        try dsimp only at h2 sr
        obtain ⟨ws, v, us, rfl, s1, s2, s3⟩ := sr
        match q0 : ρ1[i]?, h2 with
        | none, h2 => exact h2.elim
        | some none, h2 => exact h2.elim
        | some (some o), h2 =>
          try dsimp only at h2
          match q : fn (pre.map O.val ++ o :: post.map O.val), h2 with
          | none, h2 => exact h2.elim
          | some (r, os'), h2 =>
            have S2 := Ste.args1 S1 s1 s2 q0 s3
            refine ⟨by have := hl _ _ q; rw [← this]; simp [s1.length, s3.length], F1, pre.map O.val ++ o :: post.map O.val, _, S2, ?_⟩
            rw [q]
            have ow : ∀ a, Own (fun j => if j = pre.length then α1 i else []) a → a ∈ α1 i := fun a ⟨j, z⟩ => by
              have z' : a ∈ (if j = pre.length then α1 i else []) := z
              split at z'
              · exact z'
              · cases z'
            have ow1 : ∀ a, Own (fun j => if j = pre.length then α1 i else []) a → Own α1 a := fun a z => ⟨i, ow a z⟩
            match r, h2 with
            | .ex c none, h2 =>
              rcases hE with rfl | hE
              · exact fun F' H' T' => h2 F' H' (T'.weak ow1)
              · exact (hE _ _ _ _ q).elim
            | .ex c (some fs), h2 =>
              rcases hE with rfl | hE
              · exact fun F' H' dd fvs T' => h2 F' H' dd fvs (T'.weak ow1)
              · exact (hE _ _ _ _ q).elim
            | .ok ro, h2 =>
              try dsimp only at h2
              match q1 : os'[pre.length]?, h2 with
              | none, h2 => exact h2.elim
              | some o', h2 =>
                exact fun v' F' H' α' β S' R' T' M' N' => by
                  have hsl : (os'.map some)[pre.length]? = some (some o') := by rw [List.getElem?_map, q1]; rfl
                  obtain ⟨w, hw, rw'⟩ := S'.slot pre.length o' hsl
                  have hw' : ((ws ++ v :: us).map some)[pre.length]? = some (some v) := by
                    rw [List.getElem?_map, List.getElem?_append_right (by rw [s1.length]; exact Nat.le_refl _), s1.length]
                    simp
                  rw [hw'] at hw
                  cases hw
                  have hi : i < ρ1.length := (List.getElem?_eq_some_iff.mp q0).1
                  -- what is not the argument's own stays
                  have kp : ∀ b u, H1 b = some u → b ∉ α1 i → H' b = some u := fun b u hb nb => T'.keep b u hb fun z => nb (ow b z)
                  have nf : ∀ b u, F' b = some u → F1 b = some u ∨ H1 b = none ∨ b ∈ α1 i := fun b u hb => (T'.newF b u hb).elim .inl fun z => z.elim (fun y => .inr (.inl y)) fun y => .inr (.inr (ow b y))
                  have newA : ∀ a, a ∈ α' pre.length → a ∈ α1 i ∨ H1 a = none := fun a ha => (N' a (.inl ⟨_, ha⟩)).elim (fun z => .inl (ow a z)) .inr
                  have Sc : Ste G F' H' σ (ρ1.set i (some o')) (Al.set α1 i (α' pre.length)) := ⟨S'.ex, by rw [List.length_set]; exact S1.len, fun j x e => by
                      by_cases hj : j = i
                      · subst hj
                        rw [List.getElem?_set_self hi] at e
                        cases e
                        exact ⟨v, s2, by rw [Al.set_eq]; exact rw'⟩
                      · rw [List.getElem?_set_ne (Ne.symm hj)] at e
                        obtain ⟨u, hu, ru⟩ := S1.slot j x e
                        refine ⟨u, hu, ?_⟩
                        rw [Al.set_ne hj]
                        refine ru.move T'.exF (fun b hb => ?_) fun b hb y hy => kp b y hy fun z => S1.dis j i b hj hb z
                        obtain ⟨f0, y, hy⟩ := ru.mem b hb
                        cases q5 : F' b with
                        | none => rfl
                        | some y' =>
                          rcases nf b y' q5 with z | z | z
                          · rw [f0] at z; cases z
                          · rw [hy] at z; cases z
                          · exact absurd z (S1.dis j i b hj hb), fun j hj => by
                      by_cases q6 : j = i
                      · subst q6
                        exact absurd (List.getElem?_set_self hi) (hj o')
                      · rw [Al.set_ne q6]
                        exact S1.off j fun x e => hj x (by rw [List.getElem?_set_ne (Ne.symm q6)]; exact e), fun j k a ne hj hk => by
                      have nx : ∀ m, m ≠ i → a ∈ α1 m → a ∉ α' pre.length := fun m hm ham hap => by
                        rcases newA a hap with z | z
                        · exact S1.dis m i a hm ham z
                        · exact S1.notown z ⟨m, ham⟩
                      by_cases q6 : j = i
                      · subst q6
                        rw [Al.set_eq] at hj
                        rw [Al.set_ne (Ne.symm ne)] at hk
                        exact nx k (Ne.symm ne) hk hj
                      · rw [Al.set_ne q6] at hj
                        by_cases q7 : k = i
                        · subst q7
                          rw [Al.set_eq] at hk
                          exact nx j q6 hj hk
                        · rw [Al.set_ne q7] at hk
                          exact S1.dis j k a ne hj hk⟩
                  refine h2 v' F' H' _ β Sc R' (T'.weak ow1) (fun a ha z => ?_) fun a z => ?_
                  · rcases N' a (.inr ha) with y | y
                    · obtain ⟨k, hk⟩ := z
                      by_cases q7 : k = i
                      · subst q7
                        rw [Al.set_eq] at hk
                        exact M' a ha ⟨_, hk⟩
                      · rw [Al.set_ne q7] at hk
                        exact S1.dis k i a q7 hk (ow a y)
                    · obtain ⟨k, hk⟩ := z
                      by_cases q7 : k = i
                      · subst q7
                        rw [Al.set_eq] at hk
                        exact M' a ha ⟨_, hk⟩
                      · rw [Al.set_ne q7] at hk
                        exact S1.notown y ⟨k, hk⟩
                  · rcases z with z | z
                    · rcases Al.own_set z with y | y
                      · exact .inl y
                      · exact (newA a y).elim (fun y => .inl ⟨i, y⟩) .inr
                    · exact (N' a (.inr z)).elim (fun y => .inl (ow1 a y)) .inr)⟩
theorem sem_call (hl : ∀ os r, fn os = some r → os.length = n) (ha : SemA G E t ms) : Sem G E (tCall (spF G fn n) [] E t) (mCall fn ms) := sem_callE (.inl rfl) hl ha
theorem mFn_len {np N : Nat} {body : MS} : ∀ os r, mFn np N body os = some r → os.length = np := fun os r h => by
  unfold mFn at h
  split at h
  · rename_i hl
    exact hl.1
  · cases h
theorem mFn0_len {np N : Nat} {body : MS} : ∀ os r, mFn0 np N body os = some r → os.length = np := fun os r h => by
  unfold mFn0 at h
  cases e : mFn np N body os with
  | none => rw [e] at h; cases h
  | some q => exact mFn_len os q e
end
end VL

namespace VL
open PySem PySem.Spec
open PyProof.Rows L2
open Evl (Ex sz_of)

/-! ### comprehensions -/
def wipeR (ρ : Rho) : List Nat → Rho
  | [] => ρ
  | v :: vs => (wipeR ρ vs).set v none
def clean (vs : List Nat) (ρ : Rho) : Bool := vs.all fun j => match ρ[j]? with
  | some none => true
  | _ => false
def lcLoop (vs : List Nat) (p : Pat) (mt me : M) : List D → Rho → List D → Option (Res × Rho)
  | [], ρ, acc => some (.ok (.lst acc), ρ)
  | d :: ds, ρ, acc => match bindP [] p d ρ with
    | none => none
    | some ρ1 => (match mt ρ1 with
      | some (.ok b, ρ2) => (match b.frz with
        | .bl true => (match me ρ2 with
          | some (.ok o, ρ3) => lcLoop vs p mt me ds (wipeR ρ3 vs) (acc ++ [o.frz])
          | _ => none)
        | .bl false => lcLoop vs p mt me ds (wipeR ρ2 vs) acc
        | _ => none)
      | _ => none)
def mLc (mi : MI) (vs : List Nat) (p : Pat) (mt me : M) : M := fun ρ => match mi ρ with
  | some (ds, ρ1) => if clean vs ρ1 = true ∧ ds.length ≤ 100000 then lcLoop vs p mt me ds ρ1 [] else none
  | none => none
def mYes : M := mC (.bl true)
section
variable {G : Cn} {E E1 E2 : XK} {F F1 F2 H H1 H2 : Hp} {σ σ1 : L2.St} {ρ ρ1 : Rho} {α α1 : Al}
theorem semT_yes : SemT G E tYes mYes := ⟨fun S h => okV_bl S h⟩
theorem wipeR_len : ∀ vs : List Nat, (wipeR ρ vs).length = ρ.length
  | [] => rfl
  | v :: vs => by
    unfold wipeR
    rw [List.length_set, wipeR_len vs]
theorem wipe_out {i : Nat} : ∀ {vs : List Nat}, i ∉ vs → (wipe σ vs)[i]? = σ[i]?
  | [], _ => rfl
  | v :: vs, h => by
    rw [List.mem_cons, not_or] at h
    unfold wipe
    rw [List.getElem?_set_ne (Ne.symm h.1)]
    exact wipe_out h.2
theorem wipeR_out {i : Nat} : ∀ {vs : List Nat}, i ∉ vs → (wipeR ρ vs)[i]? = ρ[i]?
  | [], _ => rfl
  | v :: vs, h => by
    rw [List.mem_cons, not_or] at h
    unfold wipeR
    rw [List.getElem?_set_ne (Ne.symm h.1)]
    exact wipeR_out h.2
theorem wipe_in {i : Nat} : ∀ {vs : List Nat}, i ∈ vs → i < σ.length → (wipe σ vs)[i]? = some none
  | [], h, _ => nomatch h
  | v :: vs, h, hl => by
    unfold wipe
    by_cases e : v = i
    · subst e
      rw [List.getElem?_set_self (by rw [wipe_length]; exact hl)]
    · rw [List.getElem?_set_ne e]
      exact wipe_in ((List.mem_cons.mp h).resolve_left (Ne.symm e)) hl
theorem wipeR_in {i : Nat} : ∀ {vs : List Nat}, i ∈ vs → ∀ o, (wipeR ρ vs)[i]? ≠ some (some o)
  | [], h, _ => nomatch h
  | v :: vs, h, o => by
    unfold wipeR
    by_cases e : v = i
    · subst e
      intro q
      by_cases hl : v < (wipeR ρ vs).length
      · rw [List.getElem?_set_self hl] at q; cases q
      · rw [List.getElem?_eq_none_iff.mpr (by rw [List.length_set]; omega)] at q; cases q
    · rw [List.getElem?_set_ne e]
      exact wipeR_in ((List.mem_cons.mp h).resolve_left (Ne.symm e)) o
theorem wipe_same {vs : List Nat} (hl : σ1.length = σ.length) (h : ∀ j, j ∉ vs → σ1[j]? = σ[j]?) : wipe σ1 vs = wipe σ vs := by
  apply List.ext_getElem?
  intro i
  by_cases hi : i ∈ vs
  · by_cases h1 : i < σ.length
    · rw [wipe_in hi h1, wipe_in hi (by omega)]
    · rw [List.getElem?_eq_none_iff.mpr (by rw [wipe_length]; omega), List.getElem?_eq_none_iff.mpr (by rw [wipe_length]; omega)]
  · rw [wipe_out hi, wipe_out hi]
    exact h i hi
/-- slots forgotten -/
theorem Ste.wipe (S : Ste G F H σ ρ α) (vs : List Nat) : ∃ α2, Ste G F H (L2.wipe σ vs) (wipeR ρ vs) α2 ∧ ∀ a, Own α2 a → Own α a := by
  refine ⟨fun i => if i ∈ vs then [] else α i, ⟨S.ex, by rw [wipe_length, wipeR_len]; exact S.len, fun i o e => ?_, fun i h => ?_, fun i j a ne hi hj => ?_⟩, fun a ⟨i, hi⟩ => ?_⟩
  · by_cases hi : i ∈ vs
    · exact absurd e (wipeR_in hi o)
    · rw [wipeR_out hi] at e
      obtain ⟨v, h1, r⟩ := S.slot i o e
      exact ⟨v, by rw [wipe_out hi]; exact h1, by rw [if_neg hi]; exact r⟩
  · by_cases hi : i ∈ vs
    · exact if_pos hi
    · show (if i ∈ vs then [] else α i) = []
      rw [if_neg hi]
      exact S.off i fun o e => h o (by rw [wipeR_out hi]; exact e)
  · have hi' : a ∈ (if i ∈ vs then [] else α i) := hi
    have hj' : a ∈ (if j ∈ vs then [] else α j) := hj
    split at hi'
    · cases hi'
    · split at hj'
      · cases hj'
      · exact S.dis i j a ne hi' hj'
  · have hi' : a ∈ (if i ∈ vs then [] else α i) := hi
    split at hi'
    · cases hi'
    · exact ⟨i, hi'⟩
theorem clean_mem {vs : List Nat} (h : clean vs ρ = true) {j : Nat} (hj : j ∈ vs) : ρ[j]? = some none := by
  unfold clean at h
  have q := List.all_eq_true.mp h j hj
  split at q
  · assumption
  · cases q
/-- where the slots hold nothing, forgetting them is nothing -/
theorem Ste.wiped (S : Ste G F H σ ρ α) {vs : List Nat} (h : ∀ j ∈ vs, ∀ o, ρ[j]? ≠ some (some o)) : Ste G F H (L2.wipe σ vs) ρ α := ⟨S.ex, by rw [wipe_length]; exact S.len, fun i o e => by
    obtain ⟨v, h1, r⟩ := S.slot i o e
    exact ⟨v, by rw [wipe_out fun hi => h i hi o e]; exact h1, r⟩, S.off, S.dis⟩
theorem Ste.unwiped {vs : List Nat} (S : Ste G F H (L2.wipe σ vs) ρ α) : Ste G F H σ ρ α := ⟨S.ex, by have := S.len; rwa [wipe_length] at this, fun i o e => by
    obtain ⟨v, h1, r⟩ := S.slot i o e
    exact ⟨v, (wipe_some h1).1, r⟩, S.off, S.dis⟩
theorem Ste.resig {σ' : L2.St} (S : Ste G F H σ ρ α) (e : σ = σ') : Ste G F H σ' ρ α := e ▸ S
variable {wi : TI} {mi : MI} {g : TG} {p : Pat} {tt : TT} {mt me : M} {te : TE}
/-- the list that is made, beside the state -/
structure Pend (G : Cn) (F H : Hp) (α : Al) (Dl : Addr) (ds : List D) : Prop where
  fF : F Dl = none
  no : ¬ Own α Dl
  at' : ∃ vs, H Dl = some (.lst vs) ∧ Reps G F vs ds
theorem Pend.step {Dl : Addr} {ds : List D} (q : Pend G F H α Dl ds) (T : Stp (Own α) F H F1 H1) (N : New (Own α) H (Own α1)) : Pend G F1 H1 α1 Dl ds := by
  obtain ⟨vs, h1, h2⟩ := q.at'
  refine ⟨?_, fun z => ?_, vs, T.keep _ _ h1 q.no, h2.mono T.exF⟩
  · cases e : F1 Dl with
    | none => rfl
    | some u =>
      rcases T.newF Dl u e with z | z | z
      · rw [q.fF] at z; cases z
      · rw [h1] at z; cases z
      · exact absurd z q.no
  · rcases N Dl z with y | y
    · exact q.no y
    · rw [h1] at y; cases y
/-- the list gets one more item -/
theorem Ste.grown {Dl : Addr} {ds : List D} {d : D} {v : V} (S : Ste G F H σ ρ α) (q : Pend G F H α Dl ds) (r : Rep G F v d) :
    ∃ vs, H Dl = some (.lst vs) ∧ vs.length = ds.length ∧ Ste G F (upd H Dl (.lst (vs ++ [v]))) σ ρ α ∧ Pend G F (upd H Dl (.lst (vs ++ [v]))) α Dl (ds ++ [d]) := by
  obtain ⟨vs, h1, h2⟩ := q.at'
  refine ⟨vs, h1, h2.length, ⟨S.ex.mut q.fF, S.len, fun i o e => ?_, S.off, S.dis⟩, q.fF, q.no, _, upd_same, h2.append (Reps.one r)⟩
  obtain ⟨u, h3, r3⟩ := S.slot i o e
  refine ⟨u, h3, r3.move (Ex.refl F) (fun b hb => (r3.mem b hb).1) fun b hb y hy => ?_⟩
  rw [upd_ne (fun z => q.no ⟨i, by rw [← z]; exact hb⟩)]
  exact hy
theorem sem_lc {vs : List Nat} (hi : SemI G wi mi) (hg : GSem G g p) (ht : SemT G E1 tt mt) (he : Sem G E2 te me) (hp : ∀ j ∈ p.slots, j ∈ vs) : Sem G E (tLc wi g tt te vs) (mLc mi vs p mt me) := ⟨fun {F H σ ρ α Q} S h => by
  unfold mLc at h
  cases e : mi ρ with
  | none => rw [e] at h; exact h.elim
  | some x =>
    obtain ⟨ds, ρ1⟩ := x
    rw [e] at h
    try dsimp only at h
    split at h
    · rename_i hc
      obtain ⟨hcl, hlen⟩ := hc
      refine hi.run S e fun J F1 H1 α1 S1 T1 N1 it => ?_
      intro Dl hD
      have S1' : Ste G F1 (upd H1 Dl (.lst [])) (L2.wipe σ vs) ρ1 α1 := (S1.put hD).wiped fun j hj o q => by
        rw [clean_mem hcl hj] at q
        cases q
      have T1' : Stp (Own α) F H F1 (upd H1 Dl (.lst [])) := T1.trans (Ste.putStp hD (A := Own α1)) N1
      let A : Al → Addr → Prop := fun β a => Own β a ∨ a = Dl
      have wk : ∀ {β : Al} {Fa Ha Fb Hb : Hp}, Stp (Own β) Fa Ha Fb Hb → Stp (A β) Fa Ha Fb Hb := fun s => s.weak fun a z => .inl z
      have nw : ∀ {β γ : Al} {Ha : Hp}, New (Own β) Ha (Own γ) → New (A β) Ha (A γ) := fun n a z => z.elim (fun y => (n a y).elim (fun x => .inl (.inl x)) .inr) fun y => .inl (.inr y)
      refine ⟨fun i m H' => m = ds.length - i ∧ i ≤ ds.length ∧ ∃ F' ρ' α' acc, Ste G F' H' (L2.wipe σ vs) ρ' α' ∧ Pend G F' H' α' Dl acc ∧ acc.length ≤ i ∧ Ex F1 F' ∧ Stp (A α1) F1 (upd H1 Dl (.lst [])) F' H' ∧ New (A α1) (upd H1 Dl (.lst [])) (A α') ∧
          PostG G E F H α (okV G F H σ α Q) (lcLoop vs p mt me (ds.drop i) ρ' acc),
        ⟨ds.length, by simp, Nat.zero_le _, F1, ρ1, α1, [], S1', ⟨S1.fresh hD, S1.notown hD, [], upd_same, Reps.nil⟩, Nat.le_refl _, Ex.refl F1, .refl, .refl, h⟩, ?_⟩
      rintro i m H' ⟨rfl, hi', F', ρ', α', acc, S', q', la, e1, T', N', h'⟩
      obtain ⟨i1, i2, i3⟩ := it i e1 S'.ex
      by_cases hlt : i < ds.length
      · refine .inr ⟨i1 hlt, _, fun H2 n2 => ⟨ds.length - (i + 1), by omega, n2⟩, fun x H'' y => ?_⟩
        obtain ⟨d, hd⟩ : ∃ d, ds[i]? = some d := ⟨ds[i], by simp [hlt]⟩
        obtain ⟨F'', f1, f2, f3, f4, rx⟩ := i3 x H'' d hd y
        have S2 := S'.grow f1 f2 f3 f4
        have G2 : Stp (Own α') F' H' F'' H'' := Stp.grow f1 f2 f3
        have q2 := q'.step G2 (α1 := α') .refl
        rw [drop_get hd] at h'
        unfold lcLoop at h'
        cases e2 : bindP [] p d ρ' with
        | none => rw [e2] at h'; exact h'.elim
        | some ρ2 =>
          rw [e2] at h'
          try dsimp only at h'
          refine hg (pins := []) S2 rx e2 fun σ2 α2 S3 o3 _ J3 => ?_
          have q3 : Pend G F'' H'' α2 Dl acc := ⟨q2.fF, fun z => q2.no (o3 _ z), q2.at'⟩
          have hw : L2.wipe σ2 vs = L2.wipe σ vs := (wipe_same J3.2 fun j hj => J3.1 j fun z => hj (hp j z)).trans (wipe_same (wipe_length σ vs) fun j hj => wipe_out hj)
          have T3 : Stp (A α1) F1 (upd H1 Dl (.lst [])) F'' H'' := T'.trans (wk G2) N'
          have N3 : New (A α1) (upd H1 Dl (.lst [])) (A α2) := fun a z => N' a (z.elim (fun y => .inl (o3 a y)) .inr)
          have e3 : Ex F1 F'' := e1.trans f1
          refine ⟨hw, ht.run S3 ?_⟩
          match q5 : mt ρ2, h' with
          | none, h' => exact h'.elim
          | some (.ex c f, _), h' => exact h'.elim
          | some (.ok b, ρ3), h' =>
            intro v F3 H3 α3 β S4 r4 T4 M4 N4
            obtain ⟨F4, S5, r5, T5, N5⟩ := S4.freeze r4 T4 M4 N4
            have q6 := q3.step T5 N5
            have T6 := T3.trans (wk T5) N3
            have N6 := New.trans T3 N3 (nw N5)
            try dsimp only at h'
            split at h'
            · rename_i eb
              refine ⟨true, frz_bl (H := H) r5 eb, ?_⟩
              rw [if_pos rfl]
              refine he.run S5 ?_
              match q7 : me ρ3, h' with
              | none, h' => exact h'.elim
              | some (.ex c f, _), h' => exact h'.elim
              | some (.ok o, ρ4), h' =>
                intro v2 F5 H5 α5 β2 S6 r6 T7 M7 N7
                obtain ⟨F6, S7, r7, T8, N8⟩ := S6.freeze r6 T7 M7 N7
                have q8 := q6.step T8 N8
                have T9 := T6.trans (wk T8) N6
                have N9 := New.trans T6 N6 (nw N8)
                obtain ⟨ws, hws, lws, S8, q9⟩ := S7.grown q8 r7
                obtain ⟨α9, S9, o9⟩ := S8.wipe vs
                refine ⟨ws, hws, by rw [lws]; exact Nat.lt_of_le_of_lt (Nat.le_trans la (Nat.le_of_lt (Nat.lt_of_lt_of_le hlt hlen))) (by decide), ?_⟩
                have T10 : Stp (A α5) F6 H5 F6 (upd H5 Dl (.lst (ws ++ [v2]))) := ⟨Ex.refl F6, fun b u hb n => by
                    rw [upd_ne fun z => n (.inr z)]
                    exact hb, fun b u hb => .inl hb⟩
                refine ⟨rfl, hlt, F6, wipeR ρ4 vs, α9, acc ++ [o.frz], S9.resig hw, ⟨q9.fF, fun z => q9.no (o9 _ z), q9.at'⟩, by rw [List.length_append]; simpa using la, e3.trans (T5.exF.trans T8.exF), T9.trans T10 N9, fun a z => ?_, h'⟩
                have N11 := New.trans T9 N9 (.refl (A := A α5) (H := H5))
                exact N11 a (z.elim (fun y => .inl (o9 a y)) .inr)
            · rename_i eb
              refine ⟨false, frz_bl (H := H) r5 eb, ?_⟩
              rw [if_neg Bool.false_ne_true]
              obtain ⟨α9, S9, o9⟩ := S5.wipe vs
              exact ⟨rfl, hlt, F4, wipeR ρ3 vs, α9, acc, S9.resig hw, ⟨q6.fF, fun z => q6.no (o9 _ z), q6.at'⟩, Nat.le_succ_of_le la, e3.trans T5.exF, T6, fun a z => N6 a (z.elim (fun y => .inl (o9 a y)) .inr), h'⟩
            · exact h'.elim
      · refine .inl ⟨i2 (by omega), ?_⟩
        rw [List.drop_of_length_le (by omega)] at h'
        obtain ⟨ws, hws, rws⟩ := q'.at'
        have nD : Own α Dl ∨ H Dl = none := by
          by_cases z : Own α Dl
          · exact .inl z
          · cases e5 : H Dl with
            | none => exact .inr rfl
            | some u =>
              rw [T1.keep Dl u e5 z] at hD
              cases hD
        have nA : New (Own α) H (A α1) := fun a z => z.elim (fun y => N1 a y) fun y => by
          subst y
          exact nD
        refine h' (.ref Dl) F' H' α' [Dl] S'.unwiped ⟨Dl, ws, rfl, rfl, q'.fF, hws, rws⟩ (T1'.trans T' nA) (fun a ha => by
          have : a = Dl := by simpa using ha
          subst this
          exact q'.no) fun a z => ?_
        have z' : A α' a := z.elim .inl fun y => .inr (by simpa using y)
        exact New.trans T1' nA N' a z'
    · exact h.elim⟩
end
end VL

namespace VL
open PySem PySem.Spec
open PyProof.Rows L2
open Evl (Ex sz_of)

/-! ### operators on ints -/
def fInt (g : Int → Int → Int) : D → D → Option O
  | .int i, .int j => some (.val (.int (g i j)))
  | _, _ => none
def fIntC (C : Int → Int → Bool) (g : Int → Int → Int) : D → D → Option O
  | .int i, .int j => if C i j = true then some (.val (.int (g i j))) else none
  | _, _ => none
def fCmp (g : Int → Int → Bool) : D → D → Option O
  | .int i, .int j => some (.val (.bl (g i j)))
  | _, _ => none
section
variable {G : Cn} {F H : Hp} {σ : L2.St} {ρ : Rho} {α : Al}
theorem os_int {g : Int → Int → Int} : OSem G (rI0 fun i j => .int (g i j)) (fInt g) := fun {E F H σ ρ α Q x y dx dy} S hx hy h => by
  unfold fInt at h
  split at h
  · obtain rfl := hx.int
    obtain rfl := hy.int
    exact ⟨_, _, rfl, rfl, Post.val h S Rep.ofInt⟩
  · exact h.elim
theorem os_intC {C : Int → Int → Prop} {Cb : Int → Int → Bool} {g : Int → Int → Int} (hC : ∀ i j, Cb i j = true → C i j) : OSem G (rI C fun i j => .int (g i j)) (fIntC Cb g) := fun {E F H σ ρ α Q x y dx dy} S hx hy h => by
  unfold fIntC at h
  split at h
  · obtain rfl := hx.int
    obtain rfl := hy.int
    split at h
    · rename_i hc
      exact ⟨_, _, rfl, rfl, hC _ _ hc, Post.val h S Rep.ofInt⟩
    · exact h.elim
  · exact h.elim
theorem os_cmp {g : Int → Int → Bool} : OSem G (rI0 fun i j => .bl (g i j)) (fCmp g) := fun {E F H σ ρ α Q x y dx dy} S hx hy h => by
  unfold fCmp at h
  split at h
  · obtain rfl := hx.int
    obtain rfl := hy.int
    exact ⟨_, _, rfl, rfl, Post.val h S Rep.ofBl⟩
  · exact h.elim
def bMul (i j : Int) : Bool := (decide (-(2 ^ 64) < i) && decide (i < 2 ^ 64)) || (decide (-(2 ^ 64) < j) && decide (j < 2 ^ 64))
theorem os_mul : OSem G (rI CMul fun i j => .int (i * j)) (fIntC bMul fun i j => i * j) := os_intC fun i j h => by
  unfold bMul at h
  unfold CMul
  simp only [Bool.or_eq_true, Bool.and_eq_true, decide_eq_true_eq] at h
  exact h
def bMod (i j : Int) : Bool := decide (0 < j)
theorem os_mod : OSem G (rI (fun _ j => 0 < j) fun i j => .int (i % j)) (fIntC bMod fun i j => i % j) := os_intC fun i j h => by
  unfold bMod at h
  simpa using h
def bDiv (i j : Int) : Bool := decide (0 < j) && decide (j < 1073741824)
theorem os_div : OSem G (rI CDiv fun i j => .int (i / j)) (fIntC bDiv fun i j => i / j) := os_intC fun i j h => by
  unfold bDiv at h
  unfold CDiv
  simp only [Bool.and_eq_true, decide_eq_true_eq] at h
  exact h
def bPow (i j : Int) : Bool := decide (0 ≤ j) && decide (j ≤ 1000000) && decide (i.natAbs < 2 ^ 64)
theorem os_pow : OSem G (rI CPow fun i j => .int (i ^ j.toNat)) (fIntC bPow fun i j => i ^ j.toNat) := os_intC fun i j h => by
  unfold bPow at h
  unfold CPow
  simp only [Bool.and_eq_true, decide_eq_true_eq] at h
  exact ⟨h.1.1, h.1.2, h.2⟩
end

/-! ### equality of data -/
mutual
def toPy : D → Option PyData
  | .non => some .none
  | .bl b => some (.bool b)
  | .int i => some (.int i)
  | .str x => some (.str x)
  | .tup ds => (toPys ds).map .tuple
  | .lst ds => (toPys ds).map .list
  | _ => none
def toPys : List D → Option (List PyData)
  | [] => some []
  | d :: ds => (toPy d).bind fun p => (toPys ds).map (p :: ·)
end
section
variable {G : Cn} {F H : Hp} {σ : L2.St} {ρ : Rho} {α : Al}
mutual
theorem toPy_dp (e : Ex F H) : ∀ {v : V} (d : D) {p : PyData}, Rep G F v d → toPy d = some p → Dp G.K H v p
  | v, .non, p, h, q => by
    cases q
    unfold Rep at h
    subst h
    exact .non
  | v, .bl b, p, h, q => by
    cases q
    unfold Rep at h
    subst h
    exact .bl b
  | v, .int b, p, h, q => by
    cases q
    unfold Rep at h
    subst h
    exact .int b
  | v, .str b, p, h, q => by
    cases q
    unfold Rep at h
    subst h
    exact .str b
  | v, .tup ds, p, h, q => by
    unfold Rep at h
    obtain ⟨a, vs, rfl, h1, h2⟩ := h
    unfold toPy at q
    cases q1 : toPys ds with
    | none => rw [q1] at q; cases q
    | some ps =>
      rw [q1] at q
      cases q
      exact .tup (SqT.of (e _ _ h1)) (toPys_dp e ds h2 q1)
  | v, .lst ds, p, h, q => by
    unfold Rep at h
    obtain ⟨a, vs, rfl, h1, h2⟩ := h
    unfold toPy at q
    cases q1 : toPys ds with
    | none => rw [q1] at q; cases q
    | some ps =>
      rw [q1] at q
      cases q
      exact .lst (SqL.of (e _ _ h1)) (toPys_dp e ds h2 q1)
  | v, .dic ds, p, h, q => by cases q
  | v, .ins c ds, p, h, q => by cases q
  | v, .scr ds, p, h, q => by cases q
theorem toPys_dp (e : Ex F H) : ∀ {vs : List V} (ds : List D) {ps : List PyData}, Reps G F vs ds → toPys ds = some ps → DpAll G.K H vs ps
  | vs, [], ps, h, q => by
    cases q
    rw [h.of_nil]
    exact .nil
  | vs, d :: ds, ps, h, q => by
    obtain ⟨v, r, rfl, h1, h2⟩ := h.of_cons
    unfold toPys at q
    cases q1 : toPy d with
    | none => rw [q1] at q; cases q
    | some p =>
      rw [q1] at q
      cases q2 : toPys ds with
      | none => rw [q2] at q; cases q
      | some ps' =>
        rw [q2] at q
        cases q
        exact .cons (toPy_dp e d h1 q1) (toPys_dp e ds h2 q2)
end
theorem RepX.dp {v : V} {d : D} {p : PyData} (h : RepX G F H v d) (e : Ex F H) (q : toPy d = some p) : Dp G.K H v p := by
  rcases h with h | ⟨ds, a, vs, rfl, rfl, e2, e3⟩ | ⟨ds, a, vs, rfl, _⟩ | ⟨c, fs, a, dx, fvs, rfl, _⟩
  · exact toPy_dp e d h q
  · unfold toPy at q
    cases q1 : toPys ds with
    | none => rw [q1] at q; cases q
    | some ps =>
      rw [q1] at q
      cases q
      exact .lst (SqL.of e2) (toPys_dp e ds e3 q1)
  · cases q
  · cases q
def fEq (x y : D) : Option O := (toPy x).bind fun p => (toPy y).bind fun q => if SeqAt.shaped p && SeqAt.shaped q then some (.val (.bl (PyData.eqv p q))) else none
def fNe (x y : D) : Option O := (toPy x).bind fun p => (toPy y).bind fun q => if SeqAt.shaped p && SeqAt.shaped q then some (.val (.bl (!PyData.eqv p q))) else none
theorem os_eq : OSem G (rEqD G.K) fEq := fun {E F H σ ρ α Q x y dx dy} S hx hy h => by
  unfold fEq at h
  cases q1 : toPy dx with
  | none => rw [q1] at h; exact h.elim
  | some p =>
    rw [q1] at h
    cases q2 : toPy dy with
    | none => rw [q2] at h; exact h.elim
    | some q =>
      rw [q2] at h
      dsimp only [Option.bind] at h
      split at h
      · rename_i hs
        rw [Bool.and_eq_true] at hs
        exact ⟨p, q, hx.dp S.ex q1, hy.dp S.ex q2, hs.1, hs.2, Post.val h S Rep.ofBl⟩
      · exact h.elim
theorem os_ne : OSem G (fun x y H Q => ∃ d e, Dp G.K H x d ∧ Dp G.K H y e ∧ SeqAt.shaped d = true ∧ SeqAt.shaped e = true ∧ Q (.bl (!PyData.eqv d e)) H) fNe := fun {E F H σ ρ α Q x y dx dy} S hx hy h => by
  unfold fNe at h
  cases q1 : toPy dx with
  | none => rw [q1] at h; exact h.elim
  | some p =>
    rw [q1] at h
    cases q2 : toPy dy with
    | none => rw [q2] at h; exact h.elim
    | some q =>
      rw [q2] at h
      dsimp only [Option.bind] at h
      split at h
      · rename_i hs
        rw [Bool.and_eq_true] at hs
        exact ⟨p, q, hx.dp S.ex q1, hy.dp S.ex q2, hs.1, hs.2, Post.val h S Rep.ofBl⟩
      · exact h.elim
end

/-! ### in a list, in a tuple -/
def flatD : D → Bool
  | .non | .bl _ | .int _ | .str _ => true
  | _ => false
def toV : D → V
  | .non => .non
  | .bl b => .bl b
  | .int i => .int i
  | .str x => .str x
  | _ => .non
def fIn (neg : Bool) (x y : D) : Option O := match y with
  | .lst ds => if flatD x && ds.all flatD then some (.val (.bl (if neg = true then !inV (toV x) (ds.map toV) else inV (toV x) (ds.map toV)))) else none
  | .tup ds => if flatD x && ds.all flatD then some (.val (.bl (if neg = true then !inV (toV x) (ds.map toV) else inV (toV x) (ds.map toV)))) else none
  | _ => none
section
variable {G : Cn} {F H : Hp} {σ : L2.St} {ρ : Rho} {α : Al}
theorem flat_rep {v : V} {d : D} (h : Rep G F v d) (f : flatD d = true) : v = toV d ∧ flatV v = true := by
  cases d with
  | non => unfold Rep at h; subst h; exact ⟨rfl, rfl⟩
  | bl b => unfold Rep at h; subst h; exact ⟨rfl, rfl⟩
  | int b => unfold Rep at h; subst h; exact ⟨rfl, rfl⟩
  | str b => unfold Rep at h; subst h; exact ⟨rfl, rfl⟩
  | _ => cases f
theorem flat_reps : ∀ {vs : List V} {ds : List D}, Reps G F vs ds → ds.all flatD = true → vs = ds.map toV ∧ vs.all flatV = true
  | _, [], h, _ => by
    rw [h.of_nil]
    exact ⟨rfl, rfl⟩
  | _, d :: ds, h, f => by
    obtain ⟨v, r, rfl, h1, h2⟩ := h.of_cons
    rw [List.all_cons, Bool.and_eq_true] at f
    obtain ⟨e1, e2⟩ := flat_rep h1 f.1
    obtain ⟨e3, e4⟩ := flat_reps h2 f.2
    subst e1 e3
    exact ⟨rfl, by rw [List.all_cons, e2, e4]; rfl⟩
theorem flat_x {v : V} {d : D} (h : RepX G F H v d) (f : flatD d = true) : v = toV d ∧ flatV v = true := by
  rcases h with h | ⟨ds, a, vs, rfl, rfl, e2, e3⟩ | ⟨ds, a, vs, rfl, _⟩ | ⟨c, fs, a, dx, fvs, rfl, _⟩
  · exact flat_rep h f
  all_goals cases f
theorem os_in {neg : Bool} : OSem G (rIn G.K neg) (fIn neg) := fun {E F H σ ρ α Q x y dx dy} S hx hy h => by
  unfold fIn at h
  split at h
  · rename_i ds
    obtain ⟨a, vs, rfl, h1, h2⟩ := hy.l S.ex
    split at h
    · rename_i hc
      rw [Bool.and_eq_true] at hc
      obtain ⟨rfl, fx⟩ := flat_x hx hc.1
      obtain ⟨rfl, fs⟩ := flat_reps h2 hc.2
      exact ⟨a, _, rfl, .inl (SqL.of h1), fx, fs, Post.val h S Rep.ofBl⟩
    · exact h.elim
  · rename_i ds
    obtain ⟨a, vs, rfl, h0, h1, h2⟩ := hy.t S.ex
    split at h
    · rename_i hc
      rw [Bool.and_eq_true] at hc
      obtain ⟨rfl, fx⟩ := flat_x hx hc.1
      obtain ⟨rfl, fs⟩ := flat_reps h2 hc.2
      exact ⟨a, _, rfl, .inr (SqT.of h1), fx, fs, Post.val h S Rep.ofBl⟩
    · exact h.elim
  · exact h.elim
end

/-! ### an item -/
def fIx (x y : D) : Option O := match x, y with
  | .lst ds, .int i => (atI ds i).map .val
  | .tup ds, .int i => (atI ds i).map .val
  | .scr ns, .int i => (atI ns i).map fun n => .val (.int n)
  | _, _ => none
section
variable {G : Cn} {F H : Hp} {σ : L2.St} {ρ : Rho} {α : Al}
theorem at_reps {vs : List V} {ds : List D} {i : Int} {d : D} (h : Reps G F vs ds) (e : atI ds i = some d) : ∃ v, atI vs i = some v ∧ Rep G F v d := by
  unfold atI at e ⊢
  rw [h.length]
  cases q : ixN ds.length i with
  | none => rw [q] at e; cases e
  | some j =>
    rw [q] at e
    exact h.get e
theorem at_map {A B : Type} {f : A → B} {l : List A} {i : Int} {x : A} (e : atI l i = some x) : atI (l.map f) i = some (f x) := by
  unfold atI at e ⊢
  rw [List.length_map]
  cases q : ixN l.length i with
  | none => rw [q] at e; cases e
  | some j =>
    rw [q] at e
    show (l.map f)[j]? = _
    rw [List.getElem?_map, show l[j]? = some x from e]
    rfl
theorem os_ix : OSem G (rIx G.K) fIx := fun {E F H σ ρ α Q x y dx dy} S hx hy h => by
  unfold fIx at h
  split at h
  · obtain rfl := hy.int
    obtain ⟨a, vs, rfl, h1, h2⟩ := hx.l S.ex
    rename_i ds i
    cases q : atI ds i with
    | none => rw [q] at h; exact h.elim
    | some d =>
      rw [q] at h
      obtain ⟨v, e1, r⟩ := at_reps h2 q
      exact .inl ⟨a, vs, i, v, rfl, rfl, SqL.of h1, e1, Post.val h S r⟩
  · obtain rfl := hy.int
    obtain ⟨a, vs, rfl, h0, h1, h2⟩ := hx.t S.ex
    rename_i ds i
    cases q : atI ds i with
    | none => rw [q] at h; exact h.elim
    | some d =>
      rw [q] at h
      obtain ⟨v, e1, r⟩ := at_reps h2 q
      exact .inr (.inl ⟨a, vs, i, v, rfl, rfl, SqT.of h1, e1, Post.val h S r⟩)
  · obtain rfl := hy.int
    rename_i ns i
    rcases hx with hx | ⟨ds, a, vs, q, _⟩ | ⟨ds, a, vs, q, _⟩ | ⟨c, fs, a, dx, fvs, q, _⟩
    · unfold Rep at hx
      obtain ⟨a, rfl, h1⟩ := hx
      cases q : atI ns i with
      | none => rw [q] at h; exact h.elim
      | some n =>
        rw [q] at h
        exact .inl ⟨a, _, i, _, rfl, rfl, S.ex.l h1, at_map q, Post.val h S Rep.ofInt⟩
    all_goals cases q
  · exact h.elim
end

/-! ### built-ins -/
def fLen : List D → Option O
  | [.lst ds] => some (.val (.int ds.length))
  | [.tup ds] => some (.val (.int ds.length))
  | [.scr ds] => some (.val (.int ds.length))
  | [.str x] => if x.length ≤ 100000 then some (.val (.int x.length)) else none
  | _ => none
def bools : List D → Option (List Bool)
  | [] => some []
  | .bl b :: r => (bools r).map (b :: ·)
  | _ => none
def fAll : List D → Option O
  | [.lst ds] => (bools ds).map fun bs => .val (.bl (bs.all id))
  | _ => none
def fAny : List D → Option O
  | [.lst ds] => (bools ds).map fun bs => .val (.bl (bs.any id))
  | _ => none
def fList : List D → Option O
  | [.lst ds] => some (.lst ds)
  | [.tup ds] => some (.lst ds)
  | _ => none
def fTuple : List D → Option O
  | [.lst ds] => some (.val (.tup ds))
  | [.tup ds] => some (.val (.tup ds))
  | _ => none
def fMin2 : List D → Option O
  | [.int i, .int j] => some (.val (.int (if j < i then j else i)))
  | _ => none
def fMax2 : List D → Option O
  | [.int i, .int j] => some (.val (.int (if j > i then j else i)))
  | _ => none
def fIntOf : List D → Option O
  | [.int i] => some (.val (.int i))
  | [.bl k] => some (.val (.int (if k then 1 else 0)))
  | _ => none
section
variable {G : Cn} {F H : Hp} {σ : L2.St} {ρ : Rho} {α : Al}
theorem RepXs.one {vs : List V} {d : D} (h : RepXs G F H vs [d]) : ∃ v, vs = [v] ∧ RepX G F H v d := by
  obtain ⟨v, r, rfl, h1, h2⟩ := h
  obtain rfl : r = [] := h2
  exact ⟨v, rfl, h1⟩
theorem RepXs.two {vs : List V} {d e : D} (h : RepXs G F H vs [d, e]) : ∃ v w, vs = [v, w] ∧ RepX G F H v d ∧ RepX G F H w e := by
  obtain ⟨v, r, rfl, h1, h2⟩ := h
  obtain ⟨w, rfl, h3⟩ := RepXs.one h2
  exact ⟨v, w, rfl, h1, h3⟩
theorem RepX.scr {v : V} {ns : List Int} (h : RepX G F H v (.scr ns)) (e : Ex F H) : ∃ a, v = .ref a ∧ SqL G.K H a (ns.map V.int) := by
  rcases h with h | ⟨ds, a, vs, q, _⟩ | ⟨ds, a, vs, q, _⟩ | ⟨c, fs, a, dx, fvs, q, _⟩
  · unfold Rep at h
    obtain ⟨a, rfl, h1⟩ := h
    exact ⟨a, rfl, e.l h1⟩
  all_goals cases q
theorem cs_len : CSem G (fun xs H Q => ∃ x n, xs = [x] ∧ LenV G.K x H n ∧ Q (.int n) H) fLen := fun {E F H σ ρ α Q vs ds} S hv h => by
  unfold fLen at h
  split at h
  · obtain ⟨v, rfl, hx⟩ := hv.one
    obtain ⟨a, ws, rfl, h1, h2⟩ := hx.l S.ex
    exact ⟨.ref a, _, rfl, .inl ⟨ws, SqL.of h1, h2.length.symm⟩, Post.val h S Rep.ofInt⟩
  · obtain ⟨v, rfl, hx⟩ := hv.one
    obtain ⟨a, ws, rfl, h0, h1, h2⟩ := hx.t S.ex
    exact ⟨.ref a, _, rfl, .inr ⟨ws, SqT.of h1, h2.length.symm⟩, Post.val h S Rep.ofInt⟩
  · obtain ⟨v, rfl, hx⟩ := hv.one
    obtain ⟨a, rfl, h1⟩ := hx.scr S.ex
    exact ⟨.ref a, _, rfl, .inl ⟨_, h1, (List.length_map ..).symm⟩, Post.val h S Rep.ofInt⟩
  · obtain ⟨v, rfl, hx⟩ := hv.one
    obtain rfl := hx.str
    split at h
    · rename_i hl
      exact ⟨_, _, rfl, ⟨sz_of hl, rfl⟩, Post.val h S Rep.ofInt⟩
    · exact h.elim
  · exact h.elim
theorem bools_reps : ∀ {vs : List V} {ds : List D} {bs : List Bool}, Reps G F vs ds → bools ds = some bs → vs = bs.map V.bl
  | _, [], bs, h, e => by
    cases e
    rw [h.of_nil]
    rfl
  | _, d :: ds, bs, h, e => by
    obtain ⟨v, r, rfl, h1, h2⟩ := h.of_cons
    cases d with
    | bl b =>
      unfold bools at e
      cases q : bools ds with
      | none => rw [q] at e; cases e
      | some bs' =>
        rw [q] at e
        cases e
        unfold Rep at h1
        rw [h1, bools_reps h2 q]
        rfl
    | _ => cases e
theorem cs_all : CSem G (rAll G.K) fAll := fun {E F H σ ρ α Q vs ds} S hv h => by
  unfold fAll at h
  split at h
  · obtain ⟨v, rfl, hx⟩ := hv.one
    obtain ⟨a, ws, rfl, h1, h2⟩ := hx.l S.ex
    rename_i ds
    cases q : bools ds with
    | none => rw [q] at h; exact h.elim
    | some bs =>
      rw [q] at h
      obtain rfl := bools_reps h2 q
      exact ⟨a, bs, rfl, SqL.of h1, Post.val h S Rep.ofBl⟩
  · exact h.elim
theorem cs_any : CSem G (rAny G.K) fAny := fun {E F H σ ρ α Q vs ds} S hv h => by
  unfold fAny at h
  split at h
  · obtain ⟨v, rfl, hx⟩ := hv.one
    obtain ⟨a, ws, rfl, h1, h2⟩ := hx.l S.ex
    rename_i ds
    cases q : bools ds with
    | none => rw [q] at h; exact h.elim
    | some bs =>
      rw [q] at h
      obtain rfl := bools_reps h2 q
      exact ⟨a, bs, rfl, SqL.of h1, Post.val h S Rep.ofBl⟩
  · exact h.elim
theorem cs_list : CSem G (fun xs H Q => ∃ p ys, xs = [.ref p] ∧ (SqL G.K H p ys ∨ SqT G.K H p ys) ∧ ∀ l, H l = none → Q (.ref l) (upd H l (.lst ys))) fList := fun {E F H σ ρ α Q vs ds} S hv h => by
  unfold fList at h
  split at h
  · obtain ⟨v, rfl, hx⟩ := hv.one
    obtain ⟨a, ws, rfl, h1, h2⟩ := hx.l S.ex
    exact ⟨a, ws, rfl, .inl (SqL.of h1), fun l hl => Post.newL h S hl h2⟩
  · obtain ⟨v, rfl, hx⟩ := hv.one
    obtain ⟨a, ws, rfl, h0, h1, h2⟩ := hx.t S.ex
    exact ⟨a, ws, rfl, .inr (SqT.of h1), fun l hl => Post.newL h S hl h2⟩
  · exact h.elim
theorem cs_tuple : CSem G (fun xs H Q => ∃ p ys, xs = [.ref p] ∧ ((SqL G.K H p ys ∧ ∀ l, H l = none → Q (.ref l) (upd H l (.tup ys))) ∨ (SqT G.K H p ys ∧ Q (.ref p) H))) fTuple := fun {E F H σ ρ α Q vs ds} S hv h => by
  unfold fTuple at h
  split at h
  · obtain ⟨v, rfl, hx⟩ := hv.one
    obtain ⟨a, ws, rfl, h1, h2⟩ := hx.l S.ex
    exact ⟨a, ws, rfl, .inl ⟨SqL.of h1, fun l hl => Post.newV h S hl (Rep.ofTup upd_same (h2.mono (Ex.new (S.fresh hl))))⟩⟩
  · obtain ⟨v, rfl, hx⟩ := hv.one
    obtain ⟨a, ws, rfl, h0, h1, h2⟩ := hx.t S.ex
    exact ⟨a, ws, rfl, .inr ⟨SqT.of h1, Post.val h S (Rep.ofTup h0 h2)⟩⟩
  · exact h.elim
theorem cs_min2 : CSem G (fun xs H Q => ∃ i j, xs = [.int i, .int j] ∧ Q (.int (if j < i then j else i)) H) fMin2 := fun {E F H σ ρ α Q vs ds} S hv h => by
  unfold fMin2 at h
  split at h
  · obtain ⟨v, w, rfl, hx, hy⟩ := hv.two
    obtain rfl := hx.int
    obtain rfl := hy.int
    exact ⟨_, _, rfl, Post.val h S Rep.ofInt⟩
  · exact h.elim
theorem cs_max2 : CSem G (fun xs H Q => ∃ i j, xs = [.int i, .int j] ∧ Q (.int (if j > i then j else i)) H) fMax2 := fun {E F H σ ρ α Q vs ds} S hv h => by
  unfold fMax2 at h
  split at h
  · obtain ⟨v, w, rfl, hx, hy⟩ := hv.two
    obtain rfl := hx.int
    obtain rfl := hy.int
    exact ⟨_, _, rfl, Post.val h S Rep.ofInt⟩
  · exact h.elim
theorem cs_intOf : CSem G (fun xs H Q => (∃ i, xs = [.int i] ∧ Q (.int i) H) ∨ ∃ k, xs = [.bl k] ∧ Q (.int (if k then 1 else 0)) H) fIntOf := fun {E F H σ ρ α Q vs ds} S hv h => by
  unfold fIntOf at h
  split at h
  · obtain ⟨v, rfl, hx⟩ := hv.one
    obtain rfl := hx.int
    exact .inl ⟨_, rfl, Post.val h S Rep.ofInt⟩
  · obtain ⟨v, rfl, hx⟩ := hv.one
    obtain rfl := hx.bl
    exact .inr ⟨_, rfl, Post.val h S Rep.ofInt⟩
  · exact h.elim
/-- isinstance of what is no instance, a built-in class -/
def tyOf : D → Option String
  | .non => some "NoneType"
  | .bl _ => some "bool"
  | .int _ => some "int"
  | .str _ => some "str"
  | .tup _ => some "tuple"
  | .lst _ => some "list"
  | .scr _ => some "list"
  | .dic _ => some "dict"
  | .ins _ _ => none
def kitT (t : String) : List (String × Bool) := match t with
  | "int" => [("NoneType", false), ("bool", true), ("int", true), ("str", false), ("tuple", false), ("list", false), ("dict", false)]
  | "bool" => [("NoneType", false), ("bool", true), ("int", false), ("str", false), ("tuple", false), ("list", false), ("dict", false)]
  | "str" => [("NoneType", false), ("bool", false), ("int", false), ("str", true), ("tuple", false), ("list", false), ("dict", false)]
  | "tuple" => [("NoneType", false), ("bool", false), ("int", false), ("str", false), ("tuple", true), ("list", false), ("dict", false)]
  | "list" => [("NoneType", false), ("bool", false), ("int", false), ("str", false), ("tuple", false), ("list", true), ("dict", false)]
  | "dict" => [("NoneType", false), ("bool", false), ("int", false), ("str", false), ("tuple", false), ("list", false), ("dict", true)]
  | _ => []
def fIsTy (t : String) : List D → Option O
  | [x] => (tyOf x).bind fun a => ((kitT t).lookup a).map fun b => .val (.bl b)
  | _ => none
theorem kit_all : ∀ t ∈ ["int", "bool", "str", "tuple", "list", "dict"], ∀ p ∈ kitT t, kitB p.1 t = some p.2 := by decide +kernel
end
end VL

namespace VL
open PySem PySem.Spec
open PyProof.Rows L2
open Evl (Ex sz_of)

section
variable {G : Cn} {E : XK} {ta tb tc : TE} {ma mb mc : M} {i : Nat}

/-! ### isinstance -/
/-- what kind of thing each value is: ans says the answer for it -/
def IsOk (G : Cn) (u : Value) (ans : D → Option Bool) : Prop := ∀ {F H : Hp} {v : V} {d : D} {b : Bool}, Ex F H → RepX G F H v d → ans d = some b → ∃ t, TyX G.K H v t ∧ PySem.W.kitOne G.K t u = some b
def mIs (ans : D → Option Bool) (a : M) : M := fun ρ => bnd (a ρ) fun o ρ1 => (ans o.frz).map fun b => (.ok (.val (.bl b)), ρ1)
theorem sem_is {cv : V} {u : Value} {ans : D → Option Bool} (hk : IsOk G u ans) (hc : ClsV cv u) (ha : Sem G E ta ma) : Sem G E (tCB (rIsi G.K) (tCons ta (tCons (tC cv) tNil))) (mIs ans ma) := ⟨fun {F H σ ρ α Q} S h =>
  ha.run S (Post.to h fun o ρ1 v F1 H1 α1 S1 r1 T1 N1 h1 => by
    cases e : ans o.frz with
    | none => rw [e] at h1; exact h1.elim
    | some b =>
      rw [e] at h1
      obtain ⟨t, ht, hq⟩ := hk S1.ex (.inl r1) e
      exact ⟨v, cv, t, u, b, rfl, hc, ht, hq, Post.val (Post.shift T1 N1 h1) S1 Rep.ofBl⟩)⟩
theorem RepX.ty {F H : Hp} {v : V} {d : D} {n : String} (e : Ex F H) (h : RepX G F H v d) (q : tyOf d = some n) : TyX G.K H v (.type n) := by
  cases d with
  | non => cases q; rw [h.non]; exact .base .non
  | bl b => cases q; rw [h.bl]; exact .base (.bl b)
  | int b => cases q; rw [h.int]; exact .base (.int b)
  | str b => cases q; rw [h.str]; exact .base (.str b)
  | tup ds =>
    cases q
    obtain ⟨a, vs, rfl, h0, h1, h2⟩ := h.t e
    exact .base (.tup h1)
  | lst ds =>
    cases q
    obtain ⟨a, vs, rfl, h1, h2⟩ := h.l e
    exact .base (.lst h1)
  | dic ds =>
    cases q
    obtain ⟨a, vs, rfl, h1, h2⟩ := h.k e
    exact .base (.dK h1)
  | ins c fs => cases q
  | scr ns =>
    cases q
    obtain ⟨a, rfl, h1⟩ := h.scr e
    rcases h1 with (h1 | ⟨o, h1⟩) | ⟨o, its, n, hk, hc, _⟩
    · exact .base (.lst h1)
    · exact .base (.frz h1)
    · exact .kList hk hc
/-- a built-in class, of what is no instance -/
def ansT (t : String) (d : D) : Option Bool := (tyOf d).bind fun a => (kitT t).lookup a
theorem mem_lookup {l : List (String × Bool)} {a : String} {b : Bool} (h : l.lookup a = some b) : (a, b) ∈ l := by
  induction l with
  | nil => cases h
  | cons p r ih =>
    obtain ⟨x, y⟩ := p
    unfold List.lookup at h
    split at h
    · rename_i e
      cases h
      have : a = x := by simpa using e
      subst this
      exact List.mem_cons_self
    · exact List.mem_cons_of_mem _ (ih h)
theorem is_ty {t : String} (ht : t ∈ ["int", "bool", "str", "tuple", "list", "dict"]) : IsOk G (.type t) (ansT t) := fun {F H v d b} e r q => by
  unfold ansT at q
  cases q1 : tyOf d with
  | none => rw [q1] at q; cases q
  | some a =>
    rw [q1] at q
    exact ⟨.type a, r.ty e q1, kit_ty (kit_all t ht (a, b) (mem_lookup q))⟩
/-- the library's word for what isinstance asks of an own class -/
abbrev InsOk := @C8.InsC
/-- any class u: the built-in kinds' answers kt, the own classes' answers cs -/
def ansC (kt : List (String × Bool)) (cs : List (Nat × Bool)) (d : D) : Option Bool := match d with
  | .ins c _ => cs.lookup c
  | d => (tyOf d).bind fun a => kt.lookup a
theorem mem_lookupN {l : List (Nat × Bool)} {a : Nat} {b : Bool} (h : l.lookup a = some b) : (a, b) ∈ l := by
  induction l with
  | nil => cases h
  | cons p r ih =>
    obtain ⟨x, y⟩ := p
    unfold List.lookup at h
    split at h
    · rename_i e
      cases h
      have : a = x := by simpa using e
      subst this
      exact List.mem_cons_self
    · exact List.mem_cons_of_mem _ (ih h)
theorem is_cls {u : Value} {kt : List (String × Bool)} {cs : List (Nat × Bool)} (h1 : ∀ p ∈ kt, PySem.W.kitOne G.K (.type p.1) u = some p.2) (h2 : ∀ p ∈ cs, InsOk G.K (G.cls p.1) ∧ PySem.W.kitOne G.K (.ref (G.cls p.1)) u = some p.2) : IsOk G u (ansC kt cs) := fun {F H v d b} e r q => by
  unfold ansC at q
  split at q
  · rename_i c fs
    obtain ⟨a, dx, fvs, rfl, hx, _⟩ := r.i e
    obtain ⟨k, kb⟩ := h2 (c, b) (mem_lookupN q)
    exact ⟨.ref (G.cls c), .base (.ins hx k.cl k.ha k.hn k.htk k.hm), kb⟩
  · cases q1 : tyOf d with
    | none => rw [q1] at q; cases q
    | some a =>
      rw [q1] at q
      exact ⟨.type a, r.ty e q1, h1 (a, b) (mem_lookup q)⟩

/-! ### slices -/
def cutD (ds : List D) (lo hi : Option Int) : List D := (ds.drop (HT.sIx ds.length 0 lo)).take (HT.sIx ds.length ds.length hi - HT.sIx ds.length 0 lo)
structure SemO (G : Cn) (E : XK) (t : TO) (m : Rho → Option (Rs (Option Int) × Rho)) : Prop where
  run : ∀ {F H σ ρ α} {Q : Option Int → Hp → Prop}, Ste G F H σ ρ α → PostG G E F H α (fun x ρ1 => ∀ F1 H1 α1, Ste G F1 H1 σ ρ1 α1 → Stp (Own α) F H F1 H1 → New (Own α) H (Own α1) → Q x H1) (m ρ) → t σ H Q
def oNone : Rho → Option (Rs (Option Int) × Rho) := fun ρ => some (.ok none, ρ)
def oPart (a : M) : Rho → Option (Rs (Option Int) × Rho) := fun ρ => bnd (a ρ) fun o ρ1 => match o.frz with
  | .int i => some (.ok (some i), ρ1)
  | _ => none
theorem semO_none : SemO G E tNoPart oNone := ⟨fun {F H σ ρ α Q} S h => h F H α S .refl .refl⟩
theorem semO_part (ha : Sem G E ta ma) : SemO G E (tPart ta) (oPart ma) := ⟨fun {F H σ ρ α Q} S h =>
  ha.run S (Post.to h fun o ρ1 v F1 H1 α1 S1 r1 T1 N1 h1 => by
    split at h1
    · rename_i i e
      rw [e] at r1
      exact ⟨i, r1.toInt, h1 F1 H1 α1 S1 T1 N1⟩
    · exact h1.elim)⟩
def fSl (x : D) (lo hi : Option Int) : Option O := match x with
  | .lst ds => some (.lst (cutD ds lo hi))
  | .tup ds => some (.val (.tup (cutD ds lo hi)))
  | .scr ns => some (.lst (cutD (ns.map .int) lo hi))
  | _ => none
def rSlice (K : PySem.W.Frag) : V → Option Int → Option Int → Hp → VK → Prop := fun x lo hi H Q => rSlL K x lo hi H Q ∨ rSlA K x lo hi H Q
theorem sl_any {X : Cx} : SlR X (rSlice X.K) := sl_list.or sl_tupA
theorem cut_reps {F : Hp} {vs : List V} {ds : List D} {lo hi : Option Int} (h : Reps G F vs ds) : Reps G F (cutV vs lo hi) (cutD ds lo hi) := by
  unfold cutV cutD
  rw [h.length]
  exact (h.drop _).take _
theorem reps_ints {F : Hp} : ∀ ns : List Int, Reps G F (ns.map V.int) (ns.map D.int)
  | [] => Reps.nil
  | n :: r => Reps.cons Rep.ofInt (reps_ints r)
def mSl (a : M) (lo hi : Rho → Option (Rs (Option Int) × Rho)) : M := fun ρ => bnd (a ρ) fun x ρ1 => bnd (lo ρ1) fun l ρ2 => bnd (hi ρ2) fun u ρ3 => (fSl x.frz l u).map fun o => (.ok o, ρ3)
theorem PostG.toO {F H : Hp} {σ : L2.St} {α : Al} {B : Type} {r : Option (Rs (Option Int) × Rho)} {k : Option Int → Rho → Option (Rs B × Rho)} {okQ : B → Rho → Prop} {R : Option Int → Hp → Prop} (h : PostG G E F H α okQ (bnd r k))
    (hk : ∀ x ρ1 F1 H1 α1, Ste G F1 H1 σ ρ1 α1 → Stp (Own α) F H F1 H1 → New (Own α) H (Own α1) → PostG G E F H α okQ (k x ρ1) → R x H1) :
    PostG G E F H α (fun x ρ1 => ∀ F1 H1 α1, Ste G F1 H1 σ ρ1 α1 → Stp (Own α) F H F1 H1 → New (Own α) H (Own α1) → R x H1) r :=
  PostG.bind h fun x ρ1 hp F1 H1 α1 S T N => hk x ρ1 F1 H1 α1 S T N hp
theorem slice_end {F H : Hp} {σ : L2.St} {ρ : Rho} {α : Al} {Q : VK} {v : V} {d : D} {l u : Option Int} (S : Ste G F H σ ρ α) (r : RepX G F H v d) (h : Post G E F H σ α ((fSl d l u).map fun o => (.ok o, ρ)) Q) : rSlice G.K v l u H Q := by
  unfold fSl at h
  split at h
  · obtain ⟨a, vs, rfl, h1, h2⟩ := r.l S.ex
    exact .inl ⟨a, vs, rfl, SqL.of h1, fun p hp => Post.newL h S hp (cut_reps h2)⟩
  · rename_i ds
    obtain ⟨a, vs, rfl, h0, h1, h2⟩ := r.t S.ex
    refine .inr ⟨a, vs, rfl, SqT.of h1, fun hw => ?_, fun _ p hp => Post.newV h S hp (Rep.ofTup upd_same ((cut_reps h2).mono (Ex.new (S.fresh hp))))⟩
    have e : cutD ds l u = ds := by
      unfold cutD
      rw [← h2.length, hw.1, hw.2, List.drop_zero, Nat.sub_zero, h2.length, List.take_length]
    rw [e] at h
    exact Post.val h S (Rep.ofTup h0 h2)
  · obtain ⟨a, rfl, h1⟩ := r.scr S.ex
    exact .inl ⟨a, _, rfl, h1, fun p hp => Post.newL h S hp (cut_reps (reps_ints _))⟩
  · exact h.elim
theorem sem_sl {tl th : TO} {ml mh : Rho → Option (Rs (Option Int) × Rho)} (ha : Sem G E ta ma) (hl : SemO G E tl ml) (hh : SemO G E th mh) : Sem G E (tSl (rSlice G.K) ta tl th) (mSl ma ml mh) := ⟨fun {F H σ ρ α Q} S h =>
  ha.run S (Post.to h fun o ρ1 v F1 H1 α1 S1 r1 T1 N1 h1 => hl.run S1 (PostG.toO (Post.shift T1 N1 h1) fun x ρ2 F2 H2 α2 S2 T2 N2 h2 => hh.run S2 (PostG.toO (Post.shift T2 N2 h2) fun y ρ3 F3 H3 α3 S3 T3 N3 h3 =>
    slice_end S3 (.inl ((r1.mono T2.exF).mono T3.exF)) (Post.shift T3 N3 h3))))⟩
/-- .. of what stands in a slot -/
def mSlS (i : Nat) (lo hi : Rho → Option (Rs (Option Int) × Rho)) : M := fun ρ => (look ρ i).bind fun _ => bnd (lo ρ) fun l ρ2 => bnd (hi ρ2) fun u ρ3 => (look ρ3 i).bind fun x => (fSl x l u).map fun o => (.ok o, ρ3)
theorem sem_slS {tl th : TO} {ml mh : Rho → Option (Rs (Option Int) × Rho)} (hl : SemO G E tl ml) (hh : SemO G E th mh) : Sem G E (tSl (rSlice G.K) (tVar i) tl th) (mSlS i ml mh) := ⟨fun {F H σ ρ α Q} S h => by
  unfold mSlS at h
  cases e : look ρ i with
  | none => rw [e] at h; exact h.elim
  | some d0 =>
    rw [e] at h
    obtain ⟨v, hv, _⟩ := look_x S e
    refine ⟨v, hv, hl.run S (PostG.toO h fun x ρ2 F2 H2 α2 S2 T2 N2 h2 => hh.run S2 (PostG.toO (Post.shift T2 N2 h2) fun y ρ3 F3 H3 α3 S3 T3 N3 h3 => ?_))⟩
    cases e1 : look ρ3 i with
    | none => rw [e1] at h3; exact h3.elim
    | some d1 =>
      rw [e1] at h3
      obtain ⟨v', hv', rx⟩ := look_x S3 e1
      rw [hv] at hv'
      cases hv'
      exact slice_end S3 rx (Post.shift T3 N3 h3)⟩

/-! ### fields -/
def mFld (cs : List Nat) (f : Str) (a : M) : M := fun ρ => bnd (a ρ) fun o ρ1 => match o.frz with
  | .ins c fs => if c ∈ cs then (fs.lookup f).map fun d => (.ok (.val d), ρ1) else none
  | _ => none
theorem repsF_look {F : Hp} {f : Str} : ∀ {fvs : List (Str × V)} {fds : List (Str × D)} {d : D}, RepsF G F fvs fds → fds.lookup f = some d → ∃ v, fvs.lookup f = some v ∧ Rep G F v d
  | _, [], d, h, e => by cases e
  | _, (k, d') :: r, d, h, e => by
    unfold RepsF at h
    obtain ⟨v, vs, rfl, h1, h2⟩ := h
    unfold List.lookup at e ⊢
    split at e
    · rename_i q
      cases e
      exact ⟨v, rfl, h1⟩
    · exact repsF_look h2 e
theorem repsF_none {F : Hp} {f : Str} : ∀ {fvs : List (Str × V)} {fds : List (Str × D)}, RepsF G F fvs fds → fds.lookup f = none → fvs.lookup f = none
  | _, [], h, e => by
    unfold RepsF at h
    subst h
    rfl
  | _, (k, d') :: r, h, e => by
    unfold RepsF at h
    obtain ⟨v, vs, rfl, h1, h2⟩ := h
    unfold List.lookup at e ⊢
    split at e
    · cases e
    · exact repsF_none h2 e
theorem sem_fld {cs : List Nat} {f : Str} (hc : ∀ c ∈ cs, Cls G.K (G.cls c) ∧ NoAttr G.K (G.cls c) f) (ha : Sem G E ta ma) : Sem G E (tFld G.K ta f) (mFld cs f ma) := ⟨fun {F H σ ρ α Q} S h =>
  ha.run S (Post.to h fun o ρ1 v F1 H1 α1 S1 r1 T1 N1 h1 => by
    split at h1
    · rename_i c fs e
      rw [e] at r1
      split at h1
      · rename_i hm
        unfold Rep at r1
        obtain ⟨a, dx, fvs, rfl, e1, e2⟩ := r1
        cases q : fs.lookup f with
        | none => rw [q] at h1; exact h1.elim
        | some d =>
          rw [q] at h1
          obtain ⟨w, hw, rw'⟩ := repsF_look e2 q
          exact ⟨a, _, dx, fvs, w, rfl, S1.ex _ _ e1, (hc c hm).1, (hc c hm).2, hw, Post.val (Post.shift T1 N1 h1) S1 rw'⟩
      · exact h1.elim
    · exact h1.elim)⟩
/-- .. of what stands in a slot (self, while it is made) -/
def mFldS (cs : List Nat) (f : Str) (i : Nat) : M := fun ρ => (look ρ i).bind fun x => match x with
  | .ins c fs => if c ∈ cs then (fs.lookup f).map fun d => (.ok (.val d), ρ) else none
  | _ => none
theorem sem_fldS {cs : List Nat} {f : Str} (hc : ∀ c ∈ cs, Cls G.K (G.cls c) ∧ NoAttr G.K (G.cls c) f) : Sem G E (tFld G.K (tVar i) f) (mFldS cs f i) := ⟨fun {F H σ ρ α Q} S h => by
  unfold mFldS at h
  cases e : look ρ i with
  | none => rw [e] at h; exact h.elim
  | some d0 =>
    rw [e] at h
    obtain ⟨v, hv, rx⟩ := look_x S e
    dsimp only [Option.bind] at h
    split at h
    · rename_i c fs
      split at h
      · rename_i hm
        obtain ⟨a, dx, fvs, rfl, e1, e2⟩ := rx.i S.ex
        cases q : fs.lookup f with
        | none => rw [q] at h; exact h.elim
        | some d =>
          rw [q] at h
          obtain ⟨w, hw, rw'⟩ := repsF_look e2 q
          exact ⟨_, hv, a, _, dx, fvs, w, rfl, e1, (hc c hm).1, (hc c hm).2, hw, Post.val h S rw'⟩
      · exact h.elim
    · exact h.elim⟩
end
end VL

namespace VL
open PySem PySem.Spec
open PyProof.Rows L2
open Evl (Ex sz_of)

/-! ### an object of one's own is changed -/
section
variable {G : Cn} {E : XK} {F F1 H H1 : Hp} {σ : L2.St} {ρ ρ1 : Rho} {α α1 : Al} {i : Nat}
/-- the slot's object is written at its own address; all else stays -/
theorem Ste.write {o o' : O} {a : Addr} {u : HO} (S : Ste G F H σ ρ α) (ho : ρ[i]? = some (some o)) (ha : a ∈ α i) (hv : ∀ v, σ[i]? = some (some v) → RepO G F H (α i) v o → RepO G F (upd H a u) (α i) v o') : Ste G F (upd H a u) σ (ρ.set i (some o')) α where
  ex := S.ex.mut (S.own ⟨i, ha⟩).1
  len := by rw [List.length_set]; exact S.len
  slot := fun j x e => by
    have hi : i < ρ.length := (List.getElem?_eq_some_iff.mp ho).1
    by_cases hj : j = i
    · subst hj
      rw [List.getElem?_set_self hi] at e
      cases e
      obtain ⟨v, h1, r⟩ := S.slot j o ho
      exact ⟨v, h1, hv v h1 r⟩
    · rw [List.getElem?_set_ne (Ne.symm hj)] at e
      obtain ⟨v, h1, r⟩ := S.slot j x e
      refine ⟨v, h1, r.move (Ex.refl F) (fun b hb => (r.mem b hb).1) fun b hb y hy => ?_⟩
      rw [upd_ne fun z => S.dis j i a hj (by rw [← z]; exact hb) ha]
      exact hy
  off := fun j h => by
    by_cases hj : j = i
    · subst hj
      exact absurd (List.getElem?_set_self (List.getElem?_eq_some_iff.mp ho).1) (h o')
    · exact S.off j fun x e => h x (by rw [List.getElem?_set_ne (Ne.symm hj)]; exact e)
  dis := S.dis
theorem Stp.write {a : Addr} {u : HO} (h : Own α a) : Stp (Own α) F H F (upd H a u) where
  exF := Ex.refl F
  keep := fun b o e n => by
    rw [upd_ne fun z => n (by rw [z]; exact h)]
    exact e
  newF := fun b o e => .inl e
/-- what stands in a slot, a list of one's own -/
theorem Ste.slotL {ds : List D} (S : Ste G F H σ ρ α) (h : ρ[i]? = some (some (.lst ds))) : ∃ a vs, σ[i]? = some (some (.ref a)) ∧ α i = [a] ∧ H a = some (.lst vs) ∧ Reps G F vs ds := by
  obtain ⟨v, h1, r⟩ := S.slot i _ h
  obtain ⟨a, vs, rfl, e1, e2, e3, e4⟩ := r
  exact ⟨a, vs, h1, e1, e3, e4⟩
theorem Ste.slotD {ds : List (Key × D)} (S : Ste G F H σ ρ α) (h : ρ[i]? = some (some (.dic ds))) : ∃ a vs, σ[i]? = some (some (.ref a)) ∧ α i = [a] ∧ H a = some (.dK vs) ∧ RepsK G F vs ds := by
  obtain ⟨v, h1, r⟩ := S.slot i _ h
  obtain ⟨a, vs, rfl, e1, e2, e3, e4⟩ := r
  exact ⟨a, vs, h1, e1, e3, e4⟩
theorem Ste.slotI {c : Nat} {fs : List (Str × D)} (S : Ste G F H σ ρ α) (h : ρ[i]? = some (some (.ins c fs))) : ∃ a dx vs, σ[i]? = some (some (.ref a)) ∧ α i = [a, dx] ∧ dx ≠ a ∧ H a = some (.ins (G.cls c) dx vs) ∧ H dx = some (.own a) ∧ RepsF G F vs fs := by
  obtain ⟨v, h1, r⟩ := S.slot i _ h
  obtain ⟨a, dx, vs, rfl, e1, ne, e2, e3, e4, e5, e6⟩ := r
  exact ⟨a, dx, vs, h1, e1, ne, e4, e5, e6⟩
theorem Ste.writeL {ds ds' : List D} {a : Addr} {vs' : List V} (S : Ste G F H σ ρ α) (h : ρ[i]? = some (some (.lst ds))) (ha : α i = [a]) (r : Reps G F vs' ds') : Ste G F (upd H a (.lst vs')) σ (ρ.set i (some (.lst ds'))) α :=
  S.write h (by rw [ha]; simp) fun v hv q => by
    obtain ⟨a', vs, rfl, e1, e2, e3, e4⟩ := q
    rw [ha] at e1
    cases e1
    exact ⟨a, vs', rfl, ha, e2, upd_same, r⟩
theorem Ste.writeD {ds ds' : List (Key × D)} {a : Addr} {vs' : List (Key × V)} (S : Ste G F H σ ρ α) (h : ρ[i]? = some (some (.dic ds))) (ha : α i = [a]) (r : RepsK G F vs' ds') : Ste G F (upd H a (.dK vs')) σ (ρ.set i (some (.dic ds'))) α :=
  S.write h (by rw [ha]; simp) fun v hv q => by
    obtain ⟨a', vs, rfl, e1, e2, e3, e4⟩ := q
    rw [ha] at e1
    cases e1
    exact ⟨a, vs', rfl, ha, e2, upd_same, r⟩
theorem Ste.writeI {c : Nat} {fs fs' : List (Str × D)} {a dx : Addr} {vs' : List (Str × V)} (S : Ste G F H σ ρ α) (h : ρ[i]? = some (some (.ins c fs))) (ha : α i = [a, dx]) (r : RepsF G F vs' fs') : Ste G F (upd H a (.ins (G.cls c) dx vs')) σ (ρ.set i (some (.ins c fs'))) α :=
  S.write h (by rw [ha]; simp) fun v hv q => by
    obtain ⟨a', dx', vs, rfl, e1, ne, e2, e3, e4, e5, e6⟩ := q
    rw [ha] at e1
    cases e1
    exact ⟨a, dx, vs', rfl, ha, ne, e2, e3, upd_same, by rw [upd_ne ne]; exact e5, r⟩
theorem own_of {a : Addr} {l : List Addr} (h : α i = l) (ha : a ∈ l) : Own α a := ⟨i, by rw [h]; exact ha⟩
variable {ta tb : TE} {ma mb : M}
/-- xs.append(e) -/
def mApp (i : Nat) (a : M) : M := fun ρ => match ρ[i]? with
  | some (some (.lst _)) => bnd (a ρ) fun o ρ1 => (match ρ1[i]? with
    | some (some (.lst ds)) => if ds.length < 100000 then some (.ok (.val .non), ρ1.set i (some (.lst (ds ++ [o.frz])))) else none
    | _ => none)
  | _ => none
theorem sem_app (ha : Sem G E ta ma) : Sem G E (tBM G.K "list" rAppend (tVar i) (tCons ta tNil)) (mApp i ma) := ⟨fun {F H σ ρ α Q} S h => by
  unfold mApp at h
  split at h
  · rename_i ds0 e0
    obtain ⟨p, vs0, hv, hp, hh, hr⟩ := S.slotL e0
    refine ⟨.ref p, hv, .inl ⟨rfl, vs0, SqL.of hh⟩, ha.run S (Post.to h fun o ρ1 v F1 H1 α1 S1 r1 T1 N1 h1 => ?_)⟩
    split at h1
    · rename_i ds e1
      split at h1
      · rename_i hl
        obtain ⟨p', vs, hv', hp', hh', hr'⟩ := S1.slotL e1
        rw [hv] at hv'
        cases hv'
        refine ⟨p, vs, v, rfl, rfl, hh', Nat.lt_of_lt_of_le (by rw [hr'.length]; exact hl) (by decide), ?_⟩
        have ow : Own α1 p := own_of hp' (by simp)
        exact Post.shift T1 N1 h1 .non F1 _ α1 [] (S1.writeL e1 hp' (hr'.append (Reps.one r1))) ⟨rfl, Rep.ofNon⟩ (Stp.write ow) (fun _ z => nomatch z) fun a z => by
          rcases z with z | z
          · exact .inl z
          · cases z
      · exact h1.elim
    · exact h1.elim
  · exact h.elim⟩
/-- xs.pop(i) -/
def mPopAt (i : Nat) (a : M) : M := fun ρ => match ρ[i]? with
  | some (some (.lst _)) => bnd (a ρ) fun o ρ1 => (match ρ1[i]?, o.frz with
    | some (some (.lst ds)), .int k => if 0 ≤ k ∧ k < 1000000 then (match ds[k.toNat]? with
      | some d => some (.ok (.val d), ρ1.set i (some (.lst (ds.eraseIdx k.toNat))))
      | none => none) else none
    | _, _ => none)
  | _ => none
theorem sem_popAt (ha : Sem G E ta ma) : Sem G E (tBM G.K "list" rPopAt (tVar i) (tCons ta tNil)) (mPopAt i ma) := ⟨fun {F H σ ρ α Q} S h => by
  unfold mPopAt at h
  split at h
  · rename_i ds0 e0
    obtain ⟨p, vs0, hv, hp, hh, hr⟩ := S.slotL e0
    refine ⟨.ref p, hv, .inl ⟨rfl, vs0, SqL.of hh⟩, ha.run S (Post.to h fun o ρ1 v F1 H1 α1 S1 r1 T1 N1 h1 => ?_)⟩
    split at h1
    · rename_i ds k e1 e2
      rw [e2] at r1
      obtain rfl := r1.toInt
      split at h1
      · rename_i hk
        split at h1
        · rename_i d hd
          obtain ⟨p', vs, hv', hp', hh', hr'⟩ := S1.slotL e1
          rw [hv] at hv'
          cases hv'
          obtain ⟨w, hw, rw'⟩ := hr'.get hd
          have hlt : k.toNat < vs.length := (List.getElem?_eq_some_iff.mp hw).1
          refine ⟨p, vs, k, k.toNat, w, rfl, rfl, hh', by omega, by omega, seqIndex_of hk.1 (by omega), hw, ?_⟩
          have ow : Own α1 p := own_of hp' (by simp)
          exact Post.shift T1 N1 h1 w F1 _ α1 [] (S1.writeL e1 hp' (hr'.erase _)) ⟨rfl, rw'⟩ (Stp.write ow) (fun _ z => nomatch z) fun a z => by
            rcases z with z | z
            · exact .inl z
            · cases z
        · exact h1.elim
      · exact h1.elim
    · exact h1.elim
  · exact h.elim⟩
/-- xs.pop() -/
def mPop (i : Nat) : M := fun ρ => match ρ[i]? with
  | some (some (.lst ds)) => (match ds[ds.length - 1]? with
    | some d => some (.ok (.val d), ρ.set i (some (.lst ds.dropLast)))
    | none => none)
  | _ => none
theorem reps_dropLast {vs : List V} {ds : List D} (h : Reps G F vs ds) : Reps G F vs.dropLast ds.dropLast := by
  rw [List.dropLast_eq_take, List.dropLast_eq_take, h.length]
  exact h.take _
theorem sem_pop : Sem G E (tBM0 G.K "list" rPop (tVar i)) (mPop i) := ⟨fun {F H σ ρ α Q} S h => by
  unfold mPop at h
  split at h
  · rename_i ds e0
    split at h
    · rename_i d hd
      obtain ⟨p, vs, hv, hp, hh, hr⟩ := S.slotL e0
      obtain ⟨w, hw, rw'⟩ := hr.get hd
      refine ⟨.ref p, hv, .inl ⟨rfl, vs, SqL.of hh⟩, p, vs, w, rfl, rfl, hh, by rw [hr.length]; exact hw, ?_⟩
      have ow : Own α p := own_of hp (by simp)
      exact h w F _ α [] (S.writeL e0 hp (reps_dropLast hr)) ⟨rfl, rw'⟩ (Stp.write ow) (fun _ z => nomatch z) fun a z => by
        rcases z with z | z
        · exact .inl z
        · cases z
    · exact h.elim
  · exact h.elim⟩
/-- xs.extend(ys) -/
def mExt (i : Nat) (a : M) : M := fun ρ => match ρ[i]? with
  | some (some (.lst _)) => bnd (a ρ) fun o ρ1 => (match ρ1[i]?, o.frz with
    | some (some (.lst ds)), .lst es => if ds.length + es.length ≤ 100000 then some (.ok (.val .non), ρ1.set i (some (.lst (ds ++ es)))) else none
    | _, _ => none)
  | _ => none
theorem sem_ext (ha : Sem G E ta ma) : Sem G E (tBM G.K "list" rExtend (tVar i) (tCons ta tNil)) (mExt i ma) := ⟨fun {F H σ ρ α Q} S h => by
  unfold mExt at h
  split at h
  · rename_i ds0 e0
    obtain ⟨p, vs0, hv, hp, hh, hr⟩ := S.slotL e0
    refine ⟨.ref p, hv, .inl ⟨rfl, vs0, SqL.of hh⟩, ha.run S (Post.to h fun o ρ1 v F1 H1 α1 S1 r1 T1 N1 h1 => ?_)⟩
    split at h1
    · rename_i ds es e1 e2
      rw [e2] at r1
      unfold Rep at r1
      obtain ⟨b, ws, rfl, hb, hrw⟩ := r1
      split at h1
      · rename_i hl
        obtain ⟨p', vs, hv', hp', hh', hr'⟩ := S1.slotL e1
        rw [hv] at hv'
        cases hv'
        refine ⟨p, b, vs, ws, rfl, rfl, hh', S1.ex _ _ hb, sz_of (by rw [hr'.length, hrw.length]; exact hl), ?_⟩
        have ow : Own α1 p := own_of hp' (by simp)
        exact Post.shift T1 N1 h1 .non F1 _ α1 [] (S1.writeL e1 hp' (hr'.append hrw)) ⟨rfl, Rep.ofNon⟩ (Stp.write ow) (fun _ z => nomatch z) fun a z => by
          rcases z with z | z
          · exact .inl z
          · cases z
      · exact h1.elim
    · exact h1.elim
  · exact h.elim⟩
/-- xs[i] = e, d[k] = e -/
def keyD : D → Option Key
  | .int i => some (.inl i)
  | .str x => some (.inr x)
  | _ => none
def getK (kds : List (Key × D)) (k : Key) : Option D := (kds.find? fun kv => decide (kv.1 = k)).map (·.2)
def putD (kds : List (Key × D)) (k : Key) (d : D) : List (Key × D) := if (kds.any fun kv => decide (kv.1 = k)) = true then kds.map fun kv => if kv.1 = k then (kv.1, d) else kv else kds ++ [(k, d)]
end
end VL

namespace VL
open PySem PySem.Spec
open PyProof.Rows L2
open Evl (Ex sz_of)

section
variable {G : Cn} {E : XK} {F F1 H H1 : Hp} {σ : L2.St} {ρ ρ1 : Rho} {α α1 : Al} {i : Nat} {ta tb : TE} {ma mb : M}
/-! ### dicts with int and text keys -/
theorem RepsK.nil : RepsK G F [] [] := by unfold RepsK; rfl
theorem RepsK.cons {k : Key} {v : V} {d : D} {vs : List (Key × V)} {ds : List (Key × D)} (h : Rep G F v d) (t : RepsK G F vs ds) : RepsK G F ((k, v) :: vs) ((k, d) :: ds) := by
  unfold RepsK
  exact ⟨v, vs, rfl, h, t⟩
theorem RepsK.of_nil {vs : List (Key × V)} (h : RepsK G F vs []) : vs = [] := by
  unfold RepsK at h
  exact h
theorem RepsK.of_cons {vs : List (Key × V)} {k : Key} {d : D} {ds : List (Key × D)} (h : RepsK G F vs ((k, d) :: ds)) : ∃ v r, vs = (k, v) :: r ∧ Rep G F v d ∧ RepsK G F r ds := by
  unfold RepsK at h
  exact h
theorem RepsK.length : ∀ {vs : List (Key × V)} {ds : List (Key × D)}, RepsK G F vs ds → vs.length = ds.length
  | _, [], h => by
    rw [h.of_nil]
    rfl
  | _, (k, d) :: ds, h => by
    obtain ⟨v, r, rfl, _, t⟩ := h.of_cons
    rw [List.length_cons, List.length_cons, RepsK.length t]
theorem RepsK.get (k : Key) : ∀ {vs : List (Key × V)} {ds : List (Key × D)}, RepsK G F vs ds → (∀ d, getK ds k = some d → ∃ v, valV vs k = some v ∧ Rep G F v d) ∧ (getK ds k = none → valV vs k = none)
  | _, [], h => by
    rw [h.of_nil]
    exact ⟨fun d e => (by cases e), fun _ => rfl⟩
  | _, (j, d0) :: ds, h => by
    obtain ⟨v, r, rfl, h1, t⟩ := h.of_cons
    have ih := RepsK.get k t
    by_cases e : j = k
    · have e1 : getK ((j, d0) :: ds) k = some d0 := by simp [getK, List.find?_cons, e]
      have e2 : valV ((j, v) :: r) k = some v := by simp [valV, List.find?_cons, e]
      rw [e1, e2]
      exact ⟨fun d q => ⟨v, rfl, by cases q; exact h1⟩, fun q => by cases q⟩
    · have e1 : getK ((j, d0) :: ds) k = getK ds k := by simp [getK, List.find?_cons, e]
      have e2 : valV ((j, v) :: r) k = valV r k := by simp [valV, List.find?_cons, e]
      rw [e1, e2]
      exact ih
theorem RepsK.any (p : Key → Bool) : ∀ {vs : List (Key × V)} {ds : List (Key × D)}, RepsK G F vs ds → (vs.any fun kv => p kv.1) = ds.any fun kv => p kv.1
  | _, [], h => by
    rw [h.of_nil]
    rfl
  | _, (j, d0) :: ds, h => by
    obtain ⟨v, r, rfl, h1, t⟩ := h.of_cons
    rw [List.any_cons, List.any_cons, RepsK.any p t]
theorem RepsK.map {k : Key} {v : V} {d : D} (q : Rep G F v d) : ∀ {vs : List (Key × V)} {ds : List (Key × D)}, RepsK G F vs ds → RepsK G F (vs.map fun kv => if kv.1 = k then (kv.1, v) else kv) (ds.map fun kv => if kv.1 = k then (kv.1, d) else kv)
  | _, [], h => by
    rw [h.of_nil]
    exact RepsK.nil
  | _, (j, d0) :: ds, h => by
    obtain ⟨w, r, rfl, h1, t⟩ := h.of_cons
    rw [List.map_cons, List.map_cons]
    by_cases e : j = k
    · rw [if_pos e, if_pos e]
      exact RepsK.cons q (RepsK.map q t)
    · rw [if_neg e, if_neg e]
      exact RepsK.cons h1 (RepsK.map q t)
theorem RepsK.snoc {k : Key} {v : V} {d : D} (q : Rep G F v d) : ∀ {vs : List (Key × V)} {ds : List (Key × D)}, RepsK G F vs ds → RepsK G F (vs ++ [(k, v)]) (ds ++ [(k, d)])
  | _, [], h => by
    rw [h.of_nil]
    exact RepsK.cons q RepsK.nil
  | _, (j, d0) :: ds, h => by
    obtain ⟨w, r, rfl, h1, t⟩ := h.of_cons
    exact RepsK.cons h1 (RepsK.snoc q t)
theorem RepsK.put {k : Key} {v : V} {d : D} {vs : List (Key × V)} {ds : List (Key × D)} (h : RepsK G F vs ds) (q : Rep G F v d) : RepsK G F (putK vs k v) (putD ds k d) := by
  unfold putK putD
  rw [h.any fun j => decide (j = k)]
  split
  · exact h.map q
  · exact h.snoc q
theorem key_x {v : V} {d : D} {k : Key} (h : RepX G F H v d) (e : keyD d = some k) : v = kV k := by
  unfold keyD at e
  split at e
  · cases e
    rw [h.int]
    rfl
  · cases e
    rw [h.str]
    rfl
  · cases e
/-- d[k], k in d, k not in d as operators by values -/
def rDGet : R2 := fun x y H Q => ∃ a v, x = .ref a ∧ DGet H a y (some v) ∧ Q v H
def rDIn (neg : Bool) : R2 := fun y x H Q => ∃ a o, x = .ref a ∧ DGet H a y o ∧ Q (.bl (if neg = true then !o.isSome else o.isSome)) H
def fDGet (x y : D) : Option O := match x, keyD y with
  | .dic kds, some k => (getK kds k).map .val
  | _, _ => none
def fDIn (neg : Bool) (y x : D) : Option O := match x, keyD y with
  | .dic kds, some k => some (.val (.bl (if neg = true then !(getK kds k).isSome else (getK kds k).isSome)))
  | _, _ => none
theorem os_dget : OSem G rDGet fDGet := fun {E F H σ ρ α Q x y dx dy} S hx hy h => by
  unfold fDGet at h
  split at h
  · rename_i kds k e
    obtain ⟨a, vs, rfl, h1, h2⟩ := hx.k S.ex
    obtain rfl := key_x hy e
    cases q : getK kds k with
    | none => rw [q] at h; exact h.elim
    | some d =>
      rw [q] at h
      obtain ⟨v, e1, r⟩ := (h2.get k).1 d q
      refine ⟨a, v, rfl, ?_, Post.val h S r⟩
      rw [← e1]
      exact DGet.k h1
  · exact h.elim
theorem os_din {neg : Bool} : OSem G (rDIn neg) (fDIn neg) := fun {E F H σ ρ α Q x y dx dy} S hx hy h => by
  unfold fDIn at h
  split at h
  · rename_i kds k e
    obtain ⟨a, vs, rfl, h1, h2⟩ := hy.k S.ex
    obtain rfl := key_x hx e
    refine ⟨a, valV vs k, rfl, DGet.k h1, ?_⟩
    have e1 : (valV vs k).isSome = (getK kds k).isSome := by
      cases q : getK kds k with
      | none => rw [(h2.get k).2 q]; rfl
      | some d =>
        obtain ⟨v, e1, _⟩ := (h2.get k).1 d q
        rw [e1]
        rfl
    rw [e1]
    exact Post.val h S Rep.ofBl
  · exact h.elim
/-- two rules for one operator -/
def fOr (f g : D → D → Option O) (x y : D) : Option O := match f x y with
  | some o => some o
  | none => g x y
theorem os_or {r r' : R2} {f g : D → D → Option O} (h1 : OSem G r f) (h2 : OSem G r' g) : OSem G (fun x y H Q => r x y H Q ∨ r' x y H Q) (fOr f g) := fun {E F H σ ρ α Q x y dx dy} S hx hy h => by
  unfold fOr at h
  split at h
  · rename_i o e
    exact .inl (h1 S hx hy (by rw [e]; exact h))
  · exact .inr (h2 S hx hy h)
def fOr1 (f g : List D → Option O) (ds : List D) : Option O := match f ds with
  | some o => some o
  | none => g ds
theorem cs_or {r r' : List V → Hp → VK → Prop} {f g : List D → Option O} (h1 : CSem G r f) (h2 : CSem G r' g) : CSem G (fun xs H Q => r xs H Q ∨ r' xs H Q) (fOr1 f g) := fun {E F H σ ρ α Q vs ds} S hv h => by
  unfold fOr1 at h
  split at h
  · rename_i o e
    exact .inl (h1 S hv (by rw [e]; exact h))
  · exact .inr (h2 S hv h)
/-- {} -/
def mDNew : M := fun ρ => some (.ok (.dic []), ρ)
theorem sem_dnew : Sem G E tDNewK mDNew := ⟨fun {F H σ ρ α Q} S h p hp => Post.newD h S hp RepsK.nil⟩
/-- d[k] = e, d in a slot -/
def sDPutM (i : Nat) (k v : M) : MS := fun _ ρ => bnd (v ρ) fun o ρ1 => (look ρ1 i).bind fun _ => bnd (k ρ1) fun x ρ2 => match ρ2[i]?, keyD x.frz with
  | some (some (.dic kds)), some key => if kds.length < 100000 then some (.ok .nx, ρ2.set i (some (.dic (putD kds key o.frz)))) else none
  | _, _ => none
theorem semS_dput {tk tv : TE} {mk mv : M} (hk : Sem G E tk mk) (hv : Sem G E tv mv) : SemS G E (sDPut (tVar i) tk tv) (sDPutM i mk mv) := ⟨fun {F H σ ρ α D pins} S h =>
  hv.run S (Post.to h fun o ρ1 v F1 H1 α1 S1 r1 T1 N1 h1 => by
    cases e : look ρ1 i with
    | none => rw [e] at h1; exact h1.elim
    | some d0 =>
      rw [e] at h1
      obtain ⟨u, hu, _⟩ := look_x S1 e
      refine ⟨u, hu, hk.run S1 (Post.to (PostS.shift T1 N1 .refl h1) fun x ρ2 w F2 H2 α2 S2 r2 T2 N2 h2 => ?_)⟩
      split at h2
      · rename_i kds key e1 e2
        split at h2
        · rename_i hl
          obtain ⟨p, vs, hv', hp, hh, hr⟩ := S2.slotD e1
          rw [hu] at hv'
          cases hv'
          obtain rfl := key_x (H := H2) (.inl r2) e2
          have ow : Own α2 p := own_of hp (by simp)
          refine ⟨p, _, rfl, DPut.k hh (Nat.lt_of_lt_of_le (by rw [hr.length]; exact hl) (by decide)), ?_⟩
          exact PostS.shift T2 N2 .refl h2 σ F2 _ α2 (S2.writeD e1 hp (hr.put (r1.mono T2.exF))) (Stp.write ow) .refl .refl
        · exact h2.elim
      · exact h2.elim)⟩
/-- xs[j] = e, xs in a slot -/
def sSetM (i : Nat) (k v : M) : MS := fun _ ρ => bnd (v ρ) fun o ρ1 => (look ρ1 i).bind fun _ => bnd (k ρ1) fun x ρ2 => match ρ2[i]?, x.frz with
  | some (some (.lst ds)), .int j => (match ixN ds.length j with
    | some n => some (.ok .nx, ρ2.set i (some (.lst (ds.set n o.frz))))
    | none => none)
  | _, _ => none
theorem semS_set {tk tv : TE} {mk mv : M} (hk : Sem G E tk mk) (hv : Sem G E tv mv) : SemS G E (tAsg tv (gSub (tVar i) tk rSetL)) (sSetM i mk mv) := ⟨fun {F H σ ρ α D pins} S h =>
  hv.run S (Post.to h fun o ρ1 v F1 H1 α1 S1 r1 T1 N1 h1 => by
    cases e : look ρ1 i with
    | none => rw [e] at h1; exact h1.elim
    | some d0 =>
      rw [e] at h1
      obtain ⟨u, hu, _⟩ := look_x S1 e
      refine ⟨u, hu, hk.run S1 (Post.to (PostS.shift T1 N1 .refl h1) fun x ρ2 w F2 H2 α2 S2 r2 T2 N2 h2 => ?_)⟩
      split at h2
      · rename_i ds j e1 e2
        rw [e2] at r2
        obtain rfl := r2.toInt
        split at h2
        · rename_i n hn
          obtain ⟨p, vs, hv', hp, hh, hr⟩ := S2.slotL e1
          rw [hu] at hv'
          cases hv'
          have ow : Own α2 p := own_of hp (by simp)
          refine ⟨p, vs, j, n, rfl, rfl, hh, by rw [hr.length]; exact hn, ?_⟩
          exact PostS.shift T2 N2 .refl h2 σ F2 _ α2 (S2.writeL e1 hp (hr.set (r1.mono T2.exF) n)) (Stp.write ow) .refl .refl
        · exact h2.elim
      · exact h2.elim)⟩
/-- self.f = e, self in a slot, of the class c -/
def putFD (f : Str) (d : D) : List (Str × D) → List (Str × D)
  | [] => [(f, d)]
  | (g, x) :: r => if g = f then (g, d) :: r else (g, x) :: putFD f d r
theorem RepsF.nil : RepsF G F [] [] := by unfold RepsF; rfl
theorem RepsF.length : ∀ {vs : List (Str × V)} {ds : List (Str × D)}, RepsF G F vs ds → vs.length = ds.length
  | _, [], h => by
    unfold RepsF at h
    subst h
    rfl
  | _, (k, d) :: ds, h => by
    unfold RepsF at h
    obtain ⟨v, r, rfl, _, t⟩ := h
    rw [List.length_cons, List.length_cons, RepsF.length t]
theorem RepsF.put {f : Str} {v : V} {d : D} (q : Rep G F v d) : ∀ {vs : List (Str × V)} {ds : List (Str × D)}, RepsF G F vs ds → RepsF G F (putF f v vs) (putFD f d ds)
  | _, [], h => by
    unfold RepsF at h
    subst h
    unfold putF putFD RepsF
    exact ⟨v, [], rfl, q, RepsF.nil⟩
  | _, (k, d0) :: ds, h => by
    unfold RepsF at h
    obtain ⟨w, r, rfl, h1, t⟩ := h
    unfold putF putFD
    by_cases e : k = f
    · rw [if_pos e, if_pos e]
      unfold RepsF
      exact ⟨v, r, rfl, q, t⟩
    · rw [if_neg e, if_neg e]
      unfold RepsF
      exact ⟨w, _, rfl, h1, RepsF.put q t⟩
def sFldM (cs : List Nat) (f : Str) (i : Nat) (a : M) : MS := fun _ ρ => bnd (a ρ) fun o ρ1 => match ρ1[i]? with
  | some (some (.ins c fs)) => if c ∈ cs ∧ fs.length < 900 then some (.ok .nx, ρ1.set i (some (.ins c (putFD f o.frz fs)))) else none
  | _ => none
theorem semS_fld {cs : List Nat} {f : Str} (hc : ∀ c ∈ cs, Cls G.K (G.cls c) ∧ NoAttr G.K (G.cls c) f) (ha : Sem G E ta ma) : SemS G E (sFld G.K (tVar i) ta f) (sFldM cs f i ma) := ⟨fun {F H σ ρ α D pins} S h =>
  ha.run S (Post.to h fun o ρ1 v F1 H1 α1 S1 r1 T1 N1 h1 => by
    split at h1
    · rename_i c fs e
      split at h1
      · rename_i hm
        obtain ⟨a, dx, vs, hv, hp, ne, hh, hd, hr⟩ := S1.slotI e
        have ow : Own α1 a := own_of hp (by simp)
        refine ⟨.ref a, hv, a, G.cls c, dx, vs, rfl, hh, (hc c hm.1).1, (hc c hm.1).2, by rw [hr.length]; omega, ?_⟩
        exact PostS.shift T1 N1 .refl h1 σ F1 _ α1 (S1.writeI e hp (hr.put r1)) (Stp.write ow) .refl .refl
      · exact h1.elim
    · exact h1.elim)⟩

/-! ### a new instance -/
def mMake (c : Nat) (fn : Fn) (ms ks : MA) (arr : List D → List D → List D) (n m : Nat) : M := fun ρ => bnd (ms ρ) fun ais ρ1 => bnd (ks ρ1) fun kws ρ2 => match dsOnly ais, dsOnly kws with
  | some ds, some zs => if ds.length = n ∧ zs.length = m then (match fn (.ins c [] :: (arr ds zs).map .val) with
    | some (.ok (.val .non), o :: _) => some (.ok o, ρ2)
    | some (.ex c fs, _) => some (.ex c fs, ρ2)
    | _ => none) else none
  | _, _ => none
theorem make_end {c : Nat} {fn : Fn} {np : Nat} {Q : VK} {ws : List V} {es : List D} (hl : ∀ os r, fn os = some r → os.length = np) (S : Ste G F H σ ρ α) (r : Reps G F ws es)
    (h : Post G E F H σ α (match fn (.ins c [] :: es.map .val) with
      | some (.ok (.val .non), o :: _) => some (.ok o, ρ)
      | some (.ex c fs, _) => some (.ex c fs, ρ)
      | _ => none) Q) : ∀ x dx, H x = none → H dx = none → dx ≠ x → spF G fn np (.ref x :: ws) (upd (upd H dx (.own x)) x (.ins (G.cls c) dx [])) (fun v H3 => v = .non ∧ Q (.ref x) H3) E := fun x dx hx hdx ne => by
  have exH : Ex H (upd (upd H dx (.own x)) x (.ins (G.cls c) dx [])) := fun b o e => by
    rw [upd_ne (ne_of_none e hx), upd_ne (ne_of_none e hdx)]
    exact e
  have fx := S.fresh hx
  have fdx := S.fresh hdx
  have S0 : Ste G F (upd (upd H dx (.own x)) x (.ins (G.cls c) dx [])) [some (.ref x)] [some (O.ins c [])] (fun j => if j = 0 then [x, dx] else []) := ⟨S.ex.trans exH, rfl, fun i o e => by
      cases i with
      | zero =>
        have : O.ins c [] = o := by simpa using e
        subst this
        refine ⟨.ref x, rfl, x, dx, [], rfl, if_pos rfl, ne, fx, fdx, upd_same, ?_, RepsF.nil⟩
        rw [upd_ne ne]
        exact upd_same
      | succ i => simp at e, fun i h => by
      cases i with
      | zero => exact absurd rfl (h (O.ins c []))
      | succ i => exact if_neg (by omega), fun i j a nij hi hj => by
      have hi' : a ∈ (if i = 0 then [x, dx] else []) := hi
      have hj' : a ∈ (if j = 0 then [x, dx] else []) := hj
      split at hi'
      · split at hj'
        · omega
        · cases hj'
      · cases hi'⟩
  have SA := Ste.args1 (i := 0) (ws := []) (pre := []) S0 Reps.nil rfl rfl r
  match q : fn (.ins c [] :: es.map .val), h with
  | none, h => exact h.elim
  | some (rr, os'), h =>
    refine ⟨by rw [← hl _ _ q]; simp [r.length], F, .ins c [] :: es.map .val, _, SA, ?_⟩
    rw [q]
    have ow : ∀ a, Own (fun j => if j = ([] : List D).length then (fun j => if j = 0 then [x, dx] else []) 0 else []) a → a = x ∨ a = dx := fun a ⟨j, z⟩ => by
      have z' : a ∈ (if j = 0 then [x, dx] else ([] : List Addr)) := z
      split at z'
      · simpa using z'
      · cases z'
    have hnone : ∀ a, a = x ∨ a = dx → H a = none := fun a z => by
      rcases z with rfl | rfl
      · exact hx
      · exact hdx
    have tr : ∀ {F' H' : Hp}, Stp (Own (fun j => if j = ([] : List D).length then (fun j => if j = 0 then [x, dx] else []) 0 else [])) F (upd (upd H dx (.own x)) x (.ins (G.cls c) dx [])) F' H' → Ex H H' ∧ (∀ b u, F' b = some u → F b = some u ∨ H b = none) := fun {F' H'} T => by
      refine ⟨fun b u e => T.keep b u (exH b u e) fun z => ?_, fun b u e => ?_⟩
      · rw [hnone b (ow b z)] at e
        cases e
      · rcases T.newF b u e with z | z | z
        · exact .inl z
        · exact .inr (exH.back z)
        · exact .inr (hnone b (ow b z))
    have stp : ∀ {F' H' : Hp}, Stp (Own (fun j => if j = ([] : List D).length then (fun j => if j = 0 then [x, dx] else []) 0 else [])) F (upd (upd H dx (.own x)) x (.ins (G.cls c) dx [])) F' H' → Stp (Own α) F H F' H' := fun {F' H'} T =>
      ⟨T.exF, fun b u e _ => (tr T).1 b u e, fun b u e => ((tr T).2 b u e).elim .inl fun z => .inr (.inl z)⟩
    match rr, os', h with
    | .ex c2 none, _, h => exact fun F' H' T' => h F' H' (stp T')
    | .ex c2 (some fs), _, h => exact fun F' H' dd fvs T' => h F' H' dd fvs (stp T')
    | .ok (.val .non), o :: rest, h =>
      exact fun v' F' H' α' β S' R' T' M' N' => by
        refine ⟨by obtain ⟨_, r0⟩ := R'; unfold Rep at r0; exact r0, ?_⟩
        obtain ⟨w, hw, rw'⟩ := S'.slot 0 o rfl
        have hw' : w = .ref x := by
          have : (some (some (V.ref x))) = some (some w) := hw
          cases this
          rfl
        subst hw'
        obtain ⟨t1, t2⟩ := tr T'
        refine h (.ref x) F' H' α (α' 0) (S.grow T'.exF t1 t2 S'.ex) rw' (stp T') (fun a ha z => ?_) fun a z => ?_
        · obtain ⟨f0, _⟩ := rw'.mem a ha
          rcases N' a (.inl ⟨0, ha⟩) with y | y
          · exact S.notown (hnone a (ow a y)) z
          · exact S.notown (exH.back y) z
        · rcases z with z | z
          · exact .inl z
          · rcases N' a (.inl ⟨0, z⟩) with y | y
            · exact .inr (hnone a (ow a y))
            · exact .inr (exH.back y)
theorem sem_makeK {c : Nat} {fn : Fn} {np n m : Nat} {t tk : TA} {ms ks : MA} {gV : List V → List V → List V} {arrV : List V → List V → List V} {arr : List D → List D → List D} (hl : ∀ os r, fn os = some r → os.length = np)
    (hg : ∀ x vs zs, vs.length = n → zs.length = m → gV (.ref x :: vs) zs = .ref x :: arrV vs zs) (hr : ∀ {F : Hp} {vs zs : List V} {ds es : List D}, vs.length = n → zs.length = m → Reps G F vs ds → Reps G F zs es → Reps G F (arrV vs zs) (arr ds es)) (ha : SemA G E t ms) (hk : SemA G E tk ks) :
    Sem G E (tMakeK (G.cls c) n m (spF G fn np) gV E t tk) (mMake c fn ms ks arr n m) := ⟨fun {F H σ ρ α Q} S h =>
  ha.run S (PostA.to h fun xs ρ1 vs F1 H1 α1 S1 r1 T1 N1 h1 => hk.run S1 (PostA.to (Post.shift T1 N1 h1) fun ys ρ2 zs F2 H2 α2 S2 r2 T2 N2 h2 => by
    split at h2
    · rename_i ds es e1 e2
      split at h2
      · rename_i hn
        have q1 := dsOnly_r (r1.mono T2.exF) e1
        have q2 := dsOnly_r r2 e2
        have l1 : vs.length = n := q1.length.trans hn.1
        have l2 : zs.length = m := q2.length.trans hn.2
        refine ⟨l1, l2, fun x dx hx hdx ne => ?_⟩
        rw [hg x vs zs l1 l2]
        exact make_end hl S2 (hr l1 l2 q1 q2) (Post.shift T2 N2 h2) x dx hx hdx ne
      · exact h2.elim
    · exact h2.elim))⟩
theorem sem_make {c : Nat} {fn : Fn} {np n : Nat} {t : TA} {ms : MA} {dvs : List V} {dds : List D} (hl : ∀ os r, fn os = some r → os.length = np) (hd : ∀ F, Reps G F dvs dds) (ha : SemA G E t ms) :
    Sem G E (tMake (G.cls c) (spF G fn np) dvs E t) (mMake c fn ms aNil (fun ds _ => ds ++ dds) n 0) := ⟨fun {F H σ ρ α Q} S h =>
  ha.run S (PostA.to h fun xs ρ1 vs F1 H1 α1 S1 r1 T1 N1 h1 => by
    have h2 : Post G E F H σ α (match dsOnly xs, (some [] : Option (List D)) with
      | some ds, some zs => if ds.length = n ∧ zs.length = 0 then (match fn (.ins c [] :: (ds ++ dds).map .val) with
        | some (.ok (.val .non), o :: _) => some (.ok o, ρ1)
        | some (.ex c fs, _) => some (.ex c fs, ρ1)
        | _ => none) else none
      | _, _ => none) Q := h1
    split at h2
    · rename_i ds es e1 e2
      split at h2
      · exact make_end hl S1 ((dsOnly_r r1 e1).append (hd _)) (Post.shift T1 N1 h2)
      · exact h2.elim
    · exact h2.elim)⟩
end
end VL

namespace VL
open PySem PySem.Spec
open PyProof.Rows L2
open Evl (Ex sz_of)

/-! ### what an iterator may be over: a tuple, a list, a text -/
structure Src where
  o : Obj
  ex : List Addr
  ci : Addr → Nat → Heap → Prop
  ini : ∀ h it, h.get? it = some o → ci it 0 h
  mov : ∀ h h' it i, ci it i h → (∀ o, h.get? it = some o → h'.get? it = some o) → ci it i h'
  liv : ∀ h it i, ci it i h → ∃ o, h.get? it = some o ∧ ∀ v, o.data ≠ .cell v
/-- the source stands in this heap, with these items -/
def SrcH (P : Program) (w : World) (S : Src) (v : Value) (xs : List V) (h : Heap) : Prop :=
  ∃ hc : Heap → Prop, hc h ∧ Begins v S.o hc ∧ (∀ b ∈ S.ex, b < h.objs.size) ∧ ∀ (A : Around) (it : Addr), A.handled = none → it ∉ S.ex → Draws P w A it (it :: S.ex) xs.length (fun i u => ∃ x, xs[i]? = some x ∧ RelV x u) (fun i h => S.ci it i h ∧ hc h)
theorem Vals.get1 : ∀ {xs : List V} {us : List Value} {i : Nat} {u : Value}, Vals xs us → us[i]? = some u → ∃ x, xs[i]? = some x ∧ RelV x u := fun {xs us i u} r e => by
  have l := r.length
  have hi := (List.getElem?_eq_some_iff.mp e).1
  obtain ⟨x, hx⟩ : ∃ x, xs[i]? = some x := ⟨xs[i]'(by omega), List.getElem?_eq_getElem (by omega)⟩
  obtain ⟨u', h1, h2⟩ := r.get hx
  rw [e] at h1
  cases h1
  exact ⟨x, hx, h2⟩
theorem drWeak {prog : Program} {w : World} {A : Around} {it : Addr} {fp : List Addr} {n m : Nat} {P P' : Nat → Value → Prop} {St : Nat → Heap → Prop} (D : Draws prog w A it fp n P St) (hn : n = m) (h : ∀ i x, i < n → P i x → P' i x) : Draws prog w A it fp m P' St := by
  subst hn
  exact ⟨D.live, D.frame, fun i s Q E hi st hQ => D.item i s Q E hi st fun x h' tk hP st' sb => hQ x h' tk (h i x hi hP) st' sb, D.done⟩
def srcTup (a : Addr) : Src where
  o := { cls := .type "tuple_iterator", data := .fields #[.ref a, .int 0 0] }
  ex := [a]
  ci := fun it i h => h.IsTupleIter it a i
  ini := fun h it e => ⟨_, e, rfl, rfl⟩
  mov := fun h h' it i x k => x.at fun o e => k o e
  liv := fun h it i ⟨o, e, _, d⟩ => ⟨o, e, fun v q => by rw [d] at q; cases q⟩
def srcLst (a : Addr) : Src where
  o := { cls := .type "list_iterator", data := .fields #[.ref a, .int 0 0] }
  ex := [a]
  ci := fun it i h => h.IsListIter it a i
  ini := fun h it e => ⟨_, e, rfl, rfl⟩
  mov := fun h h' it i x k => x.at fun o e => k o e
  liv := fun h it i ⟨o, e, _, d⟩ => ⟨o, e, fun v q => by rw [d] at q; cases q⟩
def srcStr (x : Str) (t : Tok) : Src where
  o := { cls := .type (strIterType x), data := .fields #[.str x t, .int 0 0] }
  ex := []
  ci := fun it i h => h.IsStrIter it (strIterType x) x t i
  ini := fun h it e => ⟨_, e, rfl, rfl⟩
  mov := fun h h' it i ⟨o, e, r⟩ k => ⟨o, k o e, r⟩
  liv := fun h it i ⟨o, e, _, d⟩ => ⟨o, e, fun v q => by rw [d] at q; cases q⟩
def signs (x : Str) : List V := x.cps.toList.map fun c => V.str ⟨#[c]⟩
theorem srcH_tup {P : Program} {w : World} {a : Addr} {xs : List V} {its : List Value} {h : Heap} (r : Vals xs its) (e : h.IsTuple a its.toArray) : SrcH P w (srcTup a) (.ref a) xs h :=
  ⟨fun h => h.IsTuple a its.toArray, e, begins_tuple a its.toArray, fun b hb => by
    obtain rfl : b = a := by simpa [srcTup] using hb
    obtain ⟨o, e, _⟩ := e
    exact Heap.lt_size e, fun A it hh ne => drWeak (Draws.tuple hh it a (fun e => ne (by simp [srcTup, e])) its.toArray) (by simp [r.length]) fun i u _ e => Vals.get1 r (by simpa using e)⟩
theorem srcH_lst {P : Program} {w : World} {a : Addr} {xs : List V} {its : List Value} {h : Heap} (r : Vals xs its) (e : h.IsList a its.toArray) : SrcH P w (srcLst a) (.ref a) xs h :=
  ⟨fun h => h.IsList a its.toArray, e, begins_list a its.toArray, fun b hb => by
    obtain rfl : b = a := by simpa [srcLst] using hb
    obtain ⟨o, e, _⟩ := e
    exact Heap.lt_size e, fun A it hh ne => drWeak (Draws.list hh it a (fun e => ne (by simp [srcLst, e])) its.toArray) (by simp [r.length]) fun i u _ e => Vals.get1 r (by simpa using e)⟩
theorem srcH_str {P : Program} {w : World} {x : Str} {t : Tok} {h : Heap} : SrcH P w (srcStr x t) (.str x t) (signs x) h :=
  ⟨fun _ => True, trivial, begins_text x t, (fun b hb => nomatch hb), fun A it hh ne => by
    have D := drWeak (Draws.text (prog := P) (w := w) hh it x t) (m := (signs x).length) (P' := fun i u => ∃ y, (signs x)[i]? = some y ∧ RelV y u) (by simp [signs]) fun i u _ ⟨c, t', e, eu⟩ => ⟨.str ⟨#[c]⟩, by
      unfold signs
      rw [List.getElem?_map, show x.cps.toList[i]? = some c by simpa using e]
      rfl, by rw [eu]; exact ⟨t', rfl⟩⟩
    exact ⟨fun i h st => D.live i h st.1, fun i h h' st k => ⟨D.frame i h h' st.1 fun b hb => k b hb, trivial⟩, fun i s Q E hi st hQ => D.item i s Q E hi st.1 fun y h' tk hP st' sb => hQ y h' tk hP ⟨st', trivial⟩ sb, fun s Q E st => D.done s Q E st.1⟩⟩

/-- items in new pairs, from two sources that stand while G stands -/
def ItP (xs ys : List V) (Gd : Hp → Prop) : It :=
  ⟨fun i H => Gd H ∧ i < xs.length ∧ i < ys.length, fun i H v H' => ∃ T x y, v = .ref T ∧ H T = none ∧ H' = upd H T (.tup [x, y]) ∧ xs[i]? = some x ∧ ys[i]? = some y,
    fun i H => Gd H ∧ (xs.length ≤ i ∨ ys.length ≤ i)⟩
/-- Gd says that the source stands -/
def SrcIn (X : Cx) (S : Src) (v : Value) (xs : List V) (Gd : Hp → Prop) : Prop :=
  ∀ (pins : List (Addr × Obj)) (σ : L2.St) (H : Hp) (s : Shared), Inv X pins σ H s → Gd H → SrcH X.prog X.w S v xs s.heap
end VL

namespace VL
open PySem PySem.Spec
open PyProof.Rows L2
open Evl (Ex sz_of)

/-! ### zip and enumerate over any two sources -/
def SrcV (K : PySem.W.Frag) (v : V) (xs : List V) (Gd : Hp → Prop) : Prop :=
  (∃ a, v = .ref a ∧ ∀ H, Gd H → SqT K H a xs) ∨ (∃ a, v = .ref a ∧ ∀ H, Gd H → SqL K H a xs) ∨ (∃ s, v = .str s ∧ xs = signs s)
theorem SrcV.src {K : PySem.W.Frag} {v : V} {xs : List V} {Gd : Hp → Prop} {u : Value} (h : SrcV K v xs Gd) (r : RelV v u) : ∃ S : Src, ∀ X : Cx, X.K = K → SrcIn X S u xs Gd := by
  rcases h with ⟨a, rfl, h⟩ | ⟨a, rfl, h⟩ | ⟨x, rfl, rfl⟩
  · cases r
    refine ⟨srcTup a, fun X hK pins σ H s I g => ?_⟩
    subst hK
    obtain ⟨its, rv, p, _⟩ := I.tuple (h H g)
    exact srcH_tup rv p
  · cases r
    refine ⟨srcLst a, fun X hK pins σ H s I g => ?_⟩
    subst hK
    obtain ⟨its, rv, p, _⟩ := I.list (h H g)
    exact srcH_lst rv p.isList
  · obtain ⟨t, rfl⟩ := r
    exact ⟨srcStr x t, fun X hK pins σ H s I g => srcH_str⟩
def iZipV (K : PySem.W.Frag) (ta : TA) : TI := fun σ H R => ta σ H fun vs H1 => ∃ v1 v2 xs ys Gd, vs = [v1, v2] ∧ SrcV K v1 xs Gd ∧ SrcV K v2 ys Gd ∧ Gd H1 ∧ R (ItP xs ys Gd) H1
/-- items in new pairs with their places -/
def ItE (xs : List V) (Gd : Hp → Prop) : It :=
  ⟨fun i H => Gd H ∧ i < xs.length, fun i H v H' => ∃ T x, v = .ref T ∧ H T = none ∧ H' = upd H T (.tup [.int (i : Nat), x]) ∧ xs[i]? = some x, fun i H => Gd H ∧ xs.length ≤ i⟩
def iEnumV (K : PySem.W.Frag) (ta : TA) : TI := fun σ H R => ta σ H fun vs H1 => ∃ v1 xs Gd, vs = [v1] ∧ SrcV K v1 xs Gd ∧ Gd H1 ∧ R (ItE xs Gd) H1
/-! ### as things of the value layer -/
def dsigns (x : Str) : List D := x.cps.toList.map fun c => D.str ⟨#[c]⟩
def seqD : D → Option (List D)
  | .tup ds => some ds
  | .lst ds => some ds
  | .str x => some (dsigns x)
  | _ => none
def zipD : List D → List D → List D
  | x :: xs, y :: ys => .tup [x, y] :: zipD xs ys
  | _, _ => []
def enumD : Nat → List D → List D
  | _, [] => []
  | i, x :: xs => .tup [.int i, x] :: enumD (i + 1) xs
def iZip (a : MA) : MI := fun ρ => match a ρ with
  | some (.ok [.d x, .d y], ρ1) => match seqD x, seqD y with
    | some xs, some ys => some (zipD xs ys, ρ1)
    | _, _ => none
  | _ => none
def iEnu (a : MA) : MI := fun ρ => match a ρ with
  | some (.ok [.d x], ρ1) => match seqD x with
    | some xs => some (enumD 0 xs, ρ1)
    | _ => none
  | _ => none
theorem zipD_len : ∀ xs ys : List D, (zipD xs ys).length = min xs.length ys.length
  | [], ys => by simp [zipD]
  | x :: xs, [] => by simp [zipD]
  | x :: xs, y :: ys => by
    show (zipD xs ys).length + 1 = _
    rw [zipD_len xs ys]
    simp only [List.length_cons]
    omega
theorem zipD_get : ∀ (xs ys : List D) (i : Nat) (d : D), (zipD xs ys)[i]? = some d → ∃ x y, xs[i]? = some x ∧ ys[i]? = some y ∧ d = .tup [x, y]
  | [], ys, i, d, h => by simp [zipD] at h
  | x :: xs, [], i, d, h => by simp [zipD] at h
  | x :: xs, y :: ys, 0, d, h => ⟨x, y, rfl, rfl, by
    have h' : D.tup [x, y] = d := by simpa [zipD] using h
    exact h'.symm⟩
  | x :: xs, y :: ys, i + 1, d, h => zipD_get xs ys i d (by simpa [zipD] using h)
theorem enumD_len : ∀ (n : Nat) (xs : List D), (enumD n xs).length = xs.length
  | _, [] => rfl
  | n, x :: xs => congrArg (· + 1) (enumD_len (n + 1) xs)
theorem enumD_get : ∀ (n : Nat) (xs : List D) (i : Nat) (d : D), (enumD n xs)[i]? = some d → ∃ x, xs[i]? = some x ∧ d = .tup [.int (n + i : Nat), x]
  | _, [], i, d, h => by simp [enumD] at h
  | n, x :: xs, 0, d, h => ⟨x, rfl, by
    have h' : D.tup [.int n, x] = d := by simpa [enumD] using h
    exact h'.symm⟩
  | n, x :: xs, i + 1, d, h => by
    obtain ⟨y, h1, h2⟩ := enumD_get (n + 1) xs i d (by simpa [enumD] using h)
    refine ⟨y, h1, ?_⟩
    rw [h2, show n + 1 + i = n + (i + 1) by omega]
section
variable {G : Cn} {E : XK} {F F1 F2 H H1 H2 : Hp} {σ : L2.St} {ρ ρ1 : Rho} {α α1 : Al}
theorem Rep.src {v : V} {d : D} {ds : List D} (h : Rep G F1 v d) (e : seqD d = some ds) : ∃ xs, SrcV G.K v xs (Ex F1) ∧ Reps G F1 xs ds := by
  cases d <;> cases e
  · rename_i x
    unfold Rep at h
    subst h
    refine ⟨signs x, .inr (.inr ⟨x, rfl, rfl⟩), ?_⟩
    unfold signs dsigns
    generalize x.cps.toList = l
    induction l with
    | nil => exact Reps.nil
    | cons c l ih => exact Reps.cons (by unfold Rep; rfl) ih
  · unfold Rep at h
    obtain ⟨p, vs, rfl, h1, h2⟩ := h
    exact ⟨vs, .inl ⟨p, rfl, fun H e => SqT.of (e _ _ h1)⟩, h2⟩
  · unfold Rep at h
    obtain ⟨p, vs, rfl, h1, h2⟩ := h
    exact ⟨vs, .inr (.inl ⟨p, rfl, fun H e => SqL.of (e _ _ h1)⟩), h2⟩
theorem it_pair {F' H' : Hp} {T : Addr} {x y : V} {d e : D} (e2 : Ex F' H') (hT : H' T = none) (rx : Rep G F' x d) (ry : Rep G F' y e) :
    ∃ F'', Ex F' F'' ∧ Ex H' (upd H' T (.tup [x, y])) ∧ (∀ b o, F'' b = some o → F' b = some o ∨ H' b = none) ∧ Ex F'' (upd H' T (.tup [x, y])) ∧ Rep G F'' (.ref T) (.tup [d, e]) := by
  have eF : Ex F' (upd F' T (.tup [x, y])) := fun b o h => by
    by_cases q : b = T
    · subst q
      rw [e2 _ _ h] at hT
      cases hT
    · rw [upd_ne q]; exact h
  have eH : Ex H' (upd H' T (.tup [x, y])) := fun b o h => by
    by_cases q : b = T
    · subst q
      rw [h] at hT
      cases hT
    · rw [upd_ne q]; exact h
  refine ⟨upd F' T (.tup [x, y]), eF, eH, fun b o h => ?_, fun b o h => ?_, ?_⟩
  · by_cases q : b = T
    · subst q; exact .inr hT
    · rw [upd_ne q] at h; exact .inl h
  · by_cases q : b = T
    · subst q; rw [upd_same] at h ⊢; exact h
    · rw [upd_ne q] at h ⊢; exact e2 _ _ h
  · unfold Rep
    exact ⟨T, [x, y], rfl, upd_same, Reps.cons (rx.mono eF) (Reps.one (ry.mono eF))⟩
theorem it_zip {vs ws : List V} {xs ys : List D} (rx : Reps G F1 vs xs) (ry : Reps G F1 ws ys) : ItSem G F1 (ItP vs ws (Ex F1)) (zipD xs ys) := fun {F' H'} i e1 e2 => by
  have l1 := rx.length
  have l2 := ry.length
  have l3 := zipD_len xs ys
  refine ⟨fun hi => ⟨e1.trans e2, by omega, by omega⟩, fun hi => ⟨e1.trans e2, by omega⟩, fun x H'' d hd y => ?_⟩
  obtain ⟨T, x', y', rfl, hT, rfl, g1, g2⟩ := y
  obtain ⟨dx, dy, h1, h2, rfl⟩ := zipD_get _ _ _ _ hd
  obtain ⟨v, q1, q2⟩ := rx.get h1
  obtain ⟨w, q3, q4⟩ := ry.get h2
  rw [g1] at q1
  cases q1
  rw [g2] at q3
  cases q3
  exact it_pair e2 hT (q2.mono e1) (q4.mono e1)
theorem it_enum {vs : List V} {xs : List D} (rx : Reps G F1 vs xs) : ItSem G F1 (ItE vs (Ex F1)) (enumD 0 xs) := fun {F' H'} i e1 e2 => by
  have l1 := rx.length
  have l3 := enumD_len 0 xs
  refine ⟨fun hi => ⟨e1.trans e2, by omega⟩, fun hi => ⟨e1.trans e2, by omega⟩, fun x H'' d hd y => ?_⟩
  obtain ⟨T, x', rfl, hT, rfl, g1⟩ := y
  obtain ⟨dx, h1, rfl⟩ := enumD_get _ _ _ _ hd
  obtain ⟨v, q1, q2⟩ := rx.get h1
  rw [g1] at q1
  cases q1
  exact it_pair e2 hT (by rw [Nat.zero_add]; unfold Rep; rfl) (q2.mono e1)
theorem semI_zip {ta : TA} {a : MA} (ha : SemA G E ta a) : SemI G (iZipV G.K ta) (iZip a) := ⟨fun {F H σ ρ α ds ρ1 R} S e k => by
  unfold iZip at e
  split at e
  · rename_i x y ρ' e1
    split at e
    · rename_i xs ys q1 q2
      cases e
      refine ha.run S (PostA.okEnd e1 fun vs F1 H1 α1 S1 r1 T1 N1 => ?_)
      obtain ⟨v, w, rfl, r, r'⟩ := r1.two
      obtain ⟨us, k1, p1⟩ := r.src q1
      obtain ⟨ws, k2, p2⟩ := r'.src q2
      exact ⟨v, w, us, ws, _, rfl, k1, k2, S1.ex, k _ F1 H1 α1 S1 T1 N1 (it_zip p1 p2)⟩
    · cases e
  · cases e⟩
theorem semI_enum {ta : TA} {a : MA} (ha : SemA G E ta a) : SemI G (iEnumV G.K ta) (iEnu a) := ⟨fun {F H σ ρ α ds ρ1 R} S e k => by
  unfold iEnu at e
  split at e
  · rename_i x ρ' e1
    split at e
    · rename_i xs q1
      cases e
      refine ha.run S (PostA.okEnd e1 fun vs F1 H1 α1 S1 r1 T1 N1 => ?_)
      obtain ⟨v, rfl, r⟩ := r1.one
      obtain ⟨us, k1, p1⟩ := r.src q1
      exact ⟨v, us, _, rfl, k1, S1.ex, k _ F1 H1 α1 S1 T1 N1 (it_enum p1)⟩
    · cases e
  · cases e⟩
end
end VL

namespace VL
open PySem PySem.Spec
open PyProof.Rows L2
open Evl (Ex sz_of)

/-! ### a slot's object moved out, or frozen where it stands -/
def mMv (i : Nat) : M := fun ρ => match ρ[i]? with
  | some (some (.val d)) => some (.ok (.val d), ρ)
  | some (some o) => some (.ok o, ρ.set i none)
  | _ => none
def mFz (i : Nat) : M := fun ρ => match ρ[i]? with
  | some (some (.val d)) => some (.ok (.val d), ρ)
  | some (some o) => some (.ok (.val o.frz), ρ.set i (some (.val o.frz)))
  | _ => none
section
variable {G : Cn} {E : XK} {F F1 F2 H H1 H2 : Hp} {σ : L2.St} {ρ ρ1 : Rho} {α α1 : Al} {i : Nat} {ta tb tc : TE} {ma mb mc : M}
theorem Ste.take {o : O} (S : Ste G F H σ ρ α) (h : ρ[i]? = some (some o)) : Ste G F H σ (ρ.set i none) (Al.set α i []) where
  ex := S.ex
  len := by rw [List.length_set]; exact S.len
  slot := fun j x e => by
    have hi : i < ρ.length := (List.getElem?_eq_some_iff.mp h).1
    by_cases q : j = i
    · subst q
      rw [List.getElem?_set_self hi] at e
      cases e
    · rw [List.getElem?_set_ne (Ne.symm q)] at e
      rw [Al.set_ne q]
      exact S.slot j x e
  off := fun j hj => by
    by_cases q : j = i
    · subst q; exact Al.set_eq
    · rw [Al.set_ne q]
      exact S.off j fun x e => hj x (by rw [List.getElem?_set_ne (Ne.symm q)]; exact e)
  dis := fun j k a ne hj hk => by
    have f : ∀ m, a ∈ Al.set α i [] m → a ∈ α m := fun m hm => by
      by_cases q : m = i
      · subst q; rw [Al.set_eq] at hm; cases hm
      · rwa [Al.set_ne q] at hm
    exact S.dis j k a ne (f j hj) (f k hk)
theorem own_take {a : Addr} (h : Own (Al.set α i []) a) : Own α a := (Al.own_set h).elim id fun z => nomatch z
theorem sem_mv : Sem G E (tVar i) (mMv i) := ⟨fun {F H σ ρ α Q} S h => by
  unfold mMv at h
  split at h
  · rename_i d e
    obtain ⟨v, h1, r⟩ := S.slot i _ e
    exact ⟨v, h1, Post.val h S r.2⟩
  · rename_i o _ e
    obtain ⟨v, h1, r⟩ := S.slot i _ e
    refine ⟨v, h1, h v F H _ (α i) (S.take e) r .refl (fun a ha z => ?_) fun a z => ?_⟩
    · obtain ⟨j, hj⟩ := z
      by_cases q : j = i
      · subst q; rw [Al.set_eq] at hj; cases hj
      · rw [Al.set_ne q] at hj
        exact S.dis j i a q hj ha
    · rcases z with z | z
      · exact .inl (own_take z)
      · exact .inl ⟨i, z⟩
  · exact h.elim⟩
theorem sem_fz : Sem G E (tVar i) (mFz i) := ⟨fun {F H σ ρ α Q} S h => by
  unfold mFz at h
  split at h
  · rename_i d e
    obtain ⟨v, h1, r⟩ := S.slot i _ e
    exact ⟨v, h1, Post.val h S r.2⟩
  · rename_i o _ e
    obtain ⟨v, h1, r⟩ := S.slot i _ e
    have hi : i < ρ.length := (List.getElem?_eq_some_iff.mp e).1
    have N1 : ∀ a ∈ α i, ¬ Own (Al.set α i []) a := fun a ha z => by
      obtain ⟨j, hj⟩ := z
      by_cases q : j = i
      · subst q; rw [Al.set_eq] at hj; cases hj
      · rw [Al.set_ne q] at hj
        exact S.dis j i a q hj ha
    obtain ⟨F2, S2, r2, T2, N3⟩ := Ste.freeze (F := F) (H := H) (α := α) (S.take e) r .refl N1 fun a z => z.elim (fun z => .inl (own_take z)) fun z => .inl ⟨i, z⟩
    have S3 : Ste G F2 H σ (ρ.set i (some (.val o.frz))) (Al.set α i []) := ⟨S2.ex, by rw [List.length_set]; exact S.len, fun j x ej => by
        by_cases q : j = i
        · subst q
          rw [List.getElem?_set_self hi] at ej
          cases ej
          exact ⟨v, h1, by rw [Al.set_eq]; exact ⟨rfl, r2⟩⟩
        · rw [List.getElem?_set_ne (Ne.symm q)] at ej
          exact S2.slot j x (by rw [List.getElem?_set_ne (Ne.symm q)]; exact ej), fun j hj => by
        by_cases q : j = i
        · subst q; exact Al.set_eq
        · exact S2.off j fun x ej => hj x (by rw [List.getElem?_set_ne (Ne.symm q)] at ej ⊢; exact ej), S2.dis⟩
    exact ⟨v, h1, h v F2 H _ [] S3 ⟨rfl, r2⟩ T2 (fun a ha => nomatch ha) fun a z => z.elim (fun z => N3 a z) fun z => nomatch z⟩
  · exact h.elim⟩

/-! ### a op b op' c -/
def mChain (f g : D → D → Option O) (a b c : M) : M := fun ρ => bnd (a ρ) fun x ρ1 => bnd (b ρ1) fun y ρ2 => match f x.frz y.frz with
  | some (.val (.bl true)) => bnd (c ρ2) fun z ρ3 => (g y.frz z.frz).map fun o => (.ok o, ρ3)
  | some (.val (.bl false)) => some (.ok (.val (.bl false)), ρ2)
  | _ => none
theorem sem_chain {r r' : R2} {f g : D → D → Option O} (h1 : OSem G r f) (h2 : OSem G r' g) (ha : Sem G E ta ma) (hb : Sem G E tb mb) (hc : Sem G E tc mc) : Sem G E (tChain r r' ta tb tc) (mChain f g ma mb mc) := ⟨fun {F H σ ρ α Q} S h =>
  ha.run S (Post.to h fun o ρ1 v F1 H1 α1 S1 r1 T1 N1 k1 => hb.run S1 (Post.to (Post.shift T1 N1 k1) fun o2 ρ2 v2 F2 H2 α2 S2 r2 T2 N2 k2 => by
    have k3 := Post.shift T2 N2 k2
    split at k3
    · rename_i e
      refine h1 (E := E) S2 (.inl (r1.mono T2.exF)) (.inl r2) ?_
      rw [e]
      intro v3 F3 H3 α3 β S3 R3 T3 M3 N3
      obtain ⟨rfl, R3⟩ := R3
      obtain rfl : v3 = .bl true := by unfold Rep at R3; exact R3
      refine ⟨true, rfl, ?_⟩
      rw [if_pos rfl]
      have N3' : New (Own α2) H2 (Own α3) := fun a z => N3 a (.inl z)
      exact hc.run S3 (Post.to (Post.shift T3 N3' k3) fun o4 ρ4 v4 F4 H4 α4 S4 r4 T4 N4 k4 => h2 S4 (.inl ((r2.mono T3.exF).mono T4.exF)) (.inl r4) (Post.shift T4 N4 k4))
    · rename_i e
      refine h1 (E := E) S2 (.inl (r1.mono T2.exF)) (.inl r2) ?_
      rw [e]
      intro v3 F3 H3 α3 β S3 R3 T3 M3 N3
      obtain ⟨rfl, R3⟩ := R3
      obtain rfl : v3 = .bl false := by unfold Rep at R3; exact R3
      refine ⟨false, rfl, ?_⟩
      rw [if_neg (by decide)]
      have N3' : New (Own α2) H2 (Own α3) := fun a z => N3 a (.inl z)
      exact Post.val (Post.shift T3 N3' k3) S3 Rep.ofBl
    · exact k3.elim))⟩

/-! ### one operand -/
def mUn (f : D → Option O) (a : M) : M := fun ρ => bnd (a ρ) fun x ρ1 => (f x.frz).map fun o => (.ok o, ρ1)
def fNeg : D → Option O
  | .int i => some (.val (.int (-i)))
  | _ => none
theorem sem_neg (ha : Sem G E ta ma) : Sem G E (tUn (rU fun i => .int (-i)) ta) (mUn fNeg ma) := ⟨fun {F H σ ρ α Q} S h =>
  ha.run S (Post.to h fun o ρ1 v F1 H1 α1 S1 r1 T1 N1 h1 => by
    have h2 := Post.shift T1 N1 h1
    unfold fNeg at h2
    split at h2
    · rename_i i e
      rw [e] at r1
      exact ⟨i, r1.toInt, Post.val h2 S1 Rep.ofInt⟩
    · exact h2.elim)⟩
/-- is None -/
def isNon : D → Bool
  | .non => true
  | _ => false
def fIsN (neg : Bool) (x y : D) : Option O := match y with
  | .non => some (.val (.bl (if neg then !isNon x else isNon x)))
  | _ => none
theorem rep_non {v : V} {d : D} (h : RepX G F H v d) (e : Ex F H) : isNon d = decide (v = .non) := by
  cases d with
  | non => rw [h.non]; rfl
  | bl b => rw [h.bl]; rfl
  | int b => rw [h.int]; rfl
  | str b => rw [h.str]; rfl
  | tup ds => obtain ⟨a, vs, rfl, _⟩ := h.t e; rfl
  | lst ds => obtain ⟨a, vs, rfl, _⟩ := h.l e; rfl
  | dic ds => obtain ⟨a, vs, rfl, _⟩ := h.k e; rfl
  | ins c fs => obtain ⟨a, dx, vs, rfl, _⟩ := h.i e; rfl
  | scr ns => obtain ⟨a, rfl, _⟩ := h.scr e; rfl
theorem os_isN : OSem G (fun x y H Q => y = .non ∧ Q (.bl (decide (x = .non))) H) (fIsN false) := fun {E F H σ ρ α Q x y dx dy} S hx hy h => by
  unfold fIsN at h
  split at h
  · refine ⟨hy.non, ?_⟩
    rw [← rep_non hx S.ex]
    exact Post.val h S Rep.ofBl
  · exact h.elim
theorem os_notN : OSem G (fun x y H Q => y = .non ∧ Q (.bl (!decide (x = .non))) H) (fIsN true) := fun {E F H σ ρ α Q x y dx dy} S hx hy h => by
  unfold fIsN at h
  split at h
  · refine ⟨hy.non, ?_⟩
    rw [← rep_non hx S.ex]
    exact Post.val h S Rep.ofBl
  · exact h.elim

/-! ### + and * of lists, tuples, texts -/
def fCatL (x y : D) : Option O := match x, y with
  | .lst xs, .lst ys => if xs.length + ys.length ≤ 100000 then some (.lst (xs ++ ys)) else none
  | _, _ => none
theorem os_cat : OSem G rCat fCatL := fun {E F H σ ρ α Q x y dx dy} S hx hy h => by
  unfold fCatL at h
  split at h
  · rename_i xs ys
    split at h
    · rename_i hn
      obtain ⟨a, vs, rfl, h1, r1⟩ := hx.l S.ex
      obtain ⟨b, ws, rfl, h2, r2⟩ := hy.l S.ex
      exact ⟨a, b, vs, ws, rfl, rfl, h1, h2, sz_of (by rw [r1.length, r2.length]; exact hn), fun p hp => Post.newL h S hp (r1.append r2)⟩
    · exact h.elim
  · exact h.elim
def fCatT (x y : D) : Option O := match x, y with
  | .tup xs, .tup ys => if xs.length + ys.length ≤ 100000 then some (.val (.tup (xs ++ ys))) else none
  | _, _ => none
theorem rep_tup0 {v : V} (h : RepX G F H v (.tup [])) (e : Ex F H) : ∃ a, v = .ref a ∧ F a = some (.tup []) := by
  obtain ⟨a, vs, rfl, h1, h2, r⟩ := h.t e
  obtain rfl := r.of_nil
  exact ⟨a, rfl, h1⟩
theorem os_catA : OSem G (rCatA G.K) fCatT := fun {E F H σ ρ α Q x y dx dy} S hx hy h => by
  unfold fCatT at h
  split at h
  · rename_i xs ys
    split at h
    · rename_i hn
      obtain ⟨a, vs, rfl, h0, h1, r1⟩ := hx.t S.ex
      obtain ⟨b, ws, rfl, h0', h2, r2⟩ := hy.t S.ex
      refine ⟨a, b, vs, ws, rfl, rfl, SqT.of h1, SqT.of h2, sz_of (by rw [r1.length, r2.length]; exact hn), fun e => ?_, fun e e2 => ?_, fun _ _ p hp => Post.newV h S hp (Rep.ofTup upd_same ((r1.append r2).mono (Ex.new (S.fresh hp))))⟩
      · subst e
        have : xs = [] := List.eq_nil_of_length_eq_zero (by have := r1.length; simpa using this.symm)
        subst this
        exact Post.val h S (Rep.ofTup h0' r2)
      · subst e2
        have : ys = [] := List.eq_nil_of_length_eq_zero (by have := r2.length; simpa using this.symm)
        subst this
        rw [List.append_nil] at h
        exact Post.val h S (Rep.ofTup h0 r1)
    · exact h.elim
  · exact h.elim
theorem reps_flat {vs : List V} {ds : List D} (h : Reps G F vs ds) : ∀ n : Nat, Reps G F (List.replicate n vs).flatten (List.replicate n ds).flatten
  | 0 => Reps.nil
  | n + 1 => by
    rw [List.replicate_succ, List.replicate_succ, List.flatten_cons, List.flatten_cons]
    exact h.append (reps_flat h n)
def fRepT (x y : D) : Option O := match x, y with
  | .tup xs, .int k => if xs.length ≠ 0 ∧ 2 ≤ k ∧ k ≤ 1000 ∧ xs.length ≤ 1000 then some (.val (.tup (List.replicate k.toNat xs).flatten)) else none
  | _, _ => none
theorem os_repT : OSem G (rRepT G.K) fRepT := fun {E F H σ ρ α Q x y dx dy} S hx hy h => by
  unfold fRepT at h
  split at h
  · rename_i xs k
    split at h
    · rename_i hn
      obtain ⟨a, vs, rfl, h0, h1, r1⟩ := hx.t S.ex
      obtain rfl := hy.int
      refine ⟨a, k, vs, rfl, rfl, SqT.of h1, fun e => ?_, hn.2.1, hn.2.2.1, by rw [r1.length]; exact hn.2.2.2, fun p hp => Post.newV h S hp (Rep.ofTup upd_same ((reps_flat r1 _).mono (Ex.new (S.fresh hp))))⟩
      subst e
      exact hn.1 r1.length.symm
    · exact h.elim
  · exact h.elim
def fRepL (x y : D) : Option O := match x, y with
  | .lst xs, .int k => if -1000000 ≤ k ∧ k ≤ 1000000 ∧ xs.length * k.toNat ≤ 100000 then some (.lst (List.replicate k.toNat xs).flatten) else none
  | _, _ => none
theorem os_rep : OSem G rRep fRepL := fun {E F H σ ρ α Q x y dx dy} S hx hy h => by
  unfold fRepL at h
  split at h
  · rename_i xs k
    split at h
    · rename_i hn
      obtain ⟨a, vs, rfl, h1, r1⟩ := hx.l S.ex
      obtain rfl := hy.int
      exact ⟨a, k, vs, rfl, rfl, h1, by omega, by omega, sz_of (by rw [r1.length]; exact hn.2.2), fun p hp => Post.newL h S hp (reps_flat r1 _)⟩
    · exact h.elim
  · exact h.elim
def fCatS (x y : D) : Option O := match x, y with
  | .str i, .str j => if i.length + j.length ≤ 100000 then some (.val (.str (i ++ j))) else none
  | _, _ => none
theorem os_catS : OSem G (fun x y H Q => ∃ i j, x = .str i ∧ y = .str j ∧ i.length + j.length ≤ sizeLine ∧ Q (.str (i ++ j)) H) fCatS := fun {E F H σ ρ α Q x y dx dy} S hx hy h => by
  unfold fCatS at h
  split at h
  · rename_i i j
    split at h
    · rename_i hn
      exact ⟨i, j, hx.str, hy.str, sz_of hn, Post.val h S Rep.ofStr⟩
    · exact h.elim
  · exact h.elim

/-! ### list(d), a dict's operators -/
def kD : Key → D
  | .inl i => .int i
  | .inr x => .str x
def fListD : List D → Option O
  | [.dic kds] => some (.lst (kds.map fun kd => kD kd.1))
  | _ => none
theorem kD_rep {k : Key} : Rep G F (kV k) (kD k) := by
  cases k with
  | inl i => exact Rep.ofInt
  | inr x => exact Rep.ofStr
theorem cs_listD : CSem G (fun xs H Q => ∃ (a : Addr) (kvs : List (Key × V)), xs = [.ref a] ∧ Rd H a (.dK kvs) ∧ ∀ p, H p = none → Q (.ref p) (upd H p (.lst (kvs.map fun kv => kV kv.1)))) fListD := fun {E F H σ ρ α Q vs ds} S hv h => by
  unfold fListD at h
  split at h
  · rename_i kds
    obtain ⟨v, rfl, hx⟩ := hv.one
    obtain ⟨a, kvs, rfl, h1, r⟩ := hx.k S.ex
    refine ⟨a, kvs, rfl, .inl h1, fun p hp => Post.newL h S hp ?_⟩
    clear h h1 hx hv
    induction kds generalizing kvs with
    | nil => rw [r.of_nil]; exact Reps.nil
    | cons kd kds ih =>
      obtain ⟨k, d⟩ := kd
      obtain ⟨v, w, rfl, h2, h3⟩ := r.of_cons
      exact Reps.cons kD_rep (ih w h3)
  · exact h.elim
theorem or_dget {X : Cx} (hu : X.A.units + 1 < cLine) : OpR X getItem rDGet := by
  intro pns s σ H x y v u Q inv rx ry got
  obtain ⟨a, z, rfl, g, q⟩ := got
  cases rx
  exact d_getItem hu inv g ry fun w' s' J r => ⟨z, H, J, r, q⟩
theorem or_din {X : Cx} (hu : X.A.units + 1 < cLine) : OpR X (compareOp .In) (rDIn false) := by
  intro pns s σ H x y v u Q inv rx ry got
  obtain ⟨a, o, rfl, g, q⟩ := got
  cases ry
  exact d_in hu inv g rx fun s' I' => ⟨.bl o.isSome, H, I', rfl, q⟩
theorem or_dnin {X : Cx} (hu : X.A.units + 1 < cLine) : OpR X (compareOp .NotIn) (rDIn true) := by
  intro pns s σ H x y v u Q inv rx ry got
  obtain ⟨a, o, rfl, g, q⟩ := got
  cases ry
  exact d_notIn hu inv g rx fun s' I' => ⟨.bl (!o.isSome), H, I', rfl, q⟩
end
end VL

namespace VL
open PySem PySem.Spec
open PyProof.Rows L2
open Evl (Ex sz_of)

section
variable {G : Cn} {E : XK} {F F1 F2 H H1 H2 : Hp} {σ : L2.St} {ρ ρ1 : Rho} {α α1 : Al} {i : Nat} {ta tb tc : TE} {ma mb mc : M}
/-! ### truth of values -/
def truD : D → Option Bool
  | .non => some false
  | .bl b => some b
  | .int i => some (i != 0)
  | .str y => if y.length ≤ 100000 then some ((y.length : Int) != 0) else none
  | .tup ds => some (!ds.isEmpty)
  | .lst ds => some (!ds.isEmpty)
  | .dic ds => some (!ds.isEmpty)
  | .scr ds => some (!ds.isEmpty)
  | _ => none
theorem Reps.emp {vs : List V} {ds : List D} (h : Reps G F vs ds) : vs.isEmpty = ds.isEmpty := by
  have := h.length
  cases vs <;> cases ds <;> first | rfl | cases this
theorem RepsK.emp {vs : List (Key × V)} {ds : List (Key × D)} (h : RepsK G F vs ds) : vs.isEmpty = ds.isEmpty := by
  have := h.length
  cases vs <;> cases ds <;> first | rfl | cases this
theorem tru_x {v : V} {d : D} {k : Bool} (h : RepX G F H v d) (e : Ex F H) (q : truD d = some k) : TruV G.K v H k := by
  cases d with
  | non => rw [h.non]; cases q; rfl
  | bl b => rw [h.bl]; cases q; rfl
  | int b => rw [h.int]; cases q; rfl
  | str b =>
    rw [h.str]
    replace q : (if b.length ≤ 100000 then some ((b.length : Int) != 0) else none) = some k := q
    split at q
    · rename_i hn
      cases q
      exact ⟨sz_of hn, rfl⟩
    · cases q
  | tup ds => obtain ⟨a, vs, rfl, _, h1, r⟩ := h.t e; cases q; exact .inr (.inl ⟨vs, SqT.of h1, by rw [r.emp]⟩)
  | lst ds => obtain ⟨a, vs, rfl, h1, r⟩ := h.l e; cases q; exact .inl ⟨vs, SqL.of h1, by rw [r.emp]⟩
  | dic ds => obtain ⟨a, vs, rfl, h1, r⟩ := h.k e; cases q; exact .inr (.inr ⟨vs, h1, by rw [r.emp]⟩)
  | ins c fs => cases q
  | scr ns => obtain ⟨a, rfl, h1⟩ := h.scr e; cases q; exact .inl ⟨_, h1, by cases ns <;> rfl⟩
abbrev tTru (K : PySem.W.Frag) (ta : TE) : TT := fun σ H Q => ta σ H fun x H' => ∃ k, TruV K x H' k ∧ Q k H'
def mTru (a : M) : M := fun ρ => bnd (a ρ) fun x ρ1 => (truD x.frz).map fun b => (.ok (.val (.bl b)), ρ1)
def mTruS (i : Nat) : M := fun ρ => (look ρ i).bind fun x => (truD x).map fun b => (.ok (.val (.bl b)), ρ)
theorem semT_tru (ha : Sem G E ta ma) : SemT G E (tTru G.K ta) (mTru ma) := ⟨fun {F H σ ρ α Q} S h =>
  ha.run S (Post.to h fun o ρ1 v F1 H1 α1 S1 r1 T1 N1 h1 => by
    have h2 := Post.shift T1 N1 h1
    cases e : truD o.frz with
    | none => rw [e] at h2; exact h2.elim
    | some b =>
      rw [e] at h2
      exact ⟨b, tru_x (.inl r1) S1.ex e, okV_bl S1 h2⟩)⟩
theorem semT_truS : SemT G E (tTru G.K (tVar i)) (mTruS i) := ⟨fun {F H σ ρ α Q} S h => by
  unfold mTruS at h
  cases e : look ρ i with
  | none => rw [e] at h; exact h.elim
  | some d =>
    rw [e] at h
    obtain ⟨v, hv, rx⟩ := look_x S e
    try dsimp only [Option.bind] at h
    cases e2 : truD d with
    | none => rw [e2] at h; exact h.elim
    | some b =>
      rw [e2] at h
      exact ⟨v, hv, b, tru_x rx S.ex e2, okV_bl S h⟩⟩

/-! ### a module's table with text keys -/
def valOk : Value → D → Bool
  | .str x _, .str y => x == y
  | .int x _, .int y => x == y
  | .bool x, .bl y => x == y
  | .none, .non => true
  | _, _ => false
def tabOk : List DictEntry → List (Str × D) → Bool
  | [], [] => true
  | e :: es, (s, d) :: tab => (match e.key with | .str z _ => z == s | _ => false) && valOk e.val d && tabOk es tab
  | _, _ => false
def tabV : D → V
  | .str x => .str x
  | .int x => .int x
  | .bl x => .bl x
  | _ => .non
theorem valOk_rel {u : Value} {d : D} (h : valOk u d = true) : RelV (tabV d) u ∧ ∀ F, Rep G F (tabV d) d := by
  unfold valOk at h
  split at h
  · obtain rfl := beq_iff_eq.mp h; exact ⟨⟨_, rfl⟩, fun F => Rep.ofStr⟩
  · obtain rfl := beq_iff_eq.mp h; exact ⟨⟨_, rfl⟩, fun F => Rep.ofInt⟩
  · obtain rfl := beq_iff_eq.mp h; exact ⟨rfl, fun F => Rep.ofBl⟩
  · exact ⟨rfl, fun F => Rep.ofNon⟩
  · cases h
theorem tab_find (z : Str) : ∀ {es : List DictEntry} {tab : List (Str × D)}, tabOk es tab = true →
    es.any (·.refKey) = false ∧ (match tab.lookup z with
      | some d => ∃ e, es.find? (·.key.isStr z) = some e ∧ valOk e.val d = true
      | none => es.find? (·.key.isStr z) = none)
  | [], [], _ => ⟨rfl, rfl⟩
  | [], _ :: _, h => by cases h
  | _ :: _, [], h => by cases h
  | e :: es, (s, d) :: tab, h => by
    unfold tabOk at h
    rw [Bool.and_eq_true, Bool.and_eq_true] at h
    obtain ⟨⟨h1, h2⟩, h3⟩ := h
    obtain ⟨i1, i2⟩ := tab_find z h3
    obtain ⟨hh, k, v⟩ := e
    dsimp only at h1 h2
    split at h1
    · rename_i x t
      obtain rfl := beq_iff_eq.mp h1
      refine ⟨by rw [List.any_cons, i1]; rfl, ?_⟩
      rw [List.lookup_cons]
      by_cases q : z = x
      · subst q
        rw [beq_self_eq_true]
        refine ⟨_, by rw [List.find?_cons, show (Value.str z t).isStr z = true from beq_self_eq_true z], h2⟩
      · rw [show (z == x) = false from beq_eq_false_iff_ne.mpr q]
        have q2 : (Value.str x t).isStr z = false := by
          show (x == z) = false
          exact beq_eq_false_iff_ne.mpr fun w => q w.symm
        rw [List.find?_cons]
        dsimp only
        rw [q2]
        exact i2
    · cases h1
structure Tab (K : PySem.W.Frag) (d : Addr) (es : Array DictEntry) (n : Nat) (tab : List (Str × D)) : Prop where
  look : K.lookup d = some ⟨.type "dict", none, .dict es n, #[]⟩
  ok : tabOk es.toList tab = true
theorem Tab.ns {K : PySem.W.Frag} {d : Addr} {es : Array DictEntry} {n : Nat} {tab : List (Str × D)} (T : Tab K d es n tab) (z : Str) :
    match tab.lookup z with
      | some d' => ∃ u, PySem.W.nsIn K d z = some (some u) ∧ valOk u d' = true
      | none => PySem.W.nsIn K d z = some none := by
  obtain ⟨h1, h2⟩ := tab_find z T.ok
  unfold PySem.W.nsIn
  rw [T.look]
  dsimp only
  split
  · rename_i d' e
    rw [e] at h2
    obtain ⟨e', q1, q2⟩ := h2
    rw [q1]
    exact ⟨_, rfl, q2⟩
  · rename_i e
    rw [e] at h2
    rw [h2]
    dsimp only
    rw [h1]
    rfl
abbrev rTabIn (K : PySem.W.Frag) (d : Addr) : R2 := fun x y H Q => ∃ (z : Str) (r : Option Value), x = .str z ∧ y = .ref d ∧ PySem.W.nsIn K d z = some r ∧ Q (.bl r.isSome) H
abbrev rTabGet (K : PySem.W.Frag) (d : Addr) : R2 := fun x y H Q => ∃ (z : Str) (u0 : Value) (v0 : V), x = .ref d ∧ y = .str z ∧ PySem.W.nsIn K d z = some (some u0) ∧ RelV v0 u0 ∧ Q v0 H
def fTabIn (tab : List (Str × D)) : D → Option O
  | .str z => some (.val (.bl (tab.lookup z).isSome))
  | _ => none
def fTabGet (tab : List (Str × D)) : D → Option O
  | .str z => (tab.lookup z).map .val
  | _ => none
theorem sem_tabIn {d : Addr} {es : Array DictEntry} {n : Nat} {tab : List (Str × D)} (T : Tab G.K d es n tab) (ha : Sem G E ta ma) : Sem G E (tOp (rTabIn G.K d) ta (tC (.ref d))) (mUn (fTabIn tab) ma) := ⟨fun {F H σ ρ α Q} S h =>
  ha.run S (Post.to h fun o ρ1 v F1 H1 α1 S1 r1 T1 N1 h1 => by
    have h2 := Post.shift T1 N1 h1
    unfold fTabIn at h2
    split at h2
    · rename_i z e
      rw [e] at r1
      have t := T.ns z
      have rv : v = .str z := by unfold Rep at r1; exact r1
      cases q : tab.lookup z with
      | none =>
        rw [q] at t h2
        exact ⟨z, none, rv, rfl, t, Post.val h2 S1 Rep.ofBl⟩
      | some d' =>
        rw [q] at t h2
        obtain ⟨u, t, _⟩ := t
        exact ⟨z, some u, rv, rfl, t, Post.val h2 S1 Rep.ofBl⟩
    · exact h2.elim)⟩
theorem sem_tabGet {d : Addr} {es : Array DictEntry} {n : Nat} {tab : List (Str × D)} (T : Tab G.K d es n tab) (ha : Sem G E ta ma) : Sem G E (tOp (rTabGet G.K d) (tC (.ref d)) ta) (mUn (fTabGet tab) ma) := ⟨fun {F H σ ρ α Q} S h =>
  ha.run S (Post.to h fun o ρ1 v F1 H1 α1 S1 r1 T1 N1 h1 => by
    have h2 := Post.shift T1 N1 h1
    unfold fTabGet at h2
    split at h2
    · rename_i z e
      rw [e] at r1
      have t := T.ns z
      have rv : v = .str z := by unfold Rep at r1; exact r1
      cases q : tab.lookup z with
      | none =>
        rw [q] at h2
        exact h2.elim
      | some d' =>
        rw [q] at t h2
        obtain ⟨u, t, w⟩ := t
        obtain ⟨w1, w2⟩ := valOk_rel (G := G) w
        exact ⟨z, u, tabV d', rfl, rv, t, w1, Post.val h2 S1 (w2 _)⟩
    · exact h2.elim)⟩
end
end VL

namespace VL
open PySem PySem.Spec
open PyProof.Rows L2
open Evl (Ex sz_of)

/-! ### rules that leave open what a value is -/
def iAny (a : M) : MI := fun ρ => match a ρ with
  | some (.ok o, ρ1) => match o.frz with
    | .tup ds => some (ds, ρ1)
    | .lst ds => some (ds, ρ1)
    | .scr ns => some (ns.map .int, ρ1)
    | _ => none
  | _ => none
section
variable {G : Cn} {E : XK} {F F1 F2 H H1 H2 : Hp} {σ : L2.St} {ρ ρ1 : Rho} {α α1 : Al} {i : Nat} {ta tb tc : TE} {ma mb mc : M}
theorem it_sq {a : Addr} {vs : List V} {ds : List D} (h : ∀ H, Ex F1 H → SqL G.K H a vs) (r : Reps G F1 vs ds) : ItSem G F1 (Itl G.K a) ds := fun {F' H'} i e1 e2 => by
  have hs : SqL G.K H' a vs := h _ (e1.trans e2)
  refine ⟨fun hi => ?_, fun hi => ?_, fun x H'' d hd y => ?_⟩
  · have hi' : i < vs.length := by rw [r.length]; exact hi
    exact ⟨vs, vs[i], hs, by simp [hi']⟩
  · exact ⟨vs, hs, by rw [r.length]; exact hi⟩
  · obtain ⟨rfl, y⟩ := y
    obtain ⟨v, h1, h2⟩ := r.get hd
    have := y vs hs
    rw [h1] at this
    cases this
    exact ⟨F', Ex.refl F', Ex.refl _, fun _ _ z => .inl z, e2, h2.mono e1⟩
theorem rep_scr {v : V} {ns : List Int} (h : Rep G F v (.scr ns)) : ∃ a, v = .ref a ∧ ∀ H, Ex F H → SqL G.K H a (ns.map V.int) := by
  have e : ∀ H, Ex F H → ∃ a, v = .ref a ∧ SqL G.K H a (ns.map V.int) := fun H e => RepX.scr (.inl h) e
  obtain ⟨a, rfl, _⟩ := e F (Ex.refl F)
  refine ⟨a, rfl, fun H x => ?_⟩
  obtain ⟨b, q, hb⟩ := e H x
  cases q
  exact hb
end

/-! x[i] of lists, tuples, texts, dicts -/
theorem ix_dget {X : Cx} (hu : X.A.units + 1 < cLine) : IxR X rDGet := by
  intro val ix pns s σ H x y v u Q inv rx ry got plain
  obtain ⟨a, z, ex, g, q⟩ := got
  subst ex
  cases rx
  have isD : s.TypeIs (.ref a) "dict" := by
    rcases g with g | g
    · obtain ⟨kvs, k, e, _⟩ := g
      obtain ⟨_, _, _, _, m⟩ := dk_rd inv.hok e
      exact m.mapOf.typeIs
    · obtain ⟨kvs, k, b, e, _⟩ := g
      obtain ⟨_, _, _, _, m⟩ := dt_rd inv.hok e
      obtain ⟨o, _, _, ho, hx, _⟩ := m
      exact ⟨o, ho, hx.1⟩
  refine tail_any isD slot_dict_getitem.lookup ?_ plain
  exact d_getItem hu inv g ry fun w' s' J r => ⟨z, H, J, r, q⟩
abbrev rIxA (K : PySem.W.Frag) : R2 := fun x y H Q => rIx K x y H Q ∨ rDGet x y H Q
theorem ix_all {X : Cx} (hu : X.A.units + 1 < cLine) : IxR X (rIxA X.K) := ix_seq.or (ix_dget hu)
def fIxA : D → D → Option O := fOr fIx fDGet
theorem os_ixA {G : Cn} : OSem G (rIxA G.K) fIxA := os_or os_ix os_dget
/-! a + b, a * b -/
abbrev rAddA (K : PySem.W.Frag) : R2 := fun x y H Q => rI0 (fun i j => .int (i + j)) x y H Q ∨ (rCat x y H Q ∨ (rCatA K x y H Q ∨ ∃ i j, x = .str i ∧ y = .str j ∧ i.length + j.length ≤ sizeLine ∧ Q (.str (i ++ j)) H))
theorem op_addA {X : Cx} : OpR X (binaryOp .Add) (rAddA X.K) := op_add.or (op_cat.or (op_catA.or op_add_str))
def fAddA : D → D → Option O := fOr (fInt fun i j => i + j) (fOr fCatL (fOr fCatT fCatS))
theorem os_addA {G : Cn} : OSem G (rAddA G.K) fAddA := os_or os_int (os_or os_cat (os_or os_catA os_catS))
abbrev rMulA (K : PySem.W.Frag) : R2 := fun x y H Q => rI CMul (fun i j => .int (i * j)) x y H Q ∨ (rRepT K x y H Q ∨ rRep x y H Q)
theorem op_mulA {X : Cx} : OpR X (binaryOp .Mult) (rMulA X.K) := op_mul.or (op_repT.or op_rep)
def fMulA : D → D → Option O := fOr (fIntC bMul fun i j => i * j) (fOr fRepT fRepL)
theorem os_mulA {G : Cn} : OSem G (rMulA G.K) fMulA := os_or os_mul (os_or os_repT os_rep)
/-! a in b -/
abbrev rInA (K : PySem.W.Frag) (neg : Bool) : R2 := fun x y H Q => rDIn neg x y H Q ∨ rIn K neg x y H Q
def fInA (neg : Bool) : D → D → Option O := fOr (fDIn neg) (fIn neg)
theorem os_inA {G : Cn} {neg : Bool} : OSem G (rInA G.K neg) (fInA neg) := os_or os_din os_in

/-! ### calls of defs that never raise -/
section
variable {G : Cn} {E : XK}
theorem PostG.noex {F H : Hp} {α : Al} {A : Type} {okP : A → Rho → Prop} {r : Option (Rs A × Rho)} {E1 : XK} (h : PostG G E F H α okP r) (n : ∀ c f ρ', r ≠ some (.ex c f, ρ')) : PostG G E1 F H α okP r := by
  match r, h with
  | none, h => exact h
  | some (.ok o, ρ'), h => exact h
  | some (.ex c f, ρ'), h => exact (n c f ρ' rfl).elim
theorem mFn0_noex {np N : Nat} {body : MS} : ∀ os c f os', mFn0 np N body os ≠ some (.ex c f, os') := fun os c f os' h => by
  unfold mFn0 at h
  split at h
  · cases h
  · cases h
theorem tCall0 {fn : Fn} {n : Nat} {t : TA} (hn : ∀ os c f os', fn os ≠ some (.ex c f, os')) {σ : L2.St} {H : Hp} {Q : VK} (h : tCall (spF G fn n) [] E t σ H Q) (hm : ∀ {σ : L2.St} {H : Hp} {R R' : List V → Hp → Prop}, (∀ vs H', R vs H' → R' vs H') → t σ H R → t σ H R') : tCall (spF G fn n) [] E0 t σ H Q :=
  hm (fun vs H' ⟨l, F, os, α, S, p⟩ => ⟨l, F, os, α, S, p.noex fun c f ρ' e => by
    unfold retR at e
    cases q : fn os with
    | none => rw [q] at e; cases e
    | some x =>
      rw [q] at e
      obtain ⟨r, os'⟩ := x
      cases e
      exact hn _ _ _ _ q⟩) h
end
end VL

namespace VL
open PySem PySem.Spec
open PyProof.Rows L2
open Evl (Ex sz_of)

/-! ### a def of the text by name; its promise -/
structure DefAt (K : PySem.W.Frag) (x qual : Str) (st : Stmt) (f : Addr) (ps : List Str) : Prop where
  fu : ∃ fd, Fun K x qual st f fd ∧ Binds K fd ps []
structure OkAt (P : Program) (w : World) (K : PySem.W.Frag) (mg : Str → Option Value) (base : Heap) (CX : CXT) (k : Nat) (f : Addr) (ps : List Str) (sp : Sp) : Prop where
  ok : ∃ fd, FnOk P w K mg base CX k f fd ps sp ∧ Binds K fd ps [] ∧ PySem.W.keepIn K (.ref f) = true
section
variable {P : Program} {w : World} {K : PySem.W.Frag} {mg : Str → Option Value} {base : Heap} {cl : Nat → Addr}
theorem okat0 {x qual : Str} {st : Stmt} {f : Addr} {Ns ps : List Str} {k np : Nat} {m : MS} (D : DefAt K x qual st f ps) (S : FnScope Ns ps (defScope st)) (hp : ps.length = np) (hN : np ≤ Ns.length)
    (hbody : ∀ (cdv : Value) (A : Around) (outer : List Env) (s : Shared) (H : Hp) (E : XK), Room k (A.deeper (envOfC qual (defScope st) s.heap.objs.size f cdv)) →
      ∃ t, PSs (cxOf CX0 P w K mg base Ns qual (defScope st) f cdv A outer s H E).nox (defBody st) t ∧ SemS ⟨K, cl⟩ E0 t m) : OkAt P w K mg base CX0 (k + 1) f ps (spF ⟨K, cl⟩ (mFn0 np Ns.length m) np) := by
  obtain ⟨fd, F, B⟩ := D.fu
  exact ⟨fd, fn_ok0 F S hp hN hbody, B, F.kp⟩
end
section
variable {X : Cx} {x : Str} {p pos : Pos} {e : Expr} {es : List Expr} {t : TA} {f : Addr} {k : Nat} {ps : List Str} {sp : Sp}
theorem pe_callO (O : OkAt X.prog X.w X.K X.mg X.base CX0 k f ps sp) (hr : Room k X.A) (hm : X.mg x = some (.ref f)) (ha : PA X (e :: es) t) (hg : Gl X x := by rfl)
    (he : starEach (e :: es) X.env = (false, eval e X.env) :: starEach es X.env := by rfl) (hpl : (backTo pos (starEach es X.env)).any (·.1) = false := by rfl) (hdb : (x == ("__debug__" : Str)) = false := by decide) :
    PE X (.Call (.Name x p) (e :: es) [] pos) (tCall sp [] E0 t) := by
  obtain ⟨fd, F, B, kp⟩ := O.ok
  exact pe_call F hr hg hm kp B .nil pass0 ha hdb he hpl
theorem pe_callO0 (O : OkAt X.prog X.w X.K X.mg X.base CX0 k f ps sp) (hr : Room k X.A) (hm : X.mg x = some (.ref f)) (hg : Gl X x := by rfl)
    (hdb : (x == ("__debug__" : Str)) = false := by decide) : PE X (.Call (.Name x p) [] [] pos) (tCall sp [] E0 tNil) := by
  obtain ⟨fd, F, B, kp⟩ := O.ok
  exact pe_call0 F hr hg hm kp B .nil pass0 hdb
end
theorem pe_k {X : Cx} {x : Str} {v : V} {pos : Pos} (hk : ∃ u, X.mg x = some u ∧ RelV v u) (hg : Gl X x := by rfl) (hd : (x == ("__debug__" : Str)) = false := by decide) : PE X (.Name x pos) (tC v) := by
  obtain ⟨u, hm, r⟩ := hk
  exact pe_glob hg hm r hd
/-! an argument that is looked at where it stands -/
def aSl (i : Nat) (mr : MA) : MA := fun ρ => (look ρ i).bind fun _ => aIo i mr ρ
theorem semA_sl {G : Cn} {E : XK} {i : Nat} {tr : TA} {mr : MA} (hr : SemA G E tr mr) : SemA G E (tCons (tVar i) tr) (aSl i mr) := semA_io hr

theorem CallR.orC {X : Cx} {f : Value} {r r' : List V → Hp → VK → Prop} (h : CallR X f r) (h' : CallR X f r') : CallR X f (fun xs H Q => r xs H Q ∨ r' xs H Q) := by
  intro pins s σ H xs us Q I rx q
  rcases q with q | q
  · exact h pins s σ H xs us Q I rx q
  · exact h' pins s σ H xs us Q I rx q
theorem call_lists {X : Cx} (hc : X.calm = true) : CallR X (.type "list") (fun xs H Q => (∃ p ys, xs = [.ref p] ∧ (SqL X.K H p ys ∨ SqT X.K H p ys) ∧ ∀ l, H l = none → Q (.ref l) (upd H l (.lst ys))) ∨
    ∃ (a : Addr) (kvs : List (Key × V)), xs = [.ref a] ∧ Rd H a (.dK kvs) ∧ ∀ p, H p = none → Q (.ref p) (upd H p (.lst (kvs.map fun kv => kV kv.1)))) := CallR.orC call_list_of (call_listD hc)
/-- len of lists, tuples, texts, dicts -/
theorem call_lens {X : Cx} : CallR X (.builtin "len") (fun xs H Q => (∃ x n, xs = [x] ∧ LenV X.K x H n ∧ Q (.int n) H) ∨ ∃ a kvs, xs = [V.ref a] ∧ H a = some (.dK kvs) ∧ Q (.int kvs.length) H) := CallR.orC call_len call_lenD
def fLenD : List D → Option O
  | [.dic ds] => some (.val (.int ds.length))
  | _ => none
theorem cs_lenD {G : Cn} : CSem G (fun xs H Q => ∃ a kvs, xs = [V.ref a] ∧ H a = some (.dK kvs) ∧ Q (.int kvs.length) H) fLenD := fun {E F H σ ρ α Q vs ds} S hv h => by
  unfold fLenD at h
  split at h
  · obtain ⟨v, rfl, hx⟩ := hv.one
    obtain ⟨a, ws, rfl, h1, h2⟩ := hx.k S.ex
    exact ⟨a, ws, rfl, h1, by rw [h2.length]; exact Post.val h S Rep.ofInt⟩
  · exact h.elim
theorem ix_of_kd {X : Cx} {d : Addr} {es : Array DictEntry} {n : Nat} (D : KDict X.K X.w d es n) : IxR X (rTabGet X.K d) := by
  intro val ix pns s σ H x y v u Q inv rx ry got plain
  have g := op_item_kd D pns s σ H _ _ v u Q inv rx ry got
  obtain ⟨_, _, _, ex, _⟩ := got
  subst ex
  cases rx
  exact tail_any (kd_type D inv) slot_dict_getitem.lookup g plain
def sNever : MS := fun _ _ => none
theorem semS_never {G : Cn} {E : XK} : SemS G E tNever sNever := ⟨fun S h => h.elim⟩
section
variable {G : Cn} {E : XK} {F F1 F2 H H1 H2 : Hp} {σ : L2.St} {ρ ρ1 : Rho} {α α1 : Al} {i : Nat} {ta tb tc : TE} {ma mb mc : M}
theorem Ste.poke {p : Addr} {o : HO} (S : Ste G F H σ ρ α) (hF : F p = none) (hO : ¬ Own α p) : Ste G F (upd H p o) σ ρ α where
  ex := fun a u e => by
    have : a ≠ p := fun q => by
      rw [q, hF] at e
      cases e
    rw [upd_ne this]
    exact S.ex a u e
  len := S.len
  slot := fun j x e => by
    obtain ⟨v, h1, r⟩ := S.slot j x e
    refine ⟨v, h1, r.move (Ex.refl F) (fun b hb => (r.mem b hb).1) fun b hb u y => ?_⟩
    have : b ≠ p := fun q => hO (q ▸ ⟨j, hb⟩)
    rw [upd_ne this]
    exact y
  off := S.off
  dis := S.dis
def mD1 (k v : M) : M := fun ρ => bnd (k ρ) fun x ρ1 => bnd (v ρ1) fun y ρ2 => (keyD x.frz).map fun kk => (.ok (.dic [(kk, y.frz)]), ρ2)
theorem sem_d1 (ha : Sem G E ta ma) (hb : Sem G E tb mb) : Sem G E (tDisp [(ta, tb)]) (mD1 ma mb) := ⟨fun {F H σ ρ α Q} S h p hp => by
  have fp := S.fresh hp
  have np := S.notown hp
  have h0 : PostG G E F (upd H p (.dK [])) α (okV G F H σ α Q) (mD1 ma mb ρ) := PostG.shift (Ste.putStp hp) .refl h fun _ _ x => x
  refine ha.run (S.put hp) (Post.to h0 fun x ρ1 v F1 H1 α1 S1 r1 T1 N1 h1 => ?_)
  have h1' : PostG G E F1 H1 α1 (okV G F H σ α Q) _ := PostG.shift T1 N1 h1 fun _ _ x => x
  refine hb.run S1 (Post.to h1' fun y ρ2 u F2 H2 α2 S2 r2 T2 N2 h2 => ?_)
  have p1 : H1 p = some (.dK []) := T1.keep p _ upd_same np
  have o1 : ¬ Own α1 p := fun z => (N1 p z).elim np fun z => by rw [upd_same] at z; cases z
  have p2 : H2 p = some (.dK []) := T2.keep p _ p1 o1
  have o2 : ¬ Own α2 p := fun z => (N2 p z).elim o1 fun z => by rw [p1] at z; cases z
  have f1 : F1 p = none := by
    cases e : F1 p with
    | none => rfl
    | some u =>
      rcases T1.newF p u e with z | z | z
      · rw [fp] at z; cases z
      · rw [upd_same] at z; cases z
      · exact (np z).elim
  have f2 : F2 p = none := by
    cases e : F2 p with
    | none => rfl
    | some u =>
      rcases T2.newF p u e with z | z | z
      · rw [f1] at z; cases z
      · rw [p1] at z; cases z
      · exact (o1 z).elim
  refine ⟨p2, ?_⟩
  cases e : keyD x.frz with
  | none => rw [e] at h2; exact h2.elim
  | some kk =>
    rw [e] at h2
    have kv : v = kV kk := key_x (.inl (r1.mono T2.exF) : RepX G F2 H2 v x.frz) e
    subst kv
    refine ⟨[(kk, u)], rfl, (by show 1 ≤ 15; decide), ?_⟩
    have T : Stp (Own α) F (upd H p (.dK [])) F2 H2 := T1.trans T2 N1
    refine h2 (.ref p) F2 _ α2 [p] (S2.poke f2 o2) ⟨p, [(kk, u)], rfl, rfl, f2, upd_same, RepsK.cons r2 RepsK.nil⟩ ⟨T.exF, fun b o hb nb => ?_, fun b o hb => ?_⟩ (fun a ha z => ?_) fun a z => ?_
    · have hbp : b ≠ p := ne_of_none hb hp
      rw [upd_ne hbp]
      exact T.keep b o (by rw [upd_ne hbp]; exact hb) nb
    · rcases T.newF b o hb with z | z | z
      · exact .inl z
      · refine .inr (.inl ?_)
        by_cases q : b = p
        · rw [q]; exact hp
        · rwa [upd_ne q] at z
      · exact .inr (.inr z)
    · have : a = p := by simpa using ha
      subst this
      exact o2 z
    · rcases z with z | z
      · have N : New (Own α) (upd H p (.dK [])) (Own α2) := New.trans T1 N1 N2
        rcases N a z with y | y
        · exact .inl y
        · refine .inr ?_
          by_cases q : a = p
          · rw [q]; exact hp
          · rwa [upd_ne q] at y
      · have : a = p := by simpa using z
        subst this
        exact .inr hp⟩
end
theorem pe_d1 {X : Cx} {k v : Expr} {pos : Pos} {tk tv : TE} (hk : PE X k tk) (hv : PE X v tv) : PE X (.Dict [some k] [v] pos) (tDisp [(tk, tv)]) :=
  pe_disp (pps_cons hk hv pps_nil) rfl rfl (by intro h; cases h) (by show 1 ≤ 15; decide)
end VL

/-! An error class whose __init__ says super().__init__(f'..{part}') and keeps part. -/
namespace VX
open PySem PySem.W PySem.Calls PyProof.Rows PySem.HandSPX
/-- the two readings of a list of own classes ahead of ValueError's say the same -/
theorem tail_same (l : List Value) : refsVE l = true → excTail veTail l = true := by
  induction l with
  | nil => exact fun e => e
  | cons a r ih => cases a <;> first | exact fun e => ih e | exact fun e => e
theorem made_in {K : Frag} {C N : Addr} {nm q : Str} {bs bm sub : List Value} {sn : List Str} {ab : Bool} {col : Option Bool} {dd : Option Addr} {k0 k1 k2 k3 k5 : Option Value}
    (h : K.lookup C = some (excClassObj nm q C N bs bm true sn sub ab col dd k0 k1 k2 k3 k5 "ValueError.__new__")) (hb : refsVE bm = true) : excInitIn K C veTail "ValueError.__new__" = true := by
  unfold excInitIn
  rw [h]
  simp [tail_same _ hb]
/-- the bound __init__ of ValueError, called: over what stood ahead of the error -/
theorem super_called {P : Program} {w : World} {K : Frag} {A : Around} {E : Value → Shared → Prop} {s : Shared} {base : Heap} {L C u e t0 : Addr} {m : Str → Option Value} {rest : List Value} {Q : Value → Shared → Prop}
    (X0 : K.In base) (hk : ∀ b o, base.get? b = some o → s.heap.get? b = some o) (hL : base.objs.size ≤ L) (hns : s.heap.Ns L m) (he : s.heap.get? e = some (excO C t0)) (hu : s.heap.get? u = some (kxs_mw "ValueError.__init__" e))
    (eb : base.get? e = none) (ub : base.get? u = none) (eL : e ≠ L) (uL : u ≠ L) (ue : u ≠ e) (q : excInitIn K C veTail "ValueError.__new__" = true) (hr : rest.length ≤ sizeLine)
    (k : ∀ h' t1, h'.Ns L m → (∀ b o, base.get? b = some o → h'.get? b = some o) → h'.get? e = some (excO C t1) → Q .none { s with heap := h' }) : wpAny (model P w) A (call (.ref u) rest) Q E s := by
  have fr : Fr base L s.heap m := ⟨hns, hk, hL⟩
  have nw : News base L s.heap [(u, kxs_mw "ValueError.__init__" e), (e, excObj C t0 none .none)] := by
    intro p hp
    simp only [List.mem_cons, List.not_mem_nil, or_false] at hp
    rcases hp with z | z
    · subst z
      exact ⟨hu, uL, ub⟩
    · subst z
      exact ⟨he, eL, eb⟩
  refine kxs_call (nw := fun o => [(u, kxs_mw "ValueError.__init__" e), (e, o)]) fr X0 nw F.excBase_ValueError q List.mem_cons_self (.tail ue (.head fun p hp => nomatch hp)) hr ?_
  intro t' h' fr' nw' _
  exact k h' t' fr'.ns fr'.keep (nw' (e, excObj C t' none .none) (by simp)).1
/-! ### the text -/
structure Ps where
  a1 : Pos
  a2 : Pos
  a3 : Pos
  p0 : Pos
  p1 : Pos
  p2 : Pos
  p3 : Pos
  p4 : Pos
  p5 : Pos
  p6 : Pos
  p7 : Pos
  p8 : Pos
  q1 : Pos
  q2 : Pos
  q3 : Pos
  q4 : Pos
def iA (p : Ps) : Arguments := { posonlyargs := [], args := [{ arg := "self", annotation := none, pos := p.a1 }, { arg := "part", annotation := none, pos := p.a2 }], vararg := none, kwonlyargs := [], kw_defaults := [], kwarg := none, defaults := [.Constant .none 0 p.a3] }
def iB (msg : Str) (p : Ps) : List Stmt := [.Expr (.Call (.Attribute (.Call (.Name "super" p.p0) [] [] p.p1) "__init__" p.p2) [.JoinedStr [.Constant (.str msg) 0 p.p3, .FormattedValue (.Name "part" p.p4) (-1) none p.p5] p.p6] [] p.p7) p.p8,
  .Assign [.Attribute (.Name "self" p.q1) "part" p.q2] (.Name "part" p.q3) p.q4]
def iS : Scope := { kind := .function, names := [("self", .local), ("part", .local), ("__class__", .free), ("super", .globalImplicit)], isGenerator := false, isCoroutine := false, more := [] }
def iJ (msg : Str) (p : Ps) : Expr := .JoinedStr [.Constant (.str msg) 0 p.p3, .FormattedValue (.Name "part" p.p4) (-1) none p.p5] p.p6
def MCall (msg : Str) (p : Ps) (pl : Sem Bool) : Prop := ∀ env : Env, eval (.Call (.Attribute (.Call (.Name "super" p.p0) [] [] p.p1) "__init__" p.p2) [iJ msg p] [] p.p7) env = (do
  let ov ← attributeBase (.Call (.Name "super" p.p0) [] [] p.p1) "__init__" env (eval (.Call (.Name "super" p.p0) [] [] p.p1) env)
  standAt p.p2.atName
  let (g, fst) ← holding [ov] (getMethod ov "__init__" pl)
  callWith p.p7 g fst (backTo p.p7 (starEach [iJ msg p] env)) [])
/-- what the written part says of the class at C, of its __init__ at fI -/
structure BadTxt (P : Program) (K : Frag) (mg : Str → Option Value) (C fI : Addr) (fd : FuncData) : Prop where
  cls : ∃ nm q N bs bm sn sub ab col dd k0 k1 k2 k3 k5, K.lookup C = some (excClassObj nm q C N bs bm true sn sub ab col dd k0 k1 k2 k3 k5 "ValueError.__new__") ∧ refsVE bm = true
  sa : findIn K (.ref C) "__setattr__" = some (some (.builtin "object.__setattr__"))
  noP : findIn K (.ref C) "part" = some none
  iC : findIn K (.ref C) "__init__" = some (some (.ref fI))
  tI : typeIn K (.ref fI) = some (.type "function")
  kC : keepIn K (.ref C) = true
  exC : subIn K (.ref C) (.type "BaseException") = some true
  tyC : typeIn K (.ref C) = some (.type "type")
  subV : subIn K (.ref C) (.type "ValueError") = some true
  sup : ks_superIn K C C "__init__" = some (some (.builtin "ValueError.__init__"))
  mroC : mroIn K C (.ref C) = some true
  opq : nsIn K cStatics "thirdparty.any" = some none
  gS : mg "super" = none
  htop : (P.main.scope.names.lookup ("super" : Str)).isSome = false
  fn : ∃ (msg qual : Str) (p : Ps) (oc dV kV doc pm ct ccl cl : Value) (od an cdd cld : Option Addr) (osl ccs csl : Array (Option Value)) (cc cda : Addr) (vs : Array Value) (file : Str) (tf : Tok) (pl : Sem Bool), MCall msg p pl ∧
    fd = ksFn "__init__" qual (iA p) (iB msg p) iS dV kV doc pm an (.ref cda) ct cc ∧ K.lookup fI = some ⟨oc, od, .func fd, osl⟩ ∧ codeIn K (.ref cda) qual = true ∧
    K.lookup cda = some ⟨ccl, cdd, .fields vs, ccs⟩ ∧ vs[2]? = some (.str file tf) ∧ ((P.main.file : Str) == file) = true ∧ K.lookup cc = some ⟨cl, cld, .cell (some (.ref C)), csl⟩ ∧ msg.length ≤ 1000
theorem nmS : iS.names.lookup ("super" : Str) = some .globalImplicit := by decide +kernel
theorem nmC : iS.names.lookup ("__class__" : Str) = some .free := by decide +kernel
theorem nmSelf : iS.names.lookup ("self" : Str) = some .local := by decide +kernel
theorem nmPart : iS.names.lookup ("part" : Str) = some .local := by decide +kernel
theorem lkSelf {a b : Value} : List.lookup ("self" : Str) [(("self" : Str), a), ("part", b)].reverse = some a := by
  show List.lookup ("self" : Str) [(("part" : Str), b), ("self", a)] = some a
  rw [List.lookup_cons, show (("self" : Str) == "part") = false by decide +kernel]
  dsimp only
  rw [List.lookup_cons, show (("self" : Str) == "self") = true by decide +kernel]
theorem lkPart {a b : Value} : List.lookup ("part" : Str) [(("self" : Str), a), ("part", b)].reverse = some b := by
  show List.lookup ("part" : Str) [(("part" : Str), b), ("self", a)] = some b
  rw [List.lookup_cons, show (("part" : Str) == "part") = true by decide +kernel]
section
variable {P : Program} {w : World} {A : Around} {E : Value → Shared → Prop} {R : Result → Shared → Prop} {s : Shared} {K : Frag} {mg : Str → Option Value} {C fI : Addr} {fd : FuncData}
theorem bad_init (T : BadTxt P K mg C fI fd) {base : Heap} {x t0 : Addr} {v : Str} {tv : Tok} {mb : Str → Option Value} {args : Args} (X0 : K.In base) (kb : ∀ b o, base.get? b = some o → s.heap.get? b = some o) (xb : base.get? x = none) (zb : base.objs.size ≤ s.heap.objs.size) (hlim : s.heap.NoLimit) (hG : s.heap.Ns mainGlobals mg) (hB : s.heap.Ns builtinsNs mb) (hmb : mb "super" = bootBuiltins "super")
    (hx : s.heap.get? x = some (excO C t0)) (hv : v.length ≤ 1000) (hroom : A.depth < recursionLimit) (hbind : BindsTo s fd args [("self", .ref x), ("part", .str v tv)])
    (hq : ∀ h' tk dx t1, (∀ b o, base.get? b = some o → h'.get? b = some o) → s.heap.objs.size ≤ dx → dx ≠ x → h'.get? x = some { cls := .ref C, dict := some dx, data := .fields #[.ref t1, .none, .none, .none, .bool false, .none] } →
      h'.Ns1 dx (fun y => if y = "part" then some (.str v tv) else none) → R (.ok (.ret .none)) { s with heap := h', toks := tk }) :
    codeAny (model P w) A (.call (.ref fI) args) R s := by
  have X : K.In s.heap := X0.keeps kb
  obtain ⟨msg, qual, p, oc, dV, kV, doc, pm, ct, ccl, cl, od, an, cdd, cld, osl, ccs, csl, cc, cda, vs, file, tf, pl, hpl, rfl, ho, hcd, hcda, hvs, hfile, hcell, hmsg⟩ := T.fn
  obtain ⟨nm, q, N, bs, bm, sn, sub, ab, col, dd, k0, k1, k2, k3, k5, hC, hbm⟩ := T.cls
  have hcl : clsIn K C = some { name := nm, bases := bs, mro := .ref C :: bm, ns := N, qualname := q, hasDict := true, slotNames := sn, subclasses := sub, abstract := ab, collection := col, hasDel := false } := by unfold clsIn; rw [hC] <;> rfl
  have hxC : x ≠ C := fun z => by
    have e := X _ _ hC
    rw [← z, hx] at e
    cases e
  refine ks_codeAny_call_defAt (body := iB msg p) (binds := [("self", .ref x), ("part", .str v tv)]) hroom (X _ _ ho) rfl hlim (codeRec_of X hcd) rfl hbind (show ∀ y ∈ iS.names, y.2 ≠ .cell by decide +kernel) (fun y hy => ?_) (fun h₁ hns k₁ => ?_)
  · rcases List.mem_cons.mp hy with rfl | hy
    · show iS.names.lookup ("self" : Str) = some .local
      decide +kernel
    · rcases List.mem_cons.mp hy with rfl | hy
      · show iS.names.lookup ("part" : Str) = some .local
        decide +kernel
      · cases hy
  have X₁ : K.In h₁ := X.keeps k₁
  have hD1 := X₁ _ _ hC
  have hx₁ := k₁ _ _ hx
  have hLx : s.heap.objs.size ≠ x := Nat.ne_of_gt (Heap.lt_size hx)
  refine ks_wpAt_execs_cons (ks_wpAt_Expr_any (ks_wpAt_MethodCall ?_ (hpl _)))
  refine ks_wpAt_super_base nmS nmC (by decide +kernel) rfl (X₁ _ _ ho) rfl (ar := { arg := "self", annotation := none, pos := p.a1 }) rfl rfl (X₁ _ _ hcda) rfl hvs hfile T.htop ?_
  refine ks_loadName_global rfl nmS (loadGlobal_builtin (hG.keeps k₁) T.gS (hB.keeps k₁) (hmb.trans (by decide +kernel)) ⟨rfl, ?_⟩)
  refine wpAny_loadName_free rfl nmC rfl ⟨_, X₁ _ _ hcell, rfl⟩ ?_
  refine wpAny_loadName_local rfl nmSelf hns (v := .ref x) lkSelf ?_
  refine ks_wpAny_isType_cls hD1 rfl ⟨rfl, ?_⟩
  refine ks_wpAny_call_super hD1 rfl hx₁ rfl (fun c e => nomatch e) (looks_mroIn X₁ T.mroC) (fun h₂ e₂ k₂ => ?_)
  have X₂ : K.In h₂ := X₁.keeps k₂
  have hx₂ := k₂ _ _ hx₁
  have I₂ : InstAt h₂ x (excO C t0) C none := ⟨hx₂, rfl, rfl, trivial⟩
  refine kxs_getMethod kxs_ValueError e₂ (looks_opaque X₂ T.opq) (l₀ := .ref C :: bm) ?mro rfl X₂ (by have := T.sup; unfold ks_superIn at this; rw [hcl] at this; exact this) (I₂.type.andThen (looks_subIn X₂ T.subV)) hxC (by decide +kernel) ?_
  case mro => exact fun A Q E s k q => wpAny_bind ((looks_clsIn X₂ hcl) A _ E s k (wpAny_pure q))
  have k₃ : ∀ b o, h₂.get? b = some o → (h₂.push (kxs_mw "ValueError.__init__" x)).get? b = some o := fun b o e => Heap.get?_push_of_some _ e
  have hu : (h₂.push (kxs_mw "ValueError.__init__" x)).get? h₂.objs.size = some (kxs_mw "ValueError.__init__" x) := Heap.get?_push_size _ rfl
  generalize hh₃ : h₂.push (kxs_mw "ValueError.__init__" x) = h₃ at k₃ hu
  have hns₃ := (hns.keeps k₂).keeps k₃
  have X₃ : K.In h₃ := X₂.keeps k₃
  have hx₃ := k₃ _ _ hx₂
  have e0 : (Str.empty ++ msg).length = msg.length := by rw [Str.length_append]; show 0 + _ = _; omega
  have l1 : (Str.empty ++ msg).length ≤ sizeLine := by rw [e0, sizeLine_eq]; omega
  have l2 : (Str.empty ++ msg ++ v).length ≤ sizeLine := by rw [Str.length_append, e0, sizeLine_eq]; omega
  have hvz : v.length ≤ sizeLine := by rw [sizeLine_eq]; omega
  refine kxs_callWith (i := "ValueError.__init__") (x := x) rfl (evalArgs_plain ?_)
  refine Calls.spliced_cons (wpAny_JoinedStr (pos := p.p6) ?_)
  refine Calls.Constant_str ⟨msg, _, rfl, l1, ?_⟩
  refine wpAny_FormattedValue_plain (wpAny_Name (wpAny_loadName_local rfl nmPart hns₃ lkPart ?_) (by decide))
  refine wpAny_formatField_str (x := v) ?_ ?_ hvz
  all_goals
    refine ⟨v, _, rfl, l2, l2, ?_⟩
    refine Calls.spliced_nil ⟨hu, ?_⟩
    have hL₃ : ∀ b o, base.get? b = some o → h₃.get? b = some o := fun b o e => k₃ b o (k₂ b o (k₁ b o (kb b o e)))
    have lt₁ : s.heap.objs.size < h₂.objs.size := by
      obtain ⟨oL, _, _, eL, _⟩ := hns.keeps k₂
      exact Heap.lt_size eL
    have uL : h₂.objs.size ≠ s.heap.objs.size := Nat.ne_of_gt lt₁
    have ux : h₂.objs.size ≠ x := Nat.ne_of_gt (Heap.lt_size hx₂)
    have ub : base.get? h₂.objs.size = none := by
      cases e : base.get? h₂.objs.size with
      | none => rfl
      | some o => exact absurd (Nat.lt_of_lt_of_le (Heap.lt_size e) zb) (Nat.not_lt.mpr (Nat.le_of_lt lt₁))
    refine super_called (t0 := t0) X0 hL₃ zb hns₃ hx₃ hu xb ub (Ne.symm hLx) uL ux (made_in hC hbm) (by rw [sizeLine_eq]; show 1 ≤ 16777216; decide) fun h₄ t1 hns₄ k₄ hx₄ => ?_
    have X₄ : K.In h₄ := X0.keeps k₄
    show PySem.wpAt _ _ _ (execs _ _) _ _ _
    refine ks_wpAt_execs_cons (ks_wpAt_Assign_Attr (wpAt_of_wpAny (wpAny_Name (wpAny_loadName_local rfl nmPart hns₄ lkPart ?_) (by decide))))
    refine wpAny_Name (wpAny_loadName_local rfl nmSelf hns₄ lkSelf ?_) (by decide)
    refine set_plain X₄ (ox := excO C t1) (od := none) ⟨hx₄, rfl, rfl, trivial⟩ T.sa ?_
    refine exc_osa X₄ hx₄ hcl (show refsVE (.ref C :: bm) = true from hbm) rfl T.noP (fun h₅ tk₅ dx k₅ dn dne hx₅ hn₅ => ?_)
    show PySem.wpAt _ _ _ (execs _ _) _ _ _
    refine wpAt_of_wpAny (wpAny_execs_nil ?_)
    have z1 : s.heap.objs.size ≤ h₄.objs.size := by
      obtain ⟨o, es, ep, e, _⟩ := hns₄
      exact Nat.le_of_lt (Heap.lt_size e)
    exact hq h₅ _ dx t1 (fun b o e => k₅ b o (fun z => by rw [z, xb] at e; cases e) (k₄ b o e)) (Nat.le_trans z1 dn) dne hx₅ hn₅
end
end VX

namespace VX
open PySem PySem.W PySem.Calls PyProof.Rows PySem.HandSPX
/-- Bad(part), made -/
theorem bad_made {P : Program} {w : World} {A : Around} {R : Result → Shared → Prop} {s : Shared} {K : Frag} {mg : Str → Option Value} {C fI : Addr} {fd : FuncData} (T : BadTxt P K mg C fI fd)
    {v : Str} {tv : Tok} {mb : Str → Option Value} (X : K.In s.heap) (hlim : s.heap.NoLimit) (hG : s.heap.Ns mainGlobals mg) (hB : s.heap.Ns builtinsNs mb) (hmb : mb "super" = bootBuiltins "super")
    (hv : v.length ≤ 1000) (hroom : A.depth + 1 < recursionLimit) (hbind : ∀ (s : Shared) (a : Addr), K.In s.heap → BindsTo s fd ⟨[.ref a, .str v tv], []⟩ [("self", .ref a), ("part", .str v tv)])
    (hq : ∀ h' tk e dx fv, (∀ b o, s.heap.get? b = some o → h'.get? b = some o) → s.heap.objs.size ≤ e → s.heap.objs.size ≤ dx → dx ≠ e → h'.get? e = some { cls := .ref C, dict := some dx, data := .fields fv } → fv[1]? = some .none →
      h'.Ns1 dx (fun y => if y = "part" then some (.str v tv) else none) → R (.ok (.ret (.ref e))) { s with heap := h', toks := tk }) :
    codeAny (model P w) A (.call (.ref C) ⟨[.str v tv], []⟩) R s := by
  obtain ⟨nm, q, N, bs, bm, sn, sub, ab, col, dd, k0, k1, k2, k3, k5, hC, hbm⟩ := T.cls
  obtain ⟨hp, g, dr, tk, os⟩ := s
  have k : ∀ b o, hp.get? b = some o → ((hp.push (kdv_tup [.str v tv])).push (excO C hp.objs.size)).get? b = some o := fun b o e => Heap.get?_push_of_some _ (Heap.get?_push_of_some _ e)
  have hget : ((hp.push (kdv_tup [.str v tv])).push (excO C hp.objs.size)).get? (hp.objs.size + 1) = some (excO C hp.objs.size) := by heap_get
  have xb : hp.get? (hp.objs.size + 1) = none := by
    cases e : hp.get? (hp.objs.size + 1) with
    | none => rfl
    | some o => exact absurd (Nat.lt_trans (Nat.lt_succ_self _) (Heap.lt_size e)) (Nat.lt_irrefl _)
  refine call_own F.excBase_ValueError (fun X => refsVE_contains X bm hbm) (X _ _ hC) (looks_findIn X T.iC) (fun self => bind_fn X self T.tI) (by rw [sizeLine_eq]; show 1 ≤ 16777216; decide) ?_
  refine bad_init (s := ⟨(hp.push (kdv_tup [.str v tv])).push (excO C hp.objs.size), g, dr, tk, os⟩) T X k xb ?_ (hlim.keeps k) (hG.keeps k) (hB.keeps k) hmb hget hv ?_ (hbind _ _ (X.keeps k)) fun h' tk' dx t1 k' dn dne hx hns => ?_
  · show hp.objs.size ≤ ((hp.push _).push _).objs.size
    rw [Heap.size_push, Heap.size_push]
    omega
  · exact hroom
  · have dn' : hp.objs.size ≤ dx := by
      refine Nat.le_trans ?_ dn
      show hp.objs.size ≤ ((hp.push _).push _).objs.size
      rw [Heap.size_push, Heap.size_push]
      omega
    exact ⟨rfl, hq h' tk' (hp.objs.size + 1) dx _ k' (Nat.le_succ _) dn' dne hx rfl hns⟩
end VX
namespace VL
open PySem PySem.Spec
open PyProof.Rows L2
open Evl (Ex sz_of)
theorem lkp {v : V} : List.lookup ("part" : Str) [(("part" : Str), v)] = some v := by
  rw [List.lookup_cons, show (("part" : Str) == "part") = true by decide +kernel]
theorem relO_part {v : V} {u : Value} (r : RelV v u) (f : Str) : RelO (List.lookup f [(("part" : Str), v)]) (if f = "part" then some u else none) := by
  by_cases e : f = "part"
  · subst e
    rw [if_pos rfl, lkp]
    exact r
  · rw [if_neg e, List.lookup_cons, show (f == ("part" : Str)) = false from beq_eq_false_iff_ne.mpr e]
    trivial
section
variable {X : Cx} {C fI : Addr} {fd : FuncData}
/-- Bad(e): a new dict d holds the part -/
def tMkBad (C : Addr) (ta : TA) : L2.St → Hp → XK → Prop := fun σ H Q => ta σ H fun vs H1 => ∃ v : Str, vs = [.str v] ∧ v.length ≤ 1000 ∧ ∀ d, H1 d = none → Q (.ref C) (some d) (upd H1 d (.xd [(("part" : Str), .str v)]))
theorem pmk_bad {a : Expr} {ta : TA} {x : Str} {p pos : Pos} {k : Nat} (T : VX.BadTxt X.prog X.K X.mg C fI fd) (hbind : ∀ (s : Shared) (a : Addr) (u : Value), X.K.In s.heap → BindsTo s fd ⟨[.ref a, u], []⟩ [("self", .ref a), ("part", u)])
    (hr : Room k X.A) (hm : X.mg x = some (.ref C)) (ha : PA X [a] ta) (hg : Gl X x := by rfl) (hdb : (x == ("__debug__" : Str)) = false := by decide)
    (he : starEach (a :: []) X.env = (false, eval a X.env) :: starEach [] X.env := by rfl) (hpl : (backTo pos (starEach [] X.env)).any (·.1) = false := by rfl) :
    PMk X (.Call (.Name x p) [a] [] pos) (tMkBad C ta) := by
  intro pins s σ H Q I h
  refine wpAny_Call_Name_kw (ld_glob I hg hm ?_ hdb)
  refine PySem.W.callWith_K (h₀ := X.base) I.ok.mod.kin T.kC (thn (ha.run pos pins s σ H _ I h) fun us s1 hh => ?_) he hpl
  obtain ⟨vs, H1, I1, r1, v, ev, hv, q1⟩ := hh
  subst ev
  refine ⟨I1.kIn, ?_⟩
  obtain ⟨u, rfl, tv, rfl⟩ := vals1 r1
  show wpAny _ _ (call (.ref C) [.str v tv]) _ _ _
  have hlim := I1.nolimit
  have hG := I1.mod.glob.keeps I1.bk
  obtain ⟨mb, h1, h2⟩ := I1.mod.blt
  have hB := h1.keeps I1.bk
  obtain ⟨hp, g, dr, tk, os⟩ := s1
  refine wpAny_call (VX.bad_made T I1.kIn hlim hG hB (h2 _ (by decide)) hv (by have := hr.dp; omega) (fun s a hk => hbind s a _ hk) fun h' tk' e d fv keep ebig dbig dne hoe h1 hns => ?_)
  show MkP X pins σ Q (.ref e) ⟨h', g, dr, tk', os⟩
  obtain ⟨G', g1, g2⟩ := restrict h' fun b => decide (b ≠ e)
  have gk : ∀ b, b ≠ e → G'.get? b = h'.get? b := fun b hb => g1 b (decide_eq_true hb)
  have ge : G'.get? e = none := g2 e (by simp)
  have old : ∀ b o, hp.get? b = some o → G'.get? b = some o := fun b o q => (gk b (Nat.ne_of_lt (Nat.lt_of_lt_of_le (Heap.lt_size q) ebig))).trans (keep b o q)
  have ob : ObjOk X.prog X.w (upd H1 d (.xd [(("part" : Str), .str v)])) G' d (.xd [(("part" : Str), .str v)]) :=
    ⟨_, hns.at (fun o q => (gk d dne).trans q), fun f => relO_part (v := .str v) (u := .str v tv) ⟨tv, rfl⟩ f⟩
  have J : Inv X pins σ (upd H1 d (.xd [(("part" : Str), .str v)])) ⟨G', g, dr, tk', os⟩ := I1.laid (t' := tk') old dbig ob
  refine ⟨e, _, fv, ⟨G', g, dr, tk', os⟩, _, .ref C, some d, rfl, J, fun b o q => ?_, ge, hoe, ⟨rfl, rfl⟩, rfl, h1, ?_, rfl, I1.bare, raises_own T.exC T.tyC, q1 d (I1.hok.fresh dbig)⟩
  · by_cases hb : b = e
    · have q' : G'.get? b = some o := q
      rw [hb, ge] at q'
      cases q'
    · exact (gk b hb).symm.trans q
  · rw [upd_ne (Ne.symm dne)]
    exact I1.hok.fresh ebig
end
end VL

namespace VL
open PySem PySem.Spec
open PyProof.Rows L2
open Evl (Ex sz_of)
/-! ### defs that raise -/
section
variable {P : Program} {w : World} {K : PySem.W.Frag} {mg : Str → Option Value} {base : Heap} {cl : Nat → Addr}
/-- the promise of a def that may raise; how its arguments bind is told apart -/
structure OkX (P : Program) (w : World) (K : PySem.W.Frag) (mg : Str → Option Value) (base : Heap) (k : Nat) (f : Addr) (fd : FuncData) (ps : List Str) (sp : Sp) : Prop where
  ok : FnOk P w K mg base (L2.CX P w) k f fd ps sp
theorem okx {x qual : Str} {st : Stmt} {f : Addr} {fd : FuncData} {Ns ps : List Str} {k np : Nat} {m : MS} (Fu : Fun K x qual st f fd) (S : FnScope Ns ps (defScope st)) (hp : ps.length = np) (hN : np ≤ Ns.length)
    (hbody : ∀ (cdv : Value) (A : Around) (outer : List Env) (s : Shared) (H : Hp) (E : XK), Room k (A.deeper (envOfC qual (defScope st) s.heap.objs.size f cdv)) →
      ∃ t, PSs (cxOf (L2.CX P w) P w K mg base Ns qual (defScope st) f cdv A outer s H E) (defBody st) t ∧ SemS ⟨K, cl⟩ E t m) : FnOk P w K mg base (L2.CX P w) (k + 1) f fd ps (spF ⟨K, cl⟩ (mFn np Ns.length m) np) := by
  refine Fu.okX S (fun vs H Q E h => ?_) (fun cdv A outer s H vs Q E hr h => ?_)
  · exact h.1.trans hp.symm
  · obtain ⟨hv, F, os, α, S0, h⟩ := h
    obtain ⟨t, ht, hm⟩ := hbody cdv A outer s H E hr
    refine ⟨t, ht, ?_⟩
    have e : L2.start Ns vs = vs.map some ++ List.replicate (Ns.length - np) none := by
      unfold L2.start
      rw [hv]
    rw [e]
    exact body_run (Q := Q) hm S0 hv (np := np) (N := Ns.length) h
end
section
variable {G : Cn} {E : XK} {F F1 H H1 : Hp} {σ : L2.St} {ρ ρ1 : Rho} {α α1 : Al} {ta : TA} {ma : MA}
def sRaise (c : Nat) (ms : MA) : MS := fun _ ρ => bnd (ms ρ) fun ais ρ1 => match dsOnly ais with
  | some [.str v] => if v.length ≤ 1000 then some (.ex c (some [("part", .str v)]), ρ1) else none
  | _ => none
theorem semS_raise {c : Nat} (ha : SemA G E ta ma) : SemS G E (fun _ σ H => tMkBad (G.cls c) ta σ H fun cls d H' => E cls d H') (sRaise c ma) := ⟨fun {F H σ ρ α D pins} S h =>
  ha.run S (PostA.to h fun xs ρ1 vs F1 H1 α1 S1 r1 T1 N1 h1 => by
    split at h1
    · rename_i v e
      split at h1
      · rename_i hv
        have q := dsOnly_r r1 e
        obtain ⟨u, w, rfl, ru, rw'⟩ := q.of_cons
        obtain rfl := rw'.of_nil
        have eu : u = .str v := by unfold Rep at ru; exact ru
        subst eu
        refine ⟨v, rfl, hv, fun d hd => ?_⟩
        have T : Stp (Own α) F H F1 (upd H1 d (.xd [(("part" : Str), .str v)])) := T1.trans (Ste.putStp hd) N1
        refine h1 F1 _ d _ T upd_same ?_
        unfold RepsF
        exact ⟨.str v, [], rfl, Rep.ofStr, RepsF.nil⟩
      · exact h1.elim
    · exact h1.elim)⟩
end
theorem ps_raiseBad {X : Cx} {C fI : Addr} {fd : FuncData} {a : Expr} {ta : TA} {x : Str} {p pos pos2 : Pos} {k : Nat} {W : WX} (hc : X.calm = true) (tk : Takes X W) (T : VX.BadTxt X.prog X.K X.mg C fI fd)
    (hbind : ∀ (s : Shared) (a : Addr) (u : Value), X.K.In s.heap → BindsTo s fd ⟨[.ref a, u], []⟩ [("self", .ref a), ("part", u)]) (hr : Room k X.A) (hm : X.mg x = some (.ref C)) (ha : PA X [a] ta) (hg : Gl X x := by rfl) (hdb : (x == ("__debug__" : Str)) = false := by decide)
    (he : starEach (a :: []) X.env = (false, eval a X.env) :: starEach [] X.env := by rfl) (hpl : (backTo pos (starEach [] X.env)).any (·.1) = false := by rfl) :
    PS X (.Raise (some (.Call (.Name x p) [a] [] pos)) none pos2) (fun _ σ H => tMkBad C ta σ H fun cls d H' => W cls d σ H') := ps_raise hc tk (pmk_bad T hbind hr hm ha hg hdb he hpl)
end VL
namespace VL
/-- the built-in kinds: none is of an own class -/
def kitO : List (String × Bool) := [("NoneType", false), ("bool", false), ("int", false), ("str", false), ("tuple", false), ("list", false), ("dict", false)]
end VL

namespace VL
open PySem PySem.Spec
open PyProof.Rows L2
open Evl (Ex sz_of)
/-! ### a try whose clause tells the part -/
structure ExcK (K : PySem.W.Frag) (D : Addr) : Prop where
  cl : (PySem.W.clsIn K D).isSome = true
  ga : PySem.W.findIn K (.ref D) "__getattribute__" = some (some (.builtin "BaseException.__getattribute__"))
  gt : PySem.W.findIn K (.ref D) "__getattr__" = some none
  sb : PySem.W.subIn K (.ref D) (.type "BaseException") = some true
  ca : PySem.W.findIn K (.ref D) "__class__" = some (some (.builtin "object.__class__"))
  sp : PySem.W.specialIn K (.builtin "object.__class__") "__get__" = some (some (.builtin "getset_descriptor.__get__"))
  tk : PySem.W.takesIn K (.builtin "object.__class__") = some true
  mo : PySem.W.mroIn K D (.type "object") = some true
  hdct : PySem.W.hasDictIn K D = true
  np : PySem.W.findIn K (.ref D) "part" = some none
section
variable {X : Cx} {a D : Addr} {oe : Obj} {cls : Value} {d : Option Addr} {pn : List (Addr × Obj)}
theorem inst_at {pins : List (Addr × Obj)} {σ : L2.St} {H : Hp} {s : Shared} {dd : Addr} {fs : List (Str × V)} (I : Inv (X.suite a ((a, oe) :: pn)) pins σ H s) (hz : Zc (.ref D) (some dd) oe) (hf : ∃ vs, oe.data = .fields vs) (hx : H dd = some (.xd fs)) :
    ∃ mA od, s.heap.Ns1 dd mA ∧ (∀ f, RelO (fs.lookup f) (mA f)) ∧ (∀ name, PySem.W.lookIn name od = some (mA name)) ∧ PySem.W.InstAt s.heap a oe D (some od) := by
  obtain ⟨ha, _⟩ := I.pin (a, oe) (List.mem_append_left _ List.mem_cons_self)
  obtain ⟨vs, hd⟩ := hf
  have hx' : ObjOk X.prog X.w H s.heap dd (.xd fs) := I.hok dd _ hx
  obtain ⟨mA, hns, hr⟩ := hx'
  obtain ⟨od, at0, lk⟩ := lookIn_ns hns
  exact ⟨mA, od, hns, hr, lk, ha, hz.1, by unfold PySem.W.notCls; rw [hd] <;> rfl, by rw [hz.2]; exact at0⟩
def rIsX (K : PySem.W.Frag) (D a : Addr) (cls : Value) (d : Option Addr) : List V → Hp → VK → Prop := fun xs H Q => ∃ (c : V) (cv : Value) (b : Bool) (dd : Addr) (fs : List (Str × V)),
  xs = [.ref a, c] ∧ cls = .ref D ∧ d = some dd ∧ H dd = some (.xd fs) ∧ (∀ u, RelV c u → u = cv) ∧ PySem.W.kitOne K (.ref D) cv = some b ∧ Q (.bl b) H
theorem call_isX (C : ExcK X.K D) (hz : Zc cls d oe) (hf : ∃ vs, oe.data = .fields vs) : CallR (X.suite a ((a, oe) :: pn)) (.builtin "isinstance") (rIsX X.K D a cls d) := by
  intro pns s σ H xs us Q inv r got
  obtain ⟨c, cv, b, dd, fs, rfl, rfl, rfl, hx, hcv, e, q⟩ := got
  obtain ⟨u, u', rfl, ru, ru'⟩ := vals2 r
  cases ru
  have ec := hcv _ ru'
  subst ec
  obtain ⟨mA, od, hns, hr, hl, J⟩ := inst_at inv hz hf hx
  exact PySem.W.kia_one (PySem.W.kitx_exc C.cl C.ga C.gt C.sb C.ca C.sp C.tk C.mo) inv.kIn J e (fun z => nomatch z) fun tk => ⟨.bl b, H, inv.kept (t' := tk) fun _ _ z => z, rfl, q⟩
def tPartX (D a : Addr) (cls : Value) (d : Option Addr) (te : TE) : TE := fun σ H Q => te σ H fun x H1 => x = .ref a ∧ cls = .ref D ∧ ∃ (dd : Addr) (v : V), d = some dd ∧ H1 dd = some (.xd [(("part" : Str), v)]) ∧ Q v H1
theorem pe_partX {e : Expr} {te : TE} {pos : Pos} (C : ExcK X.K D) (hz : Zc cls d oe) (hf : ∃ vs, oe.data = .fields vs) (he : PE (X.suite a ((a, oe) :: pn)) e te) (hb : attributeBase e "part" X.env (eval e X.env) = eval e X.env := by rfl) :
    PE (X.suite a ((a, oe) :: pn)) (.Attribute e "part" pos) (tPartX D a cls d te) := by
  constructor
  intro pns s σ H Q inv got
  have ev := he.run pns s σ H _ inv got
  refine attr_of hb (thn ev fun u s1 hh => ?_)
  obtain ⟨x, H1, I1, rx, ex, ec, dd, v, ed, ea, q⟩ := hh
  subst ex ec ed
  have eu : u = Value.ref a := rx
  subst eu
  obtain ⟨mA, od, hns, hr, hl, J⟩ := inst_at I1 hz hf ea
  obtain ⟨u, hu, ru⟩ := RelO.some_of (v := v) (o := mA "part") (by rw [← lkp (v := v)]; exact hr "part")
  exact HandSPX.exc_get I1.kIn J C.ga C.gt C.sb (PySem.W.findObj_own C.hdct C.np rfl (by rw [hl, hu])) (handed_of ru) ⟨v, H1, I1.tok _, ru, q⟩
end
/-- return error.part if isinstance(error, ..) and isinstance(error, ..) else s -/
def tSuite (K : PySem.W.Frag) (D : Addr) (i : Nat) (c1 c2 : V) (z : Str) (a : Addr) (cls : Value) (d : Option Addr) : TS :=
  tRet (tIf (tAnd (tB (tCB (rIsX K D a cls d) (tCons (tVar i) (tCons (tC c1) tNil)))) (tB (tCB (rIsX K D a cls d) (tCons (tVar i) (tCons (tC c2) tNil))))) (tPartX D a cls d (tVar i)) (tC (.str z)))
def tTry (K : PySem.W.Frag) (D : Addr) (i n : Nat) (c1 c2 : V) (z : Str) (mk : XK → TE) : TS := fun Dn σ H =>
  tDrop (mk fun cls d H' => ∀ σ' : L2.St, σ'.length = n → wAs K (.ref D) i (tSuite K D i c1 c2 z) (fun _ _ _ _ => False) Dn cls d σ' H') Dn σ H
def allVal (ρ : Rho) : Bool := ρ.all fun o => match o with | none => true | some (.val _) => true | _ => false
def sTry (c : Nat) (mk : M) : MS := fun _ ρ => match mk ρ with
  | some (.ok _, ρ1) => some (.ok .nx, ρ1)
  | some (.ex c' (some [(f, .str v)]), _) => if c' = c ∧ f = "part" ∧ allVal ρ = true then some (.ok (.ret (.val (.str v))), ρ) else none
  | _ => none
section
variable {G : Cn} {E : XK} {F F1 H H1 : Hp} {σ : L2.St} {ρ ρ1 : Rho} {α α1 : Al}
theorem allVal_own (h : allVal ρ = true) (S : Ste G F H σ ρ α) : ∀ a, ¬ Own α a := fun a ⟨i, ha⟩ => by
  cases e : ρ[i]? with
  | none => rw [S.off i fun o z => by rw [e] at z; cases z] at ha; cases ha
  | some x =>
    cases x with
    | none => rw [S.off i fun o z => by rw [e] at z; cases z] at ha; cases ha
    | some o =>
      obtain ⟨v, _, r⟩ := S.slot i o e
      have hm := List.all_eq_true.mp h _ (List.mem_of_getElem? e)
      cases o with
      | val d => rw [r.1] at ha; cases ha
      | _ => cases hm
theorem semS_try {c i n : Nat} {c1 c2 : V} {u1 u2 : Value} {z : Str} {mk : M} {tmk : XK → TE} (hi : i < n) (hm : ∀ E, Sem G E (tmk E) mk) (hx : PySem.W.exmOne G.K (.ref (G.cls c)) (.ref (G.cls c)) = some true)
    (h1 : ∀ u, RelV c1 u → u = u1) (h2 : ∀ u, RelV c2 u → u = u2) (k1 : PySem.W.kitOne G.K (.ref (G.cls c)) u1 = some true) (k2 : PySem.W.kitOne G.K (.ref (G.cls c)) u2 = some true) :
    SemS G E (tTry G.K (G.cls c) i n c1 c2 z tmk) (sTry c mk) := ⟨fun {F H σ ρ α D pins} S h => by
  refine (hm _).run S ?_
  unfold sTry at h
  split at h
  · rename_i o ρ1 e
    rw [e]
    exact fun v F' H' α' β S' R' T' M' N' => h σ F' H' α' S' T' (fun a z => N' a (.inl z)) .refl
  · rename_i c' f v ρ1 e
    rw [e]
    split at h
    · rename_i hc
      obtain ⟨rfl, rfl, hv⟩ := hc
      have no := allVal_own hv S
      intro F' H' dd fvs T' hd hr σ' hl
      have hr' : ∃ (w : V) (r : List (Str × V)), fvs = (("part" : Str), w) :: r ∧ Rep G F' w (.str v) ∧ RepsF G F' r [] := by unfold RepsF at hr; exact hr
      obtain ⟨w, r, rfl, rw', rr⟩ := hr'
      have er : r = [] := by unfold RepsF at rr; exact rr
      have ew : w = .str v := by unfold Rep at rw'; exact rw'
      subst er ew
      refine ⟨true, hx, fun _ a0 ha0 => ?_, fun q => nomatch q⟩
      have hs : (σ'.set i (some (V.ref a0)))[i]? = some (some (V.ref a0)) := List.getElem?_set_self (by omega)
      refine ⟨_, hs, c1, u1, true, dd, _, rfl, rfl, rfl, hd, h1, k1, true, rfl, iteT ⟨_, hs, c2, u2, true, dd, _, rfl, rfl, rfl, hd, h2, k2, true, rfl, iteT ⟨_, hs, rfl, rfl, dd, _, rfl, hd, ?_⟩⟩⟩
      have eH : Ex H H' := fun b o e => T'.keep b o e (no b)
      exact h (.str v) σ F H' α [] (S.grow (Ex.refl F) eH (fun _ _ z => .inl z) (S.ex.trans eH)) ⟨rfl, Rep.ofStr⟩ ⟨Ex.refl F, fun b o e _ => eH b o e, fun b o e => .inl e⟩ (fun _ z => nomatch z) (fun a z => z.elim .inl fun z => nomatch z) .refl
    · exact h.elim
  · exact h.elim⟩
end
end VL
namespace VL
open PySem PySem.Spec
open PyProof.Rows L2
open Evl (Ex sz_of)
theorem passLen {X : Cx} {W : WX} (tk : Takes X W) : Passes (L2.CX X.prog X.w) X (fun cls d H' => ∀ σ' : L2.St, σ'.length = X.N.length → W cls d σ' H') :=
  fun pins σ H s e s' I c => tk e s' (XE.of_call I (fun cls d H' h => h σ I.len) c)
end VL

namespace VL
open PySem PySem.Spec
open PyProof.Rows L2
open Evl (Ex sz_of)
/-! ### a, b = x, y -/
def sPar (i j : Nat) (a : MA) : MS := fun pins ρ => bnd (a ρ) fun ais ρ1 => match dsOnly ais with
  | some [x, y] => (setV pins i (.val x) ρ1).bind fun ρ2 => (setV pins j (.val y) ρ2).map fun ρ3 => (.ok .nx, ρ3)
  | _ => none
section
variable {G : Cn} {E : XK} {F F1 H H1 : Hp} {σ : L2.St} {ρ ρ1 : Rho} {α α1 : Al}
theorem Ste.setD {i : Nat} {d : D} {v : V} (S : Ste G F H σ ρ α) (r : Rep G F v d) (hi : i < ρ.length) : Ste G F H (σ.set i (some v)) (ρ.set i (some (.val d))) (Al.set α i []) :=
  S.store (o := .val d) (β := []) ⟨rfl, r⟩ (fun _ _ a ha => nomatch ha) hi
theorem semS_par {i j : Nat} {ta : TA} {ma : MA} (ha : SemA G E ta ma) : SemS G E (tPar i j ta) (sPar i j ma) := ⟨fun {F H σ ρ α D pins} S h =>
  ha.run S (PostA.to h fun xs ρ1 vs F1 H1 α1 S1 r1 T1 N1 h1 => by
    split at h1
    · rename_i x y e
      have q := dsOnly_r r1 e
      obtain ⟨v, r, rfl, rx, q⟩ := q.of_cons
      obtain ⟨u, r, rfl, ry, q⟩ := q.of_cons
      obtain rfl := q.of_nil
      cases e1 : setV pins i (.val x) ρ1 with
      | none => rw [e1] at h1; exact h1.elim
      | some ρ2 =>
        rw [e1] at h1
        try dsimp only [Option.bind] at h1
        cases e2 : setV pins j (.val y) ρ2 with
        | none => rw [e2] at h1; exact h1.elim
        | some ρ3 =>
          rw [e2] at h1
          obtain ⟨n1, l1, rfl⟩ := setV_some e1
          obtain ⟨n2, l2, rfl⟩ := setV_some e2
          refine ⟨v, u, rfl, ?_⟩
          refine h1 _ F1 H1 _ ((S1.setD rx l1).setD ry l2) T1 (fun a z => ?_) ((Pin.set n1).trans (Pin.set n2))
          rcases Al.own_set z with z | z
          · rcases Al.own_set z with z | z
            · exact N1 a z
            · cases z
          · cases z
    · exact h1.elim)⟩
end
end VL
namespace VL
open PySem PySem.Spec
open PyProof.Rows L2
open Evl (Ex sz_of)
/-- the law's def asked with the script -/
theorem script_in {K : PySem.W.Frag} {cl : Nat → Addr} {H : Hp} {Q : VK} {E : XK} {fn : Fn} {a : Addr} {ns : List Int} (e : fn [.val (.scr ns)] = some (.ok (.val (.bl true)), [.val (.scr ns)])) (hS : SqL K H a (ns.map V.int)) (kQ : ∀ H', Q (.bl true) H') :
    spF ⟨K, cl⟩ fn 1 [.ref a] H Q E := by
  refine ⟨rfl, fun b => if b = a then H b else none, [.val (.scr ns)], fun _ => [], ⟨fun b o h => ?_, rfl, fun i o h => ?_, fun _ _ => rfl, fun _ _ _ _ h => nomatch h⟩, ?_⟩
  · have h' : (if b = a then H b else none) = some o := h
    split at h'
    · exact h'
    · cases h'
  · cases i with
    | zero =>
      have : O.val (.scr ns) = o := by simpa using h
      subst this
      refine ⟨.ref a, rfl, rfl, ?_⟩
      unfold Rep
      refine ⟨a, rfl, ?_⟩
      rcases hS with h1 | h1
      · rcases h1 with h1 | h1
        · exact .inl (.inl (by show (if a = a then H a else none) = _; rw [if_pos rfl]; exact h1))
        · obtain ⟨o, h1⟩ := h1
          exact .inl (.inr ⟨o, by show (if a = a then H a else none) = _; rw [if_pos rfl]; exact h1⟩)
      · exact .inr h1
    | succ i => simp at h
  · rw [e]
    exact fun v F' H' α' β S r T M N => by
      obtain ⟨_, r⟩ := r
      have : v = .bl true := by unfold Rep at r; exact r
      subst this
      exact kQ H'
end VL

namespace VL
open PySem PySem.Spec
open PyProof.Rows L2
open Evl (Ex sz_of)

/-! ### zip of two sources, walked: by the library's GoesN.zip2 -/
/-- the zip's own cells, from N on -/
def zCells (N : Addr) : List Addr := [N + 4, N + 2, N + 3, N, N + 1]
def zAt (S S' : Src) (n : Nat) (N : Addr) (i : Nat) (h : Heap) : Prop :=
  (IsZip h (N + 4) (N + 2) (N + 3) .none ∧ IsTupOf2 h (N + 2) (.ref N) (.ref (N + 1)) ∧ ∃ a b, IsTupOf2 h (N + 3) a b) ∧ (S.ci N i h ∧ S'.ci (N + 1) i h) ∧ i ≤ n
theorem zAt.move {S S' : Src} {n i : Nat} {N : Addr} {h h' : Heap} (z : zAt S S' n N i h) (k : ∀ b ∈ zCells N, ∀ o, h.get? b = some o → h'.get? b = some o) : zAt S S' n N i h' := by
  obtain ⟨⟨z1, z2, a, b, z3⟩, ⟨z4, z5⟩, z6⟩ := z
  have m : ∀ c, c ∈ zCells N → ∀ o, h.get? c = some o → h'.get? c = some o := k
  exact ⟨⟨m _ (by simp [zCells]) _ z1, m _ (by simp [zCells]) _ z2, a, b, m _ (by simp [zCells]) _ z3⟩, ⟨S.mov h h' _ i z4 (m _ (by simp [zCells])), S'.mov h h' _ i z5 (m _ (by simp [zCells]))⟩, z6⟩
theorem zAt.lives {S S' : Src} {n i : Nat} {N : Addr} {h : Heap} (z : zAt S S' n N i h) : ∀ b ∈ zCells N, ∃ o, h.get? b = some o ∧ ∀ v, o.data ≠ .cell v := by
  obtain ⟨⟨z1, z2, a, b, z3⟩, ⟨z4, z5⟩, _⟩ := z
  intro c hc
  simp only [zCells, List.mem_cons, List.not_mem_nil, or_false] at hc
  rcases hc with q | q | q | q | q <;> subst q
  · exact ⟨_, z1, fun _ x => nomatch x⟩
  · exact ⟨_, z2, fun _ x => nomatch x⟩
  · exact ⟨_, z3, fun _ x => nomatch x⟩
  · exact S.liv _ _ _ z4
  · exact S'.liv _ _ _ z5
section
variable {X : Cx} {elts : List Expr} {kk : Nat} {tpos : Pos} {S S' : Src} {u u' : Value} {xs ys : List V} {Gd : Hp → Prop} {N : Addr}
/-- what the library tells of such a walk, in this heap -/
theorem zWalk {pins : List (Addr × Obj)} {σ : L2.St} {H : Hp} {s : Shared} (f : SrcIn X S u xs Gd) (f' : SrcIn X S' u' ys Gd) (lt : ∀ b ∈ S.ex, b < N) (lt' : ∀ b ∈ S'.ex, b < N) (hc : X.calm = true) (I : Inv X pins σ H s) (g : Gd H) :
    ∃ c c' : Heap → Prop, c s.heap ∧ c' s.heap ∧ GoesN X.prog X.w X.A (.Tuple elts kk tpos) (N + 4) ((N + 4) :: (N + 2) :: (N + 3) :: ((N :: S.ex) ++ ((N + 1) :: S'.ex))) [N + 4, N + 3, N, N + 1] (min xs.length ys.length)
      (fun i h₀ v h => ∃ T x y, v = .ref T ∧ h₀.objs.size ≤ T ∧ (∃ d, xs[i]? = some d ∧ RelV d x) ∧ (∃ d, ys[i]? = some d ∧ RelV d y) ∧ h.IsTuple T #[x, y])
      (fun i h => IsZip h (N + 4) (N + 2) (N + 3) .none ∧ IsTupOf2 h (N + 2) (.ref N) (.ref (N + 1)) ∧ (∃ a b, IsTupOf2 h (N + 3) a b) ∧ (S.ci N i h ∧ c h) ∧ (S'.ci (N + 1) i h ∧ c' h)) := by
  obtain ⟨c, hp, _, _, dr⟩ := f pins σ H s I g
  obtain ⟨c', hp', _, _, dr'⟩ := f' pins σ H s I g
  have hd : X.A.in1.handled = none := I.ok.hd hc
  have n1 : N ∉ S.ex := fun z => absurd (lt N z) (Nat.lt_irrefl _)
  have n2 : N + 1 ∉ S'.ex := fun z => absurd (lt' _ z) (Nat.not_lt.mpr (Nat.le_succ N))
  exact ⟨c, c', hp, hp', GoesN.zip2 (zip_sep2 lt lt') (dr X.A.in1 N hd n1) (dr' X.A.in1 (N + 1) hd n2)⟩
end
theorem turn_zipV {P : Program} {w : World} {K : PySem.W.Frag} {elts : List Expr} {kk : Nat} {tpos : Pos} {S S' : Src} {u u' : Value} {xs ys : List V} {Gd : Hp → Prop} {N : Addr}
    (f : ∀ X : Cx, X.K = K → SrcIn X S u xs Gd) (f' : ∀ X : Cx, X.K = K → SrcIn X S' u' ys Gd) (lt : ∀ b ∈ S.ex, b < N) (lt' : ∀ b ∈ S'.ex, b < N) :
    Turn P w K (.Tuple elts kk tpos) (ItP xs ys Gd) (zCells N) (N + 4) (zAt S S' (min xs.length ys.length) N) where
  mem := by simp [zCells]
  obj := fun i h t => t.lives
  keep := fun i h h' t k => t.move k
  self := fun A i s Q E t q => wpAny_pyIter_zip t.1.1 q
  item := by
    intro X e1 e2 e3 hc i pins s σ H E I ok t go
    subst e1 e2 e3
    obtain ⟨c, c', hp, hp', W⟩ := zWalk (elts := elts) (kk := kk) (tpos := tpos) (f X rfl) (f' X rfl) lt lt' hc I go.1
    have lv := t.lives
    obtain ⟨⟨z1, z2, z3⟩, ⟨z4, z5⟩, z6⟩ := t
    have hi : i < min xs.length ys.length := by have := go.2; omega
    refine W.goes i s _ E hi ⟨z1, z2, z3, ⟨z4, hp⟩, z5, hp'⟩ fun v h' tk y st kp _ => ?_
    obtain ⟨T, a, b, ev, hT, ⟨x, hx, rx⟩, ⟨y, hy, ry⟩, tp⟩ := y
    subst ev
    obtain ⟨y1, y2, y3, ⟨y4, _⟩, y5, _⟩ := st
    have ob : ObjOk X.prog X.w (upd H T (.tup [x, y])) h' T (.tup [x, y]) := ⟨by rw [sizeLine_eq]; show 2 ≤ 16777216; decide, [a, b], .cons rx (.cons ry .nil), tp⟩
    refine ⟨.ref T, _, I.turnedNew (t' := tk) (ch := zCells N) (fun b o nb e => kp b o (fun z => nb ?_) e) ok hT ob, rfl, ⟨T, x, y, rfl, I.hok.fresh hT, rfl, hx, hy⟩, ⟨⟨y1, y2, y3⟩, ⟨y4, y5⟩, hi⟩, fun b hb => ?_⟩
    · simp only [zCells, List.mem_cons, List.not_mem_nil, or_false] at z ⊢
      rcases z with z | z | z | z <;> simp [z]
    · obtain ⟨o, ho, _⟩ := lv b hb
      have ne : b ≠ T := Nat.ne_of_lt (Nat.lt_of_lt_of_le (Heap.lt_size ho) hT)
      rw [upd_ne ne]
      exact (ok b hb).1
  done := by
    intro X e1 e2 e3 hc i pins s σ H E I ok t stp
    subst e1 e2 e3
    obtain ⟨c, c', hp, hp', W⟩ := zWalk (elts := elts) (kk := kk) (tpos := tpos) (f X rfl) (f' X rfl) lt lt' hc I stp.1
    obtain ⟨⟨z1, z2, z3⟩, ⟨z4, z5⟩, z6⟩ := t
    have hi : i = min xs.length ys.length := by have := stp.2; omega
    rw [hi] at z4 z5
    refine W.stops s _ E ⟨z1, z2, z3, ⟨z4, hp⟩, z5, hp'⟩ fun h' tk kp _ => ?_
    refine I.turnedL (t' := tk) (ch := zCells N) (fun b o nb e => kp b o (fun z => nb ?_) e) ok
    simp only [zCells, List.mem_cons, List.not_mem_nil, or_false] at z ⊢
    rcases z with z | z | z | z <;> simp [z]
theorem pi_zipV {X : Cx} {a b : Expr} {ta : TA} {p pos tpos : Pos} {elts : List Expr} {kk : Nat} (hg : Gl X "zip") (hm : X.mg "zip" = none) (ha : PA X [a, b] ta)
    (h1 : starEach [a, b] X.env = (false, eval a X.env) :: starEach [b] X.env := by rfl) (h2 : (backTo pos (starEach [b] X.env)).any (·.1) = false := by rfl) :
    PI X (.Tuple elts kk tpos) (.Call (.Name "zip" p) [a, b] [] pos) (iZipV X.K ta) where
  run := fun pins s σ H R I h => by
    have args := ha.run pos pins s σ H _ I h
    refine Call_ (ld_blt I hg hm boot_zip ?_)
    refine callWith_type1 (thn args fun us s1 got => ?_) h1 h2
    obtain ⟨vs, H1, I1, rel, v, v', xs, ys, Gd, ev, k1, k2, g, q⟩ := got
    subst ev
    obtain ⟨c, d, eu, rc, rd⟩ := vals2 rel
    subst eu
    obtain ⟨S, f⟩ := k1.src rc
    obtain ⟨S', f'⟩ := k2.src rd
    obtain ⟨hc, p1, B, lt, _⟩ := f X rfl pins σ H1 s1 I1 g
    obtain ⟨hc', p2, B', lt', _⟩ := f' X rfl pins σ H1 s1 I1 g
    refine zip_begins2 B B' p1 p2 fun h' z1 z2 z3 i1 i2 sz kp => wpAny_pyIter_zip z1 ?_
    refine ⟨_, zCells s1.heap.objs.size, zAt S S' (min xs.length ys.length) s1.heap.objs.size, _, H1, rfl, I1.kept (t' := s1.toks) kp, turn_zipV f f' lt lt', ⟨⟨z1, z2, _, _, z3⟩, ⟨S.ini _ _ i1, S'.ini _ _ i2⟩, Nat.zero_le _⟩, fun b hb => ?_, q⟩
    have hb' : s1.heap.objs.size ≤ b := by
      simp only [zCells, List.mem_cons, List.not_mem_nil, or_false] at hb
      rcases hb with z | z | z | z | z <;> rw [z]
      · exact Nat.le_add_right _ 4
      · exact Nat.le_add_right _ 2
      · exact Nat.le_add_right _ 3
      · exact Nat.le_refl _
      · exact Nat.le_add_right _ 1
    exact (I1.fpOk hb' (I1.hok.fresh hb'))
end VL

namespace VL
open PySem PySem.Spec
open PyProof.Rows L2
open Evl (Ex sz_of)

/-! ### one source, walked by itself: by the library's Goes -/
/-- items of a source that stands while Gd holds -/
def ItS (xs : List V) (Gd : Hp → Prop) : It := ⟨fun i H => Gd H ∧ i < xs.length, fun i H v H' => H' = H ∧ xs[i]? = some v, fun i H => Gd H ∧ xs.length ≤ i⟩
/-- what a for over the source does in this heap -/
def WalkH (P : Program) (w : World) (S : Src) (v : Value) (xs : List V) (h : Heap) : Prop :=
  ∃ c : Heap → Prop, c h ∧ Begins v S.o c ∧ (∀ b ∈ S.ex, b < h.objs.size) ∧ ∀ (A : Around) (tg : Expr) (it : Addr), A.handled = none → it ∉ S.ex →
    Goes P w A tg it (it :: S.ex) [it] xs.length (fun i u _ => ∃ x, xs[i]? = some x ∧ RelV x u) (fun i h => S.ci it i h ∧ c h)
theorem Goes.len {P : Program} {w : World} {A : Around} {tg : Expr} {it : Addr} {fp wr : List Addr} {n m : Nat} {Y : Nat → Value → Heap → Prop} {St : Nat → Heap → Prop} (W : Goes P w A tg it fp wr n Y St) (e : n = m) : Goes P w A tg it fp wr m Y St := e ▸ W
theorem walkH_tup {P : Program} {w : World} {a : Addr} {xs : List V} {its : List Value} {h : Heap} (r : Vals xs its) (e : h.IsTuple a its.toArray) : WalkH P w (srcTup a) (.ref a) xs h := by
  refine ⟨fun h => h.IsTuple a its.toArray, e, begins_tuple a _, fun b hb => ?_, fun A tg it hh ne => ?_⟩
  · obtain ⟨o, ho, _⟩ := e
    rw [List.mem_singleton.mp hb]
    exact Heap.lt_size ho
  · have ai : a ≠ it := fun z => ne (z ▸ List.mem_singleton.mpr rfl)
    refine VL.Goes.len (PySem.Goes.mono (PySem.Goes.tuple hh it a ai its.toArray) fun i u _ _ q => ?_) (by rw [r.length]; rfl)
    exact Vals.get1 r (by rw [← q]; exact (List.getElem?_toArray ..).symm)
theorem walkH_lst {P : Program} {w : World} {a : Addr} {xs : List V} {its : List Value} {h : Heap} (r : Vals xs its) (e : h.IsList a its.toArray) : WalkH P w (srcLst a) (.ref a) xs h := by
  refine ⟨fun h => h.IsList a its.toArray, e, begins_list a _, fun b hb => ?_, fun A tg it hh ne => ?_⟩
  · obtain ⟨o, ho, _⟩ := e
    rw [List.mem_singleton.mp hb]
    exact Heap.lt_size ho
  · have ai : a ≠ it := fun z => ne (z ▸ List.mem_singleton.mpr rfl)
    refine VL.Goes.len (PySem.Goes.mono (PySem.Goes.list hh it a ai its.toArray) fun i u _ _ q => ?_) (by rw [r.length]; rfl)
    exact Vals.get1 r (by rw [← q]; exact (List.getElem?_toArray ..).symm)
theorem walkH_str {P : Program} {w : World} {x : Str} {t : Tok} {h : Heap} : WalkH P w (srcStr x t) (.str x t) (signs x) h := by
  refine ⟨fun _ => True, trivial, begins_text x t, (fun b hb => nomatch hb), fun A tg it hh ne => ?_⟩
  have W := PySem.Goes.mono (Y' := fun i u _ => ∃ y, (signs x)[i]? = some y ∧ RelV y u) (PySem.Goes.text (prog := P) (w := w) (target := tg) hh it x t) fun i u _ _ ⟨c, t', e, eu⟩ => ⟨.str ⟨#[c]⟩, by
    unfold signs
    rw [List.getElem?_map, show x.cps.toList[i]? = some c by simpa using e]
    rfl, by rw [eu]; exact ⟨t', rfl⟩⟩
  have W' := VL.Goes.len W (m := (signs x).length) (by simp [signs])
  exact ⟨W'.sub, fun i h h' st k => ⟨W'.frame i h h' st.1 k, trivial⟩, fun i s Q E hi st k => W'.goes i s Q E hi st.1 fun v h' tk y st' => k v h' tk y ⟨st', trivial⟩, fun s Q E st k => W'.stops s Q E st.1 k, fun i s Q E st q => W'.self i s Q E st.1 q⟩
theorem SrcV.walk {K : PySem.W.Frag} {v : V} {xs : List V} {Gd : Hp → Prop} {u : Value} (h : SrcV K v xs Gd) (r : RelV v u) :
    ∃ S : Src, (∀ (P : Program) (w : World) (A : Around) (it : Addr) (i : Nat) (s : Shared) (Q : Value → Shared → Prop) (E : Value → Shared → Prop), S.ci it i s.heap → Q (.ref it) s → wpAny (model P w) A (pyIter (.ref it)) Q E s) ∧
      ∀ X : Cx, X.K = K → ∀ (pins : List (Addr × Obj)) (σ : L2.St) (H : Hp) (s : Shared), Inv X pins σ H s → Gd H → WalkH X.prog X.w S u xs s.heap := by
  rcases h with ⟨a, rfl, h⟩ | ⟨a, rfl, h⟩ | ⟨x, rfl, rfl⟩
  · cases r
    refine ⟨srcTup a, fun P w A it i s Q E c q => wpAny_pyIter_tupleiter c q, fun X hK pins σ H s I g => ?_⟩
    subst hK
    obtain ⟨its, rv, p, _⟩ := I.tuple (h H g)
    exact walkH_tup rv p
  · cases r
    refine ⟨srcLst a, fun P w A it i s Q E c q => wpAny_pyIter_listiter c q, fun X hK pins σ H s I g => ?_⟩
    subst hK
    obtain ⟨its, rv, p, _⟩ := I.list (h H g)
    exact walkH_lst rv p.isList
  · obtain ⟨t, rfl⟩ := r
    refine ⟨srcStr x t, fun P w A it i s Q E c q => ?_, fun X hK pins σ H s I g => walkH_str⟩
    have c' : s.heap.IsStrIter it (strIterType x) x t i := c
    unfold strIterType at c'
    split at c'
    · exact wpAny_pyIter_striter_ascii c' q
    · exact wpAny_pyIter_striter_wide c' q
theorem turn_srcV {P : Program} {w : World} {K : PySem.W.Frag} {tg : Expr} {S : Src} {u : Value} {xs : List V} {Gd : Hp → Prop} {N : Addr}
    (sf : ∀ (P : Program) (w : World) (A : Around) (it : Addr) (i : Nat) (s : Shared) (Q : Value → Shared → Prop) (E : Value → Shared → Prop), S.ci it i s.heap → Q (.ref it) s → wpAny (model P w) A (pyIter (.ref it)) Q E s)
    (f : ∀ X : Cx, X.K = K → ∀ (pins : List (Addr × Obj)) (σ : L2.St) (H : Hp) (s : Shared), Inv X pins σ H s → Gd H → WalkH X.prog X.w S u xs s.heap) (lt : N ∉ S.ex) :
    Turn P w K tg (ItS xs Gd) [N] N (fun i h => S.ci N i h ∧ i ≤ xs.length) where
  mem := List.mem_singleton.mpr rfl
  obj := fun i h t b hb => by
    rw [List.mem_singleton.mp hb]
    exact S.liv h N i t.1
  keep := fun i h h' t k => ⟨S.mov h h' N i t.1 (k N (List.mem_singleton.mpr rfl)), t.2⟩
  self := fun A i s Q E t q => sf P w A N i s Q E t.1 q
  item := by
    intro X e1 e2 e3 hc i pins s σ H E I ok t go
    subst e1 e2 e3
    obtain ⟨c, hp, _, _, W⟩ := f X rfl pins σ H s I go.1
    refine (W X.A tg N (I.ok.hd hc) lt).goes i s _ E go.2 ⟨t.1, hp⟩ fun v h' tk y st kp _ => ?_
    obtain ⟨x, hx, rx⟩ := y
    exact ⟨x, H, I.turnedL (t' := tk) (ch := [N]) kp ok, rx, ⟨rfl, hx⟩, ⟨st.1, go.2⟩, fun b hb => (ok b hb).1⟩
  done := by
    intro X e1 e2 e3 hc i pins s σ H E I ok t stp
    subst e1 e2 e3
    obtain ⟨c, hp, _, _, W⟩ := f X rfl pins σ H s I stp.1
    have hi : i = xs.length := Nat.le_antisymm t.2 stp.2
    refine (W X.A tg N (I.ok.hd hc) lt).stops s _ E ⟨hi ▸ t.1, hp⟩ fun h' tk kp _ => I.turnedL (t' := tk) (ch := [N]) kp ok
def iSeqV (K : PySem.W.Frag) (te : TE) : TI := fun σ H R => te σ H fun v H1 => ∃ xs Gd, SrcV K v xs Gd ∧ Gd H1 ∧ R (ItS xs Gd) H1
theorem pi_seqV {X : Cx} {tg e : Expr} {te : TE} (he : PE X e te) : PI X tg e (iSeqV X.K te) where
  run := fun pins s σ H R I h => by
    refine thn (he.run pins s σ H _ I h) fun u s1 got => ?_
    obtain ⟨v, H1, I1, rv, xs, Gd, k, g, q⟩ := got
    obtain ⟨S, sf, f⟩ := k.walk rv
    obtain ⟨c, hp, B, lt, _⟩ := f X rfl pins σ H1 s1 I1 g
    have nx : s1.heap.objs.size ∉ S.ex := fun z => absurd (lt _ z) (Nat.lt_irrefl _)
    refine B.iter _ _ _ _ _ _ hp ?_
    have kp : ∀ b o, s1.heap.get? b = some o → (s1.heap.push S.o).get? b = some o := fun b o e => Heap.get?_push_of_some _ e
    refine ⟨_, [s1.heap.objs.size], _, _, H1, rfl, I1.kept (t' := s1.toks) kp, turn_srcV sf f nx, ⟨S.ini _ _ (Heap.get?_push_size _ B.free), Nat.zero_le _⟩, fun b hb => ?_, q⟩
    rw [List.mem_singleton.mp hb]
    exact I1.fpOk (Nat.le_refl _) (I1.hok.fresh (Nat.le_refl _))
section
variable {G : Cn} {E : XK} {F F1 H H1 : Hp} {σ : L2.St} {ρ ρ1 : Rho} {α α1 : Al}
theorem it_src {vs : List V} {ds : List D} (r : Reps G F1 vs ds) : ItSem G F1 (ItS vs (Ex F1)) ds := fun {F' H'} i e1 e2 => by
  have l := r.length
  refine ⟨fun hi => ⟨e1.trans e2, by omega⟩, fun hi => ⟨e1.trans e2, by omega⟩, fun x H'' d hd y => ?_⟩
  obtain ⟨e, hx⟩ := y
  subst e
  obtain ⟨v, q1, q2⟩ := r.get hd
  rw [hx] at q1
  cases q1
  exact ⟨F', Ex.refl F', Ex.refl _, fun _ _ z => .inl z, e2, q2.mono e1⟩
/-- what may be walked: lists, tuples, texts, the script -/
def walkD : D → Option (List D)
  | .scr ns => some (ns.map .int)
  | d => seqD d
def iWalk (a : M) : MI := fun ρ => match a ρ with
  | some (.ok o, ρ1) => (walkD o.frz).map fun ds => (ds, ρ1)
  | _ => none
theorem Rep.walk {v : V} {d : D} {ds : List D} (h : Rep G F1 v d) (e : walkD d = some ds) : ∃ xs, SrcV G.K v xs (Ex F1) ∧ Reps G F1 xs ds := by
  cases d with
  | scr ns =>
    cases e
    obtain ⟨a, rfl, k⟩ := rep_scr h
    exact ⟨_, .inr (.inl ⟨a, rfl, k⟩), reps_ints ns⟩
  | _ => exact h.src e
theorem semI_walk {tl : TE} {a : M} (ha : Sem G E tl a) : SemI G (iSeqV G.K tl) (iWalk a) := ⟨fun {F H σ ρ α ds ρ1 R} S e k => by
  unfold iWalk at e
  split at e
  · rename_i o ρ' e1
    cases e2 : walkD o.frz with
    | none => rw [e2] at e; cases e
    | some ds' =>
      rw [e2] at e
      cases e
      refine ha.run S (Post.okEnd e1 fun v F1 H1 α1 S1 r1 T1 N1 => ?_)
      obtain ⟨xs, k1, p1⟩ := r1.walk e2
      exact ⟨xs, _, k1, S1.ex, k _ F1 H1 α1 S1 T1 N1 (it_src p1)⟩
  · cases e⟩
end
end VL

namespace VL
open PySem PySem.Spec
open PyProof.Rows L2
open Evl (Ex sz_of)

/-! ### comprehensions of two clauses -/
def lcIn (vs : List Nat) (p : Pat) (mt me : M) : List D → Rho → List D → Option (List D × Rho)
  | [], ρ, acc => some (acc, ρ)
  | d :: ds, ρ, acc => match bindP [] p d ρ with
    | none => none
    | some ρ1 => (match mt ρ1 with
      | some (.ok b, ρ2) => (match b.frz with
        | .bl true => (match me ρ2 with
          | some (.ok o, ρ3) => if acc.length < 100000 then lcIn vs p mt me ds (wipeR ρ3 vs) (acc ++ [o.frz]) else none
          | _ => none)
        | .bl false => lcIn vs p mt me ds (wipeR ρ2 vs) acc
        | _ => none)
      | _ => none)
def lcOut (vs : List Nat) (p : Pat) (mi : MI) (vs1 : List Nat) (p1 : Pat) (mt me : M) : List D → Rho → List D → Option (List D × Rho)
  | [], ρ, acc => some (acc, ρ)
  | d :: ds, ρ, acc => match bindP [] p d ρ with
    | none => none
    | some ρ1 => (match mi ρ1 with
      | none => none
      | some (es, ρ2) => if clean vs1 ρ2 = true then (match lcIn vs1 p1 mt me es ρ2 acc with
        | none => none
        | some (acc1, ρ3) => lcOut vs p mi vs1 p1 mt me ds (wipeR ρ3 vs) acc1) else none)
def mLc2 (mi : MI) (vs : List Nat) (p : Pat) (mi1 : MI) (vs1 : List Nat) (p1 : Pat) (mt me : M) : M := fun ρ => match mi ρ with
  | some (ds, ρ1) => if clean vs ρ1 = true then (lcOut vs p mi1 vs1 p1 mt me ds ρ1 []).map fun x => (.ok (.lst x.1), x.2) else none
  | none => none
section
variable {G : Cn} {E E1 E2 : XK} {F F1 F2 H H1 H2 : Hp} {σ σ1 : L2.St} {ρ ρ1 : Rho} {α α1 : Al}
/-- what is made stands beside: all that belongs to somebody, and it -/
def Besd (Dl : Addr) (β : Al) : Addr → Prop := fun a => Own β a ∨ a = Dl
theorem Stp.besd {Dl : Addr} {Fa Ha Fb Hb : Hp} (s : Stp (Own α) Fa Ha Fb Hb) : Stp (Besd Dl α) Fa Ha Fb Hb := s.weak fun _ z => .inl z
theorem New.besd {Dl : Addr} {Ha : Hp} (n : New (Own α) Ha (Own α1)) : New (Besd Dl α) Ha (Besd Dl α1) := fun a z => by
  rcases z with z | z
  · exact (n a z).elim (fun y => .inl (.inl y)) .inr
  · exact .inl (.inr z)
theorem New.less {Dl : Addr} {A : Addr → Prop} {Ha : Hp} (n : New A Ha (Besd Dl α)) (o : ∀ a, Own α1 a → Own α a) : New A Ha (Besd Dl α1) := fun a z => by
  rcases z with z | z
  · exact n a (.inl (o a z))
  · exact n a (.inr z)
theorem Pend.less {Dl : Addr} {ds : List D} (q : Pend G F H α Dl ds) (o : ∀ a, Own α1 a → Own α a) : Pend G F H α1 Dl ds := ⟨q.fF, fun z => q.no (o _ z), q.at'⟩
/-- the state, what is made, how far all has gone since F0, H0 -/
structure Mk (G : Cn) (F0 H0 : Hp) (α0 : Al) (Dl : Addr) (acc : List D) (F H : Hp) (σ : L2.St) (ρ : Rho) (α : Al) : Prop where
  ste : Ste G F H σ ρ α
  pend : Pend G F H α Dl acc
  stp : Stp (Besd Dl α0) F0 H0 F H
  new : New (Besd Dl α0) H0 (Besd Dl α)
section
variable {F0 H0 : Hp} {α0 : Al} {Dl : Addr} {acc : List D}
theorem Mk.go (m : Mk G F0 H0 α0 Dl acc F H σ ρ α) (S : Ste G F1 H1 σ1 ρ1 α1) (T : Stp (Own α) F H F1 H1) (N : New (Own α) H (Own α1)) : Mk G F0 H0 α0 Dl acc F1 H1 σ1 ρ1 α1 :=
  ⟨S, m.pend.step T N, m.stp.trans T.besd m.new, New.trans m.stp m.new N.besd⟩
theorem Mk.of (m : Mk G F0 H0 α0 Dl acc F H σ ρ α) (S : Ste G F H σ1 ρ1 α1) (o : ∀ a, Own α1 a → Own α a) : Mk G F0 H0 α0 Dl acc F H σ1 ρ1 α1 :=
  ⟨S, m.pend.less o, m.stp, m.new.less o⟩
theorem Mk.grow (m : Mk G F0 H0 α0 Dl acc F H σ ρ α) (eF : Ex F F1) (eH : Ex H H1) (nf : ∀ b o, F1 b = some o → F b = some o ∨ H b = none) (eX : Ex F1 H1) : Mk G F0 H0 α0 Dl acc F1 H1 σ ρ α :=
  m.go (m.ste.grow eF eH nf eX) (Stp.grow eF eH nf) .refl
theorem Mk.wiped (m : Mk G F0 H0 α0 Dl acc F H σ ρ α) (vs : List Nat) : ∃ α2, Mk G F0 H0 α0 Dl acc F H (L2.wipe σ vs) (wipeR ρ vs) α2 := by
  obtain ⟨α2, S, o⟩ := m.ste.wipe vs
  exact ⟨α2, m.of S o⟩
theorem Mk.add {d : D} {v : V} (m : Mk G F0 H0 α0 Dl acc F H σ ρ α) (r : Rep G F v d) : ∃ ws, H Dl = some (.lst ws) ∧ ws.length = acc.length ∧ Mk G F0 H0 α0 Dl (acc ++ [d]) F (upd H Dl (.lst (ws ++ [v]))) σ ρ α := by
  obtain ⟨ws, h1, h2, S, q⟩ := m.ste.grown m.pend r
  refine ⟨ws, h1, h2, S, q, m.stp.trans (A1 := Besd Dl α) ⟨Ex.refl F, fun b u e n => ?_, fun b u e => .inl e⟩ m.new, fun a z => ?_⟩
  · rw [upd_ne fun y => n (.inr y)]
    exact e
  · exact m.new a z
end
variable {wi wi1 : TI} {mi mi1 : MI} {g g1 : TG} {p p1 : Pat} {tt : TT} {mt me : M} {te : TE}
theorem wipe_twice {vs vs1 : List Nat} {σ2 : L2.St} (hv : ∀ j ∈ vs1, j ∈ vs) : L2.wipe (L2.wipe σ2 vs1) vs = L2.wipe σ2 vs :=
  wipe_same (wipe_length σ2 vs1) fun j hj => wipe_out fun z => hj (hv j z)
theorem sem_lc2 {vs vs1 : List Nat} (hi : SemI G wi mi) (hg : GSem G g p) (hi1 : SemI G wi1 mi1) (hg1 : GSem G g1 p1) (ht : SemT G E1 tt mt) (he : Sem G E2 te me) (hp : ∀ j ∈ p.slots, j ∈ vs) (hp1 : ∀ j ∈ p1.slots, j ∈ vs1) (hv : ∀ j ∈ vs1, j ∈ vs) :
    Sem G E (tLc2 wi g tYes wi1 g1 tt te vs vs1) (mLc2 mi vs p mi1 vs1 p1 mt me) := ⟨fun {F H σ ρ α Q} S h => by
  unfold mLc2 at h
  cases e : mi ρ with
  | none => rw [e] at h; exact h.elim
  | some x =>
    obtain ⟨ds, ρ1⟩ := x
    rw [e] at h
    try dsimp only at h
    split at h
    case isFalse => exact h.elim
    case isTrue hcl =>
    cases eL : lcOut vs p mi1 vs1 p1 mt me ds ρ1 [] with
    | none => rw [eL] at h; exact h.elim
    | some y =>
    obtain ⟨accF, ρF⟩ := y
    rw [eL] at h
    refine hi.run S e fun J F1 H1 α1 S1 T1 N1 it => ?_
    intro Dl hD
    have Sw : Ste G F1 (upd H1 Dl (.lst [])) (L2.wipe σ vs) ρ1 α1 := (S1.put hD).wiped fun j hj o q => by
      rw [clean_mem hcl hj] at q
      cases q
    have m0 : Mk G F1 (upd H1 Dl (.lst [])) α1 Dl [] F1 (upd H1 Dl (.lst [])) (L2.wipe σ vs) ρ1 α1 := ⟨Sw, ⟨S1.fresh hD, S1.notown hD, [], upd_same, Reps.nil⟩, .refl, .refl⟩
    have T1' : Stp (Own α) F H F1 (upd H1 Dl (.lst [])) := T1.trans (Ste.putStp hD (A := Own α1)) N1
    refine ⟨fun i m H' => m = ds.length - i ∧ i ≤ ds.length ∧ ∃ F' ρ' α' acc, Mk G F1 (upd H1 Dl (.lst [])) α1 Dl acc F' H' (L2.wipe σ vs) ρ' α' ∧ lcOut vs p mi1 vs1 p1 mt me (ds.drop i) ρ' acc = some (accF, ρF), ⟨ds.length, by simp, Nat.zero_le _, F1, ρ1, α1, [], m0, eL⟩, ?_⟩
    rintro i m H' ⟨rfl, hi', F', ρ', α', acc, mk, eq⟩
    obtain ⟨i1, i2, i3⟩ := it i mk.stp.exF mk.ste.ex
    by_cases hlt : i < ds.length
    case neg =>
      refine .inl ⟨i2 (by omega), ?_⟩
      rw [List.drop_of_length_le (by omega)] at eq
      cases eq
      obtain ⟨ws, hws, rws⟩ := mk.pend.at'
      have nA : New (Own α) H (Besd Dl α1) := fun a z => z.elim (fun y => N1 a y) fun y => by
        subst y
        by_cases z : Own α a
        · exact .inl z
        · cases e5 : H a with
          | none => exact .inr rfl
          | some u =>
            rw [T1.keep a u e5 z] at hD
            cases hD
      refine h (.ref Dl) F' H' α' [Dl] mk.ste.unwiped ⟨Dl, ws, rfl, rfl, mk.pend.fF, hws, rws⟩ (T1'.trans mk.stp nA) (fun a ha => by
        rw [List.mem_singleton.mp ha]
        exact mk.pend.no) fun a z => ?_
      exact New.trans T1' nA mk.new a (z.elim .inl fun y => .inr (List.mem_singleton.mp y))
    case pos =>
    refine .inr ⟨i1 hlt, fun H2 => ∃ F' ρ' α' acc, Mk G F1 (upd H1 Dl (.lst [])) α1 Dl acc F' H2 (L2.wipe σ vs) ρ' α' ∧ lcOut vs p mi1 vs1 p1 mt me (ds.drop (i + 1)) ρ' acc = some (accF, ρF), fun H2 n2 => ⟨ds.length - (i + 1), by omega, rfl, hlt, n2⟩, fun x H'' y => ?_⟩
    obtain ⟨d, hd⟩ : ∃ d, ds[i]? = some d := ⟨ds[i], by simp [hlt]⟩
    obtain ⟨F'', f1, f2, f3, f4, rx⟩ := i3 x H'' d hd y
    have mk2 := mk.grow f1 f2 f3 f4
    rw [drop_get hd] at eq
    unfold lcOut at eq
    cases e2 : bindP [] p d ρ' with
    | none => rw [e2] at eq; cases eq
    | some ρ2 =>
    rw [e2] at eq
    try dsimp only at eq
    cases e3 : mi1 ρ2 with
    | none => rw [e3] at eq; cases eq
    | some z =>
    obtain ⟨es, ρ3⟩ := z
    rw [e3] at eq
    try dsimp only at eq
    split at eq
    case isFalse => cases eq
    case isTrue hcl1 =>
    cases e4 : lcIn vs1 p1 mt me es ρ3 acc with
    | none => rw [e4] at eq; cases eq
    | some z =>
    obtain ⟨acc1, ρ4⟩ := z
    rw [e4] at eq
    try dsimp only at eq
    refine hg (pins := []) mk2.ste rx e2 fun σ2 α2 S3 o3 _ J3 => ?_
    have hw : L2.wipe σ2 vs = L2.wipe σ vs := (wipe_same J3.2 fun j hj => J3.1 j fun z => hj (hp j z)).trans (wipe_same (wipe_length σ vs) fun j hj => wipe_out hj)
    have mk3 := mk2.of S3 o3
    refine ⟨hw, ?_⟩
    unfold tYes
    dsimp only
    rw [if_pos rfl]
    refine hi1.run S3 e3 fun J1 F3 H3 α3 S4 T4 N4 it1 => ?_
    have mk4 := (mk3.go S4 T4 N4).of (S4.wiped fun j hj o q => by
      rw [clean_mem hcl1 hj] at q
      cases q) fun _ z => z
    refine ⟨fun j k H5 => k = es.length - j ∧ j ≤ es.length ∧ ∃ F5 ρ5 α5 acc5, Ex F3 F5 ∧ Mk G F1 (upd H1 Dl (.lst [])) α1 Dl acc5 F5 H5 (L2.wipe σ2 vs1) ρ5 α5 ∧ lcIn vs1 p1 mt me (es.drop j) ρ5 acc5 = some (acc1, ρ4), ⟨es.length, by simp, Nat.zero_le _, F3, ρ3, α3, acc, Ex.refl F3, mk4, e4⟩, ?_⟩
    rintro j k H5 ⟨rfl, hj', F5, ρ5, α5, acc5, ex5, mk5, eq5⟩
    obtain ⟨j1, j2, j3⟩ := it1 j ex5 mk5.ste.ex
    by_cases hl1 : j < es.length
    case neg =>
      refine .inl ⟨j2 (by omega), ?_⟩
      rw [List.drop_of_length_le (by omega)] at eq5
      cases eq5
      obtain ⟨α6, mk6⟩ := mk5.wiped vs
      rw [wipe_twice hv, hw] at mk6
      exact ⟨F5, _, α6, _, mk6, eq⟩
    case pos =>
    refine .inr ⟨j1 hl1, fun H6 => ∃ F5 ρ5 α5 acc5, Ex F3 F5 ∧ Mk G F1 (upd H1 Dl (.lst [])) α1 Dl acc5 F5 H6 (L2.wipe σ2 vs1) ρ5 α5 ∧ lcIn vs1 p1 mt me (es.drop (j + 1)) ρ5 acc5 = some (acc1, ρ4), fun H6 n6 => ⟨es.length - (j + 1), by omega, rfl, hl1, n6⟩, fun x1 H6 y1 => ?_⟩
    obtain ⟨d1, hd1⟩ : ∃ d, es[j]? = some d := ⟨es[j], by simp [hl1]⟩
    obtain ⟨F6, q1, q2, q3, q4, rx1⟩ := j3 x1 H6 d1 hd1 y1
    have mk6 := mk5.grow q1 q2 q3 q4
    have ex6 := ex5.trans q1
    rw [drop_get hd1] at eq5
    unfold lcIn at eq5
    cases e6 : bindP [] p1 d1 ρ5 with
    | none => rw [e6] at eq5; cases eq5
    | some ρ6 =>
    rw [e6] at eq5
    try dsimp only at eq5
    refine hg1 (pins := []) mk6.ste rx1 e6 fun σ3 α6 S6 o6 _ J6 => ?_
    have hw1 : L2.wipe σ3 vs1 = L2.wipe σ2 vs1 := (wipe_same J6.2 fun j hj => J6.1 j fun z => hj (hp1 j z)).trans (wipe_same (wipe_length σ2 vs1) fun j hj => wipe_out hj)
    have mk7 := mk6.of S6 o6
    refine ⟨hw1, ht.run S6 ?_⟩
    match q5 : mt ρ6, eq5 with
    | none, eq5 => cases eq5
    | some (.ex c f, _), eq5 => cases eq5
    | some (.ok b, ρ7), eq5 =>
      intro v F7 H7 α7 β S7 r7 T7 M7 N7
      obtain ⟨F8, S8, r8, T8, N8⟩ := S7.freeze r7 T7 M7 N7
      have mk8 := mk7.go S8 T8 N8
      try dsimp only at eq5
      split at eq5
      · rename_i eb
        refine ⟨true, frz_bl (H := H) r8 eb, ?_⟩
        rw [if_pos rfl]
        refine he.run S8 ?_
        match q7 : me ρ7, eq5 with
        | none, eq5 => cases eq5
        | some (.ex c f, _), eq5 => cases eq5
        | some (.ok o, ρ8), eq5 =>
          try dsimp only at eq5
          split at eq5
          case isFalse => cases eq5
          case isTrue hz =>
          intro v2 F9 H9 α9 β2 S9 r9 T9 M9 N9
          obtain ⟨FA, SA, rA, TA, NA⟩ := S9.freeze r9 T9 M9 N9
          have mkA := mk8.go SA TA NA
          obtain ⟨ws, hws, lws, mkB⟩ := mkA.add rA
          obtain ⟨αC, mkC⟩ := mkB.wiped vs1
          rw [hw1] at mkC
          exact ⟨ws, hws, by rw [lws]; exact Nat.lt_trans hz (by decide), FA, _, αC, _, (ex6.trans T8.exF).trans TA.exF, mkC, eq5⟩
      · rename_i eb
        refine ⟨false, frz_bl (H := H) r8 eb, ?_⟩
        rw [if_neg Bool.false_ne_true]
        obtain ⟨αC, mkC⟩ := mk8.wiped vs1
        rw [hw1] at mkC
        exact ⟨F8, _, αC, _, ex6.trans T8.exF, mkC, eq5⟩
      · cases eq5⟩
end
end VL

namespace VL
open PySem PySem.Spec
open PyProof.Rows L2
open Evl (Ex sz_of)

/-! ### dict comprehensions -/
def dcLoop (vs : List Nat) (p : Pat) (mt mk mv : M) : List D → Rho → List (Key × D) → Option (List (Key × D) × Rho)
  | [], ρ, acc => some (acc, ρ)
  | d :: ds, ρ, acc => match bindP [] p d ρ with
    | none => none
    | some ρ1 => (match mt ρ1 with
      | some (.ok b, ρ2) => (match b.frz with
        | .bl true => (match mk ρ2 with
          | some (.ok o, ρ3) => (match mv ρ3 with
            | some (.ok o', ρ4) => (match keyD o.frz with
              | some k => if acc.length < 100000 then dcLoop vs p mt mk mv ds (wipeR ρ4 vs) (putD acc k o'.frz) else none
              | none => none)
            | _ => none)
          | _ => none)
        | .bl false => dcLoop vs p mt mk mv ds (wipeR ρ2 vs) acc
        | _ => none)
      | _ => none)
def mDc (mi : MI) (vs : List Nat) (p : Pat) (mt mk mv : M) : M := fun ρ => match mi ρ with
  | some (ds, ρ1) => if clean vs ρ1 = true then (dcLoop vs p mt mk mv ds ρ1 []).map fun x => (.ok (.dic x.1), x.2) else none
  | none => none
section
variable {G : Cn} {E E1 E2 E3 : XK} {F F1 F2 H H1 H2 : Hp} {σ σ1 : L2.St} {ρ ρ1 : Rho} {α α1 : Al}
structure PenD (G : Cn) (F H : Hp) (α : Al) (Dl : Addr) (ds : List (Key × D)) : Prop where
  fF : F Dl = none
  no : ¬ Own α Dl
  at' : ∃ vs, H Dl = some (.dK vs) ∧ RepsK G F vs ds
/-- the state, the dict that is made, how far all has gone -/
structure MkD (G : Cn) (F0 H0 : Hp) (α0 : Al) (Dl : Addr) (acc : List (Key × D)) (F H : Hp) (σ : L2.St) (ρ : Rho) (α : Al) : Prop where
  ste : Ste G F H σ ρ α
  pend : PenD G F H α Dl acc
  stp : Stp (Besd Dl α0) F0 H0 F H
  new : New (Besd Dl α0) H0 (Besd Dl α)
section
variable {F0 H0 : Hp} {α0 : Al} {Dl : Addr} {acc : List (Key × D)}
theorem MkD.go (m : MkD G F0 H0 α0 Dl acc F H σ ρ α) (S : Ste G F1 H1 σ1 ρ1 α1) (T : Stp (Own α) F H F1 H1) (N : New (Own α) H (Own α1)) : MkD G F0 H0 α0 Dl acc F1 H1 σ1 ρ1 α1 := by
  obtain ⟨kvs, h1, h2⟩ := m.pend.at'
  have nF : F1 Dl = none := by
    cases e : F1 Dl with
    | none => rfl
    | some u =>
      rcases T.newF Dl u e with z | z | z
      · rw [m.pend.fF] at z; cases z
      · rw [h1] at z; cases z
      · exact absurd z m.pend.no
  have nO : ¬ Own α1 Dl := fun z => by
    rcases N Dl z with y | y
    · exact m.pend.no y
    · rw [h1] at y; cases y
  exact ⟨S, ⟨nF, nO, kvs, T.keep _ _ h1 m.pend.no, h2.mono T.exF⟩, m.stp.trans T.besd m.new, New.trans m.stp m.new N.besd⟩
theorem MkD.of (m : MkD G F0 H0 α0 Dl acc F H σ ρ α) (S : Ste G F H σ1 ρ1 α1) (o : ∀ a, Own α1 a → Own α a) : MkD G F0 H0 α0 Dl acc F H σ1 ρ1 α1 :=
  ⟨S, ⟨m.pend.fF, fun z => m.pend.no (o _ z), m.pend.at'⟩, m.stp, m.new.less o⟩
theorem MkD.wiped (m : MkD G F0 H0 α0 Dl acc F H σ ρ α) (vs : List Nat) : ∃ α2, MkD G F0 H0 α0 Dl acc F H (L2.wipe σ vs) (wipeR ρ vs) α2 := by
  obtain ⟨α2, S, o⟩ := m.ste.wipe vs
  exact ⟨α2, m.of S o⟩
theorem MkD.add {k : Key} {d : D} {v : V} (m : MkD G F0 H0 α0 Dl acc F H σ ρ α) (r : Rep G F v d) : ∃ kvs, H Dl = some (.dK kvs) ∧ kvs.length = acc.length ∧ MkD G F0 H0 α0 Dl (putD acc k d) F (upd H Dl (.dK (putK kvs k v))) σ ρ α := by
  obtain ⟨kvs, h1, h2⟩ := m.pend.at'
  have S := m.ste
  have S' : Ste G F (upd H Dl (.dK (putK kvs k v))) σ ρ α := by
    refine ⟨S.ex.mut m.pend.fF, S.len, fun i o e => ?_, S.off, S.dis⟩
    obtain ⟨u, h3, r3⟩ := S.slot i o e
    refine ⟨u, h3, r3.move (Ex.refl F) (fun b hb => (r3.mem b hb).1) fun b hb y hy => ?_⟩
    have ne : b ≠ Dl := fun z => m.pend.no (z ▸ ⟨i, hb⟩)
    rw [upd_ne ne]
    exact hy
  refine ⟨kvs, h1, h2.length, S', ⟨m.pend.fF, m.pend.no, _, upd_same, h2.put r⟩, m.stp.trans (A1 := Besd Dl α) ⟨Ex.refl F, fun b u e n => ?_, fun b u e => .inl e⟩ m.new, fun a z => m.new a z⟩
  rw [upd_ne fun y => n (.inr y)]
  exact e
end
variable {wi : TI} {mi : MI} {g : TG} {p : Pat} {tt : TT} {mt mk mv : M} {tk tv : TE}
theorem sem_dc {vs : List Nat} (hi : SemI G wi mi) (hg : GSem G g p) (ht : SemT G E1 tt mt) (hk : Sem G E2 tk mk) (hv : Sem G E3 tv mv) (hp : ∀ j ∈ p.slots, j ∈ vs) :
    Sem G E (tDc wi g tt tk tv vs) (mDc mi vs p mt mk mv) := ⟨fun {F H σ ρ α Q} S h => by
  unfold mDc at h
  cases e : mi ρ with
  | none => rw [e] at h; exact h.elim
  | some x =>
    obtain ⟨ds, ρ1⟩ := x
    rw [e] at h
    try dsimp only at h
    split at h
    case isFalse => exact h.elim
    case isTrue hcl =>
    cases eL : dcLoop vs p mt mk mv ds ρ1 [] with
    | none => rw [eL] at h; exact h.elim
    | some y =>
    obtain ⟨accF, ρF⟩ := y
    rw [eL] at h
    refine hi.run S e fun J F1 H1 α1 S1 T1 N1 it => ?_
    intro Dl hD
    have Sw : Ste G F1 (upd H1 Dl (.dK [])) (L2.wipe σ vs) ρ1 α1 := (S1.put hD).wiped fun j hj o q => by
      rw [clean_mem hcl hj] at q
      cases q
    have m0 : MkD G F1 (upd H1 Dl (.dK [])) α1 Dl [] F1 (upd H1 Dl (.dK [])) (L2.wipe σ vs) ρ1 α1 := ⟨Sw, ⟨S1.fresh hD, S1.notown hD, [], upd_same, RepsK.nil⟩, .refl, .refl⟩
    have T1' : Stp (Own α) F H F1 (upd H1 Dl (.dK [])) := T1.trans (Ste.putStp hD (A := Own α1)) N1
    refine ⟨fun i m H' => m = ds.length - i ∧ i ≤ ds.length ∧ ∃ F' ρ' α' acc, MkD G F1 (upd H1 Dl (.dK [])) α1 Dl acc F' H' (L2.wipe σ vs) ρ' α' ∧ dcLoop vs p mt mk mv (ds.drop i) ρ' acc = some (accF, ρF), ⟨ds.length, by simp, Nat.zero_le _, F1, ρ1, α1, [], m0, eL⟩, ?_⟩
    rintro i m H' ⟨rfl, hi', F', ρ', α', acc, mm, eq⟩
    obtain ⟨i1, i2, i3⟩ := it i mm.stp.exF mm.ste.ex
    by_cases hlt : i < ds.length
    case neg =>
      refine .inl ⟨i2 (by omega), ?_⟩
      rw [List.drop_of_length_le (by omega)] at eq
      cases eq
      obtain ⟨ws, hws, rws⟩ := mm.pend.at'
      have nA : New (Own α) H (Besd Dl α1) := fun a z => z.elim (fun y => N1 a y) fun y => by
        subst y
        by_cases z : Own α a
        · exact .inl z
        · cases e5 : H a with
          | none => exact .inr rfl
          | some u =>
            rw [T1.keep a u e5 z] at hD
            cases hD
      refine h (.ref Dl) F' H' α' [Dl] mm.ste.unwiped ⟨Dl, ws, rfl, rfl, mm.pend.fF, hws, rws⟩ (T1'.trans mm.stp nA) (fun a ha => by
        rw [List.mem_singleton.mp ha]
        exact mm.pend.no) fun a z => ?_
      exact New.trans T1' nA mm.new a (z.elim .inl fun y => .inr (List.mem_singleton.mp y))
    case pos =>
    refine .inr ⟨i1 hlt, fun H2 => ∃ F' ρ' α' acc, MkD G F1 (upd H1 Dl (.dK [])) α1 Dl acc F' H2 (L2.wipe σ vs) ρ' α' ∧ dcLoop vs p mt mk mv (ds.drop (i + 1)) ρ' acc = some (accF, ρF), fun H2 n2 => ⟨ds.length - (i + 1), by omega, rfl, hlt, n2⟩, fun x H'' y => ?_⟩
    obtain ⟨d, hd⟩ : ∃ d, ds[i]? = some d := ⟨ds[i], by simp [hlt]⟩
    obtain ⟨F'', f1, f2, f3, f4, rx⟩ := i3 x H'' d hd y
    have mm2 := mm.go (mm.ste.grow f1 f2 f3 f4) (Stp.grow f1 f2 f3) .refl
    rw [drop_get hd] at eq
    unfold dcLoop at eq
    cases e2 : bindP [] p d ρ' with
    | none => rw [e2] at eq; cases eq
    | some ρ2 =>
    rw [e2] at eq
    try dsimp only at eq
    refine hg (pins := []) mm2.ste rx e2 fun σ2 α2 S3 o3 _ J3 => ?_
    have hw : L2.wipe σ2 vs = L2.wipe σ vs := (wipe_same J3.2 fun j hj => J3.1 j fun z => hj (hp j z)).trans (wipe_same (wipe_length σ vs) fun j hj => wipe_out hj)
    have mm3 := mm2.of S3 o3
    refine ⟨hw, ht.run S3 ?_⟩
    match q5 : mt ρ2, eq with
    | none, eq => cases eq
    | some (.ex c f, _), eq => cases eq
    | some (.ok b, ρ3), eq =>
      intro v F4 H4 α4 β S4 r4 T4 M4 N4
      obtain ⟨F5, S5, r5, T5, N5⟩ := S4.freeze r4 T4 M4 N4
      have mm5 := mm3.go S5 T5 N5
      try dsimp only at eq
      split at eq
      · rename_i eb
        refine ⟨true, frz_bl (H := H) r5 eb, ?_⟩
        rw [if_pos rfl]
        refine hk.run S5 ?_
        match q6 : mk ρ3, eq with
        | none, eq => cases eq
        | some (.ex c f, _), eq => cases eq
        | some (.ok o, ρ4), eq =>
          intro v2 F6 H6 α6 β2 S6 r6 T6 M6 N6
          obtain ⟨F7, S7, r7, T7, N7⟩ := S6.freeze r6 T6 M6 N6
          have mm7 := mm5.go S7 T7 N7
          try dsimp only at eq
          refine hv.run S7 ?_
          match q7 : mv ρ4, eq with
          | none, eq => cases eq
          | some (.ex c f, _), eq => cases eq
          | some (.ok o', ρ5), eq =>
            intro v3 F8 H8 α8 β3 S8 r8 T8 M8 N8
            obtain ⟨F9, S9, r9, T9, N9⟩ := S8.freeze r8 T8 M8 N8
            have mm9 := mm7.go S9 T9 N9
            try dsimp only at eq
            cases ek : keyD o.frz with
            | none => rw [ek] at eq; cases eq
            | some k =>
            rw [ek] at eq
            try dsimp only at eq
            split at eq
            case isFalse => cases eq
            case isTrue hz =>
            obtain ⟨kvs, hkv, lkv, mmA⟩ := mm9.add (k := k) r9
            obtain ⟨αC, mmC⟩ := mmA.wiped vs
            rw [hw] at mmC
            exact ⟨kvs, k, key_x (F := F7) (H := H6) (.inl r7) ek, hkv, by rw [lkv]; exact Nat.lt_trans hz (by decide), F9, _, αC, _, mmC, eq⟩
      · rename_i eb
        refine ⟨false, frz_bl (H := H) r5 eb, ?_⟩
        rw [if_neg Bool.false_ne_true]
        obtain ⟨αC, mmC⟩ := mm5.wiped vs
        rw [hw] at mmC
        exact ⟨F5, _, αC, _, mmC, eq⟩
      · cases eq⟩
end
end VL

namespace PySem
open Sem (wp)
/-- the two objects that enumerate(v) makes -/
abbrev enObj (it : Addr) : Obj := { cls := .type "enumerate", data := .fields #[.none, .bool false, .ref it, rawInt 0, .none, .none] }
theorem vl_enum_new {v : Value} {o : Obj} {c : Heap → Prop} (B : Begins v o c) :
    Meets (Builtin.«enumerate.__new__» ⟨[.type "enumerate", v], []⟩) (fun _ R s => c s.heap ∧ R (.ok (.ret (.ref (s.heap.push o).objs.size))) { s with heap := (s.heap.push o).push (enObj s.heap.objs.size) }) := by
  refine .of_wp fun prog w A R s got => ?_
  obtain ⟨hp, gens, dr, tk, os⟩ := s
  obtain ⟨c0, fin⟩ := got
  have known := sub_enumerate
  have first : ∀ {B' : Around} {E : Value → Shared → Prop} {Q : Value → Shared → Prop}, Q (.ref hp.objs.size) ⟨hp.push o, gens, dr, tk, os⟩ → wpAny (model prog w) B' (pyIter v) Q E ⟨hp, gens, dr, tk, os⟩ := fun q => B.iter prog w _ _ ⟨hp, gens, dr, tk, os⟩ _ c0 q
  wp_walk using first
  refine wpAny_stack_any fun frames => wpAny_pure ?_
  split
  · rename_i kind _ _ _ _ _
    cases (kind == Value.type "enumerate") <;> (wp_walk using first; exact ⟨_, rfl, fin⟩)
  · wp_walk using first
    exact ⟨_, rfl, fin⟩
theorem vl_call_enum {prog : Program} {w : World} {A : Around} {E : Value → Shared → Prop} {s : Shared} {v : Value} {o : Obj} {c : Heap → Prop} {Q : Value → Shared → Prop} (B : Begins v o c) (h1 : c s.heap)
    (k : ∀ h', IsEnum h' (s.heap.objs.size + 1) s.heap.objs.size 0 .none → h'.get? s.heap.objs.size = some o → (∀ b o, s.heap.get? b = some o → h'.get? b = some o) → Q (.ref (s.heap.objs.size + 1)) { s with heap := h' }) :
    wpAny (model prog w) A (call (.type "enumerate") [v]) Q E s := by
  have sz : (s.heap.push o).objs.size = s.heap.objs.size + 1 := Heap.size_push ..
  have at1 : ((s.heap.push o).push (enObj s.heap.objs.size)).get? (s.heap.objs.size + 1) = some (enObj s.heap.objs.size) := by
    rw [← sz]
    exact Heap.get?_push_size _ rfl
  have at0 : ((s.heap.push o).push (enObj s.heap.objs.size)).get? s.heap.objs.size = some o := Heap.get?_push_of_some _ (Heap.get?_push_size _ B.free)
  have fin := k _ at1 at0 fun b u e => Heap.get?_push_of_some _ (Heap.get?_push_of_some _ e)
  refine callType_new F.called_enumerate (by decide) (F.typeCall_enumerate_1 _) (F.newCall_enumerate_1 _) (fun obj => F.args_object_init_2 obj _) F.entry_enumerate_new (vl_enum_new B) ⟨h1, ?_⟩
  rw [sz]
  exact ⟨⟨_, at1, rfl⟩, fin⟩
end PySem
namespace VL
open PySem PySem.Spec
open PyProof.Rows L2
open Evl (Ex sz_of)
/-! ### enumerate of one source, walked: by the library's GoesN.enumFrom -/
def eAt (S : Src) (n : Nat) (N : Addr) (i : Nat) (h : Heap) : Prop := (∃ old, IsEnum h (N + 1) N (0 + (i : Int)) old) ∧ S.ci N i h ∧ i ≤ n
theorem eWalk {X : Cx} {elts : List Expr} {kk : Nat} {tpos : Pos} {S : Src} {u : Value} {xs : List V} {Gd : Hp → Prop} {N : Addr} {pins : List (Addr × Obj)} {σ : L2.St} {H : Hp} {s : Shared} (f : SrcIn X S u xs Gd) (lt : ∀ b ∈ S.ex, b < N) (hc : X.calm = true) (I : Inv X pins σ H s) (g : Gd H) :
    ∃ c : Heap → Prop, c s.heap ∧ GoesN X.prog X.w X.A (.Tuple elts kk tpos) (N + 1) ((N + 1) :: N :: S.ex) [N + 1, N] xs.length
      (fun i h₀ v h => ∃ T t x, v = .ref T ∧ h₀.objs.size ≤ T ∧ (∃ d, xs[i]? = some d ∧ RelV d x) ∧ h.IsTuple T #[.int (0 + (i : Int)) t, x]) (fun i h => (∃ old, IsEnum h (N + 1) N (0 + (i : Int)) old) ∧ S.ci N i h ∧ c h) := by
  obtain ⟨c, hp, _, _, dr⟩ := f pins σ H s I g
  have hd : X.A.in1.handled = none := I.ok.hd hc
  have n1 : N ∉ S.ex := fun z => absurd (lt N z) (Nat.lt_irrefl _)
  have n2 : N + 1 ∉ N :: S.ex := fun z => by
    rcases List.mem_cons.mp z with z | z
    · exact absurd z (Nat.succ_ne_self N)
    · exact absurd (lt _ z) (Nat.not_lt.mpr (Nat.le_succ N))
  exact ⟨c, hp, GoesN.enumFrom 0 (dr X.A.in1 N hd n1) (N + 1) (Nat.succ_ne_self N) n2 List.mem_cons_self⟩
theorem turn_enumV {P : Program} {w : World} {K : PySem.W.Frag} {elts : List Expr} {kk : Nat} {tpos : Pos} {S : Src} {u : Value} {xs : List V} {Gd : Hp → Prop} {N : Addr} (f : ∀ X : Cx, X.K = K → SrcIn X S u xs Gd) (lt : ∀ b ∈ S.ex, b < N) :
    Turn P w K (.Tuple elts kk tpos) (ItE xs Gd) [N + 1, N] (N + 1) (eAt S xs.length N) where
  mem := List.mem_cons_self
  obj := fun i h t b hb => by
    obtain ⟨⟨old, z⟩, z2, _⟩ := t
    simp only [List.mem_cons, List.not_mem_nil, or_false] at hb
    rcases hb with q | q <;> subst q
    · exact ⟨_, z, fun _ x => nomatch x⟩
    · exact S.liv _ _ _ z2
  keep := fun i h h' t k => by
    obtain ⟨⟨old, z⟩, z2, z3⟩ := t
    exact ⟨⟨old, k _ (by simp) _ z⟩, S.mov h h' N i z2 (k N (by simp)), z3⟩
  self := fun A i s Q E t q => by
    obtain ⟨⟨old, z⟩, _⟩ := t
    exact wpAny_pyIter_enum z q
  item := by
    intro X e1 e2 e3 hc i pins s σ H E I ok t go
    subst e1 e2 e3
    obtain ⟨c, hp, W⟩ := eWalk (elts := elts) (kk := kk) (tpos := tpos) (f X rfl) lt hc I go.1
    obtain ⟨⟨old, z1⟩, z2, z3⟩ := t
    obtain ⟨oN, hN, _⟩ := S.liv _ _ _ z2
    refine W.goes i s _ E go.2 ⟨⟨old, z1⟩, z2, hp⟩ fun v h' tk y st kp _ => ?_
    obtain ⟨T, tt, a, ev, hT, ⟨x, hx, rx⟩, tp⟩ := y
    subst ev
    obtain ⟨y1, y2, _⟩ := st
    have e0 : (0 : Int) + (i : Int) = (i : Nat) := by omega
    rw [e0] at tp
    have ob : ObjOk X.prog X.w (upd H T (.tup [.int (i : Nat), x])) h' T (.tup [.int (i : Nat), x]) := ⟨by rw [sizeLine_eq]; show 2 ≤ 16777216; decide, [.int (i : Nat) tt, a], .cons ⟨tt, rfl⟩ (.cons rx .nil), tp⟩
    refine ⟨.ref T, _, I.turnedNew (t' := tk) (ch := [N + 1, N]) kp ok hT ob, rfl, ⟨T, x, rfl, I.hok.fresh hT, rfl, hx⟩, ⟨y1, y2, go.2⟩, fun b hb => ?_⟩
    have hb' : b < s.heap.objs.size := by
      simp only [List.mem_cons, List.not_mem_nil, or_false] at hb
      rcases hb with q | q <;> subst q
      · exact Heap.lt_size z1
      · exact Heap.lt_size hN
    have ne : b ≠ T := Nat.ne_of_lt (Nat.lt_of_lt_of_le hb' hT)
    rw [upd_ne ne]
    exact (ok b hb).1
  done := by
    intro X e1 e2 e3 hc i pins s σ H E I ok t stp
    subst e1 e2 e3
    obtain ⟨c, hp, W⟩ := eWalk (elts := elts) (kk := kk) (tpos := tpos) (f X rfl) lt hc I stp.1
    obtain ⟨z1, z2, z3⟩ := t
    have hi : i = xs.length := Nat.le_antisymm z3 stp.2
    rw [hi] at z1 z2
    exact W.stops s _ E ⟨z1, z2, hp⟩ fun h' tk kp _ => I.turnedL (t' := tk) (ch := [N + 1, N]) kp ok
theorem pi_enumV {X : Cx} {a : Expr} {ta : TA} {p pos tpos : Pos} {elts : List Expr} {kk : Nat} (hg : Gl X "enumerate") (hm : X.mg "enumerate" = none) (ha : PA X [a] ta) (h1 : starEach [a] X.env = (false, eval a X.env) :: starEach [] X.env := by rfl) (h2 : (backTo pos (starEach [] X.env)).any (·.1) = false := by rfl) :
    PI X (.Tuple elts kk tpos) (.Call (.Name "enumerate" p) [a] [] pos) (iEnumV X.K ta) where
  run := fun pins s σ H R I h => by
    have args := ha.run pos pins s σ H _ I h
    refine Call_ (ld_blt I hg hm boot_enumerate ?_)
    refine callWith_type1 (thn args fun us s1 got => ?_) h1 h2
    obtain ⟨vs, H1, I1, rel, v, xs, Gd, ev, k1, g, q⟩ := got
    subst ev
    obtain ⟨c, eu, rc⟩ := vals1 rel
    subst eu
    obtain ⟨S, f⟩ := k1.src rc
    obtain ⟨hc, p1, B, lt, _⟩ := f X rfl pins σ H1 s1 I1 g
    refine vl_call_enum B p1 fun h' z1 i1 kp => wpAny_pyIter_enum z1 ?_
    refine ⟨_, [s1.heap.objs.size + 1, s1.heap.objs.size], eAt S xs.length s1.heap.objs.size, _, H1, rfl, I1.kept (t' := s1.toks) kp, turn_enumV f lt, ⟨⟨_, z1⟩, S.ini _ _ i1, Nat.zero_le _⟩, fun b hb => ?_, q⟩
    have hb' : s1.heap.objs.size ≤ b := by
      simp only [List.mem_cons, List.not_mem_nil, or_false] at hb
      rcases hb with z | z <;> rw [z]
      · exact Nat.le_succ _
      · exact Nat.le_refl _
    exact I1.fpOk hb' (I1.hok.fresh hb')
end VL

namespace VL
open PySem PySem.Spec
open PyProof.Rows L2
open Evl (Ex sz_of)

/-! ### sorted, of ints -/
def setIn (x : Int) : List Int → List Int
  | [] => [x]
  | y :: r => if x ≤ y then x :: y :: r else y :: setIn x r
def isort : List Int → List Int
  | [] => []
  | x :: r => setIn x (isort r)
theorem setIn_perm (x : Int) : ∀ l, (setIn x l).Perm (x :: l)
  | [] => .refl _
  | y :: r => by
    unfold setIn
    split
    · exact .refl _
    · exact ((setIn_perm x r).cons y).trans (.swap x y r)
theorem isort_perm : ∀ l, (isort l).Perm l
  | [] => .refl _
  | x :: r => (setIn_perm x _).trans ((isort_perm r).cons x)
theorem setIn_up (x : Int) : ∀ l : List Int, l.Pairwise (· ≤ ·) → (setIn x l).Pairwise (· ≤ ·)
  | [], _ => by simp [setIn]
  | y :: r, h => by
    have h' := List.pairwise_cons.mp h
    unfold setIn
    split
    · rename_i le
      refine List.pairwise_cons.mpr ⟨fun z hz => ?_, h⟩
      rcases List.mem_cons.mp hz with q | q
      · rw [q]; exact le
      · exact Int.le_trans le (h'.1 z q)
    · rename_i gt
      refine List.pairwise_cons.mpr ⟨fun z hz => ?_, setIn_up x r h'.2⟩
      rcases List.mem_cons.mp ((setIn_perm x r).mem_iff.mp hz) with q | q
      · rw [q]; omega
      · exact h'.1 z q
theorem isort_up : ∀ l, (isort l).Pairwise (· ≤ ·)
  | [] => .nil
  | x :: r => setIn_up x _ (isort_up r)
theorem hu65_of {A : Around} {k : Nat} (r : L2.Room k A) : A.units + 65 < cLine := by have := r.un; omega
theorem isort_only {a l : List Int} (p : a.Perm l) (u : a.Pairwise (· ≤ ·)) : a = isort l := PySem.W.ksm_same (p.trans (isort_perm l).symm) u (isort_up l)
def intsD : List D → Option (List Int)
  | [] => some []
  | .int i :: r => (intsD r).map (i :: ·)
  | _ => none
def fSortI : List D → Option O
  | [.lst ds] => (intsD ds).map fun ns => .lst ((isort ns).map .int)
  | [.tup ds] => none
  | _ => none
section
variable {G : Cn} {F H : Hp} {σ : L2.St} {ρ : Rho} {α : Al}
theorem intsD_reps : ∀ {vs : List V} {ds : List D} {ns : List Int}, Reps G F vs ds → intsD ds = some ns → vs = ns.map V.int
  | _, [], ns, h, e => by
    cases e
    rw [h.of_nil]
    rfl
  | _, d :: ds, ns, h, e => by
    obtain ⟨v, r, rfl, h1, h2⟩ := h.of_cons
    cases d <;> try cases e
    rename_i i
    unfold intsD at e
    cases q : intsD ds with
    | none => rw [q] at e; cases e
    | some ms =>
      rw [q] at e
      cases e
      rw [intsD_reps h2 q, h1.toInt]
      rfl
theorem cs_sortI : CSem G (rSortedI G.K) fSortI := fun {E F H σ ρ α Q vs ds} S hv h => by
  unfold fSortI at h
  split at h
  · rename_i ds0
    obtain ⟨v, rfl, hx⟩ := hv.one
    obtain ⟨a, ws, rfl, h1, h2⟩ := hx.l S.ex
    cases q : intsD ds0 with
    | none => rw [q] at h; exact h.elim
    | some ns =>
      rw [q] at h
      refine ⟨a, ns, rfl, by rw [← intsD_reps h2 q]; exact SqL.of h1, fun ns' p pm up hp => ?_⟩
      rw [isort_only pm up]
      exact Post.newL h S hp (reps_ints (isort ns))
  · exact h.elim
  · exact h.elim
end
/-! ### the place of an item -/
def idxOf : List PyData → PyData → Option Nat
  | [], _ => none
  | z :: r, p => if PyData.eqv z p = true then some 0 else (idxOf r p).map (· + 1)
theorem idxOf_some : ∀ {l : List PyData} {p : PyData} {j : Nat}, idxOf l p = some j → (∃ z, l[j]? = some z ∧ PyData.eqv z p = true) ∧ ∀ (m : Nat) (z' : PyData), m < j → l[m]? = some z' → PyData.eqv z' p = false
  | [], _, _, h => by cases h
  | z :: r, p, j, h => by
    unfold idxOf at h
    split at h
    · rename_i e
      cases h
      exact ⟨⟨z, rfl, e⟩, fun m z' hm => absurd hm (Nat.not_lt_zero m)⟩
    · rename_i e
      cases q : idxOf r p with
      | none => rw [q] at h; cases h
      | some i =>
        rw [q] at h
        cases h
        obtain ⟨⟨y, hy, ey⟩, no⟩ := idxOf_some q
        refine ⟨⟨y, by simpa using hy, ey⟩, fun m z' hm hz => ?_⟩
        cases m with
        | zero =>
          have : z = z' := by simpa using hz
          rw [← this]
          simpa using e
        | succ m =>
          have hm' : m + 1 < i + 1 := hm
          exact no m z' (by omega) (by simpa using hz)
def idxD (x y : D) : Option O := match toPy x, toPy y with
  | some (.list ps), some p => if (SeqAt.shaped (.list ps) && SeqAt.shaped p) = true then (idxOf ps p).map fun j => .val (.int (j : Nat)) else none
  | _, _ => none
def mIdx (a b : M) : M := fun ρ => bnd (a ρ) fun o ρ1 => match o.frz with
  | .lst _ => bnd (b ρ1) fun o' ρ2 => (idxD o.frz o'.frz).map fun x => (.ok x, ρ2)
  | _ => none
section
variable {G : Cn} {E : XK} {ta tb : TE} {ma mb : M}
theorem sem_idx (ha : Sem G E ta ma) (hb : Sem G E tb mb) : Sem G E (tBM G.K "list" (rIndexD G.K) ta (tCons tb tNil)) (mIdx ma mb) := ⟨fun {F H σ ρ α Q} S h => by
  unfold mIdx at h
  refine ha.run S (Post.to h fun o ρ1 v F1 H1 α1 S1 r1 T1 N1 h1 => ?_)
  split at h1
  · rename_i ds0 e0
    have r1' := r1
    rw [e0] at r1'
    unfold Rep at r1'
    obtain ⟨a, vs, ev, h2, h3⟩ := r1'
    subst ev
    refine ⟨.inl ⟨rfl, vs, SqL.of (S1.ex _ _ h2)⟩, hb.run S1 (Post.to (Post.shift T1 N1 h1) fun o2 ρ2 v2 F2 H2 α2 S2 r2 T2 N2 h4 => ?_)⟩
    unfold idxD at h4
    split at h4
    · rename_i ps p e1 e2
      split at h4
      · rename_i sh
        rw [Bool.and_eq_true] at sh
        cases ej : idxOf ps p with
        | none => rw [ej] at h4; exact h4.elim
        | some j =>
          rw [ej] at h4
          obtain ⟨⟨z, hz, ez⟩, no⟩ := idxOf_some ej
          exact ⟨a, v2, p, ps, j, z, rfl, rfl, toPy_dp S2.ex _ (r1.mono T2.exF) e1, toPy_dp S2.ex _ r2 e2, sh.1, sh.2, hz, ez, no, Post.val (Post.shift T2 N2 h4) S2 Rep.ofInt⟩
      · exact h4.elim
    · exact h4.elim
  · exact h1.elim⟩
end
end VL

namespace VL
open PySem PySem.Spec
open PyProof.Rows L2
open Evl (Ex sz_of)

/-! ### list(range(n)) -/
def mLR1 (a : M) : M := fun ρ => bnd (a ρ) fun o ρ1 => match o.frz with
  | .int n => if -1000000 ≤ n ∧ n ≤ 100000 then some (.ok (.lst (range 0 n.toNat)), ρ1) else none
  | _ => none
section
variable {G : Cn} {E : XK} {F H : Hp} {σ : L2.St} {ρ : Rho} {α : Al} {ta : TE} {ma : M}
theorem reps_rg (n : Int) : Reps G F (rgV 0 n) (range 0 n.toNat) := by
  have e : rgV 0 n = (List.range n.toNat).map fun (i : Nat) => V.int (0 + (i : Int)) := by
    unfold rgV
    rw [Int.sub_zero]
  rw [e]
  unfold range
  generalize List.range n.toNat = l
  induction l with
  | nil => exact Reps.nil
  | cons i l ih => exact Reps.cons Rep.ofInt ih
theorem sem_lr1 (ha : Sem G E ta ma) : Sem G E (tLstRg (tRg1 ta)) (mLR1 ma) := ⟨fun {F H σ ρ α Q} S h =>
  ha.run S (Post.to h fun o ρ1 v F1 H1 α1 S1 r1 T1 N1 h1 => by
    split at h1
    · rename_i n e
      rw [e] at r1
      split at h1
      · rename_i hn
        have ok : RgOk 0 n := ⟨by decide, by decide, by omega, by omega, by omega⟩
        exact ⟨n, r1.toInt, ok, fun q hq => Post.newL (Post.shift T1 N1 h1) S1 hq (reps_rg n)⟩
      · exact h1.elim
    · exact h1.elim)⟩
end
/-! ### a def's promise at arguments that are data -/
section
variable {G : Cn} {E : XK} {F1 H1 : Hp} {σ : L2.St} {ρ1 : Rho} {α1 : Al} {fn : Fn} {n : Nat}
def onData (fn : Fn) (ds : List D) (ρ : Rho) : Option (Res × Rho) := match fn (ds.map .val) with
  | some (r, _) => some (r, ρ)
  | none => none
theorem spF_data {E1 : XK} {vs : List V} {ds : List D} {Q : VK} (hE : E1 = E ∨ ∀ os c f os', fn os ≠ some (.ex c f, os')) (hl : ∀ os r, fn os = some r → os.length = n) (S1 : Ste G F1 H1 σ ρ1 α1) (sr : Reps G F1 vs ds)
    (h2 : Post G E F1 H1 σ α1 (onData fn ds ρ1) Q) : spF G fn n vs H1 Q E1 := by
  unfold onData at h2
  match q : fn (ds.map O.val), h2 with
  | none, h2 => exact h2.elim
  | some (r, os'), h2 =>
    refine ⟨by rw [sr.length, ← hl _ _ q, List.length_map], F1, ds.map O.val, fun _ => [], Ste.args S1.ex sr, ?_⟩
    rw [q]
    have ow : ∀ a, ¬ Own (fun _ => ([] : List Addr)) a := fun a ⟨_, z⟩ => nomatch z
    match r, h2 with
    | .ok o, h2 =>
      exact fun v F' H' α' β S' R' T' M' N' => by
        have kp : Ex H1 H' := fun b u hb => T'.keep b u hb (ow b)
        have nf : ∀ b u, F' b = some u → F1 b = some u ∨ H1 b = none := fun b u hb => (T'.newF b u hb).elim .inl fun z => z.elim .inr fun y => (ow b y).elim
        refine h2 v F' H' α1 β (S1.grow T'.exF kp nf S'.ex) R' (T'.weak fun a z => (ow a z).elim) (fun a ha z => ?_) fun a z => ?_
        · rcases N' a (.inr ha) with y | y
          · exact ow a y
          · exact S1.notown y z
        · rcases z with z | z
          · exact .inl z
          · rcases N' a (.inr z) with y | y
            · exact (ow a y).elim
            · exact .inr y
    | .ex c none, h2 =>
      rcases hE with rfl | hE
      · exact fun F' H' T' => h2 F' H' (T'.weak fun a z => (ow a z).elim)
      · exact (hE _ _ _ _ q).elim
    | .ex c (some fs), h2 =>
      rcases hE with rfl | hE
      · exact fun F' H' dd fvs T' => h2 F' H' dd fvs (T'.weak fun a z => (ow a z).elim)
      · exact (hE _ _ _ _ q).elim
end
/-! ### o.m(..), o.p of own classes -/
def mMeth (c : Nat) (m : Str) (fn : Fn) (a : M) (ms : MA) : M := fun ρ => bnd (a ρ) fun o ρ1 => match o.frz with
  | .ins c' fs => if c' = c ∧ fs.lookup m = none then bnd (ms ρ1) fun ais ρ2 => (match dsOnly ais with
    | some ds => onData fn (.ins c' fs :: ds) ρ2
    | none => none) else none
  | _ => none
def mProp (c : Nat) (fn : Fn) (a : M) : M := fun ρ => bnd (a ρ) fun o ρ1 => match o.frz with
  | .ins c' fs => if c' = c then onData fn [.ins c' fs] ρ1 else none
  | _ => none
section
variable {G : Cn} {E E1 : XK} {ta : TE} {ma : M} {t : TA} {ms : MA} {fn : Fn} {n c : Nat} {m : Str}
theorem sem_meth (hE : E1 = E ∨ ∀ os c f os', fn os ≠ some (.ex c f, os')) (hl : ∀ os r, fn os = some r → os.length = n) (ha : Sem G E ta ma) (ht : SemA G E t ms) : Sem G E (tMeth (G.cls c) m (spF G fn n) [] E1 ta t) (mMeth c m fn ma ms) := ⟨fun {F H σ ρ α Q} S h =>
  ha.run S (Post.to h fun o ρ1 v F1 H1 α1 S1 r1 T1 N1 h1 => by
    split at h1
    · rename_i c' fs e
      rw [e] at r1
      split at h1
      · rename_i hc
        obtain ⟨rfl, hm⟩ := hc
        have r1' := r1
        unfold Rep at r1
        obtain ⟨a, dx, fvs, ev, e1, e2⟩ := r1
        refine ⟨a, dx, fvs, ev, S1.ex _ _ e1, repsF_none e2 hm, ht.run S1 (PostA.to (Post.shift T1 N1 h1) fun xs ρ2 vs F2 H2 α2 S2 r2 T2 N2 h2 => ?_)⟩
        rw [List.append_nil]
        split at h2
        · rename_i ds ed
          exact spF_data hE hl S2 (Reps.cons (r1'.mono T2.exF) (dsOnly_r r2 ed)) (Post.shift T2 N2 h2)
        · exact h2.elim
      · exact h1.elim
    · exact h1.elim)⟩
theorem sem_prop (hE : E1 = E ∨ ∀ os c f os', fn os ≠ some (.ex c f, os')) (hl : ∀ os r, fn os = some r → os.length = n) (ha : Sem G E ta ma) : Sem G E (tProp (G.cls c) (spF G fn n) [] E1 ta) (mProp c fn ma) := ⟨fun {F H σ ρ α Q} S h =>
  ha.run S (Post.to h fun o ρ1 v F1 H1 α1 S1 r1 T1 N1 h1 => by
    split at h1
    · rename_i c' fs e
      rw [e] at r1
      split at h1
      · rename_i hc
        subst hc
        have r1' := r1
        unfold Rep at r1
        obtain ⟨a, dx, fvs, ev, e1, e2⟩ := r1
        refine ⟨a, dx, fvs, ev, S1.ex _ _ e1, ?_⟩
        rw [← ev]
        exact spF_data hE hl S1 (Reps.one r1') (Post.shift T1 N1 h1)
      · exact h1.elim
    · exact h1.elim)⟩
end
end VL

namespace VL
open PySem PySem.Spec
open PyProof.Rows L2
open Evl (Ex sz_of)

/-! ### errors of the program's own that are made with a text, and defs that raise, called -/
def sRaise0 (c : Nat) : MS := fun _ ρ => some (.ex c none, ρ)
section
variable {G : Cn} {E : XK}
theorem semS_raise0 {c : Nat} : SemS G E (fun _ σ H => E (.ref (G.cls c)) none H) (sRaise0 c) := ⟨fun {F H σ ρ α D pins} S h => h F H .refl⟩
end
/-- what the written part says of such a class -/
structure OwnErr (K : PySem.W.Frag) (C : Addr) : Prop where
  made : PySem.W.excIn K C PySem.HandSPX.veTail "ValueError.__new__" = true
  keep : PySem.W.keepIn K (.ref C) = true
  base : PySem.W.subIn K (.ref C) (.type "BaseException") = some true
  isC : PySem.W.typeIn K (.ref C) = some (.type "type")
theorem ps_raise0 {X : Cx} {C : Addr} {x m : Str} {j : Nat} {p p2 pos pos2 : Pos} {W : WX} (hc : X.calm = true) (tk : Takes X W) (T : OwnErr X.K C) (hm : X.mg x = some (.ref C)) (hg : Gl X x := by rfl) (hdb : (x == ("__debug__" : Str)) = false := by decide) :
    PS X (.Raise (some (.Call (.Name x p) [.Constant (.str m) j p2] [] pos)) none pos2) (fun _ σ H => W (.ref C) none σ H) :=
  L2.ps_raise hc tk (pmk_own PySem.F.excBase_ValueError T.made hm T.keep (raises_own T.base T.isC) hg hdb)
section
variable {X : Cx} {x : Str} {p pos : Pos} {e : Expr} {es : List Expr} {t : TA} {f : Addr} {k : Nat} {ps : List Str} {sp : Sp} {CX : CXT} {E : XK}
theorem pe_callX (O : OkAt X.prog X.w X.K X.mg X.base CX k f ps sp) (hx : Passes CX X E) (hr : Room k X.A) (hm : X.mg x = some (.ref f)) (ha : PA X (e :: es) t) (hg : Gl X x := by rfl)
    (he : starEach (e :: es) X.env = (false, eval e X.env) :: starEach es X.env := by rfl) (hpl : (backTo pos (starEach es X.env)).any (·.1) = false := by rfl) (hdb : (x == ("__debug__" : Str)) = false := by decide) :
    PE X (.Call (.Name x p) (e :: es) [] pos) (tCall sp [] E t) := by
  obtain ⟨fd, F, B, kp⟩ := O.ok
  exact pe_call F hr hg hm kp B .nil hx ha hdb he hpl
theorem pe_methX {C : Addr} {m : Str} {o : Expr} {ta : TE} {apos : Pos} {pl : PySem.Sem Bool} (O : OkAt X.prog X.w X.K X.mg X.base CX k f ps sp) (c : Cls X.K C) (hm : Meth X.K C m f) (hx : Passes CX X E) (hr : Room k X.A) (he : PE X o ta) (ha : PA X (e :: es) t)
    (hst : starEach (e :: es) X.env = (false, eval e X.env) :: starEach es X.env := by rfl) (hpl : (backTo pos (starEach es X.env)).any (·.1) = false := by rfl)
    (ht : eval (.Call (.Attribute o m apos) (e :: es) [] pos) X.env = (do
      let ov ← eval o X.env
      standAt apos.atName
      let (g, fst) ← holding [ov] (getMethod ov m pl)
      callWith pos g fst (backTo pos (starEach (e :: es) X.env)) (backToKw pos (keywordEach [] X.env))) := by rfl) : PE X (.Call (.Attribute o m apos) (e :: es) [] pos) (tMeth C m sp [] E ta t) := by
  obtain ⟨fd, F, B, kp⟩ := O.ok
  exact pe_meth he c hm F hr B .nil hx ha hst hpl ht
theorem pe_propX {C : Addr} {m : Str} {o : Expr} {ta : TE} (O : OkAt X.prog X.w X.K X.mg X.base CX k f ps sp) (c : Cls X.K C) (hp : ∃ p, PropOf X.K C m p f) (hx : Passes CX X.nox E) (hr : Room (k + 1) X.A) (he : PE X o ta)
    (hab : attributeBase o m X.env (eval o X.env) = eval o X.env) : PE X (.Attribute o m pos) (tProp C sp [] E ta) := by
  obtain ⟨fd, F, B, kp⟩ := O.ok
  obtain ⟨p, hp⟩ := hp
  exact pe_prop he c hp F hr B .nil hx hab
theorem passX {X : Cx} {E : XK} (tk : Takes X (fun cls d _ H => E cls d H)) : Passes (L2.CX X.prog X.w) X E := L2.passes_call tk fun _ _ _ _ h => h
end
end VL

namespace VL
open PySem PySem.Spec
open PyProof.Rows L2
open Evl (Ex sz_of)

/-! ### a def called in the frames as they are, a little deeper -/
section
variable {X : Cx} {CX : CXT} {k : Nat} {f C : Addr} {fd : FuncData} {ps : List Str} {sp : Sp} {E : XK}
theorem run_own {A : Around} {pins : List (Addr × Obj)} {σ : L2.St} {H : Hp} {s : Shared} {Q : VK} {us : List Value} {vs : List V} (fr : A.frames = some X.stack) (F : FnOk X.prog X.w X.K X.mg X.base CX k f fd ps sp) (hr : Room k A) (hb : Binds X.K fd ps []) (hx : Passes CX X E) (I : Inv X pins σ H s) (rel : Vals vs us) (h : sp vs H Q E) :
    wpAny (model X.prog X.w) A (call (.ref f) us) (EP X pins σ Q) X.xe s := by
  have e := I.env0
  have env : Env0 X.prog X.w X.K X.mg X.base A X.stack s H := ⟨fr, e.mod, e.bs, e.bsz, e.funs, e.frf, e.hok, e.bare⟩
  have len : us.length = ps.length := rel.length.symm.trans (F.len _ _ _ _ h)
  have bind : BindsTo s fd ⟨us, []⟩ (ps.zip us) := by
    have := hb s us I.kIn (by simpa using len)
    simpa using this
  have go := F.run A X.stack s H ⟨us, []⟩ us vs Q E hr env bind rel h
  refine wpAny_call (codeAny_mono go fun r s' out => ?_)
  match r, out with
  | .error u, out => exact hx pins σ H s u s' I out
  | .ok (.ret u), out => exact I.after out
  | .ok .next, out => exact out.elim
  | .ok .brk, out => exact out.elim
  | .ok .cont, out => exact out.elim
end
/-! ### == of own classes, with their own __eq__, and != by it -/
/-- both are instances of the class at C; what its __eq__ says, a truth value -/
def rOwn (C : Addr) (sp : Sp) (neg : Bool) : R2 := fun x y H Q => ∃ a b dx dy fs gs, x = .ref a ∧ y = .ref b ∧ H a = some (.ins C dx fs) ∧ H b = some (.ins C dy gs) ∧ sp [x, y] H (fun v H' => ∃ t, v = .bl t ∧ Q (.bl (if neg = true then !t else t)) H') E0
structure OwnCmp (K : PySem.W.Frag) (C f : Addr) : Prop where
  eq : PySem.W.findIn K (.ref C) "__eq__" = some (some (.ref f))
  fnOk : PySem.W.isFn K (.ref f) = true
  ne : PySem.W.findIn K (.ref C) "__ne__" = some (some (.builtin "object.__ne__"))
  ob : PySem.W.mroIn K C (.type "object") = some true
section
variable {X : Cx} {k : Nat} {f C : Addr} {ps : List Str} {sp : Sp}
theorem op_own (O : OkAt X.prog X.w X.K X.mg X.base CX0 k f ps sp) (c : OwnCmp X.K C f) (hr : Room k X.A) : OpR X (compareOp .Eq) (rOwn C sp false) := by
  obtain ⟨fd, F, B, _⟩ := O.ok
  intro pns s σ H x y v u Q inv rx ry got
  obtain ⟨a, b, dx, dy, fs, gs, ex, ey, ha, hb, h⟩ := got
  subst ex ey
  cases rx
  cases ry
  obtain ⟨mA, JA, _⟩ := ins_get inv.hok ha
  obtain ⟨mB, JB, _⟩ := ins_get inv.hok hb
  obtain ⟨oa, IA, _⟩ := JA.look
  obtain ⟨ob, IB, _⟩ := JB.look
  obtain ⟨m, fr⟩ := inv.fr
  have un : X.A.units < cLine := by have := hr.un; omega
  refine PySem.W.cmp_ofEq ?_
  refine PySem.W.cmp_K (op := .Eq) (tb := .ref C) un fr inv.ok.mod.kin IA IB.type (by simp [PySem.W.notFirst]) c.eq c.fnOk ?_
  have rel : Vals [V.ref a, V.ref b] [Value.ref a, Value.ref b] := .cons (show RelV (V.ref a) (Value.ref a) from rfl) (.cons (show RelV (V.ref b) (Value.ref b) from rfl) .nil)
  refine thn (run_own inv.env0.frames F hr B pass0 inv rel h) fun w s' out => ?_
  obtain ⟨z, H', I', rz, t, ez, q⟩ := out
  subst ez
  cases rz
  exact ⟨.bl t, H', I', rfl, by simpa using q⟩
/-- the special method that the class has from object, asked for -/
theorem ifBound_obj {M : Model} {A : Around} {E : Value → Shared → Prop} {s : Shared} {K : PySem.W.Frag} {x C : Addr} {ox : Obj} {od : Option Obj} {name : Str} {args : List Value} {id : String} {Q : Option Value → Shared → Prop} (inK : K.In s.heap) (I : PySem.W.InstAt s.heap x ox C od)
    (fnd : PySem.W.findIn K (.ref C) name = some (some (.builtin id))) (bnd : ∀ self, bindSpecial (.builtin id) self = pure (.builtin id, [self])) (go : wpAny M A (call (.builtin id) (.ref x :: args)) (fun v => Q (some v)) E s) : wpAny M A (callSpecialIfBound? (.ref x) name args) Q E s := by
  have spec : PySem.W.Looks M s.heap (specialOf (.ref x) name) (some (.builtin id)) := I.type.andThen (PySem.W.looks_findIn inK fnd)
  have last : wpAny M A (call (.builtin id) ([.ref x] ++ args) >>= fun v => pure (some v)) Q E s := wpAny_bind (thn go fun v s' q => wpAny_pure q)
  unfold callSpecialIfBound? bindSpecialIfBound?
  simp only [bnd]
  refine wpAny_holding (wpAny_bind (wpAny_bind (spec.here ?_)))
  refine wpAny_bind (wpAny_askSetting ?_)
  refine wpAny_ite ?_
  split
  · exact wpAny_bind (wpAny_of_eq (bnd _) (wpAny_pure last))
  · exact wpAny_tryCatch (wpAny_bind (wpAny_of_eq (bnd _) (wpAny_pure last)))
/-- object.__ne__ asks __eq__ -/
theorem obj_ne {prog : Program} {w : World} {A : Around} {E : Value → Shared → Prop} {s : Shared} {K : PySem.W.Frag} {x C f : Addr} {y : Value} {ox : Obj} {od : Option Obj} {Q : Fin → Shared → Prop} (inK : K.In s.heap) (I : PySem.W.InstAt s.heap x ox C od)
    (fnd : PySem.W.findIn K (.ref C) "__eq__" = some (some (.ref f))) (isf : PySem.W.isFn K (.ref f) = true) (un : A.units < cLine)
    (go : wpAny (model prog w) A (call (.ref f) [.ref x, y]) (fun v s' => ∃ t, v = .bool t ∧ Q (.done (.ret (.bool (!t)))) s') E s) : wpAny (model prog w) A (Builtin.«object.__ne__» ⟨[.ref x, y], []⟩) Q E s := by
  have ask : wpAny (model prog w) A (callSpecialIfBound? (.ref x) "__eq__" [y]) (fun r s' => ∃ t, r = some (.bool t) ∧ Q (.done (.ret (.bool (!t)))) s') E s :=
    PySem.W.ifBound_K inK I fnd isf (thn go fun v s' q => by
      obtain ⟨t, e, q⟩ := q
      exact ⟨t, by rw [e], q⟩)
  obtain ⟨h, g, d, t, os⟩ := s
  unfold Builtin.«object.__ne__»
  repeat (first
    | with_reducible refine wpAny_cRoomFor un ?_
    | (refine wpAny_bind (m := callSpecialIfBound? (.ref x) (Str.ofString "__eq__") [y]) (thn ask fun r s' q => ?_))
    | wp_step)
  obtain ⟨b, e, q⟩ := q
  subst e
  repeat (first | exact q | exact wpAny_pure q | exact wpAny_truthy_bool q | (refine wpAny_bind (m := truthy (.bool _)) (wpAny_truthy_bool ?_)) | wp_step)
theorem op_ownNe (O : OkAt X.prog X.w X.K X.mg X.base CX0 k f ps sp) (c : OwnCmp X.K C f) (hr : Room (k + 2) X.A) : OpR X (compareOp .NotEq) (rOwn C sp true) := by
  obtain ⟨fd, F, B, _⟩ := O.ok
  intro pns s σ H x y v u Q inv rx ry got
  obtain ⟨a, b, dx, dy, fs, gs, ex, ey, ha, hb, h⟩ := got
  subst ex ey
  cases rx
  cases ry
  obtain ⟨mA, JA, _⟩ := ins_get inv.hok ha
  obtain ⟨mB, JB, _⟩ := ins_get inv.hok hb
  obtain ⟨oa, IA, _⟩ := JA.look
  obtain ⟨ob, IB, _⟩ := JB.look
  have un : X.A.units + 1 < cLine := by have := hr.un; omega
  have un0 : X.A.units < cLine := Nat.lt_of_succ_lt un
  have rel : Vals [V.ref a, V.ref b] [Value.ref a, Value.ref b] := .cons (show RelV (V.ref a) (Value.ref a) from rfl) (.cons (show RelV (V.ref b) (Value.ref b) from rfl) .nil)
  have hr1 : Room k X.A.in1 := ((hr.mono (Nat.le_succ _)).in1)
  have go : wpAny (model X.prog X.w) X.A.in1 (call (.ref f) [.ref a, .ref b]) (fun v s' => ∃ t, v = .bool t ∧ ∃ t', Value.bool (!t) = .bool t' ∧ EP X pns σ Q (.bool (!t)) s') X.xe s :=
    thn (run_own inv.env0.frames F hr1 B pass0 inv rel h) fun w s' out => by
      obtain ⟨z, H', I', rz, t, ez, q⟩ := out
      subst ez
      have ew : w = .bool t := rz
      exact ⟨t, ew, !t, rfl, .bl (!t), H', I', rfl, by simpa using q⟩
  have isO : PySem.W.Looks (model X.prog X.w) s.heap (isInstance (.ref a) (.type "object")) true := IA.type.andThen (PySem.W.looks_mroIn inv.kIn c.ob)
  have slot : wpAny (model X.prog X.w) X.A (call (.builtin "object.__ne__") [.ref a, .ref b]) (fun v s' => ∃ t, v = .bool t ∧ EP X pns σ Q v s') X.xe s := by
    refine wpAny_call (codeAny_call_builtin PySem.F.slot_object_ne.plain PySem.F.cmpEntry_ne (PySem.W.check_slot PySem.F.cmpKind_ne PySem.F.cmpSplit_ne isO (PySem.F.cmpArgs_ne _ _) ?_))
    exact obj_ne inv.kIn IA c.eq c.fnOk un go
  have try1 : wpAny (model X.prog X.w) X.A (tryCompare (.ref a) "__ne__" (.ref b)) (fun r s' => ∃ v, r = some v ∧ EP X pns σ Q v s') X.xe s := by
    unfold tryCompare
    refine wpAny_bind (ifBound_obj inv.kIn IA c.ne (fun self => PySem.F.slot_object_ne.bind self) (thn slot fun v s' q => ?_))
    obtain ⟨t, e, q⟩ := q
    subst e
    exact wpAny_pure ⟨_, rfl, q⟩
  refine PySem.W.cmp_ofNotEq ?_
  unfold richCompare
  simp only [oneThing_ref]
  refine wpAny_holding (wpAny_bind (wpAny_cRoomFor un0 ?_))
  refine wpAny_bind (IA.type.here (wpAny_bind (IB.type.here ?_)))
  rw [show (Value.ref C != Value.ref C) = false by simp]
  simp only [Bool.false_eq_true, if_false]
  refine wpAny_bind (wpAny_pure ?_)
  simp only [Bool.false_eq_true, if_false]
  refine wpAny_bind (thn try1 fun r s' q => ?_)
  obtain ⟨v, e, q⟩ := q
  subst e
  exact wpAny_pure q
/-! ### len by an own __len__ -/
def rLenO (C : Addr) (sp : Sp) : List V → Hp → VK → Prop := fun xs H Q => ∃ a dx fs, xs = [.ref a] ∧ H a = some (.ins C dx fs) ∧ sp [.ref a] H (fun v H' => ∃ n : Int, v = .int n ∧ (0 ≤ n ∧ n < 2 ^ 63) ∧ Q (.int n) H') E0
theorem call_lenO (O : OkAt X.prog X.w X.K X.mg X.base CX0 k f ps sp) (c1 : PySem.W.findIn X.K (.ref C) "__len__" = some (some (.ref f))) (c2 : PySem.W.isFn X.K (.ref f) = true) (hr : Room (k + 1) X.A) : CallR X (.builtin "len") (rLenO C sp) := by
  obtain ⟨fd, F, B, _⟩ := O.ok
  intro pns s σ H vs us Q inv rel got
  obtain ⟨a, dx, fs, ex, ha, h⟩ := got
  subst ex
  obtain ⟨u, eu, ru⟩ := vals1 rel
  subst eu
  cases ru
  obtain ⟨mA, JA, _⟩ := ins_get inv.hok ha
  obtain ⟨oa, IA, _⟩ := JA.look
  obtain ⟨m, fr⟩ := inv.fr
  have rel : Vals [V.ref a] [Value.ref a] := .cons (show RelV (V.ref a) (Value.ref a) from rfl) .nil
  refine PySem.W.len_K fr inv.ok.mod.kin IA c1 c2 (thn (run_own inv.env0.frames F hr.in1 B pass0 inv rel h) fun w s' out => ?_)
  obtain ⟨z, H', I', rz, n, ez, hn, q⟩ := out
  subst ez
  obtain ⟨t, rz⟩ := rz
  subst rz
  exact ⟨hn, .int n, H', I'.tok _, ⟨_, rfl⟩, q⟩
end
section
variable {G : Cn} {E : XK} {ta tb : TE} {ma mb : M} {fn : Fn} {n c : Nat}
/-- what the callee hands back is seen, something else is wished for -/
theorem Post.seen {F H : Hp} {σ : L2.St} {ρ : Rho} {α : Al} {Q : VK} {d d' : D} (fl' : flatD d' = true) (fl : flatD d = true) (h : Post G E F H σ α (some (.ok (.val d'), ρ)) Q) :
    Post G E0 F H σ α (some (.ok (.val d), ρ)) (fun v H' => v = toV d ∧ Q (toV d') H') := fun v F' H' α' β S R T M N => by
  obtain ⟨e, r⟩ := R
  refine ⟨(flat_rep r fl).1, h (toV d') F' H' α' β S ⟨e, ?_⟩ T M N⟩
  cases d' <;> first | exact Rep.ofNon | exact Rep.ofBl | exact Rep.ofInt | exact Rep.ofStr | cases fl'
def mOwn (c : Nat) (fn : Fn) (neg : Bool) (a b : M) : M := fun ρ => bnd (a ρ) fun o ρ1 => bnd (b ρ1) fun o' ρ2 => match o.frz, o'.frz with
  | .ins c1 fs, .ins c2 gs => if c1 = c ∧ c2 = c then (match fn [.val (.ins c1 fs), .val (.ins c2 gs)] with
    | some (.ok (.val (.bl t)), _) => some (.ok (.val (.bl (if neg = true then !t else t))), ρ2)
    | _ => none) else none
  | _, _ => none
theorem sem_own {neg : Bool} (hl : ∀ os r, fn os = some r → os.length = n) (ha : Sem G E ta ma) (hb : Sem G E tb mb) : Sem G E (tOp (rOwn (G.cls c) (spF G fn n) neg) ta tb) (mOwn c fn neg ma mb) := ⟨fun {F H σ ρ α Q} S h =>
  ha.run S (Post.to h fun o ρ1 v F1 H1 α1 S1 r1 T1 N1 h1 => hb.run S1 (Post.to (Post.shift T1 N1 h1) fun o2 ρ2 v2 F2 H2 α2 S2 r2 T2 N2 h2 => by
    split at h2
    · rename_i c1 fs c2 gs e1 e2
      split at h2
      · rename_i hc
        obtain ⟨hc1, hc2⟩ := hc
        rw [hc1] at e1
        rw [hc2] at e2
        rw [hc1, hc2] at h2
        rw [e1] at r1
        rw [e2] at r2
        have q1 := r1.mono T2.exF
        have q2 := r2
        unfold Rep at q1 q2
        obtain ⟨a, dx, fvs, ev, x1, x2⟩ := q1
        obtain ⟨b, dy, gvs, ew, y1, y2⟩ := q2
        refine ⟨a, b, dx, dy, fvs, gvs, ev, ew, S2.ex _ _ x1, S2.ex _ _ y1, ?_⟩
        split at h2
        · rename_i t os' ef
          refine spF_data (ρ1 := ρ2) (.inl rfl) hl S2 (Reps.cons (r1.mono T2.exF) (Reps.one r2)) ?_
          unfold onData
          rw [show ([D.ins c fs, D.ins c gs].map O.val) = [.val (.ins c fs), .val (.ins c gs)] from rfl, ef]
          refine PostG.shift .refl .refl (Post.seen (d := .bl t) rfl rfl (Post.shift T2 N2 h2)) fun o ρ' z => ?_
          intro v F' H' α' β S' R T M N
          obtain ⟨e, q⟩ := z v F' H' α' β S' R T M N
          exact ⟨t, e, q⟩
        · exact h2.elim
      · exact h2.elim
    · exact h2.elim))⟩
def mLenO (c : Nat) (fn : Fn) (a : M) : M := fun ρ => bnd (a ρ) fun o ρ1 => match o.frz with
  | .ins c1 fs => if c1 = c then (match fn [.val (.ins c1 fs)] with
    | some (.ok (.val (.int n)), _) => if 0 ≤ n ∧ n < 2 ^ 63 then some (.ok (.val (.int n)), ρ1) else none
    | _ => none) else none
  | _ => none
theorem sem_lenO (hl : ∀ os r, fn os = some r → os.length = n) (ha : Sem G E ta ma) : Sem G E (tCB (rLenO (G.cls c) (spF G fn n)) (tCons ta tNil)) (mLenO c fn ma) := ⟨fun {F H σ ρ α Q} S h =>
  ha.run S (Post.to h fun o ρ1 v F1 H1 α1 S1 r1 T1 N1 h1 => by
    split at h1
    · rename_i c1 fs e1
      split at h1
      · rename_i hc
        rw [hc] at e1 h1
        rw [e1] at r1
        have q1 := r1
        unfold Rep at q1
        obtain ⟨a, dx, fvs, ev, x1, x2⟩ := q1
        subst ev
        refine ⟨a, dx, fvs, rfl, S1.ex _ _ x1, ?_⟩
        split at h1
        · rename_i k os' ef
          split at h1
          · rename_i hn
            refine spF_data (ρ1 := ρ1) (.inl rfl) hl S1 (Reps.one r1) ?_
            unfold onData
            rw [show ([D.ins c fs].map O.val) = [.val (.ins c fs)] from rfl, ef]
            refine PostG.shift .refl .refl (Post.seen (d := .int k) rfl rfl (Post.shift T1 N1 h1)) fun o ρ' z => ?_
            intro v F' H' α' β S' R T M N
            obtain ⟨e, q⟩ := z v F' H' α' β S' R T M N
            exact ⟨k, e, hn, q⟩
          · exact h1.elim
        · exact h1.elim
      · exact h1.elim
    · exact h1.elim)⟩
end
end VL

namespace VL
open PySem PySem.Spec
open PyProof.Rows L2
open Evl (Ex sz_of)
open LamX (ExtN Tabs TabS CodeO)

/-! ### data where tables of code objects may grow -/
section
variable {G : Cn} {H H' : Hp}
theorem sqlN {K : PySem.W.Frag} {a : Addr} {xs : List V} (e : ExtN H H') (h : SqL K H a xs) : SqL K H' a xs := by
  rcases h with h | h
  · rcases h with h | ⟨o, h⟩
    · exact .inl (.inl (e _ _ h nofun))
    · exact .inl (.inr ⟨o, e _ _ h nofun⟩)
  · exact .inr h
mutual
theorem Rep.grows (e : ExtN H H') : ∀ {v : V} (d : D), Rep G H v d → Rep G H' v d
  | _, .non, h => h
  | _, .bl _, h => h
  | _, .int _, h => h
  | _, .str _, h => h
  | _, .scr _, h => by
    unfold Rep at h ⊢
    obtain ⟨a, e1, e2⟩ := h
    exact ⟨a, e1, sqlN e e2⟩
  | _, .tup ds, h => by
    unfold Rep at h ⊢
    obtain ⟨a, vs, e1, e2, e3⟩ := h
    exact ⟨a, vs, e1, e _ _ e2 nofun, Reps.grows e ds e3⟩
  | _, .lst ds, h => by
    unfold Rep at h ⊢
    obtain ⟨a, vs, e1, e2, e3⟩ := h
    exact ⟨a, vs, e1, e _ _ e2 nofun, Reps.grows e ds e3⟩
  | _, .dic ds, h => by
    unfold Rep at h ⊢
    obtain ⟨a, vs, e1, e2, e3⟩ := h
    exact ⟨a, vs, e1, e _ _ e2 nofun, RepsK.grows e ds e3⟩
  | _, .ins c ds, h => by
    unfold Rep at h ⊢
    obtain ⟨a, dx, vs, e1, e2, e3⟩ := h
    exact ⟨a, dx, vs, e1, e _ _ e2 nofun, RepsF.grows e ds e3⟩
theorem Reps.grows (e : ExtN H H') : ∀ {vs : List V} (ds : List D), Reps G H vs ds → Reps G H' vs ds
  | _, [], h => h
  | _, d :: ds, h => by
    unfold Reps at h ⊢
    obtain ⟨v, r, e1, e2, e3⟩ := h
    exact ⟨v, r, e1, Rep.grows e d e2, Reps.grows e ds e3⟩
theorem RepsK.grows (e : ExtN H H') : ∀ {vs : List (Key × V)} (ds : List (Key × D)), RepsK G H vs ds → RepsK G H' vs ds
  | _, [], h => h
  | _, (k, d) :: ds, h => by
    unfold RepsK at h ⊢
    obtain ⟨v, r, e1, e2, e3⟩ := h
    exact ⟨v, r, e1, Rep.grows e d e2, RepsK.grows e ds e3⟩
theorem RepsF.grows (e : ExtN H H') : ∀ {vs : List (Str × V)} (ds : List (Str × D)), RepsF G H vs ds → RepsF G H' vs ds
  | _, [], h => h
  | _, (k, d) :: ds, h => by
    unfold RepsF at h ⊢
    obtain ⟨v, r, e1, e2, e3⟩ := h
    exact ⟨v, r, e1, Rep.grows e d e2, RepsF.grows e ds e3⟩
end
end
/-! ### states all of whose slots hold data -/
abbrev emp : Al := fun _ => []
structure StL (G : Cn) (T : List (Addr × Str)) (H : Hp) (σ : L2.St) (ρ : Rho) : Prop where
  len : σ.length = ρ.length
  slot : ∀ (i : Nat) o, ρ[i]? = some (some o) → ∃ v d, o = .val d ∧ σ[i]? = some (some v) ∧ Rep G H v d
  tabs : Tabs T H
section
variable {G : Cn} {T : List (Addr × Str)} {H H' F : Hp} {σ : L2.St} {ρ ρ1 : Rho} {α : Al}
theorem StL.ste (S : StL G T H σ ρ) : Ste G H H σ ρ emp where
  ex := Ex.refl H
  len := S.len
  slot := fun i o e => by
    obtain ⟨v, d, eo, hv, r⟩ := S.slot i o e
    subst eo
    exact ⟨v, hv, rfl, r⟩
  off := fun _ _ => rfl
  dis := fun _ _ _ _ h => nomatch h
theorem allVal_get (h : allVal ρ = true) {i : Nat} {o : O} (e : ρ[i]? = some (some o)) : ∃ d, o = .val d := by
  unfold allVal at h
  have q := List.all_eq_true.mp h (some o) (List.mem_of_getElem? e)
  cases o <;> first | exact ⟨_, rfl⟩ | cases q
theorem StL.of (S : Ste G F H σ ρ α) (h : allVal ρ = true) (t : Tabs T H) : StL G T H σ ρ where
  len := S.len
  slot := fun i o e => by
    obtain ⟨d, eo⟩ := allVal_get h e
    subst eo
    obtain ⟨v, hv, r⟩ := S.slot i _ e
    exact ⟨v, d, rfl, hv, r.2.mono S.ex⟩
  tabs := t
theorem StL.grows (S : StL G T H σ ρ) (e : ExtN H H') (t : Tabs T H') : StL G T H' σ ρ where
  len := S.len
  slot := fun i o q => by
    obtain ⟨v, d, eo, hv, r⟩ := S.slot i o q
    exact ⟨v, d, eo, hv, r.grows e⟩
  tabs := t
theorem noOwn {a : Addr} : ¬ Own emp a := fun ⟨_, z⟩ => nomatch z
theorem Stp.allEx {F' : Hp} (s : Stp (Own emp) F H F' H') : Ex H H' := fun b o e => s.keep b o e noOwn
/-! ### statements over such states -/
abbrev ML := Rho → Option (Rs Fl × Rho)
def PostL (G : Cn) (T : List (Addr × Str)) (H : Hp) (D : Ends) : Option (Rs Fl × Rho) → Prop
  | some (.ok .nx, ρ') => ∀ σ' H', StL G T H' σ' ρ' → ExtN H H' → D.nx σ' H'
  | some (.ok (.ret o), _) => ∀ v H', Rep G H' v o.frz → D.rt v H'
  | _ => False
structure SemL (G : Cn) (T : List (Addr × Str)) (t : TS) (m : ML) : Prop where
  run : ∀ {H σ ρ D}, StL G T H σ ρ → PostL G T H D (m ρ) → t D σ H
def lS (m : MS) : ML := fun ρ => match m [] ρ with
  | some (.ok .nx, ρ') => if allVal ρ' = true then some (.ok .nx, ρ') else none
  | some (.ok (.ret o), ρ') => some (.ok (.ret o), ρ')
  | _ => none
def lSeq (a b : ML) : ML := fun ρ => match a ρ with
  | some (.ok .nx, ρ1) => b ρ1
  | x => x
variable {t u : TS} {m : MS} {a b : ML} {E : XK}
theorem semL_S (h : SemS G E t m) : SemL G T t (lS m) := ⟨fun {H σ ρ D} S p => by
  refine h.run (pins := []) S.ste ?_
  unfold lS at p
  match q : m [] ρ, p with
  | none, p => exact p.elim
  | some (.ok .nx, ρ'), p =>
    intro σ' F' H' α' S' T' N' P'
    try dsimp only at p
    split at p
    · rename_i hv
      exact p σ' H' (.of S' hv (S.tabs.ext T'.allEx)) (ExtN.of T'.allEx)
    · exact p.elim
  | some (.ok (.ret o), ρ'), p =>
    intro v σ' F' H' α' β S' R T' M N P'
    exact p v H' (R.frz S'.ex fun b hb u e => e)
  | some (.ok .bk, ρ'), p => exact p.elim
  | some (.ok .ct, ρ'), p => exact p.elim
  | some (.ex c f, ρ'), p => exact p.elim⟩
theorem PostL.shift {D : Ends} {r : Option (Rs Fl × Rho)} (e : ExtN H H') (p : PostL G T H D r) : PostL G T H' D r := by
  match r, p with
  | some (.ok .nx, ρ1), p => exact fun σ2 H2 S2 e2 => p σ2 H2 S2 (e.trans e2)
  | some (.ok (.ret o), ρ1), p => exact p
  | none, p => exact p
  | some (.ok .bk, ρ'), p => exact p
  | some (.ok .ct, ρ'), p => exact p
  | some (.ex c f, ρ'), p => exact p
theorem semL_seq (ha : SemL G T t a) (hb : SemL G T u b) : SemL G T (tSeq t u) (lSeq a b) := ⟨fun {H σ ρ D} S p => by
  refine ha.run S ?_
  unfold lSeq at p
  match q : a ρ, p with
  | some (.ok .nx, ρ1), p =>
    intro σ' H' S' e
    have p' : PostL G T H D (b ρ1) := p
    exact hb.run S' (p'.shift e)
  | some (.ok (.ret o), ρ1), p => exact p
  | none, p => exact p.elim
  | some (.ok .bk, ρ'), p => exact p.elim
  | some (.ok .ct, ρ'), p => exact p.elim
  | some (.ex c f, ρ'), p => exact p.elim⟩
theorem StL.allVal (S : StL G T H σ ρ) : VL.allVal ρ = true := by
  unfold VL.allVal
  refine List.all_eq_true.mpr fun o ho => ?_
  obtain ⟨i, hi⟩ := List.getElem?_of_mem ho
  cases o with
  | none => rfl
  | some o =>
    obtain ⟨v, d, eo, _⟩ := S.slot i o hi
    rw [eo]
/-! ### a for over a tuple -/
def lLoop (p : Pat) (b : ML) : List D → ML
  | [], ρ => some (.ok .nx, ρ)
  | d :: ds, ρ => (bindP [] p d ρ).bind fun ρ1 => match b ρ1 with
    | some (.ok .nx, ρ2) => lLoop p b ds ρ2
    | x => x
def lFor (a : M) (p : Pat) (b : ML) : ML := fun ρ => match a ρ with
  | some (.ok (.val (.tup ds)), ρ1) => if allVal ρ1 = true then lLoop p b ds ρ1 else none
  | _ => none
theorem semL_for {te : TE} {ma : M} {g : TG} {p : Pat} (ha : Sem G E0 te ma) (hg : GSem G g p) (hb : SemL G T t b) (hp : ∀ (ρ ρ1 : Rho) d, allVal ρ = true → bindP [] p d ρ = some ρ1 → allVal ρ1 = true) : SemL G T (tFor (iSeqV G.K te) g t) (lFor ma p b) := ⟨fun {H σ ρ D} S pq => by
  unfold lFor at pq
  split at pq
  · rename_i ds ρ1 ea
    split at pq
    · rename_i hv1
      refine ha.run S.ste ?_
      rw [ea]
      intro v F1 H1 α1 β S1 R T1 M1 N1
      obtain ⟨_, r1⟩ := R
      have r1' := r1.mono S1.ex
      unfold Rep at r1'
      obtain ⟨at_, vs, ev, h1, h2⟩ := r1'
      subst ev
      have S1' : StL G T H1 σ ρ1 := .of S1 hv1 (S.tabs.ext T1.allEx)
      refine ⟨vs, fun H' => H' at_ = some (.tup vs), .inl ⟨at_, rfl, fun H' e => SqT.of e⟩, h1, ?_⟩
      refine ⟨fun i k σ' H' => k = ds.length - i ∧ i ≤ ds.length ∧ H' at_ = some (.tup vs) ∧ Reps G H' vs ds ∧ ExtN H H' ∧ ∃ ρ', StL G T H' σ' ρ' ∧ PostL G T H D (lLoop p b (ds.drop i) ρ') ∧ allVal ρ' = true, ⟨ds.length, by simp, Nat.zero_le _, h1, h2, ExtN.of T1.allEx, ρ1, S1', pq, hv1⟩, ?_⟩
      rintro i k σ' H' ⟨rfl, hi, hat, hrs, hex, ρ', S', p', hv'⟩
      have lv := hrs.length
      by_cases hlt : i < ds.length
      · refine .inr ⟨⟨hat, by omega⟩, fun σ2 H2 => H2 at_ = some (.tup vs) ∧ Reps G H2 vs ds ∧ ExtN H H2 ∧ ∃ ρ', StL G T H2 σ2 ρ' ∧ PostL G T H D (lLoop p b (ds.drop (i + 1)) ρ') ∧ allVal ρ' = true, fun σ2 H2 n2 => ⟨ds.length - (i + 1), by omega, rfl, hlt, n2⟩, fun x H2 y => ?_⟩
        obtain ⟨eH, hx⟩ := y
        subst eH
        obtain ⟨d, hd⟩ : ∃ d, ds[i]? = some d := ⟨ds[i], by simp [hlt]⟩
        obtain ⟨w, hw, rw'⟩ := hrs.get hd
        rw [hx] at hw
        cases hw
        rw [drop_get hd] at p'
        unfold lLoop at p'
        cases e2 : bindP [] p d ρ' with
        | none => rw [e2] at p'; exact p'.elim
        | some ρ2 =>
          rw [e2] at p'
          refine hg (pins := []) S'.ste rw' e2 fun σ2 α2 S2 o2 _ _ => ?_
          have hv2 := hp _ _ _ hv' e2
          have S2' : StL G T H2 σ2 ρ2 := .of S2 hv2 S'.tabs
          refine hb.run S2' ?_
          dsimp only [Option.bind] at p'
          match q3 : b ρ2, p' with
          | some (.ok .nx, ρ3), p' =>
            intro σ3 H3 S3 e3
            exact ⟨e3 _ _ hat nofun, hrs.grows e3, hex.trans e3, ρ3, S3, p', S3.allVal⟩
          | some (.ok (.ret o), ρ3), p' => exact p'
          | none, p' => exact p'.elim
          | some (.ok .bk, ρ3), p' => exact p'.elim
          | some (.ok .ct, ρ3), p' => exact p'.elim
          | some (.ex c f, ρ3), p' => exact p'.elim
      · refine .inl ⟨⟨hat, by omega⟩, ?_⟩
        rw [List.drop_of_length_le (by omega)] at p'
        exact p' σ' H' S' hex
    · exact pq.elim
  · exact pq.elim⟩
end
end VL

namespace VL
open PySem PySem.Spec
open PyProof.Rows L2
open Evl (Ex sz_of)
open LamX (ExtN Tabs TabS CodeO tLam)

/-! ### a def that calls the closure that it gets, and tells the class of the error by a word -/
def TWord (G : Cn) (ans : List (Nat × Str)) : (XK → Hp → VK → Prop) → Hp → VK → Prop := fun tl H Q =>
  tl (fun cls d H' => d = none ∧ ∃ c z, cls = .ref (G.cls c) ∧ ans.lookup c = some z ∧ ∀ H'', Ex H' H'' → Q (.str z) H'') H (fun _ H' => Q (.str "fine") H')
section
variable {G : Cn} {T : List (Addr × Str)} {H : Hp} {σ : L2.St} {ρ ρ' : Rho} {ans : List (Nat × Str)} {t : XK → TE} {mb : M} {c : Nat} {z z0 : Str} {Q : VK}
theorem lam_word (hb : ∀ E, Sem G E (t E) mb) (S : StL G T H σ ρ) (hm : mb ρ = some (.ex c none, ρ')) (hz : ans.lookup c = some z) (k : ∀ H', StL G T H' σ ρ → ExtN H H' → Q (.str z) H') : tLam T (TWord G ans) t σ H Q := by
  refine ⟨S.tabs, fun H1 e t1 => (hb _).run (S.grows e t1).ste ?_⟩
  rw [hm]
  intro F' H' T'
  refine ⟨rfl, c, z, rfl, hz, fun H'' e2 => ?_⟩
  have e3 : Ex H1 H'' := T'.allEx.trans e2
  exact k H'' ((S.grows e t1).grows (ExtN.of e3) (t1.ext e3)) (e.trans (ExtN.of e3))
def lIfW (ans : List (Nat × Str)) (mb : M) (z0 : Str) (a b : ML) : ML := fun ρ => match mb ρ with
  | some (.ex c none, _) => (match ans.lookup c with
    | some z => (match fNe (.str z) (.str z0) with
      | some (.val (.bl true)) => a ρ
      | some (.val (.bl false)) => b ρ
      | _ => none)
    | none => none)
  | _ => none
theorem semL_ifW {r : R2} {u1 u2 : TS} {a b : ML} (hr : OSem G r fNe) (hb : ∀ E, Sem G E (t E) mb) (h1 : SemL G T u1 a) (h2 : SemL G T u2 b) : SemL G T (tIfS (tTest (tOp r (tLam T (TWord G ans) t) (tC (.str z0)))) u1 u2) (lIfW ans mb z0 a b) := ⟨fun {H σ ρ D} S p => by
  unfold lIfW at p
  split at p
  · rename_i c _ hm
    split at p
    · rename_i z hz
      refine lam_word hb S hm hz fun H' S' e => ?_
      show r _ _ H' _
      split at p
      · rename_i ef
        refine hr (E := E0) S'.ste (.inl Rep.ofStr) (.inl Rep.ofStr) ?_
        rw [ef]
        intro v F2 H2 α2 β S2 R2 T2 M2 N2
        have ev : v = .bl true := by
          have q := R2.2
          unfold Rep at q
          exact q
        refine ⟨true, ev, ?_⟩
        dsimp only
        rw [if_pos rfl]
        have S3 : StL G T H2 σ ρ := S'.grows (ExtN.of T2.allEx) (S'.tabs.ext T2.allEx)
        exact h1.run S3 (p.shift (e.trans (ExtN.of T2.allEx)))
      · rename_i ef
        refine hr (E := E0) S'.ste (.inl Rep.ofStr) (.inl Rep.ofStr) ?_
        rw [ef]
        intro v F2 H2 α2 β S2 R2 T2 M2 N2
        have ev : v = .bl false := by
          have q := R2.2
          unfold Rep at q
          exact q
        refine ⟨false, ev, ?_⟩
        dsimp only
        rw [if_neg (show ¬ (false = true) from nofun)]
        have S3 : StL G T H2 σ ρ := S'.grows (ExtN.of T2.allEx) (S'.tabs.ext T2.allEx)
        exact h2.run S3 (p.shift (e.trans (ExtN.of T2.allEx)))
      · exact p.elim
    · exact p.elim
  · exact p.elim⟩
end
/-! ### isinstance of the error that a suite holds, whichever it is -/
theorem call_isY {X : Cx} {a : Addr} {cls : Value} {d : Option Addr} {oe : Obj} {pn : List (Addr × Obj)} (hz : Zc cls d oe) (hf : ∃ vs, oe.data = .fields vs) :
    CallR (X.suite a ((a, oe) :: pn)) (.builtin "isinstance") (fun xs H Q => ∃ D, cls = .ref D ∧ d = none ∧ ExcC X.K D ∧ rIsE X.K D a xs H Q) := by
  intro pns s σ H xs us Q inv rel got
  obtain ⟨D, e1, e2, C, h⟩ := got
  subst e1 e2
  exact call_isE C hz hf pns s σ H xs us Q inv rel h
theorem takesLen {X : Cx} {W : WX} (tk : Takes X W) : Takes X (fun cls d σ H => σ.length = X.N.length → W cls d σ H) := fun u s' x => by
  obtain ⟨a, B, sI, pins, σ, H, cls, d, e, I, nb, up, sky, na, os, ag, w⟩ := x
  exact tk u s' ⟨a, B, sI, pins, σ, H, cls, d, e, I, nb, up, sky, na, os, ag, w I.len⟩
end VL

namespace VL
open PySem PySem.Spec
open PyProof.Rows L2
open Evl (Ex sz_of)
open LamX (ExtN Tabs TabS CodeO tLam)
theorem bind_nm (i : Nat) : ∀ (ρ ρ1 : Rho) (d : D), allVal ρ = true → bindP [] (.nm i) d ρ = some ρ1 → allVal ρ1 = true := fun ρ ρ1 d h e => by
  unfold bindP at e
  obtain ⟨_, _, rfl⟩ := setV_some e
  unfold allVal at h ⊢
  refine List.all_eq_true.mpr fun o ho => ?_
  rcases List.mem_or_eq_of_mem_set ho with z | z
  · exact List.all_eq_true.mp h o z
  · rw [z]
theorem reps_bl {G : Cn} {F : Hp} : ∀ bs : List Bool, Reps G F (bs.map V.bl) (bs.map D.bl)
  | [] => Reps.nil
  | b :: bs => Reps.cons Rep.ofBl (reps_bl bs)
/-- the suite's end: the list is there, the word is told -/
theorem end_word {G : Cn} {H' : Hp} {p : Addr} {σ : L2.St} {t : TE} {m : M} {bs : List Bool} {z : Str} {Q : VK} {E : XK} (hs : Sem G E t m) (hl : σ.length = 3) (hp : H' p = none) (r : σ.length = σ.length) (hm : (match m [none, none, some (.val (.lst (bs.map .bl)))] with | some (.ok (.val (.str y)), _) => decide (y = z) | _ => false) = true) (k : ∀ H'', Ex H' H'' → Q (.str z) H'') :
    t (σ.set 2 (some (.ref p))) (upd H' p (.lst (bs.map V.bl))) Q := by
  have S : Ste G (upd (fun _ => none) p (.lst (bs.map V.bl))) (upd H' p (.lst (bs.map V.bl))) (σ.set 2 (some (.ref p))) [none, none, some (.val (.lst (bs.map .bl)))] emp := by
    refine ⟨fun b o e => ?_, by rw [List.length_set, hl]; rfl, fun i o e => ?_, fun _ _ => rfl, fun _ _ _ _ h => nomatch h⟩
    · by_cases q : b = p
      · subst q
        rw [upd_same] at e ⊢
        exact e
      · rw [upd_ne q] at e
        cases e
    · match i, e with
      | 0, e => cases e
      | 1, e => cases e
      | 2, e =>
        cases e
        refine ⟨.ref p, List.getElem?_set_self (by omega), rfl, ?_⟩
        unfold Rep
        refine ⟨p, _, rfl, upd_same, ?_⟩
        exact reps_bl bs
      | i + 3, e => simp at e
  refine hs.run S ?_
  match q : m [none, none, some (.val (.lst (bs.map .bl)))], hm with
  | some (.ok (.val (.str y)), ρ'), hm =>
    have ey : y = z := of_decide_eq_true hm
    subst ey
    intro v F2 H2 α2 β S2 R2 T2 M2 N2
    have ev : v = .str y := by
      have w := R2.2
      unfold Rep at w
      exact w
    subst ev
    exact k H2 ((Ex.new hp).trans T2.allEx)
theorem law_end {G : Cn} {t : TS} {m : ML} {a Pt : Addr} {q : Str} {ns : List Int} {H : Hp} {N : List Str} {Q : VK} {j : Nat} (hs : SemL G [(Pt, q)] t m) (h : SqL G.K H a (ns.map V.int)) (hT : H Pt = some (.tbl #[])) {ρ0 : Rho} (hm : (match m ρ0 with | some (.ok (.ret (.val (.bl true))), _) => true | _ => false) = true)
    (k : ∀ H', Q (.bl true) H') (e : ρ0 = some (.val (.scr ns)) :: List.replicate j none := by rfl) (hN : N.length = j + 1 := by rfl) : t { nx := fun _ H' => Q .non H', rt := Q } (L2.start N [.ref a]) H := by
  have el : L2.start N [V.ref a] = some (.ref a) :: List.replicate j none := by
    unfold L2.start
    rw [hN]
    rfl
  rw [el]
  have S : StL G [(Pt, q)] H (some (.ref a) :: List.replicate j none) ρ0 := by
    subst e
    refine ⟨by simp, fun i o e => ?_, fun p hp => ?_⟩
    · match i, e with
      | 0, e =>
        cases e
        refine ⟨.ref a, _, rfl, rfl, ?_⟩
        unfold Rep
        exact ⟨a, rfl, h⟩
      | i + 1, e =>
        have e' : (List.replicate j (none : Option O))[i]? = some (some o) := by simpa using e
        rw [List.getElem?_replicate] at e'
        split at e' <;> cases e'
    · rw [List.mem_singleton.mp hp]
      exact TabS.nil hT
  refine hs.run S ?_
  match q : m ρ0, hm with
  | some (.ok (.ret (.val (.bl true))), ρ'), hm =>
    intro v H' r
    have ev : v = .bl true := by
      have w : Rep G H' v (.bl true) := r
      unfold Rep at w
      exact w
    rw [ev]
    exact k H'
end VL

open PySem PySem.Spec
open PyProof.Rows L2
namespace VG
open VL
def fuel : Nat := 100
def top (i : Nat) : Stmt := PySem.Challenge.pw_registerrooms_k15_whole_refused_single.main.body.getD i (.Pass ⟨0, 0, 0, 0⟩)
abbrev s_is_whole : Stmt := top 10
abbrev s_is_integer : Stmt := top 11
abbrev s_are_integers : Stmt := top 12
abbrev s_has_word : Stmt := top 15
abbrev s_may_stand : Stmt := top 17
abbrev s_is_join : Stmt := top 18
abbrev s_are_joins : Stmt := top 19
abbrev s_all_points : Stmt := top 23
abbrev s_check_block : Stmt := top 24
abbrev s_check_variable : Stmt := top 25
abbrev s_defined_by : Stmt := top 26
abbrev s_used_by : Stmt := top 27
abbrev s_used_by_end : Stmt := top 28
abbrev s_followers_of : Stmt := top 29
abbrev s_edges_of : Stmt := top 30
abbrev s_joins_of : Stmt := top 31
abbrev s_carried : Stmt := top 32
abbrev s_defined_ahead : Stmt := top 33
abbrev s_used_behind : Stmt := top 34
abbrev s_reached : Stmt := top 35
abbrev s_Single___eq__ : Stmt := inClass (top 41) 1
abbrev s_Single___len__ : Stmt := inClass (top 41) 2
abbrev s_Single_rows : Stmt := inClass (top 41) 5
abbrev s_Single_edges_into : Stmt := inClass (top 41) 8
abbrev s_Single_points : Stmt := inClass (top 41) 9
abbrev s_Single_joins : Stmt := inClass (top 41) 10
abbrev s_Single_definition : Stmt := inClass (top 41) 11
abbrev s_all_definitions : Stmt := top 43
abbrev s_are_joins_full : Stmt := top 44
abbrev s_all_without : Stmt := top 46
abbrev s_is_behind : Stmt := top 47
abbrev s_law_loop : Stmt := top 50
abbrev s_fills : Stmt := top 16
abbrev s_are_uses_behind : Stmt := top 45
abbrev s_is_row : Stmt := top 13
abbrev s_is_end : Stmt := top 14
abbrev s_are_rows : Stmt := top 20
abbrev s_is_block : Stmt := top 21
abbrev s_are_blocks : Stmt := top 22
abbrev s_wrong_single_part : Stmt := top 42
abbrev s_Single___init__ : Stmt := inClass (top 41) 0
abbrev s_law_part : Stmt := top 49
abbrev s_law_parts_right : Stmt := top 52
abbrev s_law_uses_right : Stmt := top 53
abbrev s_law_word : Stmt := top 51
abbrev s_law : Stmt := top 54
def tab_ENDS : List (Str × D) := [("go", (.str "b")), ("part", (.str "vbb")), ("stop", (.str ""))]
def tab_ROWS : List (Str × D) := [("put", (.str "vn")), ("move", (.str "vv")), ("add", (.str "vvv")), ("sub", (.str "vvv")), ("less", (.str "vvv")), ("take", (.str "v")), ("tell", (.str "v"))]
def is_Single : List (Nat × Bool) := [(4, true)]
structure Txt (P : Program) (w : World) (K : PySem.W.Frag) (mg : Str → Option Value) (fn cl : Nat → Addr) : Prop where
  d_is_whole : DefAt K "is_whole" "is_whole" s_is_whole (fn 2) ["thing"]
  d_is_integer : DefAt K "is_integer" "is_integer" s_is_integer (fn 3) ["thing", "low", "top"]
  d_are_integers : DefAt K "are_integers" "are_integers" s_are_integers (fn 4) ["things", "low", "top"]
  d_has_word : DefAt K "has_word" "has_word" s_has_word (fn 7) ["line"]
  d_may_stand : DefAt K "may_stand" "may_stand" s_may_stand (fn 9) ["number", "place", "many", "span", "count"]
  d_is_join : DefAt K "is_join" "is_join" s_is_join (fn 10) ["join", "many"]
  d_are_joins : DefAt K "are_joins" "are_joins" s_are_joins (fn 11) ["joins", "many"]
  d_all_points : DefAt K "all_points" "all_points" s_all_points (fn 15) ["blocks"]
  d_check_block : DefAt K "check_block" "check_block" s_check_block (fn 16) ["blocks", "block"]
  d_check_variable : DefAt K "check_variable" "check_variable" s_check_variable (fn 17) ["many", "variable"]
  d_defined_by : DefAt K "defined_by" "defined_by" s_defined_by (fn 18) ["row"]
  d_used_by : DefAt K "used_by" "used_by" s_used_by (fn 19) ["row"]
  d_used_by_end : DefAt K "used_by_end" "used_by_end" s_used_by_end (fn 20) ["end"]
  d_followers_of : DefAt K "followers_of" "followers_of" s_followers_of (fn 21) ["blocks", "block"]
  d_edges_of : DefAt K "edges_of" "edges_of" s_edges_of (fn 22) ["blocks", "target"]
  d_joins_of : DefAt K "joins_of" "joins_of" s_joins_of (fn 23) ["blocks", "block"]
  d_carried : DefAt K "carried" "carried" s_carried (fn 24) ["blocks", "edge"]
  d_defined_ahead : DefAt K "defined_ahead" "defined_ahead" s_defined_ahead (fn 25) ["blocks", "point"]
  d_used_behind : DefAt K "used_behind" "used_behind" s_used_behind (fn 26) ["blocks", "point"]
  d_reached : DefAt K "reached" "reached" s_reached (fn 27) ["blocks", "barred"]
  d_Single___eq__ : DefAt K "__eq__" "Single.__eq__" s_Single___eq__ (fn 29) ["self", "other"]
  d_Single___len__ : DefAt K "__len__" "Single.__len__" s_Single___len__ (fn 30) ["self"]
  d_Single_rows : DefAt K "rows" "Single.rows" s_Single_rows (fn 33) ["self", "block"]
  d_Single_edges_into : DefAt K "edges_into" "Single.edges_into" s_Single_edges_into (fn 36) ["self", "block"]
  d_Single_points : DefAt K "points" "Single.points" s_Single_points (fn 37) ["self"]
  d_Single_joins : DefAt K "joins" "Single.joins" s_Single_joins (fn 38) ["self", "block"]
  d_Single_definition : DefAt K "definition" "Single.definition" s_Single_definition (fn 39) ["self", "variable"]
  d_all_definitions : DefAt K "all_definitions" "all_definitions" s_all_definitions (fn 42) ["handed", "blocks"]
  d_are_joins_full : DefAt K "are_joins_full" "are_joins_full" s_are_joins_full (fn 43) ["blocks"]
  d_all_without : DefAt K "all_without" "all_without" s_all_without (fn 45) ["blocks"]
  d_is_behind : DefAt K "is_behind" "is_behind" s_is_behind (fn 46) ["definition", "point", "without"]
  d_law_loop : DefAt K "_law_loop" "_law_loop" s_law_loop (fn 48) ["joins", "rows"]
  d_fills : DefAt K "fills" "fills" s_fills (fn 8) ["numbers", "places", "many", "span", "count"]
  d_are_uses_behind : DefAt K "are_uses_behind" "are_uses_behind" s_are_uses_behind (fn 44) ["definitions", "blocks"]
  d_is_row : DefAt K "is_row" "is_row" s_is_row (fn 5) ["row", "many", "span"]
  d_is_end : DefAt K "is_end" "is_end" s_is_end (fn 6) ["end", "many", "count"]
  d_are_rows : DefAt K "are_rows" "are_rows" s_are_rows (fn 12) ["rows", "most", "many", "span"]
  d_is_block : DefAt K "is_block" "is_block" s_is_block (fn 13) ["block", "parts", "most", "many", "span", "count"]
  d_are_blocks : DefAt K "are_blocks" "are_blocks" s_are_blocks (fn 14) ["blocks", "parts", "most", "many", "span"]
  d_wrong_single_part : DefAt K "wrong_single_part" "wrong_single_part" s_wrong_single_part (fn 41) ["many", "handed", "blocks", "span"]
  d_law_part : DefAt K "_law_part" "_law_part" s_law_part (fn 47) ["many", "given", "blocks", "wide"]
  d_law_parts_right : DefAt K "_law_parts_right" "_law_parts_right" s_law_parts_right (fn 50) []
  d_law_uses_right : DefAt K "_law_uses_right" "_law_uses_right" s_law_uses_right (fn 51) []
  d_law_word : DefAt K "_law_word" "_law_word" s_law_word (fn 49) ["call"]
  g_law_loop : mg "_law_loop" = some (.ref (fn 48))
  g_law_part : mg "_law_part" = some (.ref (fn 47))
  g_law_parts_right : mg "_law_parts_right" = some (.ref (fn 50))
  g_law_uses_right : mg "_law_uses_right" = some (.ref (fn 51))
  g_law_word : mg "_law_word" = some (.ref (fn 49))
  g_all_definitions : mg "all_definitions" = some (.ref (fn 42))
  g_all_points : mg "all_points" = some (.ref (fn 15))
  g_all_without : mg "all_without" = some (.ref (fn 45))
  g_are_blocks : mg "are_blocks" = some (.ref (fn 14))
  g_are_integers : mg "are_integers" = some (.ref (fn 4))
  g_are_joins : mg "are_joins" = some (.ref (fn 11))
  g_are_joins_full : mg "are_joins_full" = some (.ref (fn 43))
  g_are_rows : mg "are_rows" = some (.ref (fn 12))
  g_are_uses_behind : mg "are_uses_behind" = some (.ref (fn 44))
  g_carried : mg "carried" = some (.ref (fn 24))
  g_check_block : mg "check_block" = some (.ref (fn 16))
  g_check_variable : mg "check_variable" = some (.ref (fn 17))
  g_defined_ahead : mg "defined_ahead" = some (.ref (fn 25))
  g_defined_by : mg "defined_by" = some (.ref (fn 18))
  g_edges_of : mg "edges_of" = some (.ref (fn 22))
  g_fills : mg "fills" = some (.ref (fn 8))
  g_followers_of : mg "followers_of" = some (.ref (fn 21))
  g_has_word : mg "has_word" = some (.ref (fn 7))
  g_is_behind : mg "is_behind" = some (.ref (fn 46))
  g_is_block : mg "is_block" = some (.ref (fn 13))
  g_is_end : mg "is_end" = some (.ref (fn 6))
  g_is_integer : mg "is_integer" = some (.ref (fn 3))
  g_is_join : mg "is_join" = some (.ref (fn 10))
  g_is_row : mg "is_row" = some (.ref (fn 5))
  g_is_whole : mg "is_whole" = some (.ref (fn 2))
  g_joins_of : mg "joins_of" = some (.ref (fn 23))
  g_may_stand : mg "may_stand" = some (.ref (fn 9))
  g_reached : mg "reached" = some (.ref (fn 27))
  g_used_behind : mg "used_behind" = some (.ref (fn 26))
  g_used_by : mg "used_by" = some (.ref (fn 19))
  g_used_by_end : mg "used_by_end" = some (.ref (fn 20))
  g_wrong_single_part : mg "wrong_single_part" = some (.ref (fn 41))
  b_ValueError : mg "ValueError" = none
  b_all : mg "all" = none
  b_bool : mg "bool" = none
  b_enumerate : mg "enumerate" = none
  b_int : mg "int" = none
  b_isinstance : mg "isinstance" = none
  b_len : mg "len" = none
  b_list : mg "list" = none
  b_range : mg "range" = none
  b_sorted : mg "sorted" = none
  b_str : mg "str" = none
  b_tuple : mg "tuple" = none
  b_zip : mg "zip" = none
  k_MOST_BLOCKS : ∃ u, mg "MOST_BLOCKS" = some u ∧ RelV (.int (16)) u
  k_MOST_HANDED : ∃ u, mg "MOST_HANDED" = some u ∧ RelV (.int (3)) u
  k_MOST_ROWS : ∃ u, mg "MOST_ROWS" = some u ∧ RelV (.int (24)) u
  k_MOST_SINGLE : ∃ u, mg "MOST_SINGLE" = some u ∧ RelV (.int (48)) u
  k_MOST_SPAN : ∃ u, mg "MOST_SPAN" = some u ∧ RelV (.int (8)) u
  c_Single : mg "Single" = some (.ref (cl 4))
  is_Single : IsOk ⟨K, cl⟩ (.ref (cl 4)) (ansC kitO is_Single)
  o_BadBlock : OwnErr K (cl 2) ∧ mg "BadBlock" = some (.ref (cl 2))
  o_BadVariable : OwnErr K (cl 3) ∧ mg "BadVariable" = some (.ref (cl 3))
  m_Single_definition : L2.Cls K (cl 4) ∧ L2.Meth K (cl 4) "definition" (fn 39)
  m_Single_edges_into : L2.Cls K (cl 4) ∧ L2.Meth K (cl 4) "edges_into" (fn 36)
  m_Single_joins : L2.Cls K (cl 4) ∧ L2.Meth K (cl 4) "joins" (fn 38)
  m_Single_rows : L2.Cls K (cl 4) ∧ L2.Meth K (cl 4) "rows" (fn 33)
  cmp_Single : OwnCmp K (cl 4) (fn 29)
  l_Single : PySem.W.findIn K (.ref (cl 4)) "__len__" = some (some (.ref (fn 30))) ∧ PySem.W.isFn K (.ref (fn 30)) = true
  wd_BadBlock : ExcC K (cl 2) ∧ PySem.W.exmOne K (.ref (cl 2)) (.ref (cl 0)) = some true ∧ PySem.W.kitOne K (.ref (cl 2)) (.ref (cl 2)) = some true ∧ PySem.W.kitOne K (.ref (cl 2)) (.ref (cl 3)) = some false
  wd_BadVariable : ExcC K (cl 3) ∧ PySem.W.exmOne K (.ref (cl 3)) (.ref (cl 0)) = some true ∧ PySem.W.kitOne K (.ref (cl 3)) (.ref (cl 2)) = some false ∧ PySem.W.kitOne K (.ref (cl 3)) (.ref (cl 3)) = some true
  p_Single_points : L2.Cls K (cl 4) ∧ ∃ p, L2.PropOf K (cl 4) "points" p (fn 37)
  h__definitions : ∀ c ∈ ([4] : List Nat), L2.Cls K (cl c) ∧ L2.NoAttr K (cl c) "_definitions"
  h__without : ∀ c ∈ ([4] : List Nat), L2.Cls K (cl c) ∧ L2.NoAttr K (cl c) "_without"
  h_blocks : ∀ c ∈ ([4] : List Nat), L2.Cls K (cl c) ∧ L2.NoAttr K (cl c) "blocks"
  h_handed : ∀ c ∈ ([4] : List Nat), L2.Cls K (cl c) ∧ L2.NoAttr K (cl c) "handed"
  h_many : ∀ c ∈ ([4] : List Nat), L2.Cls K (cl c) ∧ L2.NoAttr K (cl c) "many"
  h_span : ∀ c ∈ ([4] : List Nat), L2.Cls K (cl c) ∧ L2.NoAttr K (cl c) "span"
  x_BadSingle : ∃ fI fd, VX.BadTxt P K mg (cl 1) fI fd ∧ (∀ (s : Shared) (a : Addr) (u : Value), K.In s.heap → BindsTo s fd ⟨[.ref a, u], []⟩ [("self", .ref a), ("part", u)]) ∧ mg "BadSingle" = some (.ref (cl 1))
  e_BadBlock : mg "BadBlock" = some (.ref (cl 2))
  e_BadSingle : mg "BadSingle" = some (.ref (cl 1))
  e_BadVariable : mg "BadVariable" = some (.ref (cl 3))
  e_RoomError : mg "RoomError" = some (.ref (cl 0))
  ek_BadSingle : ExcK K (cl 1)
  tr_BadSingle : PySem.W.exmOne K (.ref (cl 1)) (.ref (cl 1)) = some true ∧ PySem.W.kitOne K (.ref (cl 1)) (.type "ValueError") = some true ∧ PySem.W.kitOne K (.ref (cl 1)) (.ref (cl 0)) = some true
  i_Single : ∃ fd, L2.Fun K "__init__" "Single.__init__" s_Single___init__ (fn 28) fd ∧ L2.Mk K (cl 4) (fn 28) ∧ mg "Single" = some (.ref (cl 4)) ∧ (∃ g, L2.KBn K fd ["self", "many", "handed", "blocks", "span"] 4 ["span"] g (fun vs zs => vs ++ zs)) ∧ ∃ g, L2.KBn K fd ["self", "many", "handed", "blocks", "span"] 4 [] g (fun vs _ => vs ++ [(.int (4))])
  t_ENDS : ∃ d es n, mg "ENDS" = some (.ref d) ∧ KDict K w d es n ∧ Tab K d es n tab_ENDS
  t_ROWS : ∃ d es n, mg "ROWS" = some (.ref d) ∧ KDict K w d es n ∧ Tab K d es n tab_ROWS
section
variable {P : Program} {w : World} {K : PySem.W.Frag} {mg : Str → Option Value} {base : Heap} {fn cl : Nat → Addr}
def m_is_whole : Fn := mFn0 1 1 (sRet (mAnd (mIs (ansT "int") (mVar 0)) (mNot (mIs (ansT "bool") (mVar 0)))))
theorem sc_is_whole : FnScope ["thing"] ["thing"] (defScope s_is_whole) := ⟨rfl, rfl, rfl, by decide +kernel, rfl, by decide +kernel, by decide +kernel⟩
theorem okF_is_whole (T : Txt P w K mg fn cl) {fd : FuncData} (F : L2.Fun K "is_whole" "is_whole" s_is_whole (fn 2) fd) : FnOk P w K mg base CX0 1 (fn 2) fd ["thing"] (spF ⟨K, cl⟩ m_is_whole 1) :=
  fn_ok0 F sc_is_whole rfl (by decide) fun cdv A outer s H E hr => by
    have sc := sc_is_whole
    exact ⟨_, (pss_one (ps_ret (pe_and (pe_callB call_isi (by rfl) T.b_isinstance (by decide +kernel) (pa_cons (pv 0) (pa_cons (pe_bltn (v := .ty "int") (by rfl) T.b_int (by decide +kernel) rfl) pa_nil))) (pe_one (pe_not (pe_callB call_isi (by rfl) T.b_isinstance (by decide +kernel) (pa_cons (pv 0) (pa_cons (pe_bltn (v := .ty "bool") (by rfl) T.b_bool (by decide +kernel) rfl) pa_nil)))))))),
      (semS_ret (sem_andV (sem_is (is_ty (by decide)) (.ty _) sem_var) (sem_notV (sem_is (is_ty (by decide)) (.ty _) sem_var))))⟩
theorem ok_is_whole (T : Txt P w K mg fn cl) : OkAt P w K mg base CX0 1 (fn 2) ["thing"] (spF ⟨K, cl⟩ m_is_whole 1) := by
  obtain ⟨fd, F, B⟩ := T.d_is_whole.fu
  exact ⟨fd, okF_is_whole T F, B, F.kp⟩
def m_is_integer : Fn := mFn0 3 3 (sRet (mAnd (mCall m_is_whole (aCons (mVar 0) aNil)) (mChain (fCmp fun i j => decide (i ≤ j)) (fCmp fun i j => decide (i < j)) (mVar 1) (mVar 0) (mVar 2))))
theorem sc_is_integer : FnScope ["thing", "low", "top"] ["thing", "low", "top"] (defScope s_is_integer) := ⟨rfl, rfl, rfl, by decide +kernel, rfl, by decide +kernel, by decide +kernel⟩
theorem okF_is_integer (T : Txt P w K mg fn cl) {fd : FuncData} (F : L2.Fun K "is_integer" "is_integer" s_is_integer (fn 3) fd) : FnOk P w K mg base CX0 2 (fn 3) fd ["thing", "low", "top"] (spF ⟨K, cl⟩ m_is_integer 3) :=
  fn_ok0 F sc_is_integer rfl (by decide) fun cdv A outer s H E hr => by
    have sc := sc_is_integer
    have O_is_whole := ok_is_whole (P := P) (w := w) (base := base) T
    exact ⟨_, (pss_one (ps_ret (pe_and (pe_callO O_is_whole (hr.mono (by decide)) T.g_is_whole (pa_cons (pv 0) pa_nil)) (pe_one (pe_chain op_le op_lt (pv 1) (pv 0) (pv 2)))))),
      (semS_ret (sem_andV (sem_call mFn0_len (semA_cons sem_var semA_nil)) (sem_chain os_cmp os_cmp sem_var sem_var sem_var)))⟩
theorem ok_is_integer (T : Txt P w K mg fn cl) : OkAt P w K mg base CX0 2 (fn 3) ["thing", "low", "top"] (spF ⟨K, cl⟩ m_is_integer 3) := by
  obtain ⟨fd, F, B⟩ := T.d_is_integer.fu
  exact ⟨fd, okF_is_integer T F, B, F.kp⟩
def m_are_integers : Fn := mFn0 3 4 (sRet (mAnd (mIs (ansT "tuple") (mVar 0)) (mCB fAll (aCons (mLc (iWalk (mVar 0)) [3] (.nm 3) mYes (mCall m_is_integer (aCons (mVar 3) (aCons (mVar 1) (aCons (mVar 2) aNil))))) aNil))))
theorem sc_are_integers : FnScope ["things", "low", "top", "thing"] ["things", "low", "top"] (defScope s_are_integers) := ⟨rfl, rfl, rfl, by decide +kernel, rfl, by decide +kernel, by decide +kernel⟩
theorem okF_are_integers (T : Txt P w K mg fn cl) {fd : FuncData} (F : L2.Fun K "are_integers" "are_integers" s_are_integers (fn 4) fd) : FnOk P w K mg base CX0 3 (fn 4) fd ["things", "low", "top"] (spF ⟨K, cl⟩ m_are_integers 3) :=
  fn_ok0 F sc_are_integers rfl (by decide) fun cdv A outer s H E hr => by
    have sc := sc_are_integers
    have O_is_integer := ok_is_integer (P := P) (w := w) (base := base) T
    exact ⟨_, (pss_one (ps_ret (pe_and (pe_callB call_isi (by rfl) T.b_isinstance (by decide +kernel) (pa_cons (pv 0) (pa_cons (pe_bltn (v := .ty "tuple") (by rfl) T.b_tuple (by decide +kernel) rfl) pa_nil))) (pe_one (pe_callB (cr_all rfl) (by rfl) T.b_all (by decide +kernel) (pa_cons (pe_lc (own := [("thing", 3)]) rfl sc.nd (pi_seqV (pv 0)) (by show BlkOk ["things", "low", "top", "thing"] (defScope s_are_integers) _ _; exact ⟨rfl, by decide +kernel, by decide +kernel, by decide +kernel, by decide +kernel⟩) (fun _ _ _ _ _ => (pg_name (i := 3) sc.nd rfl (Or.inl rfl))) (fun _ _ _ _ _ => pts_nil) (fun _ _ _ _ _ => (pe_callO O_is_integer (hr.mono (by decide)) T.g_is_integer (pa_cons (pv 3) (pa_cons (pv 1) (pa_cons (pv 2) pa_nil)))))) pa_nil)))))),
      (semS_ret (sem_andV (sem_is (is_ty (by decide)) (.ty _) sem_var) (sem_cb cs_all (semA_cons (sem_lc (E1 := E0) (E2 := E0) (semI_walk (E := E0) sem_var) g_name semT_yes (sem_call mFn0_len (semA_cons sem_var (semA_cons sem_var (semA_cons sem_var semA_nil)))) (by decide)) semA_nil))))⟩
theorem ok_are_integers (T : Txt P w K mg fn cl) : OkAt P w K mg base CX0 3 (fn 4) ["things", "low", "top"] (spF ⟨K, cl⟩ m_are_integers 3) := by
  obtain ⟨fd, F, B⟩ := T.d_are_integers.fu
  exact ⟨fd, okF_are_integers T F, B, F.kp⟩
def m_has_word : Fn := mFn0 1 1 (sRet (mAnd (mIs (ansT "tuple") (mVar 0)) (mAnd (mOp2 (fCmp fun i j => decide (j < i)) (mCB (fOr1 fLen fLenD) (aCons (mVar 0) aNil)) (mC (.int (0)))) (mIs (ansT "str") (mOp2 fIxA (mVar 0) (mC (.int (0))))))))
theorem sc_has_word : FnScope ["line"] ["line"] (defScope s_has_word) := ⟨rfl, rfl, rfl, by decide +kernel, rfl, by decide +kernel, by decide +kernel⟩
theorem okF_has_word (T : Txt P w K mg fn cl) {fd : FuncData} (F : L2.Fun K "has_word" "has_word" s_has_word (fn 7) fd) : FnOk P w K mg base CX0 1 (fn 7) fd ["line"] (spF ⟨K, cl⟩ m_has_word 1) :=
  fn_ok0 F sc_has_word rfl (by decide) fun cdv A outer s H E hr => by
    have sc := sc_has_word
    have hu1 := hu_of hr
    exact ⟨_, (pss_one (ps_ret (pe_and (pe_callB call_isi (by rfl) T.b_isinstance (by decide +kernel) (pa_cons (pv 0) (pa_cons (pe_bltn (v := .ty "tuple") (by rfl) T.b_tuple (by decide +kernel) rfl) pa_nil))) (pe_and (pe_cmpR op_gt (pe_callB call_lens (by rfl) T.b_len (by decide +kernel) (pa_cons (pv 0) pa_nil)) pe_int (nomark _)) (pe_one (pe_callB call_isi (by rfl) T.b_isinstance (by decide +kernel) (pa_cons (pe_ix (ix_all hu1) (pv 0) pe_int (fun _ _ => rfl)) (pa_cons (pe_bltn (v := .ty "str") (by rfl) T.b_str (by decide +kernel) rfl) pa_nil)))))))),
      (semS_ret (sem_andV (sem_is (is_ty (by decide)) (.ty _) sem_var) (sem_andV (sem_op os_cmp (sem_cb (cs_or cs_len cs_lenD) (semA_cons sem_var semA_nil)) sem_int) (sem_is (is_ty (by decide)) (.ty _) (sem_op os_ixA sem_var sem_int)))))⟩
theorem ok_has_word (T : Txt P w K mg fn cl) : OkAt P w K mg base CX0 1 (fn 7) ["line"] (spF ⟨K, cl⟩ m_has_word 1) := by
  obtain ⟨fd, F, B⟩ := T.d_has_word.fu
  exact ⟨fd, okF_has_word T F, B, F.kp⟩
def m_may_stand : Fn := mFn0 5 5 (sSeq (sIf (mOp2 fEq (mVar 1) (mC (.str "v"))) (sRet (mCall m_is_integer (aCons (mVar 0) (aCons (mC (.int (0))) (aCons (mVar 2) aNil))))) sNx) (sSeq (sIf (mOp2 fEq (mVar 1) (mC (.str "n"))) (sRet (mCall m_is_integer (aCons (mVar 0) (aCons (mC (.int (0))) (aCons (mVar 3) aNil))))) sNx) (sRet (mCall m_is_integer (aCons (mVar 0) (aCons (mC (.int (1))) (aCons (mVar 4) aNil)))))))
theorem sc_may_stand : FnScope ["number", "place", "many", "span", "count"] ["number", "place", "many", "span", "count"] (defScope s_may_stand) := ⟨rfl, rfl, rfl, by decide +kernel, rfl, by decide +kernel, by decide +kernel⟩
theorem okF_may_stand (T : Txt P w K mg fn cl) {fd : FuncData} (F : L2.Fun K "may_stand" "may_stand" s_may_stand (fn 9) fd) : FnOk P w K mg base CX0 3 (fn 9) fd ["number", "place", "many", "span", "count"] (spF ⟨K, cl⟩ m_may_stand 5) :=
  fn_ok0 F sc_may_stand rfl (by decide) fun cdv A outer s H E hr => by
    have sc := sc_may_stand
    have O_is_integer := ok_is_integer (P := P) (w := w) (base := base) T
    have hu64 := hr.units
    exact ⟨_, (pss_cons (ps_if (pt_cmpR (op_eqD hu64) (pv 1) pe_str (nomark _)) (pss_one (ps_ret (pe_callO O_is_integer (hr.mono (by decide)) T.g_is_integer (pa_cons (pv 0) (pa_cons pe_int (pa_cons (pv 2) pa_nil)))))) pss_nil)
      (pss_cons (ps_if (pt_cmpR (op_eqD hu64) (pv 1) pe_str (nomark _)) (pss_one (ps_ret (pe_callO O_is_integer (hr.mono (by decide)) T.g_is_integer (pa_cons (pv 0) (pa_cons pe_int (pa_cons (pv 3) pa_nil)))))) pss_nil)
      (pss_one (ps_ret (pe_callO O_is_integer (hr.mono (by decide)) T.g_is_integer (pa_cons (pv 0) (pa_cons pe_int (pa_cons (pv 4) pa_nil)))))))),
      (semS_seq (semS_if (semT_test (sem_op os_eq sem_var sem_str)) (semS_ret (sem_call mFn0_len (semA_cons sem_var (semA_cons sem_int (semA_cons sem_var semA_nil))))) semS_nx) (semS_seq (semS_if (semT_test (sem_op os_eq sem_var sem_str)) (semS_ret (sem_call mFn0_len (semA_cons sem_var (semA_cons sem_int (semA_cons sem_var semA_nil))))) semS_nx) (semS_ret (sem_call mFn0_len (semA_cons sem_var (semA_cons sem_int (semA_cons sem_var semA_nil)))))))⟩
theorem ok_may_stand (T : Txt P w K mg fn cl) : OkAt P w K mg base CX0 3 (fn 9) ["number", "place", "many", "span", "count"] (spF ⟨K, cl⟩ m_may_stand 5) := by
  obtain ⟨fd, F, B⟩ := T.d_may_stand.fu
  exact ⟨fd, okF_may_stand T F, B, F.kp⟩
def m_is_join : Fn := mFn0 2 2 (sSeq (sIf (mOr (mNot (mTru (mIs (ansT "tuple") (mVar 0)))) (mOp2 fNe (mCB (fOr1 fLen fLenD) (aCons (mVar 0) aNil)) (mC (.int (2))))) (sRet (mC (.bl false))) sNx) (sRet (mAnd (mCall m_is_integer (aCons (mOp2 fIxA (mVar 0) (mC (.int (0)))) (aCons (mC (.int (0))) (aCons (mVar 1) aNil)))) (mCall m_are_integers (aCons (mOp2 fIxA (mVar 0) (mC (.int (1)))) (aCons (mC (.int (0))) (aCons (mVar 1) aNil)))))))
theorem sc_is_join : FnScope ["join", "many"] ["join", "many"] (defScope s_is_join) := ⟨rfl, rfl, rfl, by decide +kernel, rfl, by decide +kernel, by decide +kernel⟩
theorem okF_is_join (T : Txt P w K mg fn cl) {fd : FuncData} (F : L2.Fun K "is_join" "is_join" s_is_join (fn 10) fd) : FnOk P w K mg base CX0 4 (fn 10) fd ["join", "many"] (spF ⟨K, cl⟩ m_is_join 2) :=
  fn_ok0 F sc_is_join rfl (by decide) fun cdv A outer s H E hr => by
    have sc := sc_is_join
    have O_are_integers := ok_are_integers (P := P) (w := w) (base := base) T
    have O_is_integer := ok_is_integer (P := P) (w := w) (base := base) T
    have hu64 := hr.units
    have hu1 := hu_of hr
    exact ⟨_, (pss_cons (ps_if (PW.pt (pw_or (pt_not (pt_truth (pe_callB call_isi (by rfl) T.b_isinstance (by decide +kernel) (pa_cons (pv 0) (pa_cons (pe_bltn (v := .ty "tuple") (by rfl) T.b_tuple (by decide +kernel) rfl) pa_nil))) (fun _ => rfl))) (pw_or1 (pt_cmpR (op_neD hu64) (pe_callB call_lens (by rfl) T.b_len (by decide +kernel) (pa_cons (pv 0) pa_nil)) pe_int (nomark _))))) (pss_one (ps_ret pe_bl)) pss_nil)
      (pss_one (ps_ret (pe_and (pe_callO O_is_integer (hr.mono (by decide)) T.g_is_integer (pa_cons (pe_ix (ix_all hu1) (pv 0) pe_int (fun _ _ => rfl)) (pa_cons pe_int (pa_cons (pv 1) pa_nil)))) (pe_one (pe_callO O_are_integers (hr.mono (by decide)) T.g_are_integers (pa_cons (pe_ix (ix_all hu1) (pv 0) pe_int (fun _ _ => rfl)) (pa_cons pe_int (pa_cons (pv 1) pa_nil))))))))),
      (semS_seq (semS_if (semT_or (semT_not (semT_tru (sem_is (is_ty (by decide)) (.ty _) sem_var))) (semT_test (sem_op os_ne (sem_cb (cs_or cs_len cs_lenD) (semA_cons sem_var semA_nil)) sem_int))) (semS_ret sem_bl) semS_nx) (semS_ret (sem_andV (sem_call mFn0_len (semA_cons (sem_op os_ixA sem_var sem_int) (semA_cons sem_int (semA_cons sem_var semA_nil)))) (sem_call mFn0_len (semA_cons (sem_op os_ixA sem_var sem_int) (semA_cons sem_int (semA_cons sem_var semA_nil)))))))⟩
theorem ok_is_join (T : Txt P w K mg fn cl) : OkAt P w K mg base CX0 4 (fn 10) ["join", "many"] (spF ⟨K, cl⟩ m_is_join 2) := by
  obtain ⟨fd, F, B⟩ := T.d_is_join.fu
  exact ⟨fd, okF_is_join T F, B, F.kp⟩
def m_are_joins : Fn := mFn0 2 3 (sRet (mAnd (mIs (ansT "tuple") (mVar 0)) (mCB fAll (aCons (mLc (iWalk (mVar 0)) [2] (.nm 2) mYes (mCall m_is_join (aCons (mVar 2) (aCons (mVar 1) aNil)))) aNil))))
theorem sc_are_joins : FnScope ["joins", "many", "join"] ["joins", "many"] (defScope s_are_joins) := ⟨rfl, rfl, rfl, by decide +kernel, rfl, by decide +kernel, by decide +kernel⟩
theorem okF_are_joins (T : Txt P w K mg fn cl) {fd : FuncData} (F : L2.Fun K "are_joins" "are_joins" s_are_joins (fn 11) fd) : FnOk P w K mg base CX0 5 (fn 11) fd ["joins", "many"] (spF ⟨K, cl⟩ m_are_joins 2) :=
  fn_ok0 F sc_are_joins rfl (by decide) fun cdv A outer s H E hr => by
    have sc := sc_are_joins
    have O_is_join := ok_is_join (P := P) (w := w) (base := base) T
    exact ⟨_, (pss_one (ps_ret (pe_and (pe_callB call_isi (by rfl) T.b_isinstance (by decide +kernel) (pa_cons (pv 0) (pa_cons (pe_bltn (v := .ty "tuple") (by rfl) T.b_tuple (by decide +kernel) rfl) pa_nil))) (pe_one (pe_callB (cr_all rfl) (by rfl) T.b_all (by decide +kernel) (pa_cons (pe_lc (own := [("join", 2)]) rfl sc.nd (pi_seqV (pv 0)) (by show BlkOk ["joins", "many", "join"] (defScope s_are_joins) _ _; exact ⟨rfl, by decide +kernel, by decide +kernel, by decide +kernel, by decide +kernel⟩) (fun _ _ _ _ _ => (pg_name (i := 2) sc.nd rfl (Or.inl rfl))) (fun _ _ _ _ _ => pts_nil) (fun _ _ _ _ _ => (pe_callO O_is_join (hr.mono (by decide)) T.g_is_join (pa_cons (pv 2) (pa_cons (pv 1) pa_nil))))) pa_nil)))))),
      (semS_ret (sem_andV (sem_is (is_ty (by decide)) (.ty _) sem_var) (sem_cb cs_all (semA_cons (sem_lc (E1 := E0) (E2 := E0) (semI_walk (E := E0) sem_var) g_name semT_yes (sem_call mFn0_len (semA_cons sem_var (semA_cons sem_var semA_nil))) (by decide)) semA_nil))))⟩
theorem ok_are_joins (T : Txt P w K mg fn cl) : OkAt P w K mg base CX0 5 (fn 11) ["joins", "many"] (spF ⟨K, cl⟩ m_are_joins 2) := by
  obtain ⟨fd, F, B⟩ := T.d_are_joins.fu
  exact ⟨fd, okF_are_joins T F, B, F.kp⟩
def m_all_points : Fn := mFn0 1 3 (sRet (mLc2 (iRange1 (aCons (mCB (fOr1 fLen fLenD) (aCons (mVar 0) aNil)) aNil)) [1, 2] (.nm 1) (iRange1 (aCons (mOp2 fAddA (mCB (fOr1 fLen fLenD) (aCons (mOp2 fIxA (mOp2 fIxA (mVar 0) (mVar 1)) (mUn fNeg (mC (.int (2))))) aNil)) (mC (.int (1)))) aNil)) [2] (.nm 2) mYes (mTup (aCons (mVar 1) (aCons (mVar 2) aNil)))))
theorem sc_all_points : FnScope ["blocks", "block", "done"] ["blocks"] (defScope s_all_points) := ⟨rfl, rfl, rfl, by decide +kernel, rfl, by decide +kernel, by decide +kernel⟩
theorem okF_all_points (T : Txt P w K mg fn cl) {fd : FuncData} (F : L2.Fun K "all_points" "all_points" s_all_points (fn 15) fd) : FnOk P w K mg base CX0 1 (fn 15) fd ["blocks"] (spF ⟨K, cl⟩ m_all_points 1) :=
  fn_ok0 F sc_all_points rfl (by decide) fun cdv A outer s H E hr => by
    have sc := sc_all_points
    have hu1 := hu_of hr
    exact ⟨_, (pss_one (ps_ret (pe_lc2 (own := [("block", 1), ("done", 2)]) (vs1 := [2]) rfl sc.nd (pi_range1 (by rfl) T.b_range (pa_cons (pe_callB call_lens (by rfl) T.b_len (by decide +kernel) (pa_cons (pv 0) pa_nil)) pa_nil)) (by show BlkOk ["blocks", "block", "done"] (defScope s_all_points) _ _; exact ⟨rfl, by decide +kernel, by decide +kernel, by decide +kernel, by decide +kernel⟩) (by decide) (fun _ _ _ _ _ => (pg_name (i := 1) sc.nd rfl (Or.inl rfl))) (fun _ _ _ _ _ => pts_nil) (fun _ _ _ _ _ => (pi_range1 (by rfl) T.b_range (pa_cons (pe_op op_addA (pe_callB call_lens (by rfl) T.b_len (by decide +kernel) (pa_cons (pe_ix (ix_all hu1) (pe_ix (ix_all hu1) (pv 0) (pv 1) (fun _ _ => rfl)) (pe_un un_neg pe_int) (fun _ _ => rfl)) pa_nil)) pe_int) pa_nil))) (fun _ _ _ _ _ => (pg_name (i := 2) sc.nd rfl (Or.inl rfl))) (fun _ _ _ _ _ => pts_nil) (fun _ _ _ _ _ => (pe_tup (pa_cons (pv 1) (pa_cons (pv 2) pa_nil))))))),
      (semS_ret (sem_lc2 (E1 := E0) (E2 := E0) (semI_range1 (E := E0) (semA_cons (sem_cb (cs_or cs_len cs_lenD) (semA_cons sem_var semA_nil)) semA_nil)) g_name (semI_range1 (E := E0) (semA_cons (sem_op os_addA (sem_cb (cs_or cs_len cs_lenD) (semA_cons (sem_op os_ixA (sem_op os_ixA sem_var sem_var) (sem_neg sem_int)) semA_nil)) sem_int) semA_nil)) g_name semT_yes (sem_tup (semA_cons sem_var (semA_cons sem_var semA_nil))) (by decide) (by decide) (by decide)))⟩
theorem ok_all_points (T : Txt P w K mg fn cl) : OkAt P w K mg base CX0 1 (fn 15) ["blocks"] (spF ⟨K, cl⟩ m_all_points 1) := by
  obtain ⟨fd, F, B⟩ := T.d_all_points.fu
  exact ⟨fd, okF_all_points T F, B, F.kp⟩
def m_check_block : Fn := mFn 2 2 (sIf (mNot (mTru (mCall m_is_integer (aCons (mVar 1) (aCons (mC (.int (0))) (aCons (mCB (fOr1 fLen fLenD) (aCons (mVar 0) aNil)) aNil)))))) (sRaise0 2) sNx)
theorem sc_check_block : FnScope ["blocks", "block"] ["blocks", "block"] (defScope s_check_block) := ⟨rfl, rfl, rfl, by decide +kernel, rfl, by decide +kernel, by decide +kernel⟩
theorem ok_check_block (T : Txt P w K mg fn cl) {fd : FuncData} (F : L2.Fun K "check_block" "check_block" s_check_block (fn 16) fd) : FnOk P w K mg base (L2.CX P w) 4 (fn 16) fd ["blocks", "block"] (spF ⟨K, cl⟩ m_check_block 2) :=
  okx F sc_check_block rfl (by decide) fun cdv A outer s H E hr => by
    have sc := sc_check_block
    have O_is_integer := ok_is_integer (P := P) (w := w) (base := base) T
    exact ⟨_, (pss_one (ps_if (pt_not (pt_truth (pe_callO O_is_integer (hr.mono (by decide)) T.g_is_integer (pa_cons (pv 1) (pa_cons pe_int (pa_cons (pe_callB call_lens (by rfl) T.b_len (by decide +kernel) (pa_cons (pv 0) pa_nil)) pa_nil)))) (fun _ => rfl))) (pss_one (ps_raise0 rfl (takes_of rfl rfl rfl rfl) T.o_BadBlock.1 T.o_BadBlock.2)) pss_nil)),
      (semS_if (semT_not (semT_tru (sem_callE (.inr mFn0_noex) mFn0_len (semA_cons sem_var (semA_cons sem_int (semA_cons (sem_cb (cs_or cs_len cs_lenD) (semA_cons sem_var semA_nil)) semA_nil)))))) (semS_raise0 (c := 2)) semS_nx)⟩
theorem okr_check_block (T : Txt P w K mg fn cl) : OkAt P w K mg base (L2.CX P w) 4 (fn 16) ["blocks", "block"] (spF ⟨K, cl⟩ m_check_block 2) := by
  obtain ⟨fd, F, B⟩ := T.d_check_block.fu
  exact ⟨fd, ok_check_block T F, B, F.kp⟩
def m_check_variable : Fn := mFn 2 2 (sIf (mNot (mTru (mCall m_is_integer (aCons (mVar 1) (aCons (mC (.int (0))) (aCons (mVar 0) aNil)))))) (sRaise0 3) sNx)
theorem sc_check_variable : FnScope ["many", "variable"] ["many", "variable"] (defScope s_check_variable) := ⟨rfl, rfl, rfl, by decide +kernel, rfl, by decide +kernel, by decide +kernel⟩
theorem ok_check_variable (T : Txt P w K mg fn cl) {fd : FuncData} (F : L2.Fun K "check_variable" "check_variable" s_check_variable (fn 17) fd) : FnOk P w K mg base (L2.CX P w) 4 (fn 17) fd ["many", "variable"] (spF ⟨K, cl⟩ m_check_variable 2) :=
  okx F sc_check_variable rfl (by decide) fun cdv A outer s H E hr => by
    have sc := sc_check_variable
    have O_is_integer := ok_is_integer (P := P) (w := w) (base := base) T
    exact ⟨_, (pss_one (ps_if (pt_not (pt_truth (pe_callO O_is_integer (hr.mono (by decide)) T.g_is_integer (pa_cons (pv 1) (pa_cons pe_int (pa_cons (pv 0) pa_nil)))) (fun _ => rfl))) (pss_one (ps_raise0 rfl (takes_of rfl rfl rfl rfl) T.o_BadVariable.1 T.o_BadVariable.2)) pss_nil)),
      (semS_if (semT_not (semT_tru (sem_callE (.inr mFn0_noex) mFn0_len (semA_cons sem_var (semA_cons sem_int (semA_cons sem_var semA_nil)))))) (semS_raise0 (c := 3)) semS_nx)⟩
theorem okr_check_variable (T : Txt P w K mg fn cl) : OkAt P w K mg base (L2.CX P w) 4 (fn 17) ["many", "variable"] (spF ⟨K, cl⟩ m_check_variable 2) := by
  obtain ⟨fd, F, B⟩ := T.d_check_variable.fu
  exact ⟨fd, ok_check_variable T F, B, F.kp⟩
def m_defined_by : Fn := mFn0 1 1 (sRet (mIf (mOp2 fEq (mOp2 fIxA (mVar 0) (mC (.int (0)))) (mC (.str "tell"))) (mTup aNil) (mSl (mVar 0) (oPart (mC (.int (1)))) (oPart (mC (.int (2)))))))
theorem sc_defined_by : FnScope ["row"] ["row"] (defScope s_defined_by) := ⟨rfl, rfl, rfl, by decide +kernel, rfl, by decide +kernel, by decide +kernel⟩
theorem okF_defined_by (T : Txt P w K mg fn cl) {fd : FuncData} (F : L2.Fun K "defined_by" "defined_by" s_defined_by (fn 18) fd) : FnOk P w K mg base CX0 1 (fn 18) fd ["row"] (spF ⟨K, cl⟩ m_defined_by 1) :=
  fn_ok0 F sc_defined_by rfl (by decide) fun cdv A outer s H E hr => by
    have sc := sc_defined_by
    have hu64 := hr.units
    have hu1 := hu_of hr
    exact ⟨_, (pss_one (ps_ret (pe_ifExp (pt_cmpR (op_eqD hu64) (pe_ix (ix_all hu1) (pv 0) pe_int (fun _ _ => rfl)) pe_str (nomark _)) (pe_tup pa_nil) (pe_slice sl_any (pv 0) (po_some pe_int) (po_some pe_int))))),
      (semS_ret (sem_if (semT_test (sem_op os_eq (sem_op os_ixA sem_var sem_int) sem_str)) (sem_tup semA_nil) (sem_sl sem_var (semO_part sem_int) (semO_part sem_int))))⟩
theorem ok_defined_by (T : Txt P w K mg fn cl) : OkAt P w K mg base CX0 1 (fn 18) ["row"] (spF ⟨K, cl⟩ m_defined_by 1) := by
  obtain ⟨fd, F, B⟩ := T.d_defined_by.fu
  exact ⟨fd, okF_defined_by T F, B, F.kp⟩
def m_used_by : Fn := mFn0 1 1 (sSeq (sIf (mOp2 fEq (mOp2 fIxA (mVar 0) (mC (.int (0)))) (mC (.str "tell"))) (sRet (mSl (mVar 0) (oPart (mC (.int (1)))) oNone)) sNx) (sSeq (sIf (mOp2 fEq (mOp2 fIxA (mVar 0) (mC (.int (0)))) (mC (.str "put"))) (sRet (mTup aNil)) sNx) (sRet (mSl (mVar 0) (oPart (mC (.int (2)))) oNone))))
theorem sc_used_by : FnScope ["row"] ["row"] (defScope s_used_by) := ⟨rfl, rfl, rfl, by decide +kernel, rfl, by decide +kernel, by decide +kernel⟩
theorem okF_used_by (T : Txt P w K mg fn cl) {fd : FuncData} (F : L2.Fun K "used_by" "used_by" s_used_by (fn 19) fd) : FnOk P w K mg base CX0 1 (fn 19) fd ["row"] (spF ⟨K, cl⟩ m_used_by 1) :=
  fn_ok0 F sc_used_by rfl (by decide) fun cdv A outer s H E hr => by
    have sc := sc_used_by
    have hu64 := hr.units
    have hu1 := hu_of hr
    exact ⟨_, (pss_cons (ps_if (pt_cmpR (op_eqD hu64) (pe_ix (ix_all hu1) (pv 0) pe_int (fun _ _ => rfl)) pe_str (nomark _)) (pss_one (ps_ret (pe_slice sl_any (pv 0) (po_some pe_int) po_none))) pss_nil)
      (pss_cons (ps_if (pt_cmpR (op_eqD hu64) (pe_ix (ix_all hu1) (pv 0) pe_int (fun _ _ => rfl)) pe_str (nomark _)) (pss_one (ps_ret (pe_tup pa_nil))) pss_nil)
      (pss_one (ps_ret (pe_slice sl_any (pv 0) (po_some pe_int) po_none))))),
      (semS_seq (semS_if (semT_test (sem_op os_eq (sem_op os_ixA sem_var sem_int) sem_str)) (semS_ret (sem_sl sem_var (semO_part sem_int) semO_none)) semS_nx) (semS_seq (semS_if (semT_test (sem_op os_eq (sem_op os_ixA sem_var sem_int) sem_str)) (semS_ret (sem_tup semA_nil)) semS_nx) (semS_ret (sem_sl sem_var (semO_part sem_int) semO_none))))⟩
theorem ok_used_by (T : Txt P w K mg fn cl) : OkAt P w K mg base CX0 1 (fn 19) ["row"] (spF ⟨K, cl⟩ m_used_by 1) := by
  obtain ⟨fd, F, B⟩ := T.d_used_by.fu
  exact ⟨fd, okF_used_by T F, B, F.kp⟩
def m_used_by_end : Fn := mFn0 1 1 (sRet (mIf (mOp2 fEq (mOp2 fIxA (mVar 0) (mC (.int (0)))) (mC (.str "part"))) (mSl (mVar 0) (oPart (mC (.int (1)))) (oPart (mC (.int (2))))) (mTup aNil)))
theorem sc_used_by_end : FnScope ["end"] ["end"] (defScope s_used_by_end) := ⟨rfl, rfl, rfl, by decide +kernel, rfl, by decide +kernel, by decide +kernel⟩
theorem okF_used_by_end (T : Txt P w K mg fn cl) {fd : FuncData} (F : L2.Fun K "used_by_end" "used_by_end" s_used_by_end (fn 20) fd) : FnOk P w K mg base CX0 1 (fn 20) fd ["end"] (spF ⟨K, cl⟩ m_used_by_end 1) :=
  fn_ok0 F sc_used_by_end rfl (by decide) fun cdv A outer s H E hr => by
    have sc := sc_used_by_end
    have hu64 := hr.units
    have hu1 := hu_of hr
    exact ⟨_, (pss_one (ps_ret (pe_ifExp (pt_cmpR (op_eqD hu64) (pe_ix (ix_all hu1) (pv 0) pe_int (fun _ _ => rfl)) pe_str (nomark _)) (pe_slice sl_any (pv 0) (po_some pe_int) (po_some pe_int)) (pe_tup pa_nil)))),
      (semS_ret (sem_if (semT_test (sem_op os_eq (sem_op os_ixA sem_var sem_int) sem_str)) (sem_sl sem_var (semO_part sem_int) (semO_part sem_int)) (sem_tup semA_nil)))⟩
theorem ok_used_by_end (T : Txt P w K mg fn cl) : OkAt P w K mg base CX0 1 (fn 20) ["end"] (spF ⟨K, cl⟩ m_used_by_end 1) := by
  obtain ⟨fd, F, B⟩ := T.d_used_by_end.fu
  exact ⟨fd, okF_used_by_end T F, B, F.kp⟩
def m_followers_of : Fn := mFn0 2 3 (sSeq (sAsgV 2 (mOp2 fIxA (mOp2 fIxA (mVar 0) (mVar 1)) (mUn fNeg (mC (.int (1)))))) (sRet (mIf (mOp2 fEq (mOp2 fIxA (mVar 2) (mC (.int (0)))) (mC (.str "part"))) (mSl (mVar 2) (oPart (mC (.int (2)))) oNone) (mSl (mVar 2) (oPart (mC (.int (1)))) oNone))))
theorem sc_followers_of : FnScope ["blocks", "block", "end"] ["blocks", "block"] (defScope s_followers_of) := ⟨rfl, rfl, rfl, by decide +kernel, rfl, by decide +kernel, by decide +kernel⟩
theorem okF_followers_of (T : Txt P w K mg fn cl) {fd : FuncData} (F : L2.Fun K "followers_of" "followers_of" s_followers_of (fn 21) fd) : FnOk P w K mg base CX0 1 (fn 21) fd ["blocks", "block"] (spF ⟨K, cl⟩ m_followers_of 2) :=
  fn_ok0 F sc_followers_of rfl (by decide) fun cdv A outer s H E hr => by
    have sc := sc_followers_of
    have hu64 := hr.units
    have hu1 := hu_of hr
    exact ⟨_, (pss_cons (ps_set (i := 2) sc.nd rfl (Or.inl rfl) (pe_ix (ix_all hu1) (pe_ix (ix_all hu1) (pv 0) (pv 1) (fun _ _ => rfl)) (pe_un un_neg pe_int) (fun _ _ => rfl)))
      (pss_one (ps_ret (pe_ifExp (pt_cmpR (op_eqD hu64) (pe_ix (ix_all hu1) (pv 2) pe_int (fun _ _ => rfl)) pe_str (nomark _)) (pe_slice sl_any (pv 2) (po_some pe_int) po_none) (pe_slice sl_any (pv 2) (po_some pe_int) po_none))))),
      (semS_seq (semS_asgV (sem_op os_ixA (sem_op os_ixA sem_var sem_var) (sem_neg sem_int))) (semS_ret (sem_if (semT_test (sem_op os_eq (sem_op os_ixA sem_var sem_int) sem_str)) (sem_sl sem_var (semO_part sem_int) semO_none) (sem_sl sem_var (semO_part sem_int) semO_none))))⟩
theorem ok_followers_of (T : Txt P w K mg fn cl) : OkAt P w K mg base CX0 1 (fn 21) ["blocks", "block"] (spF ⟨K, cl⟩ m_followers_of 2) := by
  obtain ⟨fd, F, B⟩ := T.d_followers_of.fu
  exact ⟨fd, okF_followers_of T F, B, F.kp⟩
def m_edges_of : Fn := mFn0 2 6 (sSeq (sAsgO 2 (mLst aNil)) (sSeq (sFor (iRange1 (aCons (mCB (fOr1 fLen fLenD) (aCons (mVar 0) aNil)) aNil)) (.nm 3) (sFor (iEnu (aCons (mCall m_followers_of (aCons (mVar 0) (aCons (mVar 3) aNil))) aNil)) (.tu ((.nm 4) :: (.nm 5) :: [])) (sIf (mOp2 fEq (mVar 5) (mVar 1)) (sDrop (mApp 2 (mTup (aCons (mVar 3) (aCons (mVar 4) aNil))))) sNx))) (sRet (mMv 2))))
theorem sc_edges_of : FnScope ["blocks", "target", "found", "block", "way", "follower"] ["blocks", "target"] (defScope s_edges_of) := ⟨rfl, rfl, rfl, by decide +kernel, rfl, by decide +kernel, by decide +kernel⟩
theorem okF_edges_of (T : Txt P w K mg fn cl) {fd : FuncData} (F : L2.Fun K "edges_of" "edges_of" s_edges_of (fn 22) fd) : FnOk P w K mg base CX0 2 (fn 22) fd ["blocks", "target"] (spF ⟨K, cl⟩ m_edges_of 2) :=
  fn_ok0 F sc_edges_of rfl (by decide) fun cdv A outer s H E hr => by
    have sc := sc_edges_of
    have O_followers_of := ok_followers_of (P := P) (w := w) (base := base) T
    have hu64 := hr.units
    exact ⟨_, (pss_cons (ps_set (i := 2) sc.nd rfl (Or.inl rfl) (pe_lst pa_nil))
      (pss_cons (ps_for PassesOwn.never rfl (pi_range1 (by rfl) T.b_range (pa_cons (pe_callB call_lens (by rfl) T.b_len (by decide +kernel) (pa_cons (pv 0) pa_nil)) pa_nil)) (pg_name (i := 3) sc.nd rfl (Or.inl rfl)) (pss_one (ps_for PassesOwn.never rfl (pi_enumV (by rfl) T.b_enumerate (pa_cons (pe_callO O_followers_of (hr.mono (by decide)) T.g_followers_of (pa_cons (pv 0) (pa_cons (pv 3) pa_nil))) pa_nil)) (pg_tup (n := 2) rfl (pgs_cons (pg_name (i := 4) sc.nd rfl (Or.inl rfl)) (pgs_cons (pg_name (i := 5) sc.nd rfl (Or.inl rfl)) pgs_nil))) (pss_one (ps_if (pt_cmpR (op_eqD hu64) (pv 5) (pv 1) (nomark _)) (pss_one (ps_expr (pe_bm PySem.F.plainAttrs_list PySem.F.slot_list_append PySem.F.type_list_append mt_append (pv 2) (pa_cons (pe_tup (pa_cons (pv 3) (pa_cons (pv 4) pa_nil))) pa_nil)))) pss_nil)))))
      (pss_one (ps_ret (pv 2))))),
      (semS_seq (semS_asgO (sem_lst semA_nil)) (semS_seq (semS_for (semI_range1 (E := E0) (semA_cons (sem_cb (cs_or cs_len cs_lenD) (semA_cons sem_var semA_nil)) semA_nil)) g_name (semS_for (semI_enum (E := E0) (semA_cons (sem_call mFn0_len (semA_cons sem_var (semA_cons sem_var semA_nil))) semA_nil)) (g_tup (gs_cons g_name (gs_cons g_name gs_nil))) (semS_if (semT_test (sem_op os_eq sem_var sem_var)) (semS_drop (sem_app (sem_tup (semA_cons sem_var (semA_cons sem_var semA_nil))))) semS_nx))) (semS_ret sem_mv)))⟩
theorem ok_edges_of (T : Txt P w K mg fn cl) : OkAt P w K mg base CX0 2 (fn 22) ["blocks", "target"] (spF ⟨K, cl⟩ m_edges_of 2) := by
  obtain ⟨fd, F, B⟩ := T.d_edges_of.fu
  exact ⟨fd, okF_edges_of T F, B, F.kp⟩
def m_joins_of : Fn := mFn0 2 2 (sRet (mIf (mOp2 fEq (mCB (fOr1 fLen fLenD) (aCons (mOp2 fIxA (mVar 0) (mVar 1)) aNil)) (mC (.int (3)))) (mOp2 fIxA (mOp2 fIxA (mVar 0) (mVar 1)) (mC (.int (0)))) (mTup aNil)))
theorem sc_joins_of : FnScope ["blocks", "block"] ["blocks", "block"] (defScope s_joins_of) := ⟨rfl, rfl, rfl, by decide +kernel, rfl, by decide +kernel, by decide +kernel⟩
theorem okF_joins_of (T : Txt P w K mg fn cl) {fd : FuncData} (F : L2.Fun K "joins_of" "joins_of" s_joins_of (fn 23) fd) : FnOk P w K mg base CX0 1 (fn 23) fd ["blocks", "block"] (spF ⟨K, cl⟩ m_joins_of 2) :=
  fn_ok0 F sc_joins_of rfl (by decide) fun cdv A outer s H E hr => by
    have sc := sc_joins_of
    have hu64 := hr.units
    have hu1 := hu_of hr
    exact ⟨_, (pss_one (ps_ret (pe_ifExp (pt_cmpR (op_eqD hu64) (pe_callB call_lens (by rfl) T.b_len (by decide +kernel) (pa_cons (pe_ix (ix_all hu1) (pv 0) (pv 1) (fun _ _ => rfl)) pa_nil)) pe_int (nomark _)) (pe_ix (ix_all hu1) (pe_ix (ix_all hu1) (pv 0) (pv 1) (fun _ _ => rfl)) pe_int (fun _ _ => rfl)) (pe_tup pa_nil)))),
      (semS_ret (sem_if (semT_test (sem_op os_eq (sem_cb (cs_or cs_len cs_lenD) (semA_cons (sem_op os_ixA sem_var sem_var) semA_nil)) sem_int)) (sem_op os_ixA (sem_op os_ixA sem_var sem_var) sem_int) (sem_tup semA_nil)))⟩
theorem ok_joins_of (T : Txt P w K mg fn cl) : OkAt P w K mg base CX0 1 (fn 23) ["blocks", "block"] (spF ⟨K, cl⟩ m_joins_of 2) := by
  obtain ⟨fd, F, B⟩ := T.d_joins_of.fu
  exact ⟨fd, okF_joins_of T F, B, F.kp⟩
def m_carried : Fn := mFn0 2 9 (sSeq (sAsgP (.tu ((.nm 2) :: (.nm 3) :: [])) (mVar 1)) (sSeq (sAsgV 4 (mOp2 fIxA (mCall m_followers_of (aCons (mVar 0) (aCons (mVar 2) aNil))) (mVar 3))) (sSeq (sAsgV 5 (mCall m_joins_of (aCons (mVar 0) (aCons (mVar 4) aNil)))) (sSeq (sIf (mNot (mTru (mVar 5))) (sRet (mLst aNil)) sNx) (sSeq (sAsgV 6 (mIdx (mCall m_edges_of (aCons (mVar 0) (aCons (mVar 4) aNil))) (mVar 1))) (sRet (mLc (iWalk (mVar 5)) [7, 8] (.tu ((.nm 7) :: (.nm 8) :: [])) mYes (mTup (aCons (mVar 7) (aCons (mOp2 fIxA (mVar 8) (mVar 6)) aNil))))))))))
theorem sc_carried : FnScope ["blocks", "edge", "block", "way", "target", "joins", "place", "variable", "sources"] ["blocks", "edge"] (defScope s_carried) := ⟨rfl, rfl, rfl, by decide +kernel, rfl, by decide +kernel, by decide +kernel⟩
theorem okF_carried (T : Txt P w K mg fn cl) {fd : FuncData} (F : L2.Fun K "carried" "carried" s_carried (fn 24) fd) : FnOk P w K mg base CX0 3 (fn 24) fd ["blocks", "edge"] (spF ⟨K, cl⟩ m_carried 2) :=
  fn_ok0 F sc_carried rfl (by decide) fun cdv A outer s H E hr => by
    have sc := sc_carried
    have O_edges_of := ok_edges_of (P := P) (w := w) (base := base) T
    have O_followers_of := ok_followers_of (P := P) (w := w) (base := base) T
    have O_joins_of := ok_joins_of (P := P) (w := w) (base := base) T
    have hu65 := hu65_of hr
    have hu1 := hu_of hr
    exact ⟨_, (pss_cons (ps_asg (pv 1) (pg_tup (n := 2) rfl (pgs_cons (pg_name (i := 2) sc.nd rfl (Or.inl rfl)) (pgs_cons (pg_name (i := 3) sc.nd rfl (Or.inl rfl)) pgs_nil))))
      (pss_cons (ps_set (i := 4) sc.nd rfl (Or.inl rfl) (pe_ix (ix_all hu1) (pe_callO O_followers_of (hr.mono (by decide)) T.g_followers_of (pa_cons (pv 0) (pa_cons (pv 2) pa_nil))) (pv 3) (fun _ _ => rfl)))
      (pss_cons (ps_set (i := 5) sc.nd rfl (Or.inl rfl) (pe_callO O_joins_of (hr.mono (by decide)) T.g_joins_of (pa_cons (pv 0) (pa_cons (pv 4) pa_nil))))
      (pss_cons (ps_if (pt_not (pt_truth (pv 5) (fun _ => rfl))) (pss_one (ps_ret (pe_lst pa_nil))) pss_nil)
      (pss_cons (ps_set (i := 6) sc.nd rfl (Or.inr rfl) (pe_bm PySem.F.plainAttrs_list PySem.F.slot_list_index PySem.F.type_list_index (mt_indexD hu65) (pe_callO O_edges_of (hr.mono (by decide)) T.g_edges_of (pa_cons (pv 0) (pa_cons (pv 4) pa_nil))) (pa_cons (pv 1) pa_nil)))
      (pss_one (ps_ret (pe_lc (own := [("variable", 7), ("sources", 8)]) rfl sc.nd (pi_seqV (pv 5)) (by show BlkOk ["blocks", "edge", "block", "way", "target", "joins", "place", "variable", "sources"] (defScope s_carried) _ _; exact ⟨rfl, by decide +kernel, by decide +kernel, by decide +kernel, by decide +kernel⟩) (fun _ _ _ _ _ => (pg_tup (n := 2) rfl (pgs_cons (pg_name (i := 7) sc.nd rfl (Or.inl rfl)) (pgs_cons (pg_name (i := 8) sc.nd rfl (Or.inl rfl)) pgs_nil)))) (fun _ _ _ _ _ => pts_nil) (fun _ _ _ _ _ => (pe_tup (pa_cons (pv 7) (pa_cons (pe_ix (ix_all hu1) (pv 8) (pv 6) (fun _ _ => rfl)) pa_nil)))))))))))),
      (semS_seq (semS_asgP (g_tup (gs_cons g_name (gs_cons g_name gs_nil))) sem_var) (semS_seq (semS_asgV (sem_op os_ixA (sem_call mFn0_len (semA_cons sem_var (semA_cons sem_var semA_nil))) sem_var)) (semS_seq (semS_asgV (sem_call mFn0_len (semA_cons sem_var (semA_cons sem_var semA_nil)))) (semS_seq (semS_if (semT_not (semT_tru sem_var)) (semS_ret (sem_lst semA_nil)) semS_nx) (semS_seq (semS_asgV (sem_idx (sem_call mFn0_len (semA_cons sem_var (semA_cons sem_var semA_nil))) sem_var)) (semS_ret (sem_lc (E1 := E0) (E2 := E0) (semI_walk (E := E0) sem_var) (g_tup (gs_cons g_name (gs_cons g_name gs_nil))) semT_yes (sem_tup (semA_cons sem_var (semA_cons (sem_op os_ixA sem_var sem_var) semA_nil))) (by decide))))))))⟩
theorem ok_carried (T : Txt P w K mg fn cl) : OkAt P w K mg base CX0 3 (fn 24) ["blocks", "edge"] (spF ⟨K, cl⟩ m_carried 2) := by
  obtain ⟨fd, F, B⟩ := T.d_carried.fu
  exact ⟨fd, okF_carried T F, B, F.kp⟩
def m_defined_ahead : Fn := mFn0 2 6 (sSeq (sAsgP (.tu ((.nm 2) :: (.nm 3) :: [])) (mVar 1)) (sSeq (sIf (mOp2 (fCmp fun i j => decide (j < i)) (mVar 3) (mC (.int (0)))) (sRet (mCB (fOr1 fList fListD) (aCons (mCall m_defined_by (aCons (mOp2 fIxA (mOp2 fIxA (mOp2 fIxA (mVar 0) (mVar 2)) (mUn fNeg (mC (.int (2))))) (mOp2 (fInt fun i j => i - j) (mVar 3) (mC (.int (1))))) aNil)) aNil))) sNx) (sRet (mLc (iWalk (mCall m_joins_of (aCons (mVar 0) (aCons (mVar 2) aNil)))) [4, 5] (.tu ((.nm 4) :: (.nm 5) :: [])) mYes (mVar 4)))))
theorem sc_defined_ahead : FnScope ["blocks", "point", "block", "done", "variable", "_"] ["blocks", "point"] (defScope s_defined_ahead) := ⟨rfl, rfl, rfl, by decide +kernel, rfl, by decide +kernel, by decide +kernel⟩
theorem okF_defined_ahead (T : Txt P w K mg fn cl) {fd : FuncData} (F : L2.Fun K "defined_ahead" "defined_ahead" s_defined_ahead (fn 25) fd) : FnOk P w K mg base CX0 2 (fn 25) fd ["blocks", "point"] (spF ⟨K, cl⟩ m_defined_ahead 2) :=
  fn_ok0 F sc_defined_ahead rfl (by decide) fun cdv A outer s H E hr => by
    have sc := sc_defined_ahead
    have O_defined_by := ok_defined_by (P := P) (w := w) (base := base) T
    have O_joins_of := ok_joins_of (P := P) (w := w) (base := base) T
    have hu1 := hu_of hr
    exact ⟨_, (pss_cons (ps_asg (pv 1) (pg_tup (n := 2) rfl (pgs_cons (pg_name (i := 2) sc.nd rfl (Or.inl rfl)) (pgs_cons (pg_name (i := 3) sc.nd rfl (Or.inl rfl)) pgs_nil))))
      (pss_cons (ps_if (pt_cmpR op_gt (pv 3) pe_int (nomark _)) (pss_one (ps_ret (pe_callTy (call_lists rfl) (by rfl) T.b_list (by decide +kernel) (pa_cons (pe_callO O_defined_by (hr.mono (by decide)) T.g_defined_by (pa_cons (pe_ix (ix_all hu1) (pe_ix (ix_all hu1) (pe_ix (ix_all hu1) (pv 0) (pv 2) (fun _ _ => rfl)) (pe_un un_neg pe_int) (fun _ _ => rfl)) (pe_op op_sub (pv 3) pe_int) (fun _ _ => rfl)) pa_nil)) pa_nil)))) pss_nil)
      (pss_one (ps_ret (pe_lc (own := [("variable", 4), ("_", 5)]) rfl sc.nd (pi_seqV (pe_callO O_joins_of (hr.mono (by decide)) T.g_joins_of (pa_cons (pv 0) (pa_cons (pv 2) pa_nil)))) (by show BlkOk ["blocks", "point", "block", "done", "variable", "_"] (defScope s_defined_ahead) _ _; exact ⟨rfl, by decide +kernel, by decide +kernel, by decide +kernel, by decide +kernel⟩) (fun _ _ _ _ _ => (pg_tup (n := 2) rfl (pgs_cons (pg_name (i := 4) sc.nd rfl (Or.inl rfl)) (pgs_cons (pg_name (i := 5) sc.nd rfl (Or.inl rfl)) pgs_nil)))) (fun _ _ _ _ _ => pts_nil) (fun _ _ _ _ _ => (pv 4))))))),
      (semS_seq (semS_asgP (g_tup (gs_cons g_name (gs_cons g_name gs_nil))) sem_var) (semS_seq (semS_if (semT_test (sem_op os_cmp sem_var sem_int)) (semS_ret (sem_cb (cs_or cs_list cs_listD) (semA_cons (sem_call mFn0_len (semA_cons (sem_op os_ixA (sem_op os_ixA (sem_op os_ixA sem_var sem_var) (sem_neg sem_int)) (sem_op os_int sem_var sem_int)) semA_nil)) semA_nil))) semS_nx) (semS_ret (sem_lc (E1 := E0) (E2 := E0) (semI_walk (E := E0) (sem_call mFn0_len (semA_cons sem_var (semA_cons sem_var semA_nil)))) (g_tup (gs_cons g_name (gs_cons g_name gs_nil))) semT_yes sem_var (by decide)))))⟩
theorem ok_defined_ahead (T : Txt P w K mg fn cl) : OkAt P w K mg base CX0 2 (fn 25) ["blocks", "point"] (spF ⟨K, cl⟩ m_defined_ahead 2) := by
  obtain ⟨fd, F, B⟩ := T.d_defined_ahead.fu
  exact ⟨fd, okF_defined_ahead T F, B, F.kp⟩
def m_used_behind : Fn := mFn0 2 10 (sSeq (sAsgP (.tu ((.nm 2) :: (.nm 3) :: [])) (mVar 1)) (sSeq (sAsgP (.tu ((.nm 4) :: (.nm 5) :: [])) (mSl (mOp2 fIxA (mVar 0) (mVar 2)) (oPart (mUn fNeg (mC (.int (2))))) oNone)) (sSeq (sIf (mOp2 (fCmp fun i j => decide (i < j)) (mVar 3) (mCB (fOr1 fLen fLenD) (aCons (mVar 4) aNil))) (sRet (mCB (fOr1 fList fListD) (aCons (mCall m_used_by (aCons (mOp2 fIxA (mVar 4) (mVar 3)) aNil)) aNil))) sNx) (sSeq (sAsgO 6 (mCB (fOr1 fList fListD) (aCons (mCall m_used_by_end (aCons (mVar 5) aNil)) aNil))) (sSeq (sFor (iRange1 (aCons (mCB (fOr1 fLen fLenD) (aCons (mCall m_followers_of (aCons (mVar 0) (aCons (mVar 2) aNil))) aNil)) aNil)) (.nm 7) (sDrop (mExt 6 (mLc (iWalk (mCall m_carried (aCons (mVar 0) (aCons (mTup (aCons (mVar 2) (aCons (mVar 7) aNil))) aNil)))) [8, 9] (.tu ((.nm 8) :: (.nm 9) :: [])) mYes (mVar 9))))) (sRet (mMv 6)))))))
theorem sc_used_behind : FnScope ["blocks", "point", "block", "done", "rows", "end", "used", "way", "_", "source"] ["blocks", "point"] (defScope s_used_behind) := ⟨rfl, rfl, rfl, by decide +kernel, rfl, by decide +kernel, by decide +kernel⟩
theorem okF_used_behind (T : Txt P w K mg fn cl) {fd : FuncData} (F : L2.Fun K "used_behind" "used_behind" s_used_behind (fn 26) fd) : FnOk P w K mg base CX0 4 (fn 26) fd ["blocks", "point"] (spF ⟨K, cl⟩ m_used_behind 2) :=
  fn_ok0 F sc_used_behind rfl (by decide) fun cdv A outer s H E hr => by
    have sc := sc_used_behind
    have O_carried := ok_carried (P := P) (w := w) (base := base) T
    have O_followers_of := ok_followers_of (P := P) (w := w) (base := base) T
    have O_used_by := ok_used_by (P := P) (w := w) (base := base) T
    have O_used_by_end := ok_used_by_end (P := P) (w := w) (base := base) T
    have hu1 := hu_of hr
    exact ⟨_, (pss_cons (ps_asg (pv 1) (pg_tup (n := 2) rfl (pgs_cons (pg_name (i := 2) sc.nd rfl (Or.inl rfl)) (pgs_cons (pg_name (i := 3) sc.nd rfl (Or.inl rfl)) pgs_nil))))
      (pss_cons (ps_asg (pe_slice sl_any (pe_ix (ix_all hu1) (pv 0) (pv 2) (fun _ _ => rfl)) (po_some (pe_un un_neg pe_int)) po_none) (pg_tup (n := 2) rfl (pgs_cons (pg_name (i := 4) sc.nd rfl (Or.inl rfl)) (pgs_cons (pg_name (i := 5) sc.nd rfl (Or.inl rfl)) pgs_nil))))
      (pss_cons (ps_if (pt_cmpR op_lt (pv 3) (pe_callB call_lens (by rfl) T.b_len (by decide +kernel) (pa_cons (pv 4) pa_nil)) (nomark _)) (pss_one (ps_ret (pe_callTy (call_lists rfl) (by rfl) T.b_list (by decide +kernel) (pa_cons (pe_callO O_used_by (hr.mono (by decide)) T.g_used_by (pa_cons (pe_ix (ix_all hu1) (pv 4) (pv 3) (fun _ _ => rfl)) pa_nil)) pa_nil)))) pss_nil)
      (pss_cons (ps_set (i := 6) sc.nd rfl (Or.inl rfl) (pe_callTy (call_lists rfl) (by rfl) T.b_list (by decide +kernel) (pa_cons (pe_callO O_used_by_end (hr.mono (by decide)) T.g_used_by_end (pa_cons (pv 5) pa_nil)) pa_nil)))
      (pss_cons (ps_for PassesOwn.never rfl (pi_range1 (by rfl) T.b_range (pa_cons (pe_callB call_lens (by rfl) T.b_len (by decide +kernel) (pa_cons (pe_callO O_followers_of (hr.mono (by decide)) T.g_followers_of (pa_cons (pv 0) (pa_cons (pv 2) pa_nil))) pa_nil)) pa_nil)) (pg_name (i := 7) sc.nd rfl (Or.inl rfl)) (pss_one (ps_expr (pe_bm PySem.F.plainAttrs_list PySem.F.slot_list_extend PySem.F.type_list_extend mt_extend (pv 6) (pa_cons (pe_lc (own := [("_", 8), ("source", 9)]) rfl sc.nd (pi_seqV (pe_callO O_carried (hr.mono (by decide)) T.g_carried (pa_cons (pv 0) (pa_cons (pe_tup (pa_cons (pv 2) (pa_cons (pv 7) pa_nil))) pa_nil)))) (by show BlkOk ["blocks", "point", "block", "done", "rows", "end", "used", "way", "_", "source"] (defScope s_used_behind) _ _; exact ⟨rfl, by decide +kernel, by decide +kernel, by decide +kernel, by decide +kernel⟩) (fun _ _ _ _ _ => (pg_tup (n := 2) rfl (pgs_cons (pg_name (i := 8) sc.nd rfl (Or.inl rfl)) (pgs_cons (pg_name (i := 9) sc.nd rfl (Or.inl rfl)) pgs_nil)))) (fun _ _ _ _ _ => pts_nil) (fun _ _ _ _ _ => (pv 9))) pa_nil)))))
      (pss_one (ps_ret (pv 6)))))))),
      (semS_seq (semS_asgP (g_tup (gs_cons g_name (gs_cons g_name gs_nil))) sem_var) (semS_seq (semS_asgP (g_tup (gs_cons g_name (gs_cons g_name gs_nil))) (sem_sl (sem_op os_ixA sem_var sem_var) (semO_part (sem_neg sem_int)) semO_none)) (semS_seq (semS_if (semT_test (sem_op os_cmp sem_var (sem_cb (cs_or cs_len cs_lenD) (semA_cons sem_var semA_nil)))) (semS_ret (sem_cb (cs_or cs_list cs_listD) (semA_cons (sem_call mFn0_len (semA_cons (sem_op os_ixA sem_var sem_var) semA_nil)) semA_nil))) semS_nx) (semS_seq (semS_asgO (sem_cb (cs_or cs_list cs_listD) (semA_cons (sem_call mFn0_len (semA_cons sem_var semA_nil)) semA_nil))) (semS_seq (semS_for (semI_range1 (E := E0) (semA_cons (sem_cb (cs_or cs_len cs_lenD) (semA_cons (sem_call mFn0_len (semA_cons sem_var (semA_cons sem_var semA_nil))) semA_nil)) semA_nil)) g_name (semS_drop (sem_ext (sem_lc (E1 := E0) (E2 := E0) (semI_walk (E := E0) (sem_call mFn0_len (semA_cons sem_var (semA_cons (sem_tup (semA_cons sem_var (semA_cons sem_var semA_nil))) semA_nil)))) (g_tup (gs_cons g_name (gs_cons g_name gs_nil))) semT_yes sem_var (by decide))))) (semS_ret sem_mv))))))⟩
theorem ok_used_behind (T : Txt P w K mg fn cl) : OkAt P w K mg base CX0 4 (fn 26) ["blocks", "point"] (spF ⟨K, cl⟩ m_used_behind 2) := by
  obtain ⟨fd, F, B⟩ := T.d_used_behind.fu
  exact ⟨fd, okF_used_behind T F, B, F.kp⟩
def m_reached : Fn := mFn0 2 6 (sSeq (sAsgO 2 (mIf (mOp2 fEq (mVar 1) (mC (.int (0)))) mDNew (mD1 (mC (.int (0))) (mC .non)))) (sSeq (sAsgO 3 (mCB (fOr1 fList fListD) (aSl 2 aNil))) (sSeq (sWhile fuel (mTruS 3) (sSeq (sAsgV 4 (mPopAt 3 (mC (.int (0))))) (sFor (iWalk (mCall m_followers_of (aCons (mVar 0) (aCons (mVar 4) aNil)))) (.nm 5) (sIf (mAnd (mOp2 fNe (mVar 5) (mVar 1)) (mOpR (fInA true) (mVar 5) 2)) (sSeq (sDPutM 2 (mVar 5) (mVar 4)) (sDrop (mApp 3 (mVar 5)))) sNx)))) (sRet (mMv 2)))))
theorem sc_reached : FnScope ["blocks", "barred", "ahead", "waiting", "block", "follower"] ["blocks", "barred"] (defScope s_reached) := ⟨rfl, rfl, rfl, by decide +kernel, rfl, by decide +kernel, by decide +kernel⟩
theorem okF_reached (T : Txt P w K mg fn cl) {fd : FuncData} (F : L2.Fun K "reached" "reached" s_reached (fn 27) fd) : FnOk P w K mg base CX0 2 (fn 27) fd ["blocks", "barred"] (spF ⟨K, cl⟩ m_reached 2) :=
  fn_ok0 F sc_reached rfl (by decide) fun cdv A outer s H E hr => by
    have sc := sc_reached
    have O_followers_of := ok_followers_of (P := P) (w := w) (base := base) T
    have hu64 := hr.units
    have hu1 := hu_of hr
    exact ⟨_, (pss_cons (ps_set (i := 2) sc.nd rfl (Or.inl rfl) (pe_ifExp (pt_cmpR (op_eqD hu64) (pv 1) pe_int (nomark _)) pe_dnewK (pe_d1 pe_int pe_non)))
      (pss_cons (ps_set (i := 3) sc.nd rfl (Or.inl rfl) (pe_callTy (call_lists rfl) (by rfl) T.b_list (by decide +kernel) (pa_cons (pv 2) pa_nil)))
      (pss_cons (ps_while PassesOwn.never (pt_truth (pv 3) (fun _ => rfl)) (pss_cons (ps_set (i := 4) sc.nd rfl (Or.inl rfl) (pe_bm PySem.F.plainAttrs_list PySem.F.slot_list_pop PySem.F.type_list_pop mt_popAt (pv 3) (pa_cons pe_int pa_nil)))
      (pss_one (ps_for PassesOwn.never rfl (pi_seqV (pe_callO O_followers_of (hr.mono (by decide)) T.g_followers_of (pa_cons (pv 0) (pa_cons (pv 4) pa_nil)))) (pg_name (i := 5) sc.nd rfl (Or.inl rfl)) (pss_one (ps_if (PW.pt (pw_and (pt_cmpR (op_neD hu64) (pv 5) (pv 1) (nomark _)) (pw_and1 (pt_cmpR ((or_dnin hu1).or op_notIn_seq) (pv 5) (pv 2) (by rfl))))) (pss_cons (ps_dput hu1 (pv 2) (pv 5) (pv 4) rfl)
      (pss_one (ps_expr (pe_bm PySem.F.plainAttrs_list PySem.F.slot_list_append PySem.F.type_list_append mt_append (pv 3) (pa_cons (pv 5) pa_nil))))) pss_nil))))))
      (pss_one (ps_ret (pv 2)))))),
      (semS_seq (semS_asgO (sem_if (semT_test (sem_op os_eq sem_var sem_int)) sem_dnew (sem_d1 sem_int sem_non))) (semS_seq (semS_asgO (sem_cb (cs_or cs_list cs_listD) (semA_sl semA_nil))) (semS_seq (semS_while (n := fuel) semT_truS (semS_seq (semS_asgV (sem_popAt sem_int)) (semS_for (semI_walk (E := E0) (sem_call mFn0_len (semA_cons sem_var (semA_cons sem_var semA_nil)))) g_name (semS_if (semT_and (semT_test (sem_op os_ne sem_var sem_var)) (semT_test (sem_opR os_inA sem_var))) (semS_seq (semS_dput sem_var sem_var) (semS_drop (sem_app sem_var))) semS_nx)))) (semS_ret sem_mv))))⟩
theorem ok_reached (T : Txt P w K mg fn cl) : OkAt P w K mg base CX0 2 (fn 27) ["blocks", "barred"] (spF ⟨K, cl⟩ m_reached 2) := by
  obtain ⟨fd, F, B⟩ := T.d_reached.fu
  exact ⟨fd, okF_reached T F, B, F.kp⟩
def m_Single___eq__ : Fn := mFn0 2 2 (sRet (mAnd (mIs (ansC kitO is_Single) (mVar 1)) (mAnd (mOp2 fEq (mFld [4] "many" (mVar 0)) (mFld [4] "many" (mVar 1))) (mAnd (mOp2 fEq (mFld [4] "handed" (mVar 0)) (mFld [4] "handed" (mVar 1))) (mAnd (mOp2 fEq (mFld [4] "blocks" (mVar 0)) (mFld [4] "blocks" (mVar 1))) (mOp2 fEq (mFld [4] "span" (mVar 0)) (mFld [4] "span" (mVar 1))))))))
theorem sc_Single___eq__ : FnScope ["self", "other"] ["self", "other"] (defScope s_Single___eq__) := ⟨rfl, rfl, rfl, by decide +kernel, rfl, by decide +kernel, by decide +kernel⟩
theorem okF_Single___eq__ (T : Txt P w K mg fn cl) {fd : FuncData} (F : L2.Fun K "__eq__" "Single.__eq__" s_Single___eq__ (fn 29) fd) : FnOk P w K mg base CX0 1 (fn 29) fd ["self", "other"] (spF ⟨K, cl⟩ m_Single___eq__ 2) :=
  fn_ok0 F sc_Single___eq__ rfl (by decide) fun cdv A outer s H E hr => by
    have sc := sc_Single___eq__
    have hu64 := hr.units
    exact ⟨_, (pss_one (ps_ret (pe_and (pe_callB call_isi (by rfl) T.b_isinstance (by decide +kernel) (pa_cons (pv 1) (pa_cons (pe_k (v := .ref (cl 4)) ⟨_, T.c_Single, rfl⟩) pa_nil))) (pe_and (pe_cmpR (op_eqD hu64) (pe_fld (pv 0) rfl) (pe_fld (pv 1) rfl) (nomark _)) (pe_and (pe_cmpR (op_eqD hu64) (pe_fld (pv 0) rfl) (pe_fld (pv 1) rfl) (nomark _)) (pe_and (pe_cmpR (op_eqD hu64) (pe_fld (pv 0) rfl) (pe_fld (pv 1) rfl) (nomark _)) (pe_one (pe_cmpR (op_eqD hu64) (pe_fld (pv 0) rfl) (pe_fld (pv 1) rfl) (nomark _))))))))),
      (semS_ret (sem_andV (sem_is T.is_Single (.own _) sem_var) (sem_andV (sem_op os_eq (sem_fld T.h_many sem_var) (sem_fld T.h_many sem_var)) (sem_andV (sem_op os_eq (sem_fld T.h_handed sem_var) (sem_fld T.h_handed sem_var)) (sem_andV (sem_op os_eq (sem_fld T.h_blocks sem_var) (sem_fld T.h_blocks sem_var)) (sem_op os_eq (sem_fld T.h_span sem_var) (sem_fld T.h_span sem_var)))))))⟩
theorem ok_Single___eq__ (T : Txt P w K mg fn cl) : OkAt P w K mg base CX0 1 (fn 29) ["self", "other"] (spF ⟨K, cl⟩ m_Single___eq__ 2) := by
  obtain ⟨fd, F, B⟩ := T.d_Single___eq__.fu
  exact ⟨fd, okF_Single___eq__ T F, B, F.kp⟩
def m_Single___len__ : Fn := mFn0 1 1 (sRet (mCB (fOr1 fLen fLenD) (aCons (mFld [4] "blocks" (mVar 0)) aNil)))
theorem sc_Single___len__ : FnScope ["self"] ["self"] (defScope s_Single___len__) := ⟨rfl, rfl, rfl, by decide +kernel, rfl, by decide +kernel, by decide +kernel⟩
theorem okF_Single___len__ (T : Txt P w K mg fn cl) {fd : FuncData} (F : L2.Fun K "__len__" "Single.__len__" s_Single___len__ (fn 30) fd) : FnOk P w K mg base CX0 1 (fn 30) fd ["self"] (spF ⟨K, cl⟩ m_Single___len__ 1) :=
  fn_ok0 F sc_Single___len__ rfl (by decide) fun cdv A outer s H E hr => by
    have sc := sc_Single___len__
    exact ⟨_, (pss_one (ps_ret (pe_callB call_lens (by rfl) T.b_len (by decide +kernel) (pa_cons (pe_fld (pv 0) rfl) pa_nil)))),
      (semS_ret (sem_cb (cs_or cs_len cs_lenD) (semA_cons (sem_fld T.h_blocks sem_var) semA_nil)))⟩
theorem ok_Single___len__ (T : Txt P w K mg fn cl) : OkAt P w K mg base CX0 1 (fn 30) ["self"] (spF ⟨K, cl⟩ m_Single___len__ 1) := by
  obtain ⟨fd, F, B⟩ := T.d_Single___len__.fu
  exact ⟨fd, okF_Single___len__ T F, B, F.kp⟩
def m_Single_rows : Fn := mFn0 2 2 (sSeq (sDrop (mCall m_check_block (aCons (mFld [4] "blocks" (mVar 0)) (aCons (mVar 1) aNil)))) (sRet (mOp2 fIxA (mOp2 fIxA (mFld [4] "blocks" (mVar 0)) (mVar 1)) (mC (.int (1))))))
theorem sc_Single_rows : FnScope ["self", "block"] ["self", "block"] (defScope s_Single_rows) := ⟨rfl, rfl, rfl, by decide +kernel, rfl, by decide +kernel, by decide +kernel⟩
theorem okF_Single_rows (T : Txt P w K mg fn cl) {fd : FuncData} (F : L2.Fun K "rows" "Single.rows" s_Single_rows (fn 33) fd) : FnOk P w K mg base CX0 5 (fn 33) fd ["self", "block"] (spF ⟨K, cl⟩ m_Single_rows 2) :=
  fn_ok0 F sc_Single_rows rfl (by decide) fun cdv A outer s H E hr => by
    have sc := sc_Single_rows
    have O_check_block := okr_check_block (P := P) (w := w) (base := base) T
    have hu1 := hu_of hr
    exact ⟨_, (pss_cons (ps_expr (pe_callX O_check_block passL (hr.mono (by decide)) T.g_check_block (pa_cons (pe_fld (pv 0) rfl) (pa_cons (pv 1) pa_nil))))
      (pss_one (ps_ret (pe_ix (ix_all hu1) (pe_ix (ix_all hu1) (pe_fld (pv 0) rfl) (pv 1) (fun _ _ => rfl)) pe_int (fun _ _ => rfl))))),
      (semS_seq (semS_drop (sem_call mFn_len (semA_cons (sem_fld T.h_blocks sem_var) (semA_cons sem_var semA_nil)))) (semS_ret (sem_op os_ixA (sem_op os_ixA (sem_fld T.h_blocks sem_var) sem_var) sem_int)))⟩
theorem ok_Single_rows (T : Txt P w K mg fn cl) : OkAt P w K mg base CX0 5 (fn 33) ["self", "block"] (spF ⟨K, cl⟩ m_Single_rows 2) := by
  obtain ⟨fd, F, B⟩ := T.d_Single_rows.fu
  exact ⟨fd, okF_Single_rows T F, B, F.kp⟩
def m_Single_edges_into : Fn := mFn0 2 2 (sSeq (sDrop (mCall m_check_block (aCons (mFld [4] "blocks" (mVar 0)) (aCons (mVar 1) aNil)))) (sRet (mCall m_edges_of (aCons (mFld [4] "blocks" (mVar 0)) (aCons (mVar 1) aNil)))))
theorem sc_Single_edges_into : FnScope ["self", "block"] ["self", "block"] (defScope s_Single_edges_into) := ⟨rfl, rfl, rfl, by decide +kernel, rfl, by decide +kernel, by decide +kernel⟩
theorem okF_Single_edges_into (T : Txt P w K mg fn cl) {fd : FuncData} (F : L2.Fun K "edges_into" "Single.edges_into" s_Single_edges_into (fn 36) fd) : FnOk P w K mg base CX0 5 (fn 36) fd ["self", "block"] (spF ⟨K, cl⟩ m_Single_edges_into 2) :=
  fn_ok0 F sc_Single_edges_into rfl (by decide) fun cdv A outer s H E hr => by
    have sc := sc_Single_edges_into
    have O_check_block := okr_check_block (P := P) (w := w) (base := base) T
    have O_edges_of := ok_edges_of (P := P) (w := w) (base := base) T
    exact ⟨_, (pss_cons (ps_expr (pe_callX O_check_block passL (hr.mono (by decide)) T.g_check_block (pa_cons (pe_fld (pv 0) rfl) (pa_cons (pv 1) pa_nil))))
      (pss_one (ps_ret (pe_callO O_edges_of (hr.mono (by decide)) T.g_edges_of (pa_cons (pe_fld (pv 0) rfl) (pa_cons (pv 1) pa_nil)))))),
      (semS_seq (semS_drop (sem_call mFn_len (semA_cons (sem_fld T.h_blocks sem_var) (semA_cons sem_var semA_nil)))) (semS_ret (sem_call mFn0_len (semA_cons (sem_fld T.h_blocks sem_var) (semA_cons sem_var semA_nil)))))⟩
theorem ok_Single_edges_into (T : Txt P w K mg fn cl) : OkAt P w K mg base CX0 5 (fn 36) ["self", "block"] (spF ⟨K, cl⟩ m_Single_edges_into 2) := by
  obtain ⟨fd, F, B⟩ := T.d_Single_edges_into.fu
  exact ⟨fd, okF_Single_edges_into T F, B, F.kp⟩
def m_Single_points : Fn := mFn0 1 1 (sRet (mCall m_all_points (aCons (mFld [4] "blocks" (mVar 0)) aNil)))
theorem sc_Single_points : FnScope ["self"] ["self"] (defScope s_Single_points) := ⟨rfl, rfl, rfl, by decide +kernel, rfl, by decide +kernel, by decide +kernel⟩
theorem okF_Single_points (T : Txt P w K mg fn cl) {fd : FuncData} (F : L2.Fun K "points" "Single.points" s_Single_points (fn 37) fd) : FnOk P w K mg base CX0 2 (fn 37) fd ["self"] (spF ⟨K, cl⟩ m_Single_points 1) :=
  fn_ok0 F sc_Single_points rfl (by decide) fun cdv A outer s H E hr => by
    have sc := sc_Single_points
    have O_all_points := ok_all_points (P := P) (w := w) (base := base) T
    exact ⟨_, (pss_one (ps_ret (pe_callO O_all_points (hr.mono (by decide)) T.g_all_points (pa_cons (pe_fld (pv 0) rfl) pa_nil)))),
      (semS_ret (sem_call mFn0_len (semA_cons (sem_fld T.h_blocks sem_var) semA_nil)))⟩
theorem ok_Single_points (T : Txt P w K mg fn cl) : OkAt P w K mg base CX0 2 (fn 37) ["self"] (spF ⟨K, cl⟩ m_Single_points 1) := by
  obtain ⟨fd, F, B⟩ := T.d_Single_points.fu
  exact ⟨fd, okF_Single_points T F, B, F.kp⟩
def m_Single_joins : Fn := mFn 2 2 (sSeq (sDrop (mCall m_check_block (aCons (mFld [4] "blocks" (mVar 0)) (aCons (mVar 1) aNil)))) (sRet (mOp2 fIxA (mOp2 fIxA (mFld [4] "blocks" (mVar 0)) (mVar 1)) (mC (.int (0))))))
theorem sc_Single_joins : FnScope ["self", "block"] ["self", "block"] (defScope s_Single_joins) := ⟨rfl, rfl, rfl, by decide +kernel, rfl, by decide +kernel, by decide +kernel⟩
theorem ok_Single_joins (T : Txt P w K mg fn cl) {fd : FuncData} (F : L2.Fun K "joins" "Single.joins" s_Single_joins (fn 38) fd) : FnOk P w K mg base (L2.CX P w) 6 (fn 38) fd ["self", "block"] (spF ⟨K, cl⟩ m_Single_joins 2) :=
  okx F sc_Single_joins rfl (by decide) fun cdv A outer s H E hr => by
    have sc := sc_Single_joins
    have O_check_block := okr_check_block (P := P) (w := w) (base := base) T
    have hu1 := hu_of hr
    exact ⟨_, (pss_cons (ps_expr (pe_callX O_check_block (passX (takes_of rfl rfl rfl rfl)) (hr.mono (by decide)) T.g_check_block (pa_cons (pe_fld (pv 0) rfl) (pa_cons (pv 1) pa_nil))))
      (pss_one (ps_ret (pe_ix (ix_all hu1) (pe_ix (ix_all hu1) (pe_fld (pv 0) rfl) (pv 1) (fun _ _ => rfl)) pe_int (fun _ _ => rfl))))),
      (semS_seq (semS_drop (sem_call mFn_len (semA_cons (sem_fld T.h_blocks sem_var) (semA_cons sem_var semA_nil)))) (semS_ret (sem_op os_ixA (sem_op os_ixA (sem_fld T.h_blocks sem_var) sem_var) sem_int)))⟩
theorem okr_Single_joins (T : Txt P w K mg fn cl) : OkAt P w K mg base (L2.CX P w) 6 (fn 38) ["self", "block"] (spF ⟨K, cl⟩ m_Single_joins 2) := by
  obtain ⟨fd, F, B⟩ := T.d_Single_joins.fu
  exact ⟨fd, ok_Single_joins T F, B, F.kp⟩
def m_Single_definition : Fn := mFn 2 2 (sSeq (sDrop (mCall m_check_variable (aCons (mFld [4] "many" (mVar 0)) (aCons (mVar 1) aNil)))) (sRet (mOp2 fIxA (mFld [4] "_definitions" (mVar 0)) (mVar 1))))
theorem sc_Single_definition : FnScope ["self", "variable"] ["self", "variable"] (defScope s_Single_definition) := ⟨rfl, rfl, rfl, by decide +kernel, rfl, by decide +kernel, by decide +kernel⟩
theorem ok_Single_definition (T : Txt P w K mg fn cl) {fd : FuncData} (F : L2.Fun K "definition" "Single.definition" s_Single_definition (fn 39) fd) : FnOk P w K mg base (L2.CX P w) 6 (fn 39) fd ["self", "variable"] (spF ⟨K, cl⟩ m_Single_definition 2) :=
  okx F sc_Single_definition rfl (by decide) fun cdv A outer s H E hr => by
    have sc := sc_Single_definition
    have O_check_variable := okr_check_variable (P := P) (w := w) (base := base) T
    have hu1 := hu_of hr
    exact ⟨_, (pss_cons (ps_expr (pe_callX O_check_variable (passX (takes_of rfl rfl rfl rfl)) (hr.mono (by decide)) T.g_check_variable (pa_cons (pe_fld (pv 0) rfl) (pa_cons (pv 1) pa_nil))))
      (pss_one (ps_ret (pe_ix (ix_all hu1) (pe_fld (pv 0) rfl) (pv 1) (fun _ _ => rfl))))),
      (semS_seq (semS_drop (sem_call mFn_len (semA_cons (sem_fld T.h_many sem_var) (semA_cons sem_var semA_nil)))) (semS_ret (sem_op os_ixA (sem_fld T.h__definitions sem_var) sem_var)))⟩
theorem okr_Single_definition (T : Txt P w K mg fn cl) : OkAt P w K mg base (L2.CX P w) 6 (fn 39) ["self", "variable"] (spF ⟨K, cl⟩ m_Single_definition 2) := by
  obtain ⟨fd, F, B⟩ := T.d_Single_definition.fu
  exact ⟨fd, ok_Single_definition T F, B, F.kp⟩
def m_all_definitions : Fn := mFn0 2 5 (sSeq (sAsgV 2 (mLc (iWalk (mVar 0)) [3] (.nm 3) mYes (mTup (aCons (mVar 3) (aCons (mTup (aCons (mC (.int (0))) (aCons (mC (.int (0))) aNil))) aNil))))) (sRet (mOp2 fAddA (mVar 2) (mLc2 (iWalk (mCall m_all_points (aCons (mVar 1) aNil))) [3, 4] (.nm 4) (iWalk (mCall m_defined_ahead (aCons (mVar 1) (aCons (mVar 4) aNil)))) [3] (.nm 3) mYes (mTup (aCons (mVar 3) (aCons (mVar 4) aNil)))))))
theorem sc_all_definitions : FnScope ["handed", "blocks", "found", "variable", "point"] ["handed", "blocks"] (defScope s_all_definitions) := ⟨rfl, rfl, rfl, by decide +kernel, rfl, by decide +kernel, by decide +kernel⟩
theorem okF_all_definitions (T : Txt P w K mg fn cl) {fd : FuncData} (F : L2.Fun K "all_definitions" "all_definitions" s_all_definitions (fn 42) fd) : FnOk P w K mg base CX0 3 (fn 42) fd ["handed", "blocks"] (spF ⟨K, cl⟩ m_all_definitions 2) :=
  fn_ok0 F sc_all_definitions rfl (by decide) fun cdv A outer s H E hr => by
    have sc := sc_all_definitions
    have O_all_points := ok_all_points (P := P) (w := w) (base := base) T
    have O_defined_ahead := ok_defined_ahead (P := P) (w := w) (base := base) T
    exact ⟨_, (pss_cons (ps_setLc (i := 2) (own := [("variable", 3)]) rfl sc.nd rfl rfl (by rfl) (pi_seqV (pv 0)) (by show BlkOk ["handed", "blocks", "found", "variable", "point"] (defScope s_all_definitions) _ _; exact ⟨rfl, by decide +kernel, by decide +kernel, by decide +kernel, by decide +kernel⟩) (fun _ _ _ _ _ => (pg_name (i := 3) sc.nd rfl (Or.inl rfl))) (fun _ _ _ _ _ => pts_nil) (fun _ _ _ _ _ => (pe_tup (pa_cons (pv 3) (pa_cons (pe_tup (pa_cons pe_int (pa_cons pe_int pa_nil))) pa_nil)))))
      (pss_one (ps_ret (pe_op op_addA (pv 2) (pe_lc2 (own := [("variable", 3), ("point", 4)]) (vs1 := [3]) rfl sc.nd (pi_seqV (pe_callO O_all_points (hr.mono (by decide)) T.g_all_points (pa_cons (pv 1) pa_nil))) (by show BlkOk ["handed", "blocks", "found", "variable", "point"] (defScope s_all_definitions) _ _; exact ⟨rfl, by decide +kernel, by decide +kernel, by decide +kernel, by decide +kernel⟩) (by decide) (fun _ _ _ _ _ => (pg_name (i := 4) sc.nd rfl (Or.inl rfl))) (fun _ _ _ _ _ => pts_nil) (fun _ _ _ _ _ => (pi_seqV (pe_callO O_defined_ahead (hr.mono (by decide)) T.g_defined_ahead (pa_cons (pv 1) (pa_cons (pv 4) pa_nil))))) (fun _ _ _ _ _ => (pg_name (i := 3) sc.nd rfl (Or.inl rfl))) (fun _ _ _ _ _ => pts_nil) (fun _ _ _ _ _ => (pe_tup (pa_cons (pv 3) (pa_cons (pv 4) pa_nil))))))))),
      (semS_seq (semS_asgV (sem_lc (E1 := E0) (E2 := E0) (semI_walk (E := E0) sem_var) g_name semT_yes (sem_tup (semA_cons sem_var (semA_cons (sem_tup (semA_cons sem_int (semA_cons sem_int semA_nil))) semA_nil))) (by decide))) (semS_ret (sem_op os_addA sem_var (sem_lc2 (E1 := E0) (E2 := E0) (semI_walk (E := E0) (sem_call mFn0_len (semA_cons sem_var semA_nil))) g_name (semI_walk (E := E0) (sem_call mFn0_len (semA_cons sem_var (semA_cons sem_var semA_nil)))) g_name semT_yes (sem_tup (semA_cons sem_var (semA_cons sem_var semA_nil))) (by decide) (by decide) (by decide)))))⟩
theorem ok_all_definitions (T : Txt P w K mg fn cl) : OkAt P w K mg base CX0 3 (fn 42) ["handed", "blocks"] (spF ⟨K, cl⟩ m_all_definitions 2) := by
  obtain ⟨fd, F, B⟩ := T.d_all_definitions.fu
  exact ⟨fd, okF_all_definitions T F, B, F.kp⟩
def m_are_joins_full : Fn := mFn0 1 5 (sSeq (sFor (iRange1 (aCons (mCB (fOr1 fLen fLenD) (aCons (mVar 0) aNil)) aNil)) (.nm 1) (sSeq (sAsgV 2 (mCB (fOr1 fLen fLenD) (aCons (mCall m_edges_of (aCons (mVar 0) (aCons (mVar 1) aNil))) aNil))) (sIf (mNot (mTru (mCB fAll (aCons (mLc (iWalk (mOp2 fIxA (mOp2 fIxA (mVar 0) (mVar 1)) (mC (.int (0))))) [3, 4] (.tu ((.nm 3) :: (.nm 4) :: [])) mYes (mAnd (mOp2 (fCmp fun i j => decide (j < i)) (mVar 2) (mC (.int (0)))) (mOp2 fEq (mCB (fOr1 fLen fLenD) (aCons (mVar 4) aNil)) (mVar 2)))) aNil)))) (sRet (mC (.bl false))) sNx))) (sRet (mC (.bl true))))
theorem sc_are_joins_full : FnScope ["blocks", "block", "edges", "_", "sources"] ["blocks"] (defScope s_are_joins_full) := ⟨rfl, rfl, rfl, by decide +kernel, rfl, by decide +kernel, by decide +kernel⟩
theorem okF_are_joins_full (T : Txt P w K mg fn cl) {fd : FuncData} (F : L2.Fun K "are_joins_full" "are_joins_full" s_are_joins_full (fn 43) fd) : FnOk P w K mg base CX0 3 (fn 43) fd ["blocks"] (spF ⟨K, cl⟩ m_are_joins_full 1) :=
  fn_ok0 F sc_are_joins_full rfl (by decide) fun cdv A outer s H E hr => by
    have sc := sc_are_joins_full
    have O_edges_of := ok_edges_of (P := P) (w := w) (base := base) T
    have hu64 := hr.units
    have hu1 := hu_of hr
    exact ⟨_, (pss_cons (ps_for PassesOwn.never rfl (pi_range1 (by rfl) T.b_range (pa_cons (pe_callB call_lens (by rfl) T.b_len (by decide +kernel) (pa_cons (pv 0) pa_nil)) pa_nil)) (pg_name (i := 1) sc.nd rfl (Or.inl rfl)) (pss_cons (ps_set (i := 2) sc.nd rfl (Or.inr rfl) (pe_callB call_lens (by rfl) T.b_len (by decide +kernel) (pa_cons (pe_callO O_edges_of (hr.mono (by decide)) T.g_edges_of (pa_cons (pv 0) (pa_cons (pv 1) pa_nil))) pa_nil)))
      (pss_one (ps_if (pt_not (pt_truth (pe_callB (cr_all rfl) (by rfl) T.b_all (by decide +kernel) (pa_cons (pe_lc (own := [("_", 3), ("sources", 4)]) rfl sc.nd (pi_seqV (pe_ix (ix_all hu1) (pe_ix (ix_all hu1) (pv 0) (pv 1) (fun _ _ => rfl)) pe_int (fun _ _ => rfl))) (by show BlkOk ["blocks", "block", "edges", "_", "sources"] (defScope s_are_joins_full) _ _; exact ⟨rfl, by decide +kernel, by decide +kernel, by decide +kernel, by decide +kernel⟩) (fun _ _ _ _ _ => (pg_tup (n := 2) rfl (pgs_cons (pg_name (i := 3) sc.nd rfl (Or.inl rfl)) (pgs_cons (pg_name (i := 4) sc.nd rfl (Or.inl rfl)) pgs_nil)))) (fun _ _ _ _ _ => pts_nil) (fun _ _ _ _ _ => (pe_and (pe_cmpR op_gt (pv 2) pe_int (nomark _)) (pe_one (pe_cmpR (op_eqD hu64) (pe_callB call_lens (by rfl) T.b_len (by decide +kernel) (pa_cons (pv 4) pa_nil)) (pv 2) (nomark _)))))) pa_nil)) (fun _ => rfl))) (pss_one (ps_ret pe_bl)) pss_nil))))
      (pss_one (ps_ret pe_bl))),
      (semS_seq (semS_for (semI_range1 (E := E0) (semA_cons (sem_cb (cs_or cs_len cs_lenD) (semA_cons sem_var semA_nil)) semA_nil)) g_name (semS_seq (semS_asgV (sem_cb (cs_or cs_len cs_lenD) (semA_cons (sem_call mFn0_len (semA_cons sem_var (semA_cons sem_var semA_nil))) semA_nil))) (semS_if (semT_not (semT_tru (sem_cb cs_all (semA_cons (sem_lc (E1 := E0) (E2 := E0) (semI_walk (E := E0) (sem_op os_ixA (sem_op os_ixA sem_var sem_var) sem_int)) (g_tup (gs_cons g_name (gs_cons g_name gs_nil))) semT_yes (sem_andV (sem_op os_cmp sem_var sem_int) (sem_op os_eq (sem_cb (cs_or cs_len cs_lenD) (semA_cons sem_var semA_nil)) sem_var)) (by decide)) semA_nil)))) (semS_ret sem_bl) semS_nx))) (semS_ret sem_bl))⟩
theorem ok_are_joins_full (T : Txt P w K mg fn cl) : OkAt P w K mg base CX0 3 (fn 43) ["blocks"] (spF ⟨K, cl⟩ m_are_joins_full 1) := by
  obtain ⟨fd, F, B⟩ := T.d_are_joins_full.fu
  exact ⟨fd, okF_are_joins_full T F, B, F.kp⟩
def m_all_without : Fn := mFn0 1 2 (sRet (mLc (iRange1 (aCons (mCB (fOr1 fLen fLenD) (aCons (mVar 0) aNil)) aNil)) [1] (.nm 1) mYes (mCall m_reached (aCons (mVar 0) (aCons (mVar 1) aNil)))))
theorem sc_all_without : FnScope ["blocks", "block"] ["blocks"] (defScope s_all_without) := ⟨rfl, rfl, rfl, by decide +kernel, rfl, by decide +kernel, by decide +kernel⟩
theorem okF_all_without (T : Txt P w K mg fn cl) {fd : FuncData} (F : L2.Fun K "all_without" "all_without" s_all_without (fn 45) fd) : FnOk P w K mg base CX0 3 (fn 45) fd ["blocks"] (spF ⟨K, cl⟩ m_all_without 1) :=
  fn_ok0 F sc_all_without rfl (by decide) fun cdv A outer s H E hr => by
    have sc := sc_all_without
    have O_reached := ok_reached (P := P) (w := w) (base := base) T
    exact ⟨_, (pss_one (ps_ret (pe_lc (own := [("block", 1)]) rfl sc.nd (pi_range1 (by rfl) T.b_range (pa_cons (pe_callB call_lens (by rfl) T.b_len (by decide +kernel) (pa_cons (pv 0) pa_nil)) pa_nil)) (by show BlkOk ["blocks", "block"] (defScope s_all_without) _ _; exact ⟨rfl, by decide +kernel, by decide +kernel, by decide +kernel, by decide +kernel⟩) (fun _ _ _ _ _ => (pg_name (i := 1) sc.nd rfl (Or.inl rfl))) (fun _ _ _ _ _ => pts_nil) (fun _ _ _ _ _ => (pe_callO O_reached (hr.mono (by decide)) T.g_reached (pa_cons (pv 0) (pa_cons (pv 1) pa_nil))))))),
      (semS_ret (sem_lc (E1 := E0) (E2 := E0) (semI_range1 (E := E0) (semA_cons (sem_cb (cs_or cs_len cs_lenD) (semA_cons sem_var semA_nil)) semA_nil)) g_name semT_yes (sem_call mFn0_len (semA_cons sem_var (semA_cons sem_var semA_nil))) (by decide)))⟩
theorem ok_all_without (T : Txt P w K mg fn cl) : OkAt P w K mg base CX0 3 (fn 45) ["blocks"] (spF ⟨K, cl⟩ m_all_without 1) := by
  obtain ⟨fd, F, B⟩ := T.d_all_without.fu
  exact ⟨fd, okF_all_without T F, B, F.kp⟩
def m_is_behind : Fn := mFn0 3 3 (sSeq (sIf (mOp2 fEq (mOp2 fIxA (mVar 0) (mC (.int (0)))) (mOp2 fIxA (mVar 1) (mC (.int (0))))) (sRet (mOp2 (fCmp fun i j => decide (i ≤ j)) (mOp2 fIxA (mVar 0) (mC (.int (1)))) (mOp2 fIxA (mVar 1) (mC (.int (1)))))) sNx) (sRet (mOp2 (fInA true) (mOp2 fIxA (mVar 1) (mC (.int (0)))) (mOp2 fIxA (mVar 2) (mOp2 fIxA (mVar 0) (mC (.int (0))))))))
theorem sc_is_behind : FnScope ["definition", "point", "without"] ["definition", "point", "without"] (defScope s_is_behind) := ⟨rfl, rfl, rfl, by decide +kernel, rfl, by decide +kernel, by decide +kernel⟩
theorem okF_is_behind (T : Txt P w K mg fn cl) {fd : FuncData} (F : L2.Fun K "is_behind" "is_behind" s_is_behind (fn 46) fd) : FnOk P w K mg base CX0 1 (fn 46) fd ["definition", "point", "without"] (spF ⟨K, cl⟩ m_is_behind 3) :=
  fn_ok0 F sc_is_behind rfl (by decide) fun cdv A outer s H E hr => by
    have sc := sc_is_behind
    have hu64 := hr.units
    have hu1 := hu_of hr
    exact ⟨_, (pss_cons (ps_if (pt_cmpR (op_eqD hu64) (pe_ix (ix_all hu1) (pv 0) pe_int (fun _ _ => rfl)) (pe_ix (ix_all hu1) (pv 1) pe_int (fun _ _ => rfl)) (nomark _)) (pss_one (ps_ret (pe_cmpR op_le (pe_ix (ix_all hu1) (pv 0) pe_int (fun _ _ => rfl)) (pe_ix (ix_all hu1) (pv 1) pe_int (fun _ _ => rfl)) (nomark _)))) pss_nil)
      (pss_one (ps_ret (pe_cmpR ((or_dnin hu1).or op_notIn_seq) (pe_ix (ix_all hu1) (pv 1) pe_int (fun _ _ => rfl)) (pe_ix (ix_all hu1) (pv 2) (pe_ix (ix_all hu1) (pv 0) pe_int (fun _ _ => rfl)) (fun _ _ => rfl)) (by rfl))))),
      (semS_seq (semS_if (semT_test (sem_op os_eq (sem_op os_ixA sem_var sem_int) (sem_op os_ixA sem_var sem_int))) (semS_ret (sem_op os_cmp (sem_op os_ixA sem_var sem_int) (sem_op os_ixA sem_var sem_int))) semS_nx) (semS_ret (sem_op os_inA (sem_op os_ixA sem_var sem_int) (sem_op os_ixA sem_var (sem_op os_ixA sem_var sem_int)))))⟩
theorem ok_is_behind (T : Txt P w K mg fn cl) : OkAt P w K mg base CX0 1 (fn 46) ["definition", "point", "without"] (spF ⟨K, cl⟩ m_is_behind 3) := by
  obtain ⟨fd, F, B⟩ := T.d_is_behind.fu
  exact ⟨fd, okF_is_behind T F, B, F.kp⟩
def m_law_loop : Fn := mFn0 2 2 (sRet (mTup (aCons (mTup (aCons (mTup aNil) (aCons (mTup (aCons (mTup (aCons (mC (.str "put")) (aCons (mC (.int (1))) (aCons (mC (.int (1))) aNil)))) aNil)) (aCons (mTup (aCons (mC (.str "go")) (aCons (mC (.int (1))) aNil))) aNil)))) (aCons (mTup (aCons (mVar 0) (aCons (mVar 1) (aCons (mTup (aCons (mC (.str "part")) (aCons (mC (.int (3))) (aCons (mC (.int (1))) (aCons (mC (.int (2))) aNil))))) aNil)))) (aCons (mTup (aCons (mTup aNil) (aCons (mTup aNil) (aCons (mTup (aCons (mC (.str "stop")) aNil)) aNil)))) aNil)))))
theorem sc_law_loop : FnScope ["joins", "rows"] ["joins", "rows"] (defScope s_law_loop) := ⟨rfl, rfl, rfl, by decide +kernel, rfl, by decide +kernel, by decide +kernel⟩
theorem okF_law_loop (T : Txt P w K mg fn cl) {fd : FuncData} (F : L2.Fun K "_law_loop" "_law_loop" s_law_loop (fn 48) fd) : FnOk P w K mg base CX0 1 (fn 48) fd ["joins", "rows"] (spF ⟨K, cl⟩ m_law_loop 2) :=
  fn_ok0 F sc_law_loop rfl (by decide) fun cdv A outer s H E hr => by
    have sc := sc_law_loop
    exact ⟨_, (pss_one (ps_ret (pe_tup (pa_cons (pe_tup (pa_cons (pe_tup pa_nil) (pa_cons (pe_tup (pa_cons (pe_tup (pa_cons pe_str (pa_cons pe_int (pa_cons pe_int pa_nil)))) pa_nil)) (pa_cons (pe_tup (pa_cons pe_str (pa_cons pe_int pa_nil))) pa_nil)))) (pa_cons (pe_tup (pa_cons (pv 0) (pa_cons (pv 1) (pa_cons (pe_tup (pa_cons pe_str (pa_cons pe_int (pa_cons pe_int (pa_cons pe_int pa_nil))))) pa_nil)))) (pa_cons (pe_tup (pa_cons (pe_tup pa_nil) (pa_cons (pe_tup pa_nil) (pa_cons (pe_tup (pa_cons pe_str pa_nil)) pa_nil)))) pa_nil)))))),
      (semS_ret (sem_tup (semA_cons (sem_tup (semA_cons (sem_tup semA_nil) (semA_cons (sem_tup (semA_cons (sem_tup (semA_cons sem_str (semA_cons sem_int (semA_cons sem_int semA_nil)))) semA_nil)) (semA_cons (sem_tup (semA_cons sem_str (semA_cons sem_int semA_nil))) semA_nil)))) (semA_cons (sem_tup (semA_cons sem_var (semA_cons sem_var (semA_cons (sem_tup (semA_cons sem_str (semA_cons sem_int (semA_cons sem_int (semA_cons sem_int semA_nil))))) semA_nil)))) (semA_cons (sem_tup (semA_cons (sem_tup semA_nil) (semA_cons (sem_tup semA_nil) (semA_cons (sem_tup (semA_cons sem_str semA_nil)) semA_nil)))) semA_nil)))))⟩
theorem ok_law_loop (T : Txt P w K mg fn cl) : OkAt P w K mg base CX0 1 (fn 48) ["joins", "rows"] (spF ⟨K, cl⟩ m_law_loop 2) := by
  obtain ⟨fd, F, B⟩ := T.d_law_loop.fu
  exact ⟨fd, okF_law_loop T F, B, F.kp⟩
def m_fills : Fn := mFn0 5 7 (sSeq (sIf (mOp2 fNe (mCB (fOr1 fLen fLenD) (aCons (mVar 0) aNil)) (mCB (fOr1 fLen fLenD) (aCons (mVar 1) aNil))) (sRet (mC (.bl false))) sNx) (sRet (mCB fAll (aCons (mLc (iZip (aCons (mVar 0) (aCons (mVar 1) aNil))) [5, 6] (.tu ((.nm 5) :: (.nm 6) :: [])) mYes (mCall m_may_stand (aCons (mVar 5) (aCons (mVar 6) (aCons (mVar 2) (aCons (mVar 3) (aCons (mVar 4) aNil))))))) aNil))))
theorem sc_fills : FnScope ["numbers", "places", "many", "span", "count", "number", "place"] ["numbers", "places", "many", "span", "count"] (defScope s_fills) := ⟨rfl, rfl, rfl, by decide +kernel, rfl, by decide +kernel, by decide +kernel⟩
theorem okF_fills (T : Txt P w K mg fn cl) {fd : FuncData} (F : L2.Fun K "fills" "fills" s_fills (fn 8) fd) : FnOk P w K mg base CX0 4 (fn 8) fd ["numbers", "places", "many", "span", "count"] (spF ⟨K, cl⟩ m_fills 5) :=
  fn_ok0 F sc_fills rfl (by decide) fun cdv A outer s H E hr => by
    have sc := sc_fills
    have O_may_stand := ok_may_stand (P := P) (w := w) (base := base) T
    have hu64 := hr.units
    exact ⟨_, (pss_cons (ps_if (pt_cmpR (op_neD hu64) (pe_callB call_lens (by rfl) T.b_len (by decide +kernel) (pa_cons (pv 0) pa_nil)) (pe_callB call_lens (by rfl) T.b_len (by decide +kernel) (pa_cons (pv 1) pa_nil)) (nomark _)) (pss_one (ps_ret pe_bl)) pss_nil)
      (pss_one (ps_ret (pe_callB (cr_all rfl) (by rfl) T.b_all (by decide +kernel) (pa_cons (pe_lc (own := [("number", 5), ("place", 6)]) rfl sc.nd (pi_zipV (by rfl) T.b_zip (pa_cons (pv 0) (pa_cons (pv 1) pa_nil))) (by show BlkOk ["numbers", "places", "many", "span", "count", "number", "place"] (defScope s_fills) _ _; exact ⟨rfl, by decide +kernel, by decide +kernel, by decide +kernel, by decide +kernel⟩) (fun _ _ _ _ _ => (pg_tup (n := 2) rfl (pgs_cons (pg_name (i := 5) sc.nd rfl (Or.inl rfl)) (pgs_cons (pg_name (i := 6) sc.nd rfl (Or.inl rfl)) pgs_nil)))) (fun _ _ _ _ _ => pts_nil) (fun _ _ _ _ _ => (pe_callO O_may_stand (hr.mono (by decide)) T.g_may_stand (pa_cons (pv 5) (pa_cons (pv 6) (pa_cons (pv 2) (pa_cons (pv 3) (pa_cons (pv 4) pa_nil)))))))) pa_nil))))),
      (semS_seq (semS_if (semT_test (sem_op os_ne (sem_cb (cs_or cs_len cs_lenD) (semA_cons sem_var semA_nil)) (sem_cb (cs_or cs_len cs_lenD) (semA_cons sem_var semA_nil)))) (semS_ret sem_bl) semS_nx) (semS_ret (sem_cb cs_all (semA_cons (sem_lc (E1 := E0) (E2 := E0) (semI_zip (E := E0) (semA_cons sem_var (semA_cons sem_var semA_nil))) (g_tup (gs_cons g_name (gs_cons g_name gs_nil))) semT_yes (sem_call mFn0_len (semA_cons sem_var (semA_cons sem_var (semA_cons sem_var (semA_cons sem_var (semA_cons sem_var semA_nil)))))) (by decide)) semA_nil))))⟩
theorem ok_fills (T : Txt P w K mg fn cl) : OkAt P w K mg base CX0 4 (fn 8) ["numbers", "places", "many", "span", "count"] (spF ⟨K, cl⟩ m_fills 5) := by
  obtain ⟨fd, F, B⟩ := T.d_fills.fu
  exact ⟨fd, okF_fills T F, B, F.kp⟩
def m_are_uses_behind : Fn := mFn0 2 7 (sSeq (sAsgV 2 (mDc (iWalk (mVar 0)) [5, 6] (.tu ((.nm 5) :: (.nm 6) :: [])) mYes (mVar 5) (mVar 6))) (sSeq (sAsgV 3 (mCall m_all_without (aCons (mVar 1) aNil))) (sSeq (sAsgV 4 (mLc2 (iWalk (mCall m_all_points (aCons (mVar 1) aNil))) [5, 6] (.nm 6) (iWalk (mCall m_used_behind (aCons (mVar 1) (aCons (mVar 6) aNil)))) [5] (.nm 5) mYes (mTup (aCons (mVar 5) (aCons (mVar 6) aNil))))) (sRet (mCB fAll (aCons (mLc (iWalk (mVar 4)) [5, 6] (.tu ((.nm 5) :: (.nm 6) :: [])) mYes (mCall m_is_behind (aCons (mOp2 fIxA (mVar 2) (mVar 5)) (aCons (mVar 6) (aCons (mVar 3) aNil))))) aNil))))))
theorem sc_are_uses_behind : FnScope ["definitions", "blocks", "places", "without", "uses", "variable", "point"] ["definitions", "blocks"] (defScope s_are_uses_behind) := ⟨rfl, rfl, rfl, by decide +kernel, rfl, by decide +kernel, by decide +kernel⟩
theorem okF_are_uses_behind (T : Txt P w K mg fn cl) {fd : FuncData} (F : L2.Fun K "are_uses_behind" "are_uses_behind" s_are_uses_behind (fn 44) fd) : FnOk P w K mg base CX0 5 (fn 44) fd ["definitions", "blocks"] (spF ⟨K, cl⟩ m_are_uses_behind 2) :=
  fn_ok0 F sc_are_uses_behind rfl (by decide) fun cdv A outer s H E hr => by
    have sc := sc_are_uses_behind
    have O_all_points := ok_all_points (P := P) (w := w) (base := base) T
    have O_all_without := ok_all_without (P := P) (w := w) (base := base) T
    have O_is_behind := ok_is_behind (P := P) (w := w) (base := base) T
    have O_used_behind := ok_used_behind (P := P) (w := w) (base := base) T
    have hu1 := hu_of hr
    exact ⟨_, (pss_cons (ps_set (i := 2) sc.nd rfl (Or.inr rfl) (pe_dc (own := [("variable", 5), ("point", 6)]) rfl sc.nd (pi_seqV (pv 0)) (by show BlkOk ["definitions", "blocks", "places", "without", "uses", "variable", "point"] (defScope s_are_uses_behind) _ _; exact ⟨rfl, by decide +kernel, by decide +kernel, by decide +kernel, by decide +kernel⟩) (fun _ _ _ _ _ => (pg_tup (n := 2) rfl (pgs_cons (pg_name (i := 5) sc.nd rfl (Or.inl rfl)) (pgs_cons (pg_name (i := 6) sc.nd rfl (Or.inl rfl)) pgs_nil)))) (fun _ _ _ _ _ => pts_nil) (fun _ _ _ _ _ => (pv 5)) (fun _ _ _ _ _ => (pv 6))))
      (pss_cons (ps_set (i := 3) sc.nd rfl (Or.inr rfl) (pe_callO O_all_without (hr.mono (by decide)) T.g_all_without (pa_cons (pv 1) pa_nil)))
      (pss_cons (ps_setLc2 (i := 4) (own := [("variable", 5), ("point", 6)]) (vs1 := [5]) rfl sc.nd rfl rfl (by rfl) (pi_seqV (pe_callO O_all_points (hr.mono (by decide)) T.g_all_points (pa_cons (pv 1) pa_nil))) (by show BlkOk ["definitions", "blocks", "places", "without", "uses", "variable", "point"] (defScope s_are_uses_behind) _ _; exact ⟨rfl, by decide +kernel, by decide +kernel, by decide +kernel, by decide +kernel⟩) (by decide) (fun _ _ _ _ _ => (pg_name (i := 6) sc.nd rfl (Or.inl rfl))) (fun _ _ _ _ _ => pts_nil) (fun _ _ _ _ _ => (pi_seqV (pe_callO O_used_behind (hr.mono (by decide)) T.g_used_behind (pa_cons (pv 1) (pa_cons (pv 6) pa_nil))))) (fun _ _ _ _ _ => (pg_name (i := 5) sc.nd rfl (Or.inl rfl))) (fun _ _ _ _ _ => pts_nil) (fun _ _ _ _ _ => (pe_tup (pa_cons (pv 5) (pa_cons (pv 6) pa_nil)))))
      (pss_one (ps_ret (pe_callB (cr_all rfl) (by rfl) T.b_all (by decide +kernel) (pa_cons (pe_lc (own := [("variable", 5), ("point", 6)]) rfl sc.nd (pi_seqV (pv 4)) (by show BlkOk ["definitions", "blocks", "places", "without", "uses", "variable", "point"] (defScope s_are_uses_behind) _ _; exact ⟨rfl, by decide +kernel, by decide +kernel, by decide +kernel, by decide +kernel⟩) (fun _ _ _ _ _ => (pg_tup (n := 2) rfl (pgs_cons (pg_name (i := 5) sc.nd rfl (Or.inl rfl)) (pgs_cons (pg_name (i := 6) sc.nd rfl (Or.inl rfl)) pgs_nil)))) (fun _ _ _ _ _ => pts_nil) (fun _ _ _ _ _ => (pe_callO O_is_behind (hr.mono (by decide)) T.g_is_behind (pa_cons (pe_ix (ix_all hu1) (pv 2) (pv 5) (fun _ _ => rfl)) (pa_cons (pv 6) (pa_cons (pv 3) pa_nil)))))) pa_nil))))))),
      (semS_seq (semS_asgV (sem_dc (E1 := E0) (E2 := E0) (E3 := E0) (semI_walk (E := E0) sem_var) (g_tup (gs_cons g_name (gs_cons g_name gs_nil))) semT_yes sem_var sem_var (by decide))) (semS_seq (semS_asgV (sem_call mFn0_len (semA_cons sem_var semA_nil))) (semS_seq (semS_asgV (sem_lc2 (E1 := E0) (E2 := E0) (semI_walk (E := E0) (sem_call mFn0_len (semA_cons sem_var semA_nil))) g_name (semI_walk (E := E0) (sem_call mFn0_len (semA_cons sem_var (semA_cons sem_var semA_nil)))) g_name semT_yes (sem_tup (semA_cons sem_var (semA_cons sem_var semA_nil))) (by decide) (by decide) (by decide))) (semS_ret (sem_cb cs_all (semA_cons (sem_lc (E1 := E0) (E2 := E0) (semI_walk (E := E0) sem_var) (g_tup (gs_cons g_name (gs_cons g_name gs_nil))) semT_yes (sem_call mFn0_len (semA_cons (sem_op os_ixA sem_var sem_var) (semA_cons sem_var (semA_cons sem_var semA_nil)))) (by decide)) semA_nil))))))⟩
theorem ok_are_uses_behind (T : Txt P w K mg fn cl) : OkAt P w K mg base CX0 5 (fn 44) ["definitions", "blocks"] (spF ⟨K, cl⟩ m_are_uses_behind 2) := by
  obtain ⟨fd, F, B⟩ := T.d_are_uses_behind.fu
  exact ⟨fd, okF_are_uses_behind T F, B, F.kp⟩
def m_is_row : Fn := mFn0 3 3 (sRet (mAnd (mCall m_has_word (aCons (mVar 0) aNil)) (mAnd (mUn (fTabIn tab_ROWS) (mOp2 fIxA (mVar 0) (mC (.int (0))))) (mCall m_fills (aCons (mSl (mVar 0) (oPart (mC (.int (1)))) oNone) (aCons (mUn (fTabGet tab_ROWS) (mOp2 fIxA (mVar 0) (mC (.int (0))))) (aCons (mVar 1) (aCons (mVar 2) (aCons (mC (.int (1))) aNil)))))))))
theorem sc_is_row : FnScope ["row", "many", "span"] ["row", "many", "span"] (defScope s_is_row) := ⟨rfl, rfl, rfl, by decide +kernel, rfl, by decide +kernel, by decide +kernel⟩
theorem okF_is_row (T : Txt P w K mg fn cl) {fd : FuncData} (F : L2.Fun K "is_row" "is_row" s_is_row (fn 5) fd) : FnOk P w K mg base CX0 5 (fn 5) fd ["row", "many", "span"] (spF ⟨K, cl⟩ m_is_row 3) :=
  fn_ok0 F sc_is_row rfl (by decide) fun cdv A outer s H E hr => by
    have sc := sc_is_row
    have O_fills := ok_fills (P := P) (w := w) (base := base) T
    have O_has_word := ok_has_word (P := P) (w := w) (base := base) T
    have hu1 := hu_of hr
    obtain ⟨d_ROWS, es_ROWS, n_ROWS, G_ROWS, KD_ROWS', TB_ROWS⟩ := T.t_ROWS
    have KD_ROWS := KD_ROWS'
    exact ⟨_, (pss_one (ps_ret (pe_and (pe_callO O_has_word (hr.mono (by decide)) T.g_has_word (pa_cons (pv 0) pa_nil)) (pe_and (pe_cmpR (op_in_kd KD_ROWS) (pe_ix (ix_all hu1) (pv 0) pe_int (fun _ _ => rfl)) (pe_k (v := .ref d_ROWS) ⟨_, G_ROWS, rfl⟩) (by rfl)) (pe_one (pe_callO O_fills (hr.mono (by decide)) T.g_fills (pa_cons (pe_slice sl_any (pv 0) (po_some pe_int) po_none) (pa_cons (pe_ix (ix_of_kd KD_ROWS) (pe_k (v := .ref d_ROWS) ⟨_, G_ROWS, rfl⟩) (pe_ix (ix_all hu1) (pv 0) pe_int (fun _ _ => rfl)) (fun _ _ => rfl)) (pa_cons (pv 1) (pa_cons (pv 2) (pa_cons pe_int pa_nil))))))))))),
      (semS_ret (sem_andV (sem_call mFn0_len (semA_cons sem_var semA_nil)) (sem_andV (sem_tabIn TB_ROWS (sem_op os_ixA sem_var sem_int)) (sem_call mFn0_len (semA_cons (sem_sl sem_var (semO_part sem_int) semO_none) (semA_cons (sem_tabGet TB_ROWS (sem_op os_ixA sem_var sem_int)) (semA_cons sem_var (semA_cons sem_var (semA_cons sem_int semA_nil)))))))))⟩
theorem ok_is_row (T : Txt P w K mg fn cl) : OkAt P w K mg base CX0 5 (fn 5) ["row", "many", "span"] (spF ⟨K, cl⟩ m_is_row 3) := by
  obtain ⟨fd, F, B⟩ := T.d_is_row.fu
  exact ⟨fd, okF_is_row T F, B, F.kp⟩
def m_is_end : Fn := mFn0 3 3 (sRet (mAnd (mCall m_has_word (aCons (mVar 0) aNil)) (mAnd (mUn (fTabIn tab_ENDS) (mOp2 fIxA (mVar 0) (mC (.int (0))))) (mCall m_fills (aCons (mSl (mVar 0) (oPart (mC (.int (1)))) oNone) (aCons (mUn (fTabGet tab_ENDS) (mOp2 fIxA (mVar 0) (mC (.int (0))))) (aCons (mVar 1) (aCons (mC (.int (0))) (aCons (mVar 2) aNil)))))))))
theorem sc_is_end : FnScope ["end", "many", "count"] ["end", "many", "count"] (defScope s_is_end) := ⟨rfl, rfl, rfl, by decide +kernel, rfl, by decide +kernel, by decide +kernel⟩
theorem okF_is_end (T : Txt P w K mg fn cl) {fd : FuncData} (F : L2.Fun K "is_end" "is_end" s_is_end (fn 6) fd) : FnOk P w K mg base CX0 5 (fn 6) fd ["end", "many", "count"] (spF ⟨K, cl⟩ m_is_end 3) :=
  fn_ok0 F sc_is_end rfl (by decide) fun cdv A outer s H E hr => by
    have sc := sc_is_end
    have O_fills := ok_fills (P := P) (w := w) (base := base) T
    have O_has_word := ok_has_word (P := P) (w := w) (base := base) T
    have hu1 := hu_of hr
    obtain ⟨d_ENDS, es_ENDS, n_ENDS, G_ENDS, KD_ENDS', TB_ENDS⟩ := T.t_ENDS
    have KD_ENDS := KD_ENDS'
    exact ⟨_, (pss_one (ps_ret (pe_and (pe_callO O_has_word (hr.mono (by decide)) T.g_has_word (pa_cons (pv 0) pa_nil)) (pe_and (pe_cmpR (op_in_kd KD_ENDS) (pe_ix (ix_all hu1) (pv 0) pe_int (fun _ _ => rfl)) (pe_k (v := .ref d_ENDS) ⟨_, G_ENDS, rfl⟩) (by rfl)) (pe_one (pe_callO O_fills (hr.mono (by decide)) T.g_fills (pa_cons (pe_slice sl_any (pv 0) (po_some pe_int) po_none) (pa_cons (pe_ix (ix_of_kd KD_ENDS) (pe_k (v := .ref d_ENDS) ⟨_, G_ENDS, rfl⟩) (pe_ix (ix_all hu1) (pv 0) pe_int (fun _ _ => rfl)) (fun _ _ => rfl)) (pa_cons (pv 1) (pa_cons pe_int (pa_cons (pv 2) pa_nil))))))))))),
      (semS_ret (sem_andV (sem_call mFn0_len (semA_cons sem_var semA_nil)) (sem_andV (sem_tabIn TB_ENDS (sem_op os_ixA sem_var sem_int)) (sem_call mFn0_len (semA_cons (sem_sl sem_var (semO_part sem_int) semO_none) (semA_cons (sem_tabGet TB_ENDS (sem_op os_ixA sem_var sem_int)) (semA_cons sem_var (semA_cons sem_int (semA_cons sem_var semA_nil)))))))))⟩
theorem ok_is_end (T : Txt P w K mg fn cl) : OkAt P w K mg base CX0 5 (fn 6) ["end", "many", "count"] (spF ⟨K, cl⟩ m_is_end 3) := by
  obtain ⟨fd, F, B⟩ := T.d_is_end.fu
  exact ⟨fd, okF_is_end T F, B, F.kp⟩
def m_are_rows : Fn := mFn0 4 5 (sRet (mAnd (mIs (ansT "tuple") (mVar 0)) (mAnd (mOp2 (fCmp fun i j => decide (i ≤ j)) (mCB (fOr1 fLen fLenD) (aCons (mVar 0) aNil)) (mVar 1)) (mCB fAll (aCons (mLc (iWalk (mVar 0)) [4] (.nm 4) mYes (mCall m_is_row (aCons (mVar 4) (aCons (mVar 2) (aCons (mVar 3) aNil))))) aNil)))))
theorem sc_are_rows : FnScope ["rows", "most", "many", "span", "row"] ["rows", "most", "many", "span"] (defScope s_are_rows) := ⟨rfl, rfl, rfl, by decide +kernel, rfl, by decide +kernel, by decide +kernel⟩
theorem okF_are_rows (T : Txt P w K mg fn cl) {fd : FuncData} (F : L2.Fun K "are_rows" "are_rows" s_are_rows (fn 12) fd) : FnOk P w K mg base CX0 6 (fn 12) fd ["rows", "most", "many", "span"] (spF ⟨K, cl⟩ m_are_rows 4) :=
  fn_ok0 F sc_are_rows rfl (by decide) fun cdv A outer s H E hr => by
    have sc := sc_are_rows
    have O_is_row := ok_is_row (P := P) (w := w) (base := base) T
    exact ⟨_, (pss_one (ps_ret (pe_and (pe_callB call_isi (by rfl) T.b_isinstance (by decide +kernel) (pa_cons (pv 0) (pa_cons (pe_bltn (v := .ty "tuple") (by rfl) T.b_tuple (by decide +kernel) rfl) pa_nil))) (pe_and (pe_cmpR op_le (pe_callB call_lens (by rfl) T.b_len (by decide +kernel) (pa_cons (pv 0) pa_nil)) (pv 1) (nomark _)) (pe_one (pe_callB (cr_all rfl) (by rfl) T.b_all (by decide +kernel) (pa_cons (pe_lc (own := [("row", 4)]) rfl sc.nd (pi_seqV (pv 0)) (by show BlkOk ["rows", "most", "many", "span", "row"] (defScope s_are_rows) _ _; exact ⟨rfl, by decide +kernel, by decide +kernel, by decide +kernel, by decide +kernel⟩) (fun _ _ _ _ _ => (pg_name (i := 4) sc.nd rfl (Or.inl rfl))) (fun _ _ _ _ _ => pts_nil) (fun _ _ _ _ _ => (pe_callO O_is_row (hr.mono (by decide)) T.g_is_row (pa_cons (pv 4) (pa_cons (pv 2) (pa_cons (pv 3) pa_nil)))))) pa_nil))))))),
      (semS_ret (sem_andV (sem_is (is_ty (by decide)) (.ty _) sem_var) (sem_andV (sem_op os_cmp (sem_cb (cs_or cs_len cs_lenD) (semA_cons sem_var semA_nil)) sem_var) (sem_cb cs_all (semA_cons (sem_lc (E1 := E0) (E2 := E0) (semI_walk (E := E0) sem_var) g_name semT_yes (sem_call mFn0_len (semA_cons sem_var (semA_cons sem_var (semA_cons sem_var semA_nil)))) (by decide)) semA_nil)))))⟩
theorem ok_are_rows (T : Txt P w K mg fn cl) : OkAt P w K mg base CX0 6 (fn 12) ["rows", "most", "many", "span"] (spF ⟨K, cl⟩ m_are_rows 4) := by
  obtain ⟨fd, F, B⟩ := T.d_are_rows.fu
  exact ⟨fd, okF_are_rows T F, B, F.kp⟩
def m_is_block : Fn := mFn0 6 7 (sSeq (sIf (mOr (mNot (mTru (mIs (ansT "tuple") (mVar 0)))) (mOp2 fNe (mCB (fOr1 fLen fLenD) (aCons (mVar 0) aNil)) (mVar 1))) (sRet (mC (.bl false))) sNx) (sSeq (sIf (mNot (mTru (mCB fAll (aCons (mLc (iWalk (mSl (mVar 0) oNone (oPart (mUn fNeg (mC (.int (2))))))) [6] (.nm 6) mYes (mCall m_are_joins (aCons (mVar 6) (aCons (mVar 3) aNil)))) aNil)))) (sRet (mC (.bl false))) sNx) (sRet (mAnd (mCall m_are_rows (aCons (mOp2 fIxA (mVar 0) (mUn fNeg (mC (.int (2))))) (aCons (mVar 2) (aCons (mVar 3) (aCons (mVar 4) aNil))))) (mCall m_is_end (aCons (mOp2 fIxA (mVar 0) (mUn fNeg (mC (.int (1))))) (aCons (mVar 3) (aCons (mVar 5) aNil))))))))
theorem sc_is_block : FnScope ["block", "parts", "most", "many", "span", "count", "joins"] ["block", "parts", "most", "many", "span", "count"] (defScope s_is_block) := ⟨rfl, rfl, rfl, by decide +kernel, rfl, by decide +kernel, by decide +kernel⟩
theorem okF_is_block (T : Txt P w K mg fn cl) {fd : FuncData} (F : L2.Fun K "is_block" "is_block" s_is_block (fn 13) fd) : FnOk P w K mg base CX0 7 (fn 13) fd ["block", "parts", "most", "many", "span", "count"] (spF ⟨K, cl⟩ m_is_block 6) :=
  fn_ok0 F sc_is_block rfl (by decide) fun cdv A outer s H E hr => by
    have sc := sc_is_block
    have O_are_joins := ok_are_joins (P := P) (w := w) (base := base) T
    have O_are_rows := ok_are_rows (P := P) (w := w) (base := base) T
    have O_is_end := ok_is_end (P := P) (w := w) (base := base) T
    have hu64 := hr.units
    have hu1 := hu_of hr
    exact ⟨_, (pss_cons (ps_if (PW.pt (pw_or (pt_not (pt_truth (pe_callB call_isi (by rfl) T.b_isinstance (by decide +kernel) (pa_cons (pv 0) (pa_cons (pe_bltn (v := .ty "tuple") (by rfl) T.b_tuple (by decide +kernel) rfl) pa_nil))) (fun _ => rfl))) (pw_or1 (pt_cmpR (op_neD hu64) (pe_callB call_lens (by rfl) T.b_len (by decide +kernel) (pa_cons (pv 0) pa_nil)) (pv 1) (nomark _))))) (pss_one (ps_ret pe_bl)) pss_nil)
      (pss_cons (ps_if (pt_not (pt_truth (pe_callB (cr_all rfl) (by rfl) T.b_all (by decide +kernel) (pa_cons (pe_lc (own := [("joins", 6)]) rfl sc.nd (pi_seqV (pe_slice sl_any (pv 0) po_none (po_some (pe_un un_neg pe_int)))) (by show BlkOk ["block", "parts", "most", "many", "span", "count", "joins"] (defScope s_is_block) _ _; exact ⟨rfl, by decide +kernel, by decide +kernel, by decide +kernel, by decide +kernel⟩) (fun _ _ _ _ _ => (pg_name (i := 6) sc.nd rfl (Or.inl rfl))) (fun _ _ _ _ _ => pts_nil) (fun _ _ _ _ _ => (pe_callO O_are_joins (hr.mono (by decide)) T.g_are_joins (pa_cons (pv 6) (pa_cons (pv 3) pa_nil))))) pa_nil)) (fun _ => rfl))) (pss_one (ps_ret pe_bl)) pss_nil)
      (pss_one (ps_ret (pe_and (pe_callO O_are_rows (hr.mono (by decide)) T.g_are_rows (pa_cons (pe_ix (ix_all hu1) (pv 0) (pe_un un_neg pe_int) (fun _ _ => rfl)) (pa_cons (pv 2) (pa_cons (pv 3) (pa_cons (pv 4) pa_nil))))) (pe_one (pe_callO O_is_end (hr.mono (by decide)) T.g_is_end (pa_cons (pe_ix (ix_all hu1) (pv 0) (pe_un un_neg pe_int) (fun _ _ => rfl)) (pa_cons (pv 3) (pa_cons (pv 5) pa_nil)))))))))),
      (semS_seq (semS_if (semT_or (semT_not (semT_tru (sem_is (is_ty (by decide)) (.ty _) sem_var))) (semT_test (sem_op os_ne (sem_cb (cs_or cs_len cs_lenD) (semA_cons sem_var semA_nil)) sem_var))) (semS_ret sem_bl) semS_nx) (semS_seq (semS_if (semT_not (semT_tru (sem_cb cs_all (semA_cons (sem_lc (E1 := E0) (E2 := E0) (semI_walk (E := E0) (sem_sl sem_var semO_none (semO_part (sem_neg sem_int)))) g_name semT_yes (sem_call mFn0_len (semA_cons sem_var (semA_cons sem_var semA_nil))) (by decide)) semA_nil)))) (semS_ret sem_bl) semS_nx) (semS_ret (sem_andV (sem_call mFn0_len (semA_cons (sem_op os_ixA sem_var (sem_neg sem_int)) (semA_cons sem_var (semA_cons sem_var (semA_cons sem_var semA_nil))))) (sem_call mFn0_len (semA_cons (sem_op os_ixA sem_var (sem_neg sem_int)) (semA_cons sem_var (semA_cons sem_var semA_nil))))))))⟩
theorem ok_is_block (T : Txt P w K mg fn cl) : OkAt P w K mg base CX0 7 (fn 13) ["block", "parts", "most", "many", "span", "count"] (spF ⟨K, cl⟩ m_is_block 6) := by
  obtain ⟨fd, F, B⟩ := T.d_is_block.fu
  exact ⟨fd, okF_is_block T F, B, F.kp⟩
def m_are_blocks : Fn := mFn0 5 6 (sSeq (sIf (mOr (mNot (mTru (mIs (ansT "tuple") (mVar 0)))) (mNot (mTru (mCall m_is_integer (aCons (mCB (fOr1 fLen fLenD) (aCons (mVar 0) aNil)) (aCons (mC (.int (1))) (aCons (mOp2 fAddA (mC (.int (16))) (mC (.int (1)))) aNil))))))) (sRet (mC (.bl false))) sNx) (sSeq (sIf (mNot (mTru (mCB fAll (aCons (mLc (iWalk (mVar 0)) [5] (.nm 5) mYes (mCall m_is_block (aCons (mVar 5) (aCons (mVar 1) (aCons (mVar 2) (aCons (mVar 3) (aCons (mVar 4) (aCons (mCB (fOr1 fLen fLenD) (aCons (mVar 0) aNil)) aNil)))))))) aNil)))) (sRet (mC (.bl false))) sNx) (sRet (mOp2 fEq (mCB (fOr1 fLen fLenD) (aCons (mCall m_reached (aCons (mVar 0) (aCons (mC .non) aNil))) aNil)) (mCB (fOr1 fLen fLenD) (aCons (mVar 0) aNil))))))
theorem sc_are_blocks : FnScope ["blocks", "parts", "most", "many", "span", "block"] ["blocks", "parts", "most", "many", "span"] (defScope s_are_blocks) := ⟨rfl, rfl, rfl, by decide +kernel, rfl, by decide +kernel, by decide +kernel⟩
theorem okF_are_blocks (T : Txt P w K mg fn cl) {fd : FuncData} (F : L2.Fun K "are_blocks" "are_blocks" s_are_blocks (fn 14) fd) : FnOk P w K mg base CX0 8 (fn 14) fd ["blocks", "parts", "most", "many", "span"] (spF ⟨K, cl⟩ m_are_blocks 5) :=
  fn_ok0 F sc_are_blocks rfl (by decide) fun cdv A outer s H E hr => by
    have sc := sc_are_blocks
    have O_is_block := ok_is_block (P := P) (w := w) (base := base) T
    have O_is_integer := ok_is_integer (P := P) (w := w) (base := base) T
    have O_reached := ok_reached (P := P) (w := w) (base := base) T
    have hu64 := hr.units
    exact ⟨_, (pss_cons (ps_if (PW.pt (pw_or (pt_not (pt_truth (pe_callB call_isi (by rfl) T.b_isinstance (by decide +kernel) (pa_cons (pv 0) (pa_cons (pe_bltn (v := .ty "tuple") (by rfl) T.b_tuple (by decide +kernel) rfl) pa_nil))) (fun _ => rfl))) (pw_or1 (pt_not (pt_truth (pe_callO O_is_integer (hr.mono (by decide)) T.g_is_integer (pa_cons (pe_callB call_lens (by rfl) T.b_len (by decide +kernel) (pa_cons (pv 0) pa_nil)) (pa_cons pe_int (pa_cons (pe_op op_addA (pe_k T.k_MOST_BLOCKS) pe_int) pa_nil)))) (fun _ => rfl)))))) (pss_one (ps_ret pe_bl)) pss_nil)
      (pss_cons (ps_if (pt_not (pt_truth (pe_callB (cr_all rfl) (by rfl) T.b_all (by decide +kernel) (pa_cons (pe_lc (own := [("block", 5)]) rfl sc.nd (pi_seqV (pv 0)) (by show BlkOk ["blocks", "parts", "most", "many", "span", "block"] (defScope s_are_blocks) _ _; exact ⟨rfl, by decide +kernel, by decide +kernel, by decide +kernel, by decide +kernel⟩) (fun _ _ _ _ _ => (pg_name (i := 5) sc.nd rfl (Or.inl rfl))) (fun _ _ _ _ _ => pts_nil) (fun _ _ _ _ _ => (pe_callO O_is_block (hr.mono (by decide)) T.g_is_block (pa_cons (pv 5) (pa_cons (pv 1) (pa_cons (pv 2) (pa_cons (pv 3) (pa_cons (pv 4) (pa_cons (pe_callB call_lens (by rfl) T.b_len (by decide +kernel) (pa_cons (pv 0) pa_nil)) pa_nil))))))))) pa_nil)) (fun _ => rfl))) (pss_one (ps_ret pe_bl)) pss_nil)
      (pss_one (ps_ret (pe_cmpR (op_eqD hu64) (pe_callB call_lens (by rfl) T.b_len (by decide +kernel) (pa_cons (pe_callO O_reached (hr.mono (by decide)) T.g_reached (pa_cons (pv 0) (pa_cons pe_non pa_nil))) pa_nil)) (pe_callB call_lens (by rfl) T.b_len (by decide +kernel) (pa_cons (pv 0) pa_nil)) (nomark _)))))),
      (semS_seq (semS_if (semT_or (semT_not (semT_tru (sem_is (is_ty (by decide)) (.ty _) sem_var))) (semT_not (semT_tru (sem_call mFn0_len (semA_cons (sem_cb (cs_or cs_len cs_lenD) (semA_cons sem_var semA_nil)) (semA_cons sem_int (semA_cons (sem_op os_addA sem_int sem_int) semA_nil))))))) (semS_ret sem_bl) semS_nx) (semS_seq (semS_if (semT_not (semT_tru (sem_cb cs_all (semA_cons (sem_lc (E1 := E0) (E2 := E0) (semI_walk (E := E0) sem_var) g_name semT_yes (sem_call mFn0_len (semA_cons sem_var (semA_cons sem_var (semA_cons sem_var (semA_cons sem_var (semA_cons sem_var (semA_cons (sem_cb (cs_or cs_len cs_lenD) (semA_cons sem_var semA_nil)) semA_nil))))))) (by decide)) semA_nil)))) (semS_ret sem_bl) semS_nx) (semS_ret (sem_op os_eq (sem_cb (cs_or cs_len cs_lenD) (semA_cons (sem_call mFn0_len (semA_cons sem_var (semA_cons sem_non semA_nil))) semA_nil)) (sem_cb (cs_or cs_len cs_lenD) (semA_cons sem_var semA_nil))))))⟩
theorem ok_are_blocks (T : Txt P w K mg fn cl) : OkAt P w K mg base CX0 8 (fn 14) ["blocks", "parts", "most", "many", "span"] (spF ⟨K, cl⟩ m_are_blocks 5) := by
  obtain ⟨fd, F, B⟩ := T.d_are_blocks.fu
  exact ⟨fd, okF_are_blocks T F, B, F.kp⟩
def m_wrong_single_part : Fn := mFn0 4 7 (sSeq (sIf (mNot (mTru (mCall m_is_integer (aCons (mVar 0) (aCons (mC (.int (1))) (aCons (mOp2 fAddA (mC (.int (48))) (mC (.int (1)))) aNil)))))) (sRet (mC (.str "many"))) sNx) (sSeq (sIf (mNot (mTru (mCall m_is_integer (aCons (mVar 3) (aCons (mC (.int (2))) (aCons (mOp2 fAddA (mC (.int (8))) (mC (.int (1)))) aNil)))))) (sRet (mC (.str "span"))) sNx) (sSeq (sIf (mOr (mNot (mTru (mCall m_are_integers (aCons (mVar 1) (aCons (mC (.int (0))) (aCons (mVar 0) aNil)))))) (mOp2 (fCmp fun i j => decide (j < i)) (mCB (fOr1 fLen fLenD) (aCons (mVar 1) aNil)) (mC (.int (3))))) (sRet (mC (.str "handed"))) sNx) (sSeq (sIf (mNot (mTru (mCall m_are_blocks (aCons (mVar 2) (aCons (mC (.int (3))) (aCons (mC (.int (24))) (aCons (mVar 0) (aCons (mVar 3) aNil)))))))) (sRet (mC (.str "blocks"))) sNx) (sSeq (sAsgV 4 (mCall m_all_definitions (aCons (mVar 1) (aCons (mVar 2) aNil)))) (sSeq (sIf (mOp2 fNe (mCB fSortI (aCons (mLc (iWalk (mVar 4)) [5, 6] (.tu ((.nm 5) :: (.nm 6) :: [])) mYes (mVar 5)) aNil)) (mLR1 (mVar 0))) (sRet (mC (.str "defined"))) sNx) (sSeq (sIf (mOr (mNot (mTru (mCall m_are_joins_full (aCons (mVar 2) aNil)))) (mNot (mTru (mCall m_are_uses_behind (aCons (mVar 4) (aCons (mVar 2) aNil)))))) (sRet (mC (.str "strict"))) sNx) (sRet (mC .non)))))))))
theorem sc_wrong_single_part : FnScope ["many", "handed", "blocks", "span", "definitions", "variable", "_"] ["many", "handed", "blocks", "span"] (defScope s_wrong_single_part) := ⟨rfl, rfl, rfl, by decide +kernel, rfl, by decide +kernel, by decide +kernel⟩
theorem okF_wrong_single_part (T : Txt P w K mg fn cl) {fd : FuncData} (F : L2.Fun K "wrong_single_part" "wrong_single_part" s_wrong_single_part (fn 41) fd) : FnOk P w K mg base CX0 9 (fn 41) fd ["many", "handed", "blocks", "span"] (spF ⟨K, cl⟩ m_wrong_single_part 4) :=
  fn_ok0 F sc_wrong_single_part rfl (by decide) fun cdv A outer s H E hr => by
    have sc := sc_wrong_single_part
    have O_all_definitions := ok_all_definitions (P := P) (w := w) (base := base) T
    have O_are_blocks := ok_are_blocks (P := P) (w := w) (base := base) T
    have O_are_integers := ok_are_integers (P := P) (w := w) (base := base) T
    have O_are_joins_full := ok_are_joins_full (P := P) (w := w) (base := base) T
    have O_are_uses_behind := ok_are_uses_behind (P := P) (w := w) (base := base) T
    have O_is_integer := ok_is_integer (P := P) (w := w) (base := base) T
    have hu64 := hr.units
    exact ⟨_, (pss_cons (ps_if (pt_not (pt_truth (pe_callO O_is_integer (hr.mono (by decide)) T.g_is_integer (pa_cons (pv 0) (pa_cons pe_int (pa_cons (pe_op op_addA (pe_k T.k_MOST_SINGLE) pe_int) pa_nil)))) (fun _ => rfl))) (pss_one (ps_ret pe_str)) pss_nil)
      (pss_cons (ps_if (pt_not (pt_truth (pe_callO O_is_integer (hr.mono (by decide)) T.g_is_integer (pa_cons (pv 3) (pa_cons pe_int (pa_cons (pe_op op_addA (pe_k T.k_MOST_SPAN) pe_int) pa_nil)))) (fun _ => rfl))) (pss_one (ps_ret pe_str)) pss_nil)
      (pss_cons (ps_if (PW.pt (pw_or (pt_not (pt_truth (pe_callO O_are_integers (hr.mono (by decide)) T.g_are_integers (pa_cons (pv 1) (pa_cons pe_int (pa_cons (pv 0) pa_nil)))) (fun _ => rfl))) (pw_or1 (pt_cmpR op_gt (pe_callB call_lens (by rfl) T.b_len (by decide +kernel) (pa_cons (pv 1) pa_nil)) (pe_k T.k_MOST_HANDED) (nomark _))))) (pss_one (ps_ret pe_str)) pss_nil)
      (pss_cons (ps_if (pt_not (pt_truth (pe_callO O_are_blocks (hr.mono (by decide)) T.g_are_blocks (pa_cons (pv 2) (pa_cons pe_int (pa_cons (pe_k T.k_MOST_ROWS) (pa_cons (pv 0) (pa_cons (pv 3) pa_nil)))))) (fun _ => rfl))) (pss_one (ps_ret pe_str)) pss_nil)
      (pss_cons (ps_set (i := 4) sc.nd rfl (Or.inl rfl) (pe_callO O_all_definitions (hr.mono (by decide)) T.g_all_definitions (pa_cons (pv 1) (pa_cons (pv 2) pa_nil))))
      (pss_cons (ps_if (pt_cmpR (op_neD hu64) (pe_callB cr_sortedI (by rfl) T.b_sorted (by decide +kernel) (pa_cons (pe_lc (own := [("variable", 5), ("_", 6)]) rfl sc.nd (pi_seqV (pv 4)) (by show BlkOk ["many", "handed", "blocks", "span", "definitions", "variable", "_"] (defScope s_wrong_single_part) _ _; exact ⟨rfl, by decide +kernel, by decide +kernel, by decide +kernel, by decide +kernel⟩) (fun _ _ _ _ _ => (pg_tup (n := 2) rfl (pgs_cons (pg_name (i := 5) sc.nd rfl (Or.inl rfl)) (pgs_cons (pg_name (i := 6) sc.nd rfl (Or.inl rfl)) pgs_nil)))) (fun _ _ _ _ _ => pts_nil) (fun _ _ _ _ _ => (pv 5))) pa_nil)) (pe_listRg rfl (by rfl) T.b_list (prg_1 (by rfl) T.b_range (pv 0))) (nomark _)) (pss_one (ps_ret pe_str)) pss_nil)
      (pss_cons (ps_if (PW.pt (pw_or (pt_not (pt_truth (pe_callO O_are_joins_full (hr.mono (by decide)) T.g_are_joins_full (pa_cons (pv 2) pa_nil)) (fun _ => rfl))) (pw_or1 (pt_not (pt_truth (pe_callO O_are_uses_behind (hr.mono (by decide)) T.g_are_uses_behind (pa_cons (pv 4) (pa_cons (pv 2) pa_nil))) (fun _ => rfl)))))) (pss_one (ps_ret pe_str)) pss_nil)
      (pss_one (ps_ret pe_non))))))))),
      (semS_seq (semS_if (semT_not (semT_tru (sem_call mFn0_len (semA_cons sem_var (semA_cons sem_int (semA_cons (sem_op os_addA sem_int sem_int) semA_nil)))))) (semS_ret sem_str) semS_nx) (semS_seq (semS_if (semT_not (semT_tru (sem_call mFn0_len (semA_cons sem_var (semA_cons sem_int (semA_cons (sem_op os_addA sem_int sem_int) semA_nil)))))) (semS_ret sem_str) semS_nx) (semS_seq (semS_if (semT_or (semT_not (semT_tru (sem_call mFn0_len (semA_cons sem_var (semA_cons sem_int (semA_cons sem_var semA_nil)))))) (semT_test (sem_op os_cmp (sem_cb (cs_or cs_len cs_lenD) (semA_cons sem_var semA_nil)) sem_int))) (semS_ret sem_str) semS_nx) (semS_seq (semS_if (semT_not (semT_tru (sem_call mFn0_len (semA_cons sem_var (semA_cons sem_int (semA_cons sem_int (semA_cons sem_var (semA_cons sem_var semA_nil)))))))) (semS_ret sem_str) semS_nx) (semS_seq (semS_asgV (sem_call mFn0_len (semA_cons sem_var (semA_cons sem_var semA_nil)))) (semS_seq (semS_if (semT_test (sem_op os_ne (sem_cb cs_sortI (semA_cons (sem_lc (E1 := E0) (E2 := E0) (semI_walk (E := E0) sem_var) (g_tup (gs_cons g_name (gs_cons g_name gs_nil))) semT_yes sem_var (by decide)) semA_nil)) (sem_lr1 sem_var))) (semS_ret sem_str) semS_nx) (semS_seq (semS_if (semT_or (semT_not (semT_tru (sem_call mFn0_len (semA_cons sem_var semA_nil)))) (semT_not (semT_tru (sem_call mFn0_len (semA_cons sem_var (semA_cons sem_var semA_nil)))))) (semS_ret sem_str) semS_nx) (semS_ret sem_non))))))))⟩
theorem ok_wrong_single_part (T : Txt P w K mg fn cl) : OkAt P w K mg base CX0 9 (fn 41) ["many", "handed", "blocks", "span"] (spF ⟨K, cl⟩ m_wrong_single_part 4) := by
  obtain ⟨fd, F, B⟩ := T.d_wrong_single_part.fu
  exact ⟨fd, okF_wrong_single_part T F, B, F.kp⟩
def m_Single___init__ : Fn := mFn 5 8 (sSeq (sAsgV 5 (mCall m_wrong_single_part (aCons (mVar 1) (aCons (mVar 2) (aCons (mVar 3) (aCons (mVar 4) aNil)))))) (sSeq (sIf (mOp2 (fIsN true) (mVar 5) (mC .non)) (sRaise 1 (aCons (mVar 5) aNil)) sNx) (sSeq (sFldM [4] "many" 0 (mVar 1)) (sSeq (sFldM [4] "handed" 0 (mVar 2)) (sSeq (sFldM [4] "blocks" 0 (mVar 3)) (sSeq (sFldM [4] "span" 0 (mVar 4)) (sSeq (sFldM [4] "_definitions" 0 (mDc (iWalk (mCall m_all_definitions (aCons (mVar 2) (aCons (mVar 3) aNil)))) [6, 7] (.tu ((.nm 6) :: (.nm 7) :: [])) mYes (mVar 6) (mVar 7))) (sFldM [4] "_without" 0 (mCall m_all_without (aCons (mVar 3) aNil))))))))))
theorem sc_Single___init__ : FnScope ["self", "many", "handed", "blocks", "span", "part", "variable", "point"] ["self", "many", "handed", "blocks", "span"] (defScope s_Single___init__) := ⟨rfl, rfl, rfl, by decide +kernel, rfl, by decide +kernel, by decide +kernel⟩
theorem ok_Single___init__ (T : Txt P w K mg fn cl) {fd : FuncData} (F : L2.Fun K "__init__" "Single.__init__" s_Single___init__ (fn 28) fd) : FnOk P w K mg base (L2.CX P w) 11 (fn 28) fd ["self", "many", "handed", "blocks", "span"] (spF ⟨K, cl⟩ m_Single___init__ 5) :=
  okx F sc_Single___init__ rfl (by decide) fun cdv A outer s H E hr => by
    obtain ⟨fI_BadSingle, fd_BadSingle, X_BadSingle, B_BadSingle, G_BadSingle⟩ := T.x_BadSingle
    have sc := sc_Single___init__
    have O_all_definitions := ok_all_definitions (P := P) (w := w) (base := base) T
    have O_all_without := ok_all_without (P := P) (w := w) (base := base) T
    have O_wrong_single_part := ok_wrong_single_part (P := P) (w := w) (base := base) T
    exact ⟨_, (pss_cons (ps_set (i := 5) sc.nd rfl (Or.inl rfl) (pe_callO O_wrong_single_part (hr.mono (by decide)) T.g_wrong_single_part (pa_cons (pv 1) (pa_cons (pv 2) (pa_cons (pv 3) (pa_cons (pv 4) pa_nil))))))
      (pss_cons (ps_if (pt_cmpR op_notN (pv 5) pe_non (nomark _)) (pss_one (ps_raiseBad rfl (takes_of rfl rfl rfl rfl) X_BadSingle B_BadSingle hr G_BadSingle (pa_cons (pv 5) pa_nil))) pss_nil)
      (pss_cons (ps_fld (pv 0) (pv 1) rfl)
      (pss_cons (ps_fld (pv 0) (pv 2) rfl)
      (pss_cons (ps_fld (pv 0) (pv 3) rfl)
      (pss_cons (ps_fld (pv 0) (pv 4) rfl)
      (pss_cons (ps_fld (pv 0) (pe_dc (own := [("variable", 6), ("point", 7)]) rfl sc.nd (pi_seqV (pe_callO O_all_definitions (hr.mono (by decide)) T.g_all_definitions (pa_cons (pv 2) (pa_cons (pv 3) pa_nil)))) (by show BlkOk ["self", "many", "handed", "blocks", "span", "part", "variable", "point"] (defScope s_Single___init__) _ _; exact ⟨rfl, by decide +kernel, by decide +kernel, by decide +kernel, by decide +kernel⟩) (fun _ _ _ _ _ => (pg_tup (n := 2) rfl (pgs_cons (pg_name (i := 6) sc.nd rfl (Or.inl rfl)) (pgs_cons (pg_name (i := 7) sc.nd rfl (Or.inl rfl)) pgs_nil)))) (fun _ _ _ _ _ => pts_nil) (fun _ _ _ _ _ => (pv 6)) (fun _ _ _ _ _ => (pv 7))) rfl)
      (pss_one (ps_fld (pv 0) (pe_callO O_all_without (hr.mono (by decide)) T.g_all_without (pa_cons (pv 3) pa_nil)) rfl))))))))),
      (semS_seq (semS_asgV (sem_callE (.inr mFn0_noex) mFn0_len (semA_cons sem_var (semA_cons sem_var (semA_cons sem_var (semA_cons sem_var semA_nil)))))) (semS_seq (semS_if (semT_test (sem_op os_notN sem_var sem_non)) (semS_raise (c := 1) (semA_cons sem_var semA_nil)) semS_nx) (semS_seq (semS_fld T.h_many sem_var) (semS_seq (semS_fld T.h_handed sem_var) (semS_seq (semS_fld T.h_blocks sem_var) (semS_seq (semS_fld T.h_span sem_var) (semS_seq (semS_fld T.h__definitions (sem_dc (E1 := E0) (E2 := E0) (E3 := E0) (semI_walk (E := E0) (sem_callE (.inr mFn0_noex) mFn0_len (semA_cons sem_var (semA_cons sem_var semA_nil)))) (g_tup (gs_cons g_name (gs_cons g_name gs_nil))) semT_yes sem_var sem_var (by decide))) (semS_fld T.h__without (sem_callE (.inr mFn0_noex) mFn0_len (semA_cons sem_var semA_nil))))))))))⟩
def m_law_part : Fn := mFn0 4 5 (sSeq (sTry 1 (mMake 4 m_Single___init__ (aCons (mVar 0) (aCons (mVar 1) (aCons (mVar 2) aNil))) (aCons (mVar 3) aNil) (fun ds zs => ds ++ zs) 3 1)) (sRet (mC (.str "none"))))
theorem sc_law_part : FnScope ["many", "given", "blocks", "wide", "error"] ["many", "given", "blocks", "wide"] (defScope s_law_part) := ⟨rfl, rfl, rfl, by decide +kernel, rfl, by decide +kernel, by decide +kernel⟩
theorem okF_law_part (T : Txt P w K mg fn cl) {fd : FuncData} (F : L2.Fun K "_law_part" "_law_part" s_law_part (fn 47) fd) : FnOk P w K mg base CX0 14 (fn 47) fd ["many", "given", "blocks", "wide"] (spF ⟨K, cl⟩ m_law_part 4) :=
  fn_ok0 F sc_law_part rfl (by decide) fun cdv A outer s H E hr => by
    have sc := sc_law_part
    obtain ⟨fdI_Single, F_Single, M_Single, G_Single, ⟨g1_Single, KB_Single_all⟩, ⟨g2_Single, KB_Single_none⟩⟩ := T.i_Single
    have OX_Single := ok_Single___init__ (P := P) (w := w) (base := base) T F_Single
    have EK_BadSingle := T.ek_BadSingle
    have TR_BadSingle := T.tr_BadSingle
    have G_BadSingle := T.e_BadSingle
    exact ⟨_, (pss_cons (ps_try_as (i := 4) (tb := fun W => tDrop ((fun E : XK => tMakeK (cl 4) 3 1 (spF ⟨K, cl⟩ m_Single___init__ 5) (fun vs zs => vs ++ zs) E (tCons (tVar 0) (tCons (tVar 1) (tCons (tVar 2) tNil))) (tCons (tVar 3) tNil)) fun cls d H' => ∀ σ' : L2.St, σ'.length = 5 → W cls d σ' H')) (ts := tSuite K (cl 1) 4 (.ty "ValueError") (.ref (cl 0)) "odd") (Wout := fun _ _ _ _ => False) rfl rfl sc.nd rfl rfl ⟨rfl, by decide, Or.inl G_BadSingle⟩ takes0
        (fun W pn xe tk _ => (fun PX => (pss_one (ps_expr (pe_makeK M_Single OX_Single (hr.mono (by decide)) (by rfl) G_Single KB_Single_all PX (pa_cons (pv 0) (pa_cons (pv 1) (pa_cons (pv 2) pa_nil))) (pk_cons (pv 3) pk_nil))))) (passLen tk)) (fun a oe cls d pn hz hf => (pss_one (ps_ret (pe_ifExp (PW.pt (pw_and (pt_val (pe_callB (call_isX EK_BadSingle hz hf) (by rfl) T.b_isinstance (by decide +kernel) (pa_cons (pv 4) (pa_cons (pe_bltn (v := .ty "ValueError") (by rfl) T.b_ValueError (by decide +kernel) rfl) pa_nil)))) (pw_and1 (pt_val (pe_callB (call_isX EK_BadSingle hz hf) (by rfl) T.b_isinstance (by decide +kernel) (pa_cons (pv 4) (pa_cons (pe_k (v := .ref (cl 0)) ⟨_, T.e_RoomError, rfl⟩) pa_nil))))))) (pe_partX EK_BadSingle hz hf (pv 4)) pe_str)))))
      (pss_one (ps_ret pe_str))),
      (semS_seq (semS_try (c := 1) (i := 4) (n := 5) (tmk := (fun E : XK => tMakeK (cl 4) 3 1 (spF ⟨K, cl⟩ m_Single___init__ 5) (fun vs zs => vs ++ zs) E (tCons (tVar 0) (tCons (tVar 1) (tCons (tVar 2) tNil))) (tCons (tVar 3) tNil))) (by decide) (fun E => (sem_makeK (c := 4) mFn_len (fun _ _ _ _ _ => rfl) (fun _ _ r1 r2 => r1.append r2) (semA_cons sem_var (semA_cons sem_var (semA_cons sem_var semA_nil))) (semA_cons sem_var semA_nil))) TR_BadSingle.1 (fun u r => r) (fun u r => r) TR_BadSingle.2.1 TR_BadSingle.2.2) (semS_ret sem_str))⟩
theorem ok_law_part (T : Txt P w K mg fn cl) : OkAt P w K mg base CX0 14 (fn 47) ["many", "given", "blocks", "wide"] (spF ⟨K, cl⟩ m_law_part 4) := by
  obtain ⟨fd, F, B⟩ := T.d_law_part.fu
  exact ⟨fd, okF_law_part T F, B, F.kp⟩
def m_law_parts_right : Fn := mFn0 0 8 (sSeq (sAsgV 0 (mCall m_law_loop (aCons (mTup (aCons (mTup (aCons (mC (.int (2))) (aCons (mTup (aCons (mC (.int (0))) (aCons (mC (.int (3))) aNil))) aNil))) aNil)) (aCons (mTup (aCons (mTup (aCons (mC (.str "tell")) (aCons (mC (.int (2))) aNil))) (aCons (mTup (aCons (mC (.str "sub")) (aCons (mC (.int (3))) (aCons (mC (.int (2))) (aCons (mC (.int (1))) aNil))))) aNil))) aNil)))) (sSeq (sIf (mOp2 fNe (mCall m_law_part (aCons (mC (.int (4))) (aCons (mTup (aCons (mC (.int (0))) aNil)) (aCons (mVar 0) (aCons (mC (.int (2))) aNil))))) (mC (.str "none"))) (sRet (mC (.bl false))) sNx) (sSeq (sFor (iWalk (mTup (aCons (mC .non) (aCons (mC (.int (0))) (aCons (mC (.int (49))) (aCons (mC (.bl true)) (aCons (mC (.str "4")) aNil))))))) (.nm 1) (sIf (mOp2 fNe (mCall m_law_part (aCons (mVar 1) (aCons (mC .non) (aCons (mC .non) (aCons (mC (.int (1))) aNil))))) (mC (.str "many"))) (sRet (mC (.bl false))) sNx)) (sSeq (sFor (iWalk (mTup (aCons (mC .non) (aCons (mC (.int (1))) (aCons (mC (.int (9))) (aCons (mC (.bl true)) (aCons (mC (.str "2")) aNil))))))) (.nm 2) (sIf (mOp2 fNe (mCall m_law_part (aCons (mC (.int (4))) (aCons (mC .non) (aCons (mC .non) (aCons (mVar 2) aNil))))) (mC (.str "span"))) (sRet (mC (.bl false))) sNx)) (sSeq (sFor (iWalk (mTup (aCons (mC .non) (aCons (mC (.int (0))) (aCons (mLst (aCons (mC (.int (0))) aNil)) (aCons (mTup (aCons (mC (.int (4))) aNil)) (aCons (mTup (aCons (mUn fNeg (mC (.int (1)))) aNil)) (aCons (mTup (aCons (mC (.bl true)) aNil)) (aCons (mTup (aCons (mC (.int (0))) (aCons (mC (.int (1))) (aCons (mC (.int (2))) (aCons (mC (.int (3))) aNil))))) (aCons (mTup (aCons (mC (.str "0")) aNil)) aNil)))))))))) (.nm 3) (sIf (mOp2 fNe (mCall m_law_part (aCons (mC (.int (4))) (aCons (mVar 3) (aCons (mC .non) (aCons (mC (.int (2))) aNil))))) (mC (.str "handed"))) (sRet (mC (.bl false))) sNx)) (sSeq (sAsgO 4 (mLst (aCons (mC .non) (aCons (mTup aNil) (aCons (mLst aNil) (aCons (mSl (mVar 0) oNone (oPart (mC (.int (2))))) (aCons (mSl (mVar 0) (oPart (mC (.int (1)))) oNone) (aCons (mOp2 fMulA (mVar 0) (mC (.int (6)))) (aCons (mOp2 fAddA (mTup (aCons (mSl (mOp2 fIxA (mVar 0) (mC (.int (0)))) (oPart (mC (.int (1)))) oNone) aNil)) (mSl (mVar 0) (oPart (mC (.int (1)))) oNone)) (aCons (mOp2 fAddA (mTup (aCons (mOp2 fAddA (mTup (aCons (mC .non) aNil)) (mSl (mOp2 fIxA (mVar 0) (mC (.int (0)))) (oPart (mC (.int (1)))) oNone)) aNil)) (mSl (mVar 0) (oPart (mC (.int (1)))) oNone)) aNil)))))))))) (sSeq (sFor (iWalk (mTup (aCons (mLst aNil) (aCons (mTup (aCons (mC (.int (0))) aNil)) (aCons (mTup (aCons (mTup (aCons (mC (.int (2))) aNil)) aNil)) (aCons (mTup (aCons (mTup (aCons (mC (.int (2))) (aCons (mLst (aCons (mC (.int (0))) (aCons (mC (.int (3))) aNil))) aNil))) aNil)) (aCons (mTup (aCons (mTup (aCons (mC (.int (4))) (aCons (mTup (aCons (mC (.int (0))) (aCons (mC (.int (3))) aNil))) aNil))) aNil)) (aCons (mTup (aCons (mTup (aCons (mC (.int (2))) (aCons (mTup (aCons (mC (.int (0))) (aCons (mC (.int (4))) aNil))) aNil))) aNil)) (aCons (mTup (aCons (mTup (aCons (mC (.int (2))) (aCons (mTup (aCons (mC (.int (0))) (aCons (mC (.bl true)) aNil))) aNil))) aNil)) (aCons (mTup (aCons (mTup (aCons (mC (.int (2))) (aCons (mC (.int (0))) (aCons (mC (.int (3))) aNil)))) aNil)) aNil)))))))))) (.nm 5) (sDrop (mApp 4 (mCall m_law_loop (aCons (mVar 5) (aCons (mTup (aCons (mTup (aCons (mC (.str "tell")) (aCons (mC (.int (2))) aNil))) (aCons (mTup (aCons (mC (.str "sub")) (aCons (mC (.int (3))) (aCons (mC (.int (2))) (aCons (mC (.int (1))) aNil))))) aNil))) aNil)))))) (sSeq (sFor (iWalk (mTup (aCons (mLst aNil) (aCons (mTup (aCons (mTup (aCons (mC (.str "tell")) (aCons (mC (.int (4))) aNil))) aNil)) (aCons (mTup (aCons (mTup (aCons (mC (.str "put")) (aCons (mC (.int (3))) (aCons (mC (.int (2))) aNil)))) aNil)) (aCons (mOp2 fMulA (mTup (aCons (mTup (aCons (mC (.str "tell")) (aCons (mC (.int (2))) aNil))) aNil)) (mC (.int (25)))) (aCons (mTup (aCons (mC .non) aNil)) aNil))))))) (.nm 6) (sDrop (mApp 4 (mCall m_law_loop (aCons (mTup (aCons (mTup (aCons (mC (.int (2))) (aCons (mTup (aCons (mC (.int (0))) (aCons (mC (.int (3))) aNil))) aNil))) aNil)) (aCons (mVar 6) aNil)))))) (sSeq (sFor (iWalk (mFz 4)) (.nm 7) (sIf (mOp2 fNe (mCall m_law_part (aCons (mC (.int (4))) (aCons (mTup (aCons (mC (.int (0))) aNil)) (aCons (mVar 7) (aCons (mC (.int (2))) aNil))))) (mC (.str "blocks"))) (sRet (mC (.bl false))) sNx)) (sRet (mC (.bl true))))))))))))
theorem sc_law_parts_right : FnScope ["good", "many", "wide", "given", "odd", "joins", "rows", "blocks"] [] (defScope s_law_parts_right) := ⟨rfl, rfl, rfl, by decide +kernel, rfl, by decide +kernel, by decide +kernel⟩
theorem okF_law_parts_right (T : Txt P w K mg fn cl) {fd : FuncData} (F : L2.Fun K "_law_parts_right" "_law_parts_right" s_law_parts_right (fn 50) fd) : FnOk P w K mg base CX0 15 (fn 50) fd [] (spF ⟨K, cl⟩ m_law_parts_right 0) :=
  fn_ok0 F sc_law_parts_right rfl (by decide) fun cdv A outer s H E hr => by
    have sc := sc_law_parts_right
    have O_law_loop := ok_law_loop (P := P) (w := w) (base := base) T
    have O_law_part := ok_law_part (P := P) (w := w) (base := base) T
    have hu64 := hr.units
    have hu1 := hu_of hr
    exact ⟨_, (pss_cons (ps_set (i := 0) sc.nd rfl (Or.inl rfl) (pe_callO O_law_loop (hr.mono (by decide)) T.g_law_loop (pa_cons (pe_tup (pa_cons (pe_tup (pa_cons pe_int (pa_cons (pe_tup (pa_cons pe_int (pa_cons pe_int pa_nil))) pa_nil))) pa_nil)) (pa_cons (pe_tup (pa_cons (pe_tup (pa_cons pe_str (pa_cons pe_int pa_nil))) (pa_cons (pe_tup (pa_cons pe_str (pa_cons pe_int (pa_cons pe_int (pa_cons pe_int pa_nil))))) pa_nil))) pa_nil))))
      (pss_cons (ps_if (pt_cmpR (op_neD hu64) (pe_callO O_law_part (hr.mono (by decide)) T.g_law_part (pa_cons pe_int (pa_cons (pe_tup (pa_cons pe_int pa_nil)) (pa_cons (pv 0) (pa_cons pe_int pa_nil))))) pe_str (nomark _)) (pss_one (ps_ret pe_bl)) pss_nil)
      (pss_cons (ps_for PassesOwn.never rfl (pi_seqV (pe_tup (pa_cons pe_non (pa_cons pe_int (pa_cons pe_int (pa_cons pe_bl (pa_cons pe_str pa_nil))))))) (pg_name (i := 1) sc.nd rfl (Or.inl rfl)) (pss_one (ps_if (pt_cmpR (op_neD hu64) (pe_callO O_law_part (hr.mono (by decide)) T.g_law_part (pa_cons (pv 1) (pa_cons pe_non (pa_cons pe_non (pa_cons pe_int pa_nil))))) pe_str (nomark _)) (pss_one (ps_ret pe_bl)) pss_nil)))
      (pss_cons (ps_for PassesOwn.never rfl (pi_seqV (pe_tup (pa_cons pe_non (pa_cons pe_int (pa_cons pe_int (pa_cons pe_bl (pa_cons pe_str pa_nil))))))) (pg_name (i := 2) sc.nd rfl (Or.inl rfl)) (pss_one (ps_if (pt_cmpR (op_neD hu64) (pe_callO O_law_part (hr.mono (by decide)) T.g_law_part (pa_cons pe_int (pa_cons pe_non (pa_cons pe_non (pa_cons (pv 2) pa_nil))))) pe_str (nomark _)) (pss_one (ps_ret pe_bl)) pss_nil)))
      (pss_cons (ps_for PassesOwn.never rfl (pi_seqV (pe_tup (pa_cons pe_non (pa_cons pe_int (pa_cons (pe_lst (pa_cons pe_int pa_nil)) (pa_cons (pe_tup (pa_cons pe_int pa_nil)) (pa_cons (pe_tup (pa_cons (pe_un un_neg pe_int) pa_nil)) (pa_cons (pe_tup (pa_cons pe_bl pa_nil)) (pa_cons (pe_tup (pa_cons pe_int (pa_cons pe_int (pa_cons pe_int (pa_cons pe_int pa_nil))))) (pa_cons (pe_tup (pa_cons pe_str pa_nil)) pa_nil)))))))))) (pg_name (i := 3) sc.nd rfl (Or.inl rfl)) (pss_one (ps_if (pt_cmpR (op_neD hu64) (pe_callO O_law_part (hr.mono (by decide)) T.g_law_part (pa_cons pe_int (pa_cons (pv 3) (pa_cons pe_non (pa_cons pe_int pa_nil))))) pe_str (nomark _)) (pss_one (ps_ret pe_bl)) pss_nil)))
      (pss_cons (ps_set (i := 4) sc.nd rfl (Or.inl rfl) (pe_lst (pa_cons pe_non (pa_cons (pe_tup pa_nil) (pa_cons (pe_lst pa_nil) (pa_cons (pe_slice sl_any (pv 0) po_none (po_some pe_int)) (pa_cons (pe_slice sl_any (pv 0) (po_some pe_int) po_none) (pa_cons (pe_op op_mulA (pv 0) pe_int) (pa_cons (pe_op op_addA (pe_tup (pa_cons (pe_slice sl_any (pe_ix (ix_all hu1) (pv 0) pe_int (fun _ _ => rfl)) (po_some pe_int) po_none) pa_nil)) (pe_slice sl_any (pv 0) (po_some pe_int) po_none)) (pa_cons (pe_op op_addA (pe_tup (pa_cons (pe_op op_addA (pe_tup (pa_cons pe_non pa_nil)) (pe_slice sl_any (pe_ix (ix_all hu1) (pv 0) pe_int (fun _ _ => rfl)) (po_some pe_int) po_none)) pa_nil)) (pe_slice sl_any (pv 0) (po_some pe_int) po_none)) pa_nil))))))))))
      (pss_cons (ps_for PassesOwn.never rfl (pi_seqV (pe_tup (pa_cons (pe_lst pa_nil) (pa_cons (pe_tup (pa_cons pe_int pa_nil)) (pa_cons (pe_tup (pa_cons (pe_tup (pa_cons pe_int pa_nil)) pa_nil)) (pa_cons (pe_tup (pa_cons (pe_tup (pa_cons pe_int (pa_cons (pe_lst (pa_cons pe_int (pa_cons pe_int pa_nil))) pa_nil))) pa_nil)) (pa_cons (pe_tup (pa_cons (pe_tup (pa_cons pe_int (pa_cons (pe_tup (pa_cons pe_int (pa_cons pe_int pa_nil))) pa_nil))) pa_nil)) (pa_cons (pe_tup (pa_cons (pe_tup (pa_cons pe_int (pa_cons (pe_tup (pa_cons pe_int (pa_cons pe_int pa_nil))) pa_nil))) pa_nil)) (pa_cons (pe_tup (pa_cons (pe_tup (pa_cons pe_int (pa_cons (pe_tup (pa_cons pe_int (pa_cons pe_bl pa_nil))) pa_nil))) pa_nil)) (pa_cons (pe_tup (pa_cons (pe_tup (pa_cons pe_int (pa_cons pe_int (pa_cons pe_int pa_nil)))) pa_nil)) pa_nil)))))))))) (pg_name (i := 5) sc.nd rfl (Or.inl rfl)) (pss_one (ps_expr (pe_bm PySem.F.plainAttrs_list PySem.F.slot_list_append PySem.F.type_list_append mt_append (pv 4) (pa_cons (pe_callO O_law_loop (hr.mono (by decide)) T.g_law_loop (pa_cons (pv 5) (pa_cons (pe_tup (pa_cons (pe_tup (pa_cons pe_str (pa_cons pe_int pa_nil))) (pa_cons (pe_tup (pa_cons pe_str (pa_cons pe_int (pa_cons pe_int (pa_cons pe_int pa_nil))))) pa_nil))) pa_nil))) pa_nil)))))
      (pss_cons (ps_for PassesOwn.never rfl (pi_seqV (pe_tup (pa_cons (pe_lst pa_nil) (pa_cons (pe_tup (pa_cons (pe_tup (pa_cons pe_str (pa_cons pe_int pa_nil))) pa_nil)) (pa_cons (pe_tup (pa_cons (pe_tup (pa_cons pe_str (pa_cons pe_int (pa_cons pe_int pa_nil)))) pa_nil)) (pa_cons (pe_op op_mulA (pe_tup (pa_cons (pe_tup (pa_cons pe_str (pa_cons pe_int pa_nil))) pa_nil)) pe_int) (pa_cons (pe_tup (pa_cons pe_non pa_nil)) pa_nil))))))) (pg_name (i := 6) sc.nd rfl (Or.inl rfl)) (pss_one (ps_expr (pe_bm PySem.F.plainAttrs_list PySem.F.slot_list_append PySem.F.type_list_append mt_append (pv 4) (pa_cons (pe_callO O_law_loop (hr.mono (by decide)) T.g_law_loop (pa_cons (pe_tup (pa_cons (pe_tup (pa_cons pe_int (pa_cons (pe_tup (pa_cons pe_int (pa_cons pe_int pa_nil))) pa_nil))) pa_nil)) (pa_cons (pv 6) pa_nil))) pa_nil)))))
      (pss_cons (ps_for PassesOwn.never rfl (pi_seqV (pv 4)) (pg_name (i := 7) sc.nd rfl (Or.inl rfl)) (pss_one (ps_if (pt_cmpR (op_neD hu64) (pe_callO O_law_part (hr.mono (by decide)) T.g_law_part (pa_cons pe_int (pa_cons (pe_tup (pa_cons pe_int pa_nil)) (pa_cons (pv 7) (pa_cons pe_int pa_nil))))) pe_str (nomark _)) (pss_one (ps_ret pe_bl)) pss_nil)))
      (pss_one (ps_ret pe_bl))))))))))),
      (semS_seq (semS_asgV (sem_call mFn0_len (semA_cons (sem_tup (semA_cons (sem_tup (semA_cons sem_int (semA_cons (sem_tup (semA_cons sem_int (semA_cons sem_int semA_nil))) semA_nil))) semA_nil)) (semA_cons (sem_tup (semA_cons (sem_tup (semA_cons sem_str (semA_cons sem_int semA_nil))) (semA_cons (sem_tup (semA_cons sem_str (semA_cons sem_int (semA_cons sem_int (semA_cons sem_int semA_nil))))) semA_nil))) semA_nil)))) (semS_seq (semS_if (semT_test (sem_op os_ne (sem_call mFn0_len (semA_cons sem_int (semA_cons (sem_tup (semA_cons sem_int semA_nil)) (semA_cons sem_var (semA_cons sem_int semA_nil))))) sem_str)) (semS_ret sem_bl) semS_nx) (semS_seq (semS_for (semI_walk (E := E0) (sem_tup (semA_cons sem_non (semA_cons sem_int (semA_cons sem_int (semA_cons sem_bl (semA_cons sem_str semA_nil))))))) g_name (semS_if (semT_test (sem_op os_ne (sem_call mFn0_len (semA_cons sem_var (semA_cons sem_non (semA_cons sem_non (semA_cons sem_int semA_nil))))) sem_str)) (semS_ret sem_bl) semS_nx)) (semS_seq (semS_for (semI_walk (E := E0) (sem_tup (semA_cons sem_non (semA_cons sem_int (semA_cons sem_int (semA_cons sem_bl (semA_cons sem_str semA_nil))))))) g_name (semS_if (semT_test (sem_op os_ne (sem_call mFn0_len (semA_cons sem_int (semA_cons sem_non (semA_cons sem_non (semA_cons sem_var semA_nil))))) sem_str)) (semS_ret sem_bl) semS_nx)) (semS_seq (semS_for (semI_walk (E := E0) (sem_tup (semA_cons sem_non (semA_cons sem_int (semA_cons (sem_lst (semA_cons sem_int semA_nil)) (semA_cons (sem_tup (semA_cons sem_int semA_nil)) (semA_cons (sem_tup (semA_cons (sem_neg sem_int) semA_nil)) (semA_cons (sem_tup (semA_cons sem_bl semA_nil)) (semA_cons (sem_tup (semA_cons sem_int (semA_cons sem_int (semA_cons sem_int (semA_cons sem_int semA_nil))))) (semA_cons (sem_tup (semA_cons sem_str semA_nil)) semA_nil)))))))))) g_name (semS_if (semT_test (sem_op os_ne (sem_call mFn0_len (semA_cons sem_int (semA_cons sem_var (semA_cons sem_non (semA_cons sem_int semA_nil))))) sem_str)) (semS_ret sem_bl) semS_nx)) (semS_seq (semS_asgO (sem_lst (semA_cons sem_non (semA_cons (sem_tup semA_nil) (semA_cons (sem_lst semA_nil) (semA_cons (sem_sl sem_var semO_none (semO_part sem_int)) (semA_cons (sem_sl sem_var (semO_part sem_int) semO_none) (semA_cons (sem_op os_mulA sem_var sem_int) (semA_cons (sem_op os_addA (sem_tup (semA_cons (sem_sl (sem_op os_ixA sem_var sem_int) (semO_part sem_int) semO_none) semA_nil)) (sem_sl sem_var (semO_part sem_int) semO_none)) (semA_cons (sem_op os_addA (sem_tup (semA_cons (sem_op os_addA (sem_tup (semA_cons sem_non semA_nil)) (sem_sl (sem_op os_ixA sem_var sem_int) (semO_part sem_int) semO_none)) semA_nil)) (sem_sl sem_var (semO_part sem_int) semO_none)) semA_nil)))))))))) (semS_seq (semS_for (semI_walk (E := E0) (sem_tup (semA_cons (sem_lst semA_nil) (semA_cons (sem_tup (semA_cons sem_int semA_nil)) (semA_cons (sem_tup (semA_cons (sem_tup (semA_cons sem_int semA_nil)) semA_nil)) (semA_cons (sem_tup (semA_cons (sem_tup (semA_cons sem_int (semA_cons (sem_lst (semA_cons sem_int (semA_cons sem_int semA_nil))) semA_nil))) semA_nil)) (semA_cons (sem_tup (semA_cons (sem_tup (semA_cons sem_int (semA_cons (sem_tup (semA_cons sem_int (semA_cons sem_int semA_nil))) semA_nil))) semA_nil)) (semA_cons (sem_tup (semA_cons (sem_tup (semA_cons sem_int (semA_cons (sem_tup (semA_cons sem_int (semA_cons sem_int semA_nil))) semA_nil))) semA_nil)) (semA_cons (sem_tup (semA_cons (sem_tup (semA_cons sem_int (semA_cons (sem_tup (semA_cons sem_int (semA_cons sem_bl semA_nil))) semA_nil))) semA_nil)) (semA_cons (sem_tup (semA_cons (sem_tup (semA_cons sem_int (semA_cons sem_int (semA_cons sem_int semA_nil)))) semA_nil)) semA_nil)))))))))) g_name (semS_drop (sem_app (sem_call mFn0_len (semA_cons sem_var (semA_cons (sem_tup (semA_cons (sem_tup (semA_cons sem_str (semA_cons sem_int semA_nil))) (semA_cons (sem_tup (semA_cons sem_str (semA_cons sem_int (semA_cons sem_int (semA_cons sem_int semA_nil))))) semA_nil))) semA_nil)))))) (semS_seq (semS_for (semI_walk (E := E0) (sem_tup (semA_cons (sem_lst semA_nil) (semA_cons (sem_tup (semA_cons (sem_tup (semA_cons sem_str (semA_cons sem_int semA_nil))) semA_nil)) (semA_cons (sem_tup (semA_cons (sem_tup (semA_cons sem_str (semA_cons sem_int (semA_cons sem_int semA_nil)))) semA_nil)) (semA_cons (sem_op os_mulA (sem_tup (semA_cons (sem_tup (semA_cons sem_str (semA_cons sem_int semA_nil))) semA_nil)) sem_int) (semA_cons (sem_tup (semA_cons sem_non semA_nil)) semA_nil))))))) g_name (semS_drop (sem_app (sem_call mFn0_len (semA_cons (sem_tup (semA_cons (sem_tup (semA_cons sem_int (semA_cons (sem_tup (semA_cons sem_int (semA_cons sem_int semA_nil))) semA_nil))) semA_nil)) (semA_cons sem_var semA_nil)))))) (semS_seq (semS_for (semI_walk (E := E0) sem_fz) g_name (semS_if (semT_test (sem_op os_ne (sem_call mFn0_len (semA_cons sem_int (semA_cons (sem_tup (semA_cons sem_int semA_nil)) (semA_cons sem_var (semA_cons sem_int semA_nil))))) sem_str)) (semS_ret sem_bl) semS_nx)) (semS_ret sem_bl))))))))))⟩
theorem ok_law_parts_right (T : Txt P w K mg fn cl) : OkAt P w K mg base CX0 15 (fn 50) [] (spF ⟨K, cl⟩ m_law_parts_right 0) := by
  obtain ⟨fd, F, B⟩ := T.d_law_parts_right.fu
  exact ⟨fd, okF_law_parts_right T F, B, F.kp⟩
def m_law_uses_right : Fn := mFn0 0 9 (sSeq (sAsgP (.tu ((.nm 0) :: (.nm 1) :: [])) (mTup (aCons (mTup (aCons (mTup (aCons (mC (.int (2))) (aCons (mTup (aCons (mC (.int (0))) (aCons (mC (.int (3))) aNil))) aNil))) aNil)) (aCons (mTup (aCons (mTup (aCons (mC (.str "tell")) (aCons (mC (.int (2))) aNil))) (aCons (mTup (aCons (mC (.str "sub")) (aCons (mC (.int (3))) (aCons (mC (.int (2))) (aCons (mC (.int (1))) aNil))))) aNil))) aNil)))) (sSeq (sFor (iWalk (mTup (aCons (mTup (aCons (mTup aNil) (aCons (mVar 0) (aCons (mVar 1) aNil)))) (aCons (mTup (aCons (mTup (aCons (mC (.int (0))) (aCons (mC (.int (1))) aNil))) (aCons (mVar 0) (aCons (mVar 1) aNil)))) (aCons (mTup (aCons (mTup (aCons (mC (.int (0))) (aCons (mC (.int (0))) aNil))) (aCons (mVar 0) (aCons (mVar 1) aNil)))) (aCons (mTup (aCons (mTup (aCons (mC (.int (0))) aNil)) (aCons (mTup aNil) (aCons (mVar 1) aNil)))) (aCons (mTup (aCons (mTup (aCons (mC (.int (0))) aNil)) (aCons (mVar 0) (aCons (mSl (mVar 1) oNone (oPart (mC (.int (1))))) aNil)))) aNil))))))) (.tu ((.nm 2) :: (.nm 3) :: (.nm 4) :: [])) (sIf (mOp2 fNe (mCall m_law_part (aCons (mC (.int (4))) (aCons (mVar 2) (aCons (mCall m_law_loop (aCons (mVar 3) (aCons (mVar 4) aNil))) (aCons (mC (.int (2))) aNil))))) (mC (.str "defined"))) (sRet (mC (.bl false))) sNx)) (sSeq (sIf (mOr (mOp2 fNe (mCall m_law_part (aCons (mC (.int (4))) (aCons (mTup (aCons (mC (.int (0))) aNil)) (aCons (mCall m_law_loop (aCons (mOp2 fMulA (mVar 0) (mC (.int (2)))) (aCons (mVar 1) aNil))) (aCons (mC (.int (2))) aNil))))) (mC (.str "defined"))) (mOp2 fNe (mCall m_law_part (aCons (mC (.int (5))) (aCons (mTup (aCons (mC (.int (0))) aNil)) (aCons (mCall m_law_loop (aCons (mVar 0) (aCons (mVar 1) aNil))) (aCons (mC (.int (2))) aNil))))) (mC (.str "defined")))) (sRet (mC (.bl false))) sNx) (sSeq (sFor (iWalk (mTup (aCons (mTup (aCons (mTup (aCons (mC (.int (2))) (aCons (mTup (aCons (mC (.int (0))) aNil)) aNil))) aNil)) (aCons (mTup (aCons (mTup (aCons (mC (.int (2))) (aCons (mTup (aCons (mC (.int (0))) (aCons (mC (.int (3))) (aCons (mC (.int (3))) aNil)))) aNil))) aNil)) (aCons (mTup (aCons (mTup (aCons (mC (.int (2))) (aCons (mTup aNil) aNil))) aNil)) (aCons (mTup (aCons (mTup (aCons (mC (.int (2))) (aCons (mTup (aCons (mC (.int (3))) (aCons (mC (.int (0))) aNil))) aNil))) aNil)) (aCons (mTup (aCons (mTup (aCons (mC (.int (2))) (aCons (mTup (aCons (mC (.int (2))) (aCons (mC (.int (3))) aNil))) aNil))) aNil)) aNil))))))) (.nm 3) (sIf (mOp2 fNe (mCall m_law_part (aCons (mC (.int (4))) (aCons (mTup (aCons (mC (.int (0))) aNil)) (aCons (mCall m_law_loop (aCons (mVar 3) (aCons (mVar 1) aNil))) (aCons (mC (.int (2))) aNil))))) (mC (.str "strict"))) (sRet (mC (.bl false))) sNx)) (sSeq (sIf (mOp2 fNe (mCall m_law_part (aCons (mC (.int (4))) (aCons (mTup (aCons (mC (.int (0))) aNil)) (aCons (mCall m_law_loop (aCons (mVar 0) (aCons (mTup (aCons (mTup (aCons (mC (.str "sub")) (aCons (mC (.int (3))) (aCons (mC (.int (2))) (aCons (mC (.int (3))) aNil))))) aNil)) aNil))) (aCons (mC (.int (2))) aNil))))) (mC (.str "strict"))) (sRet (mC (.bl false))) sNx) (sSeq (sIf (mOp2 fNe (mCall m_law_part (aCons (mC (.int (4))) (aCons (mTup (aCons (mC (.int (0))) aNil)) (aCons (mCall m_law_loop (aCons (mVar 0) (aCons (mTup (aCons (mTup (aCons (mC (.str "tell")) (aCons (mC (.int (3))) aNil))) (aCons (mTup (aCons (mC (.str "sub")) (aCons (mC (.int (3))) (aCons (mC (.int (2))) (aCons (mC (.int (1))) aNil))))) aNil))) aNil))) (aCons (mC (.int (2))) aNil))))) (mC (.str "strict"))) (sRet (mC (.bl false))) sNx) (sSeq (sAsgV 5 (mTup (aCons (mTup (aCons (mTup (aCons (mTup (aCons (mC (.int (2))) (aCons (mTup aNil) aNil))) aNil)) (aCons (mTup (aCons (mTup (aCons (mC (.str "put")) (aCons (mC (.int (1))) (aCons (mC (.int (1))) aNil)))) aNil)) (aCons (mTup (aCons (mC (.str "go")) (aCons (mC (.int (1))) aNil))) aNil)))) (aCons (mTup (aCons (mTup aNil) (aCons (mTup (aCons (mTup (aCons (mC (.str "put")) (aCons (mC (.int (3))) (aCons (mC (.int (0))) aNil)))) aNil)) (aCons (mTup (aCons (mC (.str "part")) (aCons (mC (.int (3))) (aCons (mC (.int (1))) (aCons (mC (.int (2))) aNil))))) aNil)))) (aCons (mTup (aCons (mTup aNil) (aCons (mTup aNil) (aCons (mTup (aCons (mC (.str "stop")) aNil)) aNil)))) aNil))))) (sSeq (sAsgV 6 (mTup (aCons (mTup (aCons (mTup aNil) (aCons (mTup aNil) (aCons (mTup (aCons (mC (.str "part")) (aCons (mC (.int (0))) (aCons (mC (.int (1))) (aCons (mC (.int (2))) aNil))))) aNil)))) (aCons (mTup (aCons (mTup aNil) (aCons (mTup (aCons (mTup (aCons (mC (.str "put")) (aCons (mC (.int (1))) (aCons (mC (.int (1))) aNil)))) aNil)) (aCons (mTup (aCons (mC (.str "go")) (aCons (mC (.int (3))) aNil))) aNil)))) (aCons (mTup (aCons (mTup aNil) (aCons (mTup aNil) (aCons (mTup (aCons (mC (.str "go")) (aCons (mC (.int (3))) aNil))) aNil)))) (aCons (mTup (aCons (mTup aNil) (aCons (mTup (aCons (mTup (aCons (mC (.str "tell")) (aCons (mC (.int (1))) aNil))) aNil)) (aCons (mTup (aCons (mC (.str "stop")) aNil)) aNil)))) aNil)))))) (sSeq (sIf (mOr (mOp2 fNe (mCall m_law_part (aCons (mC (.int (4))) (aCons (mTup (aCons (mC (.int (0))) aNil)) (aCons (mVar 5) (aCons (mC (.int (2))) aNil))))) (mC (.str "strict"))) (mOp2 fNe (mCall m_law_part (aCons (mC (.int (2))) (aCons (mTup (aCons (mC (.int (0))) aNil)) (aCons (mVar 6) (aCons (mC (.int (2))) aNil))))) (mC (.str "strict")))) (sRet (mC (.bl false))) sNx) (sSeq (sAsgV 7 (mOp2 fAddA (mSl (mVar 6) oNone (oPart (mC (.int (2))))) (mTup (aCons (mTup (aCons (mTup aNil) (aCons (mTup aNil) (aCons (mTup (aCons (mC (.str "part")) (aCons (mC (.int (1))) (aCons (mC (.int (3))) (aCons (mC (.int (3))) aNil))))) aNil)))) (aCons (mTup (aCons (mTup aNil) (aCons (mTup aNil) (aCons (mTup (aCons (mC (.str "stop")) aNil)) aNil)))) aNil))))) (sSeq (sIf (mOr (mOp2 fNe (mCall m_law_part (aCons (mC (.int (2))) (aCons (mTup (aCons (mC (.int (0))) aNil)) (aCons (mVar 7) (aCons (mC (.int (2))) aNil))))) (mC (.str "strict"))) (mOp2 fNe (mCall m_law_part (aCons (mC (.int (3))) (aCons (mTup (aCons (mC (.int (0))) (aCons (mC (.int (1))) (aCons (mC (.int (2))) aNil)))) (aCons (mTup (aCons (mTup (aCons (mTup aNil) (aCons (mTup (aCons (mTup (aCons (mC (.str "tell")) (aCons (mC (.int (2))) aNil))) aNil)) (aCons (mTup (aCons (mC (.str "stop")) aNil)) aNil)))) aNil)) (aCons (mC (.int (2))) aNil))))) (mC (.str "none")))) (sRet (mC (.bl false))) sNx) (sSeq (sAsgV 8 (mOp2 fAddA (mSl (mVar 6) oNone (oPart (mC (.int (2))))) (mTup (aCons (mTup (aCons (mTup aNil) (aCons (mTup (aCons (mTup (aCons (mC (.str "put")) (aCons (mC (.int (2))) (aCons (mC (.int (0))) aNil)))) aNil)) (aCons (mTup (aCons (mC (.str "go")) (aCons (mC (.int (3))) aNil))) aNil)))) (aCons (mTup (aCons (mTup (aCons (mTup (aCons (mC (.int (3))) (aCons (mTup (aCons (mC (.int (1))) (aCons (mC (.int (2))) aNil))) aNil))) aNil)) (aCons (mTup (aCons (mTup (aCons (mC (.str "tell")) (aCons (mC (.int (3))) aNil))) aNil)) (aCons (mTup (aCons (mC (.str "stop")) aNil)) aNil)))) aNil))))) (sRet (mAnd (mOp2 fEq (mCall m_law_part (aCons (mC (.int (4))) (aCons (mTup (aCons (mC (.int (0))) aNil)) (aCons (mVar 8) (aCons (mC (.int (2))) aNil))))) (mC (.str "none"))) (mOp2 fEq (mCall m_law_part (aCons (mC (.int (4))) (aCons (mTup (aCons (mC (.int (0))) aNil)) (aCons (mOp2 fAddA (mSl (mVar 8) oNone (oPart (mC (.int (3))))) (mTup (aCons (mTup (aCons (mTup aNil) (aCons (mTup (aCons (mTup (aCons (mC (.str "move")) (aCons (mC (.int (3))) (aCons (mC (.int (1))) aNil)))) aNil)) (aCons (mTup (aCons (mC (.str "stop")) aNil)) aNil)))) aNil))) (aCons (mC (.int (2))) aNil))))) (mC (.str "strict")))))))))))))))))
theorem sc_law_uses_right : FnScope ["join", "rows", "given", "joins", "some", "ahead", "fork", "late", "both"] [] (defScope s_law_uses_right) := ⟨rfl, rfl, rfl, by decide +kernel, rfl, by decide +kernel, by decide +kernel⟩
theorem okF_law_uses_right (T : Txt P w K mg fn cl) {fd : FuncData} (F : L2.Fun K "_law_uses_right" "_law_uses_right" s_law_uses_right (fn 51) fd) : FnOk P w K mg base CX0 15 (fn 51) fd [] (spF ⟨K, cl⟩ m_law_uses_right 0) :=
  fn_ok0 F sc_law_uses_right rfl (by decide) fun cdv A outer s H E hr => by
    have sc := sc_law_uses_right
    have O_law_loop := ok_law_loop (P := P) (w := w) (base := base) T
    have O_law_part := ok_law_part (P := P) (w := w) (base := base) T
    have hu64 := hr.units
    exact ⟨_, (pss_cons (ps_asg (pe_tup (pa_cons (pe_tup (pa_cons (pe_tup (pa_cons pe_int (pa_cons (pe_tup (pa_cons pe_int (pa_cons pe_int pa_nil))) pa_nil))) pa_nil)) (pa_cons (pe_tup (pa_cons (pe_tup (pa_cons pe_str (pa_cons pe_int pa_nil))) (pa_cons (pe_tup (pa_cons pe_str (pa_cons pe_int (pa_cons pe_int (pa_cons pe_int pa_nil))))) pa_nil))) pa_nil))) (pg_tup (n := 2) rfl (pgs_cons (pg_name (i := 0) sc.nd rfl (Or.inl rfl)) (pgs_cons (pg_name (i := 1) sc.nd rfl (Or.inl rfl)) pgs_nil))))
      (pss_cons (ps_for PassesOwn.never rfl (pi_seqV (pe_tup (pa_cons (pe_tup (pa_cons (pe_tup pa_nil) (pa_cons (pv 0) (pa_cons (pv 1) pa_nil)))) (pa_cons (pe_tup (pa_cons (pe_tup (pa_cons pe_int (pa_cons pe_int pa_nil))) (pa_cons (pv 0) (pa_cons (pv 1) pa_nil)))) (pa_cons (pe_tup (pa_cons (pe_tup (pa_cons pe_int (pa_cons pe_int pa_nil))) (pa_cons (pv 0) (pa_cons (pv 1) pa_nil)))) (pa_cons (pe_tup (pa_cons (pe_tup (pa_cons pe_int pa_nil)) (pa_cons (pe_tup pa_nil) (pa_cons (pv 1) pa_nil)))) (pa_cons (pe_tup (pa_cons (pe_tup (pa_cons pe_int pa_nil)) (pa_cons (pv 0) (pa_cons (pe_slice sl_any (pv 1) po_none (po_some pe_int)) pa_nil)))) pa_nil))))))) (pg_tup (n := 3) rfl (pgs_cons (pg_name (i := 2) sc.nd rfl (Or.inl rfl)) (pgs_cons (pg_name (i := 3) sc.nd rfl (Or.inl rfl)) (pgs_cons (pg_name (i := 4) sc.nd rfl (Or.inl rfl)) pgs_nil)))) (pss_one (ps_if (pt_cmpR (op_neD hu64) (pe_callO O_law_part (hr.mono (by decide)) T.g_law_part (pa_cons pe_int (pa_cons (pv 2) (pa_cons (pe_callO O_law_loop (hr.mono (by decide)) T.g_law_loop (pa_cons (pv 3) (pa_cons (pv 4) pa_nil))) (pa_cons pe_int pa_nil))))) pe_str (nomark _)) (pss_one (ps_ret pe_bl)) pss_nil)))
      (pss_cons (ps_if (PW.pt (pw_or (pt_cmpR (op_neD hu64) (pe_callO O_law_part (hr.mono (by decide)) T.g_law_part (pa_cons pe_int (pa_cons (pe_tup (pa_cons pe_int pa_nil)) (pa_cons (pe_callO O_law_loop (hr.mono (by decide)) T.g_law_loop (pa_cons (pe_op op_mulA (pv 0) pe_int) (pa_cons (pv 1) pa_nil))) (pa_cons pe_int pa_nil))))) pe_str (nomark _)) (pw_or1 (pt_cmpR (op_neD hu64) (pe_callO O_law_part (hr.mono (by decide)) T.g_law_part (pa_cons pe_int (pa_cons (pe_tup (pa_cons pe_int pa_nil)) (pa_cons (pe_callO O_law_loop (hr.mono (by decide)) T.g_law_loop (pa_cons (pv 0) (pa_cons (pv 1) pa_nil))) (pa_cons pe_int pa_nil))))) pe_str (nomark _))))) (pss_one (ps_ret pe_bl)) pss_nil)
      (pss_cons (ps_for PassesOwn.never rfl (pi_seqV (pe_tup (pa_cons (pe_tup (pa_cons (pe_tup (pa_cons pe_int (pa_cons (pe_tup (pa_cons pe_int pa_nil)) pa_nil))) pa_nil)) (pa_cons (pe_tup (pa_cons (pe_tup (pa_cons pe_int (pa_cons (pe_tup (pa_cons pe_int (pa_cons pe_int (pa_cons pe_int pa_nil)))) pa_nil))) pa_nil)) (pa_cons (pe_tup (pa_cons (pe_tup (pa_cons pe_int (pa_cons (pe_tup pa_nil) pa_nil))) pa_nil)) (pa_cons (pe_tup (pa_cons (pe_tup (pa_cons pe_int (pa_cons (pe_tup (pa_cons pe_int (pa_cons pe_int pa_nil))) pa_nil))) pa_nil)) (pa_cons (pe_tup (pa_cons (pe_tup (pa_cons pe_int (pa_cons (pe_tup (pa_cons pe_int (pa_cons pe_int pa_nil))) pa_nil))) pa_nil)) pa_nil))))))) (pg_name (i := 3) sc.nd rfl (Or.inl rfl)) (pss_one (ps_if (pt_cmpR (op_neD hu64) (pe_callO O_law_part (hr.mono (by decide)) T.g_law_part (pa_cons pe_int (pa_cons (pe_tup (pa_cons pe_int pa_nil)) (pa_cons (pe_callO O_law_loop (hr.mono (by decide)) T.g_law_loop (pa_cons (pv 3) (pa_cons (pv 1) pa_nil))) (pa_cons pe_int pa_nil))))) pe_str (nomark _)) (pss_one (ps_ret pe_bl)) pss_nil)))
      (pss_cons (ps_if (pt_cmpR (op_neD hu64) (pe_callO O_law_part (hr.mono (by decide)) T.g_law_part (pa_cons pe_int (pa_cons (pe_tup (pa_cons pe_int pa_nil)) (pa_cons (pe_callO O_law_loop (hr.mono (by decide)) T.g_law_loop (pa_cons (pv 0) (pa_cons (pe_tup (pa_cons (pe_tup (pa_cons pe_str (pa_cons pe_int (pa_cons pe_int (pa_cons pe_int pa_nil))))) pa_nil)) pa_nil))) (pa_cons pe_int pa_nil))))) pe_str (nomark _)) (pss_one (ps_ret pe_bl)) pss_nil)
      (pss_cons (ps_if (pt_cmpR (op_neD hu64) (pe_callO O_law_part (hr.mono (by decide)) T.g_law_part (pa_cons pe_int (pa_cons (pe_tup (pa_cons pe_int pa_nil)) (pa_cons (pe_callO O_law_loop (hr.mono (by decide)) T.g_law_loop (pa_cons (pv 0) (pa_cons (pe_tup (pa_cons (pe_tup (pa_cons pe_str (pa_cons pe_int pa_nil))) (pa_cons (pe_tup (pa_cons pe_str (pa_cons pe_int (pa_cons pe_int (pa_cons pe_int pa_nil))))) pa_nil))) pa_nil))) (pa_cons pe_int pa_nil))))) pe_str (nomark _)) (pss_one (ps_ret pe_bl)) pss_nil)
      (pss_cons (ps_set (i := 5) sc.nd rfl (Or.inl rfl) (pe_tup (pa_cons (pe_tup (pa_cons (pe_tup (pa_cons (pe_tup (pa_cons pe_int (pa_cons (pe_tup pa_nil) pa_nil))) pa_nil)) (pa_cons (pe_tup (pa_cons (pe_tup (pa_cons pe_str (pa_cons pe_int (pa_cons pe_int pa_nil)))) pa_nil)) (pa_cons (pe_tup (pa_cons pe_str (pa_cons pe_int pa_nil))) pa_nil)))) (pa_cons (pe_tup (pa_cons (pe_tup pa_nil) (pa_cons (pe_tup (pa_cons (pe_tup (pa_cons pe_str (pa_cons pe_int (pa_cons pe_int pa_nil)))) pa_nil)) (pa_cons (pe_tup (pa_cons pe_str (pa_cons pe_int (pa_cons pe_int (pa_cons pe_int pa_nil))))) pa_nil)))) (pa_cons (pe_tup (pa_cons (pe_tup pa_nil) (pa_cons (pe_tup pa_nil) (pa_cons (pe_tup (pa_cons pe_str pa_nil)) pa_nil)))) pa_nil)))))
      (pss_cons (ps_set (i := 6) sc.nd rfl (Or.inl rfl) (pe_tup (pa_cons (pe_tup (pa_cons (pe_tup pa_nil) (pa_cons (pe_tup pa_nil) (pa_cons (pe_tup (pa_cons pe_str (pa_cons pe_int (pa_cons pe_int (pa_cons pe_int pa_nil))))) pa_nil)))) (pa_cons (pe_tup (pa_cons (pe_tup pa_nil) (pa_cons (pe_tup (pa_cons (pe_tup (pa_cons pe_str (pa_cons pe_int (pa_cons pe_int pa_nil)))) pa_nil)) (pa_cons (pe_tup (pa_cons pe_str (pa_cons pe_int pa_nil))) pa_nil)))) (pa_cons (pe_tup (pa_cons (pe_tup pa_nil) (pa_cons (pe_tup pa_nil) (pa_cons (pe_tup (pa_cons pe_str (pa_cons pe_int pa_nil))) pa_nil)))) (pa_cons (pe_tup (pa_cons (pe_tup pa_nil) (pa_cons (pe_tup (pa_cons (pe_tup (pa_cons pe_str (pa_cons pe_int pa_nil))) pa_nil)) (pa_cons (pe_tup (pa_cons pe_str pa_nil)) pa_nil)))) pa_nil))))))
      (pss_cons (ps_if (PW.pt (pw_or (pt_cmpR (op_neD hu64) (pe_callO O_law_part (hr.mono (by decide)) T.g_law_part (pa_cons pe_int (pa_cons (pe_tup (pa_cons pe_int pa_nil)) (pa_cons (pv 5) (pa_cons pe_int pa_nil))))) pe_str (nomark _)) (pw_or1 (pt_cmpR (op_neD hu64) (pe_callO O_law_part (hr.mono (by decide)) T.g_law_part (pa_cons pe_int (pa_cons (pe_tup (pa_cons pe_int pa_nil)) (pa_cons (pv 6) (pa_cons pe_int pa_nil))))) pe_str (nomark _))))) (pss_one (ps_ret pe_bl)) pss_nil)
      (pss_cons (ps_set (i := 7) sc.nd rfl (Or.inl rfl) (pe_op op_addA (pe_slice sl_any (pv 6) po_none (po_some pe_int)) (pe_tup (pa_cons (pe_tup (pa_cons (pe_tup pa_nil) (pa_cons (pe_tup pa_nil) (pa_cons (pe_tup (pa_cons pe_str (pa_cons pe_int (pa_cons pe_int (pa_cons pe_int pa_nil))))) pa_nil)))) (pa_cons (pe_tup (pa_cons (pe_tup pa_nil) (pa_cons (pe_tup pa_nil) (pa_cons (pe_tup (pa_cons pe_str pa_nil)) pa_nil)))) pa_nil)))))
      (pss_cons (ps_if (PW.pt (pw_or (pt_cmpR (op_neD hu64) (pe_callO O_law_part (hr.mono (by decide)) T.g_law_part (pa_cons pe_int (pa_cons (pe_tup (pa_cons pe_int pa_nil)) (pa_cons (pv 7) (pa_cons pe_int pa_nil))))) pe_str (nomark _)) (pw_or1 (pt_cmpR (op_neD hu64) (pe_callO O_law_part (hr.mono (by decide)) T.g_law_part (pa_cons pe_int (pa_cons (pe_tup (pa_cons pe_int (pa_cons pe_int (pa_cons pe_int pa_nil)))) (pa_cons (pe_tup (pa_cons (pe_tup (pa_cons (pe_tup pa_nil) (pa_cons (pe_tup (pa_cons (pe_tup (pa_cons pe_str (pa_cons pe_int pa_nil))) pa_nil)) (pa_cons (pe_tup (pa_cons pe_str pa_nil)) pa_nil)))) pa_nil)) (pa_cons pe_int pa_nil))))) pe_str (nomark _))))) (pss_one (ps_ret pe_bl)) pss_nil)
      (pss_cons (ps_set (i := 8) sc.nd rfl (Or.inl rfl) (pe_op op_addA (pe_slice sl_any (pv 6) po_none (po_some pe_int)) (pe_tup (pa_cons (pe_tup (pa_cons (pe_tup pa_nil) (pa_cons (pe_tup (pa_cons (pe_tup (pa_cons pe_str (pa_cons pe_int (pa_cons pe_int pa_nil)))) pa_nil)) (pa_cons (pe_tup (pa_cons pe_str (pa_cons pe_int pa_nil))) pa_nil)))) (pa_cons (pe_tup (pa_cons (pe_tup (pa_cons (pe_tup (pa_cons pe_int (pa_cons (pe_tup (pa_cons pe_int (pa_cons pe_int pa_nil))) pa_nil))) pa_nil)) (pa_cons (pe_tup (pa_cons (pe_tup (pa_cons pe_str (pa_cons pe_int pa_nil))) pa_nil)) (pa_cons (pe_tup (pa_cons pe_str pa_nil)) pa_nil)))) pa_nil)))))
      (pss_one (ps_ret (pe_and (pe_cmpR (op_eqD hu64) (pe_callO O_law_part (hr.mono (by decide)) T.g_law_part (pa_cons pe_int (pa_cons (pe_tup (pa_cons pe_int pa_nil)) (pa_cons (pv 8) (pa_cons pe_int pa_nil))))) pe_str (nomark _)) (pe_one (pe_cmpR (op_eqD hu64) (pe_callO O_law_part (hr.mono (by decide)) T.g_law_part (pa_cons pe_int (pa_cons (pe_tup (pa_cons pe_int pa_nil)) (pa_cons (pe_op op_addA (pe_slice sl_any (pv 8) po_none (po_some pe_int)) (pe_tup (pa_cons (pe_tup (pa_cons (pe_tup pa_nil) (pa_cons (pe_tup (pa_cons (pe_tup (pa_cons pe_str (pa_cons pe_int (pa_cons pe_int pa_nil)))) pa_nil)) (pa_cons (pe_tup (pa_cons pe_str pa_nil)) pa_nil)))) pa_nil))) (pa_cons pe_int pa_nil))))) pe_str (nomark _)))))))))))))))))),
      (semS_seq (semS_asgP (g_tup (gs_cons g_name (gs_cons g_name gs_nil))) (sem_tup (semA_cons (sem_tup (semA_cons (sem_tup (semA_cons sem_int (semA_cons (sem_tup (semA_cons sem_int (semA_cons sem_int semA_nil))) semA_nil))) semA_nil)) (semA_cons (sem_tup (semA_cons (sem_tup (semA_cons sem_str (semA_cons sem_int semA_nil))) (semA_cons (sem_tup (semA_cons sem_str (semA_cons sem_int (semA_cons sem_int (semA_cons sem_int semA_nil))))) semA_nil))) semA_nil)))) (semS_seq (semS_for (semI_walk (E := E0) (sem_tup (semA_cons (sem_tup (semA_cons (sem_tup semA_nil) (semA_cons sem_var (semA_cons sem_var semA_nil)))) (semA_cons (sem_tup (semA_cons (sem_tup (semA_cons sem_int (semA_cons sem_int semA_nil))) (semA_cons sem_var (semA_cons sem_var semA_nil)))) (semA_cons (sem_tup (semA_cons (sem_tup (semA_cons sem_int (semA_cons sem_int semA_nil))) (semA_cons sem_var (semA_cons sem_var semA_nil)))) (semA_cons (sem_tup (semA_cons (sem_tup (semA_cons sem_int semA_nil)) (semA_cons (sem_tup semA_nil) (semA_cons sem_var semA_nil)))) (semA_cons (sem_tup (semA_cons (sem_tup (semA_cons sem_int semA_nil)) (semA_cons sem_var (semA_cons (sem_sl sem_var semO_none (semO_part sem_int)) semA_nil)))) semA_nil))))))) (g_tup (gs_cons g_name (gs_cons g_name (gs_cons g_name gs_nil)))) (semS_if (semT_test (sem_op os_ne (sem_call mFn0_len (semA_cons sem_int (semA_cons sem_var (semA_cons (sem_call mFn0_len (semA_cons sem_var (semA_cons sem_var semA_nil))) (semA_cons sem_int semA_nil))))) sem_str)) (semS_ret sem_bl) semS_nx)) (semS_seq (semS_if (semT_or (semT_test (sem_op os_ne (sem_call mFn0_len (semA_cons sem_int (semA_cons (sem_tup (semA_cons sem_int semA_nil)) (semA_cons (sem_call mFn0_len (semA_cons (sem_op os_mulA sem_var sem_int) (semA_cons sem_var semA_nil))) (semA_cons sem_int semA_nil))))) sem_str)) (semT_test (sem_op os_ne (sem_call mFn0_len (semA_cons sem_int (semA_cons (sem_tup (semA_cons sem_int semA_nil)) (semA_cons (sem_call mFn0_len (semA_cons sem_var (semA_cons sem_var semA_nil))) (semA_cons sem_int semA_nil))))) sem_str))) (semS_ret sem_bl) semS_nx) (semS_seq (semS_for (semI_walk (E := E0) (sem_tup (semA_cons (sem_tup (semA_cons (sem_tup (semA_cons sem_int (semA_cons (sem_tup (semA_cons sem_int semA_nil)) semA_nil))) semA_nil)) (semA_cons (sem_tup (semA_cons (sem_tup (semA_cons sem_int (semA_cons (sem_tup (semA_cons sem_int (semA_cons sem_int (semA_cons sem_int semA_nil)))) semA_nil))) semA_nil)) (semA_cons (sem_tup (semA_cons (sem_tup (semA_cons sem_int (semA_cons (sem_tup semA_nil) semA_nil))) semA_nil)) (semA_cons (sem_tup (semA_cons (sem_tup (semA_cons sem_int (semA_cons (sem_tup (semA_cons sem_int (semA_cons sem_int semA_nil))) semA_nil))) semA_nil)) (semA_cons (sem_tup (semA_cons (sem_tup (semA_cons sem_int (semA_cons (sem_tup (semA_cons sem_int (semA_cons sem_int semA_nil))) semA_nil))) semA_nil)) semA_nil))))))) g_name (semS_if (semT_test (sem_op os_ne (sem_call mFn0_len (semA_cons sem_int (semA_cons (sem_tup (semA_cons sem_int semA_nil)) (semA_cons (sem_call mFn0_len (semA_cons sem_var (semA_cons sem_var semA_nil))) (semA_cons sem_int semA_nil))))) sem_str)) (semS_ret sem_bl) semS_nx)) (semS_seq (semS_if (semT_test (sem_op os_ne (sem_call mFn0_len (semA_cons sem_int (semA_cons (sem_tup (semA_cons sem_int semA_nil)) (semA_cons (sem_call mFn0_len (semA_cons sem_var (semA_cons (sem_tup (semA_cons (sem_tup (semA_cons sem_str (semA_cons sem_int (semA_cons sem_int (semA_cons sem_int semA_nil))))) semA_nil)) semA_nil))) (semA_cons sem_int semA_nil))))) sem_str)) (semS_ret sem_bl) semS_nx) (semS_seq (semS_if (semT_test (sem_op os_ne (sem_call mFn0_len (semA_cons sem_int (semA_cons (sem_tup (semA_cons sem_int semA_nil)) (semA_cons (sem_call mFn0_len (semA_cons sem_var (semA_cons (sem_tup (semA_cons (sem_tup (semA_cons sem_str (semA_cons sem_int semA_nil))) (semA_cons (sem_tup (semA_cons sem_str (semA_cons sem_int (semA_cons sem_int (semA_cons sem_int semA_nil))))) semA_nil))) semA_nil))) (semA_cons sem_int semA_nil))))) sem_str)) (semS_ret sem_bl) semS_nx) (semS_seq (semS_asgV (sem_tup (semA_cons (sem_tup (semA_cons (sem_tup (semA_cons (sem_tup (semA_cons sem_int (semA_cons (sem_tup semA_nil) semA_nil))) semA_nil)) (semA_cons (sem_tup (semA_cons (sem_tup (semA_cons sem_str (semA_cons sem_int (semA_cons sem_int semA_nil)))) semA_nil)) (semA_cons (sem_tup (semA_cons sem_str (semA_cons sem_int semA_nil))) semA_nil)))) (semA_cons (sem_tup (semA_cons (sem_tup semA_nil) (semA_cons (sem_tup (semA_cons (sem_tup (semA_cons sem_str (semA_cons sem_int (semA_cons sem_int semA_nil)))) semA_nil)) (semA_cons (sem_tup (semA_cons sem_str (semA_cons sem_int (semA_cons sem_int (semA_cons sem_int semA_nil))))) semA_nil)))) (semA_cons (sem_tup (semA_cons (sem_tup semA_nil) (semA_cons (sem_tup semA_nil) (semA_cons (sem_tup (semA_cons sem_str semA_nil)) semA_nil)))) semA_nil))))) (semS_seq (semS_asgV (sem_tup (semA_cons (sem_tup (semA_cons (sem_tup semA_nil) (semA_cons (sem_tup semA_nil) (semA_cons (sem_tup (semA_cons sem_str (semA_cons sem_int (semA_cons sem_int (semA_cons sem_int semA_nil))))) semA_nil)))) (semA_cons (sem_tup (semA_cons (sem_tup semA_nil) (semA_cons (sem_tup (semA_cons (sem_tup (semA_cons sem_str (semA_cons sem_int (semA_cons sem_int semA_nil)))) semA_nil)) (semA_cons (sem_tup (semA_cons sem_str (semA_cons sem_int semA_nil))) semA_nil)))) (semA_cons (sem_tup (semA_cons (sem_tup semA_nil) (semA_cons (sem_tup semA_nil) (semA_cons (sem_tup (semA_cons sem_str (semA_cons sem_int semA_nil))) semA_nil)))) (semA_cons (sem_tup (semA_cons (sem_tup semA_nil) (semA_cons (sem_tup (semA_cons (sem_tup (semA_cons sem_str (semA_cons sem_int semA_nil))) semA_nil)) (semA_cons (sem_tup (semA_cons sem_str semA_nil)) semA_nil)))) semA_nil)))))) (semS_seq (semS_if (semT_or (semT_test (sem_op os_ne (sem_call mFn0_len (semA_cons sem_int (semA_cons (sem_tup (semA_cons sem_int semA_nil)) (semA_cons sem_var (semA_cons sem_int semA_nil))))) sem_str)) (semT_test (sem_op os_ne (sem_call mFn0_len (semA_cons sem_int (semA_cons (sem_tup (semA_cons sem_int semA_nil)) (semA_cons sem_var (semA_cons sem_int semA_nil))))) sem_str))) (semS_ret sem_bl) semS_nx) (semS_seq (semS_asgV (sem_op os_addA (sem_sl sem_var semO_none (semO_part sem_int)) (sem_tup (semA_cons (sem_tup (semA_cons (sem_tup semA_nil) (semA_cons (sem_tup semA_nil) (semA_cons (sem_tup (semA_cons sem_str (semA_cons sem_int (semA_cons sem_int (semA_cons sem_int semA_nil))))) semA_nil)))) (semA_cons (sem_tup (semA_cons (sem_tup semA_nil) (semA_cons (sem_tup semA_nil) (semA_cons (sem_tup (semA_cons sem_str semA_nil)) semA_nil)))) semA_nil))))) (semS_seq (semS_if (semT_or (semT_test (sem_op os_ne (sem_call mFn0_len (semA_cons sem_int (semA_cons (sem_tup (semA_cons sem_int semA_nil)) (semA_cons sem_var (semA_cons sem_int semA_nil))))) sem_str)) (semT_test (sem_op os_ne (sem_call mFn0_len (semA_cons sem_int (semA_cons (sem_tup (semA_cons sem_int (semA_cons sem_int (semA_cons sem_int semA_nil)))) (semA_cons (sem_tup (semA_cons (sem_tup (semA_cons (sem_tup semA_nil) (semA_cons (sem_tup (semA_cons (sem_tup (semA_cons sem_str (semA_cons sem_int semA_nil))) semA_nil)) (semA_cons (sem_tup (semA_cons sem_str semA_nil)) semA_nil)))) semA_nil)) (semA_cons sem_int semA_nil))))) sem_str))) (semS_ret sem_bl) semS_nx) (semS_seq (semS_asgV (sem_op os_addA (sem_sl sem_var semO_none (semO_part sem_int)) (sem_tup (semA_cons (sem_tup (semA_cons (sem_tup semA_nil) (semA_cons (sem_tup (semA_cons (sem_tup (semA_cons sem_str (semA_cons sem_int (semA_cons sem_int semA_nil)))) semA_nil)) (semA_cons (sem_tup (semA_cons sem_str (semA_cons sem_int semA_nil))) semA_nil)))) (semA_cons (sem_tup (semA_cons (sem_tup (semA_cons (sem_tup (semA_cons sem_int (semA_cons (sem_tup (semA_cons sem_int (semA_cons sem_int semA_nil))) semA_nil))) semA_nil)) (semA_cons (sem_tup (semA_cons (sem_tup (semA_cons sem_str (semA_cons sem_int semA_nil))) semA_nil)) (semA_cons (sem_tup (semA_cons sem_str semA_nil)) semA_nil)))) semA_nil))))) (semS_ret (sem_andV (sem_op os_eq (sem_call mFn0_len (semA_cons sem_int (semA_cons (sem_tup (semA_cons sem_int semA_nil)) (semA_cons sem_var (semA_cons sem_int semA_nil))))) sem_str) (sem_op os_eq (sem_call mFn0_len (semA_cons sem_int (semA_cons (sem_tup (semA_cons sem_int semA_nil)) (semA_cons (sem_op os_addA (sem_sl sem_var semO_none (semO_part sem_int)) (sem_tup (semA_cons (sem_tup (semA_cons (sem_tup semA_nil) (semA_cons (sem_tup (semA_cons (sem_tup (semA_cons sem_str (semA_cons sem_int (semA_cons sem_int semA_nil)))) semA_nil)) (semA_cons (sem_tup (semA_cons sem_str semA_nil)) semA_nil)))) semA_nil))) (semA_cons sem_int semA_nil))))) sem_str)))))))))))))))⟩
theorem ok_law_uses_right (T : Txt P w K mg fn cl) : OkAt P w K mg base CX0 15 (fn 51) [] (spF ⟨K, cl⟩ m_law_uses_right 0) := by
  obtain ⟨fd, F, B⟩ := T.d_law_uses_right.fu
  exact ⟨fd, okF_law_uses_right T F, B, F.kp⟩
def ans_law_word : List (Nat × Str) := [(2, "block"), (3, "variable")]
theorem sc_law_word : FnScope ["call", "error", "kinds"] ["call"] (defScope s_law_word) := ⟨rfl, rfl, rfl, by decide +kernel, rfl, by decide +kernel, by decide +kernel⟩
def rx_law_word : Expr := match defBody s_law_word with
  | .Try _ (.ExceptHandler _ _ (_ :: .Return (some e) _ :: _) _ :: _) _ _ _ :: _ => e
  | _ => .Name "" ⟨0, 0, 0, 0⟩
abbrev rY_law_word (K : PySem.W.Frag) (a : Addr) (cls : Value) (d : Option Addr) : List V → Hp → VK → Prop := fun xs H Q => ∃ D, cls = .ref D ∧ d = none ∧ ExcC K D ∧ rIsE K D a xs H Q
def mrx_law_word : M := (mOp2 fIxA (mLst (aCons (mC (.str "block")) (aCons (mC (.str "variable")) (aCons (mC (.str "odd")) aNil)))) (mIf (mOp2 (fInA false) (mC (.bl true)) (mVar 2)) (mIdx (mVar 2) (mC (.bl true))) (mC (.int (2)))))
theorem gives_law_word {X : Cx} (T : Txt X.prog X.w X.K X.mg fn cl) {g : Addr} {cdg : Value} {qq : Str} {j : Nat} (hr0 : Room (j + 1) X.A) : LamX.GivesTo X ["call", "error", "kinds"] "_law_word" (defScope s_law_word) g cdg (defBody s_law_word) "call" qq (TWord ⟨X.K, cl⟩ ans_law_word) := by
  intro f c' s H Q tl act hc h
  have sc := sc_law_word
  have hr : Room j (X.A.deeper (envOfC "_law_word" (defScope s_law_word) s.heap.objs.size g cdg)) := hr0.deeper _
  have hu65 : (X.A.deeper (envOfC "_law_word" (defScope s_law_word) s.heap.objs.size g cdg)).units + 65 < cLine := hu65_of hr
  have hu1 := hu_of hr
  have hu64 := hr.units
  obtain ⟨tr, htr, hsr⟩ : ∃ t : TE, (∀ (a : Addr) (oe : Obj) (pn : List (Addr × Obj)), PE ((cxOf C8.CX0 X.prog X.w X.K X.mg X.base ["call", "error", "kinds"] "_law_word" (defScope s_law_word) g cdg X.A X.stack s H C8.E0).nox.suite a ((a, oe) :: pn)) rx_law_word t) ∧ Sem ⟨X.K, cl⟩ E0 t mrx_law_word := ⟨_, fun a oe pn => (pe_ix (ix_all hu1) (pe_lst (pa_cons pe_str (pa_cons pe_str (pa_cons pe_str pa_nil)))) (pe_ifExp (pt_cmpR ((or_din hu1).or op_in_seq) pe_bl (pv 2) (by rfl)) (pe_bm PySem.F.plainAttrs_list PySem.F.slot_list_index PySem.F.type_list_index (mt_indexD hu65) (pv 2) (pa_cons pe_bl pa_nil)) pe_int) (fun _ _ => rfl)),
    (sem_op os_ixA (sem_lst (semA_cons sem_str (semA_cons sem_str (semA_cons sem_str semA_nil)))) (sem_if (semT_test (sem_op os_inA sem_bl sem_var)) (sem_idx sem_var sem_bl) sem_int))⟩
  refine ⟨_, pss_cons (ps_try_as (i := 1) (tb := fun W D σ H => ∃ Ech : XK, (∀ cls d σ' H', Ech cls d H' → σ'.length = 3 → W cls d σ' H') ∧ σ[0]? = some (some (.ref f)) ∧ H c' = some (LamX.CodeO c' qq) ∧ tl Ech H (fun _ H' => D.nx σ H'))
      (ts := fun a cls d => tSeq (tAsg (tLst (tCons (tCB (rY_law_word X.K a cls d) (tCons (tVar 1) (tCons (tC (.ref (cl 2))) tNil))) (tCons (tCB (rY_law_word X.K a cls d) (tCons (tVar 1) (tCons (tC (.ref (cl 3))) tNil))) tNil))) (gName 2)) (tRet tr)) (Wout := fun _ _ _ _ => False) rfl rfl sc.nd rfl rfl ⟨rfl, by decide, .inl T.e_RoomError⟩ takes0 (fun W pn xe tk _ => ?_) (fun a oe cls d pn hz hf => ?_)) (pss_one (ps_ret pe_str)), ?_⟩
  · refine ⟨fun pins s' σ H' D I h' => ?_⟩
    obtain ⟨Ech, hW, h1, h2, h3⟩ := h'
    have hp := fun p1 p2 => act (fun cls d σ H => σ.length = 3 → W cls d σ H) pn xe Ech p1 p2 (takesLen tk) (fun cls d σ' H' e l => hW cls d σ' H' e l)
    exact (pss_one (ps_expr (hp _ _))).run pins s' σ H' D I ⟨h1, h2, h3⟩
  · exact pss_cons (ps_set (i := 2) sc.nd rfl (Or.inl rfl) (pe_lst (pa_cons (pe_callB (call_isY hz hf) (by rfl) T.b_isinstance (by decide +kernel) (pa_cons (pv 1) (pa_cons (pe_k (v := .ref (cl 2)) ⟨_, T.e_BadBlock, rfl⟩) pa_nil))) (pa_cons (pe_callB (call_isY hz hf) (by rfl) T.b_isinstance (by decide +kernel) (pa_cons (pv 1) (pa_cons (pe_k (v := .ref (cl 3)) ⟨_, T.e_BadVariable, rfl⟩) pa_nil))) pa_nil)))) (pss_one (ps_ret (htr a oe pn)))
  · refine ⟨fun cls d H' => d = none ∧ ∃ c z, cls = .ref (cl c) ∧ ans_law_word.lookup c = some z ∧ ∀ H'', Evl.Ex H' H'' → Q (.str z) H'', ?_, rfl, hc, h⟩
    rintro cls d σ' H' ⟨ed, c, z, ec, ez, k⟩ hl
    subst ed ec
    have cases : (c = 2 ∧ z = "block") ∨ (c = 3 ∧ z = "variable") := by
      unfold ans_law_word at ez
      simp only [List.lookup_cons, List.lookup_nil] at ez
      split at ez
      · rename_i e; exact .inl ⟨beq_iff_eq.mp e, (Option.some.inj ez).symm⟩
      · split at ez
        · rename_i e; exact .inr ⟨beq_iff_eq.mp e, (Option.some.inj ez).symm⟩
        · cases ez
    rcases cases with ⟨rfl, rfl⟩ | ⟨rfl, rfl⟩
    · obtain ⟨C, ex, k1, k2⟩ := T.wd_BadBlock
      refine ⟨true, ex, fun _ a ha => ?_, fun z => nomatch z⟩
      have hs : (σ'.set 1 (some (V.ref a)))[1]? = some (some (V.ref a)) := List.getElem?_set_self (by omega)
      refine ⟨_, hs, _, rfl, rfl, C, _, _, true, rfl, fun u r => r, k1, _, hs, _, rfl, rfl, C, _, _, false, rfl, fun u r => r, k2, Evl.sz_of (by decide), fun p hp => ?_⟩
      exact end_word (σ := σ'.set 1 (some (V.ref a))) (bs := [true, false]) hsr (by rw [List.length_set]; exact hl) hp rfl (by kernel_rfl) k
    · obtain ⟨C, ex, k1, k2⟩ := T.wd_BadVariable
      refine ⟨true, ex, fun _ a ha => ?_, fun z => nomatch z⟩
      have hs : (σ'.set 1 (some (V.ref a)))[1]? = some (some (V.ref a)) := List.getElem?_set_self (by omega)
      refine ⟨_, hs, _, rfl, rfl, C, _, _, false, rfl, fun u r => r, k1, _, hs, _, rfl, rfl, C, _, _, true, rfl, fun u r => r, k2, Evl.sz_of (by decide), fun p hp => ?_⟩
      exact end_word (σ := σ'.set 1 (some (V.ref a))) (bs := [false, true]) hsr (by rw [List.length_set]; exact hl) hp rfl (by kernel_rfl) k
def m_lawL : ML := (lSeq (lS (sIf (mOr (mNot (mTru (mCall m_law_parts_right aNil))) (mNot (mTru (mCall m_law_uses_right aNil)))) (sRet (mC (.bl false))) sNx)) (lSeq (lS (sAsgV 1 (mMake 4 m_Single___init__ (aCons (mC (.int (4))) (aCons (mTup (aCons (mC (.int (0))) aNil)) (aCons (mCall m_law_loop (aCons (mTup (aCons (mTup (aCons (mC (.int (2))) (aCons (mTup (aCons (mC (.int (0))) (aCons (mC (.int (3))) aNil))) aNil))) aNil)) (aCons (mTup (aCons (mTup (aCons (mC (.str "tell")) (aCons (mC (.int (2))) aNil))) (aCons (mTup (aCons (mC (.str "sub")) (aCons (mC (.int (3))) (aCons (mC (.int (2))) (aCons (mC (.int (1))) aNil))))) aNil))) aNil))) aNil))) (aCons (mC (.int (2))) aNil) (fun ds zs => ds ++ zs) 3 1))) (lSeq (lS (sIf (mOr (mOp2 fNe (mLst (aCons (mFld [4] "many" (mVar 1)) (aCons (mFld [4] "handed" (mVar 1)) (aCons (mFld [4] "span" (mVar 1)) (aCons (mLenO 4 m_Single___len__ (mVar 1)) aNil))))) (mLst (aCons (mC (.int (4))) (aCons (mTup (aCons (mC (.int (0))) aNil)) (aCons (mC (.int (2))) (aCons (mC (.int (3))) aNil)))))) (mOp2 fNe (mMeth 4 "joins" m_Single_joins (mVar 1) (aCons (mC (.int (1))) aNil)) (mTup (aCons (mTup (aCons (mC (.int (2))) (aCons (mTup (aCons (mC (.int (0))) (aCons (mC (.int (3))) aNil))) aNil))) aNil)))) (sRet (mC (.bl false))) sNx)) (lSeq (lS (sIf (mOr (mOp2 fNe (mLc (iRange1 (aCons (mC (.int (4))) aNil)) [3] (.nm 3) mYes (mMeth 4 "definition" m_Single_definition (mVar 1) (aCons (mVar 3) aNil))) (mLst (aCons (mTup (aCons (mC (.int (0))) (aCons (mC (.int (0))) aNil))) (aCons (mTup (aCons (mC (.int (0))) (aCons (mC (.int (1))) aNil))) (aCons (mTup (aCons (mC (.int (1))) (aCons (mC (.int (0))) aNil))) (aCons (mTup (aCons (mC (.int (1))) (aCons (mC (.int (2))) aNil))) aNil)))))) (mOp2 fNe (mMeth 4 "edges_into" m_Single_edges_into (mVar 1) (aCons (mC (.int (1))) aNil)) (mLst (aCons (mTup (aCons (mC (.int (0))) (aCons (mC (.int (0))) aNil))) (aCons (mTup (aCons (mC (.int (1))) (aCons (mC (.int (0))) aNil))) aNil))))) (sRet (mC (.bl false))) sNx)) (lSeq (lS (sIf (mOr (mOp2 fNe (mProp 4 m_Single_points (mVar 1)) (mLst (aCons (mTup (aCons (mC (.int (0))) (aCons (mC (.int (0))) aNil))) (aCons (mTup (aCons (mC (.int (0))) (aCons (mC (.int (1))) aNil))) (aCons (mTup (aCons (mC (.int (1))) (aCons (mC (.int (0))) aNil))) (aCons (mTup (aCons (mC (.int (1))) (aCons (mC (.int (1))) aNil))) (aCons (mTup (aCons (mC (.int (1))) (aCons (mC (.int (2))) aNil))) (aCons (mTup (aCons (mC (.int (2))) (aCons (mC (.int (0))) aNil))) aNil)))))))) (mOp2 fNe (mMeth 4 "rows" m_Single_rows (mVar 1) (aCons (mC (.int (2))) aNil)) (mTup aNil))) (sRet (mC (.bl false))) sNx)) (lSeq (lFor (mTup (aCons (mC .non) (aCons (mUn fNeg (mC (.int (1)))) (aCons (mC (.int (4))) (aCons (mC (.bl true)) (aCons (mC (.str "0")) aNil)))))) (.nm 2) (lSeq (lIfW ans_law_word (mMeth 4 "definition" m_Single_definition (mVar 1) (aCons (mVar 2) aNil)) "variable" (lS (sRet (mC (.bl false)))) (lS sNx)) (lIfW ans_law_word (mMeth 4 "joins" m_Single_joins (mVar 1) (aCons (mVar 2) aNil)) "block" (lS (sRet (mC (.bl false)))) (lS sNx)))) (lS (sRet (mAnd (mOwn 4 m_Single___eq__ false (mMake 4 m_Single___init__ (aCons (mC (.int (4))) (aCons (mTup (aCons (mC (.int (0))) aNil)) (aCons (mFld [4] "blocks" (mVar 1)) aNil))) (aCons (mC (.int (2))) aNil) (fun ds zs => ds ++ zs) 3 1) (mVar 1)) (mAnd (mOwn 4 m_Single___eq__ true (mMake 4 m_Single___init__ (aCons (mC (.int (4))) (aCons (mTup (aCons (mC (.int (0))) aNil)) (aCons (mFld [4] "blocks" (mVar 1)) aNil))) aNil (fun ds _ => ds ++ [(.int (4))]) 3 0) (mVar 1)) (mIs (ansT "list") (mVar 0))))))))))))
theorem sc_law : FnScope ["script", "single", "thing", "one"] ["script"] (defScope s_law) := ⟨rfl, rfl, rfl, by decide +kernel, rfl, by decide +kernel, by decide +kernel⟩
def rho_law (ns : List Int) : Rho := some (.val (.scr ns)) :: List.replicate 3 none
def spLawL (K : PySem.W.Frag) (Pt : Addr) : Sp := fun vs H Q _ => ∃ (a : Addr) (ns : List Int), vs = [.ref a] ∧ SqL K H a (ns.map V.int) ∧ H Pt = some (.tbl #[]) ∧ (match m_lawL (rho_law ns) with | some (.ok (.ret (.val (.bl true))), _) => true | _ => false) = true ∧ ∀ H', Q (.bl true) H'
theorem ok_lawL (T : Txt P w K mg fn cl) {c Pt : Addr} {oc kV doc pm ct : Value} {od an : Option Addr} {osl : Array (Option Value)} (TB : LamX.TabB base mg c Pt)
    (lk : K.lookup (fn 52) = some ⟨oc, od, .func (PySem.W.fnOf "law" "law" (defArgs s_law) (defBody s_law) (defScope s_law) .none kV doc pm an (.ref c) ct), osl⟩) (hcd : PySem.W.codeIn K (.ref c) "law" = true) :
    FnOk P w K mg base CX0 20 (fn 52) (PySem.W.fnOf "law" "law" (defArgs s_law) (defBody s_law) (defScope s_law) .none kV doc pm an (.ref c) ct) ["script"] (spLawL K Pt) := by
  obtain ⟨fdw, Fw, bw⟩ := T.d_law_word.fu
  have kpw := Fw.kp
  obtain ⟨ocw, odw, kVw, docw, pmw, anw, cdw, ctw, oslw, ew, lkw, hcw⟩ := Fw.ex
  subst ew
  refine fn_of lk hcd sc_law (fun vs H Q E h => ?_) fun A outer s H vs Q E hr h => ?_
  · obtain ⟨a, ns, e, _⟩ := h
    rw [e]
    rfl
  obtain ⟨a, ns, e, hs, hT, hm, k⟩ := h
  subst e
  have sc := sc_law
  have hu64 := hr.units
  obtain ⟨fdI_Single, F_Single, M_Single, G_Single, ⟨g1_Single, KB_Single_all⟩, ⟨g2_Single, KB_Single_none⟩⟩ := T.i_Single
  have OX_Single := ok_Single___init__ (P := P) (w := w) (base := base) T F_Single
  have O_Single___eq__ := ok_Single___eq__ (P := P) (w := w) (base := base) T
  have O_Single___len__ := ok_Single___len__ (P := P) (w := w) (base := base) T
  have O_Single_definition := okr_Single_definition (P := P) (w := w) (base := base) T
  have O_Single_edges_into := ok_Single_edges_into (P := P) (w := w) (base := base) T
  have O_Single_joins := okr_Single_joins (P := P) (w := w) (base := base) T
  have O_Single_points := ok_Single_points (P := P) (w := w) (base := base) T
  have O_Single_rows := ok_Single_rows (P := P) (w := w) (base := base) T
  have O_law_loop := ok_law_loop (P := P) (w := w) (base := base) T
  have O_law_parts_right := ok_law_parts_right (P := P) (w := w) (base := base) T
  have O_law_uses_right := ok_law_uses_right (P := P) (w := w) (base := base) T
  obtain ⟨tt, ht, hst⟩ : ∃ t, PSs (cxOf CX0 P w K mg base ["script", "single", "thing", "one"] "law" (defScope s_law) (fn 52) (.ref c) A outer s H E).nox (defBody s_law) t ∧ SemL ⟨K, cl⟩ [(Pt, "law.<locals>.<lambda>")] t m_lawL := ⟨_, (pss_cons (ps_if (PW.pt (pw_or (pt_not (pt_truth (pe_callO0 O_law_parts_right (hr.mono (by decide)) T.g_law_parts_right) (fun _ => rfl))) (pw_or1 (pt_not (pt_truth (pe_callO0 O_law_uses_right (hr.mono (by decide)) T.g_law_uses_right) (fun _ => rfl)))))) (pss_one (ps_ret pe_bl)) pss_nil)
      (pss_cons (ps_set (i := 1) sc.nd rfl (Or.inr rfl) (pe_makeK M_Single OX_Single (hr.mono (by decide)) (by rfl) G_Single KB_Single_all passL (pa_cons pe_int (pa_cons (pe_tup (pa_cons pe_int pa_nil)) (pa_cons (pe_callO O_law_loop (hr.mono (by decide)) T.g_law_loop (pa_cons (pe_tup (pa_cons (pe_tup (pa_cons pe_int (pa_cons (pe_tup (pa_cons pe_int (pa_cons pe_int pa_nil))) pa_nil))) pa_nil)) (pa_cons (pe_tup (pa_cons (pe_tup (pa_cons pe_str (pa_cons pe_int pa_nil))) (pa_cons (pe_tup (pa_cons pe_str (pa_cons pe_int (pa_cons pe_int (pa_cons pe_int pa_nil))))) pa_nil))) pa_nil))) pa_nil))) (pk_cons pe_int pk_nil)))
      (pss_cons (ps_if (PW.pt (pw_or (pt_cmpR (op_neD hu64) (pe_lst (pa_cons (pe_fld (pv 1) rfl) (pa_cons (pe_fld (pv 1) rfl) (pa_cons (pe_fld (pv 1) rfl) (pa_cons (pe_callB (call_lenO O_Single___len__ T.l_Single.1 T.l_Single.2 (hr.mono (by decide))) (by rfl) T.b_len (by decide +kernel) (pa_cons (pv 1) pa_nil)) pa_nil))))) (pe_lst (pa_cons pe_int (pa_cons (pe_tup (pa_cons pe_int pa_nil)) (pa_cons pe_int (pa_cons pe_int pa_nil))))) (nomark _)) (pw_or1 (pt_cmpR (op_neD hu64) (pe_methX O_Single_joins T.m_Single_joins.1 T.m_Single_joins.2 passL (hr.mono (by decide)) (pv 1) (pa_cons pe_int pa_nil)) (pe_tup (pa_cons (pe_tup (pa_cons pe_int (pa_cons (pe_tup (pa_cons pe_int (pa_cons pe_int pa_nil))) pa_nil))) pa_nil)) (nomark _))))) (pss_one (ps_ret pe_bl)) pss_nil)
      (pss_cons (ps_if (PW.pt (pw_or (pt_cmpR (op_neD hu64) (pe_lc (own := [("one", 3)]) rfl sc.nd (pi_range1 (by rfl) T.b_range (pa_cons pe_int pa_nil)) (by show BlkOk ["script", "single", "thing", "one"] (defScope s_law) _ _; exact ⟨rfl, by decide +kernel, by decide +kernel, by decide +kernel, by decide +kernel⟩) (fun _ _ _ _ _ => (pg_name (i := 3) sc.nd rfl (Or.inl rfl))) (fun _ _ _ _ _ => pts_nil) (fun _ _ _ _ _ => (pe_methX O_Single_definition T.m_Single_definition.1 T.m_Single_definition.2 passL (hr.mono (by decide)) (pv 1) (pa_cons (pv 3) pa_nil)))) (pe_lst (pa_cons (pe_tup (pa_cons pe_int (pa_cons pe_int pa_nil))) (pa_cons (pe_tup (pa_cons pe_int (pa_cons pe_int pa_nil))) (pa_cons (pe_tup (pa_cons pe_int (pa_cons pe_int pa_nil))) (pa_cons (pe_tup (pa_cons pe_int (pa_cons pe_int pa_nil))) pa_nil))))) (nomark _)) (pw_or1 (pt_cmpR (op_neD hu64) (pe_methX O_Single_edges_into T.m_Single_edges_into.1 T.m_Single_edges_into.2 pass0 (hr.mono (by decide)) (pv 1) (pa_cons pe_int pa_nil)) (pe_lst (pa_cons (pe_tup (pa_cons pe_int (pa_cons pe_int pa_nil))) (pa_cons (pe_tup (pa_cons pe_int (pa_cons pe_int pa_nil))) pa_nil))) (nomark _))))) (pss_one (ps_ret pe_bl)) pss_nil)
      (pss_cons (ps_if (PW.pt (pw_or (pt_cmpR (op_neD hu64) (pe_propX O_Single_points T.p_Single_points.1 T.p_Single_points.2 pass0 (hr.mono (by decide)) (pv 1) rfl) (pe_lst (pa_cons (pe_tup (pa_cons pe_int (pa_cons pe_int pa_nil))) (pa_cons (pe_tup (pa_cons pe_int (pa_cons pe_int pa_nil))) (pa_cons (pe_tup (pa_cons pe_int (pa_cons pe_int pa_nil))) (pa_cons (pe_tup (pa_cons pe_int (pa_cons pe_int pa_nil))) (pa_cons (pe_tup (pa_cons pe_int (pa_cons pe_int pa_nil))) (pa_cons (pe_tup (pa_cons pe_int (pa_cons pe_int pa_nil))) pa_nil))))))) (nomark _)) (pw_or1 (pt_cmpR (op_neD hu64) (pe_methX O_Single_rows T.m_Single_rows.1 T.m_Single_rows.2 pass0 (hr.mono (by decide)) (pv 1) (pa_cons pe_int pa_nil)) (pe_tup pa_nil) (nomark _))))) (pss_one (ps_ret pe_bl)) pss_nil)
      (pss_cons (ps_for PassesOwn.never rfl (pi_seqV (pe_tup (pa_cons pe_non (pa_cons (pe_un un_neg pe_int) (pa_cons pe_int (pa_cons pe_bl (pa_cons pe_str pa_nil))))))) (pg_name (i := 2) sc.nd rfl (Or.inr rfl)) (pss_cons (ps_if (pt_cmpR (op_neD hu64) (LamX.pe_lamcall (k := 7) (t := fun E => tMeth (cl 4) "definition" (spF ⟨K, cl⟩ m_Single_definition 2) [] E (tVar 1) (tCons (tVar 2) tNil)) (T := [(Pt, "law.<locals>.<lambda>")]) (TT := TWord ⟨K, cl⟩ ans_law_word) (by rfl) T.g_law_word kpw lkw hcw bw sc_law_word rfl (.inl rfl) (gives_law_word T (j := 1) (hr.mono (by decide))) TB rfl (by simp; rfl) (fun p hp _ => by rw [List.mem_singleton.mp hp]; rfl) (hr.mono (by decide)) (show LamX.LamS (defScope s_law) _ from LamX.lamS_by (by decide +kernel)) rfl (fun _ _ _ _ _ => rfl)
        (fun A outer s H E f c' hr2 => (pe_methX (E := E) O_Single_definition T.m_Single_definition.1 T.m_Single_definition.2 (passX (takes_of rfl rfl rfl rfl)) (hr2.mono (by decide)) (pv 1) (pa_cons (pv 2) pa_nil)))) pe_str (nomark _)) (pss_one (ps_ret pe_bl)) pss_nil)
      (pss_one (ps_if (pt_cmpR (op_neD hu64) (LamX.pe_lamcall (k := 7) (t := fun E => tMeth (cl 4) "joins" (spF ⟨K, cl⟩ m_Single_joins 2) [] E (tVar 1) (tCons (tVar 2) tNil)) (T := [(Pt, "law.<locals>.<lambda>")]) (TT := TWord ⟨K, cl⟩ ans_law_word) (by rfl) T.g_law_word kpw lkw hcw bw sc_law_word rfl (.inl rfl) (gives_law_word T (j := 1) (hr.mono (by decide))) TB rfl (by simp; rfl) (fun p hp _ => by rw [List.mem_singleton.mp hp]; rfl) (hr.mono (by decide)) (show LamX.LamS (defScope s_law) _ from LamX.lamS_by (by decide +kernel)) rfl (fun _ _ _ _ _ => rfl)
        (fun A outer s H E f c' hr2 => (pe_methX (E := E) O_Single_joins T.m_Single_joins.1 T.m_Single_joins.2 (passX (takes_of rfl rfl rfl rfl)) (hr2.mono (by decide)) (pv 1) (pa_cons (pv 2) pa_nil)))) pe_str (nomark _)) (pss_one (ps_ret pe_bl)) pss_nil))))
      (pss_one (ps_ret (pe_and (pe_cmpR (op_own O_Single___eq__ T.cmp_Single (hr.mono (by decide))) (pe_makeK M_Single OX_Single (hr.mono (by decide)) (by rfl) G_Single KB_Single_all passL (pa_cons pe_int (pa_cons (pe_tup (pa_cons pe_int pa_nil)) (pa_cons (pe_fld (pv 1) rfl) pa_nil))) (pk_cons pe_int pk_nil)) (pv 1) (nomark _)) (pe_and (pe_cmpR (op_ownNe O_Single___eq__ T.cmp_Single (hr.mono (by decide))) (pe_makeK M_Single OX_Single (hr.mono (by decide)) (by rfl) G_Single KB_Single_none passL (pa_cons pe_int (pa_cons (pe_tup (pa_cons pe_int pa_nil)) (pa_cons (pe_fld (pv 1) rfl) pa_nil))) pk_nil) (pv 1) (nomark _)) (pe_one (pe_callB call_isi (by rfl) T.b_isinstance (by decide +kernel) (pa_cons (pv 0) (pa_cons (pe_bltn (v := .ty "list") (by rfl) T.b_list (by decide +kernel) rfl) pa_nil)))))))))))))),
    (semL_seq (semL_S (E := E0) (semS_if (semT_or (semT_not (semT_tru (sem_call mFn0_len semA_nil))) (semT_not (semT_tru (sem_call mFn0_len semA_nil)))) (semS_ret sem_bl) semS_nx)) (semL_seq (semL_S (E := E0) (semS_asgV (sem_makeK (c := 4) mFn_len (fun _ _ _ _ _ => rfl) (fun _ _ r1 r2 => r1.append r2) (semA_cons sem_int (semA_cons (sem_tup (semA_cons sem_int semA_nil)) (semA_cons (sem_call mFn0_len (semA_cons (sem_tup (semA_cons (sem_tup (semA_cons sem_int (semA_cons (sem_tup (semA_cons sem_int (semA_cons sem_int semA_nil))) semA_nil))) semA_nil)) (semA_cons (sem_tup (semA_cons (sem_tup (semA_cons sem_str (semA_cons sem_int semA_nil))) (semA_cons (sem_tup (semA_cons sem_str (semA_cons sem_int (semA_cons sem_int (semA_cons sem_int semA_nil))))) semA_nil))) semA_nil))) semA_nil))) (semA_cons sem_int semA_nil)))) (semL_seq (semL_S (E := E0) (semS_if (semT_or (semT_test (sem_op os_ne (sem_lst (semA_cons (sem_fld T.h_many sem_var) (semA_cons (sem_fld T.h_handed sem_var) (semA_cons (sem_fld T.h_span sem_var) (semA_cons (sem_lenO (c := 4) mFn0_len sem_var) semA_nil))))) (sem_lst (semA_cons sem_int (semA_cons (sem_tup (semA_cons sem_int semA_nil)) (semA_cons sem_int (semA_cons sem_int semA_nil))))))) (semT_test (sem_op os_ne (sem_meth (E1 := _) (c := 4) (.inl rfl) mFn_len sem_var (semA_cons sem_int semA_nil)) (sem_tup (semA_cons (sem_tup (semA_cons sem_int (semA_cons (sem_tup (semA_cons sem_int (semA_cons sem_int semA_nil))) semA_nil))) semA_nil))))) (semS_ret sem_bl) semS_nx)) (semL_seq (semL_S (E := E0) (semS_if (semT_or (semT_test (sem_op os_ne (sem_lc (E1 := E0) (E2 := E0) (semI_range1 (E := E0) (semA_cons sem_int semA_nil)) g_name semT_yes (sem_meth (E1 := _) (c := 4) (.inl rfl) mFn_len sem_var (semA_cons sem_var semA_nil)) (by decide)) (sem_lst (semA_cons (sem_tup (semA_cons sem_int (semA_cons sem_int semA_nil))) (semA_cons (sem_tup (semA_cons sem_int (semA_cons sem_int semA_nil))) (semA_cons (sem_tup (semA_cons sem_int (semA_cons sem_int semA_nil))) (semA_cons (sem_tup (semA_cons sem_int (semA_cons sem_int semA_nil))) semA_nil))))))) (semT_test (sem_op os_ne (sem_meth (E1 := _) (c := 4) (.inr mFn0_noex) mFn0_len sem_var (semA_cons sem_int semA_nil)) (sem_lst (semA_cons (sem_tup (semA_cons sem_int (semA_cons sem_int semA_nil))) (semA_cons (sem_tup (semA_cons sem_int (semA_cons sem_int semA_nil))) semA_nil)))))) (semS_ret sem_bl) semS_nx)) (semL_seq (semL_S (E := E0) (semS_if (semT_or (semT_test (sem_op os_ne (sem_prop (E1 := _) (c := 4) (.inr mFn0_noex) mFn0_len sem_var) (sem_lst (semA_cons (sem_tup (semA_cons sem_int (semA_cons sem_int semA_nil))) (semA_cons (sem_tup (semA_cons sem_int (semA_cons sem_int semA_nil))) (semA_cons (sem_tup (semA_cons sem_int (semA_cons sem_int semA_nil))) (semA_cons (sem_tup (semA_cons sem_int (semA_cons sem_int semA_nil))) (semA_cons (sem_tup (semA_cons sem_int (semA_cons sem_int semA_nil))) (semA_cons (sem_tup (semA_cons sem_int (semA_cons sem_int semA_nil))) semA_nil))))))))) (semT_test (sem_op os_ne (sem_meth (E1 := _) (c := 4) (.inr mFn0_noex) mFn0_len sem_var (semA_cons sem_int semA_nil)) (sem_tup semA_nil)))) (semS_ret sem_bl) semS_nx)) (semL_seq (semL_for (sem_tup (semA_cons sem_non (semA_cons (sem_neg sem_int) (semA_cons sem_int (semA_cons sem_bl (semA_cons sem_str semA_nil)))))) g_name (semL_seq (semL_ifW os_ne (fun E => sem_meth (E1 := E) (c := 4) (.inl rfl) mFn_len sem_var (semA_cons sem_var semA_nil)) (semL_S (E := E0) (semS_ret sem_bl)) (semL_S (E := E0) semS_nx)) (semL_ifW os_ne (fun E => sem_meth (E1 := E) (c := 4) (.inl rfl) mFn_len sem_var (semA_cons sem_var semA_nil)) (semL_S (E := E0) (semS_ret sem_bl)) (semL_S (E := E0) semS_nx))) (bind_nm 2)) (semL_S (E := E0) (semS_ret (sem_andV (sem_own (c := 4) (neg := false) mFn0_len (sem_makeK (c := 4) mFn_len (fun _ _ _ _ _ => rfl) (fun _ _ r1 r2 => r1.append r2) (semA_cons sem_int (semA_cons (sem_tup (semA_cons sem_int semA_nil)) (semA_cons (sem_fld T.h_blocks sem_var) semA_nil))) (semA_cons sem_int semA_nil)) sem_var) (sem_andV (sem_own (c := 4) (neg := true) mFn0_len (sem_makeK (c := 4) mFn_len (fun _ _ _ _ _ => rfl) (fun _ _ r1 _ => r1.append (Reps.cons Rep.ofInt Reps.nil)) (semA_cons sem_int (semA_cons (sem_tup (semA_cons sem_int semA_nil)) (semA_cons (sem_fld T.h_blocks sem_var) semA_nil))) semA_nil) sem_var) (sem_is (is_ty (by decide)) (.ty _) sem_var)))))))))))⟩
  exact ⟨tt, ht.nox, law_end hst hs hT hm k⟩
end
end VG

open PySem PySem.Spec
open PyProof.Rows L2
namespace VG
open VL
def ps_BadSingle : VX.Ps := ⟨⟨9, 17, 9, 21⟩, ⟨9, 23, 9, 27⟩, ⟨9, 28, 9, 32⟩, ⟨10, 8, 10, 13⟩, ⟨10, 8, 10, 15⟩, ⟨10, 8, 10, 24⟩, ⟨10, 27, 10, 60⟩, ⟨10, 61, 10, 65⟩, ⟨10, 60, 10, 66⟩, ⟨10, 25, 10, 67⟩, ⟨10, 8, 10, 68⟩, ⟨10, 8, 10, 68⟩, ⟨11, 8, 11, 12⟩, ⟨11, 8, 11, 17⟩, ⟨11, 20, 11, 24⟩, ⟨11, 8, 11, 24⟩⟩
theorem all_txt {P : Program} {w : World} {K : PySem.W.Frag} {h : Heap} {mg : Str → Option Value} (X : K.In h) (G : h.Ns mainGlobals mg)
    {f2 : Addr} {od2 an2 : Option Addr} {sl2 : Array (Option Value)} {oc2 kV2 dc2 pm2 cd2 ct2 : Value}
    {f3 : Addr} {od3 an3 : Option Addr} {sl3 : Array (Option Value)} {oc3 kV3 dc3 pm3 cd3 ct3 : Value}
    {f4 : Addr} {od4 an4 : Option Addr} {sl4 : Array (Option Value)} {oc4 kV4 dc4 pm4 cd4 ct4 : Value}
    {f7 : Addr} {od7 an7 : Option Addr} {sl7 : Array (Option Value)} {oc7 kV7 dc7 pm7 cd7 ct7 : Value}
    {f9 : Addr} {od9 an9 : Option Addr} {sl9 : Array (Option Value)} {oc9 kV9 dc9 pm9 cd9 ct9 : Value}
    {f10 : Addr} {od10 an10 : Option Addr} {sl10 : Array (Option Value)} {oc10 kV10 dc10 pm10 cd10 ct10 : Value}
    {f11 : Addr} {od11 an11 : Option Addr} {sl11 : Array (Option Value)} {oc11 kV11 dc11 pm11 cd11 ct11 : Value}
    {f15 : Addr} {od15 an15 : Option Addr} {sl15 : Array (Option Value)} {oc15 kV15 dc15 pm15 cd15 ct15 : Value}
    {f16 : Addr} {od16 an16 : Option Addr} {sl16 : Array (Option Value)} {oc16 kV16 dc16 pm16 cd16 ct16 : Value}
    {f17 : Addr} {od17 an17 : Option Addr} {sl17 : Array (Option Value)} {oc17 kV17 dc17 pm17 cd17 ct17 : Value}
    {f18 : Addr} {od18 an18 : Option Addr} {sl18 : Array (Option Value)} {oc18 kV18 dc18 pm18 cd18 ct18 : Value}
    {f19 : Addr} {od19 an19 : Option Addr} {sl19 : Array (Option Value)} {oc19 kV19 dc19 pm19 cd19 ct19 : Value}
    {f20 : Addr} {od20 an20 : Option Addr} {sl20 : Array (Option Value)} {oc20 kV20 dc20 pm20 cd20 ct20 : Value}
    {f21 : Addr} {od21 an21 : Option Addr} {sl21 : Array (Option Value)} {oc21 kV21 dc21 pm21 cd21 ct21 : Value}
    {f22 : Addr} {od22 an22 : Option Addr} {sl22 : Array (Option Value)} {oc22 kV22 dc22 pm22 cd22 ct22 : Value}
    {f23 : Addr} {od23 an23 : Option Addr} {sl23 : Array (Option Value)} {oc23 kV23 dc23 pm23 cd23 ct23 : Value}
    {f24 : Addr} {od24 an24 : Option Addr} {sl24 : Array (Option Value)} {oc24 kV24 dc24 pm24 cd24 ct24 : Value}
    {f25 : Addr} {od25 an25 : Option Addr} {sl25 : Array (Option Value)} {oc25 kV25 dc25 pm25 cd25 ct25 : Value}
    {f26 : Addr} {od26 an26 : Option Addr} {sl26 : Array (Option Value)} {oc26 kV26 dc26 pm26 cd26 ct26 : Value}
    {f27 : Addr} {od27 an27 : Option Addr} {sl27 : Array (Option Value)} {oc27 kV27 dc27 pm27 cd27 ct27 : Value}
    {f29 : Addr} {od29 an29 : Option Addr} {sl29 : Array (Option Value)} {oc29 kV29 dc29 pm29 cd29 ct29 : Value}
    {f30 : Addr} {od30 an30 : Option Addr} {sl30 : Array (Option Value)} {oc30 kV30 dc30 pm30 cd30 ct30 : Value}
    {f33 : Addr} {od33 an33 : Option Addr} {sl33 : Array (Option Value)} {oc33 kV33 dc33 pm33 cd33 ct33 : Value}
    {f36 : Addr} {od36 an36 : Option Addr} {sl36 : Array (Option Value)} {oc36 kV36 dc36 pm36 cd36 ct36 : Value}
    {f37 : Addr} {od37 an37 : Option Addr} {sl37 : Array (Option Value)} {oc37 kV37 dc37 pm37 cd37 ct37 : Value}
    {f38 : Addr} {od38 an38 : Option Addr} {sl38 : Array (Option Value)} {oc38 kV38 dc38 pm38 cd38 ct38 : Value}
    {f39 : Addr} {od39 an39 : Option Addr} {sl39 : Array (Option Value)} {oc39 kV39 dc39 pm39 cd39 ct39 : Value}
    {f42 : Addr} {od42 an42 : Option Addr} {sl42 : Array (Option Value)} {oc42 kV42 dc42 pm42 cd42 ct42 : Value}
    {f43 : Addr} {od43 an43 : Option Addr} {sl43 : Array (Option Value)} {oc43 kV43 dc43 pm43 cd43 ct43 : Value}
    {f45 : Addr} {od45 an45 : Option Addr} {sl45 : Array (Option Value)} {oc45 kV45 dc45 pm45 cd45 ct45 : Value}
    {f46 : Addr} {od46 an46 : Option Addr} {sl46 : Array (Option Value)} {oc46 kV46 dc46 pm46 cd46 ct46 : Value}
    {f48 : Addr} {od48 an48 : Option Addr} {sl48 : Array (Option Value)} {oc48 kV48 dc48 pm48 cd48 ct48 : Value}
    {f8 : Addr} {od8 an8 : Option Addr} {sl8 : Array (Option Value)} {oc8 kV8 dc8 pm8 cd8 ct8 : Value}
    {f44 : Addr} {od44 an44 : Option Addr} {sl44 : Array (Option Value)} {oc44 kV44 dc44 pm44 cd44 ct44 : Value}
    {f5 : Addr} {od5 an5 : Option Addr} {sl5 : Array (Option Value)} {oc5 kV5 dc5 pm5 cd5 ct5 : Value}
    {f6 : Addr} {od6 an6 : Option Addr} {sl6 : Array (Option Value)} {oc6 kV6 dc6 pm6 cd6 ct6 : Value}
    {f12 : Addr} {od12 an12 : Option Addr} {sl12 : Array (Option Value)} {oc12 kV12 dc12 pm12 cd12 ct12 : Value}
    {f13 : Addr} {od13 an13 : Option Addr} {sl13 : Array (Option Value)} {oc13 kV13 dc13 pm13 cd13 ct13 : Value}
    {f14 : Addr} {od14 an14 : Option Addr} {sl14 : Array (Option Value)} {oc14 kV14 dc14 pm14 cd14 ct14 : Value}
    {f41 : Addr} {od41 an41 : Option Addr} {sl41 : Array (Option Value)} {oc41 kV41 dc41 pm41 cd41 ct41 : Value}
    {f47 : Addr} {od47 an47 : Option Addr} {sl47 : Array (Option Value)} {oc47 kV47 dc47 pm47 cd47 ct47 : Value}
    {f50 : Addr} {od50 an50 : Option Addr} {sl50 : Array (Option Value)} {oc50 kV50 dc50 pm50 cd50 ct50 : Value}
    {f51 : Addr} {od51 an51 : Option Addr} {sl51 : Array (Option Value)} {oc51 kV51 dc51 pm51 cd51 ct51 : Value}
    {f49 : Addr} {od49 an49 : Option Addr} {sl49 : Array (Option Value)} {oc49 kV49 dc49 pm49 cd49 ct49 : Value}
    {t_MOST_BLOCKS : Tok}
    {t_MOST_HANDED : Tok}
    {t_MOST_ROWS : Tok}
    {t_MOST_SINGLE : Tok}
    {t_MOST_SPAN : Tok}
    {C2 : Addr}
    {C1 : Addr}
    {C3 : Addr}
    {C0 : Addr}
    {C4 : Addr}
    {f28 D28 : Addr} {od28 an28 : Option Addr} {sl28 : Array (Option Value)} {oc28 dc28 pm28 cd28 ct28 : Value} {td28_0 : Tok}
    {p37 : Addr} {rs37 : List Value}
    {nm1 qn1 : Str} {N1 fI1 T1 cc1 cda1 B1 : Addr} {bs1 sub1 : List Value} {sn1 : List Str} {ab1 : Bool} {col1 : Option Bool} {dd1 : Option Addr} {m0_1 m1_1 m2_1 m3_1 m5_1 : Option Value} {ocI1 kVI1 dcI1 pmI1 ctI1 ccl1 cel1 : Value} {odI1 anI1 cdd1 cld1 : Option Addr} {slI1 ccs1 csl1 : Array (Option Value)} {vs1 : Array Value} {file1 : Str} {tf1 : Tok} {oT1 : Obj} {nT1 : Nat}
    {d_ENDS : Addr} {es_ENDS : Array DictEntry} {n_ENDS : Nat}
    {d_ROWS : Addr} {es_ROWS : Array DictEntry} {n_ROWS : Nat}
    {f52 cL PtL : Addr} {od52 an52 : Option Addr} {sl52 : Array (Option Value)} {oc52 kV52 dc52 pm52 ct52 : Value}
    (a2 : PySem.W.nsIn K mainGlobals "is_whole" = some (some (.ref f2)))
    (a3 : PySem.W.nsIn K mainGlobals "is_integer" = some (some (.ref f3)))
    (a4 : PySem.W.nsIn K mainGlobals "are_integers" = some (some (.ref f4)))
    (a7 : PySem.W.nsIn K mainGlobals "has_word" = some (some (.ref f7)))
    (a9 : PySem.W.nsIn K mainGlobals "may_stand" = some (some (.ref f9)))
    (a10 : PySem.W.nsIn K mainGlobals "is_join" = some (some (.ref f10)))
    (a11 : PySem.W.nsIn K mainGlobals "are_joins" = some (some (.ref f11)))
    (a15 : PySem.W.nsIn K mainGlobals "all_points" = some (some (.ref f15)))
    (a16 : PySem.W.nsIn K mainGlobals "check_block" = some (some (.ref f16)))
    (a17 : PySem.W.nsIn K mainGlobals "check_variable" = some (some (.ref f17)))
    (a18 : PySem.W.nsIn K mainGlobals "defined_by" = some (some (.ref f18)))
    (a19 : PySem.W.nsIn K mainGlobals "used_by" = some (some (.ref f19)))
    (a20 : PySem.W.nsIn K mainGlobals "used_by_end" = some (some (.ref f20)))
    (a21 : PySem.W.nsIn K mainGlobals "followers_of" = some (some (.ref f21)))
    (a22 : PySem.W.nsIn K mainGlobals "edges_of" = some (some (.ref f22)))
    (a23 : PySem.W.nsIn K mainGlobals "joins_of" = some (some (.ref f23)))
    (a24 : PySem.W.nsIn K mainGlobals "carried" = some (some (.ref f24)))
    (a25 : PySem.W.nsIn K mainGlobals "defined_ahead" = some (some (.ref f25)))
    (a26 : PySem.W.nsIn K mainGlobals "used_behind" = some (some (.ref f26)))
    (a27 : PySem.W.nsIn K mainGlobals "reached" = some (some (.ref f27)))
    (a42 : PySem.W.nsIn K mainGlobals "all_definitions" = some (some (.ref f42)))
    (a43 : PySem.W.nsIn K mainGlobals "are_joins_full" = some (some (.ref f43)))
    (a45 : PySem.W.nsIn K mainGlobals "all_without" = some (some (.ref f45)))
    (a46 : PySem.W.nsIn K mainGlobals "is_behind" = some (some (.ref f46)))
    (a48 : PySem.W.nsIn K mainGlobals "_law_loop" = some (some (.ref f48)))
    (a8 : PySem.W.nsIn K mainGlobals "fills" = some (some (.ref f8)))
    (a44 : PySem.W.nsIn K mainGlobals "are_uses_behind" = some (some (.ref f44)))
    (a5 : PySem.W.nsIn K mainGlobals "is_row" = some (some (.ref f5)))
    (a6 : PySem.W.nsIn K mainGlobals "is_end" = some (some (.ref f6)))
    (a12 : PySem.W.nsIn K mainGlobals "are_rows" = some (some (.ref f12)))
    (a13 : PySem.W.nsIn K mainGlobals "is_block" = some (some (.ref f13)))
    (a14 : PySem.W.nsIn K mainGlobals "are_blocks" = some (some (.ref f14)))
    (a41 : PySem.W.nsIn K mainGlobals "wrong_single_part" = some (some (.ref f41)))
    (a47 : PySem.W.nsIn K mainGlobals "_law_part" = some (some (.ref f47)))
    (a50 : PySem.W.nsIn K mainGlobals "_law_parts_right" = some (some (.ref f50)))
    (a51 : PySem.W.nsIn K mainGlobals "_law_uses_right" = some (some (.ref f51)))
    (a49 : PySem.W.nsIn K mainGlobals "_law_word" = some (some (.ref f49)))
    (aC2 : PySem.W.nsIn K mainGlobals "BadBlock" = some (some (.ref C2)))
    (aC1 : PySem.W.nsIn K mainGlobals "BadSingle" = some (some (.ref C1)))
    (aC3 : PySem.W.nsIn K mainGlobals "BadVariable" = some (some (.ref C3)))
    (aC0 : PySem.W.nsIn K mainGlobals "RoomError" = some (some (.ref C0)))
    (aC4 : PySem.W.nsIn K mainGlobals "Single" = some (some (.ref C4)))
    (a28 : PySem.W.findIn K (.ref C4) "__init__" = some (some (.ref f28)))
    (aLaw : PySem.W.nsIn K mainGlobals "law" = some (some (.ref f52)))
    (mt39 : PySem.W.findIn K (.ref C4) "definition" = some (some (.ref f39)))
    (mt36 : PySem.W.findIn K (.ref C4) "edges_into" = some (some (.ref f36)))
    (mt38 : PySem.W.findIn K (.ref C4) "joins" = some (some (.ref f38)))
    (mt33 : PySem.W.findIn K (.ref C4) "rows" = some (some (.ref f33)))
    (mt37 : PySem.W.findIn K (.ref C4) "points" = some (some (.ref p37)))
    (mt29 : PySem.W.findIn K (.ref C4) "__eq__" = some (some (.ref f29)))
    (mt30 : PySem.W.findIn K (.ref C4) "__len__" = some (some (.ref f30)))
    (mu37 : PySem.W.recIn K p37 "property" = some (.ref f37 :: rs37))
    (l2 : K.lookup f2 = some ⟨oc2, od2, .func (PySem.W.fnOf "is_whole" "is_whole" (defArgs s_is_whole) (defBody s_is_whole) (defScope s_is_whole) .none kV2 dc2 pm2 an2 cd2 ct2), sl2⟩)
    (c2 : PySem.W.codeIn K cd2 "is_whole" = true)
    (k2 : PySem.W.keepIn K (.ref f2) = true)
    (l3 : K.lookup f3 = some ⟨oc3, od3, .func (PySem.W.fnOf "is_integer" "is_integer" (defArgs s_is_integer) (defBody s_is_integer) (defScope s_is_integer) .none kV3 dc3 pm3 an3 cd3 ct3), sl3⟩)
    (c3 : PySem.W.codeIn K cd3 "is_integer" = true)
    (k3 : PySem.W.keepIn K (.ref f3) = true)
    (l4 : K.lookup f4 = some ⟨oc4, od4, .func (PySem.W.fnOf "are_integers" "are_integers" (defArgs s_are_integers) (defBody s_are_integers) (defScope s_are_integers) .none kV4 dc4 pm4 an4 cd4 ct4), sl4⟩)
    (c4 : PySem.W.codeIn K cd4 "are_integers" = true)
    (k4 : PySem.W.keepIn K (.ref f4) = true)
    (l7 : K.lookup f7 = some ⟨oc7, od7, .func (PySem.W.fnOf "has_word" "has_word" (defArgs s_has_word) (defBody s_has_word) (defScope s_has_word) .none kV7 dc7 pm7 an7 cd7 ct7), sl7⟩)
    (c7 : PySem.W.codeIn K cd7 "has_word" = true)
    (k7 : PySem.W.keepIn K (.ref f7) = true)
    (l9 : K.lookup f9 = some ⟨oc9, od9, .func (PySem.W.fnOf "may_stand" "may_stand" (defArgs s_may_stand) (defBody s_may_stand) (defScope s_may_stand) .none kV9 dc9 pm9 an9 cd9 ct9), sl9⟩)
    (c9 : PySem.W.codeIn K cd9 "may_stand" = true)
    (k9 : PySem.W.keepIn K (.ref f9) = true)
    (l10 : K.lookup f10 = some ⟨oc10, od10, .func (PySem.W.fnOf "is_join" "is_join" (defArgs s_is_join) (defBody s_is_join) (defScope s_is_join) .none kV10 dc10 pm10 an10 cd10 ct10), sl10⟩)
    (c10 : PySem.W.codeIn K cd10 "is_join" = true)
    (k10 : PySem.W.keepIn K (.ref f10) = true)
    (l11 : K.lookup f11 = some ⟨oc11, od11, .func (PySem.W.fnOf "are_joins" "are_joins" (defArgs s_are_joins) (defBody s_are_joins) (defScope s_are_joins) .none kV11 dc11 pm11 an11 cd11 ct11), sl11⟩)
    (c11 : PySem.W.codeIn K cd11 "are_joins" = true)
    (k11 : PySem.W.keepIn K (.ref f11) = true)
    (l15 : K.lookup f15 = some ⟨oc15, od15, .func (PySem.W.fnOf "all_points" "all_points" (defArgs s_all_points) (defBody s_all_points) (defScope s_all_points) .none kV15 dc15 pm15 an15 cd15 ct15), sl15⟩)
    (c15 : PySem.W.codeIn K cd15 "all_points" = true)
    (k15 : PySem.W.keepIn K (.ref f15) = true)
    (l16 : K.lookup f16 = some ⟨oc16, od16, .func (PySem.W.fnOf "check_block" "check_block" (defArgs s_check_block) (defBody s_check_block) (defScope s_check_block) .none kV16 dc16 pm16 an16 cd16 ct16), sl16⟩)
    (c16 : PySem.W.codeIn K cd16 "check_block" = true)
    (k16 : PySem.W.keepIn K (.ref f16) = true)
    (l17 : K.lookup f17 = some ⟨oc17, od17, .func (PySem.W.fnOf "check_variable" "check_variable" (defArgs s_check_variable) (defBody s_check_variable) (defScope s_check_variable) .none kV17 dc17 pm17 an17 cd17 ct17), sl17⟩)
    (c17 : PySem.W.codeIn K cd17 "check_variable" = true)
    (k17 : PySem.W.keepIn K (.ref f17) = true)
    (l18 : K.lookup f18 = some ⟨oc18, od18, .func (PySem.W.fnOf "defined_by" "defined_by" (defArgs s_defined_by) (defBody s_defined_by) (defScope s_defined_by) .none kV18 dc18 pm18 an18 cd18 ct18), sl18⟩)
    (c18 : PySem.W.codeIn K cd18 "defined_by" = true)
    (k18 : PySem.W.keepIn K (.ref f18) = true)
    (l19 : K.lookup f19 = some ⟨oc19, od19, .func (PySem.W.fnOf "used_by" "used_by" (defArgs s_used_by) (defBody s_used_by) (defScope s_used_by) .none kV19 dc19 pm19 an19 cd19 ct19), sl19⟩)
    (c19 : PySem.W.codeIn K cd19 "used_by" = true)
    (k19 : PySem.W.keepIn K (.ref f19) = true)
    (l20 : K.lookup f20 = some ⟨oc20, od20, .func (PySem.W.fnOf "used_by_end" "used_by_end" (defArgs s_used_by_end) (defBody s_used_by_end) (defScope s_used_by_end) .none kV20 dc20 pm20 an20 cd20 ct20), sl20⟩)
    (c20 : PySem.W.codeIn K cd20 "used_by_end" = true)
    (k20 : PySem.W.keepIn K (.ref f20) = true)
    (l21 : K.lookup f21 = some ⟨oc21, od21, .func (PySem.W.fnOf "followers_of" "followers_of" (defArgs s_followers_of) (defBody s_followers_of) (defScope s_followers_of) .none kV21 dc21 pm21 an21 cd21 ct21), sl21⟩)
    (c21 : PySem.W.codeIn K cd21 "followers_of" = true)
    (k21 : PySem.W.keepIn K (.ref f21) = true)
    (l22 : K.lookup f22 = some ⟨oc22, od22, .func (PySem.W.fnOf "edges_of" "edges_of" (defArgs s_edges_of) (defBody s_edges_of) (defScope s_edges_of) .none kV22 dc22 pm22 an22 cd22 ct22), sl22⟩)
    (c22 : PySem.W.codeIn K cd22 "edges_of" = true)
    (k22 : PySem.W.keepIn K (.ref f22) = true)
    (l23 : K.lookup f23 = some ⟨oc23, od23, .func (PySem.W.fnOf "joins_of" "joins_of" (defArgs s_joins_of) (defBody s_joins_of) (defScope s_joins_of) .none kV23 dc23 pm23 an23 cd23 ct23), sl23⟩)
    (c23 : PySem.W.codeIn K cd23 "joins_of" = true)
    (k23 : PySem.W.keepIn K (.ref f23) = true)
    (l24 : K.lookup f24 = some ⟨oc24, od24, .func (PySem.W.fnOf "carried" "carried" (defArgs s_carried) (defBody s_carried) (defScope s_carried) .none kV24 dc24 pm24 an24 cd24 ct24), sl24⟩)
    (c24 : PySem.W.codeIn K cd24 "carried" = true)
    (k24 : PySem.W.keepIn K (.ref f24) = true)
    (l25 : K.lookup f25 = some ⟨oc25, od25, .func (PySem.W.fnOf "defined_ahead" "defined_ahead" (defArgs s_defined_ahead) (defBody s_defined_ahead) (defScope s_defined_ahead) .none kV25 dc25 pm25 an25 cd25 ct25), sl25⟩)
    (c25 : PySem.W.codeIn K cd25 "defined_ahead" = true)
    (k25 : PySem.W.keepIn K (.ref f25) = true)
    (l26 : K.lookup f26 = some ⟨oc26, od26, .func (PySem.W.fnOf "used_behind" "used_behind" (defArgs s_used_behind) (defBody s_used_behind) (defScope s_used_behind) .none kV26 dc26 pm26 an26 cd26 ct26), sl26⟩)
    (c26 : PySem.W.codeIn K cd26 "used_behind" = true)
    (k26 : PySem.W.keepIn K (.ref f26) = true)
    (l27 : K.lookup f27 = some ⟨oc27, od27, .func (PySem.W.fnOf "reached" "reached" (defArgs s_reached) (defBody s_reached) (defScope s_reached) .none kV27 dc27 pm27 an27 cd27 ct27), sl27⟩)
    (c27 : PySem.W.codeIn K cd27 "reached" = true)
    (k27 : PySem.W.keepIn K (.ref f27) = true)
    (l29 : K.lookup f29 = some ⟨oc29, od29, .func (PySem.W.fnOf "__eq__" "Single.__eq__" (defArgs s_Single___eq__) (defBody s_Single___eq__) (defScope s_Single___eq__) .none kV29 dc29 pm29 an29 cd29 ct29), sl29⟩)
    (c29 : PySem.W.codeIn K cd29 "Single.__eq__" = true)
    (k29 : PySem.W.keepIn K (.ref f29) = true)
    (l30 : K.lookup f30 = some ⟨oc30, od30, .func (PySem.W.fnOf "__len__" "Single.__len__" (defArgs s_Single___len__) (defBody s_Single___len__) (defScope s_Single___len__) .none kV30 dc30 pm30 an30 cd30 ct30), sl30⟩)
    (c30 : PySem.W.codeIn K cd30 "Single.__len__" = true)
    (k30 : PySem.W.keepIn K (.ref f30) = true)
    (l33 : K.lookup f33 = some ⟨oc33, od33, .func (PySem.W.fnOf "rows" "Single.rows" (defArgs s_Single_rows) (defBody s_Single_rows) (defScope s_Single_rows) .none kV33 dc33 pm33 an33 cd33 ct33), sl33⟩)
    (c33 : PySem.W.codeIn K cd33 "Single.rows" = true)
    (k33 : PySem.W.keepIn K (.ref f33) = true)
    (l36 : K.lookup f36 = some ⟨oc36, od36, .func (PySem.W.fnOf "edges_into" "Single.edges_into" (defArgs s_Single_edges_into) (defBody s_Single_edges_into) (defScope s_Single_edges_into) .none kV36 dc36 pm36 an36 cd36 ct36), sl36⟩)
    (c36 : PySem.W.codeIn K cd36 "Single.edges_into" = true)
    (k36 : PySem.W.keepIn K (.ref f36) = true)
    (l37 : K.lookup f37 = some ⟨oc37, od37, .func (PySem.W.fnOf "points" "Single.points" (defArgs s_Single_points) (defBody s_Single_points) (defScope s_Single_points) .none kV37 dc37 pm37 an37 cd37 ct37), sl37⟩)
    (c37 : PySem.W.codeIn K cd37 "Single.points" = true)
    (k37 : PySem.W.keepIn K (.ref f37) = true)
    (l38 : K.lookup f38 = some ⟨oc38, od38, .func (PySem.W.fnOf "joins" "Single.joins" (defArgs s_Single_joins) (defBody s_Single_joins) (defScope s_Single_joins) .none kV38 dc38 pm38 an38 cd38 ct38), sl38⟩)
    (c38 : PySem.W.codeIn K cd38 "Single.joins" = true)
    (k38 : PySem.W.keepIn K (.ref f38) = true)
    (l39 : K.lookup f39 = some ⟨oc39, od39, .func (PySem.W.fnOf "definition" "Single.definition" (defArgs s_Single_definition) (defBody s_Single_definition) (defScope s_Single_definition) .none kV39 dc39 pm39 an39 cd39 ct39), sl39⟩)
    (c39 : PySem.W.codeIn K cd39 "Single.definition" = true)
    (k39 : PySem.W.keepIn K (.ref f39) = true)
    (l42 : K.lookup f42 = some ⟨oc42, od42, .func (PySem.W.fnOf "all_definitions" "all_definitions" (defArgs s_all_definitions) (defBody s_all_definitions) (defScope s_all_definitions) .none kV42 dc42 pm42 an42 cd42 ct42), sl42⟩)
    (c42 : PySem.W.codeIn K cd42 "all_definitions" = true)
    (k42 : PySem.W.keepIn K (.ref f42) = true)
    (l43 : K.lookup f43 = some ⟨oc43, od43, .func (PySem.W.fnOf "are_joins_full" "are_joins_full" (defArgs s_are_joins_full) (defBody s_are_joins_full) (defScope s_are_joins_full) .none kV43 dc43 pm43 an43 cd43 ct43), sl43⟩)
    (c43 : PySem.W.codeIn K cd43 "are_joins_full" = true)
    (k43 : PySem.W.keepIn K (.ref f43) = true)
    (l45 : K.lookup f45 = some ⟨oc45, od45, .func (PySem.W.fnOf "all_without" "all_without" (defArgs s_all_without) (defBody s_all_without) (defScope s_all_without) .none kV45 dc45 pm45 an45 cd45 ct45), sl45⟩)
    (c45 : PySem.W.codeIn K cd45 "all_without" = true)
    (k45 : PySem.W.keepIn K (.ref f45) = true)
    (l46 : K.lookup f46 = some ⟨oc46, od46, .func (PySem.W.fnOf "is_behind" "is_behind" (defArgs s_is_behind) (defBody s_is_behind) (defScope s_is_behind) .none kV46 dc46 pm46 an46 cd46 ct46), sl46⟩)
    (c46 : PySem.W.codeIn K cd46 "is_behind" = true)
    (k46 : PySem.W.keepIn K (.ref f46) = true)
    (l48 : K.lookup f48 = some ⟨oc48, od48, .func (PySem.W.fnOf "_law_loop" "_law_loop" (defArgs s_law_loop) (defBody s_law_loop) (defScope s_law_loop) .none kV48 dc48 pm48 an48 cd48 ct48), sl48⟩)
    (c48 : PySem.W.codeIn K cd48 "_law_loop" = true)
    (k48 : PySem.W.keepIn K (.ref f48) = true)
    (l8 : K.lookup f8 = some ⟨oc8, od8, .func (PySem.W.fnOf "fills" "fills" (defArgs s_fills) (defBody s_fills) (defScope s_fills) .none kV8 dc8 pm8 an8 cd8 ct8), sl8⟩)
    (c8 : PySem.W.codeIn K cd8 "fills" = true)
    (k8 : PySem.W.keepIn K (.ref f8) = true)
    (l44 : K.lookup f44 = some ⟨oc44, od44, .func (PySem.W.fnOf "are_uses_behind" "are_uses_behind" (defArgs s_are_uses_behind) (defBody s_are_uses_behind) (defScope s_are_uses_behind) .none kV44 dc44 pm44 an44 cd44 ct44), sl44⟩)
    (c44 : PySem.W.codeIn K cd44 "are_uses_behind" = true)
    (k44 : PySem.W.keepIn K (.ref f44) = true)
    (l5 : K.lookup f5 = some ⟨oc5, od5, .func (PySem.W.fnOf "is_row" "is_row" (defArgs s_is_row) (defBody s_is_row) (defScope s_is_row) .none kV5 dc5 pm5 an5 cd5 ct5), sl5⟩)
    (c5 : PySem.W.codeIn K cd5 "is_row" = true)
    (k5 : PySem.W.keepIn K (.ref f5) = true)
    (l6 : K.lookup f6 = some ⟨oc6, od6, .func (PySem.W.fnOf "is_end" "is_end" (defArgs s_is_end) (defBody s_is_end) (defScope s_is_end) .none kV6 dc6 pm6 an6 cd6 ct6), sl6⟩)
    (c6 : PySem.W.codeIn K cd6 "is_end" = true)
    (k6 : PySem.W.keepIn K (.ref f6) = true)
    (l12 : K.lookup f12 = some ⟨oc12, od12, .func (PySem.W.fnOf "are_rows" "are_rows" (defArgs s_are_rows) (defBody s_are_rows) (defScope s_are_rows) .none kV12 dc12 pm12 an12 cd12 ct12), sl12⟩)
    (c12 : PySem.W.codeIn K cd12 "are_rows" = true)
    (k12 : PySem.W.keepIn K (.ref f12) = true)
    (l13 : K.lookup f13 = some ⟨oc13, od13, .func (PySem.W.fnOf "is_block" "is_block" (defArgs s_is_block) (defBody s_is_block) (defScope s_is_block) .none kV13 dc13 pm13 an13 cd13 ct13), sl13⟩)
    (c13 : PySem.W.codeIn K cd13 "is_block" = true)
    (k13 : PySem.W.keepIn K (.ref f13) = true)
    (l14 : K.lookup f14 = some ⟨oc14, od14, .func (PySem.W.fnOf "are_blocks" "are_blocks" (defArgs s_are_blocks) (defBody s_are_blocks) (defScope s_are_blocks) .none kV14 dc14 pm14 an14 cd14 ct14), sl14⟩)
    (c14 : PySem.W.codeIn K cd14 "are_blocks" = true)
    (k14 : PySem.W.keepIn K (.ref f14) = true)
    (l41 : K.lookup f41 = some ⟨oc41, od41, .func (PySem.W.fnOf "wrong_single_part" "wrong_single_part" (defArgs s_wrong_single_part) (defBody s_wrong_single_part) (defScope s_wrong_single_part) .none kV41 dc41 pm41 an41 cd41 ct41), sl41⟩)
    (c41 : PySem.W.codeIn K cd41 "wrong_single_part" = true)
    (k41 : PySem.W.keepIn K (.ref f41) = true)
    (l47 : K.lookup f47 = some ⟨oc47, od47, .func (PySem.W.fnOf "_law_part" "_law_part" (defArgs s_law_part) (defBody s_law_part) (defScope s_law_part) .none kV47 dc47 pm47 an47 cd47 ct47), sl47⟩)
    (c47 : PySem.W.codeIn K cd47 "_law_part" = true)
    (k47 : PySem.W.keepIn K (.ref f47) = true)
    (l50 : K.lookup f50 = some ⟨oc50, od50, .func (PySem.W.fnOf "_law_parts_right" "_law_parts_right" (defArgs s_law_parts_right) (defBody s_law_parts_right) (defScope s_law_parts_right) .none kV50 dc50 pm50 an50 cd50 ct50), sl50⟩)
    (c50 : PySem.W.codeIn K cd50 "_law_parts_right" = true)
    (k50 : PySem.W.keepIn K (.ref f50) = true)
    (l51 : K.lookup f51 = some ⟨oc51, od51, .func (PySem.W.fnOf "_law_uses_right" "_law_uses_right" (defArgs s_law_uses_right) (defBody s_law_uses_right) (defScope s_law_uses_right) .none kV51 dc51 pm51 an51 cd51 ct51), sl51⟩)
    (c51 : PySem.W.codeIn K cd51 "_law_uses_right" = true)
    (k51 : PySem.W.keepIn K (.ref f51) = true)
    (l49 : K.lookup f49 = some ⟨oc49, od49, .func (PySem.W.fnOf "_law_word" "_law_word" (defArgs s_law_word) (defBody s_law_word) (defScope s_law_word) .none kV49 dc49 pm49 an49 cd49 ct49), sl49⟩)
    (c49 : PySem.W.codeIn K cd49 "_law_word" = true)
    (k49 : PySem.W.keepIn K (.ref f49) = true)
    (zb_ValueError : PySem.W.nsIn K mainGlobals "ValueError" = some none)
    (zb_all : PySem.W.nsIn K mainGlobals "all" = some none)
    (zb_bool : PySem.W.nsIn K mainGlobals "bool" = some none)
    (zb_enumerate : PySem.W.nsIn K mainGlobals "enumerate" = some none)
    (zb_int : PySem.W.nsIn K mainGlobals "int" = some none)
    (zb_isinstance : PySem.W.nsIn K mainGlobals "isinstance" = some none)
    (zb_len : PySem.W.nsIn K mainGlobals "len" = some none)
    (zb_list : PySem.W.nsIn K mainGlobals "list" = some none)
    (zb_range : PySem.W.nsIn K mainGlobals "range" = some none)
    (zb_sorted : PySem.W.nsIn K mainGlobals "sorted" = some none)
    (zb_str : PySem.W.nsIn K mainGlobals "str" = some none)
    (zb_tuple : PySem.W.nsIn K mainGlobals "tuple" = some none)
    (zb_zip : PySem.W.nsIn K mainGlobals "zip" = some none)
    (zk_MOST_BLOCKS : PySem.W.nsIn K mainGlobals "MOST_BLOCKS" = some (some (.int (16) t_MOST_BLOCKS)))
    (zk_MOST_HANDED : PySem.W.nsIn K mainGlobals "MOST_HANDED" = some (some (.int (3) t_MOST_HANDED)))
    (zk_MOST_ROWS : PySem.W.nsIn K mainGlobals "MOST_ROWS" = some (some (.int (24) t_MOST_ROWS)))
    (zk_MOST_SINGLE : PySem.W.nsIn K mainGlobals "MOST_SINGLE" = some (some (.int (48) t_MOST_SINGLE)))
    (zk_MOST_SPAN : PySem.W.nsIn K mainGlobals "MOST_SPAN" = some (some (.int (8) t_MOST_SPAN)))
    (i28 : PySem.W.isFn K (.ref f28) = true)
    (l28 : K.lookup f28 = some ⟨oc28, od28, .func (PySem.W.fnOf "__init__" "Single.__init__" (defArgs s_Single___init__) (defBody s_Single___init__) (defScope s_Single___init__) .none (.ref D28) dc28 pm28 an28 cd28 ct28), sl28⟩)
    (c28 : PySem.W.codeIn K cd28 "Single.__init__" = true)
    (k28 : PySem.W.keepIn K (.ref f28) = true)
    (mk4 : PySem.W.makesIn K C4 = true)
    (kc4 : PySem.W.keepIn K (.ref C4) = true)
    (kd28_0 : PySem.W.nsIn K D28 "span" = some (some (.int (4) td28_0)))
    (pg4 : PySem.W.plainGet K C4 Str.empty = true)
    (hd4 : PySem.W.hasDictIn K C4 = true)
    (po4 : PySem.W.plainOver K C4 = true)
    (sa4 : PySem.W.findIn K (.ref C4) "__setattr__" = some (some (.builtin "object.__setattr__")))
    (n4__definitions : PySem.W.findIn K (.ref C4) "_definitions" = some none)
    (n4__without : PySem.W.findIn K (.ref C4) "_without" = some none)
    (n4_blocks : PySem.W.findIn K (.ref C4) "blocks" = some none)
    (n4_handed : PySem.W.findIn K (.ref C4) "handed" = some none)
    (n4_many : PySem.W.findIn K (.ref C4) "many" = some none)
    (n4_span : PySem.W.findIn K (.ref C4) "span" = some none)
    (icl1 : (PySem.W.clsIn K C1).isSome = true)
    (ga1 : PySem.W.findIn K (.ref C1) "__getattribute__" = some (some (.builtin "BaseException.__getattribute__")))
    (gt1 : PySem.W.findIn K (.ref C1) "__getattr__" = some none)
    (ex1 : PySem.W.subIn K (.ref C1) (.type "BaseException") = some true)
    (ca1 : PySem.W.findIn K (.ref C1) "__class__" = some (some (.builtin "object.__class__")))
    (spc : PySem.W.specialIn K (.builtin "object.__class__") "__get__" = some (some (.builtin "getset_descriptor.__get__")))
    (tkc : PySem.W.takesIn K (.builtin "object.__class__") = some true)
    (mo1 : PySem.W.mroIn K C1 (.type "object") = some true)
    (hd1 : PySem.W.hasDictIn K C1 = true)
    (np1 : PySem.W.findIn K (.ref C1) "part" = some none)
    (tr0_BadSingle : PySem.W.exmOne K (.ref C1) (.ref C1) = some true)
    (tr1_BadSingle : PySem.W.kitOne K (.ref C1) (.type "ValueError") = some true)
    (tr2_BadSingle : PySem.W.kitOne K (.ref C1) (.ref C0) = some true)
    (em2 : PySem.W.excIn K C2 PySem.HandSPX.veTail "ValueError.__new__" = true)
    (kx2 : PySem.W.keepIn K (.ref C2) = true)
    (ex2 : PySem.W.subIn K (.ref C2) (.type "BaseException") = some true)
    (ty2 : PySem.W.typeIn K (.ref C2) = some (.type "type"))
    (em3 : PySem.W.excIn K C3 PySem.HandSPX.veTail "ValueError.__new__" = true)
    (kx3 : PySem.W.keepIn K (.ref C3) = true)
    (ex3 : PySem.W.subIn K (.ref C3) (.type "BaseException") = some true)
    (ty3 : PySem.W.typeIn K (.ref C3) = some (.type "type"))
    (i39 : PySem.W.isFn K (.ref f39) = true)
    (i36 : PySem.W.isFn K (.ref f36) = true)
    (i38 : PySem.W.isFn K (.ref f38) = true)
    (i33 : PySem.W.isFn K (.ref f33) = true)
    (pgt37 : PySem.W.specialIn K (.ref p37) "__get__" = some (some (.builtin "property.__get__")))
    (ptk37 : PySem.W.takesIn K (.ref p37) = some true)
    (i29 : PySem.W.isFn K (.ref f29) = true)
    (ne4 : PySem.W.findIn K (.ref C4) "__ne__" = some (some (.builtin "object.__ne__")))
    (mo4 : PySem.W.mroIn K C4 (.type "object") = some true)
    (i30 : PySem.W.isFn K (.ref f30) = true)
    (ga2 : PySem.W.findIn K (.ref C2) "__getattribute__" = some (some (.builtin "BaseException.__getattribute__")))
    (gt2 : PySem.W.findIn K (.ref C2) "__getattr__" = some none)
    (hd2 : PySem.W.hasDictIn K C2 = true)
    (ca2 : PySem.W.findIn K (.ref C2) "__class__" = some (some (.builtin "object.__class__")))
    (mo2 : PySem.W.mroIn K C2 (.type "object") = some true)
    (wd0_BadBlock : PySem.W.exmOne K (.ref C2) (.ref C0) = some true)
    (wd1_BadBlock : PySem.W.kitOne K (.ref C2) (.ref C2) = some true)
    (wd2_BadBlock : PySem.W.kitOne K (.ref C2) (.ref C3) = some false)
    (ga3 : PySem.W.findIn K (.ref C3) "__getattribute__" = some (some (.builtin "BaseException.__getattribute__")))
    (gt3 : PySem.W.findIn K (.ref C3) "__getattr__" = some none)
    (hd3 : PySem.W.hasDictIn K C3 = true)
    (ca3 : PySem.W.findIn K (.ref C3) "__class__" = some (some (.builtin "object.__class__")))
    (mo3 : PySem.W.mroIn K C3 (.type "object") = some true)
    (wd0_BadVariable : PySem.W.exmOne K (.ref C3) (.ref C0) = some true)
    (wd1_BadVariable : PySem.W.kitOne K (.ref C3) (.ref C2) = some false)
    (wd2_BadVariable : PySem.W.kitOne K (.ref C3) (.ref C3) = some true)
    (kt4_NoneType : PySem.W.kitOne K (.type "NoneType") (.ref C4) = some false)
    (kt4_bool : PySem.W.kitOne K (.type "bool") (.ref C4) = some false)
    (kt4_int : PySem.W.kitOne K (.type "int") (.ref C4) = some false)
    (kt4_str : PySem.W.kitOne K (.type "str") (.ref C4) = some false)
    (kt4_tuple : PySem.W.kitOne K (.type "tuple") (.ref C4) = some false)
    (kt4_list : PySem.W.kitOne K (.type "list") (.ref C4) = some false)
    (kt4_dict : PySem.W.kitOne K (.type "dict") (.ref C4) = some false)
    (ca4 : PySem.W.findIn K (.ref C4) "__class__" = some (some (.builtin "object.__class__")))
    (kk4_4 : PySem.W.kitOne K (.ref C4) (.ref C4) = some true)
    (xL1 : K.lookup C1 = some (excClassObj nm1 qn1 C1 N1 bs1 [.ref B1, .type "ValueError", .type "Exception", .type "BaseException", .type "object"] true sn1 sub1 ab1 col1 dd1 m0_1 m1_1 m2_1 m3_1 m5_1 "ValueError.__new__"))
    (sx1 : PySem.W.findIn K (.ref C1) "__setattr__" = some (some (.builtin "object.__setattr__")))
    (iC1 : PySem.W.findIn K (.ref C1) "__init__" = some (some (.ref fI1)))
    (tI1 : PySem.W.typeIn K (.ref fI1) = some (.type "function"))
    (kx1 : PySem.W.keepIn K (.ref C1) = true)
    (ty1 : PySem.W.typeIn K (.ref C1) = some (.type "type"))
    (sv1 : PySem.W.subIn K (.ref C1) (.type "ValueError") = some true)
    (su1 : PySem.W.ks_superIn K C1 C1 "__init__" = some (some (.builtin "ValueError.__init__")))
    (mc1 : PySem.W.mroIn K C1 (.ref C1) = some true)
    (opq : PySem.W.nsIn K cStatics "thirdparty.any" = some none)
    (zsup : PySem.W.nsIn K mainGlobals "super" = some none)
    (lI1 : K.lookup fI1 = some ⟨ocI1, odI1, .func (PySem.W.ksFn "__init__" "BadSingle.__init__" (VX.iA ps_BadSingle) (VX.iB "this is no single program, part: " ps_BadSingle) VX.iS (.ref T1) kVI1 dcI1 pmI1 anI1 (.ref cda1) ctI1 cc1), slI1⟩)
    (cI1 : PySem.W.codeIn K (.ref cda1) "BadSingle.__init__" = true)
    (lc1 : K.lookup cda1 = some ⟨ccl1, cdd1, .fields vs1, ccs1⟩)
    (hv1 : vs1[2]? = some (.str file1 tf1))
    (hf1 : ((P.main.file : Str) == file1) = true)
    (le1 : K.lookup cc1 = some ⟨cel1, cld1, .cell (some (.ref C1)), csl1⟩)
    (lT1 : K.lookup T1 = some oT1)
    (oT1' : oT1.data = .seq #[Value.none] nT1)
    (htop : (P.main.scope.names.lookup ("super" : Str)).isSome = false)
    (at_ENDS : PySem.W.nsIn K mainGlobals "ENDS" = some (some (.ref d_ENDS)))
    (lt_ENDS : K.lookup d_ENDS = some ⟨.type "dict", none, .dict es_ENDS n_ENDS, #[]⟩)
    (kl_ENDS : PySem.W.KeysLit w.params es_ENDS.toList)
    (lo_ENDS : (d_ENDS == sysModules) = false)
    (ok_ENDS : tabOk es_ENDS.toList tab_ENDS = true)
    (at_ROWS : PySem.W.nsIn K mainGlobals "ROWS" = some (some (.ref d_ROWS)))
    (lt_ROWS : K.lookup d_ROWS = some ⟨.type "dict", none, .dict es_ROWS n_ROWS, #[]⟩)
    (kl_ROWS : PySem.W.KeysLit w.params es_ROWS.toList)
    (lo_ROWS : (d_ROWS == sysModules) = false)
    (ok_ROWS : tabOk es_ROWS.toList tab_ROWS = true)
    (lLaw : K.lookup f52 = some ⟨oc52, od52, .func (PySem.W.fnOf "law" "law" (defArgs s_law) (defBody s_law) (defScope s_law) .none kV52 dc52 pm52 an52 (.ref cL) ct52), sl52⟩)
    (cLaw : PySem.W.codeIn K (.ref cL) "law" = true)
    (nLaw : K.lookup PtL = none)
    (hLaw : PySem.W.codeHdIn K cL PtL = true) :
    Txt P w K mg (fun i => match i with | 2 => f2 | 3 => f3 | 4 => f4 | 5 => f5 | 6 => f6 | 7 => f7 | 8 => f8 | 9 => f9 | 10 => f10 | 11 => f11 | 12 => f12 | 13 => f13 | 14 => f14 | 15 => f15 | 16 => f16 | 17 => f17 | 18 => f18 | 19 => f19 | 20 => f20 | 21 => f21 | 22 => f22 | 23 => f23 | 24 => f24 | 25 => f25 | 26 => f26 | 27 => f27 | 28 => f28 | 29 => f29 | 30 => f30 | 33 => f33 | 36 => f36 | 37 => f37 | 38 => f38 | 39 => f39 | 41 => f41 | 42 => f42 | 43 => f43 | 44 => f44 | 45 => f45 | 46 => f46 | 47 => f47 | 48 => f48 | 49 => f49 | 50 => f50 | 51 => f51 | 52 => f52 | _ => 0) (fun i => match i with | 0 => C0 | 1 => C1 | 2 => C2 | 3 => C3 | 4 => C4 | _ => 0) ∧ mg "law" = some (.ref f52) ∧ K.lookup f52 = some ⟨oc52, od52, .func (PySem.W.fnOf "law" "law" (defArgs s_law) (defBody s_law) (defScope s_law) .none kV52 dc52 pm52 an52 (.ref cL) ct52), sl52⟩ ∧ PySem.W.codeIn K (.ref cL) "law" = true ∧ K.lookup PtL = none ∧ PySem.W.codeHdIn K cL PtL = true := ⟨{
  d_is_whole := ⟨⟨_, fun_mk (st := s_is_whole) l2 c2 k2, (fun_mk (st := s_is_whole) l2 c2 k2).binds (ps := ["thing"]) fun _ _ _ _ _ _ us hl => match us, hl with | [_], _ => rfl⟩⟩
  d_is_integer := ⟨⟨_, fun_mk (st := s_is_integer) l3 c3 k3, (fun_mk (st := s_is_integer) l3 c3 k3).binds (ps := ["thing", "low", "top"]) fun _ _ _ _ _ _ us hl => match us, hl with | [_, _, _], _ => rfl⟩⟩
  d_are_integers := ⟨⟨_, fun_mk (st := s_are_integers) l4 c4 k4, (fun_mk (st := s_are_integers) l4 c4 k4).binds (ps := ["things", "low", "top"]) fun _ _ _ _ _ _ us hl => match us, hl with | [_, _, _], _ => rfl⟩⟩
  d_has_word := ⟨⟨_, fun_mk (st := s_has_word) l7 c7 k7, (fun_mk (st := s_has_word) l7 c7 k7).binds (ps := ["line"]) fun _ _ _ _ _ _ us hl => match us, hl with | [_], _ => rfl⟩⟩
  d_may_stand := ⟨⟨_, fun_mk (st := s_may_stand) l9 c9 k9, (fun_mk (st := s_may_stand) l9 c9 k9).binds (ps := ["number", "place", "many", "span", "count"]) fun _ _ _ _ _ _ us hl => match us, hl with | [_, _, _, _, _], _ => rfl⟩⟩
  d_is_join := ⟨⟨_, fun_mk (st := s_is_join) l10 c10 k10, (fun_mk (st := s_is_join) l10 c10 k10).binds (ps := ["join", "many"]) fun _ _ _ _ _ _ us hl => match us, hl with | [_, _], _ => rfl⟩⟩
  d_are_joins := ⟨⟨_, fun_mk (st := s_are_joins) l11 c11 k11, (fun_mk (st := s_are_joins) l11 c11 k11).binds (ps := ["joins", "many"]) fun _ _ _ _ _ _ us hl => match us, hl with | [_, _], _ => rfl⟩⟩
  d_all_points := ⟨⟨_, fun_mk (st := s_all_points) l15 c15 k15, (fun_mk (st := s_all_points) l15 c15 k15).binds (ps := ["blocks"]) fun _ _ _ _ _ _ us hl => match us, hl with | [_], _ => rfl⟩⟩
  d_check_block := ⟨⟨_, fun_mk (st := s_check_block) l16 c16 k16, (fun_mk (st := s_check_block) l16 c16 k16).binds (ps := ["blocks", "block"]) fun _ _ _ _ _ _ us hl => match us, hl with | [_, _], _ => rfl⟩⟩
  d_check_variable := ⟨⟨_, fun_mk (st := s_check_variable) l17 c17 k17, (fun_mk (st := s_check_variable) l17 c17 k17).binds (ps := ["many", "variable"]) fun _ _ _ _ _ _ us hl => match us, hl with | [_, _], _ => rfl⟩⟩
  d_defined_by := ⟨⟨_, fun_mk (st := s_defined_by) l18 c18 k18, (fun_mk (st := s_defined_by) l18 c18 k18).binds (ps := ["row"]) fun _ _ _ _ _ _ us hl => match us, hl with | [_], _ => rfl⟩⟩
  d_used_by := ⟨⟨_, fun_mk (st := s_used_by) l19 c19 k19, (fun_mk (st := s_used_by) l19 c19 k19).binds (ps := ["row"]) fun _ _ _ _ _ _ us hl => match us, hl with | [_], _ => rfl⟩⟩
  d_used_by_end := ⟨⟨_, fun_mk (st := s_used_by_end) l20 c20 k20, (fun_mk (st := s_used_by_end) l20 c20 k20).binds (ps := ["end"]) fun _ _ _ _ _ _ us hl => match us, hl with | [_], _ => rfl⟩⟩
  d_followers_of := ⟨⟨_, fun_mk (st := s_followers_of) l21 c21 k21, (fun_mk (st := s_followers_of) l21 c21 k21).binds (ps := ["blocks", "block"]) fun _ _ _ _ _ _ us hl => match us, hl with | [_, _], _ => rfl⟩⟩
  d_edges_of := ⟨⟨_, fun_mk (st := s_edges_of) l22 c22 k22, (fun_mk (st := s_edges_of) l22 c22 k22).binds (ps := ["blocks", "target"]) fun _ _ _ _ _ _ us hl => match us, hl with | [_, _], _ => rfl⟩⟩
  d_joins_of := ⟨⟨_, fun_mk (st := s_joins_of) l23 c23 k23, (fun_mk (st := s_joins_of) l23 c23 k23).binds (ps := ["blocks", "block"]) fun _ _ _ _ _ _ us hl => match us, hl with | [_, _], _ => rfl⟩⟩
  d_carried := ⟨⟨_, fun_mk (st := s_carried) l24 c24 k24, (fun_mk (st := s_carried) l24 c24 k24).binds (ps := ["blocks", "edge"]) fun _ _ _ _ _ _ us hl => match us, hl with | [_, _], _ => rfl⟩⟩
  d_defined_ahead := ⟨⟨_, fun_mk (st := s_defined_ahead) l25 c25 k25, (fun_mk (st := s_defined_ahead) l25 c25 k25).binds (ps := ["blocks", "point"]) fun _ _ _ _ _ _ us hl => match us, hl with | [_, _], _ => rfl⟩⟩
  d_used_behind := ⟨⟨_, fun_mk (st := s_used_behind) l26 c26 k26, (fun_mk (st := s_used_behind) l26 c26 k26).binds (ps := ["blocks", "point"]) fun _ _ _ _ _ _ us hl => match us, hl with | [_, _], _ => rfl⟩⟩
  d_reached := ⟨⟨_, fun_mk (st := s_reached) l27 c27 k27, (fun_mk (st := s_reached) l27 c27 k27).binds (ps := ["blocks", "barred"]) fun _ _ _ _ _ _ us hl => match us, hl with | [_, _], _ => rfl⟩⟩
  d_Single___eq__ := ⟨⟨_, fun_mk (st := s_Single___eq__) l29 c29 k29, (fun_mk (st := s_Single___eq__) l29 c29 k29).binds (ps := ["self", "other"]) fun _ _ _ _ _ _ us hl => match us, hl with | [_, _], _ => rfl⟩⟩
  d_Single___len__ := ⟨⟨_, fun_mk (st := s_Single___len__) l30 c30 k30, (fun_mk (st := s_Single___len__) l30 c30 k30).binds (ps := ["self"]) fun _ _ _ _ _ _ us hl => match us, hl with | [_], _ => rfl⟩⟩
  d_Single_rows := ⟨⟨_, fun_mk (st := s_Single_rows) l33 c33 k33, (fun_mk (st := s_Single_rows) l33 c33 k33).binds (ps := ["self", "block"]) fun _ _ _ _ _ _ us hl => match us, hl with | [_, _], _ => rfl⟩⟩
  d_Single_edges_into := ⟨⟨_, fun_mk (st := s_Single_edges_into) l36 c36 k36, (fun_mk (st := s_Single_edges_into) l36 c36 k36).binds (ps := ["self", "block"]) fun _ _ _ _ _ _ us hl => match us, hl with | [_, _], _ => rfl⟩⟩
  d_Single_points := ⟨⟨_, fun_mk (st := s_Single_points) l37 c37 k37, (fun_mk (st := s_Single_points) l37 c37 k37).binds (ps := ["self"]) fun _ _ _ _ _ _ us hl => match us, hl with | [_], _ => rfl⟩⟩
  d_Single_joins := ⟨⟨_, fun_mk (st := s_Single_joins) l38 c38 k38, (fun_mk (st := s_Single_joins) l38 c38 k38).binds (ps := ["self", "block"]) fun _ _ _ _ _ _ us hl => match us, hl with | [_, _], _ => rfl⟩⟩
  d_Single_definition := ⟨⟨_, fun_mk (st := s_Single_definition) l39 c39 k39, (fun_mk (st := s_Single_definition) l39 c39 k39).binds (ps := ["self", "variable"]) fun _ _ _ _ _ _ us hl => match us, hl with | [_, _], _ => rfl⟩⟩
  d_all_definitions := ⟨⟨_, fun_mk (st := s_all_definitions) l42 c42 k42, (fun_mk (st := s_all_definitions) l42 c42 k42).binds (ps := ["handed", "blocks"]) fun _ _ _ _ _ _ us hl => match us, hl with | [_, _], _ => rfl⟩⟩
  d_are_joins_full := ⟨⟨_, fun_mk (st := s_are_joins_full) l43 c43 k43, (fun_mk (st := s_are_joins_full) l43 c43 k43).binds (ps := ["blocks"]) fun _ _ _ _ _ _ us hl => match us, hl with | [_], _ => rfl⟩⟩
  d_all_without := ⟨⟨_, fun_mk (st := s_all_without) l45 c45 k45, (fun_mk (st := s_all_without) l45 c45 k45).binds (ps := ["blocks"]) fun _ _ _ _ _ _ us hl => match us, hl with | [_], _ => rfl⟩⟩
  d_is_behind := ⟨⟨_, fun_mk (st := s_is_behind) l46 c46 k46, (fun_mk (st := s_is_behind) l46 c46 k46).binds (ps := ["definition", "point", "without"]) fun _ _ _ _ _ _ us hl => match us, hl with | [_, _, _], _ => rfl⟩⟩
  d_law_loop := ⟨⟨_, fun_mk (st := s_law_loop) l48 c48 k48, (fun_mk (st := s_law_loop) l48 c48 k48).binds (ps := ["joins", "rows"]) fun _ _ _ _ _ _ us hl => match us, hl with | [_, _], _ => rfl⟩⟩
  d_fills := ⟨⟨_, fun_mk (st := s_fills) l8 c8 k8, (fun_mk (st := s_fills) l8 c8 k8).binds (ps := ["numbers", "places", "many", "span", "count"]) fun _ _ _ _ _ _ us hl => match us, hl with | [_, _, _, _, _], _ => rfl⟩⟩
  d_are_uses_behind := ⟨⟨_, fun_mk (st := s_are_uses_behind) l44 c44 k44, (fun_mk (st := s_are_uses_behind) l44 c44 k44).binds (ps := ["definitions", "blocks"]) fun _ _ _ _ _ _ us hl => match us, hl with | [_, _], _ => rfl⟩⟩
  d_is_row := ⟨⟨_, fun_mk (st := s_is_row) l5 c5 k5, (fun_mk (st := s_is_row) l5 c5 k5).binds (ps := ["row", "many", "span"]) fun _ _ _ _ _ _ us hl => match us, hl with | [_, _, _], _ => rfl⟩⟩
  d_is_end := ⟨⟨_, fun_mk (st := s_is_end) l6 c6 k6, (fun_mk (st := s_is_end) l6 c6 k6).binds (ps := ["end", "many", "count"]) fun _ _ _ _ _ _ us hl => match us, hl with | [_, _, _], _ => rfl⟩⟩
  d_are_rows := ⟨⟨_, fun_mk (st := s_are_rows) l12 c12 k12, (fun_mk (st := s_are_rows) l12 c12 k12).binds (ps := ["rows", "most", "many", "span"]) fun _ _ _ _ _ _ us hl => match us, hl with | [_, _, _, _], _ => rfl⟩⟩
  d_is_block := ⟨⟨_, fun_mk (st := s_is_block) l13 c13 k13, (fun_mk (st := s_is_block) l13 c13 k13).binds (ps := ["block", "parts", "most", "many", "span", "count"]) fun _ _ _ _ _ _ us hl => match us, hl with | [_, _, _, _, _, _], _ => rfl⟩⟩
  d_are_blocks := ⟨⟨_, fun_mk (st := s_are_blocks) l14 c14 k14, (fun_mk (st := s_are_blocks) l14 c14 k14).binds (ps := ["blocks", "parts", "most", "many", "span"]) fun _ _ _ _ _ _ us hl => match us, hl with | [_, _, _, _, _], _ => rfl⟩⟩
  d_wrong_single_part := ⟨⟨_, fun_mk (st := s_wrong_single_part) l41 c41 k41, (fun_mk (st := s_wrong_single_part) l41 c41 k41).binds (ps := ["many", "handed", "blocks", "span"]) fun _ _ _ _ _ _ us hl => match us, hl with | [_, _, _, _], _ => rfl⟩⟩
  d_law_part := ⟨⟨_, fun_mk (st := s_law_part) l47 c47 k47, (fun_mk (st := s_law_part) l47 c47 k47).binds (ps := ["many", "given", "blocks", "wide"]) fun _ _ _ _ _ _ us hl => match us, hl with | [_, _, _, _], _ => rfl⟩⟩
  d_law_parts_right := ⟨⟨_, fun_mk (st := s_law_parts_right) l50 c50 k50, (fun_mk (st := s_law_parts_right) l50 c50 k50).binds (ps := []) fun _ _ _ _ _ _ us hl => match us, hl with | [], _ => rfl⟩⟩
  d_law_uses_right := ⟨⟨_, fun_mk (st := s_law_uses_right) l51 c51 k51, (fun_mk (st := s_law_uses_right) l51 c51 k51).binds (ps := []) fun _ _ _ _ _ _ us hl => match us, hl with | [], _ => rfl⟩⟩
  d_law_word := ⟨⟨_, fun_mk (st := s_law_word) l49 c49 k49, (fun_mk (st := s_law_word) l49 c49 k49).binds (ps := ["call"]) fun _ _ _ _ _ _ us hl => match us, hl with | [_], _ => rfl⟩⟩
  g_law_loop := PySem.W.mg_of X G a48
  g_law_part := PySem.W.mg_of X G a47
  g_law_parts_right := PySem.W.mg_of X G a50
  g_law_uses_right := PySem.W.mg_of X G a51
  g_law_word := PySem.W.mg_of X G a49
  g_all_definitions := PySem.W.mg_of X G a42
  g_all_points := PySem.W.mg_of X G a15
  g_all_without := PySem.W.mg_of X G a45
  g_are_blocks := PySem.W.mg_of X G a14
  g_are_integers := PySem.W.mg_of X G a4
  g_are_joins := PySem.W.mg_of X G a11
  g_are_joins_full := PySem.W.mg_of X G a43
  g_are_rows := PySem.W.mg_of X G a12
  g_are_uses_behind := PySem.W.mg_of X G a44
  g_carried := PySem.W.mg_of X G a24
  g_check_block := PySem.W.mg_of X G a16
  g_check_variable := PySem.W.mg_of X G a17
  g_defined_ahead := PySem.W.mg_of X G a25
  g_defined_by := PySem.W.mg_of X G a18
  g_edges_of := PySem.W.mg_of X G a22
  g_fills := PySem.W.mg_of X G a8
  g_followers_of := PySem.W.mg_of X G a21
  g_has_word := PySem.W.mg_of X G a7
  g_is_behind := PySem.W.mg_of X G a46
  g_is_block := PySem.W.mg_of X G a13
  g_is_end := PySem.W.mg_of X G a6
  g_is_integer := PySem.W.mg_of X G a3
  g_is_join := PySem.W.mg_of X G a10
  g_is_row := PySem.W.mg_of X G a5
  g_is_whole := PySem.W.mg_of X G a2
  g_joins_of := PySem.W.mg_of X G a23
  g_may_stand := PySem.W.mg_of X G a9
  g_reached := PySem.W.mg_of X G a27
  g_used_behind := PySem.W.mg_of X G a26
  g_used_by := PySem.W.mg_of X G a19
  g_used_by_end := PySem.W.mg_of X G a20
  g_wrong_single_part := PySem.W.mg_of X G a41
  b_ValueError := PySem.W.mg_none_of X G zb_ValueError
  b_all := PySem.W.mg_none_of X G zb_all
  b_bool := PySem.W.mg_none_of X G zb_bool
  b_enumerate := PySem.W.mg_none_of X G zb_enumerate
  b_int := PySem.W.mg_none_of X G zb_int
  b_isinstance := PySem.W.mg_none_of X G zb_isinstance
  b_len := PySem.W.mg_none_of X G zb_len
  b_list := PySem.W.mg_none_of X G zb_list
  b_range := PySem.W.mg_none_of X G zb_range
  b_sorted := PySem.W.mg_none_of X G zb_sorted
  b_str := PySem.W.mg_none_of X G zb_str
  b_tuple := PySem.W.mg_none_of X G zb_tuple
  b_zip := PySem.W.mg_none_of X G zb_zip
  k_MOST_BLOCKS := ⟨_, PySem.W.mg_of X G zk_MOST_BLOCKS, ⟨_, rfl⟩⟩
  k_MOST_HANDED := ⟨_, PySem.W.mg_of X G zk_MOST_HANDED, ⟨_, rfl⟩⟩
  k_MOST_ROWS := ⟨_, PySem.W.mg_of X G zk_MOST_ROWS, ⟨_, rfl⟩⟩
  k_MOST_SINGLE := ⟨_, PySem.W.mg_of X G zk_MOST_SINGLE, ⟨_, rfl⟩⟩
  k_MOST_SPAN := ⟨_, PySem.W.mg_of X G zk_MOST_SPAN, ⟨_, rfl⟩⟩
  e_BadBlock := PySem.W.mg_of X G aC2
  e_BadSingle := PySem.W.mg_of X G aC1
  e_BadVariable := PySem.W.mg_of X G aC3
  e_RoomError := PySem.W.mg_of X G aC0
  i_Single := by
    have mem : ∀ q ∈ ([("span", V.int (4))] : List (Str × V)), ∃ u, PySem.W.nsIn K D28 q.1 = some (some u) ∧ RelV q.2 u := fun q hq => by
      rcases List.mem_cons.mp hq with rfl | hq
      · exact ⟨_, kd28_0, ⟨_, rfl⟩⟩
      cases hq
    have FD := (⟨⟨_, _, _, _, _, _, _, _, _, _, rfl, l28, c28, .inl ⟨rfl, rfl⟩, .inr ⟨D28, rfl, mem⟩⟩, k28⟩ : FunD K "__init__" "Single.__init__" (defArgs s_Single___init__) (defBody s_Single___init__) (defScope s_Single___init__) [] [("span", V.int (4))] f28 _)
    obtain ⟨mv1, KB1⟩ := FD.kbinds0 (ps := ["self", "many", "handed", "blocks", "span"]) 4 ["span"] [] (fun us _ ws => us ++ ws) (by intro h; cases h) (by intro q hq; cases hq) (fun r1 _ r3 => r1.append r3) (fun D doc pm an cdv ct us mv ws l1 l2 l3 => match us, mv, ws, l1, l2, l3 with | [u0, u1, u2, u3], [], [w0], _, _, _ => rfl)
    obtain ⟨mv2, KB2⟩ := FD.kbinds0 (ps := ["self", "many", "handed", "blocks", "span"]) 4 [] [("span", V.int (4))] (fun us mv _ => us ++ mv) (by intro h; cases h) (fun q hq => hq) (fun r1 r2 _ => r1.append r2) (fun D doc pm an cdv ct us mv ws l1 l2 l3 => match us, mv, ws, l1, l2, l3 with | [u0, u1, u2, u3], [w0], [], _, _, _ => ⟨_, _, _, _, _, _, rfl, rfl, rfl⟩)
    exact ⟨_, fun_mk (st := s_Single___init__) l28 c28 k28, ⟨mk4, a28, i28, kc4⟩, PySem.W.mg_of X G aC4, ⟨_, KB1⟩, ⟨_, KB2⟩⟩
  h__definitions := fun c hc => by
    rcases List.mem_cons.mp hc with rfl | hc
    · exact ⟨⟨pg4, hd4, po4, sa4⟩, n4__definitions⟩
    cases hc
  h__without := fun c hc => by
    rcases List.mem_cons.mp hc with rfl | hc
    · exact ⟨⟨pg4, hd4, po4, sa4⟩, n4__without⟩
    cases hc
  h_blocks := fun c hc => by
    rcases List.mem_cons.mp hc with rfl | hc
    · exact ⟨⟨pg4, hd4, po4, sa4⟩, n4_blocks⟩
    cases hc
  h_handed := fun c hc => by
    rcases List.mem_cons.mp hc with rfl | hc
    · exact ⟨⟨pg4, hd4, po4, sa4⟩, n4_handed⟩
    cases hc
  h_many := fun c hc => by
    rcases List.mem_cons.mp hc with rfl | hc
    · exact ⟨⟨pg4, hd4, po4, sa4⟩, n4_many⟩
    cases hc
  h_span := fun c hc => by
    rcases List.mem_cons.mp hc with rfl | hc
    · exact ⟨⟨pg4, hd4, po4, sa4⟩, n4_span⟩
    cases hc
  ek_BadSingle := ⟨icl1, ga1, gt1, ex1, ca1, spc, tkc, mo1, hd1, np1⟩
  tr_BadSingle := ⟨tr0_BadSingle, tr1_BadSingle, tr2_BadSingle⟩
  c_Single := PySem.W.mg_of X G aC4
  o_BadBlock := ⟨⟨em2, kx2, ex2, ty2⟩, PySem.W.mg_of X G aC2⟩
  o_BadVariable := ⟨⟨em3, kx3, ex3, ty3⟩, PySem.W.mg_of X G aC3⟩
  m_Single_definition := ⟨⟨pg4, hd4, po4, sa4⟩, ⟨mt39, i39, k39⟩⟩
  m_Single_edges_into := ⟨⟨pg4, hd4, po4, sa4⟩, ⟨mt36, i36, k36⟩⟩
  m_Single_joins := ⟨⟨pg4, hd4, po4, sa4⟩, ⟨mt38, i38, k38⟩⟩
  m_Single_rows := ⟨⟨pg4, hd4, po4, sa4⟩, ⟨mt33, i33, k33⟩⟩
  p_Single_points := ⟨⟨pg4, hd4, po4, sa4⟩, p37, ⟨mt37, pgt37, ptk37, _, mu37⟩⟩
  cmp_Single := ⟨mt29, i29, ne4, mo4⟩
  l_Single := ⟨mt30, i30⟩
  wd_BadBlock := ⟨⟨ga2, gt2, ex2, hd2, ca2, spc, tkc, mo2⟩, wd0_BadBlock, wd1_BadBlock, wd2_BadBlock⟩
  wd_BadVariable := ⟨⟨ga3, gt3, ex3, hd3, ca3, spc, tkc, mo3⟩, wd0_BadVariable, wd1_BadVariable, wd2_BadVariable⟩
  is_Single := is_cls (fun p hp => by
    rcases List.mem_cons.mp hp with rfl | hp
    · exact kt4_NoneType
    rcases List.mem_cons.mp hp with rfl | hp
    · exact kt4_bool
    rcases List.mem_cons.mp hp with rfl | hp
    · exact kt4_int
    rcases List.mem_cons.mp hp with rfl | hp
    · exact kt4_str
    rcases List.mem_cons.mp hp with rfl | hp
    · exact kt4_tuple
    rcases List.mem_cons.mp hp with rfl | hp
    · exact kt4_list
    rcases List.mem_cons.mp hp with rfl | hp
    · exact kt4_dict
    cases hp) (fun p hp => by
    rcases List.mem_cons.mp hp with rfl | hp
    · exact ⟨⟨⟨pg4, hd4, po4, sa4⟩, ca4, spc, tkc, mo4, kk4_4⟩, kk4_4⟩
    cases hp)
  x_BadSingle := by
    obtain ⟨pl, hpl⟩ : ∃ pl, VX.MCall "this is no single program, part: " ps_BadSingle pl := ⟨pure false, fun _ => by rfl⟩
    refine ⟨fI1, _, ⟨⟨nm1, qn1, N1, bs1, _, sn1, sub1, ab1, col1, dd1, m0_1, m1_1, m2_1, m3_1, m5_1, xL1, rfl⟩, sx1, np1, iC1, tI1, kx1, ex1, ty1, sv1, su1, mc1, opq, PySem.W.mg_none_of X G zsup, htop,
      ⟨_, _, _, _, _, _, _, _, _, _, _, _, _, _, _, _, _, _, _, _, _, _, _, pl, hpl, rfl, lI1, cI1, lc1, hv1, hf1, le1, by decide⟩⟩, fun s a u Y => ?_, PySem.W.mg_of X G aC1⟩
    refine BindsTo.of_looks fun M => ?_
    exact looks_items (k := _) Y lT1 oT1' (.of_pure rfl)
  t_ENDS := ⟨_, _, _, PySem.W.mg_of X G at_ENDS, ⟨lt_ENDS, kl_ENDS, lo_ENDS⟩, ⟨lt_ENDS, ok_ENDS⟩⟩
  t_ROWS := ⟨_, _, _, PySem.W.mg_of X G at_ROWS, ⟨lt_ROWS, kl_ROWS, lo_ROWS⟩, ⟨lt_ROWS, ok_ROWS⟩⟩
  }, PySem.W.mg_of X G aLaw, lLaw, cLaw, nLaw, hLaw⟩
set_option maxRecDepth 1000000 in
set_option maxHeartbeats 0 in
theorem law_trueL (ns : List Int) : (match m_lawL (rho_law ns) with | some (.ok (.ret (.val (.bl true))), _) => true | _ => false) = true := by kernel_rfl
theorem head_mk {l : PySem.W.OpenLaw} {w : World} {K : PySem.W.Frag} {mg : Str → Option Value} {h : Heap} {fn cl : Nat → Addr} {fa cL PtL : Addr} {od an : Option Addr} {sl : Array (Option Value)} {oc kV dc pm ct : Value} (KX : K.In h) (hT : h.get? PtL = some (PySem.W.tabObj #[])) (hfa : mg "law" = some (.ref fa))
    (TT : Txt l.prog w K mg fn cl ∧ mg "law" = some (.ref (fn 52)) ∧ K.lookup (fn 52) = some ⟨oc, od, .func (PySem.W.fnOf "law" "law" (defArgs s_law) (defBody s_law) (defScope s_law) .none kV dc pm an (.ref cL) ct), sl⟩ ∧ PySem.W.codeIn K (.ref cL) "law" = true ∧ K.lookup PtL = none ∧ PySem.W.codeHdIn K cL PtL = true) :
    LamX.LawAtS l w K CX0 20 63 "script" mg fa h := by
  obtain ⟨T, hl, lk, hcd, nT, hd⟩ := TT
  have e := hfa.symm.trans hl
  cases e
  refine ⟨_, [(cL, PtL)], spLawL K PtL, fun p hp => ?_, fun p hp => ?_, fun p hp => ?_, fun s u => .of_eq rfl, fun H a ns _ _ hH hS => ⟨a, ns, rfl, hS, hH _ List.mem_cons_self, law_trueL ns, fun _ => rfl⟩, fun base _ _ TB => ok_lawL (base := base) T (TB _ List.mem_cons_self) lk hcd⟩
  · rw [List.mem_singleton.mp hp]
    exact hT
  · rw [List.mem_singleton.mp hp]
    exact nT
  · rw [List.mem_singleton.mp hp]
    exact PySem.W.codeHd_of_K KX hd
end VG
open PySem PySem.W PyProof.Rows in
set_option maxRecDepth 100000 in
set_option maxHeartbeats 0 in
theorem PySem.Challenge.cw_registerrooms_k15_whole_refused_single_holds : PySem.Challenge.rw_registerrooms_k15_whole_refused_single.Holds := by
  w_on; o_law; k_head; (case hw => w_witness2)
  k_fill
  refine LamX.walk_ofTs (l := PySem.Challenge.rw_registerrooms_k15_whole_refused_single) (n := 63) (k := 20) (x := "script") (CX := fun _ => L2.CX0) rfl (by decide) rfl ⟨rfl, by decide, by decide⟩ (fun w h Y => PySem.W.km_in_of Y) ?F (fun _ _ _ _ _ z => z)
  case F =>
    intro w mg fa h Y KX G hmg
    refine' VG.head_mk KX (PySem.W.km_tabs_of Y _ List.mem_cons_self) hmg (VG.all_txt KX G ?a2 ?a3 ?a4 ?a7 ?a9 ?a10 ?a11 ?a15 ?a16 ?a17 ?a18 ?a19 ?a20 ?a21 ?a22 ?a23 ?a24 ?a25 ?a26 ?a27 ?a42 ?a43 ?a45 ?a46 ?a48 ?a8 ?a44 ?a5 ?a6 ?a12 ?a13 ?a14 ?a41 ?a47 ?a50 ?a51 ?a49 ?aC2 ?aC1 ?aC3 ?aC0 ?aC4 ?a28 ?aLaw ?mt39 ?mt36 ?mt38 ?mt33 ?mt37 ?mt29 ?mt30 ?mu37 ?l2 ?c2 ?k2 ?l3 ?c3 ?k3 ?l4 ?c4 ?k4 ?l7 ?c7 ?k7 ?l9 ?c9 ?k9 ?l10 ?c10 ?k10 ?l11 ?c11 ?k11 ?l15 ?c15 ?k15 ?l16 ?c16 ?k16 ?l17 ?c17 ?k17 ?l18 ?c18 ?k18 ?l19 ?c19 ?k19 ?l20 ?c20 ?k20 ?l21 ?c21 ?k21 ?l22 ?c22 ?k22 ?l23 ?c23 ?k23 ?l24 ?c24 ?k24 ?l25 ?c25 ?k25 ?l26 ?c26 ?k26 ?l27 ?c27 ?k27 ?l29 ?c29 ?k29 ?l30 ?c30 ?k30 ?l33 ?c33 ?k33 ?l36 ?c36 ?k36 ?l37 ?c37 ?k37 ?l38 ?c38 ?k38 ?l39 ?c39 ?k39 ?l42 ?c42 ?k42 ?l43 ?c43 ?k43 ?l45 ?c45 ?k45 ?l46 ?c46 ?k46 ?l48 ?c48 ?k48 ?l8 ?c8 ?k8 ?l44 ?c44 ?k44 ?l5 ?c5 ?k5 ?l6 ?c6 ?k6 ?l12 ?c12 ?k12 ?l13 ?c13 ?k13 ?l14 ?c14 ?k14 ?l41 ?c41 ?k41 ?l47 ?c47 ?k47 ?l50 ?c50 ?k50 ?l51 ?c51 ?k51 ?l49 ?c49 ?k49 ?zb_ValueError ?zb_all ?zb_bool ?zb_enumerate ?zb_int ?zb_isinstance ?zb_len ?zb_list ?zb_range ?zb_sorted ?zb_str ?zb_tuple ?zb_zip ?zk_MOST_BLOCKS ?zk_MOST_HANDED ?zk_MOST_ROWS ?zk_MOST_SINGLE ?zk_MOST_SPAN ?i28 ?l28 ?c28 ?k28 ?mk4 ?kc4 ?kd28_0 ?pg4 ?hd4 ?po4 ?sa4 ?n4__definitions ?n4__without ?n4_blocks ?n4_handed ?n4_many ?n4_span ?icl1 ?ga1 ?gt1 ?ex1 ?ca1 ?spc ?tkc ?mo1 ?hd1 ?np1 ?tr0_BadSingle ?tr1_BadSingle ?tr2_BadSingle ?em2 ?kx2 ?ex2 ?ty2 ?em3 ?kx3 ?ex3 ?ty3 ?i39 ?i36 ?i38 ?i33 ?pgt37 ?ptk37 ?i29 ?ne4 ?mo4 ?i30 ?ga2 ?gt2 ?hd2 ?ca2 ?mo2 ?wd0_BadBlock ?wd1_BadBlock ?wd2_BadBlock ?ga3 ?gt3 ?hd3 ?ca3 ?mo3 ?wd0_BadVariable ?wd1_BadVariable ?wd2_BadVariable ?kt4_NoneType ?kt4_bool ?kt4_int ?kt4_str ?kt4_tuple ?kt4_list ?kt4_dict ?ca4 ?kk4_4 ?xL1 ?sx1 ?iC1 ?tI1 ?kx1 ?ty1 ?sv1 ?su1 ?mc1 ?opq ?zsup ?lI1 ?cI1 ?lc1 ?hv1 ?hf1 ?le1 ?lT1 ?oT1' ?htop ?at_ENDS ?lt_ENDS ?kl_ENDS ?lo_ENDS ?ok_ENDS ?at_ROWS ?lt_ROWS ?kl_ROWS ?lo_ROWS ?ok_ROWS ?lLaw ?cLaw ?nLaw ?hLaw)
    (case a2 => first | k_is | rfl | decide +kernel | k_exc | kernel_rfl | (repeat (first | exact True.intro | refine ⟨⟨_, _, rfl, rfl⟩, ?_⟩)))
    (case a3 => first | k_is | rfl | decide +kernel | k_exc | kernel_rfl | (repeat (first | exact True.intro | refine ⟨⟨_, _, rfl, rfl⟩, ?_⟩)))
    (case a4 => first | k_is | rfl | decide +kernel | k_exc | kernel_rfl | (repeat (first | exact True.intro | refine ⟨⟨_, _, rfl, rfl⟩, ?_⟩)))
    (case a7 => first | k_is | rfl | decide +kernel | k_exc | kernel_rfl | (repeat (first | exact True.intro | refine ⟨⟨_, _, rfl, rfl⟩, ?_⟩)))
    (case a9 => first | k_is | rfl | decide +kernel | k_exc | kernel_rfl | (repeat (first | exact True.intro | refine ⟨⟨_, _, rfl, rfl⟩, ?_⟩)))
    (case a10 => first | k_is | rfl | decide +kernel | k_exc | kernel_rfl | (repeat (first | exact True.intro | refine ⟨⟨_, _, rfl, rfl⟩, ?_⟩)))
    (case a11 => first | k_is | rfl | decide +kernel | k_exc | kernel_rfl | (repeat (first | exact True.intro | refine ⟨⟨_, _, rfl, rfl⟩, ?_⟩)))
    (case a15 => first | k_is | rfl | decide +kernel | k_exc | kernel_rfl | (repeat (first | exact True.intro | refine ⟨⟨_, _, rfl, rfl⟩, ?_⟩)))
    (case a16 => first | k_is | rfl | decide +kernel | k_exc | kernel_rfl | (repeat (first | exact True.intro | refine ⟨⟨_, _, rfl, rfl⟩, ?_⟩)))
    (case a17 => first | k_is | rfl | decide +kernel | k_exc | kernel_rfl | (repeat (first | exact True.intro | refine ⟨⟨_, _, rfl, rfl⟩, ?_⟩)))
    (case a18 => first | k_is | rfl | decide +kernel | k_exc | kernel_rfl | (repeat (first | exact True.intro | refine ⟨⟨_, _, rfl, rfl⟩, ?_⟩)))
    (case a19 => first | k_is | rfl | decide +kernel | k_exc | kernel_rfl | (repeat (first | exact True.intro | refine ⟨⟨_, _, rfl, rfl⟩, ?_⟩)))
    (case a20 => first | k_is | rfl | decide +kernel | k_exc | kernel_rfl | (repeat (first | exact True.intro | refine ⟨⟨_, _, rfl, rfl⟩, ?_⟩)))
    (case a21 => first | k_is | rfl | decide +kernel | k_exc | kernel_rfl | (repeat (first | exact True.intro | refine ⟨⟨_, _, rfl, rfl⟩, ?_⟩)))
    (case a22 => first | k_is | rfl | decide +kernel | k_exc | kernel_rfl | (repeat (first | exact True.intro | refine ⟨⟨_, _, rfl, rfl⟩, ?_⟩)))
    (case a23 => first | k_is | rfl | decide +kernel | k_exc | kernel_rfl | (repeat (first | exact True.intro | refine ⟨⟨_, _, rfl, rfl⟩, ?_⟩)))
    (case a24 => first | k_is | rfl | decide +kernel | k_exc | kernel_rfl | (repeat (first | exact True.intro | refine ⟨⟨_, _, rfl, rfl⟩, ?_⟩)))
    (case a25 => first | k_is | rfl | decide +kernel | k_exc | kernel_rfl | (repeat (first | exact True.intro | refine ⟨⟨_, _, rfl, rfl⟩, ?_⟩)))
    (case a26 => first | k_is | rfl | decide +kernel | k_exc | kernel_rfl | (repeat (first | exact True.intro | refine ⟨⟨_, _, rfl, rfl⟩, ?_⟩)))
    (case a27 => first | k_is | rfl | decide +kernel | k_exc | kernel_rfl | (repeat (first | exact True.intro | refine ⟨⟨_, _, rfl, rfl⟩, ?_⟩)))
    (case a42 => first | k_is | rfl | decide +kernel | k_exc | kernel_rfl | (repeat (first | exact True.intro | refine ⟨⟨_, _, rfl, rfl⟩, ?_⟩)))
    (case a43 => first | k_is | rfl | decide +kernel | k_exc | kernel_rfl | (repeat (first | exact True.intro | refine ⟨⟨_, _, rfl, rfl⟩, ?_⟩)))
    (case a45 => first | k_is | rfl | decide +kernel | k_exc | kernel_rfl | (repeat (first | exact True.intro | refine ⟨⟨_, _, rfl, rfl⟩, ?_⟩)))
    (case a46 => first | k_is | rfl | decide +kernel | k_exc | kernel_rfl | (repeat (first | exact True.intro | refine ⟨⟨_, _, rfl, rfl⟩, ?_⟩)))
    (case a48 => first | k_is | rfl | decide +kernel | k_exc | kernel_rfl | (repeat (first | exact True.intro | refine ⟨⟨_, _, rfl, rfl⟩, ?_⟩)))
    (case a8 => first | k_is | rfl | decide +kernel | k_exc | kernel_rfl | (repeat (first | exact True.intro | refine ⟨⟨_, _, rfl, rfl⟩, ?_⟩)))
    (case a44 => first | k_is | rfl | decide +kernel | k_exc | kernel_rfl | (repeat (first | exact True.intro | refine ⟨⟨_, _, rfl, rfl⟩, ?_⟩)))
    (case a5 => first | k_is | rfl | decide +kernel | k_exc | kernel_rfl | (repeat (first | exact True.intro | refine ⟨⟨_, _, rfl, rfl⟩, ?_⟩)))
    (case a6 => first | k_is | rfl | decide +kernel | k_exc | kernel_rfl | (repeat (first | exact True.intro | refine ⟨⟨_, _, rfl, rfl⟩, ?_⟩)))
    (case a12 => first | k_is | rfl | decide +kernel | k_exc | kernel_rfl | (repeat (first | exact True.intro | refine ⟨⟨_, _, rfl, rfl⟩, ?_⟩)))
    (case a13 => first | k_is | rfl | decide +kernel | k_exc | kernel_rfl | (repeat (first | exact True.intro | refine ⟨⟨_, _, rfl, rfl⟩, ?_⟩)))
    (case a14 => first | k_is | rfl | decide +kernel | k_exc | kernel_rfl | (repeat (first | exact True.intro | refine ⟨⟨_, _, rfl, rfl⟩, ?_⟩)))
    (case a41 => first | k_is | rfl | decide +kernel | k_exc | kernel_rfl | (repeat (first | exact True.intro | refine ⟨⟨_, _, rfl, rfl⟩, ?_⟩)))
    (case a47 => first | k_is | rfl | decide +kernel | k_exc | kernel_rfl | (repeat (first | exact True.intro | refine ⟨⟨_, _, rfl, rfl⟩, ?_⟩)))
    (case a50 => first | k_is | rfl | decide +kernel | k_exc | kernel_rfl | (repeat (first | exact True.intro | refine ⟨⟨_, _, rfl, rfl⟩, ?_⟩)))
    (case a51 => first | k_is | rfl | decide +kernel | k_exc | kernel_rfl | (repeat (first | exact True.intro | refine ⟨⟨_, _, rfl, rfl⟩, ?_⟩)))
    (case a49 => first | k_is | rfl | decide +kernel | k_exc | kernel_rfl | (repeat (first | exact True.intro | refine ⟨⟨_, _, rfl, rfl⟩, ?_⟩)))
    (case aC2 => first | k_is | rfl | decide +kernel | k_exc | kernel_rfl | (repeat (first | exact True.intro | refine ⟨⟨_, _, rfl, rfl⟩, ?_⟩)))
    (case aC1 => first | k_is | rfl | decide +kernel | k_exc | kernel_rfl | (repeat (first | exact True.intro | refine ⟨⟨_, _, rfl, rfl⟩, ?_⟩)))
    (case aC3 => first | k_is | rfl | decide +kernel | k_exc | kernel_rfl | (repeat (first | exact True.intro | refine ⟨⟨_, _, rfl, rfl⟩, ?_⟩)))
    (case aC0 => first | k_is | rfl | decide +kernel | k_exc | kernel_rfl | (repeat (first | exact True.intro | refine ⟨⟨_, _, rfl, rfl⟩, ?_⟩)))
    (case aC4 => first | k_is | rfl | decide +kernel | k_exc | kernel_rfl | (repeat (first | exact True.intro | refine ⟨⟨_, _, rfl, rfl⟩, ?_⟩)))
    (case a28 => first | k_is | rfl | decide +kernel | k_exc | kernel_rfl | (repeat (first | exact True.intro | refine ⟨⟨_, _, rfl, rfl⟩, ?_⟩)))
    (case aLaw => first | k_is | rfl | decide +kernel | k_exc | kernel_rfl | (repeat (first | exact True.intro | refine ⟨⟨_, _, rfl, rfl⟩, ?_⟩)))
    (case mt39 => first | k_is | rfl | decide +kernel | k_exc | kernel_rfl | (repeat (first | exact True.intro | refine ⟨⟨_, _, rfl, rfl⟩, ?_⟩)))
    (case mt36 => first | k_is | rfl | decide +kernel | k_exc | kernel_rfl | (repeat (first | exact True.intro | refine ⟨⟨_, _, rfl, rfl⟩, ?_⟩)))
    (case mt38 => first | k_is | rfl | decide +kernel | k_exc | kernel_rfl | (repeat (first | exact True.intro | refine ⟨⟨_, _, rfl, rfl⟩, ?_⟩)))
    (case mt33 => first | k_is | rfl | decide +kernel | k_exc | kernel_rfl | (repeat (first | exact True.intro | refine ⟨⟨_, _, rfl, rfl⟩, ?_⟩)))
    (case mt37 => first | k_is | rfl | decide +kernel | k_exc | kernel_rfl | (repeat (first | exact True.intro | refine ⟨⟨_, _, rfl, rfl⟩, ?_⟩)))
    (case mt29 => first | k_is | rfl | decide +kernel | k_exc | kernel_rfl | (repeat (first | exact True.intro | refine ⟨⟨_, _, rfl, rfl⟩, ?_⟩)))
    (case mt30 => first | k_is | rfl | decide +kernel | k_exc | kernel_rfl | (repeat (first | exact True.intro | refine ⟨⟨_, _, rfl, rfl⟩, ?_⟩)))
    (case mu37 => first | k_is | rfl | decide +kernel | k_exc | kernel_rfl | (repeat (first | exact True.intro | refine ⟨⟨_, _, rfl, rfl⟩, ?_⟩)))
    (case l2 => first | k_is | rfl | decide +kernel | k_exc | kernel_rfl | (repeat (first | exact True.intro | refine ⟨⟨_, _, rfl, rfl⟩, ?_⟩)))
    (case c2 => first | k_is | rfl | decide +kernel | k_exc | kernel_rfl | (repeat (first | exact True.intro | refine ⟨⟨_, _, rfl, rfl⟩, ?_⟩)))
    (case k2 => first | k_is | rfl | decide +kernel | k_exc | kernel_rfl | (repeat (first | exact True.intro | refine ⟨⟨_, _, rfl, rfl⟩, ?_⟩)))
    (case l3 => first | k_is | rfl | decide +kernel | k_exc | kernel_rfl | (repeat (first | exact True.intro | refine ⟨⟨_, _, rfl, rfl⟩, ?_⟩)))
    (case c3 => first | k_is | rfl | decide +kernel | k_exc | kernel_rfl | (repeat (first | exact True.intro | refine ⟨⟨_, _, rfl, rfl⟩, ?_⟩)))
    (case k3 => first | k_is | rfl | decide +kernel | k_exc | kernel_rfl | (repeat (first | exact True.intro | refine ⟨⟨_, _, rfl, rfl⟩, ?_⟩)))
    (case l4 => first | k_is | rfl | decide +kernel | k_exc | kernel_rfl | (repeat (first | exact True.intro | refine ⟨⟨_, _, rfl, rfl⟩, ?_⟩)))
    (case c4 => first | k_is | rfl | decide +kernel | k_exc | kernel_rfl | (repeat (first | exact True.intro | refine ⟨⟨_, _, rfl, rfl⟩, ?_⟩)))
    (case k4 => first | k_is | rfl | decide +kernel | k_exc | kernel_rfl | (repeat (first | exact True.intro | refine ⟨⟨_, _, rfl, rfl⟩, ?_⟩)))
    (case l7 => first | k_is | rfl | decide +kernel | k_exc | kernel_rfl | (repeat (first | exact True.intro | refine ⟨⟨_, _, rfl, rfl⟩, ?_⟩)))
    (case c7 => first | k_is | rfl | decide +kernel | k_exc | kernel_rfl | (repeat (first | exact True.intro | refine ⟨⟨_, _, rfl, rfl⟩, ?_⟩)))
    (case k7 => first | k_is | rfl | decide +kernel | k_exc | kernel_rfl | (repeat (first | exact True.intro | refine ⟨⟨_, _, rfl, rfl⟩, ?_⟩)))
    (case l9 => first | k_is | rfl | decide +kernel | k_exc | kernel_rfl | (repeat (first | exact True.intro | refine ⟨⟨_, _, rfl, rfl⟩, ?_⟩)))
    (case c9 => first | k_is | rfl | decide +kernel | k_exc | kernel_rfl | (repeat (first | exact True.intro | refine ⟨⟨_, _, rfl, rfl⟩, ?_⟩)))
    (case k9 => first | k_is | rfl | decide +kernel | k_exc | kernel_rfl | (repeat (first | exact True.intro | refine ⟨⟨_, _, rfl, rfl⟩, ?_⟩)))
    (case l10 => first | k_is | rfl | decide +kernel | k_exc | kernel_rfl | (repeat (first | exact True.intro | refine ⟨⟨_, _, rfl, rfl⟩, ?_⟩)))
    (case c10 => first | k_is | rfl | decide +kernel | k_exc | kernel_rfl | (repeat (first | exact True.intro | refine ⟨⟨_, _, rfl, rfl⟩, ?_⟩)))
    (case k10 => first | k_is | rfl | decide +kernel | k_exc | kernel_rfl | (repeat (first | exact True.intro | refine ⟨⟨_, _, rfl, rfl⟩, ?_⟩)))
    (case l11 => first | k_is | rfl | decide +kernel | k_exc | kernel_rfl | (repeat (first | exact True.intro | refine ⟨⟨_, _, rfl, rfl⟩, ?_⟩)))
    (case c11 => first | k_is | rfl | decide +kernel | k_exc | kernel_rfl | (repeat (first | exact True.intro | refine ⟨⟨_, _, rfl, rfl⟩, ?_⟩)))
    (case k11 => first | k_is | rfl | decide +kernel | k_exc | kernel_rfl | (repeat (first | exact True.intro | refine ⟨⟨_, _, rfl, rfl⟩, ?_⟩)))
    (case l15 => first | k_is | rfl | decide +kernel | k_exc | kernel_rfl | (repeat (first | exact True.intro | refine ⟨⟨_, _, rfl, rfl⟩, ?_⟩)))
    (case c15 => first | k_is | rfl | decide +kernel | k_exc | kernel_rfl | (repeat (first | exact True.intro | refine ⟨⟨_, _, rfl, rfl⟩, ?_⟩)))
    (case k15 => first | k_is | rfl | decide +kernel | k_exc | kernel_rfl | (repeat (first | exact True.intro | refine ⟨⟨_, _, rfl, rfl⟩, ?_⟩)))
    (case l16 => first | k_is | rfl | decide +kernel | k_exc | kernel_rfl | (repeat (first | exact True.intro | refine ⟨⟨_, _, rfl, rfl⟩, ?_⟩)))
    (case c16 => first | k_is | rfl | decide +kernel | k_exc | kernel_rfl | (repeat (first | exact True.intro | refine ⟨⟨_, _, rfl, rfl⟩, ?_⟩)))
    (case k16 => first | k_is | rfl | decide +kernel | k_exc | kernel_rfl | (repeat (first | exact True.intro | refine ⟨⟨_, _, rfl, rfl⟩, ?_⟩)))
    (case l17 => first | k_is | rfl | decide +kernel | k_exc | kernel_rfl | (repeat (first | exact True.intro | refine ⟨⟨_, _, rfl, rfl⟩, ?_⟩)))
    (case c17 => first | k_is | rfl | decide +kernel | k_exc | kernel_rfl | (repeat (first | exact True.intro | refine ⟨⟨_, _, rfl, rfl⟩, ?_⟩)))
    (case k17 => first | k_is | rfl | decide +kernel | k_exc | kernel_rfl | (repeat (first | exact True.intro | refine ⟨⟨_, _, rfl, rfl⟩, ?_⟩)))
    (case l18 => first | k_is | rfl | decide +kernel | k_exc | kernel_rfl | (repeat (first | exact True.intro | refine ⟨⟨_, _, rfl, rfl⟩, ?_⟩)))
    (case c18 => first | k_is | rfl | decide +kernel | k_exc | kernel_rfl | (repeat (first | exact True.intro | refine ⟨⟨_, _, rfl, rfl⟩, ?_⟩)))
    (case k18 => first | k_is | rfl | decide +kernel | k_exc | kernel_rfl | (repeat (first | exact True.intro | refine ⟨⟨_, _, rfl, rfl⟩, ?_⟩)))
    (case l19 => first | k_is | rfl | decide +kernel | k_exc | kernel_rfl | (repeat (first | exact True.intro | refine ⟨⟨_, _, rfl, rfl⟩, ?_⟩)))
    (case c19 => first | k_is | rfl | decide +kernel | k_exc | kernel_rfl | (repeat (first | exact True.intro | refine ⟨⟨_, _, rfl, rfl⟩, ?_⟩)))
    (case k19 => first | k_is | rfl | decide +kernel | k_exc | kernel_rfl | (repeat (first | exact True.intro | refine ⟨⟨_, _, rfl, rfl⟩, ?_⟩)))
    (case l20 => first | k_is | rfl | decide +kernel | k_exc | kernel_rfl | (repeat (first | exact True.intro | refine ⟨⟨_, _, rfl, rfl⟩, ?_⟩)))
    (case c20 => first | k_is | rfl | decide +kernel | k_exc | kernel_rfl | (repeat (first | exact True.intro | refine ⟨⟨_, _, rfl, rfl⟩, ?_⟩)))
    (case k20 => first | k_is | rfl | decide +kernel | k_exc | kernel_rfl | (repeat (first | exact True.intro | refine ⟨⟨_, _, rfl, rfl⟩, ?_⟩)))
    (case l21 => first | k_is | rfl | decide +kernel | k_exc | kernel_rfl | (repeat (first | exact True.intro | refine ⟨⟨_, _, rfl, rfl⟩, ?_⟩)))
    (case c21 => first | k_is | rfl | decide +kernel | k_exc | kernel_rfl | (repeat (first | exact True.intro | refine ⟨⟨_, _, rfl, rfl⟩, ?_⟩)))
    (case k21 => first | k_is | rfl | decide +kernel | k_exc | kernel_rfl | (repeat (first | exact True.intro | refine ⟨⟨_, _, rfl, rfl⟩, ?_⟩)))
    (case l22 => first | k_is | rfl | decide +kernel | k_exc | kernel_rfl | (repeat (first | exact True.intro | refine ⟨⟨_, _, rfl, rfl⟩, ?_⟩)))
    (case c22 => first | k_is | rfl | decide +kernel | k_exc | kernel_rfl | (repeat (first | exact True.intro | refine ⟨⟨_, _, rfl, rfl⟩, ?_⟩)))
    (case k22 => first | k_is | rfl | decide +kernel | k_exc | kernel_rfl | (repeat (first | exact True.intro | refine ⟨⟨_, _, rfl, rfl⟩, ?_⟩)))
    (case l23 => first | k_is | rfl | decide +kernel | k_exc | kernel_rfl | (repeat (first | exact True.intro | refine ⟨⟨_, _, rfl, rfl⟩, ?_⟩)))
    (case c23 => first | k_is | rfl | decide +kernel | k_exc | kernel_rfl | (repeat (first | exact True.intro | refine ⟨⟨_, _, rfl, rfl⟩, ?_⟩)))
    (case k23 => first | k_is | rfl | decide +kernel | k_exc | kernel_rfl | (repeat (first | exact True.intro | refine ⟨⟨_, _, rfl, rfl⟩, ?_⟩)))
    (case l24 => first | k_is | rfl | decide +kernel | k_exc | kernel_rfl | (repeat (first | exact True.intro | refine ⟨⟨_, _, rfl, rfl⟩, ?_⟩)))
    (case c24 => first | k_is | rfl | decide +kernel | k_exc | kernel_rfl | (repeat (first | exact True.intro | refine ⟨⟨_, _, rfl, rfl⟩, ?_⟩)))
    (case k24 => first | k_is | rfl | decide +kernel | k_exc | kernel_rfl | (repeat (first | exact True.intro | refine ⟨⟨_, _, rfl, rfl⟩, ?_⟩)))
    (case l25 => first | k_is | rfl | decide +kernel | k_exc | kernel_rfl | (repeat (first | exact True.intro | refine ⟨⟨_, _, rfl, rfl⟩, ?_⟩)))
    (case c25 => first | k_is | rfl | decide +kernel | k_exc | kernel_rfl | (repeat (first | exact True.intro | refine ⟨⟨_, _, rfl, rfl⟩, ?_⟩)))
    (case k25 => first | k_is | rfl | decide +kernel | k_exc | kernel_rfl | (repeat (first | exact True.intro | refine ⟨⟨_, _, rfl, rfl⟩, ?_⟩)))
    (case l26 => first | k_is | rfl | decide +kernel | k_exc | kernel_rfl | (repeat (first | exact True.intro | refine ⟨⟨_, _, rfl, rfl⟩, ?_⟩)))
    (case c26 => first | k_is | rfl | decide +kernel | k_exc | kernel_rfl | (repeat (first | exact True.intro | refine ⟨⟨_, _, rfl, rfl⟩, ?_⟩)))
    (case k26 => first | k_is | rfl | decide +kernel | k_exc | kernel_rfl | (repeat (first | exact True.intro | refine ⟨⟨_, _, rfl, rfl⟩, ?_⟩)))
    (case l27 => first | k_is | rfl | decide +kernel | k_exc | kernel_rfl | (repeat (first | exact True.intro | refine ⟨⟨_, _, rfl, rfl⟩, ?_⟩)))
    (case c27 => first | k_is | rfl | decide +kernel | k_exc | kernel_rfl | (repeat (first | exact True.intro | refine ⟨⟨_, _, rfl, rfl⟩, ?_⟩)))
    (case k27 => first | k_is | rfl | decide +kernel | k_exc | kernel_rfl | (repeat (first | exact True.intro | refine ⟨⟨_, _, rfl, rfl⟩, ?_⟩)))
    (case l29 => first | k_is | rfl | decide +kernel | k_exc | kernel_rfl | (repeat (first | exact True.intro | refine ⟨⟨_, _, rfl, rfl⟩, ?_⟩)))
    (case c29 => first | k_is | rfl | decide +kernel | k_exc | kernel_rfl | (repeat (first | exact True.intro | refine ⟨⟨_, _, rfl, rfl⟩, ?_⟩)))
    (case k29 => first | k_is | rfl | decide +kernel | k_exc | kernel_rfl | (repeat (first | exact True.intro | refine ⟨⟨_, _, rfl, rfl⟩, ?_⟩)))
    (case l30 => first | k_is | rfl | decide +kernel | k_exc | kernel_rfl | (repeat (first | exact True.intro | refine ⟨⟨_, _, rfl, rfl⟩, ?_⟩)))
    (case c30 => first | k_is | rfl | decide +kernel | k_exc | kernel_rfl | (repeat (first | exact True.intro | refine ⟨⟨_, _, rfl, rfl⟩, ?_⟩)))
    (case k30 => first | k_is | rfl | decide +kernel | k_exc | kernel_rfl | (repeat (first | exact True.intro | refine ⟨⟨_, _, rfl, rfl⟩, ?_⟩)))
    (case l33 => first | k_is | rfl | decide +kernel | k_exc | kernel_rfl | (repeat (first | exact True.intro | refine ⟨⟨_, _, rfl, rfl⟩, ?_⟩)))
    (case c33 => first | k_is | rfl | decide +kernel | k_exc | kernel_rfl | (repeat (first | exact True.intro | refine ⟨⟨_, _, rfl, rfl⟩, ?_⟩)))
    (case k33 => first | k_is | rfl | decide +kernel | k_exc | kernel_rfl | (repeat (first | exact True.intro | refine ⟨⟨_, _, rfl, rfl⟩, ?_⟩)))
    (case l36 => first | k_is | rfl | decide +kernel | k_exc | kernel_rfl | (repeat (first | exact True.intro | refine ⟨⟨_, _, rfl, rfl⟩, ?_⟩)))
    (case c36 => first | k_is | rfl | decide +kernel | k_exc | kernel_rfl | (repeat (first | exact True.intro | refine ⟨⟨_, _, rfl, rfl⟩, ?_⟩)))
    (case k36 => first | k_is | rfl | decide +kernel | k_exc | kernel_rfl | (repeat (first | exact True.intro | refine ⟨⟨_, _, rfl, rfl⟩, ?_⟩)))
    (case l37 => first | k_is | rfl | decide +kernel | k_exc | kernel_rfl | (repeat (first | exact True.intro | refine ⟨⟨_, _, rfl, rfl⟩, ?_⟩)))
    (case c37 => first | k_is | rfl | decide +kernel | k_exc | kernel_rfl | (repeat (first | exact True.intro | refine ⟨⟨_, _, rfl, rfl⟩, ?_⟩)))
    (case k37 => first | k_is | rfl | decide +kernel | k_exc | kernel_rfl | (repeat (first | exact True.intro | refine ⟨⟨_, _, rfl, rfl⟩, ?_⟩)))
    (case l38 => first | k_is | rfl | decide +kernel | k_exc | kernel_rfl | (repeat (first | exact True.intro | refine ⟨⟨_, _, rfl, rfl⟩, ?_⟩)))
    (case c38 => first | k_is | rfl | decide +kernel | k_exc | kernel_rfl | (repeat (first | exact True.intro | refine ⟨⟨_, _, rfl, rfl⟩, ?_⟩)))
    (case k38 => first | k_is | rfl | decide +kernel | k_exc | kernel_rfl | (repeat (first | exact True.intro | refine ⟨⟨_, _, rfl, rfl⟩, ?_⟩)))
    (case l39 => first | k_is | rfl | decide +kernel | k_exc | kernel_rfl | (repeat (first | exact True.intro | refine ⟨⟨_, _, rfl, rfl⟩, ?_⟩)))
    (case c39 => first | k_is | rfl | decide +kernel | k_exc | kernel_rfl | (repeat (first | exact True.intro | refine ⟨⟨_, _, rfl, rfl⟩, ?_⟩)))
    (case k39 => first | k_is | rfl | decide +kernel | k_exc | kernel_rfl | (repeat (first | exact True.intro | refine ⟨⟨_, _, rfl, rfl⟩, ?_⟩)))
    (case l42 => first | k_is | rfl | decide +kernel | k_exc | kernel_rfl | (repeat (first | exact True.intro | refine ⟨⟨_, _, rfl, rfl⟩, ?_⟩)))
    (case c42 => first | k_is | rfl | decide +kernel | k_exc | kernel_rfl | (repeat (first | exact True.intro | refine ⟨⟨_, _, rfl, rfl⟩, ?_⟩)))
    (case k42 => first | k_is | rfl | decide +kernel | k_exc | kernel_rfl | (repeat (first | exact True.intro | refine ⟨⟨_, _, rfl, rfl⟩, ?_⟩)))
    (case l43 => first | k_is | rfl | decide +kernel | k_exc | kernel_rfl | (repeat (first | exact True.intro | refine ⟨⟨_, _, rfl, rfl⟩, ?_⟩)))
    (case c43 => first | k_is | rfl | decide +kernel | k_exc | kernel_rfl | (repeat (first | exact True.intro | refine ⟨⟨_, _, rfl, rfl⟩, ?_⟩)))
    (case k43 => first | k_is | rfl | decide +kernel | k_exc | kernel_rfl | (repeat (first | exact True.intro | refine ⟨⟨_, _, rfl, rfl⟩, ?_⟩)))
    (case l45 => first | k_is | rfl | decide +kernel | k_exc | kernel_rfl | (repeat (first | exact True.intro | refine ⟨⟨_, _, rfl, rfl⟩, ?_⟩)))
    (case c45 => first | k_is | rfl | decide +kernel | k_exc | kernel_rfl | (repeat (first | exact True.intro | refine ⟨⟨_, _, rfl, rfl⟩, ?_⟩)))
    (case k45 => first | k_is | rfl | decide +kernel | k_exc | kernel_rfl | (repeat (first | exact True.intro | refine ⟨⟨_, _, rfl, rfl⟩, ?_⟩)))
    (case l46 => first | k_is | rfl | decide +kernel | k_exc | kernel_rfl | (repeat (first | exact True.intro | refine ⟨⟨_, _, rfl, rfl⟩, ?_⟩)))
    (case c46 => first | k_is | rfl | decide +kernel | k_exc | kernel_rfl | (repeat (first | exact True.intro | refine ⟨⟨_, _, rfl, rfl⟩, ?_⟩)))
    (case k46 => first | k_is | rfl | decide +kernel | k_exc | kernel_rfl | (repeat (first | exact True.intro | refine ⟨⟨_, _, rfl, rfl⟩, ?_⟩)))
    (case l48 => first | k_is | rfl | decide +kernel | k_exc | kernel_rfl | (repeat (first | exact True.intro | refine ⟨⟨_, _, rfl, rfl⟩, ?_⟩)))
    (case c48 => first | k_is | rfl | decide +kernel | k_exc | kernel_rfl | (repeat (first | exact True.intro | refine ⟨⟨_, _, rfl, rfl⟩, ?_⟩)))
    (case k48 => first | k_is | rfl | decide +kernel | k_exc | kernel_rfl | (repeat (first | exact True.intro | refine ⟨⟨_, _, rfl, rfl⟩, ?_⟩)))
    (case l8 => first | k_is | rfl | decide +kernel | k_exc | kernel_rfl | (repeat (first | exact True.intro | refine ⟨⟨_, _, rfl, rfl⟩, ?_⟩)))
    (case c8 => first | k_is | rfl | decide +kernel | k_exc | kernel_rfl | (repeat (first | exact True.intro | refine ⟨⟨_, _, rfl, rfl⟩, ?_⟩)))
    (case k8 => first | k_is | rfl | decide +kernel | k_exc | kernel_rfl | (repeat (first | exact True.intro | refine ⟨⟨_, _, rfl, rfl⟩, ?_⟩)))
    (case l44 => first | k_is | rfl | decide +kernel | k_exc | kernel_rfl | (repeat (first | exact True.intro | refine ⟨⟨_, _, rfl, rfl⟩, ?_⟩)))
    (case c44 => first | k_is | rfl | decide +kernel | k_exc | kernel_rfl | (repeat (first | exact True.intro | refine ⟨⟨_, _, rfl, rfl⟩, ?_⟩)))
    (case k44 => first | k_is | rfl | decide +kernel | k_exc | kernel_rfl | (repeat (first | exact True.intro | refine ⟨⟨_, _, rfl, rfl⟩, ?_⟩)))
    (case l5 => first | k_is | rfl | decide +kernel | k_exc | kernel_rfl | (repeat (first | exact True.intro | refine ⟨⟨_, _, rfl, rfl⟩, ?_⟩)))
    (case c5 => first | k_is | rfl | decide +kernel | k_exc | kernel_rfl | (repeat (first | exact True.intro | refine ⟨⟨_, _, rfl, rfl⟩, ?_⟩)))
    (case k5 => first | k_is | rfl | decide +kernel | k_exc | kernel_rfl | (repeat (first | exact True.intro | refine ⟨⟨_, _, rfl, rfl⟩, ?_⟩)))
    (case l6 => first | k_is | rfl | decide +kernel | k_exc | kernel_rfl | (repeat (first | exact True.intro | refine ⟨⟨_, _, rfl, rfl⟩, ?_⟩)))
    (case c6 => first | k_is | rfl | decide +kernel | k_exc | kernel_rfl | (repeat (first | exact True.intro | refine ⟨⟨_, _, rfl, rfl⟩, ?_⟩)))
    (case k6 => first | k_is | rfl | decide +kernel | k_exc | kernel_rfl | (repeat (first | exact True.intro | refine ⟨⟨_, _, rfl, rfl⟩, ?_⟩)))
    (case l12 => first | k_is | rfl | decide +kernel | k_exc | kernel_rfl | (repeat (first | exact True.intro | refine ⟨⟨_, _, rfl, rfl⟩, ?_⟩)))
    (case c12 => first | k_is | rfl | decide +kernel | k_exc | kernel_rfl | (repeat (first | exact True.intro | refine ⟨⟨_, _, rfl, rfl⟩, ?_⟩)))
    (case k12 => first | k_is | rfl | decide +kernel | k_exc | kernel_rfl | (repeat (first | exact True.intro | refine ⟨⟨_, _, rfl, rfl⟩, ?_⟩)))
    (case l13 => first | k_is | rfl | decide +kernel | k_exc | kernel_rfl | (repeat (first | exact True.intro | refine ⟨⟨_, _, rfl, rfl⟩, ?_⟩)))
    (case c13 => first | k_is | rfl | decide +kernel | k_exc | kernel_rfl | (repeat (first | exact True.intro | refine ⟨⟨_, _, rfl, rfl⟩, ?_⟩)))
    (case k13 => first | k_is | rfl | decide +kernel | k_exc | kernel_rfl | (repeat (first | exact True.intro | refine ⟨⟨_, _, rfl, rfl⟩, ?_⟩)))
    (case l14 => first | k_is | rfl | decide +kernel | k_exc | kernel_rfl | (repeat (first | exact True.intro | refine ⟨⟨_, _, rfl, rfl⟩, ?_⟩)))
    (case c14 => first | k_is | rfl | decide +kernel | k_exc | kernel_rfl | (repeat (first | exact True.intro | refine ⟨⟨_, _, rfl, rfl⟩, ?_⟩)))
    (case k14 => first | k_is | rfl | decide +kernel | k_exc | kernel_rfl | (repeat (first | exact True.intro | refine ⟨⟨_, _, rfl, rfl⟩, ?_⟩)))
    (case l41 => first | k_is | rfl | decide +kernel | k_exc | kernel_rfl | (repeat (first | exact True.intro | refine ⟨⟨_, _, rfl, rfl⟩, ?_⟩)))
    (case c41 => first | k_is | rfl | decide +kernel | k_exc | kernel_rfl | (repeat (first | exact True.intro | refine ⟨⟨_, _, rfl, rfl⟩, ?_⟩)))
    (case k41 => first | k_is | rfl | decide +kernel | k_exc | kernel_rfl | (repeat (first | exact True.intro | refine ⟨⟨_, _, rfl, rfl⟩, ?_⟩)))
    (case l47 => first | k_is | rfl | decide +kernel | k_exc | kernel_rfl | (repeat (first | exact True.intro | refine ⟨⟨_, _, rfl, rfl⟩, ?_⟩)))
    (case c47 => first | k_is | rfl | decide +kernel | k_exc | kernel_rfl | (repeat (first | exact True.intro | refine ⟨⟨_, _, rfl, rfl⟩, ?_⟩)))
    (case k47 => first | k_is | rfl | decide +kernel | k_exc | kernel_rfl | (repeat (first | exact True.intro | refine ⟨⟨_, _, rfl, rfl⟩, ?_⟩)))
    (case l50 => first | k_is | rfl | decide +kernel | k_exc | kernel_rfl | (repeat (first | exact True.intro | refine ⟨⟨_, _, rfl, rfl⟩, ?_⟩)))
    (case c50 => first | k_is | rfl | decide +kernel | k_exc | kernel_rfl | (repeat (first | exact True.intro | refine ⟨⟨_, _, rfl, rfl⟩, ?_⟩)))
    (case k50 => first | k_is | rfl | decide +kernel | k_exc | kernel_rfl | (repeat (first | exact True.intro | refine ⟨⟨_, _, rfl, rfl⟩, ?_⟩)))
    (case l51 => first | k_is | rfl | decide +kernel | k_exc | kernel_rfl | (repeat (first | exact True.intro | refine ⟨⟨_, _, rfl, rfl⟩, ?_⟩)))
    (case c51 => first | k_is | rfl | decide +kernel | k_exc | kernel_rfl | (repeat (first | exact True.intro | refine ⟨⟨_, _, rfl, rfl⟩, ?_⟩)))
    (case k51 => first | k_is | rfl | decide +kernel | k_exc | kernel_rfl | (repeat (first | exact True.intro | refine ⟨⟨_, _, rfl, rfl⟩, ?_⟩)))
    (case l49 => first | k_is | rfl | decide +kernel | k_exc | kernel_rfl | (repeat (first | exact True.intro | refine ⟨⟨_, _, rfl, rfl⟩, ?_⟩)))
    (case c49 => first | k_is | rfl | decide +kernel | k_exc | kernel_rfl | (repeat (first | exact True.intro | refine ⟨⟨_, _, rfl, rfl⟩, ?_⟩)))
    (case k49 => first | k_is | rfl | decide +kernel | k_exc | kernel_rfl | (repeat (first | exact True.intro | refine ⟨⟨_, _, rfl, rfl⟩, ?_⟩)))
    (case zb_ValueError => first | k_is | rfl | decide +kernel | k_exc | kernel_rfl | (repeat (first | exact True.intro | refine ⟨⟨_, _, rfl, rfl⟩, ?_⟩)))
    (case zb_all => first | k_is | rfl | decide +kernel | k_exc | kernel_rfl | (repeat (first | exact True.intro | refine ⟨⟨_, _, rfl, rfl⟩, ?_⟩)))
    (case zb_bool => first | k_is | rfl | decide +kernel | k_exc | kernel_rfl | (repeat (first | exact True.intro | refine ⟨⟨_, _, rfl, rfl⟩, ?_⟩)))
    (case zb_enumerate => first | k_is | rfl | decide +kernel | k_exc | kernel_rfl | (repeat (first | exact True.intro | refine ⟨⟨_, _, rfl, rfl⟩, ?_⟩)))
    (case zb_int => first | k_is | rfl | decide +kernel | k_exc | kernel_rfl | (repeat (first | exact True.intro | refine ⟨⟨_, _, rfl, rfl⟩, ?_⟩)))
    (case zb_isinstance => first | k_is | rfl | decide +kernel | k_exc | kernel_rfl | (repeat (first | exact True.intro | refine ⟨⟨_, _, rfl, rfl⟩, ?_⟩)))
    (case zb_len => first | k_is | rfl | decide +kernel | k_exc | kernel_rfl | (repeat (first | exact True.intro | refine ⟨⟨_, _, rfl, rfl⟩, ?_⟩)))
    (case zb_list => first | k_is | rfl | decide +kernel | k_exc | kernel_rfl | (repeat (first | exact True.intro | refine ⟨⟨_, _, rfl, rfl⟩, ?_⟩)))
    (case zb_range => first | k_is | rfl | decide +kernel | k_exc | kernel_rfl | (repeat (first | exact True.intro | refine ⟨⟨_, _, rfl, rfl⟩, ?_⟩)))
    (case zb_sorted => first | k_is | rfl | decide +kernel | k_exc | kernel_rfl | (repeat (first | exact True.intro | refine ⟨⟨_, _, rfl, rfl⟩, ?_⟩)))
    (case zb_str => first | k_is | rfl | decide +kernel | k_exc | kernel_rfl | (repeat (first | exact True.intro | refine ⟨⟨_, _, rfl, rfl⟩, ?_⟩)))
    (case zb_tuple => first | k_is | rfl | decide +kernel | k_exc | kernel_rfl | (repeat (first | exact True.intro | refine ⟨⟨_, _, rfl, rfl⟩, ?_⟩)))
    (case zb_zip => first | k_is | rfl | decide +kernel | k_exc | kernel_rfl | (repeat (first | exact True.intro | refine ⟨⟨_, _, rfl, rfl⟩, ?_⟩)))
    (case zk_MOST_BLOCKS => first | k_is | rfl | decide +kernel | k_exc | kernel_rfl | (repeat (first | exact True.intro | refine ⟨⟨_, _, rfl, rfl⟩, ?_⟩)))
    (case zk_MOST_HANDED => first | k_is | rfl | decide +kernel | k_exc | kernel_rfl | (repeat (first | exact True.intro | refine ⟨⟨_, _, rfl, rfl⟩, ?_⟩)))
    (case zk_MOST_ROWS => first | k_is | rfl | decide +kernel | k_exc | kernel_rfl | (repeat (first | exact True.intro | refine ⟨⟨_, _, rfl, rfl⟩, ?_⟩)))
    (case zk_MOST_SINGLE => first | k_is | rfl | decide +kernel | k_exc | kernel_rfl | (repeat (first | exact True.intro | refine ⟨⟨_, _, rfl, rfl⟩, ?_⟩)))
    (case zk_MOST_SPAN => first | k_is | rfl | decide +kernel | k_exc | kernel_rfl | (repeat (first | exact True.intro | refine ⟨⟨_, _, rfl, rfl⟩, ?_⟩)))
    (case i28 => first | k_is | rfl | decide +kernel | k_exc | kernel_rfl | (repeat (first | exact True.intro | refine ⟨⟨_, _, rfl, rfl⟩, ?_⟩)))
    (case l28 => first | k_is | rfl | decide +kernel | k_exc | kernel_rfl | (repeat (first | exact True.intro | refine ⟨⟨_, _, rfl, rfl⟩, ?_⟩)))
    (case c28 => first | k_is | rfl | decide +kernel | k_exc | kernel_rfl | (repeat (first | exact True.intro | refine ⟨⟨_, _, rfl, rfl⟩, ?_⟩)))
    (case k28 => first | k_is | rfl | decide +kernel | k_exc | kernel_rfl | (repeat (first | exact True.intro | refine ⟨⟨_, _, rfl, rfl⟩, ?_⟩)))
    (case mk4 => first | k_is | rfl | decide +kernel | k_exc | kernel_rfl | (repeat (first | exact True.intro | refine ⟨⟨_, _, rfl, rfl⟩, ?_⟩)))
    (case kc4 => first | k_is | rfl | decide +kernel | k_exc | kernel_rfl | (repeat (first | exact True.intro | refine ⟨⟨_, _, rfl, rfl⟩, ?_⟩)))
    (case kd28_0 => first | k_is | rfl | decide +kernel | k_exc | kernel_rfl | (repeat (first | exact True.intro | refine ⟨⟨_, _, rfl, rfl⟩, ?_⟩)))
    (case pg4 => first | k_is | rfl | decide +kernel | k_exc | kernel_rfl | (repeat (first | exact True.intro | refine ⟨⟨_, _, rfl, rfl⟩, ?_⟩)))
    (case hd4 => first | k_is | rfl | decide +kernel | k_exc | kernel_rfl | (repeat (first | exact True.intro | refine ⟨⟨_, _, rfl, rfl⟩, ?_⟩)))
    (case po4 => first | k_is | rfl | decide +kernel | k_exc | kernel_rfl | (repeat (first | exact True.intro | refine ⟨⟨_, _, rfl, rfl⟩, ?_⟩)))
    (case sa4 => first | k_is | rfl | decide +kernel | k_exc | kernel_rfl | (repeat (first | exact True.intro | refine ⟨⟨_, _, rfl, rfl⟩, ?_⟩)))
    (case n4__definitions => first | k_is | rfl | decide +kernel | k_exc | kernel_rfl | (repeat (first | exact True.intro | refine ⟨⟨_, _, rfl, rfl⟩, ?_⟩)))
    (case n4__without => first | k_is | rfl | decide +kernel | k_exc | kernel_rfl | (repeat (first | exact True.intro | refine ⟨⟨_, _, rfl, rfl⟩, ?_⟩)))
    (case n4_blocks => first | k_is | rfl | decide +kernel | k_exc | kernel_rfl | (repeat (first | exact True.intro | refine ⟨⟨_, _, rfl, rfl⟩, ?_⟩)))
    (case n4_handed => first | k_is | rfl | decide +kernel | k_exc | kernel_rfl | (repeat (first | exact True.intro | refine ⟨⟨_, _, rfl, rfl⟩, ?_⟩)))
    (case n4_many => first | k_is | rfl | decide +kernel | k_exc | kernel_rfl | (repeat (first | exact True.intro | refine ⟨⟨_, _, rfl, rfl⟩, ?_⟩)))
    (case n4_span => first | k_is | rfl | decide +kernel | k_exc | kernel_rfl | (repeat (first | exact True.intro | refine ⟨⟨_, _, rfl, rfl⟩, ?_⟩)))
    (case icl1 => first | k_is | rfl | decide +kernel | k_exc | kernel_rfl | (repeat (first | exact True.intro | refine ⟨⟨_, _, rfl, rfl⟩, ?_⟩)))
    (case ga1 => first | k_is | rfl | decide +kernel | k_exc | kernel_rfl | (repeat (first | exact True.intro | refine ⟨⟨_, _, rfl, rfl⟩, ?_⟩)))
    (case gt1 => first | k_is | rfl | decide +kernel | k_exc | kernel_rfl | (repeat (first | exact True.intro | refine ⟨⟨_, _, rfl, rfl⟩, ?_⟩)))
    (case ex1 => first | k_is | rfl | decide +kernel | k_exc | kernel_rfl | (repeat (first | exact True.intro | refine ⟨⟨_, _, rfl, rfl⟩, ?_⟩)))
    (case ca1 => first | k_is | rfl | decide +kernel | k_exc | kernel_rfl | (repeat (first | exact True.intro | refine ⟨⟨_, _, rfl, rfl⟩, ?_⟩)))
    (case spc => first | k_is | rfl | decide +kernel | k_exc | kernel_rfl | (repeat (first | exact True.intro | refine ⟨⟨_, _, rfl, rfl⟩, ?_⟩)))
    (case tkc => first | k_is | rfl | decide +kernel | k_exc | kernel_rfl | (repeat (first | exact True.intro | refine ⟨⟨_, _, rfl, rfl⟩, ?_⟩)))
    (case mo1 => first | k_is | rfl | decide +kernel | k_exc | kernel_rfl | (repeat (first | exact True.intro | refine ⟨⟨_, _, rfl, rfl⟩, ?_⟩)))
    (case hd1 => first | k_is | rfl | decide +kernel | k_exc | kernel_rfl | (repeat (first | exact True.intro | refine ⟨⟨_, _, rfl, rfl⟩, ?_⟩)))
    (case np1 => first | k_is | rfl | decide +kernel | k_exc | kernel_rfl | (repeat (first | exact True.intro | refine ⟨⟨_, _, rfl, rfl⟩, ?_⟩)))
    (case tr0_BadSingle => first | k_is | rfl | decide +kernel | k_exc | kernel_rfl | (repeat (first | exact True.intro | refine ⟨⟨_, _, rfl, rfl⟩, ?_⟩)))
    (case tr1_BadSingle => first | k_is | rfl | decide +kernel | k_exc | kernel_rfl | (repeat (first | exact True.intro | refine ⟨⟨_, _, rfl, rfl⟩, ?_⟩)))
    (case tr2_BadSingle => first | k_is | rfl | decide +kernel | k_exc | kernel_rfl | (repeat (first | exact True.intro | refine ⟨⟨_, _, rfl, rfl⟩, ?_⟩)))
    (case em2 => first | k_is | rfl | decide +kernel | k_exc | kernel_rfl | (repeat (first | exact True.intro | refine ⟨⟨_, _, rfl, rfl⟩, ?_⟩)))
    (case kx2 => first | k_is | rfl | decide +kernel | k_exc | kernel_rfl | (repeat (first | exact True.intro | refine ⟨⟨_, _, rfl, rfl⟩, ?_⟩)))
    (case ex2 => first | k_is | rfl | decide +kernel | k_exc | kernel_rfl | (repeat (first | exact True.intro | refine ⟨⟨_, _, rfl, rfl⟩, ?_⟩)))
    (case ty2 => first | k_is | rfl | decide +kernel | k_exc | kernel_rfl | (repeat (first | exact True.intro | refine ⟨⟨_, _, rfl, rfl⟩, ?_⟩)))
    (case em3 => first | k_is | rfl | decide +kernel | k_exc | kernel_rfl | (repeat (first | exact True.intro | refine ⟨⟨_, _, rfl, rfl⟩, ?_⟩)))
    (case kx3 => first | k_is | rfl | decide +kernel | k_exc | kernel_rfl | (repeat (first | exact True.intro | refine ⟨⟨_, _, rfl, rfl⟩, ?_⟩)))
    (case ex3 => first | k_is | rfl | decide +kernel | k_exc | kernel_rfl | (repeat (first | exact True.intro | refine ⟨⟨_, _, rfl, rfl⟩, ?_⟩)))
    (case ty3 => first | k_is | rfl | decide +kernel | k_exc | kernel_rfl | (repeat (first | exact True.intro | refine ⟨⟨_, _, rfl, rfl⟩, ?_⟩)))
    (case i39 => first | k_is | rfl | decide +kernel | k_exc | kernel_rfl | (repeat (first | exact True.intro | refine ⟨⟨_, _, rfl, rfl⟩, ?_⟩)))
    (case i36 => first | k_is | rfl | decide +kernel | k_exc | kernel_rfl | (repeat (first | exact True.intro | refine ⟨⟨_, _, rfl, rfl⟩, ?_⟩)))
    (case i38 => first | k_is | rfl | decide +kernel | k_exc | kernel_rfl | (repeat (first | exact True.intro | refine ⟨⟨_, _, rfl, rfl⟩, ?_⟩)))
    (case i33 => first | k_is | rfl | decide +kernel | k_exc | kernel_rfl | (repeat (first | exact True.intro | refine ⟨⟨_, _, rfl, rfl⟩, ?_⟩)))
    (case pgt37 => first | k_is | rfl | decide +kernel | k_exc | kernel_rfl | (repeat (first | exact True.intro | refine ⟨⟨_, _, rfl, rfl⟩, ?_⟩)))
    (case ptk37 => first | k_is | rfl | decide +kernel | k_exc | kernel_rfl | (repeat (first | exact True.intro | refine ⟨⟨_, _, rfl, rfl⟩, ?_⟩)))
    (case i29 => first | k_is | rfl | decide +kernel | k_exc | kernel_rfl | (repeat (first | exact True.intro | refine ⟨⟨_, _, rfl, rfl⟩, ?_⟩)))
    (case ne4 => first | k_is | rfl | decide +kernel | k_exc | kernel_rfl | (repeat (first | exact True.intro | refine ⟨⟨_, _, rfl, rfl⟩, ?_⟩)))
    (case mo4 => first | k_is | rfl | decide +kernel | k_exc | kernel_rfl | (repeat (first | exact True.intro | refine ⟨⟨_, _, rfl, rfl⟩, ?_⟩)))
    (case i30 => first | k_is | rfl | decide +kernel | k_exc | kernel_rfl | (repeat (first | exact True.intro | refine ⟨⟨_, _, rfl, rfl⟩, ?_⟩)))
    (case ga2 => first | k_is | rfl | decide +kernel | k_exc | kernel_rfl | (repeat (first | exact True.intro | refine ⟨⟨_, _, rfl, rfl⟩, ?_⟩)))
    (case gt2 => first | k_is | rfl | decide +kernel | k_exc | kernel_rfl | (repeat (first | exact True.intro | refine ⟨⟨_, _, rfl, rfl⟩, ?_⟩)))
    (case hd2 => first | k_is | rfl | decide +kernel | k_exc | kernel_rfl | (repeat (first | exact True.intro | refine ⟨⟨_, _, rfl, rfl⟩, ?_⟩)))
    (case ca2 => first | k_is | rfl | decide +kernel | k_exc | kernel_rfl | (repeat (first | exact True.intro | refine ⟨⟨_, _, rfl, rfl⟩, ?_⟩)))
    (case mo2 => first | k_is | rfl | decide +kernel | k_exc | kernel_rfl | (repeat (first | exact True.intro | refine ⟨⟨_, _, rfl, rfl⟩, ?_⟩)))
    (case wd0_BadBlock => first | k_is | rfl | decide +kernel | k_exc | kernel_rfl | (repeat (first | exact True.intro | refine ⟨⟨_, _, rfl, rfl⟩, ?_⟩)))
    (case wd1_BadBlock => first | k_is | rfl | decide +kernel | k_exc | kernel_rfl | (repeat (first | exact True.intro | refine ⟨⟨_, _, rfl, rfl⟩, ?_⟩)))
    (case wd2_BadBlock => first | k_is | rfl | decide +kernel | k_exc | kernel_rfl | (repeat (first | exact True.intro | refine ⟨⟨_, _, rfl, rfl⟩, ?_⟩)))
    (case ga3 => first | k_is | rfl | decide +kernel | k_exc | kernel_rfl | (repeat (first | exact True.intro | refine ⟨⟨_, _, rfl, rfl⟩, ?_⟩)))
    (case gt3 => first | k_is | rfl | decide +kernel | k_exc | kernel_rfl | (repeat (first | exact True.intro | refine ⟨⟨_, _, rfl, rfl⟩, ?_⟩)))
    (case hd3 => first | k_is | rfl | decide +kernel | k_exc | kernel_rfl | (repeat (first | exact True.intro | refine ⟨⟨_, _, rfl, rfl⟩, ?_⟩)))
    (case ca3 => first | k_is | rfl | decide +kernel | k_exc | kernel_rfl | (repeat (first | exact True.intro | refine ⟨⟨_, _, rfl, rfl⟩, ?_⟩)))
    (case mo3 => first | k_is | rfl | decide +kernel | k_exc | kernel_rfl | (repeat (first | exact True.intro | refine ⟨⟨_, _, rfl, rfl⟩, ?_⟩)))
    (case wd0_BadVariable => first | k_is | rfl | decide +kernel | k_exc | kernel_rfl | (repeat (first | exact True.intro | refine ⟨⟨_, _, rfl, rfl⟩, ?_⟩)))
    (case wd1_BadVariable => first | k_is | rfl | decide +kernel | k_exc | kernel_rfl | (repeat (first | exact True.intro | refine ⟨⟨_, _, rfl, rfl⟩, ?_⟩)))
    (case wd2_BadVariable => first | k_is | rfl | decide +kernel | k_exc | kernel_rfl | (repeat (first | exact True.intro | refine ⟨⟨_, _, rfl, rfl⟩, ?_⟩)))
    (case kt4_NoneType => first | k_is | rfl | decide +kernel | k_exc | kernel_rfl | (repeat (first | exact True.intro | refine ⟨⟨_, _, rfl, rfl⟩, ?_⟩)))
    (case kt4_bool => first | k_is | rfl | decide +kernel | k_exc | kernel_rfl | (repeat (first | exact True.intro | refine ⟨⟨_, _, rfl, rfl⟩, ?_⟩)))
    (case kt4_int => first | k_is | rfl | decide +kernel | k_exc | kernel_rfl | (repeat (first | exact True.intro | refine ⟨⟨_, _, rfl, rfl⟩, ?_⟩)))
    (case kt4_str => first | k_is | rfl | decide +kernel | k_exc | kernel_rfl | (repeat (first | exact True.intro | refine ⟨⟨_, _, rfl, rfl⟩, ?_⟩)))
    (case kt4_tuple => first | k_is | rfl | decide +kernel | k_exc | kernel_rfl | (repeat (first | exact True.intro | refine ⟨⟨_, _, rfl, rfl⟩, ?_⟩)))
    (case kt4_list => first | k_is | rfl | decide +kernel | k_exc | kernel_rfl | (repeat (first | exact True.intro | refine ⟨⟨_, _, rfl, rfl⟩, ?_⟩)))
    (case kt4_dict => first | k_is | rfl | decide +kernel | k_exc | kernel_rfl | (repeat (first | exact True.intro | refine ⟨⟨_, _, rfl, rfl⟩, ?_⟩)))
    (case ca4 => first | k_is | rfl | decide +kernel | k_exc | kernel_rfl | (repeat (first | exact True.intro | refine ⟨⟨_, _, rfl, rfl⟩, ?_⟩)))
    (case kk4_4 => first | k_is | rfl | decide +kernel | k_exc | kernel_rfl | (repeat (first | exact True.intro | refine ⟨⟨_, _, rfl, rfl⟩, ?_⟩)))
    (case xL1 => first | k_is | rfl | decide +kernel | k_exc | kernel_rfl | (repeat (first | exact True.intro | refine ⟨⟨_, _, rfl, rfl⟩, ?_⟩)))
    (case sx1 => first | k_is | rfl | decide +kernel | k_exc | kernel_rfl | (repeat (first | exact True.intro | refine ⟨⟨_, _, rfl, rfl⟩, ?_⟩)))
    (case iC1 => first | k_is | rfl | decide +kernel | k_exc | kernel_rfl | (repeat (first | exact True.intro | refine ⟨⟨_, _, rfl, rfl⟩, ?_⟩)))
    (case tI1 => first | k_is | rfl | decide +kernel | k_exc | kernel_rfl | (repeat (first | exact True.intro | refine ⟨⟨_, _, rfl, rfl⟩, ?_⟩)))
    (case kx1 => first | k_is | rfl | decide +kernel | k_exc | kernel_rfl | (repeat (first | exact True.intro | refine ⟨⟨_, _, rfl, rfl⟩, ?_⟩)))
    (case ty1 => first | k_is | rfl | decide +kernel | k_exc | kernel_rfl | (repeat (first | exact True.intro | refine ⟨⟨_, _, rfl, rfl⟩, ?_⟩)))
    (case sv1 => first | k_is | rfl | decide +kernel | k_exc | kernel_rfl | (repeat (first | exact True.intro | refine ⟨⟨_, _, rfl, rfl⟩, ?_⟩)))
    (case su1 => first | k_is | rfl | decide +kernel | k_exc | kernel_rfl | (repeat (first | exact True.intro | refine ⟨⟨_, _, rfl, rfl⟩, ?_⟩)))
    (case mc1 => first | k_is | rfl | decide +kernel | k_exc | kernel_rfl | (repeat (first | exact True.intro | refine ⟨⟨_, _, rfl, rfl⟩, ?_⟩)))
    (case opq => first | k_is | rfl | decide +kernel | k_exc | kernel_rfl | (repeat (first | exact True.intro | refine ⟨⟨_, _, rfl, rfl⟩, ?_⟩)))
    (case zsup => first | k_is | rfl | decide +kernel | k_exc | kernel_rfl | (repeat (first | exact True.intro | refine ⟨⟨_, _, rfl, rfl⟩, ?_⟩)))
    (case lI1 => first | k_is | rfl | decide +kernel | k_exc | kernel_rfl | (repeat (first | exact True.intro | refine ⟨⟨_, _, rfl, rfl⟩, ?_⟩)))
    (case cI1 => first | k_is | rfl | decide +kernel | k_exc | kernel_rfl | (repeat (first | exact True.intro | refine ⟨⟨_, _, rfl, rfl⟩, ?_⟩)))
    (case lc1 => first | k_is | rfl | decide +kernel | k_exc | kernel_rfl | (repeat (first | exact True.intro | refine ⟨⟨_, _, rfl, rfl⟩, ?_⟩)))
    (case hv1 => first | k_is | rfl | decide +kernel | k_exc | kernel_rfl | (repeat (first | exact True.intro | refine ⟨⟨_, _, rfl, rfl⟩, ?_⟩)))
    (case hf1 => first | k_is | rfl | decide +kernel | k_exc | kernel_rfl | (repeat (first | exact True.intro | refine ⟨⟨_, _, rfl, rfl⟩, ?_⟩)))
    (case le1 => first | k_is | rfl | decide +kernel | k_exc | kernel_rfl | (repeat (first | exact True.intro | refine ⟨⟨_, _, rfl, rfl⟩, ?_⟩)))
    (case lT1 => first | k_is | rfl | decide +kernel | k_exc | kernel_rfl | (repeat (first | exact True.intro | refine ⟨⟨_, _, rfl, rfl⟩, ?_⟩)))
    (case oT1' => first | k_is | rfl | decide +kernel | k_exc | kernel_rfl | (repeat (first | exact True.intro | refine ⟨⟨_, _, rfl, rfl⟩, ?_⟩)))
    (case htop => first | k_is | rfl | decide +kernel | k_exc | kernel_rfl | (repeat (first | exact True.intro | refine ⟨⟨_, _, rfl, rfl⟩, ?_⟩)))
    (case at_ENDS => first | k_is | rfl | decide +kernel | k_exc | kernel_rfl | (repeat (first | exact True.intro | refine ⟨⟨_, _, rfl, rfl⟩, ?_⟩)))
    (case lt_ENDS => first | k_is | rfl | decide +kernel | k_exc | kernel_rfl | (repeat (first | exact True.intro | refine ⟨⟨_, _, rfl, rfl⟩, ?_⟩)))
    (case kl_ENDS => first | k_is | rfl | decide +kernel | k_exc | kernel_rfl | (repeat (first | exact True.intro | refine ⟨⟨_, _, rfl, rfl⟩, ?_⟩)))
    (case lo_ENDS => first | k_is | rfl | decide +kernel | k_exc | kernel_rfl | (repeat (first | exact True.intro | refine ⟨⟨_, _, rfl, rfl⟩, ?_⟩)))
    (case ok_ENDS => first | k_is | rfl | decide +kernel | k_exc | kernel_rfl | (repeat (first | exact True.intro | refine ⟨⟨_, _, rfl, rfl⟩, ?_⟩)))
    (case at_ROWS => first | k_is | rfl | decide +kernel | k_exc | kernel_rfl | (repeat (first | exact True.intro | refine ⟨⟨_, _, rfl, rfl⟩, ?_⟩)))
    (case lt_ROWS => first | k_is | rfl | decide +kernel | k_exc | kernel_rfl | (repeat (first | exact True.intro | refine ⟨⟨_, _, rfl, rfl⟩, ?_⟩)))
    (case kl_ROWS => first | k_is | rfl | decide +kernel | k_exc | kernel_rfl | (repeat (first | exact True.intro | refine ⟨⟨_, _, rfl, rfl⟩, ?_⟩)))
    (case lo_ROWS => first | k_is | rfl | decide +kernel | k_exc | kernel_rfl | (repeat (first | exact True.intro | refine ⟨⟨_, _, rfl, rfl⟩, ?_⟩)))
    (case ok_ROWS => first | k_is | rfl | decide +kernel | k_exc | kernel_rfl | (repeat (first | exact True.intro | refine ⟨⟨_, _, rfl, rfl⟩, ?_⟩)))
    (case lLaw => first | k_is | rfl | decide +kernel | k_exc | kernel_rfl | (repeat (first | exact True.intro | refine ⟨⟨_, _, rfl, rfl⟩, ?_⟩)))
    (case cLaw => first | k_is | rfl | decide +kernel | k_exc | kernel_rfl | (repeat (first | exact True.intro | refine ⟨⟨_, _, rfl, rfl⟩, ?_⟩)))
    (case nLaw => first | k_is | rfl | decide +kernel | k_exc | kernel_rfl | (repeat (first | exact True.intro | refine ⟨⟨_, _, rfl, rfl⟩, ?_⟩)))
    (case hLaw => first | k_is | rfl | decide +kernel | k_exc | kernel_rfl | (repeat (first | exact True.intro | refine ⟨⟨_, _, rfl, rfl⟩, ?_⟩)))
#print axioms PySem.Challenge.cw_registerrooms_k15_whole_refused_single_holds
